import PyProof.Rows.All
import Wide.All
import OpenK.AllK
import Wide.FinOn
import Lean
import PyProof.EqAt
import PyProof.EqKinds
import PyProof.TupleCall
import PySem.Challenge.RW_glazework_k81_exchanged
set_option compiler.extract_closed false
noncomputable section
set_option Elab.async false
set_option linter.all false
set_option maxRecDepth 100000
theorem xbo{α β:Type}{o:Option α}{f:α->Option β}{b:β}(h:o.bind f=some b):∃a,o=some a/\f a=some b:=Option.bind_eq_some_iff.mp h
theorem xmo{α β:Type}{o:Option α}{f:α->β}{b:β}(h:o.map f=some b):∃a,o=some a/\f a=b:=Option.map_eq_some_iff.mp h
theorem xmm{α:Type}{a:α}{l:List α}(b:α)(h:a∈l):a∈b::l:=List.mem_cons_of_mem b h
namespace L2
open PySem PySem.Spec PyProof.Rows
noncomputable abbrev Key:=Sum Int Str
noncomputable def as5:Key->Value->Bool
 | .inl k,v=>Value.isInt k v
 | .inr x,v=>Value.isStrOf x v
noncomputable def cl5(w:World):Key->Int
 | .inl k=>hashInt k
 | .inr x=>hashStr w x
theorem J8:∀{k:Key}{v:Value},as5 k v=true->(∃i t,k=Sum.inl i/\v=Value.int i t)\/(∃x t,k=Sum.inr x/\v=Value.str x t)
 | .inl i,v,h=>by
  obtain⟨t,e⟩:=Value.isInt_shape (k:=i) (v:=v) h
  exact .inl ⟨i,t,rfl,e⟩
 | .inr x,v,h=>by
  obtain⟨t,e⟩:=Value.isStrOf_shape (x:=x) (v:=v) h
  exact .inr ⟨x,t,rfl,e⟩
theorem aW4(i:Int) (t:Tok):as5 (.inl i) (.int i t)=true:=by simp[as5,Value.isInt]
theorem aW3(x:Str) (t:Tok):as5 (.inr x) (.str x t)=true:=by simp[as5,Value.isStrOf]
theorem bP0(a b:Int):decide ((Sum.inl a:Key)=Sum.inl b)=(a==b):=by
 by_cases e:a=b
 ·subst e;simp
 ·have h:¬(Sum.inl a:Key)=Sum.inl b:=fun q=>e (Sum.inl.inj q)
  rw[decide_eq_false h]
  exact(beq_eq_false_iff_ne.mpr e).symm
theorem bi8(a b:Str):decide ((Sum.inr a:Key)=Sum.inr b)=decide (a=b):=by
 by_cases e:a=b
 ·subst e;simp
 ·have h:¬(Sum.inr a:Key)=Sum.inr b:=fun q=>e (Sum.inr.inj q)
  rw[decide_eq_false h,decide_eq_false e]
theorem bO9(a:Int) (b:Str):decide ((Sum.inl a:Key)=Sum.inr b)=false:=decide_eq_false (fun q=>nomatch q)
theorem bO8(a:Str) (b:Int):decide ((Sum.inr a:Key)=Sum.inl b)=false:=decide_eq_false (fun q=>nomatch q)
noncomputable def E5(prog:Program) (w:World):PySem.KeyKind prog w Key where
 is:=as5
 hash:=cl5 w
 inj:=fun v a b ha hb=>by
  rcases J8 ha with⟨i,t,rfl,rfl⟩|⟨x,t,rfl,rfl⟩
  ·rcases J8 hb with⟨j,u,rfl,e⟩|⟨y,u,rfl,e⟩
   ·injection e with e1 _;rw[e1]
   ·exact nomatch e
  ·rcases J8 hb with⟨j,u,rfl,e⟩|⟨y,u,rfl,e⟩
   ·exact nomatch e
   ·injection e with e1 _;rw[e1]
 byValue:=fun k v h=>by rcases J8 h with⟨i,t,rfl,rfl⟩|⟨x,t,rfl,rfl⟩<;>rfl
 pyHash:=fun hv h=>by
  rcases J8 hv with⟨i,t,rfl,rfl⟩|⟨x,t,rfl,rfl⟩
  ·exact wpAny_pyHash_int h
  ·exact wpAny_pyHash_str h
 eqBool:=fun hu hv h=>by
  rcases J8 hu with⟨i,t,rfl,rfl⟩|⟨x,t,rfl,rfl⟩
  ·rcases J8 hv with⟨j,u,rfl,rfl⟩|⟨y,u,rfl,rfl⟩
   ·rw[bP0]at h;exact wpAny_eqBool_int h
   ·rw[bO9]at h;exact SeqAt.EqAt.int_str i t y u _ _ _ _ h
  ·rcases J8 hv with⟨j,u,rfl,rfl⟩|⟨y,u,rfl,rfl⟩
   ·rw[bO8]at h;exact SeqAt.EqAt.str_int x t j u _ _ _ _ h
   ·rw[bi8]at h;exact wpAny_eqBool_str h
 «strs»:=fun k x t v h=>by
  rcases J8 h with⟨i,u,rfl,e⟩|⟨y,u,rfl,e⟩
  ·exact nomatch e
  ·injection e with e1 _
   subst e1
   cases v<;>rfl
theorem aC9(prog:Program) (w:World) (i:Int) (t:Tok):(E5 prog w).is (.inl i) (.int i t)=true:=aW4 i t
theorem ah0(prog:Program) (w:World) (x:Str) (t:Tok):(E5 prog w).is (.inr x) (.str x t)=true:=aW3 x t
inductive V where
 | non|bl (b:Bool)|int (i:Int)|str (x:Str)|byt (b:Array UInt8)|flt (b:UInt64)|ref (a:Addr)|ty (n:String)
 deriving DecidableEq
noncomputable def D3:V->Value->Prop
 | .non,u=>u=Value.none
 | .bl b,u=>u=Value.bool b
 | .int i,u=>∃t,u=Value.int i t
 | .str x,u=>∃t,u=Value.str x t
 | .byt b,u=>∃t,u=Value.bytes b t
 | .flt b,u=>∃t,u=Value.float b t
 | .ref a,u=>u=Value.ref a
 | .ty n,u=>u=Value.type n
noncomputable abbrev D5:List V->List Value->Prop:=Paired D3
theorem D5.length{xs:List V}{us:List Value}(r:D5 xs us):xs.length=us.length:=Paired.length r
theorem D5.get:∀{xs:List V}{us:List Value}{i:Nat}{x:V},D5 xs us->xs[i]? = some x->∃u,us[i]? = some u/\D3 x u
 | _,_,_,_,.nil,e=>by simp at e
 | _,_,0,_,.cons r _,e=>by simp at e;subst e;exact⟨_,rfl,r⟩
 | _,_,i+1,x,.cons _ t,e=>by
  obtain⟨u,h1,h2⟩:=D5.get (i:=i) (x:=x) t (by simpa using e)
  exact⟨u,by simpa using h1,h2⟩
theorem D5.append:∀{xs ys:List V}{us ws:List Value},D5 xs us->D5 ys ws->D5 (xs++ys) (us++ws)
 | _,_,_,_,.nil,s=>s
 | _,_,_,_,.cons r t,s=>.cons r (D5.append t s)
theorem D5.take:∀{xs:List V}{us:List Value}(n:Nat),D5 xs us->D5 (xs.take n) (us.take n)
 | _,_,0,_=>.nil
 | _,_,_+1,.nil=>.nil
 | _,_,n+1,.cons r t=>.cons r (D5.take n t)
theorem D5.drop:∀{xs:List V}{us:List Value}(n:Nat),D5 xs us->D5 (xs.drop n) (us.drop n)
 | _,_,0,r=>r
 | _,_,_+1,.nil=>.nil
 | _,_,n+1,.cons _ t=>D5.drop n t
noncomputable def aj2:Option V->Option Value->Prop
 | some v,some u=>D3 v u
 | none,none=>True
 | _,_=>False
noncomputable def KV{κ:Type}:List (κ×V)->List (κ×Value)->Prop:=Paired fun(p:κ×V) (q:κ×Value)=>p.1=q.1/\D3 p.2 q.2
noncomputable def kV:Key->V
 | .inl i=>.int i
 | .inr x=>.str x
inductive HO where
 /-- a list -/
 | lst (xs:List V)
 /-- a tuple (never changes) -/
 | tup (xs:List V)
 /-- a dict whose keys are ints and texts;one whose keys are tuples of ints and texts (the empty one is both) -/
 | dK (kvs:List (Key×V))|dT (kvs:List (List Key×V))
 /-- a set of ints: its members,its size -/
 | set (S:Int->Bool) (n:Nat)
 /-- an instance of the class at C,its dict at dx,its attributes -/
 | ins (C dx:Addr) (fs:List (Str×V))
 /-- the dict of the instance at x -/
 | own (x:Addr)
 /-- the dict of an exception -/
 | xd (fs:List (Str×V))
 /-- a bound method,f of x -/
 | met (f x:Addr)
 /-- a range object lo,lo+1,.. below hi -/
 | rng (lo hi:Int)
 /-- a thing that is known to the object (the script;a dict while a loop walks it): read,never written while it is so -/
 | frz (o:Obj) (u:HO)
 /-- a code object's table -/
 | tbl (ps:Array Value)
 /-- any other thing,by what is true of its one object (a def of one's own: SetO a S n:=HO.ext fun h=>..) -/
 | ext (φ:Heap->Prop)
noncomputable abbrev Hp:=Addr->Option HO
noncomputable def upd(H:Hp) (a:Addr) (o:HO):Hp:=fun b=>if b=a then some o else H b
theorem C1{H:Hp}{a:Addr}{o:HO}:upd H a o a=some o:=by unfold upd;rw[if_pos rfl]
theorem D4{H:Hp}{a b:Addr}{o:HO}(h:b≠a):upd H a o b=H b:=by unfold upd;rw[if_neg h]
theorem br7{H:Hp}{a:Addr}{o u:HO}:upd (upd H a o) a u=upd H a u:=by funext b;unfold upd;split<;>rfl
theorem D8{H:Hp}{a b:Addr}{o:HO}(h:H a=some o) (h':H b=none):a≠b:=by intro e;subst e;rw[h]at h';cases h'
noncomputable def ao8(h:Heap) (a:Addr) (items:Array Value):Prop:=∃o,h.get? a=some o/\o.cls=.type "tuple" /\ (∃n,o.data=.seq items n)/\o.dict=none
theorem ao8.tup{h:Heap}{a:Addr}{items:Array Value}(p:ao8 h a items):IsTup h a items:=let⟨o,e,c,d,_⟩:=p;⟨o,e,c,d⟩
theorem ao8.new(h:Heap) (items:Array Value) (n:Nat:=0):ao8 (h.push { cls:=.type "tuple", data:=.seq items n }) h.objs.size items:=⟨_,Heap.get?_push_size _ rfl,rfl,⟨_,rfl⟩,rfl⟩
section
variable (P:Program) (w:World)
noncomputable def M5(H:Hp) (h:Heap) (a:Addr):HO->Prop
 | .lst xs=>xs.length<=sizeLine/\∃(its:List Value) (n:Nat),D5 xs its/\h.get? a=some { cls:=.type "list", data:=.seq its.toArray n }
 | .tup xs=>xs.length<=sizeLine/\∃its:List Value,D5 xs its/\ao8 h a its.toArray
 | .dK kvs=>kvs.length<=sizeLine/\(a==sysModules)=false/\∃vs,KV kvs vs/\h.DictOf (E5 P w) a vs
 | .dT kvs=>kvs.length<=sizeLine/\(a==sysModules)=false/\∃xs:List (List Key×Addr×Value),
   Paired (fun(p:List Key×V) (q:List Key×Addr×Value)=>p.1=q.1/\H q.2.1=some (.tup (p.1.map kV))/\D3 p.2 q.2.2) kvs xs /\
   ∃o es ep,h.get? a=some o/\o.ExactDict/\o.data=.dict es ep/\es.toList=xs.map (entryOfKey (tupleKind (E5 P w)))/\(xs.map (·.1)).Nodup
 | .set S n=>h.SetOf (intKind P w) a S n
 | .ins C dx fs=>H dx=some (.own a)/\fs.length<=1000/\dx≠a/\h.get? a=some (PySem.W.instObj C dx) /\
   ∃mA,h.Ns1 dx mA/\(∀f,aj2 (fs.lookup f) (mA f))/\PySem.Within mA (fs.map (·.1))
 | .own _=>∃o,h.get? a=some o
 | .xd fs=>∃mA,h.Ns1 a mA/\∀f,aj2 (fs.lookup f) (mA f)
 | .rng lo hi=>∃t u v,h.get? a=some { cls:=.type "range", data:=.fields #[.int lo t,.int hi u,.int 1 v] }
 | .frz o u=>h.get? a=some o/\M5 H h a u
 | .tbl ps=>h.get? a=some { cls:=.none,data:=.fields ps }
 | .met f x=>h.get? a=some (PySem.W.methodObj (.ref f) (.ref x))
 | .ext φ=>φ h/\(∃o,h.get? a=some o)/\∀h1 h2:Heap,φ h1->(∀o,h1.get? a=some o->h2.get? a=some o)->φ h2
noncomputable def HOk(H:Hp) (h:Heap):Prop:=∀a o,H a=some o->M5 P w H h a o
end
section
variable {P:Program}{w:World}{H H':Hp}{h h':Heap}{a:Addr}{o:HO}
theorem M5.lt(x:M5 P w H h a o):a < h.objs.size:=by
 cases o with
 | lst xs=>obtain⟨_,_,_,_,e⟩:=x;exact Heap.lt_size e
 | tup xs=>obtain⟨_,_,_,p⟩:=x;exact p.tup.lt
 | dK kvs=>obtain⟨_,_,_,_,o,_,_,e,_⟩:=x;exact Heap.lt_size e
 | dT kvs=>obtain⟨_,_,_,_,o,_,_,e,_⟩:=x;exact Heap.lt_size e
 | set S n=>obtain⟨o,_,_,_,e,_⟩:=x;exact Heap.lt_size e
 | ins C dx fs=>obtain⟨_,_,_,e,_⟩:=x;exact Heap.lt_size e
 | own y=>obtain⟨_,e⟩:=x;exact Heap.lt_size e
 | xd fs=>obtain⟨_,⟨_,_,_,e,_⟩,_⟩:=x;exact Heap.lt_size e
 | rng lo hi=>obtain⟨_,_,_,e⟩:=x;exact Heap.lt_size e
 | frz ob u=>obtain⟨e,_⟩:=x;exact Heap.lt_size e
 | tbl ps=>exact Heap.lt_size (show h.get? a=some _ from x)
 | met f y=>exact Heap.lt_size (show h.get? a=some _ from x)
 | ext φ=>obtain⟨_,⟨_,e⟩,_⟩:=x;exact Heap.lt_size e
theorem Paired.mapP{α β:Type}{F G:α->β->Prop}:∀{l₁:List α}{l₂:List β},Paired F l₁ l₂->(∀a b,F a b->G a b)->Paired G l₁ l₂
 | _,_,.nil,_=>.nil
 | _,_,.cons r t,f=>.cons (f _ _ r) (Paired.mapP t f)
theorem M5.stay(x:M5 P w H h a o) (k:∀b u,(b=a\/H b=some (.own a))->h.get? b=some u->h'.get? b=some u)
  (ho:∀b,H b=some (.own a)->H' b=some (.own a)) (ht:∀b xs,H b=some (.tup xs)->H' b=some (.tup xs)):M5 P w H' h' a o:=by
 induction o with
 | lst xs=>obtain⟨z,its,n,r,e⟩:=x;exact⟨z,its,n,r,k _ _ (.inl rfl) e⟩
 | tup xs=>obtain⟨z,its,r,ob,e,c⟩:=x;exact⟨z,its,r,ob,k _ _ (.inl rfl) e,c⟩
 | dK kvs=>obtain⟨z,y,vs,r,ob,es,ep,e,c⟩:=x;exact⟨z,y,vs,r,ob,es,ep,k _ _ (.inl rfl) e,c⟩
 | dT kvs =>
  obtain⟨z,y,xs,r,ob,es,ep,e,c⟩:=x
  exact⟨z,y,xs,Paired.mapP r fun p q z=>⟨z.1,ht _ _ z.2.1,z.2.2⟩,ob,es,ep,k _ _ (.inl rfl) e,c⟩
 | set S n=>obtain⟨ob,es,ep,t,e,c⟩:=x;exact⟨ob,es,ep,t,k _ _ (.inl rfl) e,c⟩
 | ins C dx fs =>
  obtain⟨d,z,ne,e,mA,⟨od,es,ep,e2,c⟩,r⟩:=x
  exact⟨ho _ d,z,ne,k _ _ (.inl rfl) e,mA,⟨od,es,ep,k _ _ (.inr d) e2,c⟩,r⟩
 | own y=>obtain⟨ob,e⟩:=x;exact⟨ob,k _ _ (.inl rfl) e⟩
 | xd fs=>obtain⟨mA,⟨od,es,ep,e,c⟩,r⟩:=x;exact⟨mA,⟨od,es,ep,k _ _ (.inl rfl) e,c⟩,r⟩
 | rng lo hi=>obtain⟨t,u,v,e⟩:=x;exact⟨t,u,v,k _ _ (.inl rfl) e⟩
 | frz ob u ih=>obtain⟨e,q⟩:=x;exact⟨k _ _ (.inl rfl) e,ih q⟩
 | tbl ps =>
  have e:h.get? a=some { cls:=.none,data:=.fields ps }:=x
  show h'.get? a=some { cls:=.none,data:=.fields ps }
  exact k a _ (.inl rfl) e
 | met f y =>
  have e:h.get? a=some (PySem.W.methodObj (.ref f) (.ref y)):=x
  show h'.get? a=some (PySem.W.methodObj (.ref f) (.ref y))
  exact k a _ (.inl rfl) e
 | ext φ=>obtain⟨p,⟨o,e⟩,st⟩:=x;exact⟨st _ _ p fun o q=>k _ _ (.inl rfl) q,⟨o,k _ _ (.inl rfl) e⟩,st⟩
theorem HOk.lt(x:HOk P w H h) (e:H a=some o):a < h.objs.size:=(x a o e).lt
theorem HOk.fresh(x:HOk P w H h) (e:h.objs.size<=a):H a=none:=by
 cases q:H a with
 | none=>rfl
 | some u=>exact absurd (Nat.lt_of_lt_of_le (x.lt q) e) (Nat.lt_irrefl _)
theorem HOk.kept(x:HOk P w H h) (k:∀b u,h.get? b=some u->h'.get? b=some u):HOk P w H h':=fun a o e =>(x a o e).stay (fun b u _ q=>k b u q) (fun _ q=>q) fun _ _ q=>q
theorem HOk.laid(x:HOk P w H h) (k:∀b u,h.get? b=some u->h'.get? b=some u) (hp:h.objs.size<=a) (new:M5 P w (upd H a o) h' a o):HOk P w (upd H a o) h':=fun b u e=>by
 have hn:=x.fresh hp
 by_cases hb:b=a
 ·subst hb;rw[C1]at e;cases e;exact new
 ·rw[D4 hb]at e
  exact(x b u e).stay (fun c v _ q=>k c v q) (fun c q=>by rw[D4 (D8 q hn)];exact q) fun c xs q=>by rw[D4 (D8 q hn)];exact q
end
noncomputable def Rd(H:Hp) (a:Addr) (u:HO):Prop:=H a=some u\/∃o,H a=some (.frz o u)
theorem Rd.ok{P:Program}{w:World}{H:Hp}{h:Heap}{a:Addr}{u:HO}(r:Rd H a u) (x:HOk P w H h):M5 P w H h a u:=by
 rcases r with r|⟨o,r⟩
 ·exact x a u r
 ·obtain⟨_,q⟩:=x a _ r
  exact q
noncomputable def Mut:Option HO->Prop
 | some (.lst _)=>True
 | some (.dK _)=>True
 | some (.dT _)=>True
 | some (.set _ _)=>True
 | some (.ins _ _ _)=>True
 | some (.ext _)=>True
 | _=>False
section
variable {P:Program}{w:World}{H:Hp}{h h':Heap}{x e:Addr}{o':HO}
theorem HOk.write(ok:HOk P w H h) (mu:Mut (H x)) (he:e=x\/H e=some (.own x)) (k:∀b u,b≠e->h.get? b=some u->h'.get? b=some u) (heo:∃u,h'.get? e=some u)
  (new:M5 P w (upd H x o') h' x o'):HOk P w (upd H x o') h':=fun b u q=>by
 have nown:∀c y,H c=some (.own y)->c≠x:=fun c y r z=>by subst z;rw[r]at mu;exact mu
 have ntup:∀c xs,H c=some (.tup xs)->c≠x:=fun c xs r z=>by subst z;rw[r]at mu;exact mu
 by_cases hb:b=x
 ·subst hb;rw[C1]at q;cases q;exact new
 ·rw[D4 hb]at q
  by_cases hbe:b=e
  ·have q':H b=some (.own x):=by
    rcases he with z|z
    ·exact absurd (hbe.trans z) hb
    ·rw[hbe];exact z
   rw[q]at q';cases q'
   obtain⟨v,hv⟩:=heo
   exact⟨v,by rw[hbe];exact hv⟩
  ·refine(ok b u q).stay (fun c v hc r=>k c v ?_ r) (fun c r=>by rw[D4 (nown c b r)];exact r) fun c xs r=>by rw[D4 (ntup c xs r)];exact r
   rcases hc with rfl|hc
   ·exact hbe
   ·rintro rfl
    rcases he with z|z
    ·exact nown c b hc z
    ·rw[hc]at z;cases z;exact hb rfl
end
structure Un (fs ex:List Addr) (H H':Hp) (h h':Heap):Prop where
 keep:∀b o,h.get? b=some o->H b=none->b∉fs->b∉ex->h'.get? b=some o
 slot:∀b o,h.get? b=some o->H b=none->b∈fs->b∉ex->∃sl,h'.get? b=some { o with slots:=sl }
 free:∀b o,h.get? b=some o->H b=none->b∉ex->H' b=none
 there:∀b o,h.get? b=some o->b∉ex->∃o',h'.get? b=some o'
 tups:∀b xs,H b=some (.tup xs)->H' b=some (.tup xs)
 frzs:∀b o u,H b=some (.frz o u)->H' b=some (.frz o u)
 tbls:∀b ps,H b=some (.tbl ps)->∃more,H' b=some (.tbl (ps++more))
section
variable {fs fs' ex ex':List Addr}{H H1 H2:Hp}{h h1 h2 h':Heap}{a x e:Addr}{o:HO}
theorem Un.any(u:Un fs ex H H1 h h1) {b:Addr}{ob:Obj}(q:h.get? b=some ob) (n:H b=none) (hx:b∉ex):∃sl,h1.get? b=some { ob with slots:=sl }:=by
 by_cases hb:b∈fs
 ·exact u.slot b ob q n hb hx
 ·exact⟨ob.slots,u.keep b ob q n hb hx⟩
theorem Un.kept(k:∀b u,h.get? b=some u->h'.get? b=some u):Un fs ex H H h h' :=
 ⟨fun b ob q _ _ _=>k b ob q,fun b ob q _ _ _=>⟨ob.slots,k b ob q⟩,fun _ _ _ n _=>n,fun b ob q _=>⟨ob,k b ob q⟩,fun _ _ q=>q,fun _ _ _ q=>q,fun _ ps q=>⟨#[],by rw[q];simp⟩⟩
theorem Un.refl:Un fs ex H H h h:=Un.kept fun _ _ q=>q
theorem Un.laid(k:∀b u,h.get? b=some u->h'.get? b=some u) (hp:h.objs.size<=a) (hn:H a=none):Un fs ex H (upd H a o) h h' where
 keep:=fun b u q _ _ _=>k b u q
 slot:=fun b u q _ _ _=>⟨u.slots,k b u q⟩
 free:=fun b u q n _=>by rw[D4 (Nat.ne_of_lt (Nat.lt_of_lt_of_le (Heap.lt_size q) hp))];exact n
 there:=fun b u q _=>⟨u,k b u q⟩
 tups:=fun b xs q=>by rw[D4 (D8 q hn)];exact q
 frzs:=fun b u xs q=>by rw[D4 (D8 q hn)];exact q
 tbls:=fun b ps q=>⟨#[],by rw[D4 (D8 q hn),q];simp⟩
theorem Un.write(mu:Mut (H x)) (he:e=x\/H e=some (.own x)) (k:∀b u,b≠e->h.get? b=some u->h'.get? b=some u) (heo:∃u,h'.get? e=some u):Un fs ex H (upd H x o) h h':=by
 have hx:∀b,H b=none->b≠x:=fun b n z=>by subst z;rw[n]at mu;exact mu
 have hb:∀b,H b=none->b≠e:=fun b n z=>by
  subst z
  rcases he with r|r
  ·exact hx b n r
  ·rw[n]at r;cases r
 have hm:∀b u,H b=some u->¬Mut (some u)->b≠x:=fun b u q nm z=>by subst z;rw[q]at mu;exact nm mu
 refine⟨fun b u q n _ _=>k b u (hb b n) q,fun b u q n _ _=>⟨u.slots,k b u (hb b n) q⟩,fun b u q n _=>by rw[D4 (hx b n)];exact n,fun b u q _=>?_,
  fun b xs q=>by rw[D4 (hm b _ q fun z=>z)];exact q,fun b u xs q=>by rw[D4 (hm b _ q fun z=>z)];exact q,fun b ps q=>⟨#[],by rw[D4 (hm b _ q fun z=>z),q];simp⟩⟩
 by_cases hbe:b=e
 ·subst hbe;exact heo
 ·exact⟨u,k b u hbe q⟩
end
noncomputable def trk(h:Heap) (H:Hp):List Addr:=(List.range h.objs.size).filter fun a=>(H a).isSome
noncomputable def ay9(h:Heap) (H:Hp):Heap:=PySem.W.hideAll h (trk h H)
theorem aW9(h:Heap) (H:Hp):(ay9 h H).objs.size=h.objs.size:=PySem.W.hideAll_size _ _
theorem bl7{h:Heap}{H:Hp}{b:Addr}{o:Obj}(e:h.get? b=some o) (n:H b=none):(ay9 h H).get? b=some o :=
 PySem.W.hideAll_get _ e fun hm=>by
  have q:(H b).isSome=true:=(List.mem_filter.mp hm).2
  rw[n]at q;simp at q
theorem bv4{h:Heap}{H:Hp}{b:Addr}{o:Obj}(e:(ay9 h H).get? b=some o):h.get? b=some o/\H b=none:=by
 have e':h.get? b=some o:=PySem.W.of_hideAll (trk h H) e
 refine⟨e',?_⟩
 cases q:H b with
 | none=>rfl
 | some x =>
  have hm:b∈trk h H:=List.mem_filter.mpr ⟨List.mem_range.mpr (Heap.lt_size e'),by simp[q]⟩
  have z:(ay9 h H).get? b=none:=PySem.W.hideAll_none (trk h H) hm
  rw[z]at e;cases e
noncomputable def bC6(g h:Heap) (L:Addr):List (Addr×Obj):=(List.range h.objs.size).filterMap fun a=>if a=L\/(g.get? a).isSome=true then none else(h.get? a).map fun o=>(a,o)
noncomputable def F5(g h:Heap) (L d:Addr):List (Addr×Obj):=(bC6 g h L).filter fun p=>decide (p.1≠d)
structure Mod (K:PySem.W.Frag) (mg:Str->Option Value) (base:Heap):Prop where
 kin:K.In base
 glob:base.Ns mainGlobals mg
 blt:∃mb,base.Ns builtinsNs mb/\∀x:Str,x ≠ "__name__" -> mb x=bootBuiltins x
 nolimit:base.NoLimit
structure Cx where
 prog:Program
 w:World
 K:PySem.W.Frag
 mg:Str->Option Value
 base:Heap
 A:Around
 N:List Str
 s₀:Shared
 H₀:Hp
 env:Env
 outer:List Env
 stack:List Env
 ex:List Addr
 fn:Str->Bool
 calm:Bool
 pn:List (Addr×Obj)
 xe:Value->Shared->Prop
noncomputable def frs(l:List Env):List Addr:=l.filterMap (·.frame)
noncomputable abbrev Cx.fs(X:Cx):List Addr:=frs X.outer
noncomputable def Vis(sc:Scope) (x:Str):Prop:=sc.names.lookup x=some .local\/sc.names.lookup x=some .cell\/sc.names.lookup x=some .free
noncomputable def Loc(sc:Scope) (x:Str):Prop:=sc.names.lookup x=some .local\/sc.names.lookup x=some .cell
noncomputable def cn4(env:Env) (h:Heap) (m:Str->Option Value) (x:Str) (u:Value):Prop :=
 (env.kindOf x=some .local/\m x=some u)\/((env.kindOf x=some .cell\/env.kindOf x=some .free)/\∃c,env.cells.lookup x=some c/\h.IsCell c (some u))
structure Cx.Ok (X:Cx):Prop where
 mod:Mod X.K X.mg X.base
 kind:X.env.scope.kind=.function
 glob:X.env.globals=mainGlobals
 blt:X.env.builtins=builtinsNs
 above:X.s₀.heap.objs.size<=X.env.locals
 inj:∀x y c,X.env.cells.lookup x=some c->X.env.cells.lookup y=some c->x=y
 has:∀x,(X.env.kindOf x=some .cell\/X.env.kindOf x=some .free)->∃c,X.env.cells.lookup x=some c
 cab:∀x c,X.fn x=true->X.env.cells.lookup x=some c->X.s₀.heap.objs.size<=c
 hd:X.calm=true->X.A.handled=none
 frames:X.A.frames=some X.stack
 stk:X.stack=X.outer\/(X.stack=X.env::X.outer/\X.env.frame=some X.env.locals)
 exf:∀b∈X.ex,b≠X.env.locals/\∀x c,X.env.cells.lookup x=some c->c≠b
 bs:∀b o,X.base.get? b=some o->X.s₀.heap.get? b=some o/\X.H₀ b=none
 bsz:X.base.objs.size<=X.s₀.heap.objs.size
 noex:∀b o,X.base.get? b=some o->b∉X.ex
 exfs:∀b∈X.ex,b∉X.fs
 funs:X.s₀.heap.FunFrames X.base X.outer
 frf:∀b∈X.fs,X.H₀ b=none
structure Inv (X:Cx) (pins:List (Addr×Obj)) (σ:List (Option V)) (H:Hp) (s:Shared):Prop where
 ok:X.Ok
 os:s.os=X.s₀.os
 bare:AllBare s.gens
 base:Un X.fs X.ex X.H₀ H X.s₀.heap s.heap
 loc:∃m,s.heap.Ns X.env.locals m/\∀(i:Nat) (x:Str) (v:V),X.N[i]? = some x->σ[i]? = some (some v)->Vis X.env.scope x->∃u,D3 v u/\cn4 X.env s.heap m x u
 cell:∀x c,X.env.cells.lookup x=some c->∃v,s.heap.IsCell c v
 free:H X.env.locals=none
 freeC:∀x c,X.env.cells.lookup x=some c->H c=none
 pin:∀p∈X.pn++pins,s.heap.get? p.1=some p.2/\H p.1=none/\p.1≠X.env.locals/\p.1∉X.fs/\∀v,p.2.data≠.cell v
 hok:HOk X.prog X.w H s.heap
 len:σ.length=X.N.length
section
variable {X:Cx}{pins:List (Addr×Obj)}{σ:List (Option V)}{H H':Hp}{s:Shared}{h':Heap}
theorem Cx.Ok.nofr(ok:X.Ok) {b:Addr}{o:Obj}(e:X.base.get? b=some o):b∉X.fs:=fun hb=>by
 have:=(ok.funs.mem hb).1
 rw[e]at this;cases this
theorem Inv.bs(I:Inv X pins σ H s):∀b o,X.base.get? b=some o->s.heap.get? b=some o/\H b=none:=fun b o e =>⟨I.base.keep b o (I.ok.bs b o e).1 (I.ok.bs b o e).2 (I.ok.nofr e) (I.ok.noex b o e),I.base.free b o (I.ok.bs b o e).1 (I.ok.bs b o e).2 (I.ok.noex b o e)⟩
theorem Inv.bk(I:Inv X pins σ H s):∀b o,X.base.get? b=some o->s.heap.get? b=some o:=fun b o e=>(I.bs b o e).1
theorem Inv.mod(I:Inv X pins σ H s):Mod X.K X.mg X.base:=I.ok.mod
theorem Inv.kIn(I:Inv X pins σ H s):X.K.In s.heap:=I.ok.mod.kin.keeps I.bk
theorem Inv.lt(I:Inv X pins σ H s):X.env.locals < s.heap.objs.size:=let⟨_,hn,_⟩:=I.loc;hn.lt
theorem Inv.sz(I:Inv X pins σ H s):X.s₀.heap.objs.size<=s.heap.objs.size:=Nat.le_trans I.ok.above (Nat.le_of_lt I.lt)
theorem Inv.nofs(I:Inv X pins σ H s) {a:Addr}(h:s.heap.objs.size<=a):a∉X.fs:=fun hb=>by
 obtain⟨_,o,ho,_⟩:=I.ok.funs.mem hb
 exact absurd (Nat.lt_of_lt_of_le (Heap.lt_size ho) (Nat.le_trans I.sz h)) (Nat.lt_irrefl _)
theorem Inv.cne(I:Inv X pins σ H s):∀x c,X.env.cells.lookup x=some c->c≠X.env.locals:=fun x c e z=>by
 obtain⟨v,o,ho,hd⟩:=I.cell x c e
 obtain⟨m,⟨o',es,ep,ho',hd',_⟩,_⟩:=I.loc
 rw[z,ho']at ho;cases ho;rw[hd']at hd;cases hd
theorem Inv.funs(I:Inv X pins σ H s):s.heap.FunFrames X.base X.outer:=by
 have all:∀(l:List Env),(∀b∈frs l,b∈X.fs)->X.s₀.heap.FunFrames X.base l->s.heap.FunFrames X.base l:=by
  intro l
  induction l with
  | nil=>intro _ _;trivial
  | cons env r ih =>
   intro hs hl
   obtain⟨hk,⟨L,o,hf,hn,ho,hd⟩,hr⟩:=hl
   have hL:L∈X.fs:=hs L (by unfold frs;rw[List.filterMap_cons,hf];exact List.mem_cons_self)
   obtain⟨sl,e⟩:=I.base.slot L o ho (I.ok.frf L hL) hL fun z=>I.ok.exfs L z hL
   exact⟨hk,⟨L,_,hf,hn,e,hd⟩,ih (fun b hb=>hs b (by unfold frs;rw[List.filterMap_cons,hf];exact xmm _ hb)) hr⟩
 exact all X.outer (fun _ hb=>hb) I.ok.funs
theorem Inv.stack(I:Inv X pins σ H s):s.heap.FunFrames X.base X.stack:=by
 rcases I.ok.stk with e|⟨e,hf⟩
 ·rw[e];exact I.funs
 ·rw[e]
  obtain⟨m,hn,_⟩:=I.loc
  refine .cons (by rw[I.ok.kind];decide) hf hn ?_ I.funs
  exact Heap.get?_none_of_le (Nat.le_trans I.ok.bsz I.ok.above)
theorem Inv.stkSub(I:Inv X pins σ H s):∀b∈frs X.stack,b∈X.env.locals::X.fs:=fun b hb=>by
 rcases I.ok.stk with e|⟨e,hf⟩
 ·rw[e]at hb;exact xmm _ hb
 ·rw[e]at hb
  unfold frs at hb
  rw[List.filterMap_cons,hf]at hb
  exact hb
theorem Inv.stkFree(I:Inv X pins σ H s):∀b∈frs X.stack,H b=none:=fun b hb=>by
 rcases List.mem_cons.mp (I.stkSub b hb) with e|hb
 ·rw[e];exact I.free
 ·obtain⟨_,o,ho,_⟩:=I.ok.funs.mem hb
  exact I.base.free b o ho (I.ok.frf b hb) fun z=>I.ok.exfs b z hb
theorem Inv.step{g':Array GenState}{t':Nat}{d':Drawn}{ch:List Addr}(I:Inv X pins σ H s)
  (hch:∀b∈ch,(b∈X.ex\/X.s₀.heap.objs.size<=b)/\b≠X.env.locals/\(∀x c,X.env.cells.lookup x=some c->c≠b)/\∀p∈X.pn++pins,p.1≠b)
  (keep:∀b o,b≠X.env.locals->b∉X.fs->b∉ch->s.heap.get? b=some o->H b=none->h'.get? b=some o)
  (slot:∀b o,b≠X.env.locals->b∈X.fs->b∉ch->s.heap.get? b=some o->H b=none->∃sl,h'.get? b=some { o with slots:=sl }) (free:∀b o,b∉ch->s.heap.get? b=some o->H b=none->H' b=none)
  (there:∀b o,b∉ch->s.heap.get? b=some o->∃o',h'.get? b=some o')
  (tups:∀b xs,H b=some (.tup xs)->H' b=some (.tup xs)) (frzs:∀b o u,H b=some (.frz o u)->H' b=some (.frz o u)) (tbls:∀b ps,H b=some (.tbl ps)->∃more,H' b=some (.tbl (ps++more)))
  (ns:∀m,s.heap.Ns X.env.locals m->h'.Ns X.env.locals m) (hok:HOk X.prog X.w H' h') (hg:AllBare g') :
  Inv X pins σ H' { s with heap:=h',gens:=g',drawn:=d',toks:=t' }:=by
 have neL:∀b o,X.s₀.heap.get? b=some o->b≠X.env.locals:=fun b o e=>Nat.ne_of_lt (Nat.lt_of_lt_of_le (Heap.lt_size e) I.ok.above)
 have neC:∀b o,X.s₀.heap.get? b=some o->b∉X.ex->b∉ch:=fun b o e hx hb=>by
  rcases(hch b hb).1 with z|z
  ·exact hx z
  ·exact absurd (Nat.lt_of_lt_of_le (Heap.lt_size e) z) (Nat.lt_irrefl _)
 have cellK:∀x c,X.env.cells.lookup x=some c->∀v,s.heap.IsCell c v->h'.IsCell c v:=fun x c e v ⟨o,ho,hd⟩=>by
  have nch:c∉ch:=fun z=>(hch c z).2.2.1 x c e rfl
  by_cases hc:c∈X.fs
  ·obtain⟨sl,q⟩:=slot c o (I.cne x c e) hc nch ho (I.freeC x c e)
   exact⟨_,q,hd⟩
  ·exact⟨o,keep c o (I.cne x c e) hc nch ho (I.freeC x c e),hd⟩
 refine⟨I.ok,I.os,hg,⟨fun b o e n hb hx=>?_,fun b o e n hb hx=>?_,fun b o e n hx=>?_,fun b o e hx=>?_,fun b xs e=>tups b xs (I.base.tups b xs e),fun b o xs e=>frzs b o xs (I.base.frzs b o xs e),fun b ps e=>?_⟩,?_,fun x c e=>?_,?_,fun x c e=>?_,fun p hp=>?_,hok,I.len⟩
 ·exact keep b o (neL b o e) hb (neC b o e hx) (I.base.keep b o e n hb hx) (I.base.free b o e n hx)
 ·obtain⟨sl,e1⟩:=I.base.slot b o e n hb hx
  obtain⟨sl',e2⟩:=slot b _ (neL b o e) hb (neC b o e hx) e1 (I.base.free b o e n hx)
  exact⟨sl',e2⟩
 ·obtain⟨o',e1⟩:=I.base.there b o e hx
  exact free b o' (neC b o e hx) e1 (I.base.free b o e n hx)
 ·obtain⟨o',e1⟩:=I.base.there b o e hx
  exact there b o' (neC b o e hx) e1
 ·obtain⟨m1,e1⟩:=I.base.tbls b ps e
  obtain⟨m2,e2⟩:=tbls b _ e1
  exact⟨m1++m2,by rw[e2,Array.append_assoc]⟩
 ·obtain⟨m,hn,hl⟩:=I.loc
  refine⟨m,ns m hn,fun i x v e1 e2 e3=>?_⟩
  obtain⟨u,r,l⟩:=hl i x v e1 e2 e3
  refine⟨u,r,?_⟩
  rcases l with l|⟨k,c,e,z⟩
  ·exact .inl l
  ·exact .inr ⟨k,c,e,cellK x c e _ z⟩
 ·obtain⟨v,z⟩:=I.cell x c e
  exact⟨v,cellK x c e v z⟩
 ·obtain⟨m,⟨o,_,_,ho,_⟩,_⟩:=I.loc
  exact free _ o (fun z=>(hch _ z).2.1 rfl) ho I.free
 ·obtain⟨v,o,ho,hd⟩:=I.cell x c e
  exact free c o (fun z=>(hch c z).2.2.1 x c e rfl) ho (I.freeC x c e)
 ·obtain⟨e,n,ne,nf,d⟩:=I.pin p hp
  have nch:p.1∉ch:=fun z=>(hch p.1 z).2.2.2 p hp rfl
  exact⟨keep p.1 p.2 ne nf nch e n,free p.1 p.2 nch e n,ne,nf,d⟩
theorem Inv.un{t':Nat}(I:Inv X pins σ H s) (u:Un X.fs [] H H' s.heap h') (hok:HOk X.prog X.w H' h'):Inv X pins σ H' { s with heap:=h',toks:=t' }:=by
 obtain⟨m,⟨o,es,ep,ho,r⟩,_⟩:=id I.loc
 obtain⟨sl,hL⟩:=u.any ho I.free (by simp)
 exact I.step (g':=s.gens) (d':=s.drawn) (ch:=[]) (fun _ z=>nomatch z) (fun b o _ hb _ e n=>u.keep b o e n hb (by simp)) (fun b o _ hb _ e n=>u.slot b o e n hb (by simp)) (fun b o _ e n=>u.free b o e n (by simp)) (fun b o _ e=>u.there b o e (by simp)) u.tups u.frzs u.tbls (fun m' hm=>by
  obtain⟨o',es',ep',ho',r'⟩:=hm
  rw[ho]at ho';cases ho'
  exact⟨_,es',ep',hL,r'⟩) hok I.bare
theorem Inv.call{g':Array GenState}{t':Nat}{d':Drawn}{ch:List Addr}(I:Inv X pins σ H s) (u:Un (frs X.stack) ch H H' s.heap h') (hok:HOk X.prog X.w H' h') (hg:AllBare g')
  (hch:∀b∈ch,(b∈X.ex\/X.s₀.heap.objs.size<=b)/\b≠X.env.locals/\(∀x c,X.env.cells.lookup x=some c->c≠b)/\∀p∈X.pn++pins,p.1≠b) :
  Inv X pins σ H' { s with heap:=h',gens:=g',drawn:=d',toks:=t' }:=by
 obtain⟨m,⟨o,es,ep,ho,r⟩,_⟩:=id I.loc
 obtain⟨sl,hL⟩:=u.any ho I.free fun z=>(hch _ z).2.1 rfl
 exact I.step (ch:=ch) hch (fun b o hL hb hc e n=>u.keep b o e n (fun z=>(List.mem_cons.mp (I.stkSub b z)).elim hL hb) hc) (fun b o _ _ hc e n=>u.any e n hc) (fun b o hc e n=>u.free b o e n hc) (fun b o hc e=>u.there b o e hc) u.tups u.frzs u.tbls (fun m' hm=>by
  obtain⟨o',es',ep',ho',r'⟩:=hm
  rw[ho]at ho';cases ho'
  exact⟨_,es',ep',hL,r'⟩) hok hg
theorem Inv.turned{t':Nat}{it:Addr}(I:Inv X pins σ H s) (k:∀b o,b≠it->s.heap.get? b=some o->h'.get? b=some o) (hn:H it=none) (hL:it≠X.env.locals)
  (h1:it∈X.ex\/X.s₀.heap.objs.size<=it) (h2:∀x c,X.env.cells.lookup x=some c->c≠it) (h3:∀p∈X.pn++pins,p.1≠it):Inv X pins σ H { s with heap:=h',toks:=t' }:=by
 have nit:∀b u,H b=some u->b≠it:=fun b u e z=>by rw[z,hn]at e;cases e
 refine I.step (g':=s.gens) (d':=s.drawn) (ch:=[it]) (fun b hb=>?_) (fun b o _ _ hc e _=>k b o (fun z=>hc (by simp[z])) e) (fun b o _ _ hc e _=>⟨o.slots,k b o (fun z=>hc (by simp[z])) e⟩) (fun _ _ _ _ n=>n)
  (fun b o hc e=>⟨o,k b o (fun z=>hc (by simp[z])) e⟩) (fun _ _ e=>e) (fun _ _ _ e=>e) (fun b ps e=>⟨#[],by rw[e];simp⟩) (fun m hm=>?_) (fun b u e=>?_) I.bare
 ·have e:b=it:=by simpa using hb
  subst e
  exact⟨h1,hL,h2,h3⟩
 ·obtain⟨o,es,ep,ho,r⟩:=hm
  exact⟨o,es,ep,k _ o (Ne.symm hL) ho,r⟩
 ·refine(I.hok b u e).stay (fun c v hc q=>k c v ?_ q) (fun _ q=>q) fun _ _ q=>q
  rcases hc with z|z
  ·rw[z];exact nit b u e
  ·exact nit c _ z
theorem Inv.tok(I:Inv X pins σ H s) (t:Nat):Inv X pins σ H { s with toks:=t }:=I.un (h':=s.heap) (t':=t) Un.refl I.hok
theorem Inv.kept{t':Nat}(I:Inv X pins σ H s) (k:∀b u,s.heap.get? b=some u->h'.get? b=some u):Inv X pins σ H { s with heap:=h',toks:=t' }:=I.un (Un.kept k) (I.hok.kept k)
theorem Inv.laid{a:Addr}{o:HO}{t':Nat}(I:Inv X pins σ H s) (k:∀b u,s.heap.get? b=some u->h'.get? b=some u) (hp:s.heap.objs.size<=a) (new:M5 X.prog X.w (upd H a o) h' a o) :
  Inv X pins σ (upd H a o) { s with heap:=h',toks:=t' }:=I.un (Un.laid k hp (I.hok.fresh hp)) (I.hok.laid k hp new)
theorem Inv.write{x e:Addr}{o:HO}{t':Nat}(I:Inv X pins σ H s) (mu:Mut (H x)) (he:e=x\/H e=some (.own x)) (k:∀b u,b≠e->s.heap.get? b=some u->h'.get? b=some u) (heo:∃u,h'.get? e=some u)
  (new:M5 X.prog X.w (upd H x o) h' x o):Inv X pins σ (upd H x o) { s with heap:=h',toks:=t' }:=I.un (Un.write mu he k heo) (I.hok.write mu he k heo new)
theorem Inv.pins_of{pins':List (Addr×Obj)}(I:Inv X pins σ H s) (h:∀p∈pins',s.heap.get? p.1=some p.2/\H p.1=none/\p.1≠X.env.locals/\p.1∉X.fs/\∀v,p.2.data≠.cell v):Inv X pins' σ H s :=
 ⟨I.ok,I.os,I.bare,I.base,I.loc,I.cell,I.free,I.freeC,fun p hp=>(List.mem_append.mp hp).elim (fun z=>I.pin p (List.mem_append_left _ z)) (h p),I.hok,I.len⟩
theorem aC2{N:List Str}(hN:N.Nodup) {i j:Nat}{x:Str}(a:N[i]? = some x) (b:N[j]? = some x):i=j:=by
 obtain⟨h1,e1⟩:=List.getElem?_eq_some_iff.mp a
 obtain⟨h2,e2⟩:=List.getElem?_eq_some_iff.mp b
 exact(List.getElem_inj hN).mp (e1.trans e2.symm)
theorem ar2{M:Model}{A:Around}{E:Value->Shared->Prop}{i:Nat}{x:Str}{v:V}{u:Value}{Q:Unit->Shared->Prop}(I:Inv X pins σ H s) (hN:X.N.Nodup) (hi:X.N[i]? = some x) (hx:Loc X.env.scope x) (r:D3 v u)
  (h:∀s',Inv X pins (σ.set i (some v)) H s'->(∃a,Heap.SameBut a s.heap s'.heap/\(a=X.env.locals\/X.env.cells.lookup x=some a))->Q () s') (hf:X.fn x=true\/X.env.scope.names.lookup x=some .local:=by first|exact .inl rfl|exact .inr rfl|assumption):wpAny M A (storeName X.env x u) Q E s:=by
 obtain⟨m,hn,hl⟩:=id I.loc
 have hcls:(X.env.scope.kind == .class || (X.env.scope.kind == .module&&X.env.locals != X.env.globals))=false:=by rw[I.ok.kind];rfl
 have hiσ:i < σ.length:=by rw[I.len];exact(List.getElem?_eq_some_iff.mp hi).1
 have cne:=I.cne
 have tracked:∀{a:Addr}{h':Heap},(∃o,s.heap.get? a=some o/\H a=none)->Heap.SameBut a s.heap h'->HOk X.prog X.w H h':=fun{a h'} ha hs b ob e=>by
  obtain⟨_,_,hfree⟩:=ha
  refine(I.hok b ob e).stay (fun c w' hc q=>(hs.2 c ?_).trans q) (fun _ q=>q) fun _ _ q=>q
  rintro rfl
  rcases hc with rfl|hc
  ·rw[hfree]at e;cases e
  ·rw[hfree]at hc;cases hc
 rcases hx with hk|hk
 ·refine wpAny_storeName_local hk hn (fun h' hn' hs=>?_) hcls
  obtain⟨oL,_,_,hoL,_⟩:=id hn
  refine h _ ⟨I.ok,I.os,I.bare,⟨fun b o e n hb hx=>?_,fun b o e n hb hx=>?_,I.base.free,fun b o e hx=>?_,I.base.tups,I.base.frzs,I.base.tbls⟩,⟨_,hn',fun j y v' e1 e2 e3=>?_⟩,fun y c e=>?_,I.free,I.freeC,fun p hp=>?_,tracked ⟨oL,hoL,I.free⟩ hs,by simpa using I.len⟩ ⟨_,hs,.inl rfl⟩
  ·exact(hs.2 b (Nat.ne_of_lt (Nat.lt_of_lt_of_le (Heap.lt_size e) I.ok.above))).trans (I.base.keep b o e n hb hx)
  ·obtain⟨sl,e1⟩:=I.base.slot b o e n hb hx
   exact⟨sl,(hs.2 b (Nat.ne_of_lt (Nat.lt_of_lt_of_le (Heap.lt_size e) I.ok.above))).trans e1⟩
  ·obtain⟨o',e1⟩:=I.base.there b o e hx
   exact⟨o',(hs.2 b (Nat.ne_of_lt (Nat.lt_of_lt_of_le (Heap.lt_size e) I.ok.above))).trans e1⟩
  ·by_cases hj:j=i
   ·subst hj
    rw[hi]at e1;cases e1
    rw[List.getElem?_set_self hiσ]at e2
    cases e2
    exact⟨u,r,.inl ⟨hk,by simp⟩⟩
   ·rw[List.getElem?_set_ne (Ne.symm hj)]at e2
    obtain⟨u',r',q⟩:=hl j y v' e1 e2 e3
    refine⟨u',r',?_⟩
    rcases q with⟨k,e⟩|⟨k,c,e,z⟩
    ·refine .inl ⟨k,?_⟩
     have:y≠x:=fun e=>hj (aC2 hN e1 (e ▸ hi))
     simp[this,e]
    ·exact .inr ⟨k,c,e,z.sameBut hs (cne y c e)⟩
  ·obtain⟨w',z⟩:=I.cell y c e
   exact⟨w',z.sameBut hs (cne y c e)⟩
  ·obtain⟨e,n,ne,nf,d⟩:=I.pin p hp
   exact⟨(hs.2 p.1 ne).trans e,n,ne,nf,d⟩
 ·have hfn:X.fn x=true:=by
   rcases hf with z|z
   ·exact z
   ·rw[z]at hk;cases hk
  obtain⟨c,hc⟩:=I.ok.has x (.inl hk)
  obtain⟨w',z⟩:=I.cell x c hc
  refine wpAny_storeName_cell I.ok.kind hk hc z (fun h' hc' hs=>?_)
  obtain⟨oc,hoc,hocd⟩:=id z
  refine h { s with heap:=h' } ⟨I.ok,I.os,I.bare,⟨fun b o e n hb hx=>?_,fun b o e n hb hx=>?_,I.base.free,fun b o e hx=>?_,I.base.tups,I.base.frzs,I.base.tbls⟩,⟨m,hn.sameBut hs (Ne.symm (cne x c hc)),fun j y v' e1 e2 e3=>?_⟩,fun y c' e=>?_,I.free,I.freeC,fun p hp=>?_,tracked ⟨oc,hoc,I.freeC x c hc⟩ hs,by simpa using I.len⟩ ⟨c,hs,.inr hc⟩
  ·exact(hs.2 b (Nat.ne_of_lt (Nat.lt_of_lt_of_le (Heap.lt_size e) (I.ok.cab x c hfn hc)))).trans (I.base.keep b o e n hb hx)
  ·obtain⟨sl,e1⟩:=I.base.slot b o e n hb hx
   exact⟨sl,(hs.2 b (Nat.ne_of_lt (Nat.lt_of_lt_of_le (Heap.lt_size e) (I.ok.cab x c hfn hc)))).trans e1⟩
  ·obtain⟨o',e1⟩:=I.base.there b o e hx
   exact⟨o',(hs.2 b (Nat.ne_of_lt (Nat.lt_of_lt_of_le (Heap.lt_size e) (I.ok.cab x c hfn hc)))).trans e1⟩
  ·by_cases hj:j=i
   ·subst hj
    rw[hi]at e1;cases e1
    rw[List.getElem?_set_self hiσ]at e2
    cases e2
    exact⟨u,r,.inr ⟨.inl hk,c,hc,hc'⟩⟩
   ·rw[List.getElem?_set_ne (Ne.symm hj)]at e2
    obtain⟨u',r',q⟩:=hl j y v' e1 e2 e3
    refine⟨u',r',?_⟩
    rcases q with q|⟨k,c',e,z'⟩
    ·exact .inl q
    ·refine .inr ⟨k,c',e,z'.sameBut hs ?_⟩
     rintro rfl
     exact hj (aC2 hN e1 (I.ok.inj _ _ _ e hc ▸ hi))
  ·by_cases hcc:c'=c
   ·subst hcc;exact⟨_,hc'⟩
   ·obtain⟨w2,z2⟩:=I.cell y c' e
    exact⟨w2,z2.sameBut hs hcc⟩
  ·obtain⟨e,n,ne,nf,d⟩:=I.pin p hp
   refine⟨(hs.2 p.1 ?_).trans e,n,ne,nf,d⟩
   intro q
   rw[q,hoc]at e
   have q':oc=p.2:=Option.some.inj e
   exact d w' (by rw[← q'];exact hocd)
theorem ab8{M:Model}{A:Around}{E:Value->Shared->Prop}{i:Nat}{x:Str}{v:V}{u:Value}{Q:Unit->Shared->Prop}(I:Inv X pins σ H s) (hN:X.N.Nodup) (hi:X.N[i]? = some x) (hx:Loc X.env.scope x) (r:D3 v u)
  (h:∀s',Inv X pins (σ.set i (some v)) H s'->Q () s') (hf:X.fn x=true\/X.env.scope.names.lookup x=some .local:=by first|exact .inl rfl|exact .inr rfl|assumption):wpAny M A (storeName X.env x u) Q E s :=
 ar2 I hN hi hx r (fun s' I' _=>h s' I') hf
theorem Inv.call'{s':Shared}{ch:List Addr}(I:Inv X pins σ H s) (ho:s'.os=s.os) (u:Un (frs X.stack) ch H H' s.heap s'.heap) (hok:HOk X.prog X.w H' s'.heap) (hg:AllBare s'.gens)
  (hch:∀b∈ch,(b∈X.ex\/X.s₀.heap.objs.size<=b)/\b≠X.env.locals/\(∀x c,X.env.cells.lookup x=some c->c≠b)/\∀p∈X.pn++pins,p.1≠b):Inv X pins σ H' s':=by
 obtain⟨h',g',d',t',o'⟩:=s'
 have e:o'=s.os:=ho
 subst e
 exact I.call (g':=g') (t':=t') (d':=d') u hok hg hch
end
noncomputable abbrev XK:=Value->Option Addr->Hp->Prop
noncomputable abbrev St:=List (Option V)
noncomputable abbrev VK:=V->Hp->Prop
noncomputable abbrev TE:=St->Hp->VK->Prop
noncomputable abbrev TT:=St->Hp->(Bool->Hp->Prop)->Prop
noncomputable abbrev TA:=St->Hp->(List V->Hp->Prop)->Prop
structure Ends where
 nx:St->Hp->Prop
 rt:VK
 bk:St->Hp->Prop:=fun _ _=>False
 ct:St->Hp->Prop:=fun _ _=>False
noncomputable abbrev TS:=Ends->St->Hp->Prop
noncomputable def EP(X:Cx) (pins:List (Addr×Obj)) (σ:St) (Q:VK) (u:Value) (s':Shared):Prop:=∃v H',Inv X pins σ H' s'/\D3 v u/\Q v H'
noncomputable def TP(X:Cx) (pins:List (Addr×Obj)) (σ:St) (Q:Bool->Hp->Prop) (b:Bool) (s':Shared):Prop:=∃H',Inv X pins σ H' s'/\Q b H'
noncomputable def AP(X:Cx) (pins:List (Addr×Obj)) (σ:St) (Q:List V->Hp->Prop) (us:List Value) (s':Shared):Prop:=∃vs H',Inv X pins σ H' s'/\D5 vs us/\Q vs H'
noncomputable def SP(X:Cx) (pins:List (Addr×Obj)) (D:Ends) (f:Flow) (s':Shared):Prop :=
 match f with
 | .next=>∃σ' H',Inv X pins σ' H' s'/\D.nx σ' H'
 | .brk=>∃σ' H',Inv X pins σ' H' s'/\D.bk σ' H'
 | .cont=>∃σ' H',Inv X pins σ' H' s'/\D.ct σ' H'
 | .ret u=>∃v σ' H',Inv X pins σ' H' s'/\D3 v u/\D.rt v H'
noncomputable def PE(X:Cx) (e:Expr) (t:TE):Prop :=
 ∀(pins:List (Addr×Obj)) (s:Shared) (σ:St) (H:Hp) (Q:VK),Inv X pins σ H s->t σ H Q->wpAny (model X.prog X.w) X.A (eval e X.env) (EP X pins σ Q) X.xe s
noncomputable def PT(X:Cx) (e:Expr) (t:TT):Prop :=
 ∀(pins:List (Addr×Obj)) (s:Shared) (σ:St) (H:Hp) (Q:Bool->Hp->Prop),Inv X pins σ H s->t σ H Q->wpAny (model X.prog X.w) X.A (isTrue e X.env (eval e X.env)) (TP X pins σ Q) X.xe s
noncomputable def PW(X:Cx) (e:Expr) (t:TT):Prop :=
 ∀(whole:Sem Value) (pins:List (Addr×Obj)) (s:Shared) (σ:St) (H:Hp) (Q:Bool->Hp->Prop),Inv X pins σ H s->t σ H Q->wpAny (model X.prog X.w) X.A (isTrue e X.env whole) (TP X pins σ Q) X.xe s
theorem PW.pt{X:Cx}{e:Expr}{t:TT}(h:PW X e t):PT X e t:=h _
noncomputable def PA(X:Cx) (es:List Expr) (t:TA):Prop :=
 ∀(pos:Pos) (pins:List (Addr×Obj)) (s:Shared) (σ:St) (H:Hp) (Q:List V->Hp->Prop),Inv X pins σ H s->t σ H Q->wpAny (model X.prog X.w) X.A (spliced (backTo pos (starEach es X.env))) (AP X pins σ Q) X.xe s
noncomputable def PS(X:Cx) (st:Stmt) (t:TS):Prop :=
 ∀(pins:List (Addr×Obj)) (s:Shared) (σ:St) (H:Hp) (D:Ends),Inv X pins σ H s->t D σ H->wpAny (model X.prog X.w) X.A (exec st X.env) (SP X pins D) X.xe s
noncomputable def PSs(X:Cx) (st:List Stmt) (t:TS):Prop :=
 ∀(pins:List (Addr×Obj)) (s:Shared) (σ:St) (H:Hp) (D:Ends),Inv X pins σ H s->t D σ H->wpAny (model X.prog X.w) X.A (execs st X.env) (SP X pins D) X.xe s
theorem thn{α:Type}{t:Sem α}{Q Q':α->Shared->Prop}{M:Model}{A:Around}{E:Value->Shared->Prop}{s:Shared}(h:wpAny M A t Q E s) (hQ:∀a s,Q a s->Q' a s):wpAny M A t Q' E s:=wpAny_mono h hQ fun _ _ x=>x
section
variable {X:Cx}
theorem bin{a b:Expr}{ta tb:TE}(ha:PE X a ta) (hb:PE X b tb) {pins:List (Addr×Obj)}{s:Shared}{σ:St}{H:Hp}{R:V->V->Hp->Prop}(I:Inv X pins σ H s) (h:ta σ H fun x H1=>tb σ H1 fun y H2=>R x y H2)
  {α:Type}{Q:α->Shared->Prop}{f:Value->Value->Sem α}
  (hf:∀v u s2 x y H2,Inv X pins σ H2 s2->D3 x v->D3 y u->R x y H2->wpAny (model X.prog X.w) X.A (f v u) Q X.xe s2) :
  wpAny (model X.prog X.w) X.A (eval a X.env) (fun v s₁=>wpAny (model X.prog X.w) X.A (eval b X.env) (fun u s₂=>wpAny (model X.prog X.w) X.A (f v u) Q X.xe s₂) X.xe s₁) X.xe s:=by
 refine thn (ha pins s σ H _ I h) fun v s1 ⟨x,H1,I1,r1,q1⟩=>?_
 refine thn (hb pins s1 σ H1 _ I1 q1) fun u s2 ⟨y,H2,I2,r2,q2⟩=>?_
 exact hf v u s2 x y H2 I2 r1 r2 q2
noncomputable def bY9(i:Nat):TE:=fun σ H Q=>∃v,σ[i]? = some (some v)/\Q v H
noncomputable def tC(v:V):TE:=fun _ H Q=>Q v H
theorem z9{i:Nat}{x:Str}{pos:Pos}(hN:X.N[i]? = some x) (hv:Vis X.env.scope x) (hd:(x==("__debug__" : Str))=false:=by decide) (hcd:(x==("__classdict__" : Str))=false:=by decide):PE X (.Name x pos) (bY9 i):=by
 intro pins s σ H Q I h
 obtain⟨v,e,h⟩:=h
 obtain⟨m,hn,hl⟩:=I.loc
 obtain⟨u,r,l⟩:=hl i x v hN e hv
 have fin:EP X pins σ Q u s:=⟨v,H,I,r,h⟩
 rcases l with⟨hk,hm⟩|⟨hk,c,hc,hcell⟩
 ·exact wpAny_Name (wpAny_loadName_local I.ok.kind hk hn hm fin) hd
 ·rcases hk with hk|hk
  ·exact wpAny_Name (wpAny_loadName_cell I.ok.kind hk hc hcell fin) hd
  ·exact wpAny_Name (wpAny_loadName_free I.ok.kind hk hc hcell fin hcd) hd
theorem bg0{i j pos}:PE X (.Constant (.int i) j pos) (tC (.int i)):=fun _ _ _ H _ I h=>wpAny_Constant_int ⟨.int i,H,I.tok _,⟨_,rfl⟩,h⟩
theorem cb1{b j pos}:PE X (.Constant (.bool b) j pos) (tC (.bl b)):=fun _ _ _ H _ I h=>Constant_bool ⟨.bl b,H,I,rfl,h⟩
theorem bL2{j pos}:PE X (.Constant .none j pos) (tC .non):=fun _ _ _ H _ I h=>Constant_none ⟨.non,H,I,rfl,h⟩
theorem bf8{x j pos}:PE X (.Constant (.str x) j pos) (tC (.str x)):=fun _ _ _ H _ I h=>Calls.Constant_str ⟨.str x,H,I.tok _,⟨_,rfl⟩,h⟩
noncomputable def Gl(X:Cx) (x:Str):Prop:=X.env.kindOf x=some .globalImplicit
theorem ay1{E:Value->Shared->Prop}{pins:List (Addr×Obj)}{s:Shared}{σ:St}{H:Hp}{x:Str}{u:Value}{pos:Pos}{Q:Value->Shared->Prop}(I:Inv X pins σ H s) (hg:Gl X x) (hm:X.mg x=some u) (h:Q u s)
  (hd:(x==("__debug__" : Str))=false:=by decide):wpAny (model X.prog X.w) X.A (eval (.Name x pos) X.env) Q E s :=
 Calls.Name_function_global I.ok.kind hg (Calls.loadGlobal_global (by rw[I.ok.glob];exact I.mod.glob.keeps I.bk) hm h) hd
theorem ay2{E:Value->Shared->Prop}{pins:List (Addr×Obj)}{s:Shared}{σ:St}{H:Hp}{x:Str}{u:Value}{pos:Pos}{Q:Value->Shared->Prop}(I:Inv X pins σ H s) (hg:Gl X x) (hm:X.mg x=none) (hv:bootBuiltins x=some u) (h:Q u s)
  (hn:x ≠ "__name__" := by decide) (hd:(x==("__debug__" : Str))=false:=by decide):wpAny (model X.prog X.w) X.A (eval (.Name x pos) X.env) Q E s:=by
 obtain⟨mb,h1,h2⟩:=I.mod.blt
 exact Calls.Name_function_global I.ok.kind hg (Calls.loadGlobal_builtin (by rw[I.ok.glob];exact I.mod.glob.keeps I.bk) hm (by rw[I.ok.blt];exact h1.keeps I.bk) ((h2 x hn).trans hv) h) hd
theorem bu1{x:Str}{v:V}{u:Value}{pos:Pos}(hg:Gl X x) (hm:X.mg x=some u) (r:D3 v u) (hd:(x==("__debug__" : Str))=false:=by decide):PE X (.Name x pos) (tC v) :=
 fun _ _ _ H _ I h=>ay1 I hg hm ⟨v,H,I,r,h⟩ hd
theorem bu6{x:Str}{v:V}{u:Value}{pos:Pos}(hg:Gl X x) (hm:X.mg x=none) (hv:bootBuiltins x=some u) (r:D3 v u) (hn:x ≠ "__name__" := by decide) (hd:(x==("__debug__" : Str))=false:=by decide):PE X (.Name x pos) (tC v) :=
 fun _ _ _ H _ I h=>ay2 I hg hm hv ⟨v,H,I,r,h⟩ hn hd
variable {a b:Expr}{ta tb:TE}{pos:Pos}
variable {tA tB':TT}{F5:List Expr}
noncomputable def ck0(t u:TT):TT:=fun σ H Q=>t σ H fun c H1=>if c=true then u σ H1 Q else Q false H1
noncomputable def tOr(t u:TT):TT:=fun σ H Q=>t σ H fun c H1=>if c=true then Q true H1 else u σ H1 Q
noncomputable def cj6(t:TT):TT:=fun σ H Q=>t σ H fun c H1=>Q (!c) H1
theorem bs8(ha:PT X a tA):PW X (.BoolOp .And [a] pos) tA:=by
 intro wh pins s σ H Q I h
 refine isTrue_and (thn (ha pins s σ H Q I h) fun c s1 e=>?_)
 cases c with
 | true=>exact isTrue_and_nil e
 | false=>exact e
theorem bJ8(ha:PT X a tA):PW X (.BoolOp .Or [a] pos) tA:=by
 intro wh pins s σ H Q I h
 refine isTrue_or (thn (ha pins s σ H Q I h) fun c s1 e=>?_)
 cases c with
 | false=>exact isTrue_or_nil e
 | true=>exact e
theorem be6(ha:PT X a tA) (hb:PW X (.BoolOp .And (b::F5) pos) tB'):PW X (.BoolOp .And (a::b::F5) pos) (ck0 tA tB'):=by
 intro wh pins s σ H Q I h
 refine isTrue_and (thn (ha pins s σ H _ I h) fun c s1 ⟨H1,I1,q1⟩=>?_)
 cases c with
 | true=>exact hb wh pins s1 σ H1 Q I1 q1
 | false=>exact⟨H1,I1,q1⟩
theorem bE0(ha:PT X a tA) (hb:PW X (.BoolOp .Or (b::F5) pos) tB'):PW X (.BoolOp .Or (a::b::F5) pos) (tOr tA tB'):=by
 intro wh pins s σ H Q I h
 refine isTrue_or (thn (ha pins s σ H _ I h) fun c s1 ⟨H1,I1,q1⟩=>?_)
 cases c with
 | true=>exact⟨H1,I1,q1⟩
 | false=>exact hb wh pins s1 σ H1 Q I1 q1
theorem bJ9(ha:PT X a tA):PT X (.UnaryOp .Not a pos) (cj6 tA):=by
 intro pins s σ H Q I h
 exact isTrue_not (ha pins s σ H (fun c H1=>Q (!c) H1) I h)
noncomputable def bZ9(ta tb:TE):TE:=fun σ H Q=>ta σ H fun x H1=>∃c,x=.bl c/\if c=true then tb σ H1 Q else Q (.bl false) H1
noncomputable def cj5(ta tb:TE):TE:=fun σ H Q=>ta σ H fun x H1=>∃c,x=.bl c/\if c=true then Q (.bl true) H1 else tb σ H1 Q
noncomputable def bZ1(ta:TE):TE:=fun σ H Q=>ta σ H fun x H1=>∃c,x=.bl c/\Q (.bl (!c)) H1
theorem bL0{op} {t:TE}(h:PE X a t):PE X (.BoolOp op [a] pos) t:=fun pins s σ H Q I hw=>BoolOp_one (h pins s σ H Q I hw)
theorem bg3(ha:PE X a ta) (hb:PE X (.BoolOp .And (b::F5) pos) tb):PE X (.BoolOp .And (a::b::F5) pos) (bZ9 ta tb):=by
 intro pins s σ H Q I h
 refine BoolOp_and (thn (ha pins s σ H _ I h) fun v s1 ⟨x,H1,I1,r1,q1⟩=>?_)
 obtain⟨c,rfl,q1⟩:=q1
 cases r1
 refine wpAny_truthy_bool ?_
 cases c with
 | true=>exact hb pins s1 σ H1 Q I1 q1
 | false=>exact⟨.bl false,H1,I1,rfl,q1⟩
theorem bE2(ha:PE X a ta) (hb:PE X (.BoolOp .Or (b::F5) pos) tb):PE X (.BoolOp .Or (a::b::F5) pos) (cj5 ta tb):=by
 intro pins s σ H Q I h
 refine BoolOp_or (thn (ha pins s σ H _ I h) fun v s1 ⟨x,H1,I1,r1,q1⟩=>?_)
 obtain⟨c,rfl,q1⟩:=q1
 cases r1
 refine wpAny_truthy_bool ?_
 cases c with
 | false=>exact hb pins s1 σ H1 Q I1 q1
 | true=>exact⟨.bl true,H1,I1,rfl,q1⟩
theorem bL1(ha:PE X a ta):PE X (.UnaryOp .Not a pos) (bZ1 ta):=by
 intro pins s σ H Q I h
 refine UnaryOp_ (thn (ha pins s σ H _ I h) fun v s1 ⟨x,H1,I1,r1,q1⟩=>?_)
 obtain⟨c,rfl,q1⟩:=q1
 cases r1
 exact not_of (wpAny_truthy_bool ⟨.bl (!c),H1,I1,rfl,q1⟩)
noncomputable def tIf(t:TT) (ta tb:TE):TE:=fun σ H Q=>t σ H fun c H1=>if c=true then ta σ H1 Q else tb σ H1 Q
theorem aB9{c:Expr}(hc:PT X c tA) (ha:PE X a ta) (hb:PE X b tb):PE X (.IfExp c a b pos) (tIf tA ta tb):=by
 intro pins s σ H Q I h
 refine wpAny_IfExp (thn (hc pins s σ H _ I h) fun d s1 ⟨H1,I1,q1⟩=>?_)
 cases d with
 | true=>exact ha pins s1 σ H1 Q I1 q1
 | false=>exact hb pins s1 σ H1 Q I1 q1
end
noncomputable def SqL(K:PySem.W.Frag) (H:Hp) (a:Addr) (xs:List V):Prop :=
 Rd H a (.lst xs) \/
  ∃(o:Obj) (its:Array Value) (n:Nat),K.lookup a=some o/\o.cls=.type "list" /\ o.dict=none/\o.data=.seq its n/\its.size<=sizeLine/\D5 xs its.toList
noncomputable def SqT(K:PySem.W.Frag) (H:Hp) (a:Addr) (xs:List V):Prop :=
 Rd H a (.tup xs) \/
  ∃(o:Obj) (its:Array Value) (n:Nat),K.lookup a=some o/\o.cls=.type "tuple" /\ o.dict=none/\o.data=.seq its n/\its.size<=sizeLine/\D5 xs its.toList
noncomputable def cn0:Value->Option V
 | .none=>some .non
 | .bool b=>some (.bl b)
 | .int i _=>some (.int i)
 | .str x _=>some (.str x)
 | .bytes b _=>some (.byt b)
 | .float b _=>some (.flt b)
 | .ref a=>some (.ref a)
 | .type n=>some (.ty n)
 | _=>none
theorem D3.abs{x:V}{u:Value}(r:D3 x u):cn0 u=some x:=by
 cases x with
 | non=>cases r;rfl
 | bl _=>cases r;rfl
 | int _=>obtain⟨t,rfl⟩:=r;rfl
 | str _=>obtain⟨t,rfl⟩:=r;rfl
 | byt _=>obtain⟨t,rfl⟩:=r;rfl
 | flt _=>obtain⟨t,rfl⟩:=r;rfl
 | ref _=>cases r;rfl
 | ty _=>cases r;rfl
theorem D3.inj{x y:V}{u:Value}(r:D3 x u) (q:D3 y u):x=y:=Option.some.inj (r.abs.symm.trans q.abs)
theorem D5.inj:∀{xs ys:List V}{us:List Value},D5 xs us->D5 ys us->xs=ys
 | _,_,_,.nil,.nil=>rfl
 | _,_,_,.cons r t,.cons r' t'=>by rw[r.inj r',D5.inj t t']
section
variable {X:Cx}{pins:List (Addr×Obj)}{σ:St}{H:Hp}{s:Shared}{a:Addr}{xs ys:List V}
theorem SqL.of{K:PySem.W.Frag}(h:H a=some (.lst xs)):SqL K H a xs:=.inl (.inl h)
theorem SqT.of{K:PySem.W.Frag}(h:H a=some (.tup xs)):SqT K H a xs:=.inl (.inl h)
theorem Inv.list(I:Inv X pins σ H s) (h:SqL X.K H a xs):∃its:List Value,D5 xs its/\PlainL s.heap a its.toArray/\xs.length<=sizeLine:=by
 rcases h with h|⟨o,its,n,hk,hc,hd,hs,hz,r⟩
 ·obtain⟨z,its,n,r,e⟩:=h.ok I.hok
  exact⟨its,r,⟨_,n,e,rfl,rfl,rfl⟩,z⟩
 ·refine⟨its.toList,r,⟨o,n,I.kIn a o hk,hc,hd,by simpa using hs⟩,?_⟩
  have e:=r.length
  simp only[Array.length_toList]at e
  omega
theorem Inv.tupN(I:Inv X pins σ H s) (h:SqT X.K H a xs):∃its:List Value,D5 xs its/\ao8 s.heap a its.toArray/\xs.length<=sizeLine:=by
 rcases h with h|⟨o,its,n,hk,hc,hd,hs,hz,r⟩
 ·obtain⟨z,its,r,p⟩:=h.ok I.hok
  exact⟨its,r,p,z⟩
 ·refine⟨its.toList,r,⟨o,I.kIn a o hk,hc,⟨n,by simpa using hs⟩,hd⟩,?_⟩
  have e:=r.length
  simp only[Array.length_toList]at e
  omega
theorem Inv.tuple(I:Inv X pins σ H s) (h:SqT X.K H a xs):∃its:List Value,D5 xs its/\IsTup s.heap a its.toArray/\xs.length<=sizeLine :=
 let⟨its,r,p,z⟩:=I.tupN h;⟨its,r,p.tup,z⟩
theorem Inv.list_inj(I:Inv X pins σ H s) (h:SqL X.K H a xs) (h':SqL X.K H a ys):xs=ys:=by
 obtain⟨its,r,⟨o,n,e,_,_,d⟩,_⟩:=I.list h
 obtain⟨its',r',⟨o',n',e',_,_,d'⟩,_⟩:=I.list h'
 rw[e]at e';cases e'
 rw[d]at d'
 injection d' with d1 _
 have:its=its':=by simpa using congrArg Array.toList d1
 subst this
 exact r.inj r'
theorem Inv.tuple_inj(I:Inv X pins σ H s) (h:SqT X.K H a xs) (h':SqT X.K H a ys):xs=ys:=by
 obtain⟨its,r,⟨o,e,_,n,d⟩,_⟩:=I.tuple h
 obtain⟨its',r',⟨o',e',_,n',d'⟩,_⟩:=I.tuple h'
 rw[e]at e';cases e'
 rw[d]at d'
 injection d' with d1 _
 have:its=its':=by simpa using congrArg Array.toList d1
 subst this
 exact r.inj r'
end
noncomputable abbrev Cx.wish(X:Cx) (E:Value->Shared->Prop):Cx:={ X with xe:=E }
noncomputable abbrev Cx.nox(X:Cx):Cx:=X.wish fun _ _=>False
theorem Cx.Ok.wish{X:Cx}(ok:X.Ok) (E:Value->Shared->Prop):(X.wish E).Ok :=
 ⟨ok.mod,ok.kind,ok.glob,ok.blt,ok.above,ok.inj,ok.has,ok.cab,ok.hd,ok.frames,ok.stk,ok.exf,ok.bs,ok.bsz,ok.noex,ok.exfs,ok.funs,ok.frf⟩
theorem Cx.Ok.unwish{X:Cx}{E:Value->Shared->Prop}(ok:(X.wish E).Ok):X.Ok :=
 ⟨ok.mod,ok.kind,ok.glob,ok.blt,ok.above,ok.inj,ok.has,ok.cab,ok.hd,ok.frames,ok.stk,ok.exf,ok.bs,ok.bsz,ok.noex,ok.exfs,ok.funs,ok.frf⟩
section
variable {X:Cx}{pins:List (Addr×Obj)}{σ:St}{H:Hp}{s:Shared}{E:Value->Shared->Prop}
theorem Inv.wish(I:Inv X pins σ H s) (E:Value->Shared->Prop):Inv (X.wish E) pins σ H s:=⟨I.ok.wish E,I.os,I.bare,I.base,I.loc,I.cell,I.free,I.freeC,I.pin,I.hok,I.len⟩
theorem Inv.unwish(I:Inv (X.wish E) pins σ H s):Inv X pins σ H s:=⟨I.ok.unwish,I.os,I.bare,I.base,I.loc,I.cell,I.free,I.freeC,I.pin,I.hok,I.len⟩
theorem SP.unwish{D:Ends}{f:Flow}{s':Shared}(h:SP (X.wish E) pins D f s'):SP X pins D f s':=by
 cases f with
 | next=>obtain⟨σ',H',I,q⟩:=h;exact⟨σ',H',I.unwish,q⟩
 | brk=>obtain⟨σ',H',I,q⟩:=h;exact⟨σ',H',I.unwish,q⟩
 | cont=>obtain⟨σ',H',I,q⟩:=h;exact⟨σ',H',I.unwish,q⟩
 | ret u=>obtain⟨v,σ',H',I,r,q⟩:=h;exact⟨v,σ',H',I.unwish,r,q⟩
theorem PSs.nox{st:List Stmt}{t:TS}(h:PSs X.nox st t):PSs X st t:=fun pins s σ H D I hw =>wpAny_mono (h pins s σ H D (I.wish _) hw) (fun _ _ q=>q.unwish) fun _ _ z=>False.elim z
end
section
variable {X:Cx}{st:Stmt}{F5:List Stmt}{t u:TS}{e:Expr}{te:TE}{pos:Pos}
noncomputable def bD6:TS:=fun D σ H=>D.nx σ H
noncomputable def cj2(t u:TS):TS:=fun D σ H=>t { D with nx:=u D } σ H
theorem bt3:PSs X [] bD6:=fun _ _ σ H _ I h=>wpAny_execs_nil ⟨σ,H,I,h⟩
theorem ac7(h1:PS X st t) (h2:PSs X F5 u):PSs X (st::F5) (cj2 t u):=by
 intro pins s σ H D I h
 refine wpAny_execs_cons (thn (h1 pins s σ H { D with nx:=u D } I h) fun f s1 q=>?_)
 cases f with
 | next =>
  obtain⟨σ',H',I',q⟩:=q
  exact h2 pins s1 σ' H' D I' q
 | ret v=>exact q
 | brk=>exact q
 | cont=>exact q
theorem bt2(h1:PS X st t):PSs X [st] t:=by
 intro pins s σ H D I h
 refine wpAny_execs_cons (thn (h1 pins s σ H D I h) fun f s1 q=>?_)
 cases f with
 | next=>exact wpAny_execs_nil q
 | ret v=>exact q
 | brk=>exact q
 | cont=>exact q
noncomputable def bJ1:TS:=fun D σ H=>D.bk σ H
noncomputable def bZ6:TS:=fun D σ H=>D.ct σ H
theorem bt4:PS X (.Pass pos) bD6:=fun _ _ σ H _ I h=>wpAny_Pass ⟨σ,H,I,h⟩
theorem bf0:PS X (.Break pos) bJ1:=fun _ _ σ H _ I h=>wpAny_Break ⟨σ,H,I,h⟩
theorem aB4:PS X (.Continue pos) bZ6:=fun _ _ σ H _ I h=>wpAny_Continue ⟨σ,H,I,h⟩
theorem Inv.quiet{pins:List (Addr×Obj)}{σ:St}{H:Hp}{s:Shared}(I:Inv X pins σ H s):interactive X.env=false:=by simp[interactive,I.ok.kind]
noncomputable def bZ3(te:TE):TS:=fun D σ H=>te σ H fun _ H1=>D.nx σ H1
theorem aw7(he:PE X e te) (hs:swapsWith e none pos.line X.env=pure false:=by rfl):PS X (.Expr e pos) (bZ3 te):=by
 intro pins s σ H D I h
 exact wpAny_Expr_any (thn (he pins s σ H _ I h) fun v s1 ⟨x,H1,I1,r1,q1⟩=>⟨σ,H1,I1,q1⟩) I.quiet hs
noncomputable def cj3(te:TE):TS:=fun D σ H=>te σ H D.rt
theorem bK1(he:PE X e te):PS X (.Return (some e) pos) (cj3 te):=by
 intro pins s σ H D I h
 exact wpAny_Return_some (thn (he pins s σ H _ I h) fun v s1 ⟨x,H1,I1,r1,q1⟩=>⟨x,σ,H1,I1,r1,q1⟩)
noncomputable def cj8(c:TT) (t u:TS):TS:=fun D σ H=>c σ H fun b H1=>if b=true then t D σ H1 else u D σ H1
theorem bE1{c:Expr}{a b:List Stmt}{tc:TT}(hc:PT X c tc) (ha:PSs X a t) (hb:PSs X b u):PS X (.If c a b pos) (cj8 tc t u):=by
 intro pins s σ H D I h
 refine wpAny_If (thn (hc pins s σ H _ I h) fun d s1 ⟨H1,I1,q1⟩=>?_)
 cases d with
 | true=>exact ha pins s1 σ H1 D I1 q1
 | false=>exact hb pins s1 σ H1 D I1 q1
noncomputable def bI9:TS:=fun _ _ _=>False
theorem V8{sts:List Stmt}:PSs X sts bI9:=fun _ _ _ _ _ _ h=>h.elim
end
noncomputable abbrev TG:=V->St->Hp->(St->Hp->Prop)->Prop
noncomputable abbrev TGs:=List V->St->Hp->(St->Hp->Prop)->Prop
noncomputable def PG(X:Cx) (target:Expr) (t:TG):Prop :=
 ∀(pins:List (Addr×Obj)) (s:Shared) (σ:St) (H:Hp) (v:V) (u:Value) (Q:St->Hp->Prop),Inv X pins σ H s->D3 v u->t v σ H Q ->
  wpAny (model X.prog X.w) X.A (assign target X.env u) (fun _ s'=>∃σ' H',Inv X pins σ' H' s'/\Q σ' H') X.xe s
noncomputable def PGs(X:Cx) (ts:List Expr) (t:TGs):Prop :=
 ∀(pins:List (Addr×Obj)) (s:Shared) (σ:St) (H:Hp) (vs:List V) (us:List Value) (Q:St->Hp->Prop),Inv X pins σ H s->D5 vs us->t vs σ H Q ->
  wpAny (model X.prog X.w) X.A (assignInOrder ((assignEach ts X.env).map (·.2)) us) (fun _ s'=>∃σ' H',Inv X pins σ' H' s'/\Q σ' H') X.xe s
section
variable {X:Cx}{pos:Pos}
noncomputable def bF7(i:Nat):TG:=fun v σ H Q=>Q (σ.set i (some v)) H
theorem bu0{i:Nat}{x:Str}(hN:X.N.Nodup) (hi:X.N[i]? = some x) (hx:Loc X.env.scope x) (hf:X.fn x=true\/X.env.scope.names.lookup x=some .local:=by first|exact .inl rfl|exact .inr rfl|assumption):PG X (.Name x pos) (bF7 i):=by
 intro pins s σ H v u Q I r h
 exact wpAny_assign_Name (ab8 I hN hi hx r (fun s' I'=>⟨_,H,I',h⟩) hf)
noncomputable def cm1:TGs:=fun vs σ H Q=>vs=[]/\Q σ H
noncomputable def cf8(t:TG) (u:TGs):TGs:=fun vs σ H Q=>∃v r,vs=v::r/\t v σ H fun σ' H'=>u r σ' H' Q
theorem bt9:PGs X [] cm1:=by
 intro pins s σ H vs us Q I r h
 obtain⟨e,h⟩:=h
 subst e
 cases r
 exact assignInOrder_nil ⟨σ,H,I,h⟩
theorem bf7{e:Expr}{es:List Expr}{t:TG}{u:TGs}(h1:PG X e t) (h2:PGs X es u)
  (hs:(assignEach (e::es) X.env).map (·.2)=assign e X.env::(assignEach es X.env).map (·.2):=by rfl):PGs X (e::es) (cf8 t u):=by
 intro pins s σ H vs us Q I r h
 obtain⟨v,vr,e1,h⟩:=h
 subst e1
 cases r with
 | cons r rr =>
  rw[hs]
  refine assignInOrder_cons (thn (h1 pins s σ H _ _ _ I r h) fun _ s1 ⟨σ1,H1,I1,q1⟩=>?_)
  exact h2 pins s1 σ1 H1 _ _ Q I1 rr q1
noncomputable def cm0(K:PySem.W.Frag) (n:Nat) (t:TGs):TG:=fun v σ H Q=>∃a xs,v=.ref a/\SqT K H a xs/\xs.length=n/\t xs σ H Q
theorem bK7{es:List Expr}{k:Nat}{t:TGs}{n:Nat}(hc:X.calm=true) (h:PGs X es t)
  (hn:(assignEach es X.env).length=n:=by rfl) (hst:(assignEach es X.env).findIdx? (·.1)=none:=by rfl):PG X (.Tuple es k pos) (cm0 X.K n t):=by
 intro pins s σ H v u Q I r hw
 obtain⟨a,xs,e1,hq,hl,hw⟩:=hw
 subst e1
 cases r
 obtain⟨its,rv,ht,hz⟩:=I.tuple hq
 refine assign_Tuple_tuple (I.ok.hd hc) ht (by simp[hn,← hl,rv.length]) hst fun h' hx=>?_
 have I1:Inv X pins σ H { s with heap:=h' }:=I.kept (t':=s.toks) fun b o e=>hx b o (Nat.ne_of_lt (Heap.lt_size e)) e
 exact h pins _ σ H xs _ Q I1 (by simpa using rv) hw
noncomputable def bZ8(te:TE) (g:TG):TS:=fun D σ H=>te σ H fun x H1=>g x σ H1 D.nx
theorem bK4{tg e:Expr}{te:TE}{g:TG}(he:PE X e te) (hg:PG X tg g) (hs:swapsWithSole [tg] e pos.line X.env=pure false:=by rfl) (hw:swappedStores [tg] e X.env=pure none:=by rfl)
  (h1:(assignEach [tg] X.env).map (·.2)=[assign tg X.env]:=by rfl):PS X (.Assign [tg] e pos) (bZ8 te g):=by
 intro pins s σ H D I h
 refine wpAny_Assign_stores (thn (he pins s σ H _ I h) fun v s1 ⟨x,H1,I1,r1,q1⟩=>?_) hs hw
 rw[h1]
 exact thn (hg pins s1 σ H1 x v _ I1 r1 q1) fun _ s2 q=>q
theorem be9{i:Nat}{x:Str}{e:Expr}{te:TE}{pos':Pos}(hN:X.N.Nodup) (hi:X.N[i]? = some x) (hx:Loc X.env.scope x) (he:PE X e te) (hs:swapsWith e (some (.Name x pos')) pos.line X.env=pure false:=by rfl) (hf:X.fn x=true\/X.env.scope.names.lookup x=some .local:=by first|exact .inl rfl|exact .inr rfl|assumption) :
  PS X (.Assign [.Name x pos'] e pos) (bZ8 te (bF7 i)):=by
 intro pins s σ H D I h
 refine wpAny_Assign_Name (thn (he pins s σ H _ I h) fun v s1 ⟨y,H1,I1,r1,q1⟩=>?_) hs
 exact ab8 I1 hN hi hx r1 (fun s2 I2=>⟨_,H1,I2,q1⟩) hf
noncomputable def cj4(i j:Nat) (ta:TA):TS:=fun D σ H=>ta σ H fun vs H1=>∃v w,vs=[v,w]/\D.nx ((σ.set i (some v)).set j (some w)) H1
theorem bK2{i j:Nat}{x y:Str}{a b:Expr}{ta:TA}{px py pt:Pos}{kt k2 pt2} (hc:X.calm=true) (hN:X.N.Nodup) (hi:X.N[i]? = some x) (hj:X.N[j]? = some y) (hij:i≠j)
  (hx:X.env.scope.names.lookup x=some .local) (hy:X.env.scope.names.lookup y=some .local) (ha:PA X [a,b] ta)
  (hw:swappedStores [.Tuple [.Name x px,.Name y py] kt pt] (.Tuple [a,b] k2 pt2) X.env=pure (some [x,y]))
  (hs:swapsWithSole [.Tuple [.Name x px,.Name y py] kt pt] (.Tuple [a,b] k2 pt2) pos.line X.env=pure false:=by rfl) :
  PS X (.Assign [.Tuple [.Name x px,.Name y py] kt pt] (.Tuple [a,b] k2 pt2) pos) (cj4 i j ta):=by
 intro pins s σ H D I h
 rw[exec_Assign_arm]
 refine wpAny_bind (wpAny_standAt ?_)
 rw[hs]
 refine wpAny_bind (wpAny_pure ?_)
 rw[if_neg (by decide)]
 refine wpAny_bind (Tuple_ (thn (ha _ pins s σ H _ I h) fun us s1 ⟨vs,H1,I1,r1,q1⟩=>?_))
 obtain⟨v,w,e1,q1⟩:=q1
 subst e1
 obtain⟨u1,u2,rfl,rv,rw'⟩:∃u1 u2,us=[u1,u2]/\D3 v u1/\D3 w u2:=by
  cases r1 with
  | cons p q =>
   cases q with
   | cons p' q' =>
    cases q'
    exact⟨_,_,rfl,p,p'⟩
 refine wpAny_newObj_type ?_ (by show 2<=sizeLine;decide)
 have I2:Inv X pins σ H1 { s1 with heap:=s1.heap.push { cls:=.type "tuple", data:=.seq [u1,u2].toArray } }:=I1.kept (t':=s1.toks) fun b o e=>Heap.get?_push_of_some _ e
 rw[hw]
 refine wpAny_bind (wpAny_pure ?_)
 show wpAny (model X.prog X.w) X.A (do rule "assign.swapped-stores";let items ← unpackItems (.ref s1.heap.objs.size) 2 none;assignInOrder [fun v=>bindName X.env y v,fun v=>bindName X.env x v] items.reverse;pure Flow.next) _ _ _
 refine wpAny_bind (wpAny_rule (wpAny_bind (unpackItems_tuple (items:=#[u1,u2]) (I.ok.hd hc) (IsTup.new s1.heap _) fun h' hx'=>?_)))
 have I3:=I2.kept (h':=h') (t':=s1.toks) fun b o e=>hx' b o (Nat.ne_of_lt (Heap.lt_size e)) e
 show wpAny _ _ (assignInOrder [fun v=>bindName X.env y v,fun v=>bindName X.env x v] [u2,u1] >>= fun _=>pure Flow.next) _ _ _
 refine wpAny_bind (assignInOrder_cons (wpAny_bindName (ab8 I3 hN hj (.inl hy) rw' (fun s2 I4=>?_) (.inr hy))))
 refine assignInOrder_cons (wpAny_bindName (ab8 I4 hN hi (.inl hx) rv (fun s3 I5=>assignInOrder_nil (wpAny_pure ?_)) (.inr hx)))
 rw[List.set_comm _ _ (Ne.symm hij)]at I5
 exact⟨_,H1,I5,q1⟩
end
section
variable {X:Cx}{pos:Pos}
noncomputable def bI8(c:TT) (tb:TS):TS:=fun D σ H=>∃W:Nat->St->Hp->Prop,(∃m,W m σ H)/\∀m σ H,W m σ H ->
 c σ H fun b H1=>if b=true then ∃N:St->Hp->Prop,(∀σ' H',N σ' H'->∃m',m' < m/\W m' σ' H')/\tb { D with nx:=N,ct:=N,bk:=D.nx } σ H1 else D.nx σ H1
theorem be8{c:Expr}{body:List Stmt}{tc:TT}{tb:TS}(hp:PassesOwn (model X.prog X.w) X.A X.env X.xe) (hc:PT X c tc) (hb:PSs X body tb):PS X (.While c body [] pos) (bI8 tc tb):=by
 intro pins s σ H D I h
 obtain⟨W,⟨m0,w0⟩,turn⟩:=h
 refine wpAny_While (codeAny_whileLoop (fun n s'=>∃σ' H',Inv X pins σ' H' s'/\W n σ' H') ?_ m0 ⟨σ,H,I,w0⟩)
 rintro n s1 ⟨σ1,H1,I1,w1⟩
 refine wpAny_passesOwn hp (thn (hc pins s1 σ1 H1 _ I1 (turn n σ1 H1 w1)) fun b s2 ⟨H2,I2,q2⟩=>?_)
 cases b with
 | true =>
  obtain⟨N,hN,q2⟩:=q2
  rw[if_pos rfl]
  refine wpAny_passesOwn hp (thn (hb pins s2 σ1 H2 _ I2 q2) fun f s3 q3=>?_)
  cases f with
  | next =>
   obtain⟨σ3,H3,I3,n3⟩:=q3
   obtain⟨m',hm,w3⟩:=hN σ3 H3 n3
   exact⟨m',hm,σ3,H3,I3,w3⟩
  | cont =>
   obtain⟨σ3,H3,I3,n3⟩:=q3
   obtain⟨m',hm,w3⟩:=hN σ3 H3 n3
   exact⟨m',hm,σ3,H3,I3,w3⟩
  | brk=>exact q3
  | ret v=>exact q3
 | false =>
  rw[if_neg Bool.false_ne_true]
  exact wpAny_execs_nil ⟨σ1,H2,I2,q2⟩
end
structure It where
 go:Nat->Hp->Prop
 yld:Nat->Hp->V->Hp->Prop
 stop:Nat->Hp->Prop
noncomputable def ap4(X:Cx) (pins:List (Addr×Obj)) (H:Hp) (b:Addr):Prop :=
 H b=none/\b≠X.env.locals/\b∉X.fs/\(b∈X.ex\/X.s₀.heap.objs.size<=b)/\(∀x c,X.env.cells.lookup x=some c->c≠b)/\∀p∈X.pn++pins,p.1≠b
theorem Inv.fpOk{X:Cx}{pins:List (Addr×Obj)}{σ:St}{H H':Hp}{s:Shared}{b:Addr}(I:Inv X pins σ H s) (hb:s.heap.objs.size<=b) (hn:H' b=none):ap4 X pins H' b:=by
 refine⟨hn,Nat.ne_of_gt (Nat.lt_of_lt_of_le I.lt hb),I.nofs hb,.inr (Nat.le_trans I.sz hb),fun x c e z=>?_,fun p hp z=>?_⟩
 ·obtain⟨v,q⟩:=I.cell x c e
  exact absurd (Nat.lt_of_lt_of_le q.lt (by rw[z];exact hb)) (Nat.lt_irrefl _)
 ·exact absurd (Nat.lt_of_lt_of_le (Heap.lt_size (I.pin p hp).1) (by rw[z];exact hb)) (Nat.lt_irrefl _)
structure Turn (P:Program) (w:World) (K:PySem.W.Frag) (tg:Expr) (J:It) (fp:List Addr) (it:Addr) (tn:Nat->Heap->Prop):Prop where
 mem:it∈fp
 obj:∀i h,tn i h->∀b∈fp,∃o,h.get? b=some o/\∀v,o.data≠.cell v
 keep:∀i h h',tn i h->(∀b∈fp,∀o,h.get? b=some o->h'.get? b=some o)->tn i h'
 item:∀(X:Cx),X.prog=P->X.w=w->X.K=K->X.calm=true->∀(i:Nat) (pins:List (Addr×Obj)) (s:Shared) (σ:St) (H:Hp) (E:Value->Shared->Prop),Inv X pins σ H s->(∀b∈fp,ap4 X pins H b)->tn i s.heap->J.go i H ->
  wpAny (model P w) X.A (pyNext (.ref it)) (fun r s1=>∃u,r=some u /\
   wpAny (model P w) X.A (letOwnedTupleGo tg (.ref it) u) (fun _ s2=>∃x H',Inv X pins σ H' s2/\D3 x u/\J.yld i H x H'/\tn (i+1) s2.heap/\∀b∈fp,H' b=none) E s1) E s
 done:∀(X:Cx),X.prog=P->X.w=w->X.K=K->X.calm=true->∀(i:Nat) (pins:List (Addr×Obj)) (s:Shared) (σ:St) (H:Hp) (E:Value->Shared->Prop),Inv X pins σ H s->(∀b∈fp,ap4 X pins H b)->tn i s.heap->J.stop i H ->
  wpAny (model P w) X.A (pyNext (.ref it)) (fun r s1=>r=none/\Inv X pins σ H s1) E s
 self:∀(A:Around) (i:Nat) (s:Shared) (Q:Value->Shared->Prop) (E:Value->Shared->Prop),tn i s.heap->Q (.ref it) s->wpAny (model P w) A (pyIter (.ref it)) Q E s
noncomputable abbrev TI:=St->Hp->(It->Hp->Prop)->Prop
noncomputable def PIE(X:Cx) (pins:List (Addr×Obj)) (σ:St) (tg:Expr) (R:It->Hp->Prop) (itv:Value) (s2:Shared):Prop :=
 ∃(it:Addr) (fp:List Addr) (tn:Nat->Heap->Prop) (J:It) (H':Hp),itv=.ref it/\Inv X pins σ H' s2/\Turn X.prog X.w X.K tg J fp it tn/\tn 0 s2.heap/\(∀b∈fp,ap4 X pins H' b)/\R J H'
noncomputable def PI(X:Cx) (tg iter:Expr) (wi:TI):Prop :=
 ∀(pins:List (Addr×Obj)) (s:Shared) (σ:St) (H:Hp) (R:It->Hp->Prop),Inv X pins σ H s->wi σ H R ->
  wpAny (model X.prog X.w) X.A (eval iter X.env) (fun v s1=>wpAny (model X.prog X.w) X.A (pyIter v) (PIE X pins σ tg R) X.xe s1) X.xe s
theorem bm0{M:Model}{A:Around}{E:Value->Shared->Prop}{s:Shared}{tg:Expr}{it:Addr}{u:Value}{o:Obj}{n:String}{vs:Array Value}{Q:Unit->Shared->Prop}(ho:s.heap.get? it=some o) (hc:o.cls=.type n) (hd:o.data=.fields vs)
    (hn:["enumerate", "zip", "dict_itemiterator", "dict_reverseitemiterator", "odict_iterator", "itertools.zip_longest", "itertools.pairwise"].contains n=false) (hQ:Q () s):wpAny M A (letOwnedTupleGo tg (.ref it) u) Q E s:=by
  unfold letOwnedTupleGo
  cases tg<;>first
    | exact wpAny_pure hQ
    | (cases u<;>first
        | exact wpAny_pure hQ
        | (refine wpAny_bind (wpAny_load ho ?_)
           rw[hc,hd]
           show wpAny M A (if(["enumerate", "zip", "dict_itemiterator", "dict_reverseitemiterator", "odict_iterator", "itertools.zip_longest", "itertools.pairwise"].contains n&&vs[0]? == some (rawInt _))=true then _ else _) Q E s
           rw[if_neg (by intro h;rw[hn,Bool.false_and]at h;cases h)]
           exact wpAny_pure hQ))
noncomputable def Itl(K:PySem.W.Frag) (a:Addr):It :=
 ⟨fun i H=>∃xs x,SqL K H a xs/\xs[i]? = some x,fun i H x H'=>H'=H/\∀xs,SqL K H a xs->xs[i]? = some x,fun i H=>∃xs,SqL K H a xs/\xs.length<=i⟩
noncomputable def Itt(K:PySem.W.Frag) (a:Addr):It :=
 ⟨fun i H=>∃xs x,SqT K H a xs/\xs[i]? = some x,fun i H x H'=>H'=H/\∀xs,SqT K H a xs->xs[i]? = some x,fun i H=>∃xs,SqT K H a xs/\xs.length<=i⟩
noncomputable def Itr(lo:Int) (n:Nat):It:=⟨fun i _=>i < n,fun i H x H'=>H'=H/\x=.int (lo+i),fun i _=>n<=i⟩
theorem aU0{P:Program}{w:World}{K:PySem.W.Frag}{tg:Expr}(a it:Addr):Turn P w K tg (Itl K a) [it] it (fun i h=>h.IsListIter it a i) where
 mem:=by simp
 obj:=fun i h st b hb=>by
  have e:b=it:=by simpa using hb
  subst e
  obtain⟨o,e,c,d⟩:=st
  exact⟨o,e,fun v z=>by rw[d]at z;cases z⟩
 keep:=fun i h h' st k=>st.at fun o e=>k it (by simp) o e
 item:=by
  intro X hP hw hK hc i pins s σ H E I hf st hg
  subst hP hw hK
  obtain⟨xs,x,hq,hx⟩:=hg
  obtain⟨its,rv,p,hz⟩:=I.list hq
  obtain⟨u,hu,ru⟩:=rv.get hx
  obtain⟨f0,f1,f2,f3,f4,f5⟩:=hf it (by simp)
  refine wpAny_pyNext_list_item st p.isList (x:=u) (by simpa using hu) fun h' st' sb=>?_
  have I1:Inv X pins σ H { s with heap:=h' }:=I.turned (t':=s.toks) (fun b o hb e=>(sb.2 b hb).trans e) f0 f1 f3 f4 f5
  obtain⟨o,e,c,d⟩:=id st'
  exact⟨u,rfl,bm0 (s:={ s with heap:=h' }) e c d (by decide) ⟨x,H,I1,ru,⟨rfl,fun ys hy=>by rw[I.list_inj hy hq];exact hx⟩,st',fun b hb=>(hf b hb).1⟩⟩
 done:=by
  intro X hP hw hK hc i pins s σ H E I hf st hg
  subst hP hw hK
  obtain⟨xs,hq,hx⟩:=hg
  obtain⟨its,rv,p,hz⟩:=I.list hq
  obtain⟨f0,f1,f2,f3,f4,f5⟩:=hf it (by simp)
  have hl:=rv.length
  exact wpAny_pyNext_list_end (I.ok.hd hc) st p.isList (by simp;omega) fun h' eb=>⟨rfl,I.turned (t':=s.toks) (fun b o hb e=>eb b o hb e) f0 f1 f3 f4 f5⟩
 self:=fun _ _ _ _ _ st h=>wpAny_pyIter_listiter st h
theorem aH2{P:Program}{w:World}{K:PySem.W.Frag}{tg:Expr}(a it:Addr):Turn P w K tg (Itt K a) [it] it (fun i h=>h.IsTupleIter it a i) where
 mem:=by simp
 obj:=fun i h st b hb=>by
  have e:b=it:=by simpa using hb
  subst e
  obtain⟨o,e,c,d⟩:=st
  exact⟨o,e,fun v z=>by rw[d]at z;cases z⟩
 keep:=fun i h h' st k=>st.at fun o e=>k it (by simp) o e
 item:=by
  intro X hP hw hK hc i pins s σ H E I hf st hg
  subst hP hw hK
  obtain⟨xs,x,hq,hx⟩:=hg
  obtain⟨its,rv,p,hz⟩:=I.tuple hq
  obtain⟨u,hu,ru⟩:=rv.get hx
  obtain⟨f0,f1,f2,f3,f4,f5⟩:=hf it (by simp)
  refine wpAny_pyNext_tuple_item st (show s.heap.IsTuple a its.toArray from p) (x:=u) (by simpa using hu) fun h' st' sb=>?_
  have I1:Inv X pins σ H { s with heap:=h' }:=I.turned (t':=s.toks) (fun b o hb e=>(sb.2 b hb).trans e) f0 f1 f3 f4 f5
  obtain⟨o,e,c,d⟩:=id st'
  exact⟨u,rfl,bm0 (s:={ s with heap:=h' }) e c d (by decide) ⟨x,H,I1,ru,⟨rfl,fun ys hy=>by rw[I.tuple_inj hy hq];exact hx⟩,st',fun b hb=>(hf b hb).1⟩⟩
 done:=by
  intro X hP hw hK hc i pins s σ H E I hf st hg
  subst hP hw hK
  obtain⟨xs,hq,hx⟩:=hg
  obtain⟨its,rv,p,hz⟩:=I.tuple hq
  obtain⟨f0,f1,f2,f3,f4,f5⟩:=hf it (by simp)
  have hl:=rv.length
  exact wpAny_pyNext_tuple_end (I.ok.hd hc) st (show s.heap.IsTuple a its.toArray from p) (by simp;omega) fun h' eb=>⟨rfl,I.turned (t':=s.toks) (fun b o hb e=>eb b o hb e) f0 f1 f3 f4 f5⟩
 self:=fun _ _ _ _ _ st h=>wpAny_pyIter_tupleiter st h
theorem aH3{P:Program}{w:World}{K:PySem.W.Frag}{tg:Expr}(it:Addr) (lo:Int) (n:Nat):Turn P w K tg (Itr lo n) [it] it (fun i h=>IsRangeIter h it (lo+(i:Nat)*1) ((n:Int) - (i:Nat)) 1) where
 mem:=by simp
 obj:=fun i h st b hb=>by
  have e:b=it:=by simpa using hb
  subst e
  exact⟨_,st,fun v z=>by
   have z':Data.fields _=Data.cell v:=z
   cases z'⟩
 keep:=fun i h h' st k=>k it (by simp) _ st
 item:=by
  intro X hP hw hK hc i pins s σ H E I hf st hg
  subst hP hw hK
  obtain⟨f0,f1,f2,f3,f4,f5⟩:=hf it (by simp)
  have W:=Walks.range (prog:=X.prog) (w:=X.w) (I.ok.hd hc) it lo 1 n
  refine W.item i s _ _ hg st fun v h' tk hv st' kk=>?_
  obtain⟨t,rfl⟩:=hv
  have I1:Inv X pins σ H { s with heap:=h',toks:=tk }:=I.turned (fun b o hb e=>kk b o (by simpa using hb) e) f0 f1 f3 f4 f5
  refine⟨_,rfl,bm0 (s:={ s with heap:=h',toks:=tk }) (n := "range_iterator") st' rfl rfl (by decide) ⟨.int (lo+i),H,I1,⟨t,?_⟩,⟨rfl,rfl⟩,st',fun b hb=>(hf b hb).1⟩⟩
  rw[Int.mul_one]
 done:=by
  intro X hP hw hK hc i pins s σ H E I hf st hg
  subst hP hw hK
  obtain⟨f0,f1,f2,f3,f4,f5⟩:=hf it (by simp)
  exact wpAny_pyNext_range_end (I.ok.hd hc) st (by have:n<=i:=hg;omega) fun h' eb=>⟨rfl,I.turned (t':=s.toks) (fun b o hb e=>eb b o hb e) f0 f1 f3 f4 f5⟩
 self:=fun _ _ _ _ _ st h=>wpAny_pyIter_rangeiter st h
section
variable {X:Cx}{tg:Expr}
noncomputable def cf2(K:PySem.W.Frag) (tl:TE):TI:=fun σ H R=>tl σ H fun x H1=>∃a,x=.ref a/\(∃xs,SqL K H1 a xs)/\R (Itl K a) H1
noncomputable def cl8(K:PySem.W.Frag) (tl:TE):TI:=fun σ H R=>tl σ H fun x H1=>∃a,x=.ref a/\(∃xs,SqT K H1 a xs)/\R (Itt K a) H1
theorem bt8{l:Expr}{tl:TE}(hl:PE X l tl):PI X tg l (cf2 X.K tl):=by
 intro pins s σ H R I h
 refine thn (hl pins s σ H _ I h) fun v s1 ⟨x,H1,I1,r1,q1⟩=>?_
 obtain⟨a,e,⟨xs,hq⟩,q⟩:=q1
 subst e
 cases r1
 obtain⟨its,rv,p,hz⟩:=I1.list hq
 refine wpAny_pyIter_list p.isList ?_
 refine⟨s1.heap.objs.size,[s1.heap.objs.size],_,_,H1,rfl,I1.kept (t':=s1.toks) fun b o e=>Heap.get?_push_of_some _ e,aU0 a _,⟨_,Heap.get?_push_size _ rfl,rfl,rfl⟩,fun b hb=>?_,q⟩
 have e:b=s1.heap.objs.size:=by simpa using hb
 subst e
 exact I1.fpOk (Nat.le_refl _) (I1.hok.fresh (Nat.le_refl _))
theorem bK6{l:Expr}{tl:TE}(hl:PE X l tl):PI X tg l (cl8 X.K tl):=by
 intro pins s σ H R I h
 refine thn (hl pins s σ H _ I h) fun v s1 ⟨x,H1,I1,r1,q1⟩=>?_
 obtain⟨a,e,⟨xs,hq⟩,q⟩:=q1
 subst e
 cases r1
 obtain⟨its,rv,p,hz⟩:=I1.tuple hq
 refine wpAny_pyIter_tuple (show s1.heap.IsTuple a its.toArray from p) ?_
 refine⟨s1.heap.objs.size,[s1.heap.objs.size],_,_,H1,rfl,I1.kept (t':=s1.toks) fun b o e=>Heap.get?_push_of_some _ e,aH2 a _,⟨_,Heap.get?_push_size _ rfl,rfl,rfl⟩,fun b hb=>?_,q⟩
 have e:b=s1.heap.objs.size:=by simpa using hb
 subst e
 exact I1.fpOk (Nat.le_refl _) (I1.hok.fresh (Nat.le_refl _))
theorem be5{pins:List (Addr×Obj)}{σ:St}{H:Hp}{s:Shared}{R:It->Hp->Prop}{E:Value->Shared->Prop}{lo hi:Int}{t u v:Tok}{tk:Nat}(I:Inv X pins σ H s) (h1:-(2 ^ 62)<=lo) (h2:lo < 2 ^ 62) (h3:-(2 ^ 62)<=hi) (h4:hi < 2 ^ 62)
  (q:R (Itr lo (hi - lo).toNat) H):wpAny (model X.prog X.w) X.A (pyIter (.ref s.heap.objs.size)) (PIE X pins σ tg R) E { s with heap:=s.heap.push { cls:=.type "range", data:=.fields #[.int lo t,.int hi u,.int 1 v] },toks:=tk }:=by
 refine wpAny_pyIter_range (IsRange.new ..) (small_one h1 h2 h3 h4) ?_
 have I1:Inv X pins σ H { s with heap:=s.heap.push { cls:=.type "range", data:=.fields #[.int lo t,.int hi u,.int 1 v] },toks:=tk }:=I.kept fun b o e=>Heap.get?_push_of_some _ e
 refine⟨(s.heap.push { cls:=.type "range", data:=.fields #[.int lo t,.int hi u,.int 1 v] }).objs.size,[(s.heap.push { cls:=.type "range", data:=.fields #[.int lo t,.int hi u,.int 1 v] }).objs.size],_,_,H,rfl,
  I1.kept (t':=tk) fun b o e=>Heap.get?_push_of_some _ e,aH3 _ lo (hi - lo).toNat,?_,fun b hb=>?_,q⟩
 ·have e1:lo+((0:Nat):Int)*1=lo:=by simp
  have e2:(((hi - lo).toNat:Nat):Int) - ((0:Nat):Int)=Builtin.Range.rangeSize lo hi 1:=by rw[rangeSize_one];split<;>omega
  show IsRangeIter _ _ (lo+((0:Nat):Int)*1) ((((hi - lo).toNat:Nat):Int) - ((0:Nat):Int)) 1
  rw[e1,e2]
  exact Heap.get?_push_size _ rfl
 ·have e:b=(s.heap.push { cls:=.type "range", data:=.fields #[.int lo t,.int hi u,.int 1 v] }).objs.size:=by simpa using hb
  subst e
  exact I1.fpOk (Nat.le_refl _) (I1.hok.fresh (Nat.le_refl _))
noncomputable def cf1(ta:TA):TI:=fun σ H R=>ta σ H fun vs H1=>∃j:Int,vs=[.int j]/\-(2 ^ 62)<=j/\j < 2 ^ 62/\R (Itr 0 j.toNat) H1
theorem aU8{a:Expr}{ta:TA}{p pos:Pos}(hg:Gl X "range") (hm:X.mg "range" = none) (ha:PA X [a] ta) (hs:starEach [a] X.env=[(false,eval a X.env)]:=by rfl):PI X tg (.Call (.Name "range" p) [a] [] pos) (cf1 ta):=by
 intro pins s σ H R I h
 refine Call_ (ay2 I hg hm boot_range (PyProof.Rows.callWith_type1 (thn (ha pos pins s σ H _ I h) fun us s1 ⟨vs,H1,I1,r1,q1⟩=>?_) hs rfl))
 obtain⟨j,e,q1,q2,q⟩:=q1
 subst e
 cases r1 with
 | cons r rr =>
  cases rr
  obtain⟨t,rfl⟩:=r
  exact call_range_1 (be5 I1 (by omega) (by omega) q1 q2 (by simpa using q))
noncomputable def cj9(wi:TI) (g:TG) (tb:TS):TS:=fun D σ H=>wi σ H fun J H1=>∃W:Nat->Nat->St->Hp->Prop,(∃m,W 0 m σ H1)/\∀i m σ H,W i m σ H ->
 (J.stop i H/\D.nx σ H)\/(J.go i H/\∃N:St->Hp->Prop,(∀σ' H',N σ' H'->∃m',m' < m/\W (i+1) m' σ' H')/\∀x H',J.yld i H x H'->g x σ H' fun σ2 H2=>tb { D with nx:=N,ct:=N,bk:=D.nx } σ2 H2)
noncomputable def al7(fp:List Addr) (h:Heap):List (Addr×Obj):=fp.filterMap fun b=>(h.get? b).map fun o=>(b,o)
theorem X7{fp:List Addr}{h:Heap}{b:Addr}{o:Obj}(hb:b∈fp) (e:h.get? b=some o):(b,o)∈al7 fp h:=List.mem_filterMap.mpr ⟨b,hb,by rw[e];rfl⟩
theorem aV2{fp:List Addr}{h:Heap}{p:Addr×Obj}(hp:p∈al7 fp h):p.1∈fp/\h.get? p.1=some p.2:=by
 obtain⟨b,hb,e⟩:=List.mem_filterMap.mp hp
 cases q:h.get? b with
 | none=>rw[q]at e;cases e
 | some o =>
  rw[q]at e
  have e':(b,o)=p:=Option.some.inj e
  subst e'
  exact⟨hb,q⟩
theorem Inv.pinned{pins:List (Addr×Obj)}{σ:St}{H:Hp}{s:Shared}{fp:List Addr}(I:Inv X pins σ H s) (hf:∀b∈fp,ap4 X pins H b) (ho:∀b∈fp,∃o,s.heap.get? b=some o/\∀v,o.data≠.cell v):Inv X (pins++al7 fp s.heap) σ H s :=
 I.pins_of fun p hp=>(List.mem_append.mp hp).elim (fun z=>I.pin p (List.mem_append_right _ z)) fun z=>by
  obtain⟨hb,e⟩:=aV2 z
  obtain⟨f0,f1,f2,_⟩:=hf p.1 hb
  obtain⟨o,e',d⟩:=ho p.1 hb
  rw[e]at e';cases e'
  exact⟨e,f0,f1,f2,d⟩
theorem Inv.unpinned{pins pl:List (Addr×Obj)}{σ:St}{H:Hp}{s:Shared}(I:Inv X (pins++pl) σ H s):Inv X pins σ H s:=I.pins_of fun p hp=>I.pin p (List.mem_append_right _ (List.mem_append_left _ hp))
theorem bK3{iter:Expr}{body:List Stmt}{wi:TI}{g:TG}{tb:TS}{pos:Pos}(hp:PassesOwn (model X.prog X.w) X.A X.env X.xe) (hc:X.calm=true) (hi:PI X tg iter wi) (hg:PG X tg g) (hb:PSs X body tb)
  (hs:∀x,foldedSetIterable iter X.env x=pure x:=by intro _;rfl):PS X (.For tg iter body [] pos) (cj9 wi g tb):=by
 intro pins s σ H D I h
 refine wpAny_For (thn (hi pins s σ H _ I h) fun v s1 h1=>thn h1 fun itv s2 h2=>?_) hs
 obtain⟨it,fp,tn,J,H2,e,I2,T,st2,f2,W,⟨m0,w0⟩,turn⟩:=h2
 subst e
 have stat:∀{H':Hp},(∀b∈fp,H' b=none)->∀b∈fp,ap4 X pins H' b:=fun hn b hb=>⟨hn b hb,(f2 b hb).2⟩
 refine codeAny_forLoop_any (fun n s'=>∃i σ' H',Inv X pins σ' H' s'/\tn i s'.heap/\(∀b∈fp,H' b=none)/\W i n σ' H') ?_ m0 ⟨0,σ,H2,I2,st2,fun b hb=>(f2 b hb).1,w0⟩
 rintro n s3 ⟨i,σ3,H3,I3,st3,fr3,w3⟩
 rcases turn i n σ3 H3 w3 with⟨stop,qn⟩|⟨go,N,hN,step⟩
 ·refine wpAny_passesOwn hp (thn (T.done X rfl rfl rfl hc i pins s3 σ3 H3 X.xe I3 (stat fr3) st3 stop) fun r s4 ⟨hr,I4⟩=>?_)
  subst hr
  exact wpAny_execs_nil ⟨σ3,H3,I4,qn⟩
 ·refine wpAny_passesOwn hp (thn (T.item X rfl rfl rfl hc i pins s3 σ3 H3 X.xe I3 (stat fr3) st3 go) fun r s4 ⟨u,hr,h4⟩=>?_)
  subst hr
  refine wpAny_passesOwn hp (thn h4 fun _ s5 ⟨x,H5,I5,r5,y5,st5,fr5⟩=>?_)
  have I5':=I5.pinned (stat fr5) (T.obj _ _ st5)
  refine wpAny_passesOwn hp (thn (hg _ s5 σ3 H5 x u _ I5' r5 (step x H5 y5)) fun _ s6 ⟨σ6,H6,I6,q6⟩=>?_)
  refine wpAny_passesOwn hp (thn (hb _ s6 σ6 H6 _ I6 q6) fun f s7 q7=>?_)
  have again:∀{σ7:St}{H7:Hp},Inv X (pins++al7 fp s5.heap) σ7 H7 s7->N σ7 H7->∃m,m < n/\∃i σ' H',Inv X pins σ' H' s7/\tn i s7.heap/\(∀b∈fp,H' b=none)/\W i m σ' H':=fun{σ7 H7} I7 n7=>by
   obtain⟨m',hm,w7⟩:=hN σ7 H7 n7
   refine⟨m',hm,i+1,σ7,H7,I7.unpinned,T.keep _ _ _ st5 fun b hb o e=>(I7.pin (b,o) (List.mem_append_right _ (List.mem_append_right _ (X7 hb e)))).1,fun b hb=>?_,w7⟩
   obtain⟨o,e,d⟩:=T.obj _ _ st5 b hb
   exact(I7.pin (b,o) (List.mem_append_right _ (List.mem_append_right _ (X7 hb e)))).2.1
  cases f with
  | next=>obtain⟨σ7,H7,I7,n7⟩:=q7;exact again I7 n7
  | cont=>obtain⟨σ7,H7,I7,n7⟩:=q7;exact again I7 n7
  | brk=>obtain⟨σ7,H7,I7,q7⟩:=q7;exact⟨σ7,H7,I7.unpinned,q7⟩
  | ret v=>obtain⟨x7,σ7,H7,I7,r7,q7⟩:=q7;exact⟨x7,σ7,H7,I7.unpinned,r7,q7⟩
end
noncomputable abbrev R2:=V->V->Hp->VK->Prop
noncomputable def OpR(X:Cx) (f:Value->Value->Sem Value) (r:R2):Prop :=
 ∀(pins:List (Addr×Obj)) (s:Shared) (σ:St) (H:Hp) (x y:V) (v u:Value) (Q:VK),Inv X pins σ H s->D3 x v->D3 y u->r x y H Q ->
  wpAny (model X.prog X.w) X.A (f v u) (EP X pins σ Q) X.xe s
noncomputable def UnR(X:Cx) (f:Value->Sem Value) (r:V->Hp->VK->Prop):Prop :=
 ∀(pins:List (Addr×Obj)) (s:Shared) (σ:St) (H:Hp) (x:V) (v:Value) (Q:VK),Inv X pins σ H s->D3 x v->r x H Q ->
  wpAny (model X.prog X.w) X.A (f v) (EP X pins σ Q) X.xe s
noncomputable def R3(X:Cx) (f:Value) (r:List V->Hp->VK->Prop):Prop :=
 ∀(pins:List (Addr×Obj)) (s:Shared) (σ:St) (H:Hp) (xs:List V) (us:List Value) (Q:VK),Inv X pins σ H s->D5 xs us->r xs H Q ->
  wpAny (model X.prog X.w) X.A (call f us) (EP X pins σ Q) X.xe s
noncomputable def cn2(X:Cx) (r:V->Hp->(Bool->Hp->Prop)->Prop):Prop :=
 ∀(pins:List (Addr×Obj)) (s:Shared) (σ:St) (H:Hp) (x:V) (v:Value) (Q:Bool->Hp->Prop),Inv X pins σ H s->D3 x v->r x H Q ->
  wpAny (model X.prog X.w) X.A (truthy v) (TP X pins σ Q) X.xe s
noncomputable def tOp(r:R2) (ta tb:TE):TE:=fun σ H Q=>ta σ H fun x H1=>tb σ H1 fun y H2=>r x y H2 Q
noncomputable def tUn(r:V->Hp->VK->Prop) (ta:TE):TE:=fun σ H Q=>ta σ H fun x H1=>r x H1 Q
noncomputable def rI(C:Int->Int->Prop) (g:Int->Int->V):R2:=fun x y H Q=>∃i j,x=.int i/\y=.int j/\C i j/\Q (g i j) H
noncomputable def rI0(g:Int->Int->V):R2:=fun x y H Q=>∃i j,x=.int i/\y=.int j/\Q (g i j) H
noncomputable def rU(g:Int->V):V->Hp->VK->Prop:=fun x H Q=>∃i,x=.int i/\Q (g i) H
section
variable {X:Cx}{a b c:Expr}{ta tb tc:TE}{pos:Pos}
theorem bV8(ha:PE X a ta) (hb:PE X b tb) {pins:List (Addr×Obj)}{s:Shared}{σ:St}{H:Hp}{R:V->V->Hp->Prop}(I:Inv X pins σ H s)
  (h:ta σ H fun x H1=>tb σ H1 fun y H2=>R x y H2) {Q:Value->Shared->Prop}{f:Value->Value->Sem Value}
  (hf:∀v u s2 x y H2,Inv X pins σ H2 s2->D3 x v->D3 y u->R x y H2->wpAny (model X.prog X.w) X.A (f v u) Q X.xe s2) :
  wpAny (model X.prog X.w) X.A (eval a X.env) (fun v s₁=>wpAny (model X.prog X.w) X.A (eval b X.env) (fun u s₂=>wpAny (model X.prog X.w) X.A (f v u) Q X.xe s₂) X.xe s₁) X.xe s:=by
 refine thn (ha pins s σ H _ I h) fun v s1 ⟨x,H1,I1,r1,q1⟩=>?_
 refine thn (hb pins s1 σ H1 _ I1 q1) fun u s2 ⟨y,H2,I2,r2,q2⟩=>?_
 exact hf v u s2 x y H2 I2 r1 r2 q2
theorem bE3{op:Operator}{r:R2}(ho:OpR X (binaryOp op) r) (ha:PE X a ta) (hb:PE X b tb):PE X (.BinOp a op b pos) (tOp r ta tb):=by
 intro pins s σ H Q I h
 exact wpAny_BinOp (bV8 ha hb I h fun v u s2 x y H2 I2 rx ry q=>ho pins s2 σ H2 x y v u Q I2 rx ry q)
theorem cb0{op:UnaryOp}{r:V->Hp->VK->Prop}(ho:UnR X (unaryOp op) r) (ha:PE X a ta):PE X (.UnaryOp op a pos) (tUn r ta):=by
 intro pins s σ H Q I h
 exact UnaryOp_ (thn (ha pins s σ H _ I h) fun v s1 ⟨x,H1,I1,r1,q1⟩=>ho pins s1 σ H1 x v Q I1 r1 q1)
theorem opI{f:Value->Value->Sem Value}{C:Int->Int->Prop}{g:Int->Int->Int}
  (rule:∀(i j:Int) (t u:Tok) (s:Shared) (Q:Value->Shared->Prop) (E:Value->Shared->Prop),C i j->Q (.int (g i j) s.toks) { s with toks:=s.toks+1 }->wpAny (model X.prog X.w) X.A (f (.int i t) (.int j u)) Q E s) :
  OpR X f (rI C fun i j=>.int (g i j)):=by
 intro pins s σ H x y v u Q I rx ry h
 obtain⟨i,j,rfl,rfl,hc,q⟩:=h
 obtain⟨t,rfl⟩:=rx
 obtain⟨t',rfl⟩:=ry
 exact rule i j t t' s _ _ hc ⟨.int (g i j),H,I.tok _,⟨_,rfl⟩,q⟩
theorem cb8{f:Value->Value->Sem Value}{g:Int->Int->Int}
  (rule:∀(i j:Int) (t u:Tok) (s:Shared) (Q:Value->Shared->Prop) (E:Value->Shared->Prop),Q (.int (g i j) s.toks) { s with toks:=s.toks+1 }->wpAny (model X.prog X.w) X.A (f (.int i t) (.int j u)) Q E s) :
  OpR X f (rI0 fun i j=>.int (g i j)):=by
 intro pins s σ H x y v u Q I rx ry h
 obtain⟨i,j,rfl,rfl,q⟩:=h
 obtain⟨t,rfl⟩:=rx
 obtain⟨t',rfl⟩:=ry
 exact rule i j t t' s _ _ ⟨.int (g i j),H,I.tok _,⟨_,rfl⟩,q⟩
theorem bv3{f:Value->Value->Sem Value}{g:Int->Int->Bool}
  (rule:∀(i j:Int) (t u:Tok) (s:Shared) (Q:Value->Shared->Prop) (E:Value->Shared->Prop),Q (.bool (g i j)) s->wpAny (model X.prog X.w) X.A (f (.int i t) (.int j u)) Q E s) :
  OpR X f (rI0 fun i j=>.bl (g i j)):=by
 intro pins s σ H x y v u Q I rx ry h
 obtain⟨i,j,rfl,rfl,q⟩:=h
 obtain⟨t,rfl⟩:=rx
 obtain⟨t',rfl⟩:=ry
 exact rule i j t t' s _ _ ⟨.bl (g i j),H,I,rfl,q⟩
theorem bg7:OpR X (binaryOp .Add) (rI0 fun i j=>.int (i+j)):=cb8 fun _ _ _ _ _ _ _ q=>add_int q
theorem bL8:OpR X (binaryOp .Sub) (rI0 fun i j=>.int (i - j)):=cb8 fun _ _ _ _ _ _ _ q=>sub_int q
theorem bL9:OpR X (binaryOp .Mod) (rI (fun _ j=>0 < j) fun i j=>.int (i % j)):=opI fun i j _ _ _ _ _ hc q=>by
 have h1:(0:Int) < j:=hc
 exact mod_int' (by omega) (by rw[Int.fmod_eq_emod_of_nonneg i (by omega)];exact q)
theorem unI{f:Value->Sem Value}{g:Int->Int}
  (rule:∀(i:Int) (t:Tok) (s:Shared) (Q:Value->Shared->Prop) (E:Value->Shared->Prop),Q (.int (g i) s.toks) { s with toks:=s.toks+1 }->wpAny (model X.prog X.w) X.A (f (.int i t)) Q E s) :
  UnR X f (rU fun i=>.int (g i)):=by
 intro pins s σ H x v Q I rx h
 obtain⟨i,rfl,q⟩:=h
 obtain⟨t,rfl⟩:=rx
 exact rule i t s _ _ ⟨.int (g i),H,I.tok _,⟨_,rfl⟩,q⟩
theorem bI4:UnR X (unaryOp .USub) (rU fun i=>.int (-i)):=unI fun _ _ _ _ _ q=>neg_int q
end
section
variable {X:Cx}{a b c:Expr}{ta tb tc:TE}{pos:Pos}
theorem bn0{pins:List (Addr×Obj)}{σ:St}{H:Hp}{s:Shared}{Q:VK}{k k':Bool}(I:Inv X pins σ H s) (q:Q (.bl k) H) (e:k=k'):EP X pins σ Q (.bool k') s:=by
 subst e
 exact⟨.bl k,H,I,rfl,q⟩
theorem cb4:OpR X (compareOp .Lt) (rI0 fun i j=>.bl (decide (i < j))):=bv3 fun _ _ _ _ _ _ _ q=>lt_int q
theorem cb5:OpR X (compareOp .LtE) (rI0 fun i j=>.bl (decide (i<=j))):=bv3 fun _ _ _ _ _ _ _ q=>le_int q
theorem cb6:OpR X (compareOp .Gt) (rI0 fun i j=>.bl (decide (j < i))):=bv3 fun _ _ _ _ _ _ _ q=>gt_int q
theorem cb7:OpR X (compareOp .GtE) (rI0 fun i j=>.bl (decide (j<=i))):=bv3 fun _ _ _ _ _ _ _ q=>ge_int q
theorem bM0:OpR X (compareOp .Is) (fun x y H Q=>y=.non/\Q (.bl (decide (x=.non))) H):=by
 intro pins s σ H x y v u Q I rx ry h
 obtain⟨rfl,q⟩:=h
 cases ry
 refine is_none_gen (bn0 I q ?_)
 cases x<;>first
  | (cases rx;rfl)
  | (obtain⟨t,rfl⟩:=rx;rfl)
theorem bv0:OpR X (compareOp .IsNot) (fun x y H Q=>y=.non/\Q (.bl (!decide (x=.non))) H):=by
 intro pins s σ H x y v u Q I rx ry h
 obtain⟨rfl,q⟩:=h
 cases ry
 refine isnot_none_gen (bn0 I q ?_)
 cases x<;>first
  | (cases rx;rfl)
  | (obtain⟨t,rfl⟩:=rx;rfl)
theorem bh3(b:Expr) {op:CmpOp}(h:op≠.In:=by decide) (h2:op≠.NotIn:=by decide):behindInMarks op b=false:=by
 have e1:(op==CmpOp.In)=false:=by cases op<;>first|rfl|exact absurd rfl h
 have e2:(op==CmpOp.NotIn)=false:=by cases op<;>first|rfl|exact absurd rfl h2
 cases b<;>simp[behindInMarks,e1,e2]
theorem bu4{op:CmpOp}{r:R2}(ho:OpR X (compareOp op) r) (ha:PE X a ta) (hb:PE X b tb) (hm:behindInMarks op b=false):PE X (.Compare a [op] [b] pos) (tOp r ta tb):=by
 intro pins s σ H Q I h
 exact wpAny_Compare1 (bV8 ha hb I h fun v u s2 x y H2 I2 rx ry q=>ho pins s2 σ H2 x y v u Q I2 rx ry q) hm
noncomputable def bD5(t:TE):TT:=fun σ H Q=>t σ H fun x H'=>∃k,x=.bl k/\Q k H'
theorem bt1{op:CmpOp}{r:R2}(ho:OpR X (compareOp op) r) (ha:PE X a ta) (hb:PE X b tb) (hm:behindInMarks op b=false):PT X (.Compare a [op] [b] pos) (bD5 (tOp r ta tb)):=by
 intro pins s σ H Q I h
 refine wpAny_isTrue_Compare1 (thn (ha pins s σ H _ I h) fun v s1 ⟨x,H1,I1,r1,q1⟩=>thn (hb pins s1 σ H1 _ I1 q1) fun u s2 ⟨y,H2,I2,r2,q2⟩ =>thn (ho pins s2 σ H2 x y v u _ I2 r1 r2 q2) fun c s3 ⟨z,H3,I3,r3,k,e,q3⟩=>?_) hm
 subst e
 cases r3
 exact wpAny_truthy_bool ⟨H3,I3,q3⟩
noncomputable def bd4(r r':R2) (ta tb tc:TE):TE:=fun σ H Q=>ta σ H fun x H1=>tb σ H1 fun y H2=>r x y H2 fun z H3=>∃k,z=.bl k /\
 (if k=true then tc σ H3 fun w' H4=>r' y w' H4 Q else Q (.bl false) H3)
theorem aC0{op op':CmpOp}{r r':R2}(ho:OpR X (compareOp op) r) (ho':OpR X (compareOp op') r') (ha:PE X a ta) (hb:PE X b tb) (hc:PE X c tc)
  (hm:lastMarks [op,op'] [b,c]=false:=by with_unfolding_all rfl):PE X (.Compare a [op,op'] [b,c] pos) (bd4 r r' ta tb tc):=by
 intro pins s σ H Q I h
 refine Compare_chain (thn (ha pins s σ H _ I h) fun v s1 ⟨x,H1,I1,r1,q1⟩=>chain_link (thn (hb pins s1 σ H1 _ I1 q1) fun u s2 ⟨y,H2,I2,r2,q2⟩ =>thn (ho pins s2 σ H2 x y v u _ I2 r1 r2 q2) fun d s3 ⟨z,H3,I3,r3,k,e,q3⟩=>?_)) hm
 subst e
 cases r3
 refine wpAny_truthy_bool ?_
 cases k with
 | false=>exact ite_ff ⟨.bl false,H3,I3,rfl,q3⟩
 | true=>exact ite_tt (chain_last (thn (hc pins s3 σ H3 _ I3 q3) fun w' s4 ⟨z',H4,I4,r4,q4⟩=>ho' pins s4 σ H4 y z' u w' Q I4 r2 r4 q4))
theorem aB3{op op':CmpOp}{r r':R2}(ho:OpR X (compareOp op) r) (ho':OpR X (compareOp op') r') (ha:PE X a ta) (hb:PE X b tb) (hc:PE X c tc)
  (hm:lastMarks [op,op'] [b,c]=false:=by with_unfolding_all rfl):PT X (.Compare a [op,op'] [b,c] pos) (bD5 (bd4 r r' ta tb tc)):=by
 intro pins s σ H Q I h
 refine isTrue_chain (thn (ha pins s σ H _ I h) fun v s1 ⟨x,H1,I1,r1,q1⟩=>test_link (thn (hb pins s1 σ H1 _ I1 q1) fun u s2 ⟨y,H2,I2,r2,q2⟩ =>thn (ho pins s2 σ H2 x y v u _ I2 r1 r2 q2) fun d s3 ⟨z,H3,I3,r3,k,e,q3⟩=>?_)) hm
 subst e
 cases r3
 refine wpAny_truthy_bool ?_
 cases k with
 | false =>
  obtain⟨k',e',q'⟩:=q3
  cases e'
  exact ite_ff ⟨H3,I3,q'⟩
 | true =>
  refine ite_tt (test_last (thn (hc pins s3 σ H3 _ I3 q3) fun w' s4 ⟨z',H4,I4,r4,q4⟩=>thn (ho' pins s4 σ H4 y z' u w' _ I4 r2 r4 q4) fun d' s5 ⟨z2,H5,I5,r5,k2,e2,q5⟩=>?_))
  subst e2
  cases r5
  exact wpAny_truthy_bool ⟨H5,I5,q5⟩
noncomputable def bW7(K:PySem.W.Frag) (x:V) (H:Hp) (k:Bool):Prop :=
 match x with
 | .non=>k=false
 | .bl b=>k=b
 | .int i=>k=(i != 0)
 | .str y=>y.length<=sizeLine/\k=((y.length:Int) != 0)
 | .byt y=>y.size<=sizeLine/\k=((y.size:Int) != 0)
 | .ref p=>(∃xs,SqL K H p xs/\k = !xs.isEmpty)\/(∃xs,SqT K H p xs/\k = !xs.isEmpty)\/∃kvs,H p=some (.dK kvs)/\k = !kvs.isEmpty
 | _=>False
theorem aJ8{κ:Type}{kvs:List (κ×V)}{vs:List (κ×Value)}(r:KV kvs vs):(!vs.isEmpty) = !kvs.isEmpty:=by cases r<;>rfl
theorem an1{xs:List V}{its:List Value}(r:D5 xs its):(!its.toArray.isEmpty) = !xs.isEmpty:=by cases r<;>simp
theorem af3:(sizeLine:Nat) < 2 ^ 63:=by rw[sizeLine_eq];decide
theorem bd1:cn2 X (fun x H Q=>∃k,bW7 X.K x H k/\Q k H):=by
 intro pins s σ H x v Q I rx h
 obtain⟨k,e,q⟩:=h
 have hl:=af3
 have hs:sizeLine=16777216:=sizeLine_eq
 cases x with
 | non =>
  cases rx
  have e':k=false:=e
  subst e'
  exact truthy_none ⟨H,I,q⟩
 | bl b =>
  cases rx
  have e':k=b:=e
  subst e'
  exact wpAny_truthy_bool ⟨H,I,q⟩
 | int i =>
  obtain⟨t,rfl⟩:=rx
  have e':k=(i != 0):=e
  subst e'
  exact PySem.P.truthy_int ⟨H,I,q⟩
 | str y =>
  obtain⟨t,rfl⟩:=rx
  obtain⟨hy,e'⟩:y.length<=sizeLine/\k=((y.length:Int) != 0):=e
  subst e'
  exact PySem.P.truthy_str (by omega) ⟨H,I.tok _,q⟩
 | byt y =>
  obtain⟨t,rfl⟩:=rx
  obtain⟨hy,e'⟩:y.size<=sizeLine/\k=((y.size:Int) != 0):=e
  subst e'
  exact PySem.W.truthy_bytes (by omega) ⟨H,I.tok _,q⟩
 | ref p =>
  cases rx
  have e':(∃xs,SqL X.K H p xs/\k = !xs.isEmpty)\/(∃xs,SqT X.K H p xs/\k = !xs.isEmpty)\/∃kvs,H p=some (.dK kvs)/\k = !kvs.isEmpty:=e
  rcases e' with⟨xs,hx,e'⟩|⟨xs,hx,e'⟩|⟨kvs,hx,e'⟩
  ·subst e'
   obtain⟨its,r,pl,hz⟩:=I.list hx
   have hlen:=r.length
   exact wpAny_truthy_list pl.isList (by simp only[List.size_toArray];omega) ⟨H,I.tok _,by rw[an1 r];exact q⟩
  ·subst e'
   obtain⟨its,r,pl,hz⟩:=I.tuple hx
   have hlen:=r.length
   exact truthy_tuple pl (by simp only[List.size_toArray];omega) ⟨H,I.tok _,by rw[an1 r];exact q⟩
  ·subst e'
   obtain⟨hz,hS,vs,r,m⟩:kvs.length<=sizeLine/\(p==sysModules)=false/\∃vs,KV kvs vs/\s.heap.DictOf (E5 X.prog X.w) p vs:=I.hok p _ hx
   have hlen:kvs.length=vs.length:=Paired.length r
   exact wpAny_truthy_dict hS m (by omega) ⟨H,I.tok _,by rw[aJ8 r];exact q⟩
 | _=>exact(show False from e).elim
theorem be7(ha:PE X a ta) (he:∀whole,isTrue a X.env whole=(do let v ← whole;standAt a.pos;holding [v] (truthy v))) :
  PT X a (fun σ H Q=>ta σ H fun x H'=>∃k,bW7 X.K x H' k/\Q k H'):=by
 intro pins s σ H Q I h
 exact isTrue_plain (thn (ha pins s σ H _ I h) fun v s1 ⟨x,H1,I1,r1,q1⟩=>bd1 pins s1 σ H1 x v Q I1 r1 q1) (he _)
theorem aI7:OpR X (binaryOp .Add) (fun x y H Q=>∃i j,x=.str i/\y=.str j/\i.length+j.length<=sizeLine/\Q (.str (i++j)) H):=by
 intro pins s σ H x y v u Q I rx ry h
 obtain⟨i,j,rfl,rfl,hz,q⟩:=h
 obtain⟨t,rfl⟩:=rx
 obtain⟨t',rfl⟩:=ry
 exact add_str (fun t' tk=>⟨.str (i++j),H,I.tok _,⟨_,rfl⟩,q⟩) hz
theorem T6{x:V}{us:List Value}(r:D5 [x] us):∃u,us=[u]/\D3 x u:=by
 cases r with
 | cons r1 r2=>cases r2;exact⟨_,rfl,r1⟩
theorem bd0{x y:V}{us:List Value}(r:D5 [x,y] us):∃u w',us=[u,w']/\D3 x u/\D3 y w':=by
 cases r with
 | cons r1 r2 =>
  cases r2 with
  | cons r3 r4=>cases r4;exact⟨_,_,rfl,r1,r3⟩
theorem bp8:R3 X (.builtin "abs") (fun xs H Q=>∃i,xs=[.int i]/\Q (.int (if i < 0 then -i else i)) H):=by
 intro pins s σ H xs us Q I r h
 obtain⟨i,rfl,q⟩:=h
 obtain⟨u,rfl,t,rfl⟩:=T6 r
 exact call_abs_int fun u tk=>⟨.int (if i < 0 then -i else i),H,I.tok _,⟨_,rfl⟩,q⟩
theorem aZ5(hc:X.calm=true):R3 X (.builtin "max") (fun xs H Q=>∃i j,xs=[.int i,.int j]/\Q (.int (if j > i then j else i)) H):=by
 intro pins s σ H xs us Q I r h
 obtain⟨i,j,rfl,q⟩:=h
 obtain⟨u,w',rfl,⟨t,rfl⟩,⟨t',rfl⟩⟩:=bd0 r
 refine max_two_ints (I.ok.hd hc) fun h' tk k=>⟨_,H,I.kept k,?_,q⟩
 by_cases hj:j > i
 ·rw[if_pos hj,if_pos hj];exact⟨_,rfl⟩
 ·rw[if_neg hj,if_neg hj];exact⟨_,rfl⟩
theorem aZ2(hc:X.calm=true):R3 X (.builtin "min") (fun xs H Q=>∃i j,xs=[.int i,.int j]/\Q (.int (if j < i then j else i)) H):=by
 intro pins s σ H xs us Q I r h
 obtain⟨i,j,rfl,q⟩:=h
 obtain⟨u,w',rfl,⟨t,rfl⟩,⟨t',rfl⟩⟩:=bd0 r
 refine min_two_ints (I.ok.hd hc) fun h' tk k=>⟨_,H,I.kept k,?_,q⟩
 by_cases hj:j < i
 ·rw[if_pos hj,if_pos hj];exact⟨_,rfl⟩
 ·rw[if_neg hj,if_neg hj];exact⟨_,rfl⟩
theorem at9:R3 X (.type "int") (fun xs H Q=>(∃i,xs=[.int i]/\Q (.int i) H)\/∃k,xs=[.bl k]/\Q (.int (if k then 1 else 0)) H):=by
 intro pins s σ H xs us Q I r h
 rcases h with⟨i,rfl,q⟩|⟨k,rfl,q⟩
 ·obtain⟨u,rfl,t,rfl⟩:=T6 r
  exact call_int_int ⟨.int i,H,I,⟨_,rfl⟩,q⟩
 ·obtain⟨u,rfl,r1⟩:=T6 r
  cases r1
  exact call_int_bool ⟨.int (if k then 1 else 0),H,I.tok _,⟨_,rfl⟩,q⟩
end
section
variable {prog:Program}{w:World}{A:Around}{E:Value->Shared->Prop}{s:Shared}{K:PySem.W.Frag}{x dx C f:Addr}{mA:Str->Option Value}{name:Str}{v:Value}
end
theorem aj2.some_of{v:V}{o:Option Value}(r:aj2 (some v) o):∃u,o=some u/\D3 v u:=by
 cases o with
 | none=>exact(show False from r).elim
 | some u=>exact⟨u,rfl,r⟩
section
variable {P:Program}{w:World}{H H':Hp}{h h':Heap}{a C dx:Addr}{fs fs':List (Str×V)}
end
section
variable {X:Cx}{pins:List (Addr×Obj)}{σ:St}{H:Hp}{s:Shared}{a C dx:Addr}{fs:List (Str×V)}{f:Str}{v:V}{A:Around}{E:Value->Shared->Prop}
end
section
variable {X:Cx}{o e value:Expr}{f:Str}{pos pos' tpos:Pos}{ta tv:TE}
end
section
variable {X:Cx}{pins:List (Addr×Obj)}{σ:St}{H:Hp}{s:Shared}{A:Around}{E:Value->Shared->Prop}{Q:Value->Shared->Prop}{c:Value}{b:Bool}
end
structure Room (k:Nat) (A:Around):Prop where
 hd:A.handled=none
 dp:A.depth+3*k+5 < recursionLimit
 un:A.units+16*k+200 < cLine
theorem Room.mono{j k:Nat}{A:Around}(r:Room k A) (h:j<=k):Room j A:=⟨r.hd,by have:=r.dp;omega,by have:=r.un;omega⟩
theorem Room.deeper{k:Nat}{A:Around}(r:Room (k+1) A) (env:Env):Room k (A.deeper env) :=
 ⟨r.hd,by have:=r.dp;show A.depth+1+3*k+5 < _;omega,by have:=r.un;show A.units+3+16*k+200 < _;omega⟩
theorem Room.depth{k:Nat}{A:Around}(r:Room k A):A.depth < recursionLimit:=by have:=r.dp;omega
theorem Room.units{k:Nat}{A:Around}(r:Room k A):A.units+64 < cLine:=by have:=r.un;omega
noncomputable def bZ2:TA:=fun _ H Q=>Q [] H
noncomputable def bZ7(ta:TE) (tr:TA):TA:=fun σ H Q=>ta σ H fun x H1=>tr σ H1 fun xs H2=>Q (x::xs) H2
section
variable {X:Cx}{e:Expr}{es:List Expr}{te:TE}{t:TA}{pos:Pos}
theorem G8:PA X [] bZ2:=fun _ _ _ _ H Q I h=>Calls.spliced_nil ⟨[],H,I,.nil,h⟩
theorem D9(ha:PE X e te) (hr:PA X es t) (hs:starEach (e::es) X.env=(false,eval e X.env)::starEach es X.env:=by rfl):PA X (e::es) (bZ7 te t):=by
 intro pos pins s σ H Q I h
 rw[hs]
 show wpAny _ _ (spliced ((false,eval e X.env)::backTo pos (starEach es X.env))) _ _ s
 refine Calls.spliced_cons (thn (ha pins s σ H _ I h) fun u s1 ⟨x,H1,I1,r1,q1⟩=>?_)
 exact thn (hr pos pins s1 σ H1 _ I1 q1) fun us s2 ⟨xs,H2,I2,r2,q2⟩=>⟨x::xs,H2,I2,.cons r1 r2,q2⟩
noncomputable def cj1(t:TA):TE:=fun σ H Q=>t σ H fun xs H1=>xs.length<=sizeLine/\∀p,H1 p=none->Q (.ref p) (upd H1 p (.tup xs))
noncomputable def cj7(t:TA):TE:=fun σ H Q=>t σ H fun xs H1=>xs.length<=sizeLine/\∀p,H1 p=none->Q (.ref p) (upd H1 p (.lst xs))
theorem bK8{x1} (h:PA X es t):PE X (.Tuple es x1 pos) (cj1 t):=by
 intro pins s σ H Q I hq
 refine wpAny_Tuple_spliced (thn (h pos pins s σ H _ I hq) fun us s1 ⟨xs,H1,I1,r,z,q⟩=>⟨by rw[← r.length];exact z,?_⟩)
 have hf:H1 s1.heap.objs.size=none:=I1.hok.fresh (Nat.le_refl _)
 refine⟨.ref s1.heap.objs.size,upd H1 s1.heap.objs.size (.tup xs),I1.laid (t':=s1.toks) (fun b u e=>Heap.get?_push_of_some _ e) (Nat.le_refl _) ?_,rfl,q _ hf⟩
 exact⟨z,us,r,⟨_,Heap.get?_push_size _ rfl,rfl,⟨_,rfl⟩,rfl⟩⟩
theorem bL3(h:PA X es t):PE X (.List es pos) (cj7 t):=by
 intro pins s σ H Q I hq
 refine wpAny_List_spliced (thn (h pos pins s σ H _ I hq) fun us s1 ⟨xs,H1,I1,r,z,q⟩=>⟨by rw[← r.length];exact z,?_⟩)
 have hf:H1 s1.heap.objs.size=none:=I1.hok.fresh (Nat.le_refl _)
 refine⟨.ref s1.heap.objs.size,upd H1 s1.heap.objs.size (.lst xs),I1.laid (t':=s1.toks) (fun b u e=>Heap.get?_push_of_some _ e) (Nat.le_refl _) ?_,rfl,q _ hf⟩
 exact⟨z,us,0,r,Heap.get?_push_size _ rfl⟩
end
noncomputable abbrev Sp:=List V->Hp->VK->XK->Prop
noncomputable abbrev CXT:=List Env->Hp->Shared->XK->Value->Shared->Prop
structure Env0 (P:Program) (w:World) (K:PySem.W.Frag) (mg:Str->Option Value) (base:Heap) (A:Around) (outer:List Env) (s:Shared) (H:Hp):Prop where
 frames:A.frames=some outer
 mod:Mod K mg base
 bs:∀b o,base.get? b=some o->s.heap.get? b=some o/\H b=none
 bsz:base.objs.size<=s.heap.objs.size
 funs:s.heap.FunFrames base outer
 frf:∀b∈frs outer,H b=none
 hok:HOk P w H s.heap
 bare:AllBare s.gens
noncomputable def CE(outer:List Env) (P:Program) (w:World) (H:Hp) (s:Shared) (Q:VK) (u:Value) (s':Shared):Prop :=
 ∃v H',s'.os=s.os/\AllBare s'.gens/\Un (frs outer) [] H H' s.heap s'.heap/\HOk P w H' s'.heap/\D3 v u/\Q v H'
noncomputable def CR(CX:CXT) (outer:List Env) (P:Program) (w:World) (H:Hp) (s:Shared) (Q:VK) (E:XK) (r:Result) (s':Shared):Prop :=
 match r with
 | .ok (.ret u)=>CE outer P w H s Q u s'
 | .ok _=>False
 | .error e=>CX outer H s E e s'
structure FnOk (P:Program) (w:World) (K:PySem.W.Frag) (mg:Str->Option Value) (base:Heap) (CX:CXT) (k:Nat) (f:Addr) (fd:FuncData) (ps:List Str) (sp:Sp):Prop where
 len:∀vs H Q E,sp vs H Q E->vs.length=ps.length
 run:∀(A:Around) (outer:List Env) (s:Shared) (H:Hp) (args:Args) (us:List Value) (vs:List V) (Q:VK) (E:XK),Room k A->Env0 P w K mg base A outer s H->BindsTo s fd args (ps.zip us)->D5 vs us->sp vs H Q E ->
  codeAny (model P w) A (.call (.ref f) args) (CR CX outer P w H s Q E) s
theorem FnOk.mono{P:Program}{w:World}{K:PySem.W.Frag}{mg:Str->Option Value}{base:Heap}{CX:CXT}{j k:Nat}{f:Addr}{fd:FuncData}{ps:List Str}{sp:Sp}(F:FnOk P w K mg base CX j f fd ps sp) (h:j<=k) :
  FnOk P w K mg base CX k f fd ps sp:=⟨F.len,fun A outer s H args us vs Q E hr=>F.run A outer s H args us vs Q E (hr.mono h)⟩
section
variable {X:Cx}{pins:List (Addr×Obj)}{σ:St}{H:Hp}{s s':Shared}
theorem Inv.env0(I:Inv X pins σ H s):Env0 X.prog X.w X.K X.mg X.base X.A X.stack s H :=
 ⟨I.ok.frames,I.ok.mod,I.bs,Nat.le_trans I.ok.bsz I.sz,I.stack,I.stkFree,I.hok,I.bare⟩
theorem Inv.after{Q:VK}{u:Value}(I:Inv X pins σ H s) (h:CE X.stack X.prog X.w H s Q u s'):EP X pins σ Q u s':=by
 obtain⟨v,H',os,bare,un,hok,r,q⟩:=h
 obtain⟨hh,g,d,t,os'⟩:=s'
 obtain rfl:os'=s.os:=os
 exact⟨v,H',I.call (h':=hh) (g':=g) (d':=d) (t':=t) (ch:=[]) un hok bare (fun b z=>absurd z (by simp)),r,q⟩
end
noncomputable def bD7(sp:Sp) (dvs:List V) (E:XK) (t:TA):TE:=fun σ H Q=>t σ H fun vs H1=>sp (vs++dvs) H1 Q E
noncomputable def o9(K:PySem.W.Frag) (fd:FuncData) (ps:List Str) (ds:List Value):Prop :=
 ∀(s:Shared) (us:List Value),K.In s.heap->(us++ds).length=ps.length->BindsTo s fd ⟨us,[]⟩ (ps.zip (us++ds))
theorem o9.all{K:PySem.W.Frag}{fd:FuncData}{ps:List Str}(h:∀us:List Value,us.length=ps.length->bindArgs fd ⟨us,[]⟩=pure (ps.zip us)):o9 K fd ps []:=fun s us _ hl=>by
 rw[List.append_nil]at hl ⊢
 exact .of_eq (h us hl)
noncomputable def aA1(CX:CXT) (X:Cx) (E:XK):Prop:=∀(pins:List (Addr×Obj)) (σ:St) (H:Hp) (s:Shared) (e:Value) (s':Shared),Inv X pins σ H s->CX X.stack H s E e s'->X.xe e s'
section
variable {X:Cx}{CX:CXT}{k:Nat}{f C:Addr}{fd:FuncData}{ps:List Str}{sp:Sp}{dvs:List V}{ds:List Value}{E:XK}{x m:Str}{p pos apos:Pos}{e o:Expr}{es:List Expr}{ta:TE}{t:TA}
theorem be1{pins:List (Addr×Obj)}{σ:St}{H:Hp}{s:Shared}{Q:VK}{us:List Value}{vs:List V}(F:FnOk X.prog X.w X.K X.mg X.base CX k f fd ps sp) (hr:Room k X.A) (hb:o9 X.K fd ps ds) (hd:D5 dvs ds) (hx:aA1 CX X E)
  (I:Inv X pins σ H s) (r:D5 vs us) (h:sp (vs++dvs) H Q E):wpAny (model X.prog X.w) X.A (call (.ref f) us) (EP X pins σ Q) X.xe s:=by
 have r2:D5 (vs++dvs) (us++ds):=r.append hd
 have hl:(us++ds).length=ps.length:=by rw[← r2.length];exact F.len _ _ _ _ h
 refine wpAny_call (codeAny_mono (F.run X.A X.stack s H ⟨us,[]⟩ (us++ds) (vs++dvs) Q E hr I.env0 (hb s us I.kIn hl) r2 h) fun r s' hq=>?_)
 cases r with
 | error e=>exact hx pins σ H s e s' I hq
 | ok fl =>
  cases fl with
  | ret u=>exact I.after hq
  | next=>exact False.elim hq
  | brk=>exact False.elim hq
  | cont=>exact False.elim hq
theorem bu5(F:FnOk X.prog X.w X.K X.mg X.base CX k f fd ps sp) (hr:Room k X.A) (hg:Gl X x) (hm:X.mg x=some (.ref f)) (hk:PySem.W.keepIn X.K (.ref f)=true) (hb:o9 X.K fd ps ds) (hd:D5 dvs ds) (hx:aA1 CX X E)
  (ha:PA X (e::es) t) (hdb:(x==("__debug__" : Str))=false:=by decide) (he:starEach (e::es) X.env=(false,eval e X.env)::starEach es X.env:=by rfl) (hpl:(backTo pos (starEach es X.env)).any (·.1)=false:=by rfl) :
  PE X (.Call (.Name x p) (e::es) [] pos) (bD7 sp dvs E t):=by
 intro pins s σ H Q I h
 refine wpAny_Call_Name_kw (ay1 I hg hm ?_ hdb)
 refine PySem.W.callWith_K (h₀:=X.base) I.ok.mod.kin hk (thn (ha pos pins s σ H _ I h) fun us s1 ⟨vs,H1,I1,r,q⟩=>⟨I1.kIn,?_⟩) he hpl
 exact be1 F hr hb hd hx I1 r q
theorem bg2(F:FnOk X.prog X.w X.K X.mg X.base CX k f fd ps sp) (hr:Room k X.A) (hg:Gl X x) (hm:X.mg x=some (.ref f)) (hk:PySem.W.keepIn X.K (.ref f)=true) (hb:o9 X.K fd ps ds) (hd:D5 dvs ds) (hx:aA1 CX X E)
  (hdb:(x==("__debug__" : Str))=false:=by decide):PE X (.Call (.Name x p) [] [] pos) (bD7 sp dvs E bZ2):=by
 intro pins s σ H Q I h
 refine wpAny_Call_Name_kw (ay1 I hg hm ?_ hdb)
 exact PySem.W.callWith_K0 I.kIn hk (be1 (us:=[]) F hr hb hd hx I .nil h)
end
section
variable {X:Cx}{CX:CXT}{k:Nat}{f C:Addr}{fd:FuncData}{ps ks:List Str}{sp:Sp}{E:XK}{x m:Str}{p pos apos kpos:Pos}{e o:Expr}{es:List Expr}{kws:List Keyword}{te ta:TE}{t tk:TA}{nm:Option Str}
variable {g:List Value->List Value->List Value}{gV:List V->List V->List V}
end
structure FnScope (N P:List Str) (sc:Scope):Prop where
 kind:sc.kind=.function
 co:sc.isCoroutine=false
 gen:sc.isGenerator=false
 nd:N.Nodup
 pre:N.take P.length=P
 par:∀x∈P,sc.names.lookup x=some .local\/sc.names.lookup x=some .cell
 nofree:∀y∈sc.names,y.2≠.free
theorem au0{kindOf:Str->Option NameKind}{x:Str}:∀{binds:List (Str×Value)}{m:Str->Option Value},(∀v,(x,v)∉binds)->bindL kindOf binds m x=m x
 | [],_,_=>rfl
 | (n,v)::r,m,h=>by
  unfold bindL
  rw[au0 fun w hw=>h w (xmm _ hw)]
  split
  ·have:x≠n:=by rintro rfl;exact h v List.mem_cons_self
   simp[this]
  ·rfl
theorem au2{kindOf:Str->Option NameKind}{x:Str}:∀{binds:List (Str×Value)}{m:Str->Option Value},(∀v,(x,v)∉binds)->bindC kindOf binds m x=m x
 | [],_,_=>rfl
 | (n,v)::r,m,h=>by
  unfold bindC
  rw[au2 fun w hw=>h w (xmm _ hw)]
  split
  ·rfl
  ·have:x≠n:=by rintro rfl;exact h v List.mem_cons_self
   simp[this]
theorem au1{kindOf:Str->Option NameKind}{x:Str}{v:Value}:∀{P:List Str}{vs:List Value}{i:Nat}{m:Str->Option Value},P.Nodup->P[i]? = some x->vs[i]? = some v->kindOf x=some .local ->
  bindL kindOf (P.zip vs) m x=some v
 | [],_,_,_,_,h,_,_=>by simp at h
 | _::_,[],_,_,_,_,h,_=>by simp at h
 | p::P,w::vs,0,m,nd,h1,h2,hk=>by
  simp at h1 h2;subst h1;subst h2
  show bindL kindOf ((p,w)::P.zip vs) m p=_
  unfold bindL
  rw[au0 fun v hv=>(List.nodup_cons.mp nd).1 (List.of_mem_zip hv).1,if_pos hk]
  simp
 | p::P,w::vs,i+1,m,nd,h1,h2,hk=>by
  show bindL kindOf ((p,w)::P.zip vs) m x=_
  unfold bindL
  exact au1 (i:=i) (List.nodup_cons.mp nd).2 (by simpa using h1) (by simpa using h2) hk
theorem au3{kindOf:Str->Option NameKind}{x:Str}{v:Value}:∀{P:List Str}{vs:List Value}{i:Nat}{m:Str->Option Value},P.Nodup->P[i]? = some x->vs[i]? = some v->kindOf x≠some .local ->
  bindC kindOf (P.zip vs) m x=some v
 | [],_,_,_,_,h,_,_=>by simp at h
 | _::_,[],_,_,_,_,h,_=>by simp at h
 | p::P,w::vs,0,m,nd,h1,h2,hk=>by
  simp at h1 h2;subst h1;subst h2
  show bindC kindOf ((p,w)::P.zip vs) m p=_
  unfold bindC
  rw[au2 fun v hv=>(List.nodup_cons.mp nd).1 (List.of_mem_zip hv).1,if_neg hk]
  simp
 | p::P,w::vs,i+1,m,nd,h1,h2,hk=>by
  show bindC kindOf ((p,w)::P.zip vs) m x=_
  unfold bindC
  exact au3 (i:=i) (List.nodup_cons.mp nd).2 (by simpa using h1) (by simpa using h2) hk
noncomputable def V3(N:List Str) (vs:List V):St:=vs.map some++List.replicate (N.length - vs.length) none
noncomputable def aK5(CX:CXT) (P:Program) (w:World) (K:PySem.W.Frag) (mg:Str->Option Value) (base:Heap) (N:List Str) (qual:Str) (scope:Scope) (f:Addr) (cd:Value) (A:Around) (outer:List Env) (s:Shared) (H:Hp) (E:XK):Cx where
 prog:=P
 w:=w
 K:=K
 mg:=mg
 base:=base
 A:=A.deeper (envOfC qual scope s.heap.objs.size f cd)
 N:=N
 s₀:=s
 H₀:=H
 env:=envOfC qual scope s.heap.objs.size f cd
 outer:=outer
 stack:=envOfC qual scope s.heap.objs.size f cd::outer
 ex:=[]
 calm:=true
 fn:=fun _=>true
 pn:=[]
 xe:=fun e s'=>wpAny (model P w) (A.deeper (envOfC qual scope s.heap.objs.size f cd)) (leaving (envOfC qual scope s.heap.objs.size f cd) e) (fun _ s''=>CX outer H s E e s'') (fun e' s''=>CX outer H s E e' s'') s'
theorem aF3{sc:Scope}{n:Nat}{x:Str}(h:sc.names.lookup x=some .cell):∃c,(cellsFrom n sc.names []).lookup x=some c:=by
 have q:=PySem.W.cellsFrom_some sc.names n [] (.inl h)
 exact Option.isSome_iff_exists.mp q
theorem aW8{CX:CXT}{P:Program}{w:World}{K:PySem.W.Frag}{mg:Str->Option Value}{base:Heap}{N ps:List Str}{qual:Str}{scope:Scope}{f:Addr}{cd:Value}{A:Around}{outer:List Env}{s s1:Shared}{H:Hp}{E:XK}{us:List Value}{vs:List V}
  (S:FnScope N ps scope) (hd:A.handled=none) (e0:Env0 P w K mg base A outer s H) (hl:vs.length=ps.length) (r:D5 vs us)
  (x:InCallC s s.heap.objs.size (bindL (envOfC qual scope s.heap.objs.size f cd).kindOf (ps.zip us) fun _=>none) (cellsFrom (s.heap.objs.size+1) scope.names []) (bindC (envOfC qual scope s.heap.objs.size f cd).kindOf (ps.zip us) fun _=>none) s1) :
  Inv (aK5 CX P w K mg base N qual scope f cd A outer s H E) [] (V3 N vs) H s1:=by
 have hpl:ps.length<=N.length:=by have:=congrArg List.length S.pre;rw[List.length_take]at this;omega
 obtain⟨h1,tk,rfl,hk⟩:=x.done
 have noA:∀b:Addr,b∉(aK5 CX P w K mg base N qual scope f cd A outer s H E).ex:=fun b z=>absurd (show b∈([]:List Addr) from z) (by simp)
 refine⟨⟨e0.mod,S.kind,rfl,rfl,Nat.le_refl _,fun y z c h1 h2=>?_,fun y hy=>?_,fun y c _ h=>?_,fun _=>hd,Around.frames_deeper e0.frames,.inr ⟨rfl,rfl⟩,fun b z=>absurd z (noA b),e0.bs,e0.bsz,fun b _ _=>noA b,fun b z=>absurd z (noA b),e0.funs,e0.frf⟩,
  rfl,e0.bare,Un.kept hk,⟨_,x.toInCall.ns,fun i y v h1 h2 h3=>?_⟩,fun y c h=>⟨_,x.cell y c h⟩,e0.hok.fresh (Nat.le_refl _),fun y c h=>?_,fun p hp=>absurd (show p∈([]:List (Addr×Obj)) from hp) (by simp),e0.hok.kept hk,?_⟩
 ·exact name_of_addr x.apart (PySem.mem_of_lookup h1) (PySem.mem_of_lookup h2)
 ·have hy:scope.names.lookup y=some .cell\/scope.names.lookup y=some .free:=hy
  rcases hy with hy|hy
  ·exact aF3 hy
  ·exact absurd rfl (S.nofree _ (PySem.mem_of_lookup hy))
 ·exact Nat.le_of_lt (x.above y c (PySem.mem_of_lookup h))
 ·have hi:i < vs.length:=by
   unfold V3 at h2
   by_cases hi:i < vs.length
   ·exact hi
   ·rw[List.getElem?_append_right (by simpa using hi)]at h2
    rw[List.getElem?_replicate]at h2
    split at h2<;>cases h2
  have ha:vs[i]? = some v:=by
   unfold V3 at h2
   rw[List.getElem?_append_left (by simpa using hi),List.getElem?_map]at h2
   cases e:vs[i]? with
   | none=>rw[e]at h2;cases h2
   | some a=>rw[e]at h2;cases h2;rfl
  obtain⟨u,hu,rv⟩:=r.get ha
  have hp:ps[i]? = some y:=by rw[← S.pre,List.getElem?_take_of_lt (by omega)];exact h1
  have ndP:ps.Nodup:=by rw[← S.pre];exact S.nd.sublist (List.take_sublist _ _)
  refine⟨u,rv,?_⟩
  rcases S.par y (List.mem_of_getElem? hp) with k|k
  ·exact .inl ⟨k,au1 ndP hp hu k⟩
  ·obtain⟨c,e⟩:=aF3 (n:=s.heap.objs.size+1) k
   refine .inr ⟨.inl k,c,e,?_⟩
   have q:=x.cell y c e
   rw[au3 ndP hp hu (by show scope.names.lookup y≠_;rw[k];decide)]at q
   exact q
 ·exact e0.hok.fresh (Nat.le_of_lt (x.above y c (PySem.mem_of_lookup h)))
 ·unfold V3
  show _=N.length
  rw[List.length_append,List.length_map,List.length_replicate]
  omega
theorem aD6{CX:CXT}{P:Program}{w:World}{K:PySem.W.Frag}{mg:Str->Option Value}{base:Heap}{k:Nat}{f:Addr}{name qual:Str}{params:Arguments}{body:List Stmt}{scope:Scope}{dV kV doc pm cdv ct oc:Value}{an od:Option Addr}
  {osl:Array (Option Value)}{N ps:List Str}{sp:Sp}(lk:K.lookup f=some ⟨oc,od,.func (PySem.W.fnOf name qual params body scope dV kV doc pm an cdv ct),osl⟩) (hcd:PySem.W.codeIn K cdv qual=true) (S:FnScope N ps scope)
  (len:∀vs H Q E,sp vs H Q E->vs.length=ps.length)
  (hbody:∀(A:Around) (outer:List Env) (s:Shared) (H:Hp) (vs:List V) (Q:VK) (E:XK),Room k (A.deeper (envOfC qual scope s.heap.objs.size f cdv))->sp vs H Q E ->
   ∃t,PSs (aK5 CX P w K mg base N qual scope f cdv A outer s H E) body t/\t { nx:=fun _ H'=>Q .non H',rt:=Q } (V3 N vs) H) :
  FnOk P w K mg base CX (k+1) f (PySem.W.fnOf name qual params body scope dV kV doc pm an cdv ct) ps sp:=by
 refine⟨len,fun A outer s H args us vs Q E hr e0 hb r hsp=>?_⟩
 have hl:=len _ _ _ _ hsp
 have KX:K.In s.heap:=e0.mod.kin.keeps fun b o e=>(e0.bs b o e).1
 have lim:s.heap.NoLimit:=e0.mod.nolimit.keeps fun b o e=>(e0.bs b o e).1
 have hkind:∀y∈ps.zip us,scope.names.lookup y.1=some .local\/(scope.names.lookup y.1=some .cell/\((cellsFrom (s.heap.objs.size+1) scope.names []).lookup y.1).isSome=true):=fun⟨n,v⟩ hy=>by
  rcases S.par n (List.of_mem_zip hy).1 with q|q
  ·exact .inl q
  ·exact .inr ⟨q,PySem.W.cellsFrom_some _ _ _ (.inl q)⟩
 refine codeAny_call_function hr.depth (KX _ _ lk) rfl S.co S.gen rfl (PySem.W.codeRec_of KX hcd) (hb _ _ _ _ ?_)
 refine wpAny_newFunctionEnv_cells S.kind hkind fun env he s1 x=>?_
 subst he
 refine⟨lim.keeps x.toInCall.keep,codeAny_func ?_⟩
 obtain⟨t,ht,hq⟩:=hbody A outer s H vs Q E (hr.deeper _) hsp
 have I:Inv (aK5 CX P w K mg base N qual scope f cdv A outer s H E) [] (V3 N vs) H s1:=aW8 S hr.hd e0 hl r x
 refine wpAny_mono (ht [] s1 (V3 N vs) H _ I hq) (fun fl s' hs=>?_) fun e s' hs=>hs
 have fin:∀{σ':St}{H':Hp}{v:V}{u:Value},Inv (aK5 CX P w K mg base N qual scope f cdv A outer s H E) [] σ' H' s'->D3 v u->Q v H'->CE outer P w H s Q u s' :=
  fun{σ' H' v u} J rv q=>⟨v,H',J.os,J.bare,J.base,J.hok,rv,q⟩
 cases fl with
 | ret u =>
  obtain⟨v,σ',H',J,rv,q⟩:=hs
  exact fin J rv q
 | next =>
  obtain⟨σ',H',J,q⟩:=hs
  exact fin (v:=V.non) (u:=Value.none) J rfl q
 | brk =>
  obtain⟨_,_,_,q⟩:=hs
  exact False.elim q
 | cont =>
  obtain⟨_,_,_,q⟩:=hs
  exact False.elim q
section
variable {X:Cx}{x:Str}{p pos:Pos}{e:Expr}{es:List Expr}{t:TA}{id T:String}{r:List V->Hp->VK->Prop}
noncomputable def tCB(r:List V->Hp->VK->Prop) (t:TA):TE:=fun σ H Q=>t σ H fun vs H1=>r vs H1 Q
theorem L6(hc:R3 X (.builtin id) r) (hg:Gl X x) (hm:X.mg x=none) (hv:bootBuiltins x=some (.builtin id)) (ha:PA X (e::es) t) (hn:x ≠ "__name__" := by decide) (hdb:(x==("__debug__" : Str))=false:=by decide)
  (he:starEach (e::es) X.env=(false,eval e X.env)::starEach es X.env:=by rfl) (hpl:(backTo pos (starEach es X.env)).any (·.1)=false:=by rfl):PE X (.Call (.Name x p) (e::es) [] pos) (tCB r t):=by
 intro pins s σ H Q I h
 refine wpAny_Call_Name_kw (ay2 I hg hm hv ?_ hn hdb)
 exact PyProof.Rows.callWith_builtin1 (thn (ha pos pins s σ H _ I h) fun us s1 ⟨vs,H1,I1,r1,q1⟩=>hc pins s1 σ H1 vs us Q I1 r1 q1) he hpl
theorem V9(hc:R3 X (.type T) r) (hg:Gl X x) (hm:X.mg x=none) (hv:bootBuiltins x=some (.type T)) (ha:PA X (e::es) t) (hn:x ≠ "__name__" := by decide) (hdb:(x==("__debug__" : Str))=false:=by decide)
  (he:starEach (e::es) X.env=(false,eval e X.env)::starEach es X.env:=by rfl) (hpl:(backTo pos (starEach es X.env)).any (·.1)=false:=by rfl):PE X (.Call (.Name x p) (e::es) [] pos) (tCB r t):=by
 intro pins s σ H Q I h
 refine wpAny_Call_Name_kw (ay2 I hg hm hv ?_ hn hdb)
 exact PyProof.Rows.callWith_type1 (thn (ha pos pins s σ H _ I h) fun us s1 ⟨vs,H1,I1,r1,q1⟩=>hc pins s1 σ H1 vs us Q I1 r1 q1) he hpl
end
end L2
namespace HT
open PySem PyProof.Rows
section
open PySem.SeqAt
open PySem.AutoSeq1 (wpAny_loadPart')
open PySem.MeetsSeq PySem.MeetsSeq2 PySem.MeetsSeq3
end
section
variable {prog:Program}{w:World}{A:Around}{E:Value->Shared->Prop}{s:Shared}
theorem cat_tup{t b:Addr}{vs ws:List Value}{Q:Value->Shared->Prop}(ht:IsTup s.heap t vs.toArray) (hb:IsTup s.heap b ws.toArray) (hv:vs≠[])
  (h1:ws=[]->Q (.ref t) s) (h2:ws≠[]->Q (.ref s.heap.objs.size) { s with heap:=s.heap.push { cls:=.type "tuple", data:=.seq (vs++ws).toArray } })
  (hsz:vs.length+ws.length<=sizeLine):wpAny (model prog w) A (binaryOp .Add (.ref t) (.ref b)) Q E s:=by
 obtain⟨⟨cls,dd,data,sl⟩,ho,hc,n,hd⟩:=id ht
 obtain⟨⟨cls2,dd2,data2,sl2⟩,ho2,hc2,n2,hd2⟩:=id hb
 simp only at hc hd hc2 hd2
 subst hc hd hc2 hd2
 have e:vs.toArray++ws.toArray=(vs++ws).toArray:=by simp
 by_cases hw:ws=[]
 ·exact concat_meets ⟨_,ho,rfl⟩ ⟨_,ho2,rfl⟩ noFill_tuple_add seq_tuple_add PySem.F.slot_tuple_add PySem.F.entry_tuple_add (PySem.F.args_tuple_add_2 _ _)
   (tuple_addW1 t b vs.toArray ws.toArray n n2 dd dd2 sl sl2 (by simpa using hv) (by simp[hw])) ⟨ho,ho2,h1 hw⟩
 ·refine concat_meets ⟨_,ho,rfl⟩ ⟨_,ho2,rfl⟩ noFill_tuple_add seq_tuple_add PySem.F.slot_tuple_add PySem.F.entry_tuple_add (PySem.F.args_tuple_add_2 _ _)
   (tuple_addW2 t b vs.toArray ws.toArray n n2 dd dd2 sl sl2 (by simpa using hv) (by simpa using hw) (by rw[List.size_toArray,List.size_toArray];exact hsz)) ⟨ho,ho2,?_⟩
  rw[e]
  exact h2 hw
noncomputable def sIx(n d:Nat):Option Int->Nat
 | none=>d
 | some v=>if v < 0 then(v+(n:Int)).toNat else min v.toNat n
theorem sIx_none(n d:Nat):sIx n d none=d:=rfl
theorem sIx_nat(n d k:Nat):sIx n d (some (k:Int))=min k n:=by
 show(if(k:Int) < 0 then((k:Int)+(n:Int)).toNat else min (k:Int).toNat n)=min k n
 rw[if_neg (by omega),Int.toNat_natCast]
theorem bJ4(n d:Nat) (hd:d<=n) (o:Option Int):sIx n d o<=n:=by
 cases o with
 | none=>exact hd
 | some v =>
  show(if v < 0 then(v+(n:Int)).toNat else min v.toNat n)<=n
  by_cases hv:v < 0
  ·rw[if_pos hv];omega
  ·rw[if_neg hv];exact Nat.min_le_right _ _
theorem aS5(v:Int) (n d:Nat):(if v < 0 then max (v+(n:Int)) 0 else min v (n:Int))=((sIx n d (some v):Nat):Int):=by
 show(if v < 0 then max (v+(n:Int)) 0 else min v (n:Int))=(((if v < 0 then(v+(n:Int)).toNat else min v.toNat n):Nat):Int)
 by_cases hv:v < 0
 ·simp only[if_pos hv];omega
 ·simp only[if_neg hv];omega
theorem aL6(lo hi:Option Int) (n:Nat):Builtin.Slice.sliceAdjust lo hi 1 (n:Int)=(((sIx n 0 lo:Nat):Int),((sIx n n hi:Nat):Int)):=by
 have h1:¬((1:Int) < 0):=by omega
 unfold Builtin.Slice.sliceAdjust
 simp only[h1,if_false]
 refine Prod.ext ?_ ?_
 ·cases lo with
  | none=>rfl
  | some v=>exact aS5 v n 0
 ·cases hi with
  | none=>rfl
  | some v=>exact aS5 v n n
theorem aI3(i j:Nat):Builtin.Slice.slicePlaces (i:Int) (j:Int) 1=j - i:=by
 unfold Builtin.Slice.slicePlaces
 have h1:(1:Int) > 0:=by omega
 simp only[h1,if_true,Int.ediv_one]
 split<;>omega
theorem al2{v:Value}{o:Option Int}{Q:Option Int->Shared->Prop}(p:IsPart v o) (h:Q o s):wpAny (model prog w) A (Builtin.Slice.slicePartIndex v) Q E s:=by
 cases p with
 | none=>exact slicePart_none h
 | int i t=>exact slicePart_int h
theorem sliceApplied_gen{sl:Addr}{vl vu:Value}{lo hi:Option Int}{n:Nat}{Q:Int×Int×Nat->Shared->Prop}(hs:s.heap.IsSliceOf sl vl vu .none) (pl:IsPart vl lo) (pu:IsPart vu hi)
  (h:Q (((sIx n 0 lo:Nat):Int),1,sIx n n hi - sIx n 0 lo) s):wpAny (model prog w) A (Builtin.Slice.sliceApplied (.ref sl) (pure (n:Int))) Q E s:=by
 obtain⟨os,hos,hcs,hds⟩:=id hs
 unfold Builtin.Slice.sliceApplied Builtin.Slice.sliceFields
 refine wpAny_bind (wpAny_bind (wpAny_field hos hds (x:=vl) rfl (wpAny_bind (wpAny_field hos hds (x:=vu) rfl (wpAny_bind (wpAny_field hos hds (x:=.none) rfl (wpAny_pure ?_)))))))
 refine wpAny_bind (slicePart_none ?_)
 show wpAny _ _ (if((1:Int)==0)=true then _ else _) _ _ s
 rw[if_neg (by decide)]
 refine wpAny_bind (al2 pl (wpAny_bind (al2 pu (wpAny_bind (wpAny_pure ?_)))))
 show wpAny _ _ (match Builtin.Slice.sliceAdjust lo hi 1 (n:Int) with|(lo,hi)=>pure (lo,(1:Int),Builtin.Slice.slicePlaces lo hi 1)) _ _ s
 rw[aL6 lo hi n]
 show wpAny _ _ (pure (((sIx n 0 lo:Nat):Int),(1:Int),Builtin.Slice.slicePlaces ((sIx n 0 lo:Nat):Int) ((sIx n n hi:Nat):Int) 1)) _ _ s
 rw[aI3]
 exact wpAny_pure h
theorem bf6(xs:Array Value) (i k:Nat):((List.range k).filterMap fun(m:Nat)=>xs[((i:Int)+(m:Int)*1).toNat]?).toArray=((xs.toList.drop i).take k).toArray:=by
 have e:(fun(m:Nat)=>xs[((i:Int)+(m:Int)*1).toNat]?)=fun m=>xs[i+m]?:=by
  funext m
  have:((i:Int)+(m:Int)*1).toNat=i+m:=by omega
  rw[this]
 rw[e]
 have:=pick_run xs i k
 rw[List.filterMap_map]at this
 have e2:((fun x=>xs[x]?) ∘ fun x=>i+x)=fun m=>xs[i+m]?:=rfl
 rw[e2]at this
 rw[this]
theorem getItem_tuple_cut{t sl:Addr}{items:Array Value}{vl vu:Value}{lo hi:Option Int}{Q:Value->Shared->Prop}(ht:IsTup s.heap t items) (hs:s.heap.IsSliceOf sl vl vu .none) (pl:IsPart vl lo) (pu:IsPart vu hi)
  (hw:¬(sIx items.size 0 lo=0/\sIx items.size items.size hi=items.size))
  (h:Q (.ref s.heap.objs.size) { s with heap:=s.heap.push { cls:=.type "tuple", data:=.seq ((items.toList.drop (sIx items.size 0 lo)).take (sIx items.size items.size hi - sIx items.size 0 lo)).toArray } })
  (hsz:items.size<=sizeLine):wpAny (model prog w) A (getItem (.ref t) (.ref sl)) Q E s:=by
 have htake:sizeOk (.seq ((items.toList.drop (sIx items.size 0 lo)).take (sIx items.size items.size hi - sIx items.size 0 lo)).toArray):=by
  show((items.toList.drop (sIx items.size 0 lo)).take (sIx items.size items.size hi - sIx items.size 0 lo)).toArray.size<=sizeLine
  rw[List.size_toArray,List.length_take,List.length_drop,Array.length_toList]
  omega
 have hj:sIx items.size items.size hi<=items.size:=bJ4 _ _ (Nat.le_refl _) hi
 obtain⟨os,hos,hcs,hds⟩:=id hs
 have hTs:s.TypeIs (.ref sl) "slice" := ⟨os,hos,hcs⟩
 unfold getItem
 try with_reducible refine wpAny_holding ?_
 first|refine wpAny_bind (wpAny_pure ?_)|skip
 refine wpAny_bind (wpAny_sequenceKey ht.typeIs (by decide) ?_)
 refine wpAny_bind (wpAny_callSpecial?_slot (name:=Str.ofString "__getitem__") ht.typeIs PyProof.Rows.slot_tuple_getitem
  (wpAny_call_entry PyProof.Rows.slot_tuple_getitem ht.typeIs entry_tuple_getitem ?_ (args_tuple_getitem _ _)))
 show wpAny _ _ (Builtin.Tuple.tupleItemsOf (.ref t) >>= _) _ _ s
 refine wpAny_bind (tupleItemsOf_ ht ?_)
 refine wpAny_bind (wpAny_typeOf hTs ?_)
 rw[if_pos (by decide)]
 refine wpAny_bind (sliceApplied_gen hs pl pu ?_)
 have hno:¬((((sIx items.size 0 lo:Nat):Int)==0&&(1:Int)==1&&(sIx items.size items.size hi - sIx items.size 0 lo)==items.size)=true):=by
  intro q
  rw[Bool.and_eq_true,Bool.and_eq_true]at q
  have q1:((sIx items.size 0 lo:Nat):Int)=0:=eq_of_beq q.1.1
  have q2:sIx items.size items.size hi - sIx items.size 0 lo=items.size:=eq_of_beq q.2
  exact hw ⟨by omega,by omega⟩
 show wpAny _ _ (if(((sIx items.size 0 lo:Nat):Int)==0&&(1:Int)==1&&(sIx items.size items.size hi - sIx items.size 0 lo)==items.size)=true then _ else _) _ _ s
 rw[if_neg hno,bf6]
 first
  | exact wpAny_bind (m:=Builtin.Tuple.tupleExact _) (wpAny_newObj_type (wpAny_pure ⟨_,rfl,wpAny_pure h⟩) htake)
  | exact wpAny_bind (m:=Builtin.Tuple.tupleExact _) (wpAny_newObj_type (wpAny_bind (wpAny_pure (wpAny_pure ⟨_,rfl,wpAny_pure h⟩))) htake)
  | exact wpAny_bind (wpAny_bind (m:=Builtin.Tuple.tupleExact _) (wpAny_newObj_type (wpAny_pure (wpAny_pure ⟨_,rfl,wpAny_pure h⟩)) htake))
  | exact wpAny_bind (wpAny_bind (m:=Builtin.Tuple.tupleExact _) (wpAny_newObj_type (wpAny_pure ⟨_,rfl,wpAny_pure h⟩) htake))
end
end HT
namespace L2
open PySem PySem.Spec PyProof.Rows
noncomputable abbrev TO:=St->Hp->(Option Int->Hp->Prop)->Prop
noncomputable def PO(X:Cx) (e:Option Expr) (t:TO):Prop :=
 ∀(pins:List (Addr×Obj)) (s:Shared) (σ:St) (H:Hp) (Q:Option Int->Hp->Prop),Inv X pins σ H s->t σ H Q ->
  wpAny (model X.prog X.w) X.A (evalPart e X.env) (fun u s'=>∃o H',Inv X pins σ H' s'/\IsPart u o/\Q o H') X.xe s
noncomputable def br9:TO:=fun _ H Q=>Q none H
noncomputable def bZ0(t:TE):TO:=fun σ H Q=>t σ H fun x H1=>∃i,x=.int i/\Q (some i) H1
section
variable {X:Cx}{e:Expr}{te:TE}{lo hi:Option Expr}{tl th:TO}{pos p2:Pos}
theorem bt7:PO X none br9:=by
 intro pins s σ H Q I h
 rw[evalPart_none]
 exact wpAny_pure ⟨none,H,I,.none,h⟩
theorem bt6(h:PE X e te):PO X (some e) (bZ0 te):=by
 intro pins s σ H Q I hw
 rw[evalPart_some]
 refine thn (h pins s σ H _ I hw) fun u s1 ⟨x,H1,I1,r1,q1⟩=>?_
 obtain⟨i,rfl,q⟩:=q1
 obtain⟨t,rfl⟩:=r1
 exact⟨some i,H1,I1,.int i t,q⟩
noncomputable def SlR(X:Cx) (r:V->Option Int->Option Int->Hp->VK->Prop):Prop :=
 ∀(pins:List (Addr×Obj)) (s:Shared) (σ:St) (H:Hp) (x:V) (v vl vu:Value) (lo hi:Option Int) (sl:Addr) (Q:VK),Inv X pins σ H s->D3 x v->s.heap.IsSliceOf sl vl vu .none->IsPart vl lo->IsPart vu hi->r x lo hi H Q ->
  ∃T id,typeLookup (.type T) "__getitem__" = pure (some (.builtin id))/\s.TypeIs v T/\wpAny (model X.prog X.w) X.A (getItem v (.ref sl)) (EP X pins σ Q) X.xe s
theorem SlR.or{r r':V->Option Int->Option Int->Hp->VK->Prop}(h:SlR X r) (h':SlR X r'):SlR X (fun x lo hi H Q=>r x lo hi H Q\/r' x lo hi H Q):=by
 intro pins s σ H x v vl vu lo hi sl Q I rx hs pl pu q
 rcases q with q|q
 ·exact h pins s σ H x v vl vu lo hi sl Q I rx hs pl pu q
 ·exact h' pins s σ H x v vl vu lo hi sl Q I rx hs pl pu q
noncomputable def tSl(r:V->Option Int->Option Int->Hp->VK->Prop) (te:TE) (tl th:TO):TE:=fun σ H Q=>te σ H fun x H1=>tl σ H1 fun l H2=>th σ H2 fun u H3=>r x l u H3 Q
theorem ac8{r:V->Option Int->Option Int->Hp->VK->Prop}(hr:SlR X r) (he:PE X e te) (hl:PO X lo tl) (hu:PO X hi th):PE X (.Subscript e (.Slice lo hi none p2) pos) (tSl r te tl th):=by
 intro pins s σ H Q I h
 refine Subscript_ (thn (he pins s σ H _ I h) fun v s1 ⟨x,H1,I1,r1,q1⟩=>?_)
 refine wpAny_Slice (thn (hl pins s1 σ H1 _ I1 q1) fun vl s2 ⟨l,H2,I2,pl,q2⟩=>thn (hu pins s2 σ H2 _ I2 q2) fun vu s3 ⟨u,H3,I3,pu,q3⟩=>?_)
 rw[evalPart_none]
 refine wpAny_pure ?_
 have I4:Inv X pins σ H3 { s3 with heap:=s3.heap.push { cls:=.type "slice", data:=.fields #[vl,vu,.none] } }:=I3.kept (t':=s3.toks) fun b ob q=>Heap.get?_push_of_some _ q
 obtain⟨T,id,hT,ht,hg⟩:=hr pins { s3 with heap:=s3.heap.push { cls:=.type "slice", data:=.fields #[vl,vu,.none] } } σ H3 x v vl vu l u s3.heap.objs.size Q I4 r1 (Heap.IsSliceOf.new ..) pl pu q3
 show wpAny (model X.prog X.w) X.A (subscriptTail e (.Slice lo hi none p2) v (.ref s3.heap.objs.size)) (EP X pins σ Q) X.xe { s3 with heap:=s3.heap.push { cls:=.type "slice", data:=.fields #[vl,vu,.none] } }
 exact tail_any (ops:=[.ref s3.heap.objs.size,v]) ht hT hg (by with_unfolding_all rfl)
noncomputable def aF1(xs:List V) (lo hi:Option Int):List V:=(xs.drop (HT.sIx xs.length 0 lo)).take (HT.sIx xs.length xs.length hi - HT.sIx xs.length 0 lo)
theorem ah6(xs:List V) (lo hi:Option Int):(aF1 xs lo hi).length<=xs.length:=by
 unfold aF1
 rw[List.length_take,List.length_drop]
 omega
noncomputable def ck3(K:PySem.W.Frag):V->Option Int->Option Int->Hp->VK->Prop:=fun x lo hi H Q=>∃a xs,x=.ref a/\SqT K H a xs /\
 ¬(HT.sIx xs.length 0 lo=0/\HT.sIx xs.length xs.length hi=xs.length)/\∀p,H p=none->Q (.ref p) (upd H p (.tup (aF1 xs lo hi)))
theorem bJ3:SlR X (ck3 X.K):=by
 intro pins s σ H x v vl vu lo hi sl Q I rx hs pl pu h
 obtain⟨a,xs,rfl,hx,hw,q⟩:=h
 cases rx
 obtain⟨its,r,ht,hz⟩:=I.tuple hx
 have hlen:its.toArray.size=xs.length:=by rw[List.size_toArray];exact r.length.symm
 refine⟨"tuple", _,PyProof.Rows.slot_tuple_getitem.lookup,ht.typeIs,?_⟩
 refine HT.getItem_tuple_cut ht hs pl pu (by rw[hlen];exact hw) ?_ (by rw[hlen];exact hz)
 rw[hlen]
 refine⟨.ref s.heap.objs.size,_,I.laid (t':=s.toks) (o:=.tup (aF1 xs lo hi)) (fun b ob q=>Heap.get?_push_of_some _ q) (Nat.le_refl _) ?_,rfl,q _ (I.hok.fresh (Nat.le_refl _))⟩
 exact⟨Nat.le_trans (ah6 xs lo hi) hz,_,(r.drop (HT.sIx xs.length 0 lo)).take (HT.sIx xs.length xs.length hi - HT.sIx xs.length 0 lo),ao8.new _ _⟩
noncomputable def ca9(K:PySem.W.Frag):R2:=fun x y H Q=>∃a b xs ys,x=.ref a/\y=.ref b/\SqT K H a xs/\SqT K H b ys/\xs≠[]/\xs.length+ys.length<=sizeLine /\
 (ys=[]->Q (.ref a) H)/\(ys≠[]->∀p,H p=none->Q (.ref p) (upd H p (.tup (xs++ys))))
theorem D5.nil_iff{xs:List V}{us:List Value}(r:D5 xs us):us=[]↔xs=[]:=by
 cases r with
 | nil=>simp
 | cons _ _=>simp
theorem bv2:OpR X (binaryOp .Add) (ca9 X.K):=by
 intro pins s σ H x y v u Q I rx ry h
 obtain⟨a,b,xs,ys,rfl,rfl,ha,hb,hx,hz,q1,q2⟩:=h
 cases rx
 cases ry
 obtain⟨its,r1,p1,_⟩:=I.tuple ha
 obtain⟨its2,r2,p2,_⟩:=I.tuple hb
 refine HT.cat_tup p1 p2 (fun z=>hx (r1.nil_iff.mp z)) (fun z=>⟨.ref a,H,I,rfl,q1 (r2.nil_iff.mp z)⟩) (fun z=>?_) (by rw[← r1.length,← r2.length];exact hz)
 refine⟨.ref s.heap.objs.size,_,I.laid (t':=s.toks) (o:=.tup (xs++ys)) (fun b ob q=>Heap.get?_push_of_some _ q) (Nat.le_refl _) ?_,rfl,q2 (fun w=>z (r2.nil_iff.mpr w)) _ (I.hok.fresh (Nat.le_refl _))⟩
 exact⟨by rw[List.length_append];exact hz,_,r1.append r2,ao8.new _ _⟩
end
noncomputable def ixN(n:Nat) (i:Int):Option Nat:=if 0<=i then(if i < n then some i.toNat else none) else if -(n:Int)<=i then some (i+n).toNat else none
noncomputable def atI{α:Type}(xs:List α) (i:Int):Option α:=(ixN xs.length i).bind fun j=>xs[j]?
theorem bz8{n:Nat}{i:Int}{j:Nat}(h:ixN n i=some j):seqIndex? i n=some j/\j < n/\-(n:Int)<=i/\i < n:=by
 unfold ixN at h
 by_cases h0:0<=i
 ·rw[if_pos h0]at h
  by_cases h1:i < n
  ·rw[if_pos h1]at h
   have e:i.toNat=j:=Option.some.inj h
   exact⟨by rw[seqIndex_of h0 h1,e],by omega,by omega,h1⟩
  ·rw[if_neg h1]at h;cases h
 ·rw[if_neg h0]at h
  by_cases h1:-(n:Int)<=i
  ·rw[if_pos h1]at h
   have e:(i+n).toNat=j:=Option.some.inj h
   exact⟨by rw[seqIndex_neg (by omega) h1,e],by omega,h1,by omega⟩
  ·rw[if_neg h1]at h;cases h
theorem az9{α:Type}{xs:List α}{i:Int}{v:α}(h:atI xs i=some v):∃j,seqIndex? i xs.length=some j/\xs[j]? = some v/\j < xs.length/\-(xs.length:Int)<=i/\i < xs.length:=by
 unfold atI at h
 cases e:ixN xs.length i with
 | none=>rw[e]at h;cases h
 | some j =>
  rw[e]at h
  obtain⟨h1,h2,h3,h4⟩:=bz8 e
  exact⟨j,h1,h,h2,h3,h4⟩
theorem J1{α:Type}{xs:List α}{j:Nat}{v:α}(h:xs[j]? = some v):atI xs (j:Int)=some v:=by
 have hj:j < xs.length:=(List.getElem?_eq_some_iff.mp h).1
 have e:ixN xs.length (j:Int)=some j:=by
  unfold ixN
  rw[if_pos (by omega),if_pos (by omega)];simp
 unfold atI;rw[e];exact h
noncomputable def ae4(b:Expr):Prop:=∀o i,subscripted b false o i=operate [o,i] (getItem o i)
noncomputable def IxR(X:Cx) (r:R2):Prop :=
 ∀(value slice:Expr) (pins:List (Addr×Obj)) (s:Shared) (σ:St) (H:Hp) (x y:V) (v u:Value) (Q:VK),Inv X pins σ H s->D3 x v->D3 y u->r x y H Q ->
  subscripted slice false v u=operate [v,u] (getItem v u)->wpAny (model X.prog X.w) X.A (subscriptTail value slice v u) (EP X pins σ Q) X.xe s
noncomputable def MtR(X:Cx) (id:String) (r:V->List V->Hp->VK->Prop):Prop :=
 ∀(pins:List (Addr×Obj)) (s:Shared) (σ:St) (H:Hp) (x:V) (xs:List V) (v:Value) (us:List Value) (Q:VK),Inv X pins σ H s->D3 x v->D5 xs us->r x xs H Q ->
  wpAny (model X.prog X.w) X.A (call (.builtin id) (v::us)) (EP X pins σ Q) X.xe s
section
variable {X:Cx}{a b:Expr}{ta tb:TE}{pos:Pos}
theorem IxR.or{r r':R2}(h:IxR X r) (h':IxR X r'):IxR X (fun x y H Q=>r x y H Q\/r' x y H Q):=by
 intro value slice pins s σ H x y v u Q I rx ry q hs
 rcases q with q|q
 ·exact h value slice pins s σ H x y v u Q I rx ry q hs
 ·exact h' value slice pins s σ H x y v u Q I rx ry q hs
theorem bE4{r:R2}(hr:IxR X r) (ha:PE X a ta) (hb:PE X b tb) (hs:ae4 b):PE X (.Subscript a b pos) (tOp r ta tb):=by
 intro pins s σ H Q I h
 exact Subscript_ (bV8 ha hb I h fun v u s2 x y H2 I2 rx ry q=>hr a b pins s2 σ H2 x y v u Q I2 rx ry q (hs _ _))
noncomputable def ca8(K:PySem.W.Frag):R2:=fun x y H Q=>∃p xs i v,x=.ref p/\y=.int i/\SqL K H p xs/\atI xs i=some v/\Q v H
noncomputable def ca6(K:PySem.W.Frag):R2:=fun x y H Q=>∃p xs i v,x=.ref p/\y=.int i/\SqT K H p xs/\atI xs i=some v/\Q v H
noncomputable def ca7:R2:=fun x y H Q=>∃z i c,x=.str z/\y=.int i/\z.length<=sizeLine/\atI z.cps.toList i=some c/\Q (.str ⟨#[c]⟩) H
theorem bz7:IxR X (ca8 X.K):=by
 intro value slice pins s σ H x y v u Q I rx ry h hs
 obtain⟨p,xs,i,z,rfl,rfl,hq,he,q⟩:=h
 cases rx
 obtain⟨t,rfl⟩:=ry
 obtain⟨its,r,pl,hz⟩:=I.list hq
 obtain⟨j,h1,h2,h3,h4,h5⟩:=az9 he
 obtain⟨w,ew,rw'⟩:=r.get h2
 have hl:=r.length
 have hn:=af3
 have fin:EP X pins σ Q w s:=⟨z,H,I,rw',q⟩
 by_cases h0:0<=i
 ·have hj:i.toNat=j:=by
   rw[seqIndex_of h0 h5]at h1
   exact Option.some.inj h1
  exact item_listR pl.isList h0 (by omega) (by rw[hj];simpa using ew) fin hs
 ·have hj:(i+(its.toArray.size:Int)).toNat=j:=by
   rw[seqIndex_neg (by omega) h4]at h1
   rw[List.size_toArray,← hl]
   exact Option.some.inj h1
  exact subscriptTail_builtinR (x:=w) pl.isList.typeIs slot_list_getitem.lookup
   (wpAny_getItem_list_neg (Q:=fun r s'=>r=w/\EP X pins σ Q r s') pl.isList (by omega) (by rw[List.size_toArray]<;>omega) (by omega) (by rw[hj];simpa using ew) ⟨rfl,fin⟩) hs
theorem bT3:IxR X (ca6 X.K):=by
 intro value slice pins s σ H x y v u Q I rx ry h hs
 obtain⟨p,xs,i,z,rfl,rfl,hq,he,q⟩:=h
 cases rx
 obtain⟨t,rfl⟩:=ry
 obtain⟨its,r,pl,hz⟩:=I.tuple hq
 obtain⟨j,h1,h2,h3,h4,h5⟩:=az9 he
 obtain⟨w,ew,rw'⟩:=r.get h2
 have hl:=r.length
 have hn:=af3
 have fin:EP X pins σ Q w s:=⟨z,H,I,rw',q⟩
 exact subscriptTail_builtinR (x:=w) pl.typeIs slot_tuple_getitem.lookup
  (getItem_tuple (j:=j) (Q:=fun r s'=>r=w/\EP X pins σ Q r s') pl (by omega) (by omega) (by rw[List.size_toArray,← hl];exact h1) (by simpa using ew) ⟨rfl,fin⟩) hs
theorem bT4:IxR X ca7:=by
 intro value slice pins s σ H x y v u Q I rx ry h hs
 obtain⟨z,i,c,rfl,rfl,hz,he,q⟩:=h
 obtain⟨t,rfl⟩:=rx
 obtain⟨t',rfl⟩:=ry
 obtain⟨j,h1,h2,h3,h4,h5⟩:=az9 he
 have hl:z.cps.toList.length=z.length:=by simp[Str.length]
 rw[hl]at h1 h4 h5
 have hn:=af3
 exact tail_any (typeIs_str s z t) slot_str_getitem.lookup (getItem_str (c:=c) (by
  have e1:decide (i < -(2 ^ 63:Int))=false:=decide_eq_false (by omega)
  have e2:decide (i ≥ 2 ^ 63)=false:=decide_eq_false (by omega)
  rw[e1,e2,Bool.or_false]) (by rw[h1];simpa using h2) ⟨.str ⟨#[c]⟩,H,I.tok _,⟨_,rfl⟩,q⟩) hs
noncomputable def rIx(K:PySem.W.Frag):R2:=fun x y H Q=>ca8 K x y H Q\/ca6 K x y H Q\/ca7 x y H Q
theorem bk9:IxR X (rIx X.K):=bz7.or (bT3.or bT4)
theorem ac2(lo hi:Option Int) (n:Nat):(sliceBounds lo hi none n).1=((HT.sIx n 0 lo:Nat):Int)/\(sliceBounds lo hi none n).2.1=((HT.sIx n n hi:Nat):Int)/\(sliceBounds lo hi none n).2.2=1:=by
 refine⟨?_,?_,rfl⟩
 ·cases lo with
  | none=>simp[sliceBounds,HT.sIx]
  | some i =>
   simp only[sliceBounds,HT.sIx,Option.getD_none,show(1:Int) > 0 by decide,if_true]
   by_cases h:i < 0
   ·simp only[h,if_true]<;>omega
   ·simp only[h,if_false]<;>omega
 ·cases hi with
  | none=>simp[sliceBounds,HT.sIx]
  | some i =>
   simp only[sliceBounds,HT.sIx,Option.getD_none,show(1:Int) > 0 by decide,if_true]
   by_cases h:i < 0
   ·simp only[h,if_true]<;>omega
   ·simp only[h,if_false]<;>omega
theorem aq0(its:List Value) (lo hi:Option Int):slicePick its.toArray lo hi none=((its.drop (HT.sIx its.length 0 lo)).take (HT.sIx its.length its.length hi - HT.sIx its.length 0 lo)).toArray:=by
 obtain⟨h1,h2,h3⟩:=ac2 lo hi its.toArray.size
 unfold slicePick
 rw[h1,h2,h3]
 simp only[sliceRange_one,pick_run,List.size_toArray]<;>rfl
noncomputable def ck4(K:PySem.W.Frag):V->Option Int->Option Int->Hp->VK->Prop:=fun x lo hi H Q=>∃a xs,x=.ref a/\SqL K H a xs/\∀p,H p=none->Q (.ref p) (upd H p (.lst (aF1 xs lo hi)))
theorem aN7:SlR X (ck4 X.K):=by
 intro pins s σ H x v vl vu lo hi sl Q I rx hs pl pu h
 obtain⟨a,xs,rfl,hx,q⟩:=h
 cases rx
 obtain⟨its,r,ht,hz⟩:=I.list hx
 have hlen:=r.length
 refine⟨"list", _,slot_list_getitem.lookup,ht.isList.typeIs,?_⟩
 refine wpAny_getItem_list_slice ht.isList hs pl pu .none (by simp) ?_ (by rw[List.size_toArray]<;>omega)
 rw[aq0,← hlen]
 refine⟨.ref s.heap.objs.size,_,I.laid (t':=s.toks) (o:=.lst (aF1 xs lo hi)) (fun b ob q=>Heap.get?_push_of_some _ q) (Nat.le_refl _) ?_,rfl,q _ (I.hok.fresh (Nat.le_refl _))⟩
 exact⟨Nat.le_trans (ah6 xs lo hi) hz,_,0,(r.drop (HT.sIx xs.length 0 lo)).take (HT.sIx xs.length xs.length hi - HT.sIx xs.length 0 lo),Heap.get?_push_size _ rfl⟩
noncomputable def x8:V->Bool
 | .non=>true
 | .bl _=>true
 | .int _=>true
 | .str _=>true
 | _=>false
noncomputable def eqV:V->V->Bool
 | .non,.non=>true
 | .bl a,.bl b=>a==b
 | .bl a,.int b=>(if a then 1 else 0)==b
 | .int a,.bl b=>a==(if b then 1 else 0)
 | .int a,.int b=>a==b
 | .str a,.str b=>a==b
 | _,_=>false
theorem bU9{A:Around}{s:Shared}{y x:V}{u v:Value}(ry:D3 y u) (rx:D3 x v) (fy:x8 y=true) (fx:x8 x=true):SeqAt.EqAt A s u v (eqV y x):=by
 cases y with
 | non =>
  cases ry
  cases x with
  | non=>cases rx;exact SeqAt.EqAt.same _
  | bl b=>cases rx;exact SeqAt.EqAt.none_bool b
  | int b=>obtain⟨t,rfl⟩:=rx;exact SeqAt.EqAt.none_int b t
  | str b=>obtain⟨t,rfl⟩:=rx;exact SeqAt.EqAt.none_str b t
  | _=>exact absurd (show false=true from fx) Bool.false_ne_true
 | bl a =>
  cases ry
  cases x with
  | non=>cases rx;exact SeqAt.EqAt.bool_none a
  | bl b=>cases rx;exact SeqAt.EqAt.bool_bool a b
  | int b=>obtain⟨t,rfl⟩:=rx;exact SeqAt.EqAt.bool_int a b t
  | str b=>obtain⟨t,rfl⟩:=rx;exact SeqAt.EqAt.bool_str a b t
  | _=>exact absurd (show false=true from fx) Bool.false_ne_true
 | int a =>
  obtain⟨t',rfl⟩:=ry
  cases x with
  | non=>cases rx;exact SeqAt.EqAt.int_none a t'
  | bl b=>cases rx;exact SeqAt.EqAt.int_bool a t' b
  | int b=>obtain⟨t,rfl⟩:=rx;exact SeqAt.EqAt.int_int a t' b t
  | str b=>obtain⟨t,rfl⟩:=rx;exact SeqAt.EqAt.int_str a t' b t
  | _=>exact absurd (show false=true from fx) Bool.false_ne_true
 | str a =>
  obtain⟨t',rfl⟩:=ry
  cases x with
  | non=>cases rx;exact SeqAt.EqAt.str_none a t'
  | bl b=>cases rx;exact SeqAt.EqAt.str_bool a t' b
  | int b=>obtain⟨t,rfl⟩:=rx;exact SeqAt.EqAt.str_int a t' b t
  | str b=>obtain⟨t,rfl⟩:=rx;exact SeqAt.EqAt.str_str a t' b t
  | _=>exact absurd (show false=true from fx) Bool.false_ne_true
 | _=>exact absurd (show false=true from fy) Bool.false_ne_true
noncomputable def eqU(x:V) (u:Value):Bool:=match u with
 | .none=>eqV .non x
 | .bool b=>eqV (.bl b) x
 | .int i _=>eqV (.int i) x
 | .str z _=>eqV (.str z) x
 | _=>false
theorem bn7{x y:V}{u:Value}(r:D3 y u) (f:x8 y=true):eqU x u=eqV y x:=by
 cases y with
 | non=>cases r;rfl
 | bl b=>cases r;rfl
 | int i=>obtain⟨t,rfl⟩:=r;rfl
 | str z=>obtain⟨t,rfl⟩:=r;rfl
 | _=>exact absurd (show false=true from f) Bool.false_ne_true
theorem ae2{x:V}:∀{xs:List V}{us:List Value},D5 xs us->xs.all x8=true->us.any (eqU x)=xs.any fun y=>eqV y x
 | _,_,.nil,_=>rfl
 | y::xs,u::us,.cons r t,f=>by
  rw[List.all_cons,Bool.and_eq_true]at f
  rw[List.any_cons,List.any_cons,bn7 r f.1,ae2 t f.2]
theorem m9{A:Around}{s:Shared}{x:V}{v:Value}(rx:D3 x v) (fx:x8 x=true):∀{xs:List V}{us:List Value},D5 xs us->xs.all x8=true->∀u∈us,SeqAt.EqAt A s u v (eqU x u)
 | _,_,.nil,_=>fun u hu=>by cases hu
 | y::xs,u::us,.cons r t,f=>fun u' hu=>by
  rw[List.all_cons,Bool.and_eq_true]at f
  rcases List.mem_cons.mp hu with rfl|hu
  ·rw[bn7 r f.1];exact bU9 r rx f.1 fx
  ·exact m9 rx fx t f.2 u' hu
noncomputable def inV(x:V) (xs:List V):Bool:=xs.any fun y=>eqV y x
noncomputable def rIn(K:PySem.W.Frag) (neg:Bool):R2:=fun x y H Q=>∃p xs,y=.ref p/\(SqL K H p xs\/SqT K H p xs)/\x8 x=true/\xs.all x8=true/\Q (.bl (if neg then !inV x xs else inV x xs)) H
theorem aU9:OpR X (compareOp .In) (rIn X.K false):=by
 intro pins s σ H x y v u Q I rx ry h
 obtain⟨p,xs,rfl,hq,fx,fs,q⟩:=h
 cases ry
 rcases hq with hq|hq
 ·obtain⟨its,r,pl,hz⟩:=I.list hq
  refine SeqAt.in_listAt (eqU x) pl.isList (fun w hw=>m9 rx fx r fs w (by simpa using hw)) ⟨.bl _,H,I,rfl,?_⟩
  rw[show its.toArray.any (eqU x)=its.any (eqU x) by simp,ae2 r fs]
  exact q
 ·obtain⟨its,r,pl,hz⟩:=I.tuple hq
  refine SeqAt.in_tupleAt (eqU x) pl (fun w hw=>m9 rx fx r fs w (by simpa using hw)) ⟨.bl _,H,I,rfl,?_⟩
  rw[show its.toArray.any (eqU x)=its.any (eqU x) by simp,ae2 r fs]
  exact q
theorem ax0:OpR X (compareOp .NotIn) (rIn X.K true):=by
 intro pins s σ H x y v u Q I rx ry h
 obtain⟨p,xs,rfl,hq,fx,fs,q⟩:=h
 cases ry
 rcases hq with hq|hq
 ·obtain⟨its,r,pl,hz⟩:=I.list hq
  refine SeqAt.notIn_listAt (eqU x) pl.isList (fun w hw=>m9 rx fx r fs w (by simpa using hw)) ⟨.bl _,H,I,rfl,?_⟩
  rw[show its.toArray.any (eqU x)=its.any (eqU x) by simp,ae2 r fs]
  exact q
 ·obtain⟨its,r,pl,hz⟩:=I.tuple hq
  refine SeqAt.notIn_tupleAt (eqU x) pl (fun w hw=>m9 rx fx r fs w (by simpa using hw)) ⟨.bl _,H,I,rfl,?_⟩
  rw[show its.toArray.any (eqU x)=its.any (eqU x) by simp,ae2 r fs]
  exact q
theorem az7:R3 X (.builtin "len") (fun xs H Q=>∃p ys,xs=[.ref p]/\(SqL X.K H p ys\/SqT X.K H p ys)/\Q (.int ys.length) H):=by
 intro pins s σ H xs us Q I r h
 obtain⟨p,ys,rfl,hq,q⟩:=h
 obtain⟨u,rfl,rx⟩:=T6 r
 cases rx
 have hn:=af3
 rcases hq with hq|hq
 ·obtain⟨its,r',pl,hz⟩:=I.list hq
  have hlen:=r'.length
  exact Calls.call_len_list pl.isList (by simp only[List.size_toArray]<;>omega) ⟨.int ys.length,H,I.tok _,⟨s.toks+1,by rw[List.size_toArray,hlen]⟩,q⟩
 ·obtain⟨its,r',pl,hz⟩:=I.tuple hq
  have hlen:=r'.length
  exact len_tuple pl (by simp only[List.size_toArray]<;>omega) ⟨.int ys.length,H,I.tok _,⟨s.toks+1,by rw[List.size_toArray,hlen]⟩,q⟩
theorem az6:R3 X (.type "list") (fun xs H Q=>∃p ys,xs=[.ref p]/\(SqL X.K H p ys\/SqT X.K H p ys)/\∀l,H l=none->Q (.ref l) (upd H l (.lst ys))):=by
 intro pins s σ H xs us Q I r h
 obtain⟨p,ys,rfl,hq,q⟩:=h
 obtain⟨u,rfl,rx⟩:=T6 r
 cases rx
 have fin:∀(its:List Value),D5 ys its->ys.length<=sizeLine->∀(h':Heap) (c':Nat),(∀b o',s.heap.get? b=some o'->h'.get? b=some o') ->
   h'.get? s.heap.objs.size=some { cls:=.type "list", dict:=none,data:=.seq its.toArray c',slots:=#[] }->EP X pins σ Q (.ref s.heap.objs.size) { s with heap:=h' }:=fun its r' hz h' c' kp e =>
  ⟨.ref s.heap.objs.size,_,I.laid (t':=s.toks) kp (Nat.le_refl _) (show M5 X.prog X.w _ h' _ (.lst ys) from⟨hz,its,c',r',e⟩),rfl,q _ (I.hok.fresh (Nat.le_refl _))⟩
 rcases hq with hq|hq
 ·obtain⟨its,r',pl,hz⟩:=I.list hq
  have hlen:=r'.length
  obtain⟨o,ho,hc,n,hd⟩:=pl.isList
  exact call_list_seq p (.inl rfl) ho hc hd (fun h' c' kp e=>fin its r' hz h' c' kp e) (by simp only[List.size_toArray]<;>omega)
 ·obtain⟨its,r',pl,hz⟩:=I.tuple hq
  have hlen:=r'.length
  obtain⟨o,ho,hc,n,hd⟩:=pl
  exact call_list_seq p (.inr rfl) ho hc hd (fun h' c' kp e=>fin its r' hz h' c' kp e) (by simp only[List.size_toArray]<;>omega)
theorem aq6:R3 X (.type "tuple") (fun xs H Q=>∃p ys,xs=[.ref p]/\((SqL X.K H p ys/\∀l,H l=none->Q (.ref l) (upd H l (.tup ys)))\/(SqT X.K H p ys/\Q (.ref p) H))):=by
 intro pins s σ H xs us Q I r h
 obtain⟨p,ys,rfl,h⟩:=h
 obtain⟨u,rfl,rx⟩:=T6 r
 cases rx
 rcases h with⟨hq,q⟩|⟨hq,q⟩
 ·obtain⟨its,r',pl,hz⟩:=I.list hq
  have hlen:=r'.length
  refine call_tuple_list pl.isList (fun h' kp=>?_) (by simp only[List.size_toArray]<;>omega)
  have I1:Inv X pins σ H { s with heap:=h' }:=I.kept (t':=s.toks) kp
  have I2:Inv X pins σ (upd H h'.objs.size (.tup ys)) { s with heap:=h'.push { cls:=.type "tuple", data:=.seq its.toArray } } :=
   I1.laid (t':=s.toks) (fun b o e=>Heap.get?_push_of_some _ e) (Nat.le_refl _) (show M5 X.prog X.w _ _ _ (.tup ys) from⟨hz,its,r',ao8.new _ _⟩)
  exact⟨.ref h'.objs.size,_,I2,rfl,q _ (I1.hok.fresh (Nat.le_refl _))⟩
 ·obtain⟨its,r',pl,hz⟩:=I.tuple hq
  exact call_tuple_same pl ⟨.ref p,H,I,rfl,q⟩
noncomputable def tyV(K:PySem.W.Frag) (T:String) (x:V) (H:Hp):Prop:=match x with
 | .str _=>T = "str"
 | .int _=>T = "int"
 | .ref p=>(T = "list" /\ ∃xs,SqL K H p xs)\/(T = "tuple" /\ ∃o,K.lookup p=some o/\o.cls=.type "tuple" /\ o.dict=none) \/
   (T = "dict" /\ ((∃kvs,H p=some (.dK kvs))\/∃kvs,H p=some (.dT kvs)))\/(T = "set" /\ ∃S n,H p=some (.set S n))
 | _=>False
theorem bI5{pins:List (Addr×Obj)}{σ:St}{H:Hp}{s:Shared}{T:String}{x:V}{v:Value}(I:Inv X pins σ H s) (r:D3 x v) (ty:tyV X.K T x H) :
  s.TypeIs v T/\∀a,v=.ref a->∃ob,s.heap.get? a=some ob/\ob.dict=none:=by
 cases x with
 | str z =>
  obtain⟨t,rfl⟩:=r
  cases(show T = "str" from ty)
  exact⟨typeIs_str s z t,fun _ e=>nomatch e⟩
 | int i =>
  obtain⟨t,rfl⟩:=r
  cases(show T = "int" from ty)
  exact⟨typeIs_int s i t,fun _ e=>nomatch e⟩
 | ref p =>
  cases r
  rcases ty with⟨rfl,xs,hq⟩|⟨rfl,o,hk,hc,hd⟩|⟨rfl,hk⟩|⟨rfl,S,n,hk⟩
  ·obtain⟨its,_,pl,_⟩:=I.list hq
   refine⟨pl.isList.typeIs,fun a e=>?_⟩
   cases e
   obtain⟨o,n,e,c,hd,_⟩:=pl
   exact⟨o,e,hd⟩
  ·refine⟨⟨o,I.kIn p o hk,hc⟩,fun a e=>?_⟩
   cases e
   exact⟨o,I.kIn _ o hk,hd⟩
  ·have z:∃o,s.heap.get? p=some o/\o.ExactDict:=by
    rcases hk with⟨kvs,hk⟩|⟨kvs,hk⟩
    ·obtain⟨_,_,_,_,o,_,_,e,ex,_⟩:=I.hok p _ hk
     exact⟨o,e,ex⟩
    ·obtain⟨_,_,_,_,o,_,_,e,ex,_⟩:=I.hok p _ hk
     exact⟨o,e,ex⟩
   obtain⟨o,e,ex⟩:=z
   refine⟨⟨o,e,ex.1⟩,fun a e2=>?_⟩
   cases e2
   exact⟨o,e,ex.2.1⟩
  ·obtain⟨o,_,_,_,e,ex,_⟩:=I.hok p _ hk
   refine⟨⟨o,e,ex.1⟩,fun a e2=>?_⟩
   cases e2
   exact⟨o,e,ex.2.1⟩
 | _=>exact False.elim ty
noncomputable def tBM(K:PySem.W.Frag) (T:String) (r:V->List V->Hp->VK->Prop) (to:TE) (t:TA):TE:=fun σ H Q=>to σ H fun x H1=>tyV K T x H1/\t σ H1 fun xs H2=>r x xs H2 Q
variable {o e:Expr}{es:List Expr}{to:TE}{t:TA}{name:Str}{apos cpos:Pos}{T id:String}{r:V->List V->Hp->VK->Prop}
theorem aO6(pa:PlainAttrs T) (slot:Slot T name id) (hty:typeOf (.builtin id)=pure (.type "method_descriptor")) (hm:MtR X id r) (ho:PE X o to) (ha:PA X (e::es) t)
  (hbase:attributeBase o name X.env (eval o X.env)=eval o X.env:=by rfl)
  (hfew:((backTo cpos (starEach (e::es) X.env)).all (fun x=>!x.1)&&(backToKw cpos (keywordEach [] X.env)).all (fun x=>x.1.isSome)
   && decide ((e::es).length+([]:List Keyword).length+(if([]:List Keyword).isEmpty then 0 else 1) < 30))=true:=by rfl)
  (hline:(apos.endLine==cpos.line)=true:=by rfl) (hs:starEach (e::es) X.env=(false,eval e X.env)::starEach es X.env:=by rfl) (hplain:(backTo cpos (starEach es X.env)).any (·.1)=false:=by rfl) :
  PE X (.Call (.Attribute o name apos) (e::es) [] cpos) (tBM X.K T r to t):=by
 intro pins s σ H Q I h
 refine wpAny_Call_method_late hbase hfew hline rfl (thn (ho pins s σ H _ I h) fun v s1 ⟨x,H1,I1,r1,ty,q1⟩=>?_)
 obtain⟨h1,h2⟩:=bI5 I1 r1 ty
 refine⟨T,id,pa,slot,hty,h1,h2,?_⟩
 have hA:=ha cpos pins s1 σ H1 _ I1 q1
 rw[hs]at hA ⊢
 refine Calls.callWith_builtin (by show(false || (backTo cpos (starEach es X.env)).any (·.1))=false;rw[hplain]<;>rfl) (Calls.evalArgs_plain ?_)
 exact thn hA fun us s2 ⟨vs,H2,I2,r2,q2⟩=>hm pins s2 σ H2 x vs v us Q I2 r1 r2 q2
end
noncomputable def MtM(X:Cx) (id:String) (r:V->List V->Hp->VK->Prop):Prop :=
 ∀(pins:List (Addr×Obj)) (s:Shared) (σ:St) (H:Hp) (x:V) (xs:List V) (v:Value) (us:List Value) (Q:VK),Inv X pins σ H s->D3 x v->D5 xs us->r x xs H Q ->
  wpAny (model X.prog X.w) X.A (call (.builtin id) (v::us)) (EP X pins σ Q) X.xe s
theorem D5.one:∀{x:V}{us:List Value},D5 [x] us->∃u,us=[u]/\D3 x u
 | _,_,.cons r .nil=>⟨_,rfl,r⟩
theorem D5.rep{xs:List V}{us:List Value}(h:D5 xs us):∀k:Nat,D5 (List.replicate k xs).flatten (List.replicate k us).flatten
 | 0=>.nil
 | k+1=>by
  rw[List.replicate_succ,List.replicate_succ,List.flatten_cons,List.flatten_cons]
  exact D5.append h (D5.rep h k)
theorem at3(its:List Value):∀(k:Nat) (acc:List Value),
  List.foldl (fun x1 x2=>x1++x2) acc.toArray (List.replicate k its.toArray)=(acc++(List.replicate k its).flatten).toArray
 | 0,acc=>by simp
 | k+1,acc=>by
  have e:acc.toArray++its.toArray=(acc++its).toArray:=by simp
  have e2:(acc++its)++(List.replicate k its).flatten=acc++(List.replicate (k+1) its).flatten:=by rw[List.replicate_succ,List.flatten_cons,List.append_assoc]
  rw[← e2,← at3 its k (acc++its),← e,List.replicate_succ,List.foldl_cons]
section
variable {X:Cx}{pins:List (Addr×Obj)}{σ:St}{H:Hp}{s:Shared}{l b:Addr}{xs ys zs:List V}
theorem Inv.lset{its its':List Value}{n:Nat}{f:Array Value->Array Value}{t':Nat}(I:Inv X pins σ H s) (hH:H l=some (.lst xs))
  (e:s.heap.get? l=some { cls:=.type "list", data:=.seq its.toArray n }) (hf:f its.toArray=its'.toArray) (hv:D5 ys its') (hz:ys.length<=sizeLine) :
  Inv X pins σ (upd H l (.lst ys)) { s with heap:=s.heap.update l (Obj.mapSeq f),toks:=t' }:=by
 have q:=PySem.IsL.update e f
 rw[hf]at q
 refine I.write (x:=l) (e:=l) (by rw[hH];exact trivial) (.inl rfl) (fun b' u hb hu=>(Heap.get?_update_other s.heap (Obj.mapSeq f) (Ne.symm hb)).trans hu) ⟨_,q⟩ ?_
 exact⟨hz,its',_,hv,q⟩
theorem Inv.lnew{its:List Value}{t':Nat}(I:Inv X pins σ H s) (hv:D5 ys its) (hz:ys.length<=sizeLine) :
  Inv X pins σ (upd H s.heap.objs.size (.lst ys)) { s with heap:=s.heap.push { cls:=.type "list", data:=.seq its.toArray },toks:=t' } :=
 I.laid (fun _ _ q=>Heap.get?_push_of_some _ q) (Nat.le_refl _) ⟨hz,its,0,hv,Heap.get?_push_size _ rfl⟩
theorem Inv.fresh(I:Inv X pins σ H s):H s.heap.objs.size=none:=I.hok.fresh (Nat.le_refl _)
theorem Inv.lstM(I:Inv X pins σ H s) (hH:H l=some (.lst xs)):xs.length<=sizeLine/\∃(its:List Value) (n:Nat),D5 xs its/\xs.length=its.length/\s.heap.get? l=some { cls:=.type "list", data:=.seq its.toArray n }:=by
 obtain⟨z,its,n,r,e⟩:=I.hok l _ hH
 exact⟨z,its,n,r,r.length,e⟩
theorem k8{n:Nat}(h:n<=sizeLine):Builtin.List.listTooLong n=false:=by
 unfold Builtin.List.listTooLong
 exact decide_eq_false (by omega)
end
section
variable {X:Cx}
noncomputable def bs7:V->List V->Hp->VK->Prop:=fun x vs H Q=>∃l xs y,x=.ref l/\vs=[y]/\H l=some (.lst xs)/\xs.length < sizeLine/\Q .non (upd H l (.lst (xs++[y])))
theorem as1:MtM X "list.append" bs7:=by
 intro pins s σ H x vs v us Q I rx rv h
 obtain⟨l,xs,y,rfl,rfl,hH,hz,q⟩:=h
 cases rx
 obtain⟨u,rfl,ru⟩:=rv.one
 obtain⟨z,its,n,r,hl,e⟩:=I.lstM hH
 refine call_meets F.slot_list_append ⟨_,e,rfl⟩ F.entry_list_append (F.args_list_append_2 _ _) (PySem.list_append l its.toArray n u (by rw[List.size_toArray];omega)) ⟨e,?_⟩
 refine⟨.non,_,I.lset (its':=its++[u]) hH e (by simp) (r.append (.cons ru .nil)) ?_,rfl,q⟩
 rw[List.length_append,List.length_singleton]
 omega
theorem ay0{α:Type}(xs:List α) (k:Nat):(List.replicate k xs).flatten.length=k*xs.length:=by
 induction k with
 | zero=>simp
 | succ k ih=>rw[List.replicate_succ,List.flatten_cons,List.length_append,ih,Nat.succ_mul,Nat.add_comm]
end
section
variable {prog:Program}{w:World}{A:Around}{E:Value->Shared->Prop}{s:Shared}
theorem aU3(its its2:List Value) (a c:Nat):its.toArray.extract 0 a++its2.toArray++its.toArray.extract c its.toArray.size=(its.take a++its2++its.drop c).toArray:=by
  apply Array.toList_inj.mp
  first
    | (simp
       exact List.take_of_length_le (by simp))
    | simp[List.take_of_length_le]
    | simp
set_option maxRecDepth 100000 in
end
section
variable {X:Cx}
end
end L2
namespace Att
open PySem PySem.W PySem.Calls PyProof.Rows
theorem ai6{P:Params}{h:Heap}:∀(ns:List Int) (vs:List Value),WellAll P h vs (ns.map WData.int)->IntsAre vs ns:=by
 intro ns
 induction ns with
 | nil =>
  intro vs w
  rw[List.map_nil]at w
  cases w
  exact .nil
 | cons n ns ih =>
  intro vs w
  rw[List.map_cons]at w
  cases w with
  | cons a b =>
   cases a
   exact .cons _ _ (ih _ b)
theorem aU4{l:OpenLaw}{n:Nat}(hn:l.most=some n) {P:Params}{h:Heap}{args:List WData}{vals:List Value}
  (hpre:l.row.toRowW.claim.pre args=true) (hwl:WellAll P h vals args) :
  ∃a vs ns,vals=[Value.ref a]/\args=[WData.list (ns.map WData.int)]/\h.get? a=some { cls:=.type "list", data:=.seq vs.toArray }/\IntsAre vs ns/\ns.length<=n:=by
 have hsh:WShape.hasAll [] args [.list .int]=true:=(pre_splitW hpre).1
 have hc:l.pre.holds [] { args:=args }=true:=(pre_splitW hpre).2
 obtain⟨d,r,rfl,h1,h2⟩:=hasAllW_cons hsh
 obtain rfl:=hasAllW_nil h2
 obtain⟨xs,rfl,h3⟩:=hasW_list h1
 obtain⟨ns,rfl⟩:=items_int h3
 have hlen:ns.length<=n:=by
  unfold OpenLaw.pre at hc
  have h4:(WTm.not (.lt (.lit (.int (n:Int))) (.len (.arg 0)))).holds [] { args:=[.list (ns.map .int)] }=true:=by
   have h4:=(holds_andW hc).1
   rw[hn]at h4
   exact h4
  have h5:=condW_of h4 (w_not (w_lt w_lit (w_len_list (w_arg rfl))))
  rw[List.length_map]at h5
  refine Nat.le_of_not_lt fun q=>?_
  have q':(n:Int) < ((ns.length:Nat):Int):=by omega
  first
   | (rw[decide_eq_true q']at h5;exact absurd h5 (by decide))
   | (simp at h5;omega)
 cases hwl with
 | cons w1 w2 =>
  cases w2
  cases w1 with
  | list ho hall=>exact⟨_,_,ns,rfl,rfl,ho,ai6 ns _ hall,hlen⟩
theorem aU7(l:OpenLaw) (args:List WData):l.row.toRowW.claim.post args (.bool true) args=true :=
 postW_of (r:=l.row.toRowW) (X:=(true==true))
  (show WShape.has [] (.bool true) .bool=true by first|rfl|decide|simp[WShape.has,WShape.arms,WShape.armsAll])
  (show(WTm.eq .res (.lit (.bool true))).value [] { args:=args,res:=some (.bool true),after:=args }=some (.bool (true==true)) from w_eq_bool (w_res rfl) w_lit) rfl
theorem attach_call{l:OpenLaw}{n:Nat}{q:Program}{loose:List Str}{XP:(Str->Option Value)->Heap->Prop}{YP:World->Heap->Prop}{d:DefRec}
  (hn:l.most=some n) (hdf:d.params.defaults=[])
  (call:∀(w:World) (s₀ s₁:Shared) (mg mb:Str->Option Value) (fa:Addr) (o:Obj) (pm cd doc:Value) (a:Addr) (vs:List Value) (ns:List Int),
   Ground q loose [] XP w s₀ mg mb s₁.heap->YP w s₁.heap ->
   s₁.heap.get? fa=some o->o.data=.func (docDef d.name d.params d.body d.scope pm cd doc)->s₁.heap.CodeRec cd d.name->mg d.name=some (.ref fa) ->
   s₁.heap.get? a=some { cls:=.type "list", data:=.seq vs.toArray }->IntsAre vs ns->ns.length<=n->s₁.gens = #[] ->
   codeAny (model l.prog w) callerA (.call (.ref fa) ⟨[.ref a],[]⟩) (fun r s'=>r=.ok (.ret (.bool true))/\OldK s₁.heap s'.heap/\s'.os=s₁.os/\AllBare s'.gens) s₁) :
  WalkO q loose XP YP l.row.toRowW d [] (fun f vs=>PySem.call f vs):=by
 intro w s₀ s₁ mg mb G Y fa o pm cd doc dV kV ho hd hcd hD hmg hg args vals as hpre hlay hrd hwl hlo
 obtain rfl:dV=.none:=Dflts.none hD hdf
 obtain rfl:kV=.none:=Dflts.noKw hD
 obtain⟨a,vs,ns,rfl,rfl,hobj,hints,hlen⟩:=aU4 hn hpre hwl
 refine enter_call (codeAny_mono (call w s₀ s₁ mg mb fa o pm cd doc a vs ns G Y ho (fd_plain hd) hcd hmg hobj hints hlen hg) fun r s' hq=>?_)
 obtain⟨rfl,h2,h3,h4⟩:=hq
 exact⟨.inl ⟨.bool true,.bool true,[],rfl,fun _=>rfl,.bool true,aU7 l _,fun _=>⟨List.Pairwise.nil,fun _ hm=>(nomatch hm)⟩⟩,h2,h3,h4⟩
section
variable {prog:Program}{w:World}{A:Around}{E:Value->Shared->Prop}{s:Shared}{K:Frag}
end
end Att
namespace L2
open PySem PySem.Spec PyProof.Rows
theorem P6:∀{vs:List Value}{ns:List Int},IntsAre vs ns->D5 (ns.map V.int) vs
 | _,_,.nil=>.nil
 | _,_,.cons n t h=>.cons ⟨t,rfl⟩ (P6 h)
noncomputable def bW8(H:Hp):Prop:=∀b,H b=none\/∃o xs,H b=some (.frz o (.lst xs))
theorem bi6{P:Program}{w:World}{K:PySem.W.Frag}{mg mb:Str->Option Value}{CX:CXT}{k:Nat}{fa a:Addr}{fd:FuncData}{x:Str}{sp:Sp}{s₁:Shared}{vs:List Value}{ns:List Int}
  (KX:K.In s₁.heap) (hns:s₁.heap.Ns mainGlobals mg) (hb:s₁.heap.Ns builtinsNs mb) (hbb:∀x:Str,x ≠ "__name__" -> mb x=bootBuiltins x) (hlim:s₁.heap.NoLimit) (hg:s₁.gens = #[])
  (ha:s₁.heap.get? a=some { cls:=.type "list", data:=.seq vs.toArray }) (hi:IntsAre vs ns) (hl:ns.length<=sizeLine) (hr:Room k callerA)
  (F:∀base:Heap,K.In base->base.Ns mainGlobals mg->FnOk P w K mg base CX k fa fd [x] sp) (hbind:∀(s:Shared) (u:Value),BindsTo s fd ⟨[u],[]⟩ [(x,u)])
  (hsp:∀H:Hp,bW8 H->SqL K H a (ns.map V.int)->sp [.ref a] H (fun v _=>v=.bl true) fun _ _ _=>False)
  (hCX:∀H e s',CX [] H s₁ (fun _ _ _=>False) e s'->False) :
  codeAny (model P w) callerA (.call (.ref fa) ⟨[.ref a],[]⟩) (fun r s'=>r=.ok (.ret (.bool true))/\OldK s₁.heap s'.heap/\s'.os=s₁.os/\AllBare s'.gens) s₁:=by
 have rv:=P6 hi
 have lenV:=hi.length
 have core:∀H:Hp,bW8 H->SqL K H a (ns.map V.int)->HOk P w H s₁.heap->(∀b,H b≠none->b=a)->(H a≠none->K.lookup a=none) ->
   codeAny (model P w) callerA (.call (.ref fa) ⟨[.ref a],[]⟩) (fun r s'=>r=.ok (.ret (.bool true))/\OldK s₁.heap s'.heap/\s'.os=s₁.os/\AllBare s'.gens) s₁:=by
  intro H hO hS hok hA hK
  have base_of:∀{b:Addr}{o:Obj},s₁.heap.get? b=some o->H b=none->(ay9 s₁.heap H).get? b=some o:=fun e n=>bl7 e n
  have noA:∀{b:Addr}{o:Obj}{es:Array DictEntry}{ep:Nat},s₁.heap.get? b=some o->o.data=.dict es ep->H b=none:=fun{b o es ep} e d=>by
   cases q:H b with
   | none=>rfl
   | some u =>
    have e':b=a:=hA b (by rw[q];simp)
    subst e'
    rw[ha]at e;cases e
    have d':Data.seq vs.toArray _=Data.dict es ep:=d
    cases d'
  have nsK:∀{b:Addr}{m:Str->Option Value},s₁.heap.Ns b m->(ay9 s₁.heap H).Ns b m:=fun{b m} ⟨o,es,ep,e,d,r⟩=>⟨o,es,ep,base_of e (noA e d),d,r⟩
  have hKb:K.In (ay9 s₁.heap H):=fun b o e=>base_of (KX b o e) (by
   cases q:H b with
   | none=>rfl
   | some u =>
    have e':b=a:=hA b (by rw[q];simp)
    subst e'
    rw[hK (by rw[q];simp)]at e;cases e)
  have hM:Mod K mg (ay9 s₁.heap H):=⟨hKb,nsK hns,⟨mb,nsK hb,hbb⟩,let⟨mc,h1,h2⟩:=hlim;⟨mc,nsK h1,h2⟩⟩
  have e0:Env0 P w K mg (ay9 s₁.heap H) callerA [] s₁ H:=⟨rfl,hM,fun b o e=>bv4 e,Nat.le_of_eq (aW9 _ _),trivial,fun b hb=>absurd (show b∈([]:List Addr) from hb) (by simp),hok,.of_eq hg⟩
  refine codeAny_mono ((F _ hKb (nsK hns)).run callerA [] s₁ H ⟨[.ref a],[]⟩ [.ref a] [.ref a] _ _ hr e0 (hbind s₁ (.ref a)) (.cons rfl .nil) (hsp H hO hS)) fun r s' h=>?_
  cases r with
  | error e=>exact(hCX H e s' h).elim
  | ok fl =>
   cases fl with
   | next=>exact False.elim h
   | brk=>exact False.elim h
   | cont=>exact False.elim h
   | ret u =>
    obtain⟨v,H',os,bare,un,hok',r',q⟩:=h
    have q':v=.bl true:=q
    subst q'
    obtain rfl:u=Value.bool true:=r'
    refine⟨rfl,OldK.of_keep fun b o e=>?_,os,bare⟩
    cases q:H b with
    | none=>exact un.keep b o e q (by intro z;exact absurd (show b∈([]:List Addr) from z) (by simp)) (by simp)
    | some u =>
     rcases hO b with z|⟨ob,xs,z⟩
     ·rw[q]at z;cases z
     ·have z2:=un.frzs b ob _ z
      obtain⟨e1,_⟩:=hok b _ z
      obtain⟨e2,_⟩:=hok' b _ z2
      rw[e]at e1;cases e1
      exact e2
 cases hk:K.lookup a with
 | some o =>
  have e:=KX a o hk
  rw[ha]at e
  cases e
  refine core (fun _=>none) (fun _=>.inl rfl) (.inr ⟨_,vs.toArray,_,hk,rfl,rfl,rfl,by rw[List.size_toArray,lenV];exact hl,by simpa using rv⟩) (fun b u z=>by have z':(none:Option HO)=some u:=z;cases z') (fun b z=>absurd rfl z) fun z=>absurd rfl z
 | none =>
  refine core (fun b=>if b=a then some (.frz { cls:=.type "list", data:=.seq vs.toArray } (.lst (ns.map V.int))) else none) (fun b=>?_) (.inl (.inr ⟨{ cls:=.type "list", data:=.seq vs.toArray },if_pos rfl⟩)) (fun b u z=>?_) (fun b z=>?_) fun _=>hk
  ·by_cases hb:b=a
   ·exact .inr ⟨_,_,if_pos hb⟩
   ·exact .inl (if_neg hb)
  ·by_cases hb:b=a
   ·have z':=(if_pos hb).symm.trans z
    cases z'
    subst hb
    exact⟨ha,by rw[List.length_map];exact hl,vs,_,rv,ha⟩
   ·have z':=(if_neg hb).symm.trans z
    cases z'
  ·by_cases hb:b=a
   ·exact hb
   ·exact absurd (if_neg hb) z
theorem br4{l:PySem.W.OpenLaw}{n k:Nat}{q:Program}{loose:List Str}{XP:(Str->Option Value)->Heap->Prop}{YP:World->Heap->Prop}{d:DefRec}{K:Params->PySem.W.Frag}{CX:World->CXT}{sp:World->Sp}{x:Str}
  (hn:l.most=some n) (hn2:n<=sizeLine) (hdf:d.params.defaults=[]) (hr:Room k callerA)
  (hY:∀(w:World) (h:Heap),YP w h->(K w.params).In h)
  (F:∀(w:World) (mg:Str->Option Value) (fa:Addr) (h:Heap),(K w.params).In h->h.Ns mainGlobals mg->mg d.name=some (.ref fa) ->
   ∃fd:FuncData,(∀(s:Shared) (u:Value),BindsTo s fd ⟨[u],[]⟩ [(x,u)]) /\
    ∀base:Heap,(K w.params).In base->base.Ns mainGlobals mg->FnOk l.prog w (K w.params) mg base (CX w) k fa fd [x] (sp w))
  (hsp:∀(w:World) (H:Hp) (a:Addr) (ns:List Int),ns.length<=n->bW8 H->SqL (K w.params) H a (ns.map V.int)->sp w [.ref a] H (fun v _=>v=.bl true) fun _ _ _=>False)
  (hCX:∀(w:World) (H:Hp) (s:Shared) (e:Value) (s':Shared),CX w [] H s (fun _ _ _=>False) e s'->False) :
  PySem.W.WalkO q loose XP YP l.row.toRowW d [] (fun f vs=>PySem.call f vs):=by
 refine Att.attach_call hn hdf fun w s₀ s₁ mg mb fa o pm cd doc a vs ns G Y ho hd hcd hmg hobj hints hlen hg=>?_
 have KX:=hY w _ Y
 obtain⟨fd,hb,hF⟩:=F w mg fa _ KX G.T.g hmg
 exact bi6 KX G.T.g G.T.b G.T.builtins G.T.nolimit hg hobj hints (Nat.le_trans hlen hn2) hr hF hb (fun H hO hS=>hsp w H a ns hlen hO hS) fun H e s'=>hCX w H s₁ e s'
noncomputable def S4(s:Stmt):Arguments:=match s with
 | .FunctionDef _ a _ _ _ _ _ _ _ _=>a
 | _=>{ posonlyargs:=[],args:=[],vararg:=none,kwonlyargs:=[],kw_defaults:=[],kwarg:=none,defaults:=[] }
noncomputable def N8(s:Stmt):List Stmt:=match s with
 | .FunctionDef _ _ b _ _ _ _ _ _ _=>b
 | _=>[]
noncomputable def F3(s:Stmt):Scope:=match s with
 | .FunctionDef _ _ _ _ _ _ sc _ _ _=>sc
 | _=>{ kind:=.function,names:=[],isGenerator:=false,isCoroutine:=false }
noncomputable abbrev CX0:CXT:=fun _ _ _ _ _ _=>False
noncomputable abbrev E0:XK:=fun _ _ _=>False
theorem bE5{X:Cx}:aA1 CX0 X E0:=fun _ _ _ _ _ _ _ h=>h.elim
structure Fun (K:PySem.W.Frag) (x qual:Str) (st:Stmt) (f:Addr) (fd:FuncData):Prop where
 ex:∃(oc:Value) (od:Option Addr) (kV doc pm:Value) (an:Option Addr) (cdv ct:Value) (osl:Array (Option Value)),
  fd=PySem.W.fnOf x qual (S4 st) (N8 st) (F3 st) .none kV doc pm an cdv ct/\K.lookup f=some ⟨oc,od,.func fd,osl⟩/\PySem.W.codeIn K cdv qual=true
 kp:PySem.W.keepIn K (.ref f)=true
section
variable {P:Program}{w:World}{K:PySem.W.Frag}{mg:Str->Option Value}{base:Heap}
theorem Fun.ok{x qual:Str}{st:Stmt}{f:Addr}{fd:FuncData}{N ps:List Str}{k:Nat}{sp:Sp}(F:Fun K x qual st f fd) (S:FnScope N ps (F3 st)) (len:∀vs H Q E,sp vs H Q E->vs.length=ps.length)
  (hbody:∀(cdv:Value) (A:Around) (outer:List Env) (s:Shared) (H:Hp) (vs:List V) (Q:VK) (E:XK),Room k (A.deeper (envOfC qual (F3 st) s.heap.objs.size f cdv))->sp vs H Q E ->
   ∃t,PSs (aK5 CX0 P w K mg base N qual (F3 st) f cdv A outer s H E).nox (N8 st) t/\t { nx:=fun _ H'=>Q .non H',rt:=Q } (V3 N vs) H):FnOk P w K mg base CX0 (k+1) f fd ps sp:=by
 obtain⟨oc,od,kV,doc,pm,an,cdv,ct,osl,rfl,lk,hcd⟩:=F.ex
 refine aD6 lk hcd S len fun A outer s H vs Q E hr hsp=>?_
 obtain⟨t,h,q⟩:=hbody cdv A outer s H vs Q E hr hsp
 exact⟨t,h.nox,q⟩
theorem bU4{x qual:Str}{st:Stmt}{f:Addr}{oc:Value}{od an:Option Addr}{osl:Array (Option Value)}{kV doc pm cdv ct:Value}(l:K.lookup f=some ⟨oc,od,.func (PySem.W.fnOf x qual (S4 st) (N8 st) (F3 st) .none kV doc pm an cdv ct),osl⟩)
  (c:PySem.W.codeIn K cdv qual=true) (k:PySem.W.keepIn K (.ref f)=true):Fun K x qual st f (PySem.W.fnOf x qual (S4 st) (N8 st) (F3 st) .none kV doc pm an cdv ct):=⟨⟨oc,od,kV,doc,pm,an,cdv,ct,osl,rfl,l,c⟩,k⟩
end
theorem ar4{n:Nat}(h:n<=1000):n < sizeLine:=Nat.lt_of_le_of_lt h (by decide)
section
variable {X:Cx}
theorem pv(i:Nat) {x:Str}{pos:Pos}(hN:X.N[i]? = some x:=by rfl) (hv:Vis X.env.scope x:=by first|exact Or.inl rfl|exact Or.inr (Or.inl rfl)|exact Or.inr (Or.inr rfl)) (hd:(x==("__debug__" : Str))=false:=by decide)
  (hcd:(x==("__classdict__" : Str))=false:=by decide):PE X (.Name x pos) (bY9 i):=z9 hN hv hd hcd
end
theorem am9{A B:Prop}(h:B):if false=true then A else B:=by
 rw[if_neg Bool.false_ne_true]
 exact h
theorem am8{A B:Prop}(h:A):if true=true then A else B:=by
 rw[if_pos rfl]
 exact h
noncomputable def E2(H H':Hp):Prop:=∀b o,H b=some o->H' b=some o
theorem E2.refl(H:Hp):E2 H H:=fun _ _ h=>h
theorem E2.trans{H H1 H2:Hp}(a:E2 H H1) (b:E2 H1 H2):E2 H H2:=fun c o h=>b c o (a c o h)
theorem E2.free{H H':Hp}(e:E2 H H') {l:Addr}(h:H' l=Option.none):H l=Option.none:=by
 cases q:H l with
 | none=>rfl
 | some o =>
  rw[e l o q]at h
  cases h
end L2
set_option maxHeartbeats 4000000
namespace G
theorem xbm{α β:Type}{o:Option α}{f:α->Option β}{b:β}(h:o.bind f=some b):∃a,o=some a/\f a=some b:=xbo h
open PySem PySem.Spec PyProof.Rows L2
noncomputable abbrev D:=PyData
mutual
noncomputable def Rep(K:PySem.W.Frag) (H:Hp):D->V->Prop
 | .none,v=>v=.non
 | .bool b,v=>v=.bl b
 | .int i,v=>v=.int i
 | .str x,v=>v=.str x
 | .tuple ds,v=>∃a vs,v=.ref a/\SqT K H a vs/\Reps K H ds vs
 | .list ds,v=>∃a vs,v=.ref a/\SqL K H a vs/\Reps K H ds vs
 | .dict kvs,v=>∃a m,v=.ref a/\H a=some (.dK m)/\RepKs K H kvs m
noncomputable def Reps(K:PySem.W.Frag) (H:Hp):List D->List V->Prop
 | [],vs=>vs=[]
 | d::ds,vs=>∃v r,vs=v::r/\Rep K H d v/\Reps K H ds r
/-- a dict by texts -/
noncomputable def RepKs(K:PySem.W.Frag) (H:Hp):List (D×D)->List (Key×V)->Prop
 | [],m=>m=[]
 | (k,d)::r,m=>∃x v t,k=.str x/\m=(.inr x,v)::t/\Rep K H d v/\RepKs K H r t
end
section
variable {K:PySem.W.Frag}{H H' H0 H1 H2 Hf Hf' Hf1 Hf2:Hp}
theorem aN8{a:Addr}{u:HO}(e:E2 H H') (h:Rd H a u):Rd H' a u:=by
 rcases h with h|⟨o,h⟩
 ·exact .inl (e _ _ h)
 ·exact .inr ⟨o,e _ _ h⟩
theorem C8{a:Addr}{xs:List V}(e:E2 H H') (h:SqT K H a xs):SqT K H' a xs:=h.imp (aN8 e) id
theorem F2{a:Addr}{xs:List V}(e:E2 H H') (h:SqL K H a xs):SqL K H' a xs:=h.imp (aN8 e) id
mutual
theorem Rep.mono(e:E2 H H'):∀{d:D}{v:V},Rep K H d v->Rep K H' d v
 | .none,_,h=>h
 | .bool _,_,h=>h
 | .int _,_,h=>h
 | .str _,_,h=>h
 | .tuple _,_,⟨a,vs,h1,h2,h3⟩=>⟨a,vs,h1,C8 e h2,Reps.mono e h3⟩
 | .list _,_,⟨a,vs,h1,h2,h3⟩=>⟨a,vs,h1,F2 e h2,Reps.mono e h3⟩
 | .dict _,_,⟨a,m,h1,h2,h3⟩=>⟨a,m,h1,e _ _ h2,RepKs.mono e h3⟩
theorem Reps.mono(e:E2 H H'):∀{ds:List D}{vs:List V},Reps K H ds vs->Reps K H' ds vs
 | [],_,h=>h
 | _::_,_,⟨v,r,h1,h2,h3⟩=>⟨v,r,h1,Rep.mono e h2,Reps.mono e h3⟩
theorem RepKs.mono(e:E2 H H'):∀{ds:List (D×D)}{vs:List (Key×V)},RepKs K H ds vs->RepKs K H' ds vs
 | [],_,h=>h
 | (_,_)::_,_,⟨x,v,t,h1,h2,h3,h4⟩=>⟨x,v,t,h1,h2,Rep.mono e h3,RepKs.mono e h4⟩
end
theorem Reps.length:∀{ds:List D}{vs:List V},Reps K H ds vs->vs.length=ds.length
 | [],_,h=>by cases h;rfl
 | _::_,_,⟨v,r,h1,h2,h3⟩=>by subst h1;simp[Reps.length h3]
theorem Reps.get:∀{ds:List D}{vs:List V}{i:Nat}{d:D},Reps K H ds vs->ds[i]? = some d->∃v,vs[i]? = some v/\Rep K H d v
 | [],_,_,_,_,e=>by simp at e
 | x::_,_,0,_,⟨v,r,h1,h2,h3⟩,e=>by subst h1;simp at e;subst e;exact⟨v,rfl,h2⟩
 | x::_,_,i+1,_,⟨v,r,h1,h2,h3⟩,e=>by
  subst h1
  obtain⟨u,q1,q2⟩:=Reps.get (i:=i) h3 (by simpa using e)
  exact⟨u,by simpa using q1,q2⟩
theorem Reps.append:∀{ds es:List D}{vs us:List V},Reps K H ds vs->Reps K H es us->Reps K H (ds++es) (vs++us)
 | [],_,_,_,h,q=>by cases h;exact q
 | _::_,_,_,_,⟨v,r,h1,h2,h3⟩,q=>by subst h1;exact⟨v,r++_,rfl,h2,Reps.append h3 q⟩
theorem Reps.take:∀{ds:List D}{vs:List V}(n:Nat),Reps K H ds vs->Reps K H (ds.take n) (vs.take n)
 | [],_,n,h=>by cases h;simp[Reps]
 | _::_,_,0,h=>by simp[Reps]
 | _::_,_,n+1,⟨v,r,h1,h2,h3⟩=>by subst h1;exact⟨v,r.take n,rfl,h2,Reps.take n h3⟩
theorem Reps.drop:∀{ds:List D}{vs:List V}(n:Nat),Reps K H ds vs->Reps K H (ds.drop n) (vs.drop n)
 | [],_,n,h=>by cases h;simp[Reps]
 | _::_,_,0,h=>h
 | _::_,_,n+1,⟨v,r,h1,h2,h3⟩=>by subst h1;exact Reps.drop n h3
theorem Reps.ints:∀(ns:List Int),Reps K H (ns.map PyData.int) (ns.map V.int)
 | []=>rfl
 | n::r=>⟨.int n,r.map V.int,rfl,rfl,Reps.ints r⟩
theorem Reps.flatten{ds:List D}{vs:List V}(h:Reps K H ds vs):∀k:Nat,Reps K H (List.replicate k ds).flatten (List.replicate k vs).flatten
 | 0=>rfl
 | k+1=>by simp only[List.replicate_succ,List.flatten_cons];exact h.append (Reps.flatten h k)
structure Grow (H Hf H' Hf':Hp):Prop where
 big:E2 H H'
 sub:E2 Hf' H'
 ext:E2 Hf Hf'
 new:∀b,Hf' b≠none->Hf b≠none\/H b=none
theorem Grow.refl(h:E2 Hf H):Grow H Hf H Hf:=⟨E2.refl _,h,E2.refl _,fun _ h=>.inl h⟩
theorem Grow.trans(a:Grow H Hf H1 Hf1) (b:Grow H1 Hf1 H2 Hf2):Grow H Hf H2 Hf2 :=
 ⟨a.big.trans b.big,b.sub,a.ext.trans b.ext,fun x h=>(b.new x h).elim (a.new x) fun z=>.inr (a.big.free z)⟩
theorem D7{p:Addr}{o:HO}(h:H p=none):E2 H (upd H p o):=fun b u e=>by rw[D4 (D8 e h)];exact e
theorem Grow.laid{p:Addr}{o:HO}(s:E2 Hf H) (h:H p=none):Grow H Hf (upd H p o) (upd Hf p o):=by
 refine⟨D7 h,fun b u e=>?_,D7 (s.free h),fun b e=>?_⟩
 ·by_cases q:b=p
  ·subst q;rw[C1]at e;rw[C1];exact e
  ·rw[D4 q]at e;rw[D4 q];exact s b u e
 ·by_cases q:b=p
  ·subst q;exact .inr h
  ·rw[D4 q]at e;exact .inl e
theorem Grow.made{p:Addr}{o:HO}(s:E2 Hf H) (h:H p=none):Grow H Hf (upd H p o) Hf :=
 ⟨D7 h,s.trans (D7 h),E2.refl _,fun _ e=>.inl e⟩
theorem Grow.freeze{p:Addr}{o:HO}(g:Grow H Hf H1 Hf1) (h:H1 p=some o) (n:Hf1 p=none) (f:H p=none):Grow H Hf H1 (upd Hf1 p o):=by
 refine⟨g.big,fun b u e=>?_,g.ext.trans (D7 n),fun b e=>?_⟩
 ·by_cases q:b=p
  ·subst q;rw[C1]at e;rw[h];exact e
  ·rw[D4 q]at e;exact g.sub b u e
 ·by_cases q:b=p
  ·subst q;exact .inr f
  ·rw[D4 q]at e;exact g.new b e
end
inductive B where
 | val (d:D)
 | own (ds:List D)
 | exc (x:Str)
noncomputable abbrev Rho:=List (Option B)
noncomputable def clA(K:PySem.W.Frag) (x:Str):Option Addr:=match PySem.W.nsIn K mainGlobals x with
 | some (some (.ref C))=>some C
 | _=>none
noncomputable def SB(K:PySem.W.Frag) (H0 H Hf:Hp):B->V->Prop
 | .val d,v=>Rep K Hf d v
 | .own ds,v=>∃a vs,v=.ref a/\H a=some (.lst vs)/\Hf a=none/\H0 a=none/\Reps K Hf ds vs
 | .exc x,v=>∃a o C,v=.ref a/\Hf a=some (.frz o (.own a))/\clA K x=some C/\o.cls=.ref C
structure Slots (K:PySem.W.Frag) (H0:Hp) (ρ:Rho) (σ:L2.St) (H Hf:Hp):Prop where
 len:ρ.length=σ.length
 is:∀(i:Nat) (b:B),ρ[i]? = some (some b)->∃v,σ[i]? = some (some v)/\SB K H0 H Hf b v
 apart:∀(i j:Nat) (ds es:List D) (a:Addr),ρ[i]? = some (some (.own ds))->ρ[j]? = some (some (.own es))->σ[i]? = some (some (V.ref a))->σ[j]? = some (some (V.ref a))->i=j
section
variable {K:PySem.W.Frag}{H H' H0 H1 H2 Hf Hf' Hf1 Hf2:Hp}{ρ:Rho}{σ:L2.St}
theorem SB.grow{b:B}{v:V}(h:SB K H0 H Hf b v) (g:Grow H Hf H' Hf'):SB K H0 H' Hf' b v:=by
 cases b with
 | val d=>exact Rep.mono g.ext h
 | exc C =>
  obtain⟨a,o,C,e,h1,h2⟩:=h
  exact⟨a,o,C,e,g.ext _ _ h1,h2⟩
 | own ds =>
  obtain⟨a,vs,e,h1,h2,h3,h4⟩:=h
  refine⟨a,vs,e,g.big _ _ h1,?_,h3,h4.mono g.ext⟩
  cases q:Hf' a with
  | none=>rfl
  | some u =>
   rcases g.new a (by rw[q];simp) with z|z
   ·exact absurd h2 z
   ·rw[h1]at z;cases z
theorem Slots.grow(s:Slots K H0 ρ σ H Hf) (g:Grow H Hf H' Hf'):Slots K H0 ρ σ H' Hf' :=
 ⟨s.len,fun i b e=>let⟨v,h1,h2⟩:=s.is i b e;⟨v,h1,h2.grow g⟩,s.apart⟩
end
noncomputable abbrev DE:=Rho->Option D
noncomputable def tJ(K:PySem.W.Frag) (ρ:Rho) (R:Hp->V->Hp->Hp->Prop):TE:=fun σ H Q=>∃H0 Hf,E2 Hf H/\Slots K H0 ρ σ H Hf/\∀v H' Hf',Grow H Hf H' Hf'->R H v H' Hf'->Q v H'
noncomputable def JE(X:Cx) (e:Expr) (f:DE):Prop:=∀ρ d,f ρ=some d->PE X e (tJ X.K ρ fun _ v _ Hf=>Rep X.K Hf d v)
noncomputable def Sq(K:PySem.W.Frag):Bool->Hp->Addr->List V->Prop
 | true=>SqT K
 | false=>SqL K
noncomputable def RQ(K:PySem.W.Frag) (t:Bool) (ds:List D) (v:V) (H Hf:Hp):Prop:=∃a vs,v=.ref a/\Sq K t H a vs/\Reps K Hf ds vs
noncomputable def JQ(X:Cx) (e:Expr) (f:Rho->Option (Bool×List D)):Prop:=∀ρ t ds,f ρ=some (t,ds)->PE X e (tJ X.K ρ fun _ v H Hf=>RQ X.K t ds v H Hf)
noncomputable def JN(X:Cx) (e:Expr) (f:Rho->Option (List D)):Prop:=∀ρ ds,f ρ=some ds->PE X e (tJ X.K ρ fun H v H' Hf'=>∃a vs,v=.ref a/\H a=none/\H' a=some (.lst vs)/\Hf' a=none/\Reps X.K Hf' ds vs)
noncomputable def tJA(K:PySem.W.Frag) (ρ:Rho) (ds:List D):TA:=fun σ H Q=>∃H0 Hf,E2 Hf H/\Slots K H0 ρ σ H Hf/\∀vs H' Hf',Grow H Hf H' Hf'->Reps K Hf' ds vs->Q vs H'
structure JA (X:Cx) (es:List Expr) (f:Rho->Option (List D)):Prop where
 len:∀ρ ds,f ρ=some ds->ds.length=es.length
 run:∀ρ ds,f ρ=some ds->PA X es (tJA X.K ρ ds)
noncomputable def JT(X:Cx) (e:Expr) (f:Rho->Option Bool):Prop:=∀ρ c,f ρ=some c->PT X e (fun σ H Q=>∃H0 Hf,E2 Hf H/\Slots X.K H0 ρ σ H Hf/\∀H' Hf',Grow H Hf H' Hf'->Q c H')
noncomputable def JW(X:Cx) (e:Expr) (f:Rho->Option Bool):Prop:=∀ρ c,f ρ=some c->PW X e (fun σ H Q=>∃H0 Hf,E2 Hf H/\Slots X.K H0 ρ σ H Hf/\∀H' Hf',Grow H Hf H' Hf'->Q c H')
section
variable {X:Cx}
theorem B4{e:Expr}{t t':TE}(h:PE X e t) (i:∀σ H Q,t' σ H Q->t σ H Q):PE X e t':=fun pins s σ H Q I q=>h pins s σ H Q I (i σ H Q q)
theorem aw6{e:Expr}{t t':TT}(h:PT X e t) (i:∀σ H Q,t' σ H Q->t σ H Q):PT X e t':=fun pins s σ H Q I q=>h pins s σ H Q I (i σ H Q q)
noncomputable def dC(d:D):DE:=fun _=>some d
noncomputable def A1(i:Nat):DE:=fun ρ=>match ρ[i]? with
 | some (some (.val d))=>some d
 | _=>none
noncomputable def A7(i:Nat):Rho->Option (Bool×List D):=fun ρ=>match ρ[i]? with
 | some (some (.own ds))=>some (false,ds)
 | some (some (.val (.list ds)))=>some (false,ds)
 | some (some (.val (.tuple ds)))=>some (true,ds)
 | _=>none
noncomputable def j8:D->Option (Bool×List D)
 | .list ds=>some (false,ds)
 | .tuple ds=>some (true,ds)
 | _=>none
theorem bk5{i:Int}{j:Nat}{pos:Pos}:JE X (.Constant (.int i) j pos) (dC (.int i)):=fun ρ d h=>by
 cases h
 exact B4 bg0 fun σ H Q ⟨H0,Hf,s,sl,k⟩=>k _ H Hf (Grow.refl s) rfl
theorem ce6{b:Bool}{j:Nat}{pos:Pos}:JE X (.Constant (.bool b) j pos) (dC (.bool b)):=fun ρ d h=>by
 cases h
 exact B4 cb1 fun σ H Q ⟨H0,Hf,s,sl,k⟩=>k _ H Hf (Grow.refl s) rfl
theorem bS1{j:Nat}{pos:Pos}:JE X (.Constant .none j pos) (dC .none):=fun ρ d h=>by
 cases h
 exact B4 bL2 fun σ H Q ⟨H0,Hf,s,sl,k⟩=>k _ H Hf (Grow.refl s) rfl
theorem bR5{x:Str}{j:Nat}{pos:Pos}:JE X (.Constant (.str x) j pos) (dC (.str x)):=fun ρ d h=>by
 cases h
 exact B4 bf8 fun σ H Q ⟨H0,Hf,s,sl,k⟩=>k _ H Hf (Grow.refl s) rfl
theorem bR3(i:Nat) {x:Str}{pos:Pos}(hN:X.N[i]? = some x:=by rfl) (hv:Vis X.env.scope x:=by first|exact Or.inl rfl|exact Or.inr (Or.inl rfl)|exact Or.inr (Or.inr rfl)) (hd:(x==("__debug__" : Str))=false:=by decide)
  (hcd:(x==("__classdict__" : Str))=false:=by decide):JE X (.Name x pos) (A1 i):=fun ρ d h=>by
 refine B4 (z9 hN hv hd hcd) fun σ H Q ⟨H0,Hf,s,sl,k⟩=>?_
 unfold A1 at h
 split at h
 ·rename_i d' e
  cases h
  obtain⟨v,h1,h2⟩:=sl.is i _ e
  exact⟨v,h1,k v H Hf (Grow.refl s) h2⟩
 ·cases h
theorem bQ7(i:Nat) {x:Str}{pos:Pos}(hN:X.N[i]? = some x:=by rfl) (hv:Vis X.env.scope x:=by first|exact Or.inl rfl|exact Or.inr (Or.inl rfl)|exact Or.inr (Or.inr rfl)) (hd:(x==("__debug__" : Str))=false:=by decide)
  (hcd:(x==("__classdict__" : Str))=false:=by decide):JQ X (.Name x pos) (A7 i):=fun ρ t ds h=>by
 refine B4 (z9 hN hv hd hcd) fun σ H Q ⟨H0,Hf,s,sl,k⟩=>?_
 unfold A7 at h
 split at h
 ·rename_i d' e
  cases h
  obtain⟨v,h1,a,vs,rfl,h2,h3,h4,h5⟩:=sl.is i _ e
  exact⟨_,h1,k _ H Hf (Grow.refl s) ⟨a,vs,rfl,SqL.of h2,h5⟩⟩
 ·rename_i d' e
  cases h
  obtain⟨v,h1,a,vs,rfl,h2,h3⟩:=sl.is i _ e
  exact⟨_,h1,k _ H Hf (Grow.refl s) ⟨a,vs,rfl,F2 s h2,h3⟩⟩
 ·rename_i d' e
  cases h
  obtain⟨v,h1,a,vs,rfl,h2,h3⟩:=sl.is i _ e
  exact⟨_,h1,k _ H Hf (Grow.refl s) ⟨a,vs,rfl,C8 s h2,h3⟩⟩
 ·cases h
theorem Rep.seq{K:PySem.W.Frag}{H Hf:Hp}{d:D}{v:V}{t:Bool}{ds:List D}(h:Rep K Hf d v) (s:E2 Hf H) (e:j8 d=some (t,ds)):RQ K t ds v H Hf:=by
 cases d with
 | list xs=>cases e;obtain⟨a,vs,e1,e2,e3⟩:=h;exact⟨a,vs,e1,F2 s e2,e3⟩
 | tuple xs=>cases e;obtain⟨a,vs,e1,e2,e3⟩:=h;exact⟨a,vs,e1,C8 s e2,e3⟩
 | _=>cases e
noncomputable def qE(f:DE):Rho->Option (Bool×List D):=fun ρ=>(f ρ).bind j8
theorem bj7{e:Expr}{f:DE}(h:JE X e f):JQ X e (qE f):=fun ρ t ds q=>by
 obtain⟨d,h1,h2⟩:=xbm q
 exact B4 (h ρ d h1) fun σ H Q ⟨H0,Hf,s,sl,k⟩=>⟨H0,Hf,s,sl,fun v H' Hf' g r=>k v H' Hf' g (r.seq g.sub h2)⟩
noncomputable def A2:Rho->Option (List D):=fun _=>some []
noncomputable def A0(f:DE) (g:Rho->Option (List D)):Rho->Option (List D):=fun ρ=>(f ρ).bind fun d=>(g ρ).map fun ds=>d::ds
theorem bT2:JA X [] A2:=⟨fun ρ ds h=>by cases h;rfl,fun ρ ds h pos pins s σ H Q I ⟨H0,Hf,ss,sl,k⟩=>by
 cases h
 exact G8 pos pins s σ H Q I (k [] H Hf (Grow.refl ss) rfl)⟩
theorem bz6{e:Expr}{es:List Expr}{f:DE}{g:Rho->Option (List D)}(h:JE X e f) (r:JA X es g) (hs:starEach (e::es) X.env=(false,eval e X.env)::starEach es X.env:=by rfl):JA X (e::es) (A0 f g):=by
 refine⟨fun ρ ds q=>?_,fun ρ ds q=>?_⟩
 ·obtain⟨d,h1,h2⟩:=xbm q
  obtain⟨es',h3,h4⟩:=xmo h2
  subst h4
  simp[r.len ρ es' h3]
 ·obtain⟨d,h1,h2⟩:=xbm q
  obtain⟨es',h3,h4⟩:=xmo h2
  subst h4
  intro pos pins s σ H Q I ⟨H0,Hf,ss,sl,k⟩
  refine D9 (h ρ d h1) (r.run ρ es' h3) hs pos pins s σ H Q I ⟨H0,Hf,ss,sl,fun v H1 Hf1 g1 r1=>⟨H0,Hf1,g1.sub,sl.grow g1,fun vs H2 Hf2 g2 r2=>?_⟩⟩
  exact k (v::vs) H2 Hf2 (g1.trans g2) ⟨v,vs,rfl,r1.mono g2.ext,r2⟩
noncomputable def B1(f:Rho->Option (List D)):DE:=fun ρ=>(f ρ).map PyData.tuple
theorem bR4{es:List Expr}{f:Rho->Option (List D)}{k:Nat}{pos:Pos}(h:JA X es f) (hn:es.length<=1000:=by decide):JE X (.Tuple es k pos) (B1 f):=fun ρ d q=>by
 obtain⟨ds,h1,h2⟩:=xmo q
 subst h2
 refine B4 (bK8 fun pos pins s σ H Q I t=>h.run ρ ds h1 pos pins s σ H Q I t) fun σ H Q ⟨H0,Hf,s,sl,k⟩=>?_
 refine⟨H0,Hf,s,sl,fun vs H1 Hf1 g r=>⟨?_,fun p hp=>?_⟩⟩
 ·rw[r.length,h.len ρ ds h1];exact Nat.le_of_lt (ar4 hn)
 ·exact k _ _ _ (g.trans (Grow.laid g.sub hp)) ⟨p,vs,rfl,SqT.of C1,r.mono (Grow.laid (o:=.tup vs) g.sub hp).ext⟩
theorem bQ9{es:List Expr}{f:Rho->Option (List D)}{pos:Pos}(h:JA X es f) (hn:es.length<=1000:=by decide):JN X (.List es pos) f:=fun ρ ds h1=>by
 refine B4 (bL3 fun pos pins s σ H Q I t=>h.run ρ ds h1 pos pins s σ H Q I t) fun σ H Q ⟨H0,Hf,s,sl,k⟩=>?_
 refine⟨H0,Hf,s,sl,fun vs H1 Hf1 g r=>⟨?_,fun p hp=>?_⟩⟩
 ·rw[r.length,h.len ρ ds h1];exact Nat.le_of_lt (ar4 hn)
 ·exact k _ _ _ (g.trans (Grow.made g.sub hp)) ⟨p,vs,rfl,g.big.free hp,C1,g.sub.free hp,r⟩
noncomputable def D6(f:Rho->Option (List D)):DE:=fun ρ=>(f ρ).map PyData.list
theorem am7{e:Expr}{f:Rho->Option (List D)}(h:JN X e f):JE X e (D6 f):=fun ρ d q=>by
 obtain⟨ds,h1,h2⟩:=xmo q
 subst h2
 refine B4 (h ρ ds h1) fun σ H Q ⟨H0,Hf,s,sl,k⟩=>⟨H0,Hf,s,sl,fun v H' Hf' g ⟨a,vs,e1,e2,e3,e4,e5⟩=>?_⟩
 subst e1
 exact k _ _ _ (g.freeze e3 e4 e2) ⟨a,vs,rfl,SqL.of C1,e5.mono (D7 e4)⟩
theorem bj6{e:Expr}{f:Rho->Option (List D)}(h:JN X e f):JQ X e (fun ρ=>(f ρ).map fun ds=>(false,ds)):=fun ρ t ds q=>by
 obtain⟨ds',h1,h2⟩:=xmo q
 cases h2
 refine B4 (h ρ ds h1) fun σ H Q ⟨H0,Hf,s,sl,k⟩=>⟨H0,Hf,s,sl,fun v H' Hf' g ⟨a,vs,e1,e2,e3,e4,e5⟩=>?_⟩
 subst e1
 exact k _ _ _ g ⟨a,vs,rfl,SqL.of e3,e5⟩
noncomputable def OpD(X:Cx) (F:Value->Value->Sem Value) (h:D->D->Option D):Prop:=∀x y z,h x y=some z ->
 OpR X F fun vx vy H Q=>∃Hf,E2 Hf H/\Rep X.K Hf x vx/\Rep X.K Hf y vy/\∀v H' Hf',Grow H Hf H' Hf'->Rep X.K Hf' z v->Q v H'
noncomputable def A4(h:D->D->Option D) (f g:DE):DE:=fun ρ=>(f ρ).bind fun x=>(g ρ).bind fun y=>h x y
theorem X8{op:Operator}{h:D->D->Option D}{a b:Expr}{f g:DE}{pos:Pos}(o:OpD X (binaryOp op) h) (ha:JE X a f) (hb:JE X b g):JE X (.BinOp a op b pos) (A4 h f g):=fun ρ d q=>by
 obtain⟨x,h1,q⟩:=xbm q
 obtain⟨y,h2,h3⟩:=xbm q
 refine B4 (bE3 (o x y d h3) (ha ρ x h1) (hb ρ y h2)) fun σ H Q ⟨H0,Hf,s,sl,k⟩=>?_
 refine⟨H0,Hf,s,sl,fun v H1 Hf1 g1 r1=>⟨H0,Hf1,g1.sub,sl.grow g1,fun u H2 Hf2 g2 r2=>?_⟩⟩
 exact⟨Hf2,g2.sub,r1.mono g2.ext,r2,fun w H3 Hf3 g3 r3=>k w H3 Hf3 ((g1.trans g2).trans g3) r3⟩
theorem bS7{op:CmpOp}{h:D->D->Option D}{a b:Expr}{f g:DE}{pos:Pos}(o:OpD X (compareOp op) h) (ha:JE X a f) (hb:JE X b g) (hm:behindInMarks op b=false:=by first|exact bh3 _|rfl):JE X (.Compare a [op] [b] pos) (A4 h f g):=fun ρ d q=>by
 obtain⟨x,h1,q⟩:=xbm q
 obtain⟨y,h2,h3⟩:=xbm q
 refine B4 (bu4 (o x y d h3) (ha ρ x h1) (hb ρ y h2) hm) fun σ H Q ⟨H0,Hf,s,sl,k⟩=>?_
 refine⟨H0,Hf,s,sl,fun v H1 Hf1 g1 r1=>⟨H0,Hf1,g1.sub,sl.grow g1,fun u H2 Hf2 g2 r2=>?_⟩⟩
 exact⟨Hf2,g2.sub,r1.mono g2.ext,r2,fun w H3 Hf3 g3 r3=>k w H3 Hf3 ((g1.trans g2).trans g3) r3⟩
theorem OpR.imp{F:Value->Value->Sem Value}{r r':R2}(h:OpR X F r) (i:∀x y H Q,r' x y H Q->r x y H Q):OpR X F r':=fun pins s σ H x y v u Q I rx ry q=>h pins s σ H x y v u Q I rx ry (i x y H Q q)
end
section
variable {X:Cx}
noncomputable def E3(i:Int):Prop:=i.natAbs < 2 ^ 8000
instance:DecidablePred E3:=fun i=>inferInstanceAs (Decidable (i.natAbs < 2 ^ 8000))
theorem E3.log{i:Int}(h:E3 i) (h0:i.natAbs≠0):i.natAbs.log2 < 8000:=(Nat.log2_lt h0).mpr h
theorem E3.bits{i:Int}(h:E3 i):Builtin.Int.intBits i<=2 ^ 20:=by
 unfold Builtin.Int.intBits
 split
 ·exact Nat.zero_le _
 ·rename_i h0
  have:=h.log (by simpa using h0)
  omega
theorem bv1{X:Cx}:OpR X (binaryOp .Mult) (rI (fun i j=>E3 i/\E3 j) fun i j=>.int (i*j)):=opI fun _ _ _ _ _ _ _ hc q=>mul_int q (PySem.IntMulOk.of_bits hc.1.bits hc.2.bits)
noncomputable def ci1(x y:D):Option D:=match x,y with
 | .int i,.int j=>some (.int (i+j))
 | _,_=>none
noncomputable def V2(x y:D):Option D:=match x,y with
 | .int i,.int j=>some (.int (i - j))
 | .int i,.bool b=>some (.int (i - if b=true then 1 else 0))
 | .bool a,.int j=>some (.int ((if a=true then 1 else 0) - j))
 | _,_=>none
noncomputable def bN8(x y:D):Option D:=match x,y with
 | .int i,.int j=>if E3 i/\E3 j then some (.int (i*j)) else none
 | _,_=>none
noncomputable def ai8(x y:D):Option D:=match x,y with
 | .int i,.int j=>if 0 < j/\E3 j then some (.int (i / j)) else none
 | _,_=>none
noncomputable def V0(x y:D):Option D:=match x,y with
 | .int i,.int j=>if 0 < j then some (.int (i % j)) else none
 | _,_=>none
theorem ck7:OpD X (binaryOp .Add) ci1:=fun x y z h=>by
 unfold ci1 at h
 split at h
 ·cases h
  exact OpR.imp bg7 fun vx vy H Q ⟨Hf,s,r1,r2,k⟩=>⟨_,_,r1,r2,k _ H Hf (Grow.refl s) rfl⟩
 ·cases h
theorem bM1:OpD X (binaryOp .Sub) V2:=fun x y z h=>by
 unfold V2 at h
 split at h
 ·cases h
  exact OpR.imp bL8 fun vx vy H Q ⟨Hf,s,r1,r2,k⟩=>⟨_,_,r1,r2,k _ H Hf (Grow.refl s) rfl⟩
 ·cases h
  intro pins s σ H vx vy v u Q I rx ry ⟨Hf,ss,r1,r2,k⟩
  cases r1;cases r2
  obtain⟨t,rfl⟩:=rx
  obtain rfl:u=Value.bool _:=ry
  exact PySem.IntBool.sub_int_bool ⟨.int _,H,I.tok _,⟨_,rfl⟩,k _ H Hf (Grow.refl ss) rfl⟩
 ·cases h
  intro pins s σ H vx vy v u Q I rx ry ⟨Hf,ss,r1,r2,k⟩
  cases r1;cases r2
  obtain⟨t,rfl⟩:=ry
  obtain rfl:v=Value.bool _:=rx
  exact PySem.IntBool.sub_bool_int ⟨.int _,H,I.tok _,⟨_,rfl⟩,k _ H Hf (Grow.refl ss) rfl⟩
 ·cases h
theorem bM2:OpD X (binaryOp .Mult) bN8:=fun x y z h=>by
 unfold bN8 at h
 split at h
 ·split at h
  ·rename_i c
   cases h
   exact OpR.imp bv1 fun vx vy H Q ⟨Hf,s,r1,r2,k⟩=>⟨_,_,r1,r2,c,k _ H Hf (Grow.refl s) rfl⟩
  ·cases h
 ·cases h
theorem aV0:OpR X (binaryOp .FloorDiv) (rI (fun _ j=>0 < j/\E3 j) fun i j=>.int (i / j)):=opI fun i j _ _ s Q E hc q=>by
 have e:i.fdiv j=i / j:=Int.fdiv_eq_ediv_of_nonneg i (Int.le_of_lt hc.1)
 refine floordiv_int (by omega) (by rw[e];exact q) (.inl (PyProof.noPylong_of_log2 ?_))
 have h2:=hc.2.log (by omega)
 omega
theorem bM6:OpD X (binaryOp .FloorDiv) ai8:=fun x y z h=>by
 unfold ai8 at h
 split at h
 ·split at h
  ·rename_i c
   cases h
   exact OpR.imp aV0 fun vx vy H Q ⟨Hf,s,r1,r2,k⟩=>⟨_,_,r1,r2,c,k _ H Hf (Grow.refl s) rfl⟩
  ·cases h
 ·cases h
theorem bM3:OpD X (binaryOp .Mod) V0:=fun x y z h=>by
 unfold V0 at h
 split at h
 ·split at h
  ·rename_i c
   cases h
   exact OpR.imp bL9 fun vx vy H Q ⟨Hf,s,r1,r2,k⟩=>⟨_,_,r1,r2,c,k _ H Hf (Grow.refl s) rfl⟩
  ·cases h
 ·cases h
theorem bg6:OpR X (binaryOp .Add) (fun x y H Q=>∃a b ys,x=.ref a/\y=.ref b/\SqT X.K H a []/\SqT X.K H b ys/\Q (.ref b) H):=by
 intro pins s σ H x y v u Q I rx ry h
 obtain⟨a,b,ys,rfl,rfl,ha,hb,q⟩:=h
 cases rx
 cases ry
 obtain⟨its,r1,p1,_⟩:=I.tuple ha
 obtain⟨its2,r2,p2,_⟩:=I.tuple hb
 cases r1
 obtain⟨⟨cls,dd,data,sl⟩,ho,hc,n,hd⟩:=id p1
 obtain⟨⟨cls2,dd2,data2,sl2⟩,ho2,hc2,n2,hd2⟩:=id p2
 simp only at hc hd hc2 hd2
 subst hc hd hc2 hd2
 exact concat_meets ⟨_,ho,rfl⟩ ⟨_,ho2,rfl⟩ noFill_tuple_add seq_tuple_add PySem.F.slot_tuple_add PySem.F.entry_tuple_add (PySem.F.args_tuple_add_2 _ _)
   (tuple_addW0 a b _ its2.toArray n n2 dd dd2 sl sl2 (by rfl)) ⟨ho,ho2,⟨.ref b,H,I,rfl,q⟩⟩
noncomputable def Z8(x y:D):Option D:=match x,y with
 | .tuple xs,.tuple ys=>if xs.length+ys.length<=16777216 then some (.tuple (xs++ys)) else none
 | .str a,.str b=>if a.length+b.length<=16777216 then some (.str (a++b)) else none
 | .int i,.int j=>some (.int (i+j))
 | .bool a,.int j=>some (.int ((if a=true then 1 else 0)+j))
 | _,_=>none
theorem bh2:OpD X (binaryOp .Add) Z8:=fun x y z h=>by
 unfold Z8 at h
 split at h
 ·split at h
  ·rename_i xs ys c
   cases h
   cases xs with
   | nil =>
    refine OpR.imp bg6 fun vx vy H Q ⟨Hf,s,r1,r2,k⟩=>?_
    obtain⟨a,vs,rfl,h2,h3⟩:=r1
    obtain⟨b,us,rfl,h5,h6⟩:=r2
    cases h3
    exact⟨a,b,us,rfl,rfl,C8 s h2,C8 s h5,k _ H Hf (Grow.refl s) ⟨b,us,rfl,h5,h6⟩⟩
   | cons d0 ds0 =>
    refine OpR.imp bv2 fun vx vy H Q ⟨Hf,s,r1,r2,k⟩=>?_
    obtain⟨a,vs,rfl,h2,h3⟩:=r1
    obtain⟨b,us,rfl,h5,h6⟩:=r2
    have l1:=h3.length
    have l2:=h6.length
    refine⟨a,b,vs,us,rfl,rfl,C8 s h2,C8 s h5,?_,by rw[sizeLine_eq];omega,fun e=>?_,fun e p hp=>?_⟩
    ·intro e;subst e;simp at l1
    ·subst e
     have:ys=[]:=by cases ys<;>simp_all
     subst this
     exact k _ H Hf (Grow.refl s) ⟨a,vs,rfl,h2,by rw[List.append_nil];exact h3⟩
    ·exact k _ _ _ (Grow.laid s hp) ⟨p,vs++us,rfl,SqT.of C1,(h3.append h6).mono (D7 (s.free hp))⟩
  ·cases h
 ·split at h
  ·rename_i c
   cases h
   exact OpR.imp aI7 fun vx vy H Q ⟨Hf,s,r1,r2,k⟩=>⟨_,_,r1,r2,by rw[sizeLine_eq];exact c,k _ H Hf (Grow.refl s) rfl⟩
  ·cases h
 ·cases h
  exact OpR.imp bg7 fun vx vy H Q ⟨Hf,s,r1,r2,k⟩=>⟨_,_,r1,r2,k _ H Hf (Grow.refl s) rfl⟩
 ·cases h
  intro pins s σ H vx vy v u Q I rx ry ⟨Hf,ss,r1,r2,k⟩
  cases r1;cases r2
  obtain⟨t,rfl⟩:=ry
  obtain rfl:v=Value.bool _:=rx
  exact PySem.IntBool.add_bool_int ⟨.int _,H,I.tok _,⟨_,rfl⟩,k _ H Hf (Grow.refl ss) rfl⟩
 ·cases h
noncomputable def ltI(x y:D):Option D:=match x,y with
 | .int i,.int j=>some (.bool (decide (i < j)))
 | _,_=>none
noncomputable def leI(x y:D):Option D:=match x,y with
 | .int i,.int j=>some (.bool (decide (i<=j)))
 | _,_=>none
noncomputable def gtI(x y:D):Option D:=match x,y with
 | .int i,.int j=>some (.bool (decide (j < i)))
 | _,_=>none
noncomputable def geI(x y:D):Option D:=match x,y with
 | .int i,.int j=>some (.bool (decide (j<=i)))
 | _,_=>none
theorem cc1:OpD X (compareOp .Lt) ltI:=fun x y z h=>by
 unfold ltI at h
 split at h
 ·cases h
  exact OpR.imp cb4 fun vx vy H Q ⟨Hf,s,r1,r2,k⟩=>⟨_,_,r1,r2,k _ H Hf (Grow.refl s) rfl⟩
 ·cases h
theorem cc2:OpD X (compareOp .LtE) leI:=fun x y z h=>by
 unfold leI at h
 split at h
 ·cases h
  exact OpR.imp cb5 fun vx vy H Q ⟨Hf,s,r1,r2,k⟩=>⟨_,_,r1,r2,k _ H Hf (Grow.refl s) rfl⟩
 ·cases h
theorem cc5:OpD X (compareOp .Gt) gtI:=fun x y z h=>by
 unfold gtI at h
 split at h
 ·cases h
  exact OpR.imp cb6 fun vx vy H Q ⟨Hf,s,r1,r2,k⟩=>⟨_,_,r1,r2,k _ H Hf (Grow.refl s) rfl⟩
 ·cases h
theorem cc6:OpD X (compareOp .GtE) geI:=fun x y z h=>by
 unfold geI at h
 split at h
 ·cases h
  exact OpR.imp cb7 fun vx vy H Q ⟨Hf,s,r1,r2,k⟩=>⟨_,_,r1,r2,k _ H Hf (Grow.refl s) rfl⟩
 ·cases h
mutual
theorem Rep.reads{pins:List (Addr×Obj)}{σ:L2.St}{H:Hp}{s:Shared}(I:Inv X pins σ H s):∀{d:D}{v:V}{u:Value},Rep X.K H d v->D3 v u->∃as,Reads s.heap u d as
 | .none,_,_,h,r=>by cases h;cases r;exact⟨_,.none⟩
 | .bool b,_,_,h,r=>by cases h;cases r;exact⟨_,.bool b⟩
 | .int i,_,_,h,r=>by cases h;obtain⟨t,rfl⟩:=r;exact⟨_,.int i t⟩
 | .str x,_,_,h,r=>by cases h;obtain⟨t,rfl⟩:=r;exact⟨_,.str x t⟩
 | .tuple ds,_,_,⟨a,vs,h1,h2,h3⟩,r=>by
  subst h1;cases r
  obtain⟨its,rv,⟨o,ho,hc,n,hd⟩,_⟩:=I.tuple h2
  obtain⟨as,q⟩:=Reps.reads I h3 rv
  exact⟨_,.tuple ho hc hd (by simpa using q)⟩
 | .list ds,_,_,⟨a,vs,h1,h2,h3⟩,r=>by
  subst h1;cases r
  obtain⟨its,rv,pl,_⟩:=I.list h2
  obtain⟨o,ho,hc,n,hd⟩:=pl.isList
  obtain⟨as,q⟩:=Reps.reads I h3 rv
  exact⟨_,.list ho hc hd (by simpa using q)⟩
 | .dict kvs,_,_,⟨a,m,h1,h2,h3⟩,r=>by
  subst h1;cases r
  obtain⟨_,_,vs,rk,o,es,ep,ho,hx,hd,_,hp,_⟩:=(show M5 X.prog X.w H s.heap a (.dK m) from I.hok a _ h2)
  obtain⟨as,bs,q1,q2⟩:=RepKs.reads I h3 rk hp
  exact⟨_,.dict ho hx.1 hd q1 q2⟩
theorem RepKs.reads{pins:List (Addr×Obj)}{σ:L2.St}{H:Hp}{s:Shared}(I:Inv X pins σ H s):∀{kvs:List (D×D)}{m:List (Key×V)}{vs:List (Key×Value)}{es:List DictEntry},RepKs X.K H kvs m->KV m vs->Pairs (E5 X.prog X.w) es vs ->
  ∃as bs,ReadsAll s.heap (es.map (·.key)) (kvs.map (·.1)) as/\ReadsAll s.heap (es.map (·.val)) (kvs.map (·.2)) bs
 | [],_,_,_,h,r,p=>by cases h;cases r;cases p;exact⟨_,_,.nil,.nil⟩
 | (k,d)::kvs,_,_,_,⟨x,v,t,h1,h2,h3,h4⟩,r,p=>by
  subst h1 h2
  cases r with
  | @cons _ b _ bs r1 r2 =>
   cases p with
   | @cons e kv es _ p1 p2 p3 =>
    obtain⟨as,cs,q1,q2⟩:=RepKs.reads I h4 r2 p3
    obtain⟨r1,r3⟩:=r1
    rw[← p2]at r3
    obtain⟨ds,q3⟩:=Rep.reads I h3 r3
    rw[← r1]at p1
    have hk:∃t,e.key=.str x t:=Value.isStrOf_shape (x:=x) (v:=e.key) p1
    obtain⟨t,hk⟩:=hk
    refine⟨_,_,.cons (as:=[]) ?_ q1,.cons q3 q2⟩
    show Reads s.heap e.key (.str x) []
    rw[hk];exact .str x t
theorem Reps.reads{pins:List (Addr×Obj)}{σ:L2.St}{H:Hp}{s:Shared}(I:Inv X pins σ H s):∀{ds:List D}{vs:List V}{us:List Value},Reps X.K H ds vs->D5 vs us->∃as,ReadsAll s.heap us ds as
 | [],_,_,h,r=>by cases h;cases r;exact⟨_,.nil⟩
 | d::ds,_,_,⟨v,vr,h1,h2,h3⟩,r=>by
  subst h1
  cases r with
  | cons r1 r2 =>
   obtain⟨as,q1⟩:=Rep.reads I h2 r1
   obtain⟨bs,q2⟩:=Reps.reads I h3 r2
   exact⟨_,.cons q1 q2⟩
end
noncomputable def eqD(x y:D):Option D:=if SeqAt.shaped x=true/\SeqAt.shaped y=true then some (.bool (PyData.eqv x y)) else none
noncomputable def neD(x y:D):Option D:=if SeqAt.shaped x=true/\SeqAt.shaped y=true then some (.bool (!PyData.eqv x y)) else none
theorem cc7(hu:X.A.units+64 < cLine):OpD X (compareOp .Eq) eqD:=fun x y z h=>by
 unfold eqD at h
 split at h
 ·rename_i c
  cases h
  intro pins s σ H vx vy v u Q I rx ry ⟨Hf,ss,r1,r2,k⟩
  obtain⟨as,q1⟩:=Rep.reads I (r1.mono ss) rx
  obtain⟨bs,q2⟩:=Rep.reads I (r2.mono ss) ry
  exact eq_dataH q1 q2 c.1 c.2 hu ⟨.bl _,H,I,rfl,k _ H Hf (Grow.refl ss) rfl⟩
 ·cases h
theorem cc0(hu:X.A.units+64 < cLine):OpD X (compareOp .NotEq) neD:=fun x y z h=>by
 unfold neD at h
 split at h
 ·rename_i c
  cases h
  intro pins s σ H vx vy v u Q I rx ry ⟨Hf,ss,r1,r2,k⟩
  obtain⟨as,q1⟩:=Rep.reads I (r1.mono ss) rx
  obtain⟨bs,q2⟩:=Rep.reads I (r2.mono ss) ry
  exact ne_dataH q1 q2 c.1 c.2 hu ⟨.bl _,H,I,rfl,k _ H Hf (Grow.refl ss) rfl⟩
 ·cases h
noncomputable def isN(x y:D):Option D:=match x,y with
 | .none,.none=>some (.bool true)
 | .dict _,_=>none
 | _,.none=>some (.bool false)
 | _,_=>none
theorem aN9{K:PySem.W.Frag}{H:Hp}{d:D}{v:V}(h:Rep K H d v):(decide (v=.non))=(match d with | .none=>true|_=>false):=by
 cases d with
 | none=>cases h;rfl
 | bool b=>cases h;rfl
 | int b=>cases h;rfl
 | str b=>cases h;rfl
 | tuple ds=>obtain⟨a,vs,rfl,_⟩:=h;rfl
 | list ds=>obtain⟨a,vs,rfl,_⟩:=h;rfl
 | dict ds=>obtain⟨a,m,rfl,_⟩:=h;rfl
theorem bM4:OpD X (compareOp .Is) isN:=fun x y z h=>by
 refine OpR.imp bM0 fun vx vy H Q ⟨Hf,s,r1,r2,k⟩=>?_
 have e:=aN9 r1
 cases y<;>cases x<;>simp only[isN,Option.some.injEq,reduceCtorEq]at h <;>
  (subst h;simp only at e;rw[e];exact⟨r2,k _ H Hf (Grow.refl s) rfl⟩)
noncomputable def bM7(x y:D):Option D:=match x,y with
 | .none,.none=>some (.bool false)
 | .dict _,_=>none
 | _,.none=>some (.bool true)
 | _,_=>none
theorem bv5:OpD X (compareOp .IsNot) bM7:=fun x y z h=>by
 refine OpR.imp bv0 fun vx vy H Q ⟨Hf,s,r1,r2,k⟩=>?_
 have e:=aN9 r1
 cases y<;>cases x<;>simp only[bM7,Option.some.injEq,reduceCtorEq]at h <;>
  (subst h;simp only at e;rw[e];exact⟨r2,k _ H Hf (Grow.refl s) rfl⟩)
noncomputable def L0(h1 h2:D->D->Option D) (f g k:DE):DE:=fun ρ=>(f ρ).bind fun x=>(g ρ).bind fun y=>(h1 x y).bind fun z=>match z with
 | .bool true=>(k ρ).bind fun w=>h2 y w
 | .bool false=>some (.bool false)
 | _=>none
theorem bk7{op op':CmpOp}{h1 h2:D->D->Option D}{a b c:Expr}{f g k:DE}{pos:Pos}(o1:OpD X (compareOp op) h1) (o2:OpD X (compareOp op') h2) (ha:JE X a f) (hb:JE X b g) (hc:JE X c k)
  (hm:lastMarks [op,op'] [b,c]=false:=by with_unfolding_all rfl):JE X (.Compare a [op,op'] [b,c] pos) (L0 h1 h2 f g k):=fun ρ d q=>by
 obtain⟨x,e1,q⟩:=xbm q
 obtain⟨y,e2,q⟩:=xbm q
 obtain⟨z,e3,q⟩:=xbm q
 split at q
 ·obtain⟨w,e4,e5⟩:=xbm q
  refine B4 (aC0 (o1 x y _ e3) (o2 y w d e5) (ha ρ x e1) (hb ρ y e2) (hc ρ w e4) hm) fun σ H Q ⟨H0,Hf,s,sl,kk⟩=>?_
  refine⟨H0,Hf,s,sl,fun v H1 Hf1 g1 r1=>⟨H0,Hf1,g1.sub,sl.grow g1,fun u H2 Hf2 g2 r2=>⟨Hf2,g2.sub,r1.mono g2.ext,r2,fun z' H3 Hf3 g3 r3=>?_⟩⟩⟩
  refine⟨true,r3,am8 ⟨H0,Hf3,g3.sub,sl.grow ((g1.trans g2).trans g3),fun w' H4 Hf4 g4 r4=>⟨Hf4,g4.sub,r2.mono (g3.trans g4).ext,r4,fun z2 H5 Hf5 g5 r5=>?_⟩⟩⟩
  exact kk z2 H5 Hf5 ((((g1.trans g2).trans g3).trans g4).trans g5) r5
 ·cases q
  intro pins s σ H Q I ⟨H0,Hf,ss,sl,kk⟩
  refine aC0 (tc:=fun _ _ _=>False) (r':=fun _ _ _ _=>False) (o1 x y _ e3) (fun _ _ _ _ _ _ _ _ _ _ _ _ h=>h.elim) (ha ρ x e1) (hb ρ y e2) (fun _ _ _ _ _ _ h=>h.elim) hm pins s σ H Q I ?_
  refine⟨H0,Hf,ss,sl,fun v H1 Hf1 g1 r1=>⟨H0,Hf1,g1.sub,sl.grow g1,fun u H2 Hf2 g2 r2=>⟨Hf2,g2.sub,r1.mono g2.ext,r2,fun z' H3 Hf3 g3 r3=>?_⟩⟩⟩
  exact⟨false,r3,am9 (kk _ H3 Hf3 ((g1.trans g2).trans g3) rfl)⟩
 ·cases q
theorem bR9{op:BoolOp}{a:Expr}{f:DE}{pos:Pos}(h:JE X a f):JE X (.BoolOp op [a] pos) f:=fun ρ d q=>bL0 (h ρ d q)
noncomputable def P8(f g:DE):DE:=fun ρ=>(f ρ).bind fun x=>match x with
 | .bool true=>g ρ
 | .bool false=>some (.bool false)
 | _=>none
noncomputable def dOr(f g:DE):DE:=fun ρ=>(f ρ).bind fun x=>match x with
 | .bool true=>some (.bool true)
 | .bool false=>g ρ
 | .none=>g ρ
 | .tuple (y::r)=>some (.tuple (y::r))
 | _=>none
theorem bf9{a b:Expr}{F5:List Expr}{pos:Pos}{ta tb:TE}(ha:PE X a ta) (hb:PE X (.BoolOp .Or (b::F5) pos) tb):PE X (.BoolOp .Or (a::b::F5) pos) (fun σ H Q=>ta σ H fun x H1=>∃k,bW7 X.K x H1 k/\if k=true then Q x H1 else tb σ H1 Q):=by
 intro pins s σ H Q I h
 refine BoolOp_or (thn (ha pins s σ H _ I h) fun v s1 ⟨x,H1,I1,r1,k,tk,q1⟩=>?_)
 refine thn (bd1 pins s1 σ H1 x v (fun c H2=>c=k/\H2=H1) I1 r1 ⟨k,tk,rfl,rfl⟩) fun c s2 ⟨H2,I2,e1,e2⟩=>?_
 subst e1 e2
 cases c with
 | false=>exact hb pins s2 σ _ Q I2 q1
 | true=>exact⟨x,_,I2,r1,q1⟩
noncomputable def az3(f:DE):DE:=fun ρ=>(f ρ).bind fun x=>match x with
 | .bool c=>some (.bool (!c))
 | _=>none
theorem bS9{a b:Expr}{F5:List Expr}{f g:DE}{pos:Pos}(ha:JE X a f) (hb:JE X (.BoolOp .And (b::F5) pos) g):JE X (.BoolOp .And (a::b::F5) pos) (P8 f g):=fun ρ d q=>by
 obtain⟨x,e1,q⟩:=xbm q
 split at q
 ·refine B4 (bg3 (ha ρ _ e1) (hb ρ d q)) fun σ H Q ⟨H0,Hf,s,sl,k⟩=>⟨H0,Hf,s,sl,fun v H1 Hf1 g1 r1=>⟨true,r1,am8 ⟨H0,Hf1,g1.sub,sl.grow g1,fun u H2 Hf2 g2 r2=>k u H2 Hf2 (g1.trans g2) r2⟩⟩⟩
 ·cases q
  refine B4 (bg3 (tb:=fun _ _ _=>False) (ha ρ _ e1) (fun _ _ _ _ _ _ h=>h.elim)) fun σ H Q ⟨H0,Hf,s,sl,k⟩=>⟨H0,Hf,s,sl,fun v H1 Hf1 g1 r1=>⟨false,r1,am9 (k _ H1 Hf1 g1 rfl)⟩⟩
 ·cases q
theorem ce4{a b:Expr}{F5:List Expr}{f g:DE}{pos:Pos}(ha:JE X a f) (hb:JE X (.BoolOp .Or (b::F5) pos) g):JE X (.BoolOp .Or (a::b::F5) pos) (dOr f g):=fun ρ d q=>by
 obtain⟨x,e1,q⟩:=xbm q
 split at q
 ·cases q
  refine B4 (bE2 (tb:=fun _ _ _=>False) (ha ρ _ e1) (fun _ _ _ _ _ _ h=>h.elim)) fun σ H Q ⟨H0,Hf,s,sl,k⟩=>⟨H0,Hf,s,sl,fun v H1 Hf1 g1 r1=>⟨true,r1,am8 (k _ H1 Hf1 g1 rfl)⟩⟩
 ·refine B4 (bE2 (ha ρ _ e1) (hb ρ d q)) fun σ H Q ⟨H0,Hf,s,sl,k⟩=>⟨H0,Hf,s,sl,fun v H1 Hf1 g1 r1=>⟨false,r1,am9 ⟨H0,Hf1,g1.sub,sl.grow g1,fun u H2 Hf2 g2 r2=>k u H2 Hf2 (g1.trans g2) r2⟩⟩⟩
 ·refine B4 (bf9 (ha ρ _ e1) (hb ρ d q)) fun σ H Q ⟨H0,Hf,s,sl,k⟩=>⟨H0,Hf,s,sl,fun v H1 Hf1 g1 r1=>?_⟩
  cases r1
  exact⟨false,rfl,am9 ⟨H0,Hf1,g1.sub,sl.grow g1,fun u H2 Hf2 g2 r2=>k u H2 Hf2 (g1.trans g2) r2⟩⟩
 ·cases q
  refine B4 (bf9 (tb:=fun _ _ _=>False) (ha ρ _ e1) (fun _ _ _ _ _ _ h=>h.elim)) fun σ H Q ⟨H0,Hf,s,sl,k⟩=>⟨H0,Hf,s,sl,fun v H1 Hf1 g1 r1=>?_⟩
  obtain⟨p,vs,e,h2,h3⟩:=id r1
  subst e
  refine⟨true,.inr (.inl ⟨vs,C8 g1.sub h2,?_⟩),am8 (k _ H1 Hf1 g1 r1)⟩
  obtain⟨_,_,e,_⟩:=h3
  subst e;rfl
 ·cases q
theorem bS0{a:Expr}{f:DE}{pos:Pos}(ha:JE X a f):JE X (.UnaryOp .Not a pos) (az3 f):=fun ρ d q=>by
 obtain⟨x,e1,q⟩:=xbm q
 split at q
 ·cases q
  exact B4 (bL1 (ha ρ _ e1)) fun σ H Q ⟨H0,Hf,s,sl,k⟩=>⟨H0,Hf,s,sl,fun v H1 Hf1 g1 r1=>⟨_,r1,k _ H1 Hf1 g1 rfl⟩⟩
 ·cases q
noncomputable def ap8:D->Option Bool
 | .none=>some false
 | .bool b=>some b
 | .int i=>some (i != 0)
 | .str x=>if x.length<=16777216 then some ((x.length:Int) != 0) else none
 | .list ds=>some (!ds.isEmpty)
 | .tuple ds=>some (!ds.isEmpty)
 | .dict _=>none
noncomputable def J2(f:DE):Rho->Option Bool:=fun ρ=>(f ρ).bind ap8
theorem bP5{a:Expr}{f:DE}(ha:JE X a f) (he:∀whole,isTrue a X.env whole=(do let v ← whole;standAt a.pos;holding [v] (truthy v)):=by intro _;rfl):JT X a (J2 f):=fun ρ c q=>by
 obtain⟨d,e1,e2⟩:=xbm q
 refine aw6 (be7 (ha ρ d e1) he) fun σ H Q ⟨H0,Hf,s,sl,k⟩=>⟨H0,Hf,s,sl,fun v H1 Hf1 g1 r1=>⟨c,?_,k H1 Hf1 g1⟩⟩
 cases d with
 | none=>cases e2;cases r1;rfl
 | bool b=>cases e2;cases r1;rfl
 | int i=>cases e2;cases r1;rfl
 | str x =>
  simp only[ap8]at e2
  split at e2
  ·rename_i hx;cases e2;cases r1;exact⟨by rw[sizeLine_eq];exact hx,rfl⟩
  ·cases e2
 | list ds =>
  cases e2
  obtain⟨a,vs,rfl,h2,h3⟩:=r1
  refine .inl ⟨vs,F2 g1.sub h2,?_⟩
  have:=h3.length
  cases ds<;>cases vs<;>simp_all
 | tuple ds =>
  cases e2
  obtain⟨a,vs,rfl,h2,h3⟩:=r1
  refine .inr (.inl ⟨vs,C8 g1.sub h2,?_⟩)
  have:=h3.length
  cases ds<;>cases vs<;>simp_all
 | dict _=>cases e2
noncomputable def J4:D->Option Bool
 | .bool b=>some b
 | _=>none
noncomputable def tB2(h:D->D->Option D) (f g:DE):Rho->Option Bool:=fun ρ=>(A4 h f g ρ).bind J4
theorem aS6{d:D}{c:Bool}(h:J4 d=some c):d=.bool c:=by
 cases d<;>simp[J4]at h
 subst h;rfl
theorem bP7{op:CmpOp}{h:D->D->Option D}{a b:Expr}{f g:DE}{pos:Pos}(o:OpD X (compareOp op) h) (ha:JE X a f) (hb:JE X b g) (hm:behindInMarks op b=false:=by first|exact bh3 _|rfl):JT X (.Compare a [op] [b] pos) (tB2 h f g):=fun ρ c q=>by
 obtain⟨d,q,e⟩:=xbm q
 obtain⟨x,h1,q⟩:=xbm q
 obtain⟨y,h2,h3⟩:=xbm q
 have:=aS6 e
 subst this
 refine aw6 (bt1 (o x y _ h3) (ha ρ x h1) (hb ρ y h2) hm) fun σ H Q ⟨H0,Hf,s,sl,k⟩=>?_
 refine⟨H0,Hf,s,sl,fun v H1 Hf1 g1 r1=>⟨H0,Hf1,g1.sub,sl.grow g1,fun u H2 Hf2 g2 r2=>?_⟩⟩
 exact⟨Hf2,g2.sub,r1.mono g2.ext,r2,fun w H3 Hf3 g3 r3=>⟨c,r3,k H3 Hf3 ((g1.trans g2).trans g3)⟩⟩
noncomputable def F9(f g:Rho->Option Bool):Rho->Option Bool:=fun ρ=>(f ρ).bind fun c=>if c then g ρ else some false
noncomputable def F8(f g:Rho->Option Bool):Rho->Option Bool:=fun ρ=>(f ρ).bind fun c=>if c then some true else g ρ
noncomputable def M7(f:Rho->Option Bool):Rho->Option Bool:=fun ρ=>(f ρ).map fun c=>!c
theorem aw5{e:Expr}{t t':TT}(h:PW X e t) (i:∀σ H Q,t' σ H Q->t σ H Q):PW X e t':=fun whole pins s σ H Q I q=>h whole pins s σ H Q I (i σ H Q q)
theorem bj0{e:Expr}{f:Rho->Option Bool}(h:JW X e f):JT X e f:=fun ρ c q=>(h ρ c q).pt
theorem bw8{a:Expr}{f:Rho->Option Bool}{pos:Pos}(h:JT X a f):JW X (.BoolOp .And [a] pos) f:=fun ρ c q=>bs8 (h ρ c q)
theorem bP1{a:Expr}{f:Rho->Option Bool}{pos:Pos}(h:JT X a f):JW X (.BoolOp .Or [a] pos) f:=fun ρ c q=>bJ8 (h ρ c q)
theorem bP2{a b:Expr}{F5:List Expr}{f g:Rho->Option Bool}{pos:Pos}(ha:JT X a f) (hb:JW X (.BoolOp .And (b::F5) pos) g):JW X (.BoolOp .And (a::b::F5) pos) (F9 f g):=fun ρ c q=>by
 obtain⟨x,e1,q⟩:=xbm q
 cases x with
 | true=>exact aw5 (be6 (ha ρ _ e1) (hb ρ c (by simpa using q))) fun σ H Q ⟨H0,Hf,s,sl,k⟩=>⟨H0,Hf,s,sl,fun H1 Hf1 g1=>am8 ⟨H0,Hf1,g1.sub,sl.grow g1,fun H2 Hf2 g2=>k H2 Hf2 (g1.trans g2)⟩⟩
 | false =>
  have:c=false:=by simpa using q.symm
  subst this
  exact aw5 (be6 (tB':=fun _ _ _=>False) (ha ρ _ e1) (fun _ _ _ _ _ _ _ h=>h.elim)) fun σ H Q ⟨H0,Hf,s,sl,k⟩=>⟨H0,Hf,s,sl,fun H1 Hf1 g1=>am9 (k H1 Hf1 g1)⟩
theorem ce0{a b:Expr}{F5:List Expr}{f g:Rho->Option Bool}{pos:Pos}(ha:JT X a f) (hb:JW X (.BoolOp .Or (b::F5) pos) g):JW X (.BoolOp .Or (a::b::F5) pos) (F8 f g):=fun ρ c q=>by
 obtain⟨x,e1,q⟩:=xbm q
 cases x with
 | false=>exact aw5 (bE0 (ha ρ _ e1) (hb ρ c (by simpa using q))) fun σ H Q ⟨H0,Hf,s,sl,k⟩=>⟨H0,Hf,s,sl,fun H1 Hf1 g1=>am9 ⟨H0,Hf1,g1.sub,sl.grow g1,fun H2 Hf2 g2=>k H2 Hf2 (g1.trans g2)⟩⟩
 | true =>
  have:c=true:=by simpa using q.symm
  subst this
  exact aw5 (bE0 (tB':=fun _ _ _=>False) (ha ρ _ e1) (fun _ _ _ _ _ _ _ h=>h.elim)) fun σ H Q ⟨H0,Hf,s,sl,k⟩=>⟨H0,Hf,s,sl,fun H1 Hf1 g1=>am8 (k H1 Hf1 g1)⟩
theorem bP6{a:Expr}{f:Rho->Option Bool}{pos:Pos}(ha:JT X a f):JT X (.UnaryOp .Not a pos) (M7 f):=fun ρ c q=>by
 obtain⟨x,e1,e2⟩:=xmo q
 subst e2
 exact aw6 (bJ9 (ha ρ x e1)) fun σ H Q ⟨H0,Hf,s,sl,k⟩=>⟨H0,Hf,s,sl,fun H1 Hf1 g1=>k H1 Hf1 g1⟩
noncomputable def v8(t:Rho->Option Bool) (f g:DE):DE:=fun ρ=>(t ρ).bind fun c=>if c then f ρ else g ρ
theorem bS5{c a b:Expr}{t:Rho->Option Bool}{f g:DE}{pos:Pos}(hc:JT X c t) (ha:JE X a f) (hb:JE X b g):JE X (.IfExp c a b pos) (v8 t f g):=fun ρ d q=>by
 obtain⟨x,e1,q⟩:=xbm q
 cases x with
 | true=>exact B4 (aB9 (tb:=fun _ _ _=>False) (hc ρ _ e1) (ha ρ d (by simpa using q)) (fun _ _ _ _ _ _ h=>h.elim)) fun σ H Q ⟨H0,Hf,s,sl,k⟩=>⟨H0,Hf,s,sl,fun H1 Hf1 g1=>am8 ⟨H0,Hf1,g1.sub,sl.grow g1,fun u H2 Hf2 g2 r2=>k u H2 Hf2 (g1.trans g2) r2⟩⟩
 | false=>exact B4 (aB9 (ta:=fun _ _ _=>False) (hc ρ _ e1) (fun _ _ _ _ _ _ h=>h.elim) (hb ρ d (by simpa using q))) fun σ H Q ⟨H0,Hf,s,sl,k⟩=>⟨H0,Hf,s,sl,fun H1 Hf1 g1=>am9 ⟨H0,Hf1,g1.sub,sl.grow g1,fun u H2 Hf2 g2 r2=>k u H2 Hf2 (g1.trans g2) r2⟩⟩
noncomputable def dIx(f:Rho->Option (Bool×List D)) (g:DE):DE:=fun ρ=>(f ρ).bind fun q=>(g ρ).bind fun i=>match i with
 | .int i=>atI q.2 i
 | _=>none
theorem bs6{K:PySem.W.Frag}{H:Hp}{ds:List D}{vs:List V}{i:Int}{d:D}(h:Reps K H ds vs) (e:atI ds i=some d):∃v,atI vs i=some v/\Rep K H d v:=by
 unfold atI at e ⊢
 rw[h.length]
 obtain⟨j,h1,h2⟩:=xbm e
 obtain⟨v,h3,h4⟩:=h.get h2
 exact⟨v,by rw[h1];exact h3,h4⟩
theorem ce5{a b:Expr}{f:Rho->Option (Bool×List D)}{g:DE}{pos:Pos}(ha:JQ X a f) (hb:JE X b g) (hs:ae4 b:=by intro _ _;rfl):JE X (.Subscript a b pos) (dIx f g):=fun ρ d q=>by
 obtain⟨⟨t,ds⟩,h1,q⟩:=xbm q
 obtain⟨y,h2,h3⟩:=xbm q
 split at h3
 ·refine B4 (bE4 bk9 (ha ρ t ds h1) (hb ρ _ h2) hs) fun σ H Q ⟨H0,Hf,s,sl,k⟩=>?_
  refine⟨H0,Hf,s,sl,fun v H1 Hf1 g1 ⟨p,vs,e1,e2,e3⟩=>⟨H0,Hf1,g1.sub,sl.grow g1,fun u H2 Hf2 g2 r2=>?_⟩⟩
  obtain⟨w,q1,q2⟩:=bs6 (e3.mono g2.ext) h3
  cases t with
  | true=>exact .inr (.inl ⟨p,vs,_,w,e1,r2,C8 g2.big e2,q1,k w H2 Hf2 (g1.trans g2) q2⟩)
  | false=>exact .inl ⟨p,vs,_,w,e1,r2,F2 g2.big e2,q1,k w H2 Hf2 (g1.trans g2) q2⟩
 ·cases h3
noncomputable def O9(xs:List D) (lo hi:Option Int):List D:=(xs.drop (HT.sIx xs.length 0 lo)).take (HT.sIx xs.length xs.length hi - HT.sIx xs.length 0 lo)
theorem al5{K:PySem.W.Frag}{H:Hp}{ds:List D}{vs:List V}(h:Reps K H ds vs) (lo hi:Option Int):Reps K H (O9 ds lo hi) (aF1 vs lo hi):=by
 unfold O9 aF1
 rw[h.length]
 exact(h.drop _).take _
noncomputable def JO(X:Cx) (e:Option Expr) (f:Rho->Option (Option Int)):Prop:=∀ρ o,f ρ=some o->PO X e (fun σ H Q=>∃H0 Hf,E2 Hf H/\Slots X.K H0 ρ σ H Hf/\∀H' Hf',Grow H Hf H' Hf'->Q o H')
noncomputable def C4:Rho->Option (Option Int):=fun _=>some none
noncomputable def n4:D->Option Int
 | .int i=>some i
 | _=>none
noncomputable def B5(f:DE):Rho->Option (Option Int):=fun ρ=>(f ρ).bind fun d=>(n4 d).map some
theorem bx9:JO X none C4:=fun ρ o q=>by
 cases q
 intro pins s σ H Q I ⟨H0,Hf,ss,sl,k⟩
 exact bt7 pins s σ H Q I (k H Hf (Grow.refl ss))
theorem bx8{e:Expr}{f:DE}(h:JE X e f):JO X (some e) (B5 f):=fun ρ o q=>by
 obtain⟨d,e1,e2⟩:=xbm q
 obtain⟨i,e3,e4⟩:=xmo e2
 subst e4
 cases d<;>simp[n4]at e3
 subst e3
 intro pins s σ H Q I ⟨H0,Hf,ss,sl,k⟩
 exact bt6 (h ρ _ e1) pins s σ H Q I ⟨H0,Hf,ss,sl,fun v H1 Hf1 g1 r1=>⟨_,r1,k H1 Hf1 g1⟩⟩
noncomputable def af5(f:DE) (lo hi:Rho->Option (Option Int)):DE:=fun ρ=>(f ρ).bind fun d=>(lo ρ).bind fun l=>(hi ρ).bind fun h=>match d with
 | .tuple xs=>some (.tuple (O9 xs l h))
 | _=>none
theorem v7{prog:Program}{w:World}{A:Around}{E:Value->Shared->Prop}{s:Shared}{t sl:Addr}{items:Array Value}{vl vu:Value}{lo hi:Option Int}{Q:Value->Shared->Prop}(ht:IsTup s.heap t items) (hs:s.heap.IsSliceOf sl vl vu .none) (pl:IsPart vl lo) (pu:IsPart vu hi)
  (hw:HT.sIx items.size 0 lo=0/\HT.sIx items.size items.size hi=items.size) (h:Q (.ref t) s):wpAny (model prog w) A (getItem (.ref t) (.ref sl)) Q E s:=by
 obtain⟨os,hos,hcs,hds⟩:=id hs
 have hTs:s.TypeIs (.ref sl) "slice" := ⟨os,hos,hcs⟩
 unfold getItem
 try with_reducible refine wpAny_holding ?_
 first|refine wpAny_bind (wpAny_pure ?_)|skip
 refine wpAny_bind (wpAny_sequenceKey ht.typeIs (by decide) ?_)
 refine wpAny_bind (wpAny_callSpecial?_slot (name:=Str.ofString "__getitem__") ht.typeIs PyProof.Rows.slot_tuple_getitem
  (wpAny_call_entry PyProof.Rows.slot_tuple_getitem ht.typeIs entry_tuple_getitem ?_ (args_tuple_getitem _ _)))
 show wpAny _ _ (Builtin.Tuple.tupleItemsOf (.ref t) >>= _) _ _ s
 refine wpAny_bind (tupleItemsOf_ ht ?_)
 refine wpAny_bind (wpAny_typeOf hTs ?_)
 rw[if_pos (by decide)]
 refine wpAny_bind (HT.sliceApplied_gen hs pl pu ?_)
 have hyes:((((HT.sIx items.size 0 lo:Nat):Int)==0&&(1:Int)==1&&(HT.sIx items.size items.size hi - HT.sIx items.size 0 lo)==items.size)=true):=by rw[hw.1,hw.2];simp
 show wpAny _ _ (if(((HT.sIx items.size 0 lo:Nat):Int)==0&&(1:Int)==1&&(HT.sIx items.size items.size hi - HT.sIx items.size 0 lo)==items.size)=true then _ else _) _ _ s
 rw[if_pos hyes]
 unfold Builtin.Tuple.tupleIsExact
 refine wpAny_bind (wpAny_bind (wpAny_typeOf ht.typeIs (wpAny_pure ?_)))
 rw[if_pos (by decide +kernel)]
 exact wpAny_bind (wpAny_rule (wpAny_pure ⟨_,rfl,wpAny_pure h⟩))
theorem av7:SlR X (fun x lo hi H Q=>∃a xs,x=.ref a/\SqT X.K H a xs/\(HT.sIx xs.length 0 lo=0/\HT.sIx xs.length xs.length hi=xs.length)/\Q (.ref a) H):=by
 intro pins s σ H x v vl vu lo hi sl Q I rx hs pl pu h
 obtain⟨a,xs,rfl,hx,hw,q⟩:=h
 cases rx
 obtain⟨its,r,ht,hz⟩:=I.tuple hx
 have hlen:its.toArray.size=xs.length:=by rw[List.size_toArray];exact r.length.symm
 refine⟨"tuple", _,PyProof.Rows.slot_tuple_getitem.lookup,ht.typeIs,?_⟩
 exact v7 ht hs pl pu (by rw[hlen];exact hw) ⟨.ref a,H,I,rfl,q⟩
theorem bk1{a:Expr}{lo hi:Option Expr}{f:DE}{l h:Rho->Option (Option Int)}{pos p2:Pos}(ha:JE X a f) (hl:JO X lo l) (hh:JO X hi h):JE X (.Subscript a (.Slice lo hi none p2) pos) (af5 f l h):=fun ρ d q=>by
 obtain⟨x,e1,q⟩:=xbm q
 obtain⟨y,e2,q⟩:=xbm q
 obtain⟨z,e3,q⟩:=xbm q
 cases x with
 | tuple xs =>
  cases q
  refine B4 (ac8 (bJ3.or av7) (ha ρ _ e1) (hl ρ y e2) (hh ρ z e3)) fun σ H Q ⟨H0,Hf,s,sl,k⟩=>?_
  refine⟨H0,Hf,s,sl,fun v H1 Hf1 g1 ⟨p,vs,q1,q2,q3⟩=>⟨H0,Hf1,g1.sub,sl.grow g1,fun H2 Hf2 g2=>⟨H0,Hf2,g2.sub,sl.grow (g1.trans g2),fun H3 Hf3 g3=>?_⟩⟩⟩
  subst q1
  have q2':=C8 (g2.trans g3).ext q2
  have q3':=q3.mono (g2.trans g3).ext
  by_cases c:HT.sIx vs.length 0 y=0/\HT.sIx vs.length vs.length z=vs.length
  ·refine .inr ⟨p,vs,rfl,C8 g3.sub q2',c,k _ H3 Hf3 ((g1.trans g2).trans g3) ⟨p,vs,rfl,q2',?_⟩⟩
   have:O9 xs y z=xs:=by
    unfold O9
    rw[← q3.length,c.1,c.2]
    simp[q3.length]
   rw[this];exact q3'
  ·refine .inl ⟨p,vs,rfl,C8 g3.sub q2',c,fun p' hp=>?_⟩
   exact k _ _ _ (((g1.trans g2).trans g3).trans (Grow.laid g3.sub hp)) ⟨p',_,rfl,SqT.of C1,(al5 q3' y z).mono (D7 (g3.sub.free hp))⟩
 | _=>cases q
end
section
variable {X:Cx}
theorem bW0:bootBuiltins "len" = some (.builtin "len"):=PySem.boot_len
theorem bW2:bootBuiltins "all" = some (.builtin "all"):=by decide +kernel
theorem bW1:bootBuiltins "isinstance" = some (.builtin "isinstance"):=by decide +kernel
theorem aL2:bootBuiltins "int" = some (.type "int"):=by decide +kernel
theorem bC3:bootBuiltins "bool" = some (.type "bool"):=by decide +kernel
theorem bV9:bootBuiltins "str" = some (.type "str"):=by decide +kernel
theorem aS7:bootBuiltins "list" = some (.type "list"):=by decide +kernel
theorem aF5:bootBuiltins "tuple" = some (.type "tuple"):=by decide +kernel
noncomputable def L9(f:Rho->Option (Bool×List D)):DE:=fun ρ=>(f ρ).map fun q=>.int q.2.length
theorem bk3{e:Expr}{f:Rho->Option (Bool×List D)}{p pos:Pos}(hg:Gl X "len") (hm:X.mg "len" = none) (h:JQ X e f) (he:starEach [e] X.env=[(false,eval e X.env)]:=by rfl):JE X (.Call (.Name "len" p) [e] [] pos) (L9 f):=fun ρ d q=>by
 obtain⟨⟨t,ds⟩,h1,h2⟩:=xmo q
 subst h2
 refine B4 (L6 az7 hg hm bW0 (D9 (h ρ t ds h1) G8 he) (he:=he)) fun σ H Q ⟨H0,Hf,s,sl,k⟩=>?_
 refine⟨H0,Hf,s,sl,fun v H1 Hf1 g1 ⟨a,vs,e1,e2,e3⟩=>⟨a,vs,by rw[e1],?_,?_⟩⟩
 ·cases t with
  | true=>exact .inr e2
  | false=>exact .inl e2
 ·exact k _ H1 Hf1 g1 (by rw[e3.length];rfl)
theorem bk0{e:Expr}{f:Rho->Option (Bool×List D)}{p pos:Pos}(hg:Gl X "tuple") (hm:X.mg "tuple" = none) (h:JQ X e f) (hz:∀ρ ds,f ρ≠some (true,ds)\/True:=by intros;exact .inr trivial) (he:starEach [e] X.env=[(false,eval e X.env)]:=by rfl) :
  JE X (.Call (.Name "tuple" p) [e] [] pos) (fun ρ=>(f ρ).bind fun q=>if q.1=true then none else some (.tuple q.2)):=fun ρ d q=>by
 obtain⟨⟨t,ds⟩,h1,h2⟩:=xbm q
 cases t with
 | true=>simp at h2
 | false =>
  simp only[Bool.false_eq_true,if_false,Option.some.injEq]at h2
  subst h2
  refine B4 (V9 aq6 hg hm aF5 (D9 (h ρ false ds h1) G8 he) (he:=he)) fun σ H Q ⟨H0,Hf,s,sl,k⟩=>?_
  refine⟨H0,Hf,s,sl,fun v H1 Hf1 g1 ⟨a,vs,e1,e2,e3⟩=>⟨a,vs,by rw[e1],.inl ⟨e2,fun l hl=>?_⟩⟩⟩
  exact k _ _ _ (g1.trans (Grow.laid g1.sub hl)) ⟨l,vs,rfl,SqT.of C1,e3.mono (D7 (g1.sub.free hl))⟩
theorem by0{e:Expr}{f:Rho->Option (Bool×List D)}{p pos:Pos}(hg:Gl X "list") (hm:X.mg "list" = none) (h:JQ X e f) (he:starEach [e] X.env=[(false,eval e X.env)]:=by rfl):JN X (.Call (.Name "list" p) [e] [] pos) (fun ρ=>(f ρ).map fun q=>q.2):=fun ρ ds' q=>by
 obtain⟨⟨t,ds⟩,h1,h2⟩:=xmo q
 subst h2
 refine B4 (V9 az6 hg hm aS7 (D9 (h ρ t ds h1) G8 he) (he:=he)) fun σ H Q ⟨H0,Hf,s,sl,k⟩=>?_
 refine⟨H0,Hf,s,sl,fun v H1 Hf1 g1 ⟨a,vs,e1,e2,e3⟩=>⟨a,vs,by rw[e1],?_,fun l hl=>?_⟩⟩
 ·cases t with
  | true=>exact .inr e2
  | false=>exact .inl e2
 ·exact k _ _ _ (g1.trans (Grow.made g1.sub hl)) ⟨l,vs,rfl,g1.big.free hl,C1,g1.sub.free hl,e3⟩
noncomputable def v9(f:DE):DE:=fun ρ=>(f ρ).bind fun d=>match d with
 | .int i=>some (.int i)
 | .bool b=>some (.int (if b then 1 else 0))
 | _=>none
theorem bk4{e:Expr}{f:DE}{p pos:Pos}(hg:Gl X "int") (hm:X.mg "int" = none) (h:JE X e f) (he:starEach [e] X.env=[(false,eval e X.env)]:=by rfl):JE X (.Call (.Name "int" p) [e] [] pos) (v9 f):=fun ρ d q=>by
 obtain⟨x,h1,h2⟩:=xbm q
 split at h2
 ·cases h2
  exact B4 (V9 at9 hg hm aL2 (D9 (h ρ _ h1) G8 he) (he:=he)) fun σ H Q ⟨H0,Hf,s,sl,k⟩ =>⟨H0,Hf,s,sl,fun v H1 Hf1 g1 r=>.inl ⟨_,by rw[show v=_ from r],k _ H1 Hf1 g1 rfl⟩⟩
 ·cases h2
  exact B4 (V9 at9 hg hm aL2 (D9 (h ρ _ h1) G8 he) (he:=he)) fun σ H Q ⟨H0,Hf,s,sl,k⟩ =>⟨H0,Hf,s,sl,fun v H1 Hf1 g1 r=>.inr ⟨_,by rw[show v=_ from r],k _ H1 Hf1 g1 rfl⟩⟩
 ·cases h2
noncomputable def bW6:List D->Option Bool
 | []=>some true
 | .bool b::r=>(bW6 r).map fun c=>b&&c
 | _::_=>none
theorem aF8:∀{ds:List D}{c:Bool},bW6 ds=some c->∃bs:List Bool,ds=bs.map PyData.bool/\c=bs.all id
 | [],c,h=>by cases h;exact⟨[],rfl,rfl⟩
 | .bool b::r,c,h=>by
  obtain⟨c',h1,h2⟩:=xmo h
  obtain⟨bs,h3,h4⟩:=aF8 h1
  exact⟨b::bs,by simp[h3],by simp[← h2,h4]⟩
theorem y6{K:PySem.W.Frag}{H:Hp}:∀{bs:List Bool}{vs:List V},Reps K H (bs.map PyData.bool) vs->vs=bs.map V.bl
 | [],_,h=>h
 | _::_,_,⟨v,r,h1,h2,h3⟩=>by subst h1;rw[show v=_ from h2,y6 h3];rfl
theorem aZ7:R3 X (.builtin "all") (fun xs H Q=>X.calm=true/\∃(p:Addr) (bs:List Bool),xs=[.ref p]/\SqL X.K H p (bs.map V.bl)/\Q (.bl (bs.all id)) H):=by
 intro pins s σ H xs us Q I r h
 obtain⟨hc,p,bs,rfl,hq,q⟩:=h
 obtain⟨u,rfl,rx⟩:=T6 r
 cases rx
 obtain⟨its,rv,pl,hz⟩:=I.list hq
 have hlen:=rv.length
 have hh:X.A.in1.handled=none:=I.ok.hd hc
 have hlt:p < s.heap.objs.size:=by obtain⟨_,e,_⟩:=pl.isList;exact Heap.lt_size e
 refine call_all_walk (wpAny_pyIter_list pl.isList ?_)
 refine⟨s.heap.objs.size,_,_,_,_,_,fun i=>(bs[i]?).getD false,rfl,Walks.list hh _ p (Nat.ne_of_lt hlt) its.toArray,⟨⟨_,Heap.get?_push_size _ rfl,rfl,rfl⟩,pl.isList.at fun o e=>Heap.get?_push_of_some _ e⟩,?_,?_⟩
 ·intro i v s' Q' E' hv hQ
  have hv':its[i]? = some v:=by simpa using hv
  have:∃b,bs[i]? = some b:=by
   have:i < its.length:=(List.getElem?_eq_some_iff.mp hv').1
   have:i < bs.length:=by simpa using (by omega:i < (bs.map V.bl).length)
   exact⟨bs[i],by simp[this]⟩
  obtain⟨b,hb⟩:=this
  obtain⟨u,hu,ru⟩:=rv.get (i:=i) (x:=.bl b) (by simp[hb])
  rw[hv']at hu;cases hu
  cases ru
  exact wpAny_truthy_bool (by simpa [hb] using hQ)
 ·intro h' tk hk
  have e:((List.range its.toArray.size).all fun i=>(bs[i]?).getD false)=bs.all id:=by
   have hn:its.toArray.size=bs.length:=by simpa using hlen.symm
   rw[hn,Bool.eq_iff_iff]
   simp only[List.all_eq_true,List.mem_range,id]
   constructor
   ·intro h x hx
    obtain⟨i,hi,rfl⟩:=List.mem_iff_getElem.mp hx
    simpa [hi] using h i hi
   ·intro h i hi
    simpa [hi] using h bs[i] (List.getElem_mem hi)
  rw[e]
  have I1:Inv X pins σ H { s with heap:=h',toks:=tk }:=by
   have I0:Inv X pins σ H { s with heap:=s.heap.push { cls:=.type "list_iterator", data:=.fields #[.ref p,rawInt 0] } }:=I.kept (t':=s.toks) fun b o e=>Heap.get?_push_of_some _ e
   refine I.kept (t':=tk) fun b o e=>hk b o ?_ (Heap.get?_push_of_some _ e)
   intro hb
   have:b=s.heap.objs.size:=by simpa using hb
   subst this
   exact absurd (Heap.lt_size e) (Nat.lt_irrefl _)
  exact⟨.bl (bs.all id),H,I1,rfl,q⟩
noncomputable def ad8(f:Rho->Option (Bool×List D)):DE:=fun ρ=>(f ρ).bind fun q=>if q.1=true then none else(bW6 q.2).map PyData.bool
theorem bT0{e:Expr}{f:Rho->Option (Bool×List D)}{p pos:Pos}(hg:Gl X "all") (hm:X.mg "all" = none) (h:JQ X e f) (hc:X.calm=true:=by rfl) (he:starEach [e] X.env=[(false,eval e X.env)]:=by rfl):JE X (.Call (.Name "all" p) [e] [] pos) (ad8 f):=fun ρ d q=>by
 obtain⟨⟨t,ds⟩,h1,h2⟩:=xbm q
 cases t with
 | true=>simp at h2
 | false =>
  simp only[Bool.false_eq_true,if_false]at h2
  obtain⟨c,h3,h4⟩:=xmo h2
  subst h4
  obtain⟨bs,h5,h6⟩:=aF8 h3
  subst h5 h6
  refine B4 (L6 aZ7 hg hm bW2 (D9 (h ρ false _ h1) G8 he) (he:=he)) fun σ H Q ⟨H0,Hf,s,sl,k⟩=>?_
  refine⟨H0,Hf,s,sl,fun v H1 Hf1 g1 ⟨a,vs,e1,e2,e3⟩=>⟨hc,a,bs,by rw[e1],?_,k _ H1 Hf1 g1 rfl⟩⟩
  rw[y6 e3]at e2
  exact e2
noncomputable def an0(T:String) (d:D):Option Bool:=match d with
 | .int _=>(match T with | "int" => some true | "bool" => some false | "str" => some false | "tuple" => some false | "list" => some false|_=>none)
 | .bool _=>(match T with | "int" => some true | "bool" => some true | "str" => some false | "tuple" => some false | "list" => some false|_=>none)
 | .none=>(match T with | "int" => some false | "bool" => some false | "str" => some false | "tuple" => some false | "list" => some false|_=>none)
 | .str _=>(match T with | "int" => some false | "bool" => some false | "str" => some true | "tuple" => some false | "list" => some false|_=>none)
 | .tuple _=>(match T with | "int" => some false | "bool" => some false | "str" => some false | "tuple" => some true | "list" => some false|_=>none)
 | .list _=>(match T with | "int" => some false | "bool" => some false | "str" => some false | "tuple" => some false | "list" => some true|_=>none)
 | _=>none
noncomputable def tyD:D->String
 | .int _ => "int"
 | .bool _ => "bool"
 | .none => "NoneType"
 | .str _ => "str"
 | .tuple _ => "tuple"
 | .list _ => "list"
 | .dict _ => "dict"
theorem bz9{K:PySem.W.Frag}{T:String}{d:D}{b:Bool}(h:an0 T d=some b):PySem.W.kitOne K (.type (tyD d)) (.type T)=some b:=by
 unfold an0 at h
 cases d<;>first
  | (dsimp only at h;split at h<;>first
   | (cases h;rfl)
   | cases h)
  | cases h
theorem bp7{T:String}:R3 X (.builtin "isinstance") (fun xs H Q=>∃d x b,xs=[x,.ty T]/\Rep X.K H d x/\an0 T d=some b/\Q (.bl b) H):=by
 intro pins s σ H xs us Q I r h
 obtain⟨d,x,b,rfl,hd,hb,q⟩:=h
 obtain⟨u,c,rfl,rx,rc⟩:=bd0 r
 cases rc
 have e:=bz9 (K:=X.K) hb
 have fin:∀tk,EP X pins σ Q (.bool b) { s with toks:=tk }:=fun tk=>⟨.bl b,H,I.tok tk,rfl,q⟩
 cases d with
 | none=>cases hd;cases rx;exact PySem.W.kia_one PySem.W.kitx_none I.kIn True.intro e (fun z=>nomatch z) fin
 | bool y=>cases hd;cases rx;exact PySem.W.kia_one PySem.W.kitx_bool I.kIn True.intro e (fun z=>nomatch z) fin
 | int i=>cases hd;obtain⟨t,rfl⟩:=rx;exact PySem.W.kia_one PySem.W.kitx_int I.kIn True.intro e (fun z=>nomatch z) fin
 | str i=>cases hd;obtain⟨t,rfl⟩:=rx;exact PySem.W.kia_one PySem.W.kitx_str I.kIn True.intro e (fun z=>nomatch z) fin
 | tuple ds =>
  obtain⟨a,vs,rfl,h2,h3⟩:=hd
  cases rx
  obtain⟨its,rv,⟨o,ho,hc,_⟩,_⟩:=I.tuple h2
  exact PySem.W.kia_one PySem.W.kitx_tuple I.kIn ⟨o,ho,hc⟩ e (fun z=>nomatch z) fin
 | list ds =>
  obtain⟨a,vs,rfl,h2,h3⟩:=hd
  cases rx
  obtain⟨its,rv,pl,_⟩:=I.list h2
  obtain⟨o,ho,hc,_⟩:=pl.isList
  exact PySem.W.kia_one PySem.W.kitx_list I.kIn ⟨o,ho,hc⟩ e (fun z=>nomatch z) fin
 | dict ds=>simp[an0]at hb
noncomputable def Y1(T:String) (f:DE):DE:=fun ρ=>(f ρ).bind fun d=>(an0 T d).map PyData.bool
theorem bS4{e:Expr}{f:DE}{x:Str}{T:String}{p p2 pos:Pos}(hg:Gl X "isinstance") (hm:X.mg "isinstance" = none) (hgT:Gl X x) (hmT:X.mg x=none) (hvT:bootBuiltins x=some (.type T)) (h:JE X e f)
  (hn:x ≠ "__name__" := by decide) (hd:(x==("__debug__" : Str))=false:=by decide)
  (he:starEach [e,.Name x p2] X.env=(false,eval e X.env)::starEach [.Name x p2] X.env:=by rfl) (he2:starEach [.Name x p2] X.env=[(false,eval (.Name x p2) X.env)]:=by rfl) (hpl:(backTo pos (starEach [.Name x p2] X.env)).any (·.1)=false:=by rfl) :
  JE X (.Call (.Name "isinstance" p) [e,.Name x p2] [] pos) (Y1 T f):=fun ρ d q=>by
 obtain⟨y,h1,h2⟩:=xbm q
 obtain⟨b,h3,h4⟩:=xmo h2
 subst h4
 refine B4 (L6 (bp7 (T:=T)) hg hm bW1 (D9 (h ρ y h1) (D9 (bu6 (v:=.ty T) hgT hmT hvT rfl hn hd) G8 he2) he) (he:=he) (hpl:=hpl)) fun σ H Q ⟨H0,Hf,s,sl,k⟩=>?_
 exact⟨H0,Hf,s,sl,fun v H1 Hf1 g1 r=>⟨y,v,b,rfl,r.mono g1.sub,h3,k _ H1 Hf1 g1 rfl⟩⟩
noncomputable def spF(K:PySem.W.Frag) (n:Nat) (F:List D->Option D):Sp:=fun vs H Q _=>vs.length=n/\∃Hf ds d,E2 Hf H/\Reps K Hf ds vs/\F ds=some d/\∀v H' Hf',Grow H Hf H' Hf'->Rep K Hf' d v->Q v H'
noncomputable def A3(F:List D->Option D) (f:Rho->Option (List D)):DE:=fun ρ=>(f ρ).bind F
theorem bz5{k:Nat}{f:Addr}{fd:FuncData}{ps:List Str}{n:Nat}{F:List D->Option D}{x:Str}{e:Expr}{es:List Expr}{g:Rho->Option (List D)}{p pos:Pos}(Fk:FnOk X.prog X.w X.K X.mg X.base CX0 k f fd ps (spF X.K n F)) (hr:Room k X.A) (hg:Gl X x) (hm:X.mg x=some (.ref f)) (hk:PySem.W.keepIn X.K (.ref f)=true) (hb:o9 X.K fd ps [])
  (ha:JA X (e::es) g) (hn:(e::es).length=n:=by rfl) (hdb:(x==("__debug__" : Str))=false:=by decide) (he:starEach (e::es) X.env=(false,eval e X.env)::starEach es X.env:=by rfl) (hpl:(backTo pos (starEach es X.env)).any (·.1)=false:=by rfl) :
  JE X (.Call (.Name x p) (e::es) [] pos) (A3 F g):=fun ρ d q=>by
 obtain⟨ds,h1,h2⟩:=xbm q
 refine B4 (bu5 Fk hr hg hm hk hb .nil bE5 (fun pos pins s σ H Q I t=>ha.run ρ ds h1 pos pins s σ H Q I t) hdb he hpl) fun σ H Q ⟨H0,Hf,s,sl,kk⟩=>?_
 refine⟨H0,Hf,s,sl,fun vs H1 Hf1 g1 r1=>⟨?_,Hf1,ds,d,g1.sub,by rw[List.append_nil];exact r1,h2,fun v H2 Hf2 g2 r2=>kk v H2 Hf2 (g1.trans g2) r2⟩⟩
 rw[List.append_nil,r1.length,ha.len ρ ds h1,hn]
inductive Fl where
 | nx (ρ:Rho)
 | rt (d:D)
 | bk (ρ:Rho)
 | ct (ρ:Rho)
noncomputable abbrev DS:=Rho->Option Fl
structure At (K:PySem.W.Frag) (H0 Hf0:Hp) (ρ:Rho) (σ:L2.St) (H Hf:Hp):Prop where
 gr:Grow H0 Hf0 H Hf
 sl:Slots K H0 ρ σ H Hf
noncomputable def Fl.ends(K:PySem.W.Frag) (H0 Hf0 Hf:Hp) (En:Ends):Fl->Prop
 | .nx ρ=>∀σ' H' Hf',At K H0 Hf0 ρ σ' H' Hf'->E2 Hf Hf'->En.nx σ' H'
 | .bk ρ=>∀σ' H' Hf',At K H0 Hf0 ρ σ' H' Hf'->E2 Hf Hf'->En.bk σ' H'
 | .ct ρ=>∀σ' H' Hf',At K H0 Hf0 ρ σ' H' Hf'->E2 Hf Hf'->En.ct σ' H'
 | .rt d=>∀v H' Hf',Grow H0 Hf0 H' Hf'->Rep K Hf' d v->En.rt v H'
noncomputable def tJS(K:PySem.W.Frag) (H0 Hf0:Hp) (ρ:Rho) (fl:Fl):TS:=fun En σ H=>∃Hf,At K H0 Hf0 ρ σ H Hf/\fl.ends K H0 Hf0 Hf En
noncomputable def JS(X:Cx) (st:Stmt) (f:DS):Prop:=∀ρ fl,f ρ=some fl->∀H0 Hf0,PS X st (tJS X.K H0 Hf0 ρ fl)
noncomputable def JSs(X:Cx) (sts:List Stmt) (f:DS):Prop:=∀ρ fl,f ρ=some fl->∀H0 Hf0,PSs X sts (tJS X.K H0 Hf0 ρ fl)
theorem K8{st:Stmt}{t t':TS}(h:PS X st t) (i:∀En σ H,t' En σ H->t En σ H):PS X st t':=fun pins s σ H En I q=>h pins s σ H En I (i En σ H q)
theorem ac6{st:List Stmt}{t t':TS}(h:PSs X st t) (i:∀En σ H,t' En σ H->t En σ H):PSs X st t':=fun pins s σ H En I q=>h pins s σ H En I (i En σ H q)
theorem At.grow{K:PySem.W.Frag}{H0 Hf0 H Hf H' Hf':Hp}{ρ:Rho}{σ:L2.St}(a:At K H0 Hf0 ρ σ H Hf) (g:Grow H Hf H' Hf'):At K H0 Hf0 ρ σ H' Hf':=⟨a.gr.trans g,a.sl.grow g⟩
theorem Fl.ends_mono{K:PySem.W.Frag}{H0 Hf0 Hf Hf':Hp}{En:Ends}{fl:Fl}(h:fl.ends K H0 Hf0 Hf En) (e:E2 Hf Hf'):fl.ends K H0 Hf0 Hf' En:=by
 cases fl with
 | nx ρ=>exact fun σ' H' Hf'' a s=>h σ' H' Hf'' a (e.trans s)
 | bk ρ=>exact fun σ' H' Hf'' a s=>h σ' H' Hf'' a (e.trans s)
 | ct ρ=>exact fun σ' H' Hf'' a s=>h σ' H' Hf'' a (e.trans s)
 | rt d=>exact h
noncomputable def C5:DS:=fun ρ=>some (.nx ρ)
noncomputable def A8(f g:DS):DS:=fun ρ=>(f ρ).bind fun fl=>match fl with
 | .nx ρ'=>g ρ'
 | fl=>some fl
theorem bx2:JSs X [] C5:=fun ρ fl q H0 Hf0=>by
 cases q
 exact ac6 bt3 fun En σ H ⟨Hf,a,e⟩=>e σ H Hf a (E2.refl _)
theorem bj2{st:Stmt}{sts:List Stmt}{f g:DS}(h1:JS X st f) (h2:JSs X sts g):JSs X (st::sts) (A8 f g):=fun ρ fl q H0 Hf0=>by
 obtain⟨fl1,e1,q⟩:=xbm q
 cases fl1 with
 | nx ρ' =>refine ac6 (ac7 (h1 ρ _ e1 H0 Hf0) (h2 ρ' fl q H0 Hf0)) fun En σ H ⟨Hf,a,e⟩=>⟨Hf,a,fun σ' H' Hf' a' s'=>⟨Hf',a',Fl.ends_mono e s'⟩⟩
 | rt d=>cases q;exact ac6 (ac7 (h1 ρ _ e1 H0 Hf0) V8) fun En σ H ⟨Hf,a,e⟩=>⟨Hf,a,e⟩
 | bk ρ'=>cases q;exact ac6 (ac7 (h1 ρ _ e1 H0 Hf0) V8) fun En σ H ⟨Hf,a,e⟩=>⟨Hf,a,e⟩
 | ct ρ'=>cases q;exact ac6 (ac7 (h1 ρ _ e1 H0 Hf0) V8) fun En σ H ⟨Hf,a,e⟩=>⟨Hf,a,e⟩
theorem bx1{st:Stmt}{f:DS}(h1:JS X st f):JSs X [st] f:=fun ρ fl q H0 Hf0=>bt2 (h1 ρ fl q H0 Hf0)
noncomputable def B0(f:DE):DS:=fun ρ=>(f ρ).map Fl.rt
theorem bP9{e:Expr}{f:DE}{pos:Pos}(h:JE X e f):JS X (.Return (some e) pos) (B0 f):=fun ρ fl q H0 Hf0=>by
 obtain⟨d,e1,e2⟩:=xmo q
 subst e2
 exact K8 (bK1 (h ρ d e1)) fun En σ H ⟨Hf,a,e⟩=>⟨H0,Hf,a.gr.sub,a.sl,fun v H' Hf' g r=>e v H' Hf' (a.gr.trans g) r⟩
noncomputable def sIf(t:Rho->Option Bool) (f g:DS):DS:=fun ρ=>(t ρ).bind fun c=>if c then f ρ else g ρ
theorem ce2{c:Expr}{a b:List Stmt}{t:Rho->Option Bool}{f g:DS}{pos:Pos}(hc:JT X c t) (ha:JSs X a f) (hb:JSs X b g):JS X (.If c a b pos) (sIf t f g):=fun ρ fl q H0 Hf0=>by
 obtain⟨x,e1,q⟩:=xbm q
 cases x with
 | true =>refine K8 (bE1 (hc ρ _ e1) (ha ρ fl (by simpa using q) H0 Hf0) V8) fun En σ H ⟨Hf,a,e⟩=>⟨H0,Hf,a.gr.sub,a.sl,fun H' Hf' g=>am8 ⟨Hf',a.grow g,Fl.ends_mono e g.ext⟩⟩
 | false =>refine K8 (bE1 (hc ρ _ e1) V8 (hb ρ fl (by simpa using q) H0 Hf0)) fun En σ H ⟨Hf,a,e⟩=>⟨H0,Hf,a.gr.sub,a.sl,fun H' Hf' g=>am9 ⟨Hf',a.grow g,Fl.ends_mono e g.ext⟩⟩
theorem Slots.set{K:PySem.W.Frag}{H0 H Hf:Hp}{ρ:Rho}{σ:L2.St}{i:Nat}{d:D}{v:V}(s:Slots K H0 ρ σ H Hf) (r:Rep K Hf d v):Slots K H0 (ρ.set i (some (.val d))) (σ.set i (some v)) H Hf:=by
 refine⟨by simp[s.len],fun j b e=>?_,fun j k ds es a h1 h2 h3 h4=>?_⟩
 ·by_cases q:i=j
  ·subst q
   have hi:i < ρ.length:=by
    have:=(List.getElem?_eq_some_iff.mp e).1
    simpa using this
   have hi':i < σ.length:=by rw[← s.len];exact hi
   rw[List.getElem?_set_self hi]at e
   cases e
   exact⟨v,List.getElem?_set_self hi',r⟩
  ·rw[List.getElem?_set_ne q]at e
   obtain⟨u,h1,h2⟩:=s.is j b e
   exact⟨u,by rw[List.getElem?_set_ne q];exact h1,h2⟩
 ·have hj:i≠j:=by
   intro q;subst q
   have hi:i < ρ.length:=by
    have:=(List.getElem?_eq_some_iff.mp h1).1
    simpa using this
   rw[List.getElem?_set_self hi]at h1
   cases h1
  have hk:i≠k:=by
   intro q;subst q
   have hi:i < ρ.length:=by
    have:=(List.getElem?_eq_some_iff.mp h2).1
    simpa using this
   rw[List.getElem?_set_self hi]at h2
   cases h2
  rw[List.getElem?_set_ne hj]at h1 h3
  rw[List.getElem?_set_ne hk]at h2 h4
  exact s.apart j k ds es a h1 h2 h3 h4
noncomputable def B2(i:Nat) (f:DE):DS:=fun ρ=>(f ρ).map fun d=>.nx (ρ.set i (some (.val d)))
theorem bj4(i:Nat) {x:Str}{e:Expr}{f:DE}{pos pos':Pos}(hN:X.N.Nodup) (h:JE X e f) (hi:X.N[i]? = some x:=by rfl) (hx:Loc X.env.scope x:=by first|exact Or.inl rfl|exact Or.inr rfl)
  (hs:swapsWith e (some (.Name x pos')) pos.line X.env=pure false:=by rfl) (hf:X.fn x=true\/X.env.scope.names.lookup x=some .local:=by first|exact .inl rfl|exact .inr rfl):JS X (.Assign [.Name x pos'] e pos) (B2 i f):=fun ρ fl q H0 Hf0=>by
 obtain⟨d,e1,e2⟩:=xmo q
 subst e2
 exact K8 (be9 hN hi hx (h ρ d e1) hs hf) fun En σ H ⟨Hf,a,e⟩=>⟨H0,Hf,a.gr.sub,a.sl,fun v H' Hf' g r=>e _ H' Hf' ⟨a.gr.trans g,(a.sl.grow g).set r⟩ g.ext⟩
noncomputable def be0(i j:Nat) (f:Rho->Option (List D)):DS:=fun ρ=>(f ρ).bind fun ds=>match ds with
 | [a,b]=>some (.nx ((ρ.set i (some (.val a))).set j (some (.val b))))
 | _=>none
end
theorem aY9{prog:Program}{w:World}{A:Around}{R:Result->Shared->Prop}{s:Shared}{elt target iter:Expr}{ifs:List Expr}{scope:Scope}{pos:Pos}{it acc:Value}{env:Env}(I:Nat->Shared->Prop)
  (turn:∀n s,I n s->wpAny (model prog w) A (pyNext it) (fun r s1=>match r with
   | none=>R (.ok .next) s1
   | some v=>wpAny (model prog w) A (letOwnedTupleGo target it v) (fun _ s1'=>wpAny (model prog w) A (assign target env v) (fun _ s2 =>
     wpAny (model prog w) A (forIn ifs true fun c r=>if r=true then do let ok ← isTrue c env (eval c env);pure (ForInStep.yield ok) else pure (ForInStep.yield r)) (fun ok s3 =>
      if ok=true then wpAny (model prog w) A (eval elt env) (fun x s4 =>wpAny (model prog w) A (call (.builtin "list.append") [acc,x]) (fun _ s5=>∃m,m < n/\I m s5) (fun _ _=>False) s4) (fun _ _=>False) s3
      else ∃m,m < n/\I m s3) (fun _ _=>False) s2) (fun _ _=>False) s1') (fun _ _=>False) s1) (fun _ _=>False) s)
  (n:Nat) (h:I n s) :
  codeAny (model prog w) A (.compLoop (.ListComp elt [⟨target,iter,ifs,0⟩] scope pos) 0 it acc env) R s:=by
 refine codeAny_loop rfl I (fun n s hI=>?_) n h
 show wpAny _ A ((compTurn (.ListComp elt [⟨target,iter,ifs,0⟩] scope pos) 0 it acc env).onRaise (fun x=>do noteFrame x env;theTreesLotGoes x)) _ _ s
 refine wpAny_noted ?_
 rw[compTurn_list]
 refine wpAny_bind (wpAny_standAt (wpAny_bind (wpAny_mono (turn n s hI) (fun r s1 h1=>?_) fun _ _ h'=>h'.elim)))
 cases r with
 | none=>exact wpAny_pure h1
 | some v =>
  refine wpAny_bind (wpAny_mono h1 (fun _ s1' h1'=>?_) fun _ _ h'=>h'.elim)
  refine wpAny_bind (wpAny_mono h1' (fun _ s2 h2=>wpAny_bind (wpAny_mono h2 (fun ok s3 h3=>?_) fun _ _ h'=>h'.elim)) fun _ _ h'=>h'.elim)
  cases ok with
  | false=>exact wpAny_pure ⟨rfl,h3⟩
  | true =>exact wpAny_bind (wpAny_bind (wpAny_mono h3 (fun x s4 h4=>wpAny_bind (wpAny_mono h4 (fun _ s5 h5=>wpAny_pure (wpAny_pure ⟨rfl,h5⟩)) fun _ _ h'=>h'.elim)) fun _ _ h'=>h'.elim))
noncomputable def M6(cells:List (Str×Addr)):List (Str×NameKind)->List (Str×Addr)->List (Str×Addr)
 | [],cs=>cs
 | (n,k)::r,cs=>if(k==NameKind.free)=true then M6 cells r ((n,(cells.lookup n).getD 0)::cs) else M6 cells r cs
theorem ao0{env:Env}:∀(names:List (Str×NameKind)) (cs:List (Str×Addr)),(∀y∈names,y.2=.free->∃c,env.cells.lookup y.1=some c) ->
  (forIn names cs fun(x:Str×NameKind) (r:List (Str×Addr))=>if(x.2==NameKind.free)=true then do let a ← cellOf env x.1;pure (ForInStep.yield ((x.1,a)::r)) else pure (ForInStep.yield r):Sem (List (Str×Addr)))=pure (M6 env.cells names cs)
 | [],cs,_=>rfl
 | (n,k)::r,cs,h=>by
  rw[List.forIn_cons]
  have hr:∀y∈r,y.2=.free->∃c,env.cells.lookup y.1=some c:=fun y hy=>h y (xmm _ hy)
  by_cases hk:(k==NameKind.free)=true
  ·obtain⟨c,hc⟩:=h (n,k) List.mem_cons_self (by simpa using hk)
   have hc':env.cells.lookup n=some c:=hc
   simp only[hk,if_true]
   have e:cellOf env n=pure c:=by unfold cellOf;rw[hc']
   rw[e]
   show(forIn r ((n,c)::cs) _:Sem _)=_
   rw[ao0 r _ hr]
   simp only[M6,hk,if_true,hc',Option.getD_some]
  ·have hk':(k==NameKind.free)=false:=by simpa using hk
   simp only[hk',Bool.false_eq_true,if_false]
   show(forIn r cs _:Sem _)=_
   rw[ao0 r _ hr]
   simp only[M6,hk',Bool.false_eq_true,if_false]
theorem bB8{scope:Scope}{env:Env}(h:∀y∈scope.names,y.2=.free->∃c,env.cells.lookup y.1=some c):closureFor scope env=pure (M6 env.cells scope.names []):=by
 have:=ao0 (env:=env) scope.names [] h
 unfold closureFor
 exact congrArg (fun z=>z >>= fun cs=>pure cs) this
theorem ae0{cells:List (Str×Addr)}:∀{names:List (Str×NameKind)}{cs:List (Str×Addr)}{x:Str}{c:Addr},(x,c)∈M6 cells names cs->(x,c)∈cs\/((x,NameKind.free)∈names/\c=(cells.lookup x).getD 0)
 | [],cs,x,c,h=>.inl h
 | (n,k)::r,cs,x,c,h=>by
  unfold M6 at h
  split at h
  ·rename_i hk
   rcases ae0 h with q|⟨q1,q2⟩
   ·rcases List.mem_cons.mp q with q|q
    ·cases q
     have:k=.free:=by simpa using hk
     subst this
     exact .inr ⟨List.mem_cons_self,rfl⟩
    ·exact .inl q
   ·exact .inr ⟨xmm _ q1,q2⟩
  ·rcases ae0 h with q|⟨q1,q2⟩
   ·exact .inl q
   ·exact .inr ⟨xmm _ q1,q2⟩
theorem W3{cells:List (Str×Addr)}:∀{names:List (Str×NameKind)}{cs:List (Str×Addr)}{x:Str},((x,NameKind.free)∈names\/∃c,(x,c)∈cs)->∃c,(x,c)∈M6 cells names cs
 | [],cs,x,h=>by
  rcases h with h|h
  ·cases h
  ·exact h
 | (n,k)::r,cs,x,h=>by
  unfold M6
  rcases h with h|⟨c,h⟩
  ·rcases List.mem_cons.mp h with q|q
   ·cases q
    rw[if_pos (by rfl)]
    exact W3 (.inr ⟨_,List.mem_cons_self⟩)
   ·split
    ·exact W3 (.inl q)
    ·exact W3 (.inl q)
  ·split
   ·exact W3 (.inr ⟨c,xmm _ h⟩)
   ·exact W3 (.inr ⟨c,h⟩)
theorem aa6{l:List (Str×Addr)}{x:Str}{c:Addr}(h:(x,c)∈l):∃c',l.lookup x=some c':=by
 induction l with
 | nil=>cases h
 | cons p r ih =>
  obtain⟨n,a⟩:=p
  rw[List.lookup_cons]
  cases e:x==n with
  | true=>exact⟨a,rfl⟩
  | false =>
   rcases List.mem_cons.mp h with q|q
   ·cases q;simp at e
   ·exact ih q
theorem ac5{scope:Scope}{env:Env}{x:Str}{k:NameKind}:(relabel scope env).names.lookup x=some k->∃k0,scope.names.lookup x=some k0/\(k=k0\/k0=.free):=by
 unfold relabel
 simp only
 generalize scope.names=names
 induction names with
 | nil=>intro h;simp at h
 | cons p r ih =>
  obtain⟨n,k1⟩:=p
  intro h
  rw[List.map_cons]at h
  by_cases hc:(k1==NameKind.free&&env.scope.kind == .function&&env.kindOf n==some .cell)=true
  ·simp only[hc,if_true,List.lookup_cons]at h
   rw[List.lookup_cons]
   cases e:x==n with
   | true =>
    rw[e]at h
    rw[Bool.and_eq_true,Bool.and_eq_true]at hc
    exact⟨k1,rfl,.inr (by simpa using hc.1.1)⟩
   | false=>rw[e]at h;exact ih h
  ·have hc':(k1==NameKind.free&&env.scope.kind == .function&&env.kindOf n==some .cell)=false:=by simpa using hc
   simp only[hc',Bool.false_eq_true,if_false,List.lookup_cons]at h
   rw[List.lookup_cons]
   cases e:x==n with
   | true=>rw[e]at h;cases h;exact⟨_,rfl,.inl rfl⟩
   | false=>rw[e]at h;exact ih h
theorem aw4{scope:Scope}{env:Env}{x:Str}:scope.names.lookup x=some .free->(relabel scope env).names.lookup x=some .cell\/(relabel scope env).names.lookup x=some .free:=by
 unfold relabel
 simp only
 generalize scope.names=names
 induction names with
 | nil=>intro h;simp at h
 | cons p r ih =>
  obtain⟨n,k1⟩:=p
  intro h
  rw[List.lookup_cons]at h
  rw[List.map_cons]
  cases e:x==n with
  | true =>
   rw[e]at h
   cases h
   have en:x=n:=by simpa using e
   subst en
   by_cases hc:(NameKind.free==NameKind.free&&env.scope.kind == .function&&env.kindOf x==some .cell)=true
   ·simp only[hc,if_true,List.lookup_cons,e];exact .inl trivial
   ·have hc':(NameKind.free==NameKind.free&&env.scope.kind == .function&&env.kindOf x==some .cell)=false:=by simpa using hc
    simp only[hc',Bool.false_eq_true,if_false,List.lookup_cons,e];exact .inr trivial
  | false =>
   rw[e]at h
   by_cases hc:(k1==NameKind.free&&env.scope.kind == .function&&env.kindOf n==some .cell)=true
   ·simp only[hc,if_true,List.lookup_cons,e];exact ih h
   ·have hc':(k1==NameKind.free&&env.scope.kind == .function&&env.kindOf n==some .cell)=false:=by simpa using hc
    simp only[hc',Bool.false_eq_true,if_false,List.lookup_cons,e];exact ih h
noncomputable def E1(X:Cx) (N':List Str) (scope:Scope) (C:Addr) (s₀:Shared) (H₀:Hp) (ex:List Addr):Cx where
 prog:=X.prog
 w:=X.w
 K:=X.K
 mg:=X.mg
 base:=X.base
 A:=X.A
 N:=N'
 s₀:=s₀
 H₀:=H₀
 env:=compEnvC scope (M6 X.env.cells scope.names []) C X.env
 outer:=X.stack
 stack:=X.stack
 ex:=ex
 fn:=fun _=>false
 calm:=X.calm
 pn:=[]
 xe:=fun _ _=>False
structure CompSc (X:Cx) (N':List Str) (n:Nat) (caps:List Nat) (scope:Scope):Prop where
 kind:scope.kind=.function
 cell:∀y∈scope.names,y.2≠.cell
 loc:∀y∈scope.names,y.2=.local->scope.names.lookup y.1=some .local
 free:∀y∈scope.names,y.2=.free->X.env.scope.names.lookup y.1=some .cell\/X.env.scope.names.lookup y.1=some .free
 len:N'.length=n+caps.length
 cap:∀(i j:Nat),caps[i]? = some j->∃x,X.N[j]? = some x/\N'[n+i]? = some x/\scope.names.lookup x=some .free
section
variable {X:Cx}{N':List Str}{n:Nat}{caps:List Nat}{scope:Scope}
theorem N9{l:List (Str×NameKind)}{x:Str}{k:NameKind}(h:l.lookup x=some k):(x,k)∈l:=PySem.mem_of_lookup h
noncomputable def aq5(n:Nat) (caps:List Nat) (σ:L2.St):L2.St:=List.replicate n none++caps.map fun j=>(σ[j]?).join
theorem aK6{pins:List (Addr×Obj)}{σ:L2.St}{H:Hp}{s:Shared}{h1:Heap}{tk:Nat}{fp:List Addr}{m:Str->Option Value}(S:CompSc X N' n caps scope) (I:Inv X pins σ H s) (hf:∀b∈fp,ap4 X pins H b) (hlt:∀b∈fp,b < s.heap.objs.size)
  (hns:h1.Ns s.heap.objs.size m) (hk:∀b o,s.heap.get? b=some o->h1.get? b=some o) :
  Inv (E1 X N' scope s.heap.objs.size s H fp) [] (aq5 n caps σ) H { s with heap:=h1,toks:=tk }:=by
 have cl_of:∀x c,(M6 X.env.cells scope.names []).lookup x=some c->X.env.cells.lookup x=some c:=fun x c h=>by
  have hm:=PySem.mem_of_lookup h
  rcases ae0 hm with q|⟨q1,q2⟩
  ·cases q
  ·obtain⟨c',hc'⟩:=I.ok.has x (S.free _ q1 rfl)
   rw[hc']at q2
   rw[hc',q2];rfl
 have cl_has:∀x,(x,NameKind.free)∈scope.names->∃c,(M6 X.env.cells scope.names []).lookup x=some c:=fun x h=>by
  obtain⟨c,hc⟩:=W3 (cells:=X.env.cells) (cs:=[]) (.inl h)
  exact aa6 hc
 have kind_free:∀x,((relabel scope X.env).names.lookup x=some .cell\/(relabel scope X.env).names.lookup x=some .free)->(x,NameKind.free)∈scope.names:=fun x h=>by
  rcases h with h|h
  ·obtain⟨k0,e1,e2⟩:=ac5 h
   rcases e2 with e2|e2
   ·subst e2;exact absurd rfl (S.cell _ (N9 e1))
   ·subst e2;exact N9 e1
  ·obtain⟨k0,e1,e2⟩:=ac5 h
   rcases e2 with e2|e2
   ·subst e2;exact N9 e1
   ·subst e2;exact N9 e1
 have cell_lt:∀x c,X.env.cells.lookup x=some c->c < s.heap.objs.size:=fun x c e=>by
  obtain⟨v,q⟩:=I.cell x c e
  exact q.lt
 have ok:(E1 X N' scope s.heap.objs.size s H fp).Ok:=by
  refine⟨I.ok.mod,S.kind,I.ok.glob,I.ok.blt,Nat.le_refl _,fun x y c e1 e2=>I.ok.inj x y c (cl_of x c e1) (cl_of y c e2),fun x hx=>cl_has x (kind_free x hx),fun x c e _=>(Bool.false_ne_true e).elim,I.ok.hd,I.ok.frames,.inl rfl,fun b hb=>⟨Nat.ne_of_lt (hlt b hb),fun x c e=>(hf b hb).2.2.2.2.1 x c (cl_of x c e)⟩,
   I.bs,Nat.le_trans I.ok.bsz I.sz,fun b o e hb=>?_,fun b hb hb2=>?_,I.stack,I.stkFree⟩
  ·rcases(hf b hb).2.2.2.1 with z|z
   ·exact I.ok.noex b o e z
   ·exact absurd (Nat.lt_of_lt_of_le (Heap.lt_size e) (Nat.le_trans I.ok.bsz z)) (Nat.lt_irrefl _)
  ·rcases List.mem_cons.mp (I.stkSub b hb2) with z|z
   ·exact(hf b hb).2.1 z
   ·exact(hf b hb).2.2.1 z
 refine⟨ok,rfl,I.bare,Un.kept hk,⟨m,hns,fun i x v e1 e2 e3=>?_⟩,fun x c e=>?_,I.hok.fresh (Nat.le_refl _),fun x c e=>I.freeC x c (cl_of x c e),fun p hp=>absurd (show p∈([]:List (Addr×Obj)) from hp) (by simp),I.hok.kept hk,?_⟩
 ·have hi:n<=i:=by
   rcases Nat.lt_or_ge i n with h|h
   ·unfold aq5 at e2
    rw[List.getElem?_append_left (by simpa using h),List.getElem?_replicate,if_pos h]at e2
    cases e2
   ·exact h
  unfold aq5 at e2
  rw[List.getElem?_append_right (by simpa using hi),List.getElem?_map]at e2
  simp only[List.length_replicate]at e2
  cases hj:caps[i - n]? with
  | none=>rw[hj]at e2;cases e2
  | some j =>
   rw[hj]at e2
   have e2':(σ[j]?).join=some v:=by simpa using e2
   have e2'':σ[j]? = some (some v):=by
    cases q:σ[j]? with
    | none=>rw[q]at e2';cases e2'
    | some o=>rw[q]at e2';simp at e2';rw[e2']
   obtain⟨y,q1,q2,q3⟩:=S.cap _ _ hj
   have:y=x:=by
    have e1':N'[i]? = some x:=e1
    rw[show n+(i - n)=i by omega,e1']at q2
    cases q2;rfl
   subst this
   obtain⟨m0,hn0,hl0⟩:=I.loc
   have hv:Vis X.env.scope y:=by
    rcases S.free _ (N9 q3) rfl with z|z
    ·exact .inr (.inl z)
    ·exact .inr (.inr z)
   obtain⟨u,ru,lk⟩:=hl0 j y v q1 e2'' hv
   refine⟨u,ru,.inr ⟨aw4 q3,?_⟩⟩
   rcases lk with⟨lk,_⟩|⟨_,c,hc,hcell⟩
   ·rcases S.free _ (N9 q3) rfl with z|z
    ·have:X.env.scope.names.lookup y=some .local:=lk
     rw[z]at this;cases this
    ·have:X.env.scope.names.lookup y=some .local:=lk
     rw[z]at this;cases this
   ·obtain⟨c',hc'⟩:=cl_has y (N9 q3)
    have:=cl_of y c' hc'
    rw[hc]at this;cases this
    obtain⟨o,ho,hd⟩:=hcell
    exact⟨c,hc',o,hk c o ho,hd⟩
 ·obtain⟨v,o,ho,hd⟩:=I.cell x c (cl_of x c e)
  exact⟨v,o,hk c o ho,hd⟩
 ·show(aq5 n caps σ).length=N'.length
  unfold aq5
  rw[S.len];simp
theorem at6{pins:List (Addr×Obj)}{σ σ':L2.St}{H H':Hp}{s s':Shared}{h':Heap}{fp:List Addr}(I:Inv X pins σ H s) (hf:∀b∈fp,ap4 X pins H b)
  (I':Inv (E1 X N' scope s.heap.objs.size s H fp) [] σ' H' s') (sb:Heap.SameBut s.heap.objs.size s'.heap h'):Inv X pins σ H' { s' with heap:=h' }:=by
 have ne:∀b o,s.heap.get? b=some o->b≠s.heap.objs.size:=fun b o e=>Nat.ne_of_lt (Heap.lt_size e)
 refine I.call' (s':={ s' with heap:=h' }) (ch:=fp) I'.os ?_ ?_ I'.bare fun b hb=>⟨(hf b hb).2.2.2.1,(hf b hb).2.1,(hf b hb).2.2.2.2.1,(hf b hb).2.2.2.2.2⟩
 ·refine⟨fun b o e n hb hx=>sb.extBut b o (ne b o e) (I'.base.keep b o e n hb hx),fun b o e n hb hx=>?_,I'.base.free,fun b o e hx=>?_,I'.base.tups,I'.base.frzs,I'.base.tbls⟩
  ·obtain⟨sl,q⟩:=I'.base.slot b o e n hb hx
   exact⟨sl,sb.extBut b _ (ne b o e) q⟩
  ·obtain⟨o',q⟩:=I'.base.there b o e hx
   exact⟨o',sb.extBut b _ (ne b o e) q⟩
 ·intro b u e
  have nC:∀c v,H' c=some v->c≠s.heap.objs.size:=fun c v q z=>by
   have:=I'.free
   have z':H' c=none:=by rw[z];exact this
   rw[z']at q;cases q
  refine(I'.hok b u e).stay (fun c v hc q=>sb.extBut c v ?_ q) (fun _ q=>q) fun _ _ q=>q
  rcases hc with z|z
  ·rw[z];exact nC b u e
  ·exact nC c _ z
noncomputable def PTs(X:Cx) (ifs:List Expr) (t:TT):Prop :=
 ∀(pins:List (Addr×Obj)) (s:Shared) (σ:L2.St) (H:Hp) (Q:Bool->Hp->Prop),Inv X pins σ H s->t σ H Q ->
  wpAny (model X.prog X.w) X.A (forIn ifs true fun c r=>if r=true then do let ok ← isTrue c X.env (eval c X.env);pure (ForInStep.yield ok) else pure (ForInStep.yield r)) (TP X pins σ Q) X.xe s
theorem bt0:PTs X [] (fun _ H Q=>Q true H):=fun pins s σ H Q I h=>wpAny_tests_nil ⟨H,I,h⟩
theorem bs9{c:Expr}{t:TT}(h:PT X c t):PTs X [c] t:=fun pins s σ H Q I q=>wpAny_tests_one (h pins s σ H Q I q)
noncomputable def bd3(n:Nat) (caps:List Nat) (wi:TI) (g:TG) (tc:TT) (te:TE):TE:=fun σ H Q=>wi σ H fun J H1=>∀Dd,H1 Dd=none->∃W:Nat->Nat->List V->L2.St->Hp->Prop,
 (∃m,W 0 m [] (aq5 n caps σ) (upd H1 Dd (.lst []))) /\
 ∀i m ys σ' H',W i m ys σ' H' ->
  (J.stop i H'/\Q (.ref Dd) H') \/
  (J.go i H'/\∀x H2,J.yld i H' x H2->g x σ' H2 fun σ3 H3=>tc σ3 H3 fun b H4 =>
   if b=true then te σ3 H4 fun y H5=>H5 Dd=some (.lst ys)/\ys.length < sizeLine/\∃m',m' < m/\W (i+1) m' (ys++[y]) σ3 (upd H5 Dd (.lst (ys++[y])))
   else ∃m',m' < m/\W (i+1) m' ys σ3 H4)
theorem aF2{elt tgt iter:Expr}{ifs:List Expr}{pos:Pos}{wi:TI}{g:TG}{tc:TT}{te:TE}{RR:Value->Addr->Result->Shared->Prop}{E:Value->Shared->Prop}(S:CompSc X N' n caps scope) (hx:∀e s,X.xe e s->False) (hc:X.calm=true)
  (hi:PI X tgt iter wi) (hg:∀C s0 H0 ex,PG (E1 X N' scope C s0 H0 ex) tgt g) (ht:∀C s0 H0 ex,PTs (E1 X N' scope C s0 H0 ex) ifs tc) (he:∀C s0 H0 ex,PE (E1 X N' scope C s0 H0 ex) elt te)
  {pins:List (Addr×Obj)}{s:Shared}{σ:L2.St}{H:Hp}{Q:VK}(I:Inv X pins σ H s) (h:bd3 n caps wi g tc te σ H Q)
  (hRR:∀D C r s',r=.ok .next->(∃m,s'.heap.Ns C m/\∀h',Heap.SameBut C s'.heap h'->∃H',Inv X pins σ H' { s' with heap:=h' }/\Q (.ref D) H') ->
   (∃s2 fp σ' H2 H',s2.heap.objs.size=C/\Inv X pins σ H2 s2/\(∀b∈fp,ap4 X pins H2 b)/\Inv (E1 X N' scope s2.heap.objs.size s2 H2 fp) [] σ' H' s'/\Q (.ref D) H')->RR (.ref D) C r s') :
  wpAny (model X.prog X.w) X.A (eval iter X.env) (fun x s₁=>wpAny (model X.prog X.w) X.A (pyIter x) (fun it s₂=>wpAny (model X.prog X.w) X.A (newList []) (fun acc s₃ =>
   wpAny (model X.prog X.w) X.A (newFunctionEnv scope X.env.globals (M6 X.env.cells scope.names []) [] X.env.qual none .none (some X.env)) (fun cenv s₄ =>
    codeAny (model X.prog X.w) X.A (.compStart (.ListComp elt [⟨tgt,iter,ifs,0⟩] scope pos) 0 it acc { cenv with scope:=relabel scope X.env }) (RR acc cenv.locals) s₄) E s₃) E s₂) E s₁) E s:=by
 refine wpAny_mono (hi pins s σ H _ I h) (fun v s1 h1=>wpAny_mono h1 (fun itv s2 h2=>?_) fun _ _ z=>(hx _ _ z).elim) fun _ _ z=>(hx _ _ z).elim
 obtain⟨it,fp,tn,J,H2,e,I2,T,st2,f2,R⟩:=h2
 subst e
 refine wpAny_newObj_type (wpAny_newFunctionEnv S.cell (by intro y hy;simp at hy) (fun h₁ hns₁ hsb₁=>?_) S.kind)
 dsimp only at hns₁ hsb₁ ⊢
 obtain⟨W,⟨m0,w0⟩,turn⟩:=R s2.heap.objs.size (I2.hok.fresh (Nat.le_refl _))
 have lt2:∀b∈fp,b < s2.heap.objs.size:=fun b hb=>by
  obtain⟨o,ho,_⟩:=T.obj _ _ st2 b hb
  exact Heap.lt_size ho
 have I3:Inv X pins σ (upd H2 s2.heap.objs.size (.lst [])) { s2 with heap:=s2.heap.push { cls:=.type "list", dict:=none,data:=.seq ([]:List Value).toArray } } :=
  I2.laid (t':=s2.toks) (fun b u e=>Heap.get?_push_of_some _ e) (Nat.le_refl _) ⟨Nat.zero_le _,[],0,.nil,Heap.get?_push_size _ rfl⟩
 generalize hs3:({ s2 with heap:=s2.heap.push { cls:=.type "list", dict:=none,data:=.seq ([]:List Value).toArray } }:Shared)=s3 at I3
 have es3:s3.heap=s2.heap.push { cls:=.type "list", dict:=none,data:=.seq ([]:List Value).toArray }:=by rw[← hs3]
 rw[← es3]at hns₁ hsb₁ ⊢
 have keep3:∀b o,s3.heap.get? b=some o->h₁.get? b=some o:=fun b o e=>hsb₁.extBut b o (Nat.ne_of_lt (Heap.lt_size e)) (Heap.get?_push_of_some _ e)
 have lt3:∀b∈fp,b < s3.heap.objs.size:=fun b hb=>by rw[es3,Heap.size_push];exact Nat.lt_succ_of_lt (lt2 b hb)
 have f3:∀b∈fp,ap4 X pins (upd H2 s2.heap.objs.size (.lst [])) b:=fun b hb=>⟨by rw[D4 (Nat.ne_of_lt (lt2 b hb))];exact(f2 b hb).1,(f2 b hb).2⟩
 generalize hH3:upd H2 s2.heap.objs.size (HO.lst [])=H3 at I3 f3 w0
 have fin3:∀{σ':L2.St}{H':Hp}{pl:List (Addr×Obj)},(∀b∈fp,H' b=none)->(∀p∈pl,False)->∀b∈fp,ap4 (E1 X N' scope s3.heap.objs.size s3 H3 fp) pl H' b:=fun{σ' H' pl} hn hp b hb=>by
  refine⟨hn b hb,Nat.ne_of_lt (lt3 b hb),fun z=>?_,.inl hb,fun x c e=>?_,fun p hp'=>?_⟩
  ·rcases List.mem_cons.mp (I3.stkSub b z) with z|z
   ·exact(f3 b hb).2.1 z
   ·exact(f3 b hb).2.2.1 z
  ·have hm:=PySem.mem_of_lookup e
   rcases ae0 hm with q|⟨q1,q2⟩
   ·cases q
   ·obtain⟨c',hc'⟩:=I3.ok.has x (S.free _ q1 rfl)
    rw[hc']at q2
    have q2':c=c':=q2
    subst q2'
    exact(f3 b hb).2.2.2.2.1 x c hc'
  ·exact(hp p (by simpa [E1] using hp')).elim
 have toks:∃tk,({ s2 with heap:=h₁,toks:=s2.toks+([]:List (Str×Value)).length }:Shared)={ s3 with heap:=h₁,toks:=tk }:=⟨s2.toks,by rw[← hs3];rfl⟩
 obtain⟨tk,htk⟩:=toks
 have st4:tn 0 h₁:=T.keep 0 s2.heap h₁ st2 fun b hb o e=>keep3 b o (by rw[es3];exact Heap.get?_push_of_some _ e)
 have I4:Inv (E1 X N' scope s3.heap.objs.size s3 H3 fp) [] (aq5 n caps σ) H3 { s3 with heap:=h₁,toks:=tk }:=aK6 S I3 f3 lt3 hns₁ keep3
 have loop:codeAny (model X.prog X.w) X.A (.compLoop (.ListComp elt [⟨tgt,iter,ifs,0⟩] scope pos) 0 (.ref it) (.ref s2.heap.objs.size) (compEnvC scope (M6 X.env.cells scope.names []) s3.heap.objs.size X.env)) (RR (.ref s2.heap.objs.size) s3.heap.objs.size) { s3 with heap:=h₁,toks:=tk }:=by
  refine aY9 (fun k s'=>∃i ys σ' H',Inv (E1 X N' scope s3.heap.objs.size s3 H3 fp) [] σ' H' s'/\tn i s'.heap/\(∀b∈fp,H' b=none)/\W i k ys σ' H') ?_ m0 ⟨0,[],_,H3,I4,st4,fun b hb=>(f3 b hb).1,w0⟩
  rintro k s5 ⟨i,ys,σ5,H5,I5,st5,fr5,w5⟩
  have pz:∀p∈([]:List (Addr×Obj)),False:=fun p hp=>by cases hp
  rcases turn i k ys σ5 H5 w5 with⟨stop,qn⟩|⟨go,step⟩
  ·refine wpAny_mono (T.done (E1 X N' scope s3.heap.objs.size s3 H3 fp) rfl rfl rfl hc i [] s5 σ5 H5 (fun _ _=>False) I5 (fin3 (σ':=σ5) fr5 pz) st5 stop) (fun r s6 ⟨hr,I6⟩=>?_) fun _ _ z=>z
   subst hr
   obtain⟨m6,hn6,_⟩:=I6.loc
   refine hRR _ _ _ s6 rfl ⟨m6,hn6,fun h' sb=>⟨H5,at6 I3 f3 I6 sb,qn⟩⟩ ⟨s3,fp,σ5,H3,H5,rfl,I3,f3,I6,qn⟩
  ·refine wpAny_mono (T.item (E1 X N' scope s3.heap.objs.size s3 H3 fp) rfl rfl rfl hc i [] s5 σ5 H5 (fun _ _=>False) I5 (fin3 (σ':=σ5) fr5 pz) st5 go) (fun r s6 ⟨u,hr,h6⟩=>?_) fun _ _ z=>z
   subst hr
   refine wpAny_mono h6 (fun _ s7 ⟨x,H7,I7,r7,y7,st7,fr7⟩=>?_) fun _ _ z=>z
   have I7':=I7.pinned (fin3 (σ':=σ5) fr7 pz) (T.obj _ _ st7)
   refine wpAny_mono (hg _ _ _ _ _ s7 σ5 H7 x u _ I7' r7 (step x H7 y7)) (fun _ s8 ⟨σ8,H8,I8,q8⟩=>?_) fun _ _ z=>z
   refine wpAny_mono (ht _ _ _ _ _ s8 σ8 H8 _ I8 q8) (fun ok s9 ⟨H9,I9,q9⟩=>?_) fun _ _ z=>z
   have again:∀{σ':L2.St}{H':Hp}{s':Shared},Inv (E1 X N' scope s3.heap.objs.size s3 H3 fp) ([]++al7 fp s7.heap) σ' H' s'->Inv (E1 X N' scope s3.heap.objs.size s3 H3 fp) [] σ' H' s'/\tn (i+1) s'.heap/\∀b∈fp,H' b=none:=fun{σ' H' s'} I'=>by
    refine⟨I'.unpinned,T.keep _ _ _ st7 fun b hb o e=>(I'.pin (b,o) (List.mem_append_right _ (List.mem_append_right _ (X7 hb e)))).1,fun b hb=>?_⟩
    obtain⟨o,e,d⟩:=T.obj _ _ st7 b hb
    exact(I'.pin (b,o) (List.mem_append_right _ (List.mem_append_right _ (X7 hb e)))).2.1
   cases ok with
   | false =>
    rw[if_neg Bool.false_ne_true]at q9 ⊢
    obtain⟨m',hm,w'⟩:=q9
    obtain⟨a1,a2,a3⟩:=again I9
    exact⟨m',hm,i+1,ys,σ8,H9,a1,a2,a3,w'⟩
   | true =>
    rw[if_pos rfl]at q9 ⊢
    refine wpAny_mono (he _ _ _ _ _ s9 σ8 H9 _ I9 q9) (fun y s10 ⟨vy,H10,I10,r10,q10,z10,m',hm,w'⟩=>?_) fun _ _ z=>z
    refine wpAny_mono (as1 (X:=E1 X N' scope s3.heap.objs.size s3 H3 fp) _ s10 σ8 H10 (.ref s2.heap.objs.size) [vy] _ _ (fun v H'=>v=.non/\H'=upd H10 s2.heap.objs.size (.lst (ys++[vy]))) I10 rfl (.cons r10 .nil) ⟨_,ys,vy,rfl,rfl,q10,z10,rfl,rfl⟩) (fun _ s11 ⟨v11,H11,I11,r11,e11,e12⟩=>?_) fun _ _ z=>z
    subst e12
    obtain⟨a1,a2,a3⟩:=again I11
    exact⟨m',hm,i+1,ys++[vy],σ8,_,a1,a2,a3,w'⟩
 show codeAny (model X.prog X.w) X.A _ _ ({ s2 with heap:=h₁,toks:=s2.toks+([]:List (Str×Value)).length }:Shared)
 rw[htk]
 exact codeAny_compStart_list loop (T.self _ _ _ _ _ st4 loop)
end
section
variable {X:Cx}
noncomputable def tgJ(K:PySem.W.Frag) (f:D->Rho->Option Rho):TG:=fun v σ H Q=>∃d ρ ρ' H0 Hf,f d ρ=some ρ'/\E2 Hf H/\Slots K H0 ρ σ H Hf/\Rep K Hf d v/\∀σ',Slots K H0 ρ' σ' H Hf->Q σ' H
noncomputable def JG(X:Cx) (tg:Expr) (f:D->Rho->Option Rho):Prop:=PG X tg (tgJ X.K f)
noncomputable def cj0(K:PySem.W.Frag) (f:List D->Rho->Option Rho):TGs:=fun vs σ H Q=>∃ds ρ ρ' H0 Hf,f ds ρ=some ρ'/\E2 Hf H/\Slots K H0 ρ σ H Hf/\Reps K Hf ds vs/\∀σ',Slots K H0 ρ' σ' H Hf->Q σ' H
noncomputable def JGs(X:Cx) (tg:List Expr) (f:List D->Rho->Option Rho):Prop:=PGs X tg (cj0 X.K f)
noncomputable def B3(i:Nat):D->Rho->Option Rho:=fun d ρ=>some (ρ.set i (some (.val d)))
theorem by3(i:Nat) {x:Str}{pos:Pos}(hN:X.N.Nodup) (hi:X.N[i]? = some x:=by rfl) (hx:Loc X.env.scope x:=by first|exact Or.inl rfl|exact Or.inr rfl) (hf:X.fn x=true\/X.env.scope.names.lookup x=some .local:=by first|exact .inl rfl|exact .inr rfl):JG X (.Name x pos) (B3 i):=by
 intro pins s σ H v u Q I r ⟨d,ρ,ρ',H0,Hf,e,ss,sl,rp,k⟩
 cases e
 exact bu0 hN hi hx hf pins s σ H v u Q I r (k _ (sl.set rp))
noncomputable def O5:List D->Rho->Option Rho:=fun ds ρ=>match ds with
 | []=>some ρ
 | _=>none
noncomputable def C0(f:D->Rho->Option Rho) (g:List D->Rho->Option Rho):List D->Rho->Option Rho:=fun ds ρ=>match ds with
 | d::r=>(f d ρ).bind fun ρ'=>g r ρ'
 | []=>none
theorem by2:JGs X [] O5:=by
 intro pins s σ H vs us Q I r ⟨ds,ρ,ρ',H0,Hf,e,ss,sl,rp,k⟩
 cases ds with
 | nil=>cases e;exact bt9 pins s σ H vs us Q I r ⟨rp,k _ sl⟩
 | cons d ds=>cases e
theorem bj9{e:Expr}{es:List Expr}{f:D->Rho->Option Rho}{g:List D->Rho->Option Rho}(h1:JG X e f) (h2:JGs X es g) (hs:(assignEach (e::es) X.env).map (·.2)=assign e X.env::(assignEach es X.env).map (·.2):=by rfl):JGs X (e::es) (C0 f g):=by
 intro pins s σ H vs us Q I r ⟨ds,ρ,ρ',H0,Hf,e,ss,sl,rp,k⟩
 cases ds with
 | nil=>cases e
 | cons d ds =>
  obtain⟨ρ1,e1,e2⟩:=xbm e
  obtain⟨v,vr,rfl,q1,q2⟩:=rp
  exact bf7 h1 h2 hs pins s σ H _ us Q I r ⟨v,vr,rfl,d,ρ,ρ1,H0,Hf,e1,ss,sl,q1,fun σ' sl'=>⟨ds,ρ1,ρ',H0,Hf,e2,ss,sl',q2,k⟩⟩
noncomputable def M9(n:Nat) (g:List D->Rho->Option Rho):D->Rho->Option Rho:=fun d ρ=>match d with
 | .tuple ds=>if ds.length=n then g ds ρ else none
 | _=>none
theorem bR2{es:List Expr}{k n:Nat}{pos:Pos}{g:List D->Rho->Option Rho}(h:JGs X es g) (hc:X.calm=true:=by rfl) (hn:(assignEach es X.env).length=n:=by rfl) (hst:(assignEach es X.env).findIdx? (·.1)=none:=by rfl):JG X (.Tuple es k pos) (M9 n g):=by
 intro pins s σ H v u Q I r ⟨d,ρ,ρ',H0,Hf,e,ss,sl,rp,kk⟩
 cases d with
 | tuple ds =>
  simp only[M9]at e
  split at e
  ·rename_i hl
   obtain⟨a,vs,rfl,q1,q2⟩:=rp
   exact bK7 hc h hn hst pins s σ H _ u Q I r ⟨a,vs,rfl,C8 ss q1,by rw[q2.length,hl],ds,ρ,ρ',H0,Hf,e,ss,sl,q2,kk⟩
  ·cases e
 | _=>cases e
noncomputable def bq2(K:PySem.W.Frag) (J:It) (ds:List D) (Hf1:Hp):Prop:=∀(i:Nat) (H Hf:Hp),E2 Hf1 Hf->E2 Hf H->(ds.length<=i->J.stop i H)/\∀d,ds[i]? = some d->J.go i H/\∀x H',J.yld i H x H'->∃Hf',Grow H Hf H' Hf'/\Rep K Hf' d x
noncomputable def tiJ(K:PySem.W.Frag) (ρ:Rho) (ds:List D):TI:=fun σ H R=>∃H0 Hf,E2 Hf H/\Slots K H0 ρ σ H Hf/\∀J H' Hf',Grow H Hf H' Hf'->bq2 K J ds Hf'->R J H'
noncomputable def JI(X:Cx) (tg iter:Expr) (f:Rho->Option (List D)):Prop:=∀ρ ds,f ρ=some ds->PI X tg iter (tiJ X.K ρ ds)
theorem aI5{tg iter:Expr}{t t':TI}(h:PI X tg iter t) (i:∀σ H R,t' σ H R->t σ H R):PI X tg iter t':=fun pins s σ H R I q=>h pins s σ H R I (i σ H R q)
noncomputable def E7(f:DE):Rho->Option (List D):=fun ρ=>(f ρ).bind fun d=>match d with
 | .list ds=>some ds
 | .tuple ds=>some ds
 | _=>none
theorem aJ6{tg e:Expr}{f:DE}(h:JE X e f):JI X tg e (E7 f):=fun ρ ds q=>by
 obtain⟨d,e1,e2⟩:=xbm q
 cases d with
 | list xs =>
  cases e2
  refine aI5 (bt8 (h ρ _ e1)) fun σ H R ⟨H0,Hf,s,sl,k⟩=>⟨H0,Hf,s,sl,fun v H1 Hf1 g1 ⟨a,vs,h1,h2,h3⟩=>⟨a,h1,⟨vs,F2 g1.sub h2⟩,k _ H1 Hf1 g1 ?_⟩⟩
  intro i H' Hf' sa sb
  have q':SqL X.K H' a vs:=F2 (sa.trans sb) h2
  refine⟨fun hi=>⟨vs,q',by rw[h3.length];exact hi⟩,fun d hd=>?_⟩
  obtain⟨v,w1,w2⟩:=h3.get hd
  refine⟨⟨vs,v,q',w1⟩,fun x H'' hy=>?_⟩
  obtain⟨rfl,hy⟩:=hy
  have:=hy vs q'
  rw[w1]at this;cases this
  exact⟨Hf',Grow.refl sb,w2.mono sa⟩
 | tuple xs =>
  cases e2
  refine aI5 (bK6 (h ρ _ e1)) fun σ H R ⟨H0,Hf,s,sl,k⟩=>⟨H0,Hf,s,sl,fun v H1 Hf1 g1 ⟨a,vs,h1,h2,h3⟩=>⟨a,h1,⟨vs,C8 g1.sub h2⟩,k _ H1 Hf1 g1 ?_⟩⟩
  intro i H' Hf' sa sb
  have q':SqT X.K H' a vs:=C8 (sa.trans sb) h2
  refine⟨fun hi=>⟨vs,q',by rw[h3.length];exact hi⟩,fun d hd=>?_⟩
  obtain⟨v,w1,w2⟩:=h3.get hd
  refine⟨⟨vs,v,q',w1⟩,fun x H'' hy=>?_⟩
  obtain⟨rfl,hy⟩:=hy
  have:=hy vs q'
  rw[w1]at this;cases this
  exact⟨Hf',Grow.refl sb,w2.mono sa⟩
 | _=>cases e2
noncomputable def X4(lo hi:Int):List D:=(List.range (hi - lo).toNat).map fun(i:Nat)=>PyData.int (lo+i)
theorem av4{K:PySem.W.Frag}{lo hi:Int}{Hf1:Hp}:bq2 K (Itr lo (hi - lo).toNat) (X4 lo hi) Hf1:=by
 intro i H Hf sa sb
 have hl:(X4 lo hi).length=(hi - lo).toNat:=by simp[X4]
 refine⟨fun h=>by rw[hl]at h;exact h,fun d hd=>?_⟩
 have hi':i < (hi - lo).toNat:=by
  have:=(List.getElem?_eq_some_iff.mp hd).1
  rw[hl]at this;exact this
 refine⟨hi',fun x H' hy=>?_⟩
 obtain⟨e1,e2⟩:=hy
 subst e1 e2
 have:d=.int (lo+i):=by
  have:(X4 lo hi)[i]? = some (.int (lo+i)):=by simp[X4,hi']
  rw[hd]at this;cases this;rfl
 subst this
 exact⟨Hf,Grow.refl sb,rfl⟩
noncomputable def G3(f:DE):Rho->Option (List D):=fun ρ=>(f ρ).bind fun d=>match d with
 | .int j=>if -(2 ^ 62)<=j/\j < 2 ^ 62 then some (X4 0 j) else none
 | _=>none
theorem aW5{tg e:Expr}{f:DE}{p pos:Pos}(hg:Gl X "range") (hm:X.mg "range" = none) (h:JE X e f) (hs:starEach [e] X.env=[(false,eval e X.env)]:=by rfl):JI X tg (.Call (.Name "range" p) [e] [] pos) (G3 f):=fun ρ ds q=>by
 obtain⟨d,e1,e2⟩:=xbm q
 split at e2
 ·split at e2
  ·rename_i j c
   cases e2
   refine aI5 (aU8 hg hm (D9 (h ρ _ e1) G8 hs) hs) fun σ H R ⟨H0,Hf,s,sl,k⟩=>⟨H0,Hf,s,sl,fun v H1 Hf1 g1 r=>⟨j,by rw[show v=_ from r],c.1,c.2,k _ H1 Hf1 g1 ?_⟩⟩
   have:=av4 (K:=X.K) (lo:=0) (hi:=j) (Hf1:=Hf1)
   rw[Int.sub_zero]at this
   exact this
  ·cases e2
 ·cases e2
theorem Grow.nofr{H Hf H' Hf':Hp}{a:Addr}{o:HO}(g:Grow H Hf H' Hf') (h:H a=some o) (n:Hf a=none):Hf' a=none:=by
 cases q:Hf' a with
 | none=>rfl
 | some u =>
  rcases g.new a (by rw[q];simp) with z|z
  ·exact absurd n z
  ·rw[h]at z;cases z
noncomputable def V1(n:Nat) (caps:List Nat) (ρ:Rho):Rho:=List.replicate n none++caps.map fun j=>match ρ[j]? with
 | some (some (.val d))=>some (.val d)
 | _=>none
noncomputable def N0(g:D->Rho->Option Rho) (c:Rho->Option Bool) (e:DE):List D->Rho->Option (List D)
 | [],_=>some []
 | d::ds,ρ=>(g d ρ).bind fun ρ1=>(c ρ1).bind fun b=>if b then(e ρ1).bind fun y=>(N0 g c e ds ρ1).map fun r=>y::r else N0 g c e ds ρ1
noncomputable def B6(n:Nat) (caps:List Nat) (src:Rho->Option (List D)) (g:D->Rho->Option Rho) (c:Rho->Option Bool) (e:DE):Rho->Option (List D):=fun ρ=>(src ρ).bind fun ds=>if ds.length<=16777216 then N0 g c e ds (V1 n caps ρ) else none
noncomputable def ar0(K:PySem.W.Frag) (c:Rho->Option Bool):TT:=fun σ H Q=>∃ρ b,c ρ=some b/\∃H0 Hf,E2 Hf H/\Slots K H0 ρ σ H Hf/\∀H' Hf',Grow H Hf H' Hf'->Q b H'
noncomputable def aN4(K:PySem.W.Frag) (e:DE):TE:=fun σ H Q=>∃ρ d,e ρ=some d/\tJ K ρ (fun _ v _ Hf=>Rep K Hf d v) σ H Q
noncomputable def JTs(X:Cx) (ifs:List Expr) (c:Rho->Option Bool):Prop:=PTs X ifs (ar0 X.K c)
noncomputable def E9:Rho->Option Bool:=fun _=>some true
theorem bx0:JTs X [] E9:=fun pins s σ H Q I ⟨ρ,b,e,H0,Hf,ss,sl,k⟩=>by
 cases e
 exact bt0 pins s σ H Q I (k H Hf (Grow.refl ss))
theorem bw9{e:Expr}{c:Rho->Option Bool}(h:JT X e c):JTs X [e] c:=fun pins s σ H Q I ⟨ρ,b,e,H0,Hf,ss,sl,k⟩=>bs9 (h ρ b e) pins s σ H Q I ⟨H0,Hf,ss,sl,k⟩
theorem aK9{K:PySem.W.Frag}{n:Nat}{caps:List Nat}{H0 H H1 H' Hf:Hp}{ρ:Rho}{σ:L2.St}(sl:Slots K H0 ρ σ H Hf):Slots K H1 (V1 n caps ρ) (aq5 n caps σ) H' Hf:=by
 have noown:∀(i:Nat) (ds:List D),(V1 n caps ρ)[i]?≠some (some (.own ds)):=fun i ds h=>by
  unfold V1 at h
  rcases Nat.lt_or_ge i n with q|q
  ·rw[List.getElem?_append_left (by simpa using q),List.getElem?_replicate,if_pos q]at h;cases h
  ·rw[List.getElem?_append_right (by simpa using q),List.getElem?_map]at h
   cases hj:caps[i - (List.replicate n (none:Option B)).length]? with
   | none=>rw[hj]at h;cases h
   | some j =>
    rw[hj]at h
    simp only[Option.map_some,Option.some.injEq]at h
    split at h<;>cases h
 refine⟨by simp[V1,aq5],fun i b e=>?_,fun i j ds es a h1=>(noown i ds h1).elim⟩
 unfold V1 at e
 unfold aq5
 rcases Nat.lt_or_ge i n with q|q
 ·rw[List.getElem?_append_left (by simpa using q),List.getElem?_replicate,if_pos q]at e;cases e
 ·rw[List.getElem?_append_right (by simpa using q),List.getElem?_map]at e
  rw[List.getElem?_append_right (by simpa using q),List.getElem?_map]
  simp only[List.length_replicate]at e ⊢
  cases hj:caps[i - n]? with
  | none=>rw[hj]at e;cases e
  | some j =>
   rw[hj]at e
   simp only[Option.map_some,Option.some.injEq]at e ⊢
   split at e
   ·rename_i d hd
    cases e
    obtain⟨v,h1,h2⟩:=sl.is j _ hd
    exact⟨v,by rw[h1];rfl,h2⟩
   ·cases e
theorem ab1{K:PySem.W.Frag}{n:Nat}{caps:List Nat}{ρ:Rho}{src:Rho->Option (List D)}{g:D->Rho->Option Rho}{c:Rho->Option Bool}{e:DE}{out:List D}(h:B6 n caps src g c e ρ=some out) :
  ∃ds,src ρ=some ds/\∀σ H Q,tJ K ρ (fun H v H' Hf'=>∃a vs,v=.ref a/\H a=none/\H' a=some (.lst vs)/\Hf' a=none/\Reps K Hf' out vs) σ H Q->bd3 n caps (tiJ K ρ ds) (tgJ K g) (ar0 K c) (aN4 K e) σ H Q:=by
 obtain⟨ds,e1,e2⟩:=xbm h
 split at e2
 ·rename_i hz
  refine⟨ds,e1,fun σ H Q ⟨H0,Hf,s,sl,k⟩=>⟨H0,Hf,s,sl,fun J H1 Hf1 g1 Y Dd hD=>?_⟩⟩
  refine⟨fun i m ys σ' H'=>m=ds.length - i/\i<=ds.length/\∃Hf' ρ' o1 o2,Grow H1 Hf1 H' Hf'/\H' Dd=some (.lst ys)/\Hf' Dd=none/\Slots K (upd H1 Dd (.lst [])) ρ' σ' H' Hf'/\Reps K Hf' o1 ys/\o1.length<=i/\N0 g c e (ds.drop i) ρ'=some o2/\o1++o2=out,
   ⟨ds.length,by simp,Nat.zero_le _,Hf1,V1 n caps ρ,[],out,Grow.made g1.sub hD,C1,g1.sub.free hD,aK9 (sl.grow g1),rfl,Nat.le_refl _,by simpa using e2,rfl⟩,?_⟩
  rintro i m ys σ' H' ⟨rfl,hi,Hf',ρ',o1,o2,gr,hd1,hd2,sl',rp,ho,ec,eo⟩
  obtain⟨Ys,Yg⟩:=Y i H' Hf' gr.ext gr.sub
  rcases Nat.lt_or_ge i ds.length with hlt|hge
  ·right
   obtain⟨go,yl⟩:=Yg ds[i] (by simp[hlt])
   refine⟨go,fun x H2 hy=>?_⟩
   obtain⟨Hf2,g2,r2⟩:=yl x H2 hy
   rw[List.drop_eq_getElem_cons hlt]at ec
   obtain⟨ρ1,c1,ec⟩:=xbm ec
   obtain⟨b,c2,ec⟩:=xbm ec
   refine⟨ds[i],ρ',ρ1,_,Hf2,c1,g2.sub,sl'.grow g2,r2,fun σ3 sl3=>⟨ρ1,b,c2,_,Hf2,g2.sub,sl3,fun H4 Hf4 g4=>?_⟩⟩
   have gr4:=(gr.trans g2).trans g4
   have hd4:H4 Dd=some (.lst ys):=g4.big _ _ (g2.big _ _ hd1)
   have hf4:Hf4 Dd=none:=(g2.trans g4).nofr hd1 hd2
   have rp4:=rp.mono (g2.trans g4).ext
   cases b with
   | false =>
    rw[if_neg Bool.false_ne_true]at ec
    refine am9 ?_
    exact⟨ds.length - (i+1),by omega,rfl,hlt,Hf4,ρ1,o1,o2,gr4,hd4,hf4,sl3.grow g4,rp4,by omega,ec,eo⟩
   | true =>
    rw[if_pos rfl]at ec
    refine am8 ?_
    obtain⟨y,c3,ec⟩:=xbm ec
    obtain⟨o3,c4,rfl⟩:=xmo ec
    refine⟨ρ1,y,c3,_,Hf4,g4.sub,sl3.grow g4,fun v H5 Hf5 g5 r5=>⟨g5.big _ _ hd4,?_,?_⟩⟩
    ·rw[rp.length,sizeLine_eq];omega
    ·have hf5:Hf5 Dd=none:=g5.nofr hd4 hf4
     have gr5:=gr4.trans g5
     refine⟨ds.length - (i+1),by omega,rfl,hlt,Hf5,ρ1,o1++[y],o3,⟨fun b u q=>?_,fun b u q=>?_,gr5.ext,gr5.new⟩,C1,hf5,?_,(rp4.mono g5.ext).append ⟨v,[],rfl,r5,rfl⟩,by simp;omega,c4,by simp[← eo]⟩
     ·rw[D4 (D8 q hD)];exact gr5.big b u q
     ·rw[D4 (D8 q hf5)];exact gr5.sub b u q
     ·have sl5:=(sl3.grow g4).grow g5
      refine⟨sl5.len,fun j bb q=>?_,sl5.apart⟩
      obtain⟨w,q1,q2⟩:=sl5.is j bb q
      refine⟨w,q1,?_⟩
      cases bb with
      | val d=>exact q2
      | exc C=>exact q2
      | own dd =>
       obtain⟨a,vs,z1,z2,z3,z4,z5⟩:=q2
       have ne:a≠Dd:=fun z=>by rw[z,C1]at z4;cases z4
       exact⟨a,vs,z1,by rw[D4 ne];exact z2,z3,z4,z5⟩
  ·left
   have:i=ds.length:=by omega
   subst this
   rw[List.drop_length]at ec
   cases ec
   rw[List.append_nil]at eo
   subst eo
   exact⟨Ys (Nat.le_refl _),k _ H' Hf' (g1.trans gr) ⟨Dd,ys,rfl,g1.big.free hD,hd1,hd2,rp⟩⟩
 ·cases e2
end
section
variable {X:Cx}
noncomputable def ak2(N N':List Str) (n:Nat) (caps:List Nat) (sc scope:Scope):Bool :=
 (match scope.kind with | .function=>true|_=>false) &&
 (scope.names.all fun y=>(match y.2 with | .cell=>false | .local=>scope.names.lookup y.1==some .local | .free=>sc.names.lookup y.1==some .cell || sc.names.lookup y.1==some .free|_=>true)) &&
 (N'.length==n+caps.length) &&
 ((List.range caps.length).all fun i=>match caps[i]? with
  | some j=>(match N[j]? with|some x=>N'[n+i]? == some x&&scope.names.lookup x==some .free|none=>false)
  | none=>true)
theorem aZ0{N N':List Str}{n:Nat}{caps:List Nat}{sc scope:Scope}(h:ak2 N N' n caps sc scope=true) (hN:X.N=N) (hS:X.env.scope=sc):CompSc X N' n caps scope:=by
 subst hN hS
 unfold ak2 at h
 simp only[Bool.and_eq_true,List.all_eq_true]at h
 obtain⟨⟨⟨h1,h2⟩,h3⟩,h4⟩:=h
 refine⟨?_,fun y hy e=>?_,fun y hy e=>?_,fun y hy e=>?_,by simpa using h3,fun i j e=>?_⟩
 ·cases q:scope.kind<;>rw[q]at h1<;>first|rfl|cases h1
 ·have:=h2 y hy
  rw[e]at this;cases this
 ·have:=h2 y hy
  rw[e]at this;simpa using this
 ·have:=h2 y hy
  rw[e]at this;simpa using this
 ·have hi:i < caps.length:=(List.getElem?_eq_some_iff.mp e).1
  have:=h4 i (by simpa using hi)
  rw[e]at this
  simp only at this
  cases q:X.N[j]? with
  | none=>rw[q]at this;cases this
  | some x =>
   rw[q]at this
   simp only[Bool.and_eq_true]at this
   exact⟨x,rfl,by simpa using this.1,by simpa using this.2⟩
theorem aS4{N':List Str}{n:Nat}{caps:List Nat}{scope:Scope}{pins:List (Addr×Obj)}{σ:L2.St}{H:Hp}{s:Shared}(S:CompSc X N' n caps scope) (I:Inv X pins σ H s):closureFor scope X.env=pure (M6 X.env.cells scope.names []) :=
 bB8 fun y hy e=>I.ok.has y.1 (S.free y hy e)
theorem by1{N':List Str}{n:Nat}{caps:List Nat}{scope:Scope}{elt tgt iter:Expr}{ifs:List Expr}{pos:Pos}{src:Rho->Option (List D)}{g:D->Rho->Option Rho}{c:Rho->Option Bool}{e:DE}(S:CompSc X N' n caps scope) (hx:∀e s,X.xe e s->False)
  (hi:JI X tgt iter src) (hg:∀C s0 H0 ex,JG (E1 X N' scope C s0 H0 ex) tgt g) (ht:∀C s0 H0 ex,JTs (E1 X N' scope C s0 H0 ex) ifs c) (he:∀C s0 H0 ex,JE (E1 X N' scope C s0 H0 ex) elt e)
  (hc:X.calm=true:=by rfl) (hs:∀x,foldedSetIterable iter X.env x=pure x:=by intro _;rfl):JN X (.ListComp elt [⟨tgt,iter,ifs,0⟩] scope pos) (B6 n caps src g c e):=by
 intro ρ out h
 obtain⟨ds,e1,k⟩:=ab1 (K:=X.K) h
 intro pins s σ H Q I t
 rw[eval_ListComp]
 refine wpAny_comprehension_free (use:=none) rfl hs (aS4 S I) S.kind S.loc (aF2 (RR:=fun acc C=>compPost (model X.prog X.w) X.A X.xe none (EP X pins σ Q) acc C) S hx hc (hi ρ ds e1) (g:=tgJ X.K g) (tc:=ar0 X.K c) (te:=aN4 X.K e) hg ht (fun C s0 H0 ex pins s σ H Q I ⟨ρ,d,e,t⟩=>he C s0 H0 ex ρ d e pins s σ H Q I t) I (k σ H Q t) ?_)
 intro Dd C r s' hr ⟨m,hn,kk⟩ _
 subst hr
 exact⟨m,hn,fun h' sb=>let⟨H',I',q⟩:=kk h' sb;⟨.ref Dd,H',I',rfl,q⟩⟩
theorem al6{N':List Str}{n:Nat}{caps:List Nat}{scope:Scope}{elt tgt iter:Expr}{ifs:List Expr}{pos pos' spos:Pos}{i:Nat}{x:Str}{wi:TI}{g:TG}{tc:TT}{te:TE}(S:CompSc X N' n caps scope) (hx:∀e s,X.xe e s->False) (hc:X.calm=true)
  (hN:X.N.Nodup) (hi:X.N[i]? = some x) (hl:X.env.scope.names.lookup x=some .local) (hsrc:PI X tgt iter wi) (hg:∀C s0 H0 ex,PG (E1 X N' scope C s0 H0 ex) tgt g) (ht:∀C s0 H0 ex,PTs (E1 X N' scope C s0 H0 ex) ifs tc) (he:∀C s0 H0 ex,PE (E1 X N' scope C s0 H0 ex) elt te)
  (hsw:swapsWith (.ListComp elt [⟨tgt,iter,ifs,0⟩] scope pos) (some (.Name x pos')) spos.line X.env=pure true) (hs:∀x,foldedSetIterable iter X.env x=pure x) :
  PS X (.Assign [.Name x pos'] (.ListComp elt [⟨tgt,iter,ifs,0⟩] scope pos) spos) (fun En σ H=>bd3 n caps wi g tc te σ H fun v H'=>En.nx (σ.set i (some v)) H'):=by
 intro pins s σ H En I h
 rw[exec_Assign_Name_used _ _ _ _ hsw]
 refine wpAny_bind (wpAny_standAt (wpAny_bind ?_))
 show wpAny _ X.A (do let _ ← comprehension (.ListComp elt [⟨tgt,iter,ifs,0⟩] scope pos) scope X.env _ (newList []) false (eval iter X.env) (some (assign (.Name x pos') X.env))) _ _ s
 refine wpAny_bind (wpAny_mono (wpAny_comprehension_free (use:=some (assign (.Name x pos') X.env)) (Q:=fun _ s'=>SP X pins En .next s') rfl hs (aS4 S I) S.kind S.loc
  (aF2 (RR:=fun acc C=>compPost (model X.prog X.w) X.A X.xe (some (assign (.Name x pos') X.env)) (fun _ s'=>SP X pins En .next s') acc C) S hx hc hsrc hg ht he I h ?_)) (fun _ s' hq=>wpAny_pure (wpAny_pure hq)) fun _ _ z=>z)
 intro Dd C r s' hr _ ⟨s2,fp,σ',H2,H',eC,I2,f2,I',q⟩
 subst hr eC
 have IX:Inv X pins σ H' s':=at6 (h':=s'.heap) I2 f2 I' (Heap.SameBut.refl ..)
 obtain⟨mC,hnC,_⟩:=I'.loc
 have hCL:s2.heap.objs.size≠X.env.locals:=fun z=>by
  have:=I2.lt
  rw[← z]at this
  exact Nat.lt_irrefl _ this
 show wpAny _ X.A (assign (.Name x pos') X.env (.ref Dd)) _ _ _
 refine wpAny_assign_Name (ar2 (v:=.ref Dd) IX hN hi (.inl hl) rfl (fun s3 I3 ⟨a,sb,ha⟩=>?_) (.inr hl))
 have hCa:s2.heap.objs.size≠a:=fun z=>by
  rcases ha with ha|ha
  ·exact hCL (z.trans ha)
  ·obtain⟨v,q'⟩:=I2.cell x a ha
   have:=q'.lt
   rw[← z]at this
   exact Nat.lt_irrefl _ this
 refine⟨mC,hnC.sameBut sb hCa,fun h' sb'=>?_⟩
 refine⟨_,H',I3.turned (t':=s3.toks) (it:=s2.heap.objs.size) (fun b o hb e=>sb'.extBut b o hb e) I'.free hCL (.inr I2.sz) (fun y c e z=>?_) (fun p hp z=>?_),q⟩
 ·obtain⟨v,q'⟩:=I2.cell y c e
  have:=q'.lt
  rw[z]at this
  exact Nat.lt_irrefl _ this
 ·have:=Heap.lt_size (I2.pin p hp).1
  rw[z]at this
  exact Nat.lt_irrefl _ this
noncomputable def Z4(i:Nat) (f:Rho->Option (List D)):DS:=fun ρ=>(f ρ).map fun ds=>.nx (ρ.set i (some (.val (.list ds))))
theorem bx6(i:Nat) {N':List Str}{n:Nat}{caps:List Nat}{scope:Scope}{elt tgt iter:Expr}{ifs:List Expr}{pos pos' spos:Pos}{x:Str}{src:Rho->Option (List D)}{g:D->Rho->Option Rho}{c:Rho->Option Bool}{e:DE}(hN:X.N.Nodup) (S:CompSc X N' n caps scope) (hx:∀e s,X.xe e s->False)
  (hi:JI X tgt iter src) (hg:∀C s0 H0 ex,JG (E1 X N' scope C s0 H0 ex) tgt g) (ht:∀C s0 H0 ex,JTs (E1 X N' scope C s0 H0 ex) ifs c) (he:∀C s0 H0 ex,JE (E1 X N' scope C s0 H0 ex) elt e)
  (hi2:X.N[i]? = some x:=by rfl) (hl:X.env.scope.names.lookup x=some .local:=by rfl) (hsw:swapsWith (.ListComp elt [⟨tgt,iter,ifs,0⟩] scope pos) (some (.Name x pos')) spos.line X.env=pure true:=by rfl)
  (hc:X.calm=true:=by rfl) (hs:∀x,foldedSetIterable iter X.env x=pure x:=by intro _;rfl):JS X (.Assign [.Name x pos'] (.ListComp elt [⟨tgt,iter,ifs,0⟩] scope pos) spos) (Z4 i (B6 n caps src g c e)):=fun ρ fl q H0 Hf0=>by
 obtain⟨out,e1,e2⟩:=xmo q
 subst e2
 obtain⟨ds,e3,k⟩:=ab1 (K:=X.K) e1
 refine K8 (al6 S hx hc hN hi2 hl (hi ρ ds e3) (g:=tgJ X.K g) (tc:=ar0 X.K c) (te:=aN4 X.K e) hg ht (fun C s0 H0 ex pins s σ H Q I ⟨ρ,d,e,t⟩=>he C s0 H0 ex ρ d e pins s σ H Q I t) hsw hs) fun En σ H ⟨Hf,a,ee⟩=>k σ H _ ⟨H0,Hf,a.gr.sub,a.sl,fun v H' Hf' gg ⟨p,vs,z1,z2,z3,z4,z5⟩=>?_⟩
 subst z1
 have g2:=gg.freeze z3 z4 z2
 exact ee _ H' _ ⟨a.gr.trans g2,(a.sl.grow g2).set ⟨p,vs,rfl,SqL.of C1,z5.mono (D7 z4)⟩⟩ g2.ext
theorem bQ0{i j:Nat}{x y:Str}{a b:Expr}{f:Rho->Option (List D)}{px py pt:Pos}{kt k2 pt2} {pos:Pos}(hN:X.N.Nodup) (ha:JA X [a,b] f) (hw:swappedStores [.Tuple [.Name x px,.Name y py] kt pt] (.Tuple [a,b] k2 pt2) X.env=pure (some [x,y])) (hij:i≠j)
  (hi:X.N[i]? = some x:=by rfl) (hj:X.N[j]? = some y:=by rfl) (hx:X.env.scope.names.lookup x=some .local:=by rfl) (hy:X.env.scope.names.lookup y=some .local:=by rfl) (hc:X.calm=true:=by rfl)
  (hs:swapsWithSole [.Tuple [.Name x px,.Name y py] kt pt] (.Tuple [a,b] k2 pt2) pos.line X.env=pure false:=by rfl):JS X (.Assign [.Tuple [.Name x px,.Name y py] kt pt] (.Tuple [a,b] k2 pt2) pos) (be0 i j f):=fun ρ fl q H0 Hf0=>by
 obtain⟨ds,e1,e2⟩:=xbm q
 split at e2
 ·cases e2
  refine K8 (bK2 hc hN hi hj hij hx hy (fun pos pins s σ H Q I t=>ha.run ρ _ e1 pos pins s σ H Q I t) hw hs) fun En σ H ⟨Hf,at',e⟩=>⟨H0,Hf,at'.gr.sub,at'.sl,fun vs H' Hf' gg rp=>?_⟩
  obtain⟨v,r,rfl,r1,w,r',rfl,r2,r3⟩:=rp
  cases r3
  exact⟨v,w,rfl,e _ H' Hf' ⟨at'.gr.trans gg,((at'.sl.grow gg).set r1).set r2⟩ gg.ext⟩
 ·cases e2
noncomputable def V6(f:DE) (g:D->Rho->Option Rho):DS:=fun ρ=>(f ρ).bind fun d=>(g d ρ).map Fl.nx
theorem bj5{tg e:Expr}{f:DE}{g:D->Rho->Option Rho}{pos:Pos}(he:JE X e f) (hg:JG X tg g) (hs:swapsWithSole [tg] e pos.line X.env=pure false:=by rfl) (hw:swappedStores [tg] e X.env=pure none:=by rfl)
  (h1:(assignEach [tg] X.env).map (·.2)=[assign tg X.env]:=by rfl):JS X (.Assign [tg] e pos) (V6 f g):=fun ρ fl q H0 Hf0=>by
 obtain⟨d,e1,e2⟩:=xbm q
 obtain⟨ρ',e3,e4⟩:=xmo e2
 subst e4
 exact K8 (bK4 (he ρ d e1) hg hs hw h1) fun En σ H ⟨Hf,a,ee⟩=>⟨H0,Hf,a.gr.sub,a.sl,fun v H' Hf' gg r=>⟨d,ρ,ρ',H0,Hf',e3,gg.sub,a.sl.grow gg,r,fun σ' sl'=>ee σ' H' Hf' ⟨a.gr.trans gg,sl'⟩ gg.ext⟩⟩
noncomputable def Z6(i:Nat) (f:Rho->Option (List D)):DS:=fun ρ=>(f ρ).map fun ds=>.nx (ρ.set i (some (.own ds)))
theorem Slots.setOwn{K:PySem.W.Frag}{H0 H H' Hf Hf':Hp}{ρ:Rho}{σ:L2.St}{i:Nat}{ds:List D}{a:Addr}{vs:List V}(s:Slots K H0 ρ σ H Hf) (g:Grow H Hf H' Hf') (n0:H0 a=none) (n:H a=none) (h:H' a=some (.lst vs)) (nf:Hf' a=none) (r:Reps K Hf' ds vs) :
  Slots K H0 (ρ.set i (some (.own ds))) (σ.set i (some (.ref a))) H' Hf':=by
 have s':=s.grow g
 have old:∀(j:Nat) (es:List D),i≠j->ρ[j]? = some (some (.own es))->σ[j]?≠some (some (.ref a)):=fun j es hj e z=>by
  obtain⟨v,h1,b,us,e1,h2,_⟩:=s.is j _ e
  rw[z]at h1;cases h1;cases e1
  rw[n]at h2;cases h2
 refine⟨by simp[s.len],fun j b e=>?_,fun j k ds1 es b h1 h2 h3 h4=>?_⟩
 ·by_cases q:i=j
  ·subst q
   have hi:i < ρ.length:=by simpa using (List.getElem?_eq_some_iff.mp e).1
   have hi':i < σ.length:=by rw[← s.len];exact hi
   rw[List.getElem?_set_self hi]at e
   cases e
   exact⟨_,List.getElem?_set_self hi',a,vs,rfl,h,nf,n0,r⟩
  ·rw[List.getElem?_set_ne q]at e
   obtain⟨u,h1,h2⟩:=s'.is j b e
   exact⟨u,by rw[List.getElem?_set_ne q];exact h1,h2⟩
 ·by_cases qj:i=j
  ·by_cases qk:i=k
   ·rw[← qj,← qk]
   ·subst qj
    have hi:i < ρ.length:=by simpa using (List.getElem?_eq_some_iff.mp h1).1
    rw[List.getElem?_set_self (by rw[← s.len];exact hi)]at h3
    rw[List.getElem?_set_ne qk]at h2 h4
    cases h3
    exact(old k es qk h2 h4).elim
  ·rw[List.getElem?_set_ne qj]at h1 h3
   by_cases qk:i=k
   ·subst qk
    have hi:i < ρ.length:=by simpa using (List.getElem?_eq_some_iff.mp h2).1
    rw[List.getElem?_set_self (by rw[← s.len];exact hi)]at h4
    cases h4
    exact(old j ds1 qj h1 h3).elim
   ·rw[List.getElem?_set_ne qk]at h2 h4
    exact s.apart j k ds1 es b h1 h2 h3 h4
theorem bQ1(i:Nat) {x:Str}{e:Expr}{f:Rho->Option (List D)}{pos pos':Pos}(hN:X.N.Nodup) (h:JN X e f) (hi:X.N[i]? = some x:=by rfl) (hx:Loc X.env.scope x:=by first|exact Or.inl rfl|exact Or.inr rfl)
  (hs:swapsWith e (some (.Name x pos')) pos.line X.env=pure false:=by rfl) (hf:X.fn x=true\/X.env.scope.names.lookup x=some .local:=by first|exact .inl rfl|exact .inr rfl):JS X (.Assign [.Name x pos'] e pos) (Z6 i f):=fun ρ fl q H0 Hf0=>by
 obtain⟨ds,e1,e2⟩:=xmo q
 subst e2
 refine K8 (be9 hN hi hx (h ρ ds e1) hs hf) fun En σ H ⟨Hf,a,e⟩=>⟨H0,Hf,a.gr.sub,a.sl,fun v H' Hf' g ⟨p,vs,z1,z2,z3,z4,z5⟩=>?_⟩
 subst z1
 exact e _ H' Hf' ⟨a.gr.trans g,a.sl.setOwn g (a.gr.big.free z2) z2 z3 z4 z5⟩ g.ext
noncomputable def S7(i:Nat) (f:DE):DS:=fun ρ=>match ρ[i]? with
 | some (some (.own ds))=>if ds.length < 16777216 then(f ρ).map fun d=>.nx (ρ.set i (some (.own (ds++[d])))) else none
 | _=>none
theorem bQ6(i:Nat) {x:Str}{e:Expr}{f:DE}{p apos cpos pos:Pos}(h:JE X e f) (hN:X.N[i]? = some x:=by rfl) (hv:Vis X.env.scope x:=by first|exact Or.inl rfl|exact Or.inr (Or.inl rfl)|exact Or.inr (Or.inr rfl)) (hd:(x==("__debug__" : Str))=false:=by decide)
  (hcd:(x==("__classdict__" : Str))=false:=by decide) (hbase:attributeBase (.Name x p) "append" X.env (eval (.Name x p) X.env)=eval (.Name x p) X.env:=by rfl)
  (hfew:((backTo cpos (starEach [e] X.env)).all (fun x=>!x.1)&&(backToKw cpos (keywordEach [] X.env)).all (fun x=>x.1.isSome)
   && decide (([e]:List Expr).length+([]:List Keyword).length+(if([]:List Keyword).isEmpty then 0 else 1) < 30))=true:=by rfl)
  (hline:(apos.endLine==cpos.line)=true:=by rfl) (hs:starEach [e] X.env=[(false,eval e X.env)]:=by rfl) (hsw:swapsWith (.Call (.Attribute (.Name x p) "append" apos) [e] [] cpos) none pos.line X.env=pure false:=by rfl) :
  JS X (.Expr (.Call (.Attribute (.Name x p) "append" apos) [e] [] cpos) pos) (S7 i f):=fun ρ fl q H0 Hf0=>by
 unfold S7 at q
 split at q
 ·rename_i ds eo
  split at q
  ·rename_i hz
   obtain⟨d,e1,e2⟩:=xmo q
   subst e2
   refine K8 (aw7 (aO6 PySem.F.plainAttrs_list PySem.F.slot_list_append PySem.F.type_list_append as1 (z9 hN hv hd hcd) (D9 (h ρ d e1) G8 hs) hbase hfew hline hs) hsw) fun En σ H ⟨Hf,a,ee⟩=>?_
   obtain⟨v,h1,b,vs,rfl,h2,h3,h4,h5⟩:=a.sl.is i _ eo
   refine⟨_,h1,.inl ⟨rfl,vs,SqL.of h2⟩,H0,Hf,a.gr.sub,a.sl,fun w H' Hf' gg r=>?_⟩
   have hb:H' b=some (.lst vs):=gg.big _ _ h2
   have hfb:Hf' b=none:=gg.nofr h2 h3
   have g2:=a.gr.trans gg
   have sl2:=a.sl.grow gg
   refine⟨b,vs,w,rfl,rfl,hb,by rw[h5.length,sizeLine_eq];exact hz,ee _ _ Hf' ⟨⟨fun c u z=>?_,fun c u z=>?_,g2.ext,g2.new⟩,?_⟩ gg.ext⟩
   ·rw[D4 (D8 z h4)];exact g2.big c u z
   ·rw[D4 (D8 z hfb)];exact g2.sub c u z
   ·refine⟨by simpa using sl2.len,fun j bb z=>?_,fun j k ds1 es c q1 q2 q3 q4=>?_⟩
    ·by_cases qj:i=j
     ·subst qj
      have hi:i < ρ.length:=(List.getElem?_eq_some_iff.mp eo).1
      rw[List.getElem?_set_self hi]at z
      cases z
      exact⟨_,h1,b,vs++[w],rfl,C1,hfb,h4,(h5.mono gg.ext).append ⟨w,[],rfl,r,rfl⟩⟩
     ·rw[List.getElem?_set_ne qj]at z
      obtain⟨u,z1,z2⟩:=sl2.is j bb z
      refine⟨u,z1,?_⟩
      cases bb with
      | val d=>exact z2
      | exc C=>exact z2
      | own dd =>
       obtain⟨a',vs',y1,y2,y3,y4,y5⟩:=z2
       have ne:a'≠b:=fun zz=>by
        subst zz y1
        exact qj (a.sl.apart i j ds dd a' eo z h1 z1)
       exact⟨a',vs',y1,by rw[D4 ne];exact y2,y3,y4,y5⟩
    ·have q1':∃dd,ρ[j]? = some (some (.own dd)):=by
      by_cases qj:i=j
      ·subst qj;exact⟨ds,eo⟩
      ·rw[List.getElem?_set_ne qj]at q1;exact⟨_,q1⟩
     have q2':∃dd,ρ[k]? = some (some (.own dd)):=by
      by_cases qj:i=k
      ·subst qj;exact⟨ds,eo⟩
      ·rw[List.getElem?_set_ne qj]at q2;exact⟨_,q2⟩
     obtain⟨d1,q1'⟩:=q1'
     obtain⟨d2,q2'⟩:=q2'
     exact a.sl.apart j k d1 d2 c q1' q2' q3 q4
  ·cases q
 ·cases q
noncomputable def frz(i:Nat) (ρ:Rho):Rho:=match ρ[i]? with
 | some (some (.own ds))=>ρ.set i (some (.val (.list ds)))
 | _=>ρ
theorem bU5{K:PySem.W.Frag}{H0 Hf0 H Hf:Hp}{ρ:Rho}{σ:L2.St}(i:Nat) (a:At K H0 Hf0 ρ σ H Hf):∃Hf',E2 Hf Hf'/\At K H0 Hf0 (frz i ρ) σ H Hf':=by
 unfold frz
 split
 ·rename_i ds eo
  obtain⟨v,h1,b,vs,rfl,h2,h3,h4,h5⟩:=a.sl.is i _ eo
  have g:Grow H0 Hf0 H (upd Hf b (.lst vs)):=a.gr.freeze h2 h3 h4
  refine⟨upd Hf b (.lst vs),D7 h3,g,⟨by simpa using a.sl.len,fun j bb z=>?_,fun j k ds1 es c q1 q2 q3 q4=>?_⟩⟩
  ·have hi:i < ρ.length:=(List.getElem?_eq_some_iff.mp eo).1
   by_cases qj:i=j
   ·subst qj
    rw[List.getElem?_set_self hi]at z
    cases z
    exact⟨_,h1,b,vs,rfl,SqL.of C1,h5.mono (D7 h3)⟩
   ·rw[List.getElem?_set_ne qj]at z
    obtain⟨u,z1,z2⟩:=a.sl.is j bb z
    refine⟨u,z1,?_⟩
    cases bb with
    | val d=>exact Rep.mono (D7 h3) z2
    | exc C =>
     obtain⟨a',o',C',y1,y2,y3⟩:=z2
     exact⟨a',o',C',y1,D7 h3 _ _ y2,y3⟩
    | own dd =>
     obtain⟨a',vs',y1,y2,y3,y4,y5⟩:=z2
     have ne:a'≠b:=fun zz=>by
      subst zz y1
      exact qj (a.sl.apart i j ds dd a' eo z h1 z1)
     exact⟨a',vs',y1,y2,by rw[D4 ne];exact y3,y4,y5.mono (D7 h3)⟩
  ·have hi:i < ρ.length:=(List.getElem?_eq_some_iff.mp eo).1
   have qj:i≠j:=fun z=>by subst z;rw[List.getElem?_set_self hi]at q1;cases q1
   have qk:i≠k:=fun z=>by subst z;rw[List.getElem?_set_self hi]at q2;cases q2
   rw[List.getElem?_set_ne qj]at q1
   rw[List.getElem?_set_ne qk]at q2
   exact a.sl.apart j k ds1 es c q1 q2 q3 q4
 ·exact⟨Hf,E2.refl _,a⟩
noncomputable def av8(i:Nat) (f:DS):DS:=fun ρ=>f (frz i ρ)
theorem bQ2(i:Nat) {st:Stmt}{f:DS}(h:JS X st f):JS X st (av8 i f):=fun ρ fl q H0 Hf0=>K8 (h (frz i ρ) fl q H0 Hf0) fun En σ H ⟨Hf,a,e⟩=>by
 obtain⟨Hf',s,a'⟩:=bU5 i a
 exact⟨Hf',a',Fl.ends_mono e s⟩
noncomputable def bY8(K:PySem.W.Frag) (H0 Hf0:Hp) (f:DS):TS:=fun En σ H=>∃ρ fl,f ρ=some fl/\tJS K H0 Hf0 ρ fl En σ H
theorem aO1{sts:List Stmt}{f:DS}{H0 Hf0:Hp}(h:JSs X sts f):PSs X sts (bY8 X.K H0 Hf0 f):=fun pins s σ H En I ⟨ρ,fl,e,t⟩=>h ρ fl e H0 Hf0 pins s σ H En I t
theorem bK0{e:Expr}{c:Rho->Option Bool}(h:JT X e c):PT X e (ar0 X.K c):=fun pins s σ H Q I ⟨ρ,b,e,t⟩=>h ρ b e pins s σ H Q I t
noncomputable def Q9(t:Rho->Option Bool) (f:DS):Nat->DS
 | 0=>fun _=>none
 | n+1=>fun ρ=>(t ρ).bind fun c=>if c then(f ρ).bind fun fl=>match fl with
   | .nx ρ'=>Q9 t f n ρ'
   | .ct ρ'=>Q9 t f n ρ'
   | .bk ρ'=>some (.nx ρ')
   | .rt d=>some (.rt d)
  else some (.nx ρ)
theorem aa8{t:Rho->Option Bool}{f:DS}:∀{n:Nat}{ρ:Rho}{fl:Fl},Q9 t f n ρ=some fl->Q9 t f (n+1) ρ=some fl
 | 0,_,_,h=>by cases h
 | n+1,ρ,fl,h=>by
  obtain⟨c,e1,h⟩:=xbm h
  show(t ρ).bind _=_
  rw[e1]
  cases c with
  | false=>exact h
  | true =>
   obtain⟨fl1,e2,h⟩:=xbm h
   show(f ρ).bind _=_
   rw[e2]
   cases fl1 with
   | nx ρ'=>exact aa8 (n:=n) h
   | ct ρ'=>exact aa8 (n:=n) h
   | bk ρ'=>exact h
   | rt d=>exact h
theorem aD3{t:Rho->Option Bool}{f:DS}{n m:Nat}{ρ:Rho}{fl:Fl}(h:Q9 t f n ρ=some fl) (l:n<=m):Q9 t f m ρ=some fl:=by
 induction l with
 | refl=>exact h
 | step _ ih=>exact aa8 ih
open Classical in
noncomputable def j9(t:Rho->Option Bool) (f:DS):DS:=fun ρ=>if h:∃fl n,Q9 t f n ρ=some fl then some h.choose else none
theorem aU5{t:Rho->Option Bool}{f:DS}{n:Nat}{ρ:Rho}{fl:Fl}(h:Q9 t f n ρ=some fl):j9 t f ρ=some fl:=by
 have hx:∃fl n,Q9 t f n ρ=some fl:=⟨fl,n,h⟩
 unfold j9
 rw[dif_pos hx]
 obtain⟨m,hm⟩:=hx.choose_spec
 have h1:=aD3 h (Nat.le_max_left n m)
 have h2:=aD3 hm (Nat.le_max_right n m)
 rw[h1]at h2
 exact h2.symm
theorem aV1{t:Rho->Option Bool}{f:DS}{ρ:Rho}{fl:Fl}(h:j9 t f ρ=some fl):∃n,Q9 t f n ρ=some fl:=by
 unfold j9 at h
 split at h
 ·rename_i hx
  cases h
  exact hx.choose_spec
 ·cases h
theorem bj3{c:Expr}{body:List Stmt}{t:Rho->Option Bool}{f:DS}{pos:Pos}(hc:JT X c t) (hb:JSs X body f) (hp:PassesOwn (model X.prog X.w) X.A X.env X.xe:=by exact PassesOwn.never):JS X (.While c body [] pos) (j9 t f):=fun ρ fl q H0 Hf0=>by
 obtain⟨n,hn⟩:=aV1 q
 refine K8 (be8 hp (bK0 hc) (aO1 (H0:=H0) (Hf0:=Hf0) hb)) fun En σ H ⟨Hf,a,e⟩=>?_
 refine⟨fun m σ H=>∃Hf' ρ',At X.K H0 Hf0 ρ' σ H Hf'/\E2 Hf Hf'/\Q9 t f m ρ'=some fl,⟨n,Hf,ρ,a,E2.refl _,hn⟩,?_⟩
 rintro m σ' H' ⟨Hf',ρ',a',s',hm⟩
 cases m with
 | zero=>cases hm
 | succ m =>
  obtain⟨b,e1,hm⟩:=xbm hm
  refine⟨ρ',b,e1,H0,Hf',a'.gr.sub,a'.sl,fun H2 Hf2 g2=>?_⟩
  have a2:=a'.grow g2
  have s2:=s'.trans g2.ext
  cases b with
  | false =>
   have:fl=.nx ρ':=by simpa using hm.symm
   subst this
   exact am9 (e σ' H2 Hf2 a2 s2)
  | true =>
   obtain⟨fl1,e2,hm⟩:=xbm (show(f ρ').bind _=some fl from hm)
   refine am8 ⟨fun σ3 H3=>∃m',m' < m+1/\∃Hf' ρ',At X.K H0 Hf0 ρ' σ3 H3 Hf'/\E2 Hf Hf'/\Q9 t f m' ρ'=some fl,fun σ3 H3 z=>z,ρ',fl1,e2,Hf2,a2,?_⟩
   cases fl1 with
   | nx ρ3=>exact fun σ3 H3 Hf3 a3 s3=>⟨m,Nat.lt_succ_self _,Hf3,ρ3,a3,s2.trans s3,hm⟩
   | ct ρ3=>exact fun σ3 H3 Hf3 a3 s3=>⟨m,Nat.lt_succ_self _,Hf3,ρ3,a3,s2.trans s3,hm⟩
   | bk ρ3 =>
    cases hm
    exact fun σ3 H3 Hf3 a3 s3=>e σ3 H3 Hf3 a3 (s2.trans s3)
   | rt d =>
    cases hm
    exact e
noncomputable def Z7(g:D->Rho->Option Rho) (f:DS):List D->DS
 | []=>fun ρ=>some (.nx ρ)
 | d::ds=>fun ρ=>(g d ρ).bind fun ρ1=>(f ρ1).bind fun fl=>match fl with
   | .nx ρ'=>Z7 g f ds ρ'
   | .ct ρ'=>Z7 g f ds ρ'
   | .bk ρ'=>some (.nx ρ')
   | .rt d=>some (.rt d)
noncomputable def S2(src:Rho->Option (List D)) (g:D->Rho->Option Rho) (f:DS):DS:=fun ρ=>(src ρ).bind fun ds=>Z7 g f ds ρ
theorem bQ3{tg iter:Expr}{body:List Stmt}{src:Rho->Option (List D)}{g:D->Rho->Option Rho}{f:DS}{pos:Pos}(hi:JI X tg iter src) (hg:JG X tg g) (hb:JSs X body f) (hp:PassesOwn (model X.prog X.w) X.A X.env X.xe:=by exact PassesOwn.never) (hc:X.calm=true:=by rfl)
  (hs:∀x,foldedSetIterable iter X.env x=pure x:=by intro _;rfl):JS X (.For tg iter body [] pos) (S2 src g f):=fun ρ fl q H0 Hf0=>by
 obtain⟨ds,e1,e2⟩:=xbm q
 refine K8 (bK3 hp hc (hi ρ ds e1) hg (aO1 (H0:=H0) (Hf0:=Hf0) hb) hs) fun En σ H ⟨Hf,a,e⟩=>⟨H0,Hf,a.gr.sub,a.sl,fun J H1 Hf1 g1 Y=>?_⟩
 refine⟨fun i m σ H=>m=ds.length - i/\i<=ds.length/\∃Hf' ρ',At X.K H0 Hf0 ρ' σ H Hf'/\E2 Hf1 Hf'/\Z7 g f (ds.drop i) ρ'=some fl,⟨ds.length,by simp,Nat.zero_le _,Hf1,ρ,a.grow g1,E2.refl _,by simpa using e2⟩,?_⟩
 rintro i m σ' H' ⟨rfl,hi,Hf',ρ',a',s',hm⟩
 obtain⟨Ys,Yg⟩:=Y i H' Hf' s' a'.gr.sub
 rcases Nat.lt_or_ge i ds.length with hlt|hge
 ·right
  obtain⟨go,yl⟩:=Yg ds[i] (by simp[hlt])
  rw[List.drop_eq_getElem_cons hlt]at hm
  obtain⟨ρ1,c1,hm⟩:=xbm hm
  obtain⟨fl1,c2,hm⟩:=xbm hm
  refine⟨go,fun σ3 H3=>∃m',m' < ds.length - i/\m'=ds.length - (i+1)/\i+1<=ds.length/\∃Hf' ρ',At X.K H0 Hf0 ρ' σ3 H3 Hf'/\E2 Hf1 Hf'/\Z7 g f (ds.drop (i+1)) ρ'=some fl,fun σ3 H3 ⟨m',z1,z2⟩=>⟨m',z1,z2⟩,fun x H2 hy=>?_⟩
  obtain⟨Hf2,g2,r2⟩:=yl x H2 hy
  have a2:=a'.grow g2
  refine⟨ds[i],ρ',ρ1,H0,Hf2,c1,g2.sub,a2.sl,r2,fun σ3 sl3=>⟨ρ1,fl1,c2,Hf2,⟨a2.gr,sl3⟩,?_⟩⟩
  have s2:=s'.trans g2.ext
  cases fl1 with
  | nx ρ3=>exact fun σ3 H3 Hf3 a3 s3=>⟨_,by omega,rfl,hlt,Hf3,ρ3,a3,s2.trans s3,hm⟩
  | ct ρ3=>exact fun σ3 H3 Hf3 a3 s3=>⟨_,by omega,rfl,hlt,Hf3,ρ3,a3,s2.trans s3,hm⟩
  | bk ρ3 =>
   cases hm
   exact fun σ3 H3 Hf3 a3 s3=>e σ3 H3 Hf3 a3 (g1.ext.trans (s2.trans s3))
  | rt d =>
   cases hm
   exact e
 ·left
  have:i=ds.length:=by omega
  subst this
  rw[List.drop_length]at hm
  cases hm
  exact⟨Ys (Nat.le_refl _),e σ' H' Hf' a' (g1.ext.trans s')⟩
theorem bx3{pos:Pos}:JS X (.Pass pos) C5:=fun ρ fl q H0 Hf0=>by
 cases q
 exact K8 bt4 fun En σ H ⟨Hf,a,e⟩=>e σ H Hf a (E2.refl _)
theorem bQ5{pos:Pos}:JS X (.Break pos) (fun ρ=>some (.bk ρ)):=fun ρ fl q H0 Hf0=>by
 cases q
 exact K8 bf0 fun En σ H ⟨Hf,a,e⟩=>e σ H Hf a (E2.refl _)
end
noncomputable def ae7(n:Nat) (ds:List D):Rho:=ds.map (fun d=>some (B.val d))++List.replicate (n - ds.length) none
noncomputable def D1(g:DS) (n:Nat):List D->Option D:=fun ds=>(g (ae7 n ds)).bind fun fl=>match fl with
 | .rt d=>some d
 | .nx _=>some .none
 | _=>none
theorem aB0{K:PySem.W.Frag}{H0 H Hf:Hp}{N:List Str}{ds:List D}{vs:List V}(r:Reps K Hf ds vs):Slots K H0 (ae7 N.length ds) (L2.V3 N vs) H Hf:=by
 have hl:=r.length
 have noown:∀(i:Nat) (b:B),(ae7 N.length ds)[i]? = some (some b)->∃d,ds[i]? = some d/\b=.val d:=fun i b h=>by
  unfold ae7 at h
  rcases Nat.lt_or_ge i ds.length with q|q
  ·rw[List.getElem?_append_left (by simpa using q),List.getElem?_map]at h
   rw[List.getElem?_eq_getElem q]at h ⊢
   simp only[Option.map_some,Option.some.injEq]at h
   exact⟨ds[i],rfl,h.symm⟩
  ·rw[List.getElem?_append_right (by simpa using q),List.getElem?_replicate]at h
   split at h<;>cases h
 refine⟨by simp[ae7,L2.V3,hl],fun i b e=>?_,fun i j d1 d2 a e1 _ _ _=>?_⟩
 ·obtain⟨d,h1,h2⟩:=noown i b e
  subst h2
  obtain⟨v,h3,h4⟩:=r.get h1
  refine⟨v,?_,h4⟩
  have hi:i < vs.length:=(List.getElem?_eq_some_iff.mp h3).1
  unfold L2.V3
  rw[List.getElem?_append_left (by simpa using hi),List.getElem?_map,h3];rfl
 ·obtain⟨d,_,h2⟩:=noown i _ e1
  cases h2
theorem bA2{P:Program}{w:World}{K:PySem.W.Frag}{mg:Str->Option Value}{base:Heap}{x qual:Str}{st:Stmt}{f:Addr}{fd:FuncData}{N ps:List Str}{k:Nat}{g:DS}(F:Fun K x qual st f fd) (S:FnScope N ps (F3 st))
  (hb:∀(cdv:Value) (A:Around) (outer:List Env) (s:Shared) (H:Hp) (E:XK),Room k (A.deeper (envOfC qual (F3 st) s.heap.objs.size f cdv))->JSs (aK5 CX0 P w K mg base N qual (F3 st) f cdv A outer s H E).nox (N8 st) g) :
  FnOk P w K mg base CX0 (k+1) f fd ps (spF K ps.length (D1 g N.length)):=by
 refine F.ok S (fun vs H Q E h=>h.1) fun cdv A outer s H vs Q E hr hsp=>?_
 obtain⟨hlen,Hf,ds,d,ss,rp,e,kk⟩:=hsp
 obtain⟨fl,e1,e2⟩:=xbm e
 refine⟨_,hb cdv A outer s H E hr _ fl e1 H Hf,Hf,⟨Grow.refl ss,aB0 rp⟩,?_⟩
 cases fl with
 | rt d'=>cases e2;exact fun v H' Hf' g r=>kk v H' Hf' g r
 | nx ρ=>cases e2;exact fun σ' H' Hf' a _=>kk _ H' Hf' a.gr rfl
 | bk ρ=>cases e2
 | ct ρ=>cases e2
section
variable {prog:Program}{w:World}{A:Around}{E:Value->Shared->Prop}{s:Shared}{t t1 t2:Bool}
end
section
variable {prog:Program}{w:World}{A:Around}{E:Value->Shared->Prop}{s:Shared}{t1 t2:Bool}
end
section
variable {X:Cx}
noncomputable def ay8(f g:Rho->Option (Bool×List D)):Rho->Option (List D):=fun ρ=>(f ρ).bind fun p=>(g ρ).bind fun q=>some ((p.2.zip q.2).map fun(x,y)=>PyData.tuple [x,y])
end
theorem ag9:fillsNumberSlot (.type "tuple") "mul" = pure false:=PySem.fillsNumberSlot_seq (id := "tuple.__mul__") (r:=some (.builtin "tuple.__rmul__")) F.slot_tuple_mul.lookup (by decide +kernel) F.slot_tuple_rmul.lookup (by decide +kernel)
theorem ar7:seqRepeat? (.type "tuple")=pure (some (.builtin "tuple.__mul__")):=by
 unfold seqRepeat?
 rw[PySem.seqSlot_of (T := "tuple") (name := "__mul__") (id := "tuple.__mul__") F.slot_tuple_mul.lookup (by decide +kernel),PySem.seqSlot_of (T := "tuple") (name := "__rmul__") (id := "tuple.__rmul__") F.slot_tuple_rmul.lookup (by decide +kernel)];rfl
theorem ac4(a:Int) (t:Tok) (l:Addr) (items:Array Value) (n:Nat) (dd:Option Addr) (sl:Array (Option Value)) :
  Meets (Builtin.«int.__rmul__» ⟨[.int a t,.ref l],[]⟩) (fun _ R s=>s.heap.get? l=some ⟨.type "tuple", dd,.seq items n,sl⟩/\R (.ok (.ret Value.notImplemented)) s) :=
 .of_wp fun prog w A R s h=>by obtain⟨hp,g,d,tk,os⟩:=s;obtain⟨hl,h⟩:=h;wp_walk;exact⟨_,rfl,h⟩
theorem aH9(items:Array Value) (k:Nat):List.foldl (fun x1 x2=>x1++x2) #[] (List.replicate k items)=(List.replicate k items.toList).flatten.toArray:=by
 have:=at3 items.toList k []
 rw[List.nil_append]at this
 simpa using this
theorem aC6(l:Addr) (items:Array Value) (n:Nat) (dd:Option Addr) (sl:Array (Option Value)) (x:Int) (u:Tok) (h2:2<=x) (h3:x < 1000000) (he:items.isEmpty=false) (hz:items.size*x.toNat<=sizeLine) :
  Meets (Builtin.«tuple.__mul__» ⟨[.ref l,.int x u],[]⟩) (fun _ R s=>s.heap.get? l=some ⟨.type "tuple", dd,.seq items n,sl⟩/\R (.ok (.ret (Value.ref s.heap.objs.size))) { s with heap:=s.heap.push { cls:=Value.type "tuple", data:=Data.seq (List.foldl (fun x1 x2=>x1++x2) #[] (List.replicate x.toNat items)) } }) :=
 .of_wp fun prog w A R s h=>by
  obtain⟨hp,g,d,tk,os⟩:=s
  obtain⟨hl,h⟩:=h
  have hm:(items.size:Int)*x<=16777216:=by
   have e:((items.size*x.toNat:Nat):Int)=(items.size:Int)*x:=by rw[Int.natCast_mul,Int.toNat_of_nonneg (by omega)]
   have:items.size*x.toNat<=16777216:=by rw[← sizeLine_eq];exact hz
   omega
  wp_walk
  refine wpAny_ite_false (by simp;omega) ?_
  have ht:Heap.IsTuple (Shared.heap ⟨hp,g,d,tk,os⟩) l items:=⟨_,hl,rfl,n,rfl⟩
  refine wpAny_bind (tupleItemsOf_ ht ?_)
  refine wpAny_ite_false (by rw[he];simp;omega) ?_
  show wpAny _ _ (if(decide (x<=0) || items.isEmpty)=true then _ else _) _ _ _
  refine wpAny_ite_false (by rw[he];simp;omega) ?_
  show wpAny _ _ (if(items.size:Int)*x > (2 ^ 63 - 1) / 8 then _ else _) _ _ _
  rw[if_neg (by omega)]
  show wpAny _ _ (if Builtin.Tuple.tupleTooMany ((items.size:Int)*x)=true then _ else _) _ _ _
  rw[if_neg (by unfold Builtin.Tuple.tupleTooMany;rw[sizeLine_eq];simp;omega)]
  refine wpAny_bind (m:=Builtin.Tuple.tupleExact _) (wpAny_newObj_type (wpAny_pure ⟨_,rfl,h⟩) ?_)
  show(List.foldl (fun x1 x2=>x1++x2) #[] (List.replicate x.toNat items)).size<=sizeLine
  rw[aH9 items x.toNat,List.size_toArray,ay0,Array.length_toList,Nat.mul_comm]
  exact hz
section
variable {X:Cx}
theorem bu8:OpR X (binaryOp .Mult) (fun x y H Q=>∃l k xs,x=.ref l/\y=.int k/\SqT X.K H l xs/\xs≠[]/\2<=k/\k < 1000000/\xs.length*k.toNat<=sizeLine/\∀p,H p=none->Q (.ref p) (upd H p (.tup (List.replicate k.toNat xs).flatten))):=by
 intro pins s σ H x y v u Q I rx ry h
 obtain⟨l,k,xs,rfl,rfl,hq,hx,h2,h3,hz,q⟩:=h
 cases rx
 obtain⟨t,rfl⟩:=ry
 obtain⟨its,r,p1,_⟩:=I.tuple hq
 obtain⟨⟨cls,dd,data,sl⟩,ho,hc,n,hd⟩:=id p1
 simp only at hc hd
 subst hc hd
 have hl:=r.length
 have he:its.toArray.isEmpty=false:=by
  cases its with
  | nil=>exact absurd (r.nil_iff.mp rfl) hx
  | cons a b=>rfl
 refine wpAny_binaryOp_repeat_ref (T := "tuple") (U := "int") (by decide) ⟨_,ho,rfl⟩ (fun s'=>typeIs_int s' k t) ag9 F.fills_int_mul F.slot_int_rmul ar7 F.slot_int_index.lookup
  (call_meets F.slot_int_rmul (typeIs_int s k t) F.entry_int_rmul (F.args_int_rmul_2 _ _) (ac4 k t l its.toArray n dd sl) ⟨ho,rfl,⟨_,ho,rfl⟩,
   call_meets F.slot_tuple_mul ⟨_,ho,rfl⟩ F.entry_tuple_mul (F.args_tuple_mul_2 _ _) (aC6 l its.toArray n dd sl k t h2 h3 he (by rw[List.size_toArray,← hl];exact hz)) ⟨ho,?_⟩⟩)
 rw[aH9]
 refine⟨.ref _,_,I.laid (t':=s.toks) (o:=.tup (List.replicate k.toNat xs).flatten) (fun b ob q=>Heap.get?_push_of_some _ q) (Nat.le_refl _) ⟨?_,_,r.rep k.toNat,ao8.new _ _⟩,rfl,q _ (I.hok.fresh (Nat.le_refl _))⟩
 rw[ay0,Nat.mul_comm];exact hz
noncomputable def m8(x y:D):Option D:=match x,y with
 | .int i,.int j=>if E3 i/\E3 j then some (.int (i*j)) else none
 | .tuple xs,.int k=>if xs.isEmpty=false/\2<=k/\k < 1000000/\xs.length*k.toNat<=16777216 then some (.tuple (List.replicate k.toNat xs).flatten) else none
 | _,_=>none
theorem ax1:OpD X (binaryOp .Mult) m8:=fun x y z h=>by
 unfold m8 at h
 split at h
 ·exact bM2 _ _ z (by unfold bN8;exact h)
 ·split at h
  ·rename_i xs k c
   cases h
   refine OpR.imp bu8 fun vx vy H Q ⟨Hf,s,r1,r2,kk⟩=>?_
   obtain⟨a,vs,rfl,h2,h3⟩:=r1
   refine⟨a,k,vs,rfl,r2,C8 s h2,?_,c.2.1,c.2.2.1,by rw[h3.length,sizeLine_eq];exact c.2.2.2,fun p hp=>?_⟩
   ·intro e
    subst e
    have:=h3.length
    cases xs with
    | nil=>exact absurd c.1 (by simp)
    | cons a b=>simp at this
   ·exact kk _ _ _ (Grow.laid s hp) ⟨p,_,rfl,SqT.of C1,(h3.flatten k.toNat).mono (D7 (s.free hp))⟩
  ·cases h
 ·cases h
noncomputable def Y0(f:DE):DE:=fun ρ=>(f ρ).bind fun d=>match d with
 | .int i=>some (.int (-i))
 | _=>none
theorem bk2{a:Expr}{f:DE}{pos:Pos}(h:JE X a f):JE X (.UnaryOp .USub a pos) (Y0 f):=fun ρ d q=>by
 obtain⟨x,e1,e2⟩:=xbm q
 cases x with
 | int i =>
  cases e2
  exact B4 (cb0 bI4 (h ρ _ e1)) fun σ H Q ⟨H0,Hf,s,sl,k⟩=>⟨H0,Hf,s,sl,fun v H1 Hf1 g1 r1=>⟨_,r1,k _ H1 Hf1 g1 rfl⟩⟩
 | _=>cases e2
noncomputable def isB(x y:D):Option D:=match y with
 | .bool b=>(match x with
  | .bool c=>some (.bool (c==b))
  | .dict _=>none
  | _=>some (.bool false))
 | .none=>isN x .none
 | _=>none
noncomputable def am0(x y:D):Option D:=match y with
 | .bool b=>(match x with
  | .bool c=>some (.bool (!(c==b)))
  | .dict _=>none
  | _=>some (.bool true))
 | .none=>bM7 x .none
 | _=>none
theorem cc3:OpD X (compareOp .Is) isB:=fun x y z h=>by
 cases y with
 | none=>exact bM4 x .none z h
 | bool b =>
  intro pins s σ H vx vy v u Q I rx ry ⟨Hf,ss,r1,r2,k⟩
  cases r2
  cases ry
  have fin:∀c,z=.bool c->(v==Value.bool b)=c->EP X pins σ Q (.bool (v==Value.bool b)) s:=fun c e1 e2=>by rw[e2];subst e1;exact⟨.bl c,H,I,rfl,k _ H Hf (Grow.refl ss) rfl⟩
  cases x with
  | none=>cases r1;cases rx;cases h;exact wpAny_is_plain rfl (fin _ rfl rfl)
  | bool c=>cases r1;cases rx;cases h;exact wpAny_is_plain rfl (fin _ rfl (by cases c<;>cases b<;>rfl))
  | int i=>cases r1;obtain⟨t,rfl⟩:=rx;cases h;exact wpAny_is_plain rfl (fin _ rfl rfl)
  | str i=>cases r1;obtain⟨t,rfl⟩:=rx;cases h;exact wpAny_is_plain rfl (fin _ rfl rfl)
  | tuple ds=>obtain⟨a,vs,rfl,_⟩:=r1;cases rx;cases h;exact wpAny_is_plain rfl (fin _ rfl rfl)
  | list ds=>obtain⟨a,vs,rfl,_⟩:=r1;cases rx;cases h;exact wpAny_is_plain rfl (fin _ rfl rfl)
  | dict ds=>cases h
 | _=>cases h
theorem bh1:OpD X (compareOp .IsNot) am0:=fun x y z h=>by
 cases y with
 | none=>exact bv5 x .none z h
 | bool b =>
  intro pins s σ H vx vy v u Q I rx ry ⟨Hf,ss,r1,r2,k⟩
  cases r2
  cases ry
  have fin:∀c,z=.bool c->(!(v==Value.bool b))=c->EP X pins σ Q (.bool (!(v==Value.bool b))) s:=fun c e1 e2=>by rw[e2];subst e1;exact⟨.bl c,H,I,rfl,k _ H Hf (Grow.refl ss) rfl⟩
  cases x with
  | none=>cases r1;cases rx;cases h;exact wpAny_isNot_plain rfl (fin _ rfl rfl)
  | bool c=>cases r1;cases rx;cases h;exact wpAny_isNot_plain rfl (fin _ rfl (by cases c<;>cases b<;>rfl))
  | int i=>cases r1;obtain⟨t,rfl⟩:=rx;cases h;exact wpAny_isNot_plain rfl (fin _ rfl rfl)
  | str i=>cases r1;obtain⟨t,rfl⟩:=rx;cases h;exact wpAny_isNot_plain rfl (fin _ rfl rfl)
  | tuple ds=>obtain⟨a,vs,rfl,_⟩:=r1;cases rx;cases h;exact wpAny_isNot_plain rfl (fin _ rfl rfl)
  | list ds=>obtain⟨a,vs,rfl,_⟩:=r1;cases rx;cases h;exact wpAny_isNot_plain rfl (fin _ rfl rfl)
  | dict ds=>cases h
 | _=>cases h
noncomputable def bW9(K:PySem.W.Frag) (d:D) (u:Value):Prop:=∃v,D3 v u/\∀H:Hp,Rep K H d v
theorem bS6{x:Str}{d:D}{u:Value}{pos:Pos}(r:bW9 X.K d u) (hg:Gl X x) (hm:X.mg x=some u) (hd:(x==("__debug__" : Str))=false:=by decide):JE X (.Name x pos) (dC d):=fun ρ d' q=>by
 cases q
 obtain⟨v,rv,rp⟩:=r
 exact B4 (bu1 hg hm rv hd) fun σ H Q ⟨H0,Hf,s,sl,k⟩=>k _ H Hf (Grow.refl s) (rp Hf)
noncomputable def qN(f:Rho->Option (List D)):Rho->Option (Bool×List D):=fun ρ=>(f ρ).map fun ds=>(false,ds)
theorem bQ8{e:Expr}{f:Rho->Option (List D)}(h:JN X e f):JQ X e (qN f):=bj6 h
noncomputable def O6(f:Rho->Option (Bool×List D)):DE:=fun ρ=>(f ρ).bind fun q=>if q.1=true then none else some (.tuple q.2)
theorem by4{e:Expr}{f:Rho->Option (Bool×List D)}{p pos:Pos}(hg:Gl X "tuple") (hm:X.mg "tuple" = none) (h:JQ X e f) (he:starEach [e] X.env=[(false,eval e X.env)]:=by rfl):JE X (.Call (.Name "tuple" p) [e] [] pos) (O6 f):=bk0 hg hm h (he:=he)
end
theorem ba7(l b:Addr) (items items2:Array Value) (n n2:Nat) (dd dd2:Option Addr) (sl sl2:Array (Option Value)) (hz:items.size+items2.size<=sizeLine) :
  Meets (Builtin.«list.__add__» ⟨[.ref l,.ref b],[]⟩) (fun _ R s=>s.heap.get? l=some ⟨.type "list", dd,.seq items n,sl⟩/\s.heap.get? b=some ⟨.type "list", dd2,.seq items2 n2,sl2⟩/\R (.ok (.ret (Value.ref s.heap.objs.size))) { s with heap:=s.heap.push { cls:=Value.type "list", data:=Data.seq (items++items2) } }) :=
 .of_wp fun prog w A R s h=>by
  obtain⟨hp,g,d,tk,os⟩:=s
  obtain⟨hl,hb,h⟩:=h
  have hsub:isSubtype (.type "list") (.type "list")=pure true:=by rw[isSubtype_type];kernel_rfl
  have hsz:=hz
  wp_walk
  exact⟨_,rfl,h⟩
section
variable {X:Cx}
theorem aO9:OpR X (binaryOp .Add) (fun x y H Q=>∃a b xs ys,x=.ref a/\y=.ref b/\SqL X.K H a xs/\SqL X.K H b ys/\xs.length+ys.length<=sizeLine/\∀p,H p=none->Q (.ref p) (upd H p (.lst (xs++ys)))):=by
 intro pins s σ H x y v u Q I rx ry h
 obtain⟨a,b,xs,ys,rfl,rfl,ha,hb,hz,q⟩:=h
 cases rx
 cases ry
 obtain⟨its,r1,p1,_⟩:=I.list ha
 obtain⟨its2,r2,p2,_⟩:=I.list hb
 obtain⟨⟨cls,dd,data,sl⟩,ho,hc,n,hd⟩:=p1.isList
 obtain⟨⟨cls2,dd2,data2,sl2⟩,ho2,hc2,n2,hd2⟩:=p2.isList
 simp only at hc hd hc2 hd2
 subst hc hd hc2 hd2
 have l1:=r1.length
 have l2:=r2.length
 refine concat_meets ⟨_,ho,rfl⟩ ⟨_,ho2,rfl⟩ noFill_list_add seq_list_add PySem.F.slot_list_add PySem.F.entry_list_add (PySem.F.args_list_add_2 _ _) (ba7 a b its.toArray its2.toArray n n2 dd dd2 sl sl2 (by simp only[List.size_toArray];omega)) ⟨ho,ho2,?_⟩
 have ea:its.toArray++its2.toArray=(its++its2).toArray:=by simp
 rw[ea]
 exact⟨.ref _,_,I.lnew (t':=s.toks) (r1.append r2) (by rw[List.length_append];omega),rfl,q _ I.fresh⟩
noncomputable def A9(x y:D):Option D:=match x,y with
 | .list xs,.list ys=>if xs.length+ys.length<=16777216 then some (.list (xs++ys)) else none
 | x,y=>Z8 x y
theorem bv7:OpD X (binaryOp .Add) A9:=fun x y z h=>by
 unfold A9 at h
 split at h
 ·split at h
  ·rename_i c
   cases h
   refine OpR.imp aO9 fun vx vy H Q ⟨Hf,s,r1,r2,k⟩=>?_
   obtain⟨a,vs,rfl,h2,h3⟩:=r1
   obtain⟨b,us,rfl,h5,h6⟩:=r2
   refine⟨a,b,vs,us,rfl,rfl,F2 s h2,F2 s h5,by rw[h3.length,h6.length,sizeLine_eq];exact c,fun p hp=>?_⟩
   exact k _ _ _ (Grow.laid s hp) ⟨p,vs++us,rfl,SqL.of C1,(h3.append h6).mono (D7 (s.free hp))⟩
  ·cases h
 ·exact bh2 _ _ z h
noncomputable def bG2(f:DE):DE:=fun ρ=>(f ρ).bind fun d=>match d with
 | .tuple xs=>some (.tuple xs.reverse)
 | _=>none
end
section
variable {prog:Program}{w:World}{A:Around}{E:Value->Shared->Prop}{s:Shared}
theorem aL5(n:Nat):Builtin.Slice.sliceAdjust none none (-1) (n:Int)=((n:Int) - 1,-1):=by
 unfold Builtin.Slice.sliceAdjust
 have h1:(-1:Int) < 0:=by omega
 simp only[h1,if_true]
theorem aI2(n:Nat):Builtin.Slice.slicePlaces ((n:Int) - 1) (-1) (-1)=n:=by
 unfold Builtin.Slice.slicePlaces
 have h1:¬(-1:Int) > 0:=by omega
 have h2:-(-1:Int)=1:=by omega
 simp only[h1,if_false,h2,Int.ediv_one]
 split<;>omega
theorem ae8{sl:Addr}{t:Tok}{n:Nat}{Q:Int×Int×Nat->Shared->Prop}(hs:s.heap.IsSliceOf sl .none .none (.int (-1) t))
  (h:Q ((n:Int) - 1,-1,n) s):wpAny (model prog w) A (Builtin.Slice.sliceApplied (.ref sl) (pure (n:Int))) Q E s:=by
 obtain⟨os,hos,hcs,hds⟩:=id hs
 unfold Builtin.Slice.sliceApplied Builtin.Slice.sliceFields
 refine wpAny_bind (wpAny_bind (wpAny_field hos hds (x:=.none) rfl (wpAny_bind (wpAny_field hos hds (x:=.none) rfl (wpAny_bind (wpAny_field hos hds (x:=.int (-1) t) rfl (wpAny_pure ?_)))))))
 refine wpAny_bind (slicePart_int ?_)
 show wpAny _ _ (if((-1:Int)==0)=true then _ else _) _ _ s
 rw[if_neg (by decide)]
 refine wpAny_bind (slicePart_none (wpAny_bind (slicePart_none (wpAny_bind (wpAny_pure ?_)))))
 show wpAny _ _ (match Builtin.Slice.sliceAdjust none none (-1) (n:Int) with|(lo,hi)=>pure (lo,(-1:Int),Builtin.Slice.slicePlaces lo hi (-1))) _ _ s
 rw[aL5 n]
 show wpAny _ _ (pure ((n:Int) - 1,(-1:Int),Builtin.Slice.slicePlaces ((n:Int) - 1) (-1) (-1))) _ _ s
 rw[aI2]
 exact wpAny_pure h
theorem aB8{α:Type}:∀l:List α,(List.range l.length).filterMap (fun k=>l[k]?)=l
 | []=>rfl
 | a::l=>by
  rw[List.length_cons,List.range_succ_eq_map,List.filterMap_cons,List.filterMap_map]
  simp only[List.getElem?_cons_zero]
  congr 1
  exact aB8 l
theorem aD7{α β:Type}{f g:α->Option β}:∀{l:List α},(∀x∈l,f x=g x)->l.filterMap f=l.filterMap g
 | [],_=>rfl
 | a::l,h=>by rw[List.filterMap_cons,List.filterMap_cons,h a (List.mem_cons_self ..),aD7 fun x hx=>h x (xmm _ hx)]
theorem bf5(xs:Array Value):((List.range xs.size).filterMap fun(k:Nat)=>xs[(((xs.size:Int) - 1)+(k:Int) * -1).toNat]?).toArray=xs.toList.reverse.toArray:=by
 congr 1
 have e:∀k∈List.range xs.size,xs[(((xs.size:Int) - 1)+(k:Int) * -1).toNat]? = xs.toList.reverse[k]?:=by
  intro k hk
  have hk:=List.mem_range.mp hk
  have:(((xs.size:Int) - 1)+(k:Int) * -1).toNat=xs.size - 1 - k:=by omega
  rw[this,List.getElem?_reverse (by rw[Array.length_toList];exact hk),Array.length_toList,Array.getElem?_toList]
 rw[aD7 e]
 have:=aB8 xs.toList.reverse
 rw[List.length_reverse,Array.length_toList]at this
 exact this
theorem ad2{t sl:Addr}{items:Array Value}{k:Tok}{Q:Value->Shared->Prop}(ht:IsTup s.heap t items) (hs:s.heap.IsSliceOf sl .none .none (.int (-1) k))
  (h:Q (.ref s.heap.objs.size) { s with heap:=s.heap.push { cls:=.type "tuple", data:=.seq items.toList.reverse.toArray } })
  (hsz:items.size<=sizeLine):wpAny (model prog w) A (getItem (.ref t) (.ref sl)) Q E s:=by
 have htake:sizeOk (.seq items.toList.reverse.toArray):=by
  show items.toList.reverse.toArray.size<=sizeLine
  rw[List.size_toArray,List.length_reverse,Array.length_toList]
  omega
 obtain⟨os,hos,hcs,hds⟩:=id hs
 have hTs:s.TypeIs (.ref sl) "slice" := ⟨os,hos,hcs⟩
 unfold getItem
 try with_reducible refine wpAny_holding ?_
 first|refine wpAny_bind (wpAny_pure ?_)|skip
 refine wpAny_bind (wpAny_sequenceKey ht.typeIs (by decide) ?_)
 refine wpAny_bind (wpAny_callSpecial?_slot (name:=Str.ofString "__getitem__") ht.typeIs PyProof.Rows.slot_tuple_getitem
  (wpAny_call_entry PyProof.Rows.slot_tuple_getitem ht.typeIs entry_tuple_getitem ?_ (args_tuple_getitem _ _)))
 show wpAny _ _ (Builtin.Tuple.tupleItemsOf (.ref t) >>= _) _ _ s
 refine wpAny_bind (tupleItemsOf_ ht ?_)
 refine wpAny_bind (wpAny_typeOf hTs ?_)
 rw[if_pos (by decide)]
 refine wpAny_bind (ae8 hs ?_)
 have hno:¬((((items.size:Int) - 1)==0&&(-1:Int)==1&&items.size==items.size)=true):=by
  have:((-1:Int)==1)=false:=rfl
  rw[this];simp
 show wpAny _ _ (if(((items.size:Int) - 1)==0&&(-1:Int)==1&&items.size==items.size)=true then _ else _) _ _ s
 rw[if_neg hno,bf5]
 first
  | exact wpAny_bind (m:=Builtin.Tuple.tupleExact _) (wpAny_newObj_type (wpAny_pure ⟨_,rfl,wpAny_pure h⟩) htake)
  | exact wpAny_bind (m:=Builtin.Tuple.tupleExact _) (wpAny_newObj_type (wpAny_bind (wpAny_pure (wpAny_pure ⟨_,rfl,wpAny_pure h⟩))) htake)
  | exact wpAny_bind (wpAny_bind (m:=Builtin.Tuple.tupleExact _) (wpAny_newObj_type (wpAny_pure (wpAny_pure ⟨_,rfl,wpAny_pure h⟩)) htake))
  | exact wpAny_bind (wpAny_bind (m:=Builtin.Tuple.tupleExact _) (wpAny_newObj_type (wpAny_pure ⟨_,rfl,wpAny_pure h⟩) htake))
end
section
variable {X:Cx}{e st:Expr}{te ts:TE}{p2 pos:Pos}
theorem aA8:∀{xs:List V}{us:List Value},D5 xs us->D5 xs.reverse us.reverse
 | [],[],h=>h
 | x::xs,u::us,h=>by
  cases h with
  | cons a b=>rw[List.reverse_cons,List.reverse_cons];exact(aA8 b).append (.cons a .nil)
theorem bK9(he:PE X e te) (hs:PE X st ts):PE X (.Subscript e (.Slice none none (some st) p2) pos)
  (fun σ H Q=>te σ H fun x H1=>ts σ H1 fun y H2=>∃a xs,x=.ref a/\y=.int (-1)/\SqT X.K H2 a xs/\∀p,H2 p=none->Q (.ref p) (upd H2 p (.tup xs.reverse))):=by
 intro pins s σ H Q I h
 refine Subscript_ (thn (he pins s σ H _ I h) fun v s1 ⟨x,H1,I1,r1,q1⟩=>?_)
 refine wpAny_Slice ?_
 rw[evalPart_none]
 refine wpAny_pure (wpAny_pure ?_)
 rw[evalPart_some]
 refine thn (hs pins s1 σ H1 _ I1 q1) fun vs s3 ⟨y,H3,I3,r3,a,xs,e1,e2,hx,q⟩=>?_
 subst e1 e2
 cases r1
 obtain⟨tk,rfl⟩:=r3
 have I4:Inv X pins σ H3 { s3 with heap:=s3.heap.push { cls:=.type "slice", data:=.fields #[.none,.none,.int (-1) tk] } }:=I3.kept (t':=s3.toks) fun b ob q=>Heap.get?_push_of_some _ q
 obtain⟨its,r,ht,hz⟩:=I4.tuple hx
 have hlen:its.toArray.size=xs.length:=by rw[List.size_toArray];exact r.length.symm
 show wpAny (model X.prog X.w) X.A (subscriptTail e (.Slice none none (some st) p2) (.ref a) (.ref s3.heap.objs.size)) (EP X pins σ Q) X.xe { s3 with heap:=s3.heap.push { cls:=.type "slice", data:=.fields #[.none,.none,.int (-1) tk] } }
 refine tail_any (ops:=[.ref a,.ref s3.heap.objs.size]) ht.typeIs PyProof.Rows.slot_tuple_getitem.lookup ?_ (by with_unfolding_all rfl)
 refine ad2 ht (Heap.IsSliceOf.new ..) ?_ (by rw[hlen];exact hz)
 refine⟨.ref _,_,I4.laid (t':=s3.toks) (o:=.tup xs.reverse) (fun b ob q=>Heap.get?_push_of_some _ q) (Nat.le_refl _) ?_,rfl,q _ (I4.hok.fresh (Nat.le_refl _))⟩
 exact⟨by rw[List.length_reverse];exact hz,_,aA8 r,ao8.new _ _⟩
theorem be3{K:PySem.W.Frag}{H:Hp}{ds:List D}{vs:List V}(h:Reps K H ds vs):Reps K H ds.reverse vs.reverse:=by
 induction ds generalizing vs with
 | nil=>cases vs with
  | nil=>exact h
  | cons _ _=>exact absurd h.length (by simp)
 | cons d ds ih=>cases vs with
  | nil=>exact absurd h.length (by simp)
  | cons v vs =>
   obtain⟨v',r',e,h1,h2⟩:=h
   cases e
   rw[List.reverse_cons,List.reverse_cons]
   exact(ih h2).append ⟨_,_,rfl,h1,rfl⟩
theorem by5{a st:Expr}{f:DE}{pos p2:Pos}(ha:JE X a f) (hs:JE X st (Y0 (dC (.int 1)))):JE X (.Subscript a (.Slice none none (some st) p2) pos) (bG2 f):=fun ρ d q=>by
 obtain⟨x,e1,q⟩:=xbm q
 cases x with
 | tuple xs =>
  cases q
  refine B4 (bK9 (ha ρ _ e1) (hs ρ (.int (-1)) rfl)) fun σ H Q ⟨H0,Hf,s,sl,k⟩=>?_
  refine⟨H0,Hf,s,sl,fun v H1 Hf1 g1 ⟨p,vs,q1,q2,q3⟩=>⟨H0,Hf1,g1.sub,sl.grow g1,fun u H2 Hf2 g2 r2=>?_⟩⟩
  subst q1
  cases r2
  have q2':=C8 g2.ext q2
  have q3':=q3.mono g2.ext
  refine⟨p,vs,rfl,rfl,C8 g2.sub q2',fun p' hp=>?_⟩
  exact k _ _ _ ((g1.trans g2).trans (Grow.laid g2.sub hp)) ⟨p',_,rfl,SqT.of C1,(be3 q3').mono (D7 (g2.sub.free hp))⟩
 | _=>cases q
end
section
variable {X:Cx}
noncomputable def atS(x:Str) (i:Int):Option D:=if x.length<=16777216 then(atI x.cps.toList i).map fun c=>.str ⟨#[c]⟩ else none
noncomputable def aa9(f g:DE):DE:=fun ρ=>(f ρ).bind fun x=>(g ρ).bind fun i=>match x,i with
 | .str x,.int i=>atS x i
 | _,_=>none
theorem bS2{a b:Expr}{f g:DE}{pos:Pos}(ha:JE X a f) (hb:JE X b g) (hs:ae4 b:=by intro _ _;rfl):JE X (.Subscript a b pos) (aa9 f g):=fun ρ d q=>by
 obtain⟨x,h1,q⟩:=xbm q
 obtain⟨y,h2,h3⟩:=xbm q
 split at h3
 ·rename_i x i
  unfold atS at h3
  split at h3
  ·rename_i hz
   obtain⟨c,e1,e2⟩:=xmo h3
   subst e2
   refine B4 (bE4 bk9 (ha ρ _ h1) (hb ρ _ h2) hs) fun σ H Q ⟨H0,Hf,s,sl,k⟩=>?_
   refine⟨H0,Hf,s,sl,fun v H1 Hf1 g1 r1=>⟨H0,Hf1,g1.sub,sl.grow g1,fun u H2 Hf2 g2 r2=>?_⟩⟩
   exact .inr (.inr ⟨x,i,c,r1,r2,by rw[sizeLine_eq];exact hz,e1,k _ H2 Hf2 (g1.trans g2) rfl⟩)
  ·cases h3
 ·cases h3
noncomputable def E4(f:DE) (lo hi:Rho->Option (Option Int)):DE:=fun ρ=>(f ρ).bind fun d=>(lo ρ).bind fun l=>(hi ρ).bind fun h=>match d with
 | .tuple xs=>some (.tuple (O9 xs l h))
 | .list xs=>some (.list (O9 xs l h))
 | _=>none
theorem bR8{a:Expr}{lo hi:Option Expr}{f:DE}{l h:Rho->Option (Option Int)}{pos p2:Pos}(ha:JE X a f) (hl:JO X lo l) (hh:JO X hi h):JE X (.Subscript a (.Slice lo hi none p2) pos) (E4 f l h):=fun ρ d q=>by
 obtain⟨x,e1,q⟩:=xbm q
 obtain⟨y,e2,q⟩:=xbm q
 obtain⟨z,e3,q⟩:=xbm q
 cases x with
 | tuple xs =>
  cases q
  refine bk1 ha hl hh ρ _ ?_
  unfold af5
  rw[e1,Option.bind_some,e2,Option.bind_some,e3,Option.bind_some]
 | list xs =>
  cases q
  refine B4 (ac8 aN7 (ha ρ _ e1) (hl ρ y e2) (hh ρ z e3)) fun σ H Q ⟨H0,Hf,s,sl,k⟩=>?_
  refine⟨H0,Hf,s,sl,fun v H1 Hf1 g1 ⟨p,vs,q1,q2,q3⟩=>⟨H0,Hf1,g1.sub,sl.grow g1,fun H2 Hf2 g2=>⟨H0,Hf2,g2.sub,sl.grow (g1.trans g2),fun H3 Hf3 g3=>?_⟩⟩⟩
  subst q1
  have q2':=F2 (g2.trans g3).ext q2
  have q3':=q3.mono (g2.trans g3).ext
  refine⟨p,vs,rfl,F2 g3.sub q2',fun p' hp=>?_⟩
  exact k _ _ _ (((g1.trans g2).trans g3).trans (Grow.laid g3.sub hp)) ⟨p',_,rfl,SqL.of C1,(al5 q3' y z).mono (D7 (g3.sub.free hp))⟩
 | _=>cases q
end
section
variable {X:Cx}
theorem aN5:∀{ys:List Str}{us:List Value},D5 (ys.map V.str) us->∃l:List (Str×Tok),us=strValues l/\l.map (·.1)=ys
 | [],[],_=>⟨[],rfl,rfl⟩
 | y::ys,u::us,h=>by
  cases h with
  | cons a b =>
   obtain⟨t,rfl⟩:=a
   obtain⟨l,rfl,rfl⟩:=aN5 b
   exact⟨(y,t)::l,rfl,rfl⟩
noncomputable def ac9(sep:Str) (ys:List Str):Nat:=ys.toArray.foldl (fun n y=>n+y.length+sep.length) 0
noncomputable def ca5(K:PySem.W.Frag):V->List V->Hp->VK->Prop:=fun x vs H Q=>∃sep p ys,x=.str sep/\vs=[.ref p]/\SqL K H p (ys.map V.str)/\ac9 sep ys<=sizeLine/\(Builtin.Str.glued sep ys).length<=sizeLine/\Q (.str (Builtin.Str.glued sep ys)) H
theorem bw3:MtR X "str.join" (ca5 X.K):=by
 intro pins s σ H x vs v us Q I rx rv h
 obtain⟨sep,p,ys,rfl,rfl,hq,hz,hg,q⟩:=h
 obtain⟨t,rfl⟩:=rx
 obtain⟨u,rfl,ru⟩:=rv.one
 cases ru
 obtain⟨its,r,pl,_⟩:=I.list hq
 obtain⟨l,rfl,rfl⟩:=aN5 r
 refine call_meets F.slot_str_join (typeIs_str s sep t) F.entry_str_join (F.args_str_join_2 _ _) (meets_str_join_list sep t p l ?_) ⟨pl.isList,?_⟩
 ·show decide (ac9 sep (l.map (·.1)) > sizeLine)=false
  exact decide_eq_false (by omega)
 ·match l,q,hg with
  | [],q,hg=>exact⟨hg,.str _,H,I.tok _,⟨_,rfl⟩,q⟩
  | [a],q,_=>exact⟨.str _,H,I,⟨_,rfl⟩,q⟩
  | a::b::r,q,hg=>exact⟨hg,.str _,H,I.tok _,⟨_,rfl⟩,q⟩
noncomputable def bd6:List D->Option (List Str)
 | []=>some []
 | .str x::r=>(bd6 r).map fun ys=>x::ys
 | _::_=>none
theorem ar6{K:PySem.W.Frag}{H:Hp}:∀{ds:List D}{ys:List Str}{vs:List V},bd6 ds=some ys->Reps K H ds vs->vs=ys.map V.str
 | [],ys,vs,h,r=>by cases h;exact r
 | .str x::ds,ys,vs,h,r=>by
  obtain⟨zs,e1,e2⟩:=xmo h
  subst e2
  obtain⟨v,r',e,h1,h2⟩:=r
  subst e
  rw[ar6 e1 h2]
  cases h1
  rfl
noncomputable def an9(f:DE) (g:Rho->Option (Bool×List D)):DE:=fun ρ=>(f ρ).bind fun s=>(g ρ).bind fun q=>match s with
 | .str sep=>if q.1=true then none else(bd6 q.2).bind fun ys=>if ac9 sep ys<=16777216/\(Builtin.Str.glued sep ys).length<=16777216 then some (.str (Builtin.Str.glued sep ys)) else none
 | _=>none
theorem bz1{o e:Expr}{f:DE}{g:Rho->Option (Bool×List D)}{apos cpos:Pos}(ho:JE X o f) (h:JQ X e g)
  (hbase:attributeBase o "join" X.env (eval o X.env)=eval o X.env:=by rfl)
  (hfew:((backTo cpos (starEach [e] X.env)).all (fun x=>!x.1)&&(backToKw cpos (keywordEach [] X.env)).all (fun x=>x.1.isSome)
   && decide (([e]:List Expr).length+([]:List Keyword).length+(if([]:List Keyword).isEmpty then 0 else 1) < 30))=true:=by rfl)
  (hline:(apos.endLine==cpos.line)=true:=by rfl) (hs:starEach [e] X.env=[(false,eval e X.env)]:=by rfl) :
  JE X (.Call (.Attribute o "join" apos) [e] [] cpos) (an9 f g):=fun ρ d q=>by
 obtain⟨s,e1,q⟩:=xbm q
 obtain⟨⟨t,ds⟩,e2,q⟩:=xbm q
 cases s with
 | str sep =>
  cases t with
  | true=>simp at q
  | false =>
   simp only[Bool.false_eq_true,if_false]at q
   obtain⟨ys,e3,q⟩:=xbm q
   split at q
   ·rename_i hz
    cases q
    refine B4 (aO6 F.plainAttrs_str F.slot_str_join F.type_str_join bw3 (ho ρ _ e1) (D9 (h ρ false ds e2) G8 hs) hbase hfew hline hs) fun σ H Q ⟨H0,Hf,s,sl,k⟩=>?_
    refine⟨H0,Hf,s,sl,fun v H1 Hf1 g1 r1=>?_⟩
    cases r1
    refine⟨rfl,H0,Hf1,g1.sub,sl.grow g1,fun w H2 Hf2 g2 ⟨p,vs,z1,z2,z3⟩=>?_⟩
    subst z1
    rw[ar6 e3 z3]at z2
    exact⟨sep,p,ys,rfl,rfl,z2,by rw[sizeLine_eq];exact hz.1,by rw[sizeLine_eq];exact hz.2,k _ H2 Hf2 (g1.trans g2) rfl⟩
   ·cases q
 | _=>cases q
end
section
open PySem.SeqAt PySem.MeetsSeq PySem.MeetsSeq2 PySem.MeetsSeq3 PySem.SeqRoads2
open PySem.AutoSeq1 (wpAny_loadPart')
theorem al0(l:Addr) (items:Array Value) (n:Nat) (dd:Option Addr) (sl:Array (Option Value)) (x:Value) (e:Nat->Bool) :
  Meets (Builtin.«tuple.__contains__» ⟨[.ref l,x],[]⟩)
   (fun A R s=>s.heap.get? l=some { cls:=.type "tuple", dict:=dd,data:=.seq items n,slots:=sl }/\(∀j (h:j < items.size),EqAt A.in1 s items[j] x (e j))/\R (.ok (.ret (.bool ((List.range items.size).any e)))) s) :=
 .of_wp fun prog w A R s h=>by
  obtain⟨hp,g,d,tk,os⟩:=s;obtain⟨hl,he,h⟩:=h
  wp_walk using wpAny_loadPart' hl,wpAny_forIn_array _ (fun F5 b s'=>b.1=none/\s'=⟨hp,g,d,tk,os⟩/\∃i,F5=items.toList.drop i/\R (.ok (.ret (.bool (((List.range items.size).drop i).any e)))) ⟨hp,g,d,tk,os⟩) _
  case turn =>
   rintro y F5 b s' ⟨hb,rfl,i,hz,hR⟩
   have hlt:i < items.toList.length:=by
    rcases Nat.lt_or_ge i items.toList.length with h'|h'
    ·exact h'
    ·rw[List.drop_of_length_le h']at hz;cases hz
   have hi:i < items.size:=by simpa using hlt
   rw[List.drop_eq_getElem_cons hlt]at hz
   injection hz with hy hrest
   have hy:y=items[i]:=by simpa using hy
   subst hy
   have hd:(List.range items.size).drop i=i::(List.range items.size).drop (i+1):=by simp[List.drop_eq_getElem_cons,hi]
   rw[hd,List.any_cons]at hR
   refine wpAny_bind (he i hi prog w _ _ ?_)
   cases hy:e i with
   | true =>
    rw[hy]at hR
    wp_walk
    exact⟨_,rfl,by simpa using hR⟩
   | false =>
    rw[hy]at hR
    wp_walk
    exact⟨rfl,rfl,i+1,hrest,by simpa using hR⟩
  case fin =>
   rintro⟨b1,b2⟩ s' ⟨hb,rfl,i,hz,hR⟩
   simp only at hb
   subst hb
   have hge:items.size<=i:=by
    rcases Nat.lt_or_ge i items.toList.length with h'|h'
    ·rw[List.drop_eq_getElem_cons h']at hz;cases hz
    ·simpa using h'
   rw[List.drop_of_length_le (by simpa using hge)]at hR
   wp_walk
   exact⟨_,rfl,by simpa using hR⟩
  case h =>exact⟨rfl,rfl,0,by simp,by simpa using h⟩
end
section
variable {X:Cx}
noncomputable def K1:D->Bool
 | .none=>true
 | .bool _=>true
 | .int _=>true
 | .str _=>true
 | _=>false
noncomputable def toV:D->V
 | .none=>.non
 | .bool b=>.bl b
 | .int i=>.int i
 | .str x=>.str x
 | _=>.non
theorem V7{K:PySem.W.Frag}{H:Hp}{d:D}{v:V}(f:K1 d=true) (r:Rep K H d v):v=toV d/\x8 v=true:=by
 cases d with
 | none=>cases r;exact⟨rfl,rfl⟩
 | bool b=>cases r;exact⟨rfl,rfl⟩
 | int i=>cases r;exact⟨rfl,rfl⟩
 | str x=>cases r;exact⟨rfl,rfl⟩
 | tuple _=>cases f
 | list _=>cases f
 | dict _=>cases f
theorem p9{K:PySem.W.Frag}{H:Hp}:∀{ds:List D}{vs:List V},ds.all K1=true->Reps K H ds vs->vs=ds.map toV/\vs.all x8=true
 | [],vs,_,r=>by cases(show vs=[] from r);exact⟨rfl,rfl⟩
 | d::ds,vs,f,r=>by
  rw[List.all_cons,Bool.and_eq_true]at f
  obtain⟨v,r',e,h1,h2⟩:=r
  subst e
  obtain⟨e1,e2⟩:=V7 f.1 h1
  obtain⟨e3,e4⟩:=p9 f.2 h2
  subst e1 e3
  exact⟨rfl,by rw[List.all_cons,e2,e4];rfl⟩
noncomputable def isS:D->Bool
 | .str _=>true
 | _=>false
noncomputable def inD(neg:Bool) (x y:D):Option D:=match y with
 | .list ds=>if K1 x=true/\ds.all K1=true then some (.bool (if neg then !inV (toV x) (ds.map toV) else inV (toV x) (ds.map toV))) else none
 | .tuple ds=>if K1 x=true/\ds.all K1=true then some (.bool (if neg then !inV (toV x) (ds.map toV) else inV (toV x) (ds.map toV))) else if K1 x=false/\SeqAt.shaped x=true/\ds.all isS=true then some (.bool neg) else if SeqAt.shaped x=true/\x.depth<=60/\ds.all SeqAt.shaped=true then some (.bool (if neg then !(ds.any fun y=>PyData.eqv y x) else ds.any fun y=>PyData.eqv y x)) else none
 | _=>none
theorem bA3{A:Around}{s:Shared}{x:D}{v:Value}{as:List Addr}(f:K1 x=false) (sh:SeqAt.shaped x=true) (r:Reads s.heap v x as) (hu:A.units < cLine) (a:Str) (t:Tok):SeqAt.EqAt A s (.str a t) v false:=by
 cases r with
 | none=>cases f
 | bool _=>cases f
 | int _ _=>cases f
 | str _ _=>cases f
 | list h1 h2 h3 _=>exact SeqAt.EqAt.str_list a t ⟨_,h1,h2,_,h3⟩ hu
 | tuple h1 h2 h3 _=>exact SeqAt.EqAt.str_tuple a t ⟨_,h1,h2,_,h3⟩ hu
 | dict _ _ _ _ _=>exact absurd (SeqAt.canLay_of_shaped sh) (by simp[PyData.canLay0])
theorem aD8{K:PySem.W.Frag}{H:Hp}:∀{ds:List D}{vs:List V}{us:List Value},ds.all isS=true->Reps K H ds vs->D5 vs us->∀y∈us,∃a t,y=Value.str a t
 | [],_,_,_,r,w=>by cases(show _=[] from r);cases w;intro y hy;cases hy
 | d::ds,_,_,f,r,w=>by
  rw[List.all_cons,Bool.and_eq_true]at f
  obtain⟨v,r',rfl,h1,h2⟩:=r
  cases w with
  | cons w1 w2 =>
   intro y hy
   rcases List.mem_cons.mp hy with rfl|hy
   ·cases d with
    | str a =>
     cases(show v=.str a from h1)
     obtain⟨t,e⟩:=w1
     exact⟨a,t,e⟩
    | _=>cases f.1
   ·exact aD8 f.2 h2 w2 y hy
theorem bl4{x:D}{ds:List D}{vx vy:V}{v u:Value}{pins:List (Addr×Obj)}{s:Shared}{σ:L2.St}{H Hf:Hp}{Q:Value->Shared->Prop}(hu:X.A.units+64 < cLine) (f:K1 x=false) (sh:SeqAt.shaped x=true) (a:ds.all isS=true) (I:L2.Inv X pins σ H s) (rx:D3 vx v) (ry:D3 vy u) (ss:E2 Hf H) (r1:Rep X.K Hf x vx) (r2:Rep X.K Hf (.tuple ds) vy) :
  (Q (.bool false) s->wpAny (model X.prog X.w) X.A (compareOp .In v u) Q X.xe s)/\(Q (.bool true) s->wpAny (model X.prog X.w) X.A (compareOp .NotIn v u) Q X.xe s):=by
 obtain⟨p,vs,rfl,h2,h3⟩:=r2
 obtain rfl:u=Value.ref p:=ry
 obtain⟨its,rv,pl,_⟩:=I.tuple (C8 ss h2)
 obtain⟨as,rd⟩:=Rep.reads I (r1.mono ss) rx
 have st:=aD8 a h3 rv
 have he:∀y,y∈its.toArray->SeqAt.EqAt X.A.in1 s y v ((fun _=>false) y):=fun y hy=>by
  obtain⟨b,t,rfl⟩:=st y (by simpa using hy)
  exact bA3 f sh rd (by show X.A.units+1 < _;omega) b t
 have no:its.toArray.any (fun _=>false)=false:=by simp
 refine⟨fun q=>SeqAt.in_tupleAt (fun _=>false) pl he (by rw[no];exact q),fun q=>SeqAt.notIn_tupleAt (fun _=>false) pl he (by rw[no];exact q)⟩
theorem bJ7{h:Heap}:∀{vs:List Value}{ds:List D}{as:List Addr},ReadsAll h vs ds as->vs.length=ds.length/\∀(j:Nat) (hj:j < vs.length),∃bs,Reads h vs[j] (ds.getD j .none) bs
 | [],_,_,r=>by cases r;exact⟨rfl,fun j hj=>absurd hj (Nat.not_lt_zero _)⟩
 | v::vs,_,_,r=>by
  cases r with
  | cons r1 r2 =>
   obtain⟨h1,h2⟩:=bJ7 r2
   refine⟨by rw[List.length_cons,List.length_cons,h1],fun j hj=>?_⟩
   cases j with
   | zero=>exact⟨_,r1⟩
   | succ j=>exact h2 j (by simpa using hj)
theorem ba5{α:Type}(p:α->Bool) (z:α) (l:List α):(List.range l.length).any (fun j=>p (l.getD j z))=l.any p:=by
 rw[Bool.eq_iff_iff,List.any_eq_true,List.any_eq_true]
 constructor
 ·rintro⟨j,hj,h⟩
  have hj:=List.mem_range.mp hj
  exact⟨l[j],List.getElem_mem hj,by simpa [hj] using h⟩
 ·rintro⟨x,hx,h⟩
  obtain⟨j,hj,rfl⟩:=List.getElem_of_mem hx
  exact⟨j,List.mem_range.mpr hj,by simpa [hj] using h⟩
theorem aN2{x:D}{ds:List D}{vx:V}{v:Value}{pins:List (Addr×Obj)}{s:Shared}{σ:L2.St}{H Hf:Hp}{p:Addr}{vs:List V}(hu:X.A.units+64 < cLine) (sx:SeqAt.shaped x=true) (dx:x.depth<=60) (sd:ds.all SeqAt.shaped=true) (I:L2.Inv X pins σ H s) (rx:D3 vx v) (ss:E2 Hf H) (r1:Rep X.K Hf x vx) (h2:SqT X.K Hf p vs) (h3:Reps X.K Hf ds vs) :
  ∃its:List Value,IsTup s.heap p its.toArray/\its.length=ds.length/\∀j (h:j < its.toArray.size),SeqAt.EqAt X.A.in1 s its.toArray[j] v (PyData.eqv (ds.getD j .none) x):=by
 obtain⟨its,rv,pl,_⟩:=I.tuple (C8 ss h2)
 obtain⟨as,rd⟩:=Rep.reads I (r1.mono ss) rx
 obtain⟨bs,ra⟩:=Reps.reads I (h3.mono ss) rv
 obtain⟨e1,e2⟩:=bJ7 ra
 refine⟨its,pl,e1,fun j hj=>?_⟩
 have hj':j < its.length:=by simpa using hj
 obtain⟨cs,q⟩:=e2 j hj'
 have hd:j < ds.length:=by omega
 have sj:=List.all_eq_true.mp sd _ (List.getElem_mem hd)
 have ej:ds.getD j .none=ds[j]:=by simp[hd]
 rw[ej]at q ⊢
 have:=SeqAt.eqAt_reads ds[j] x X.A.in1 s _ _ _ _ q rd (SeqAt.canLay_of_shaped sj) (SeqAt.canLay_of_shaped sx) (by show X.A.units+1+_ < _;have:=Nat.min_le_right ds[j].depth x.depth;omega)
 simpa using this
theorem bl3{x:D}{ds:List D}{vx vy:V}{v u:Value}{pins:List (Addr×Obj)}{s:Shared}{σ:L2.St}{H Hf:Hp}{Q:Value->Shared->Prop}(hu:X.A.units+64 < cLine) (sx:SeqAt.shaped x=true) (dx:x.depth<=60) (sd:ds.all SeqAt.shaped=true) (I:L2.Inv X pins σ H s) (rx:D3 vx v) (ry:D3 vy u) (ss:E2 Hf H) (r1:Rep X.K Hf x vx) (r2:Rep X.K Hf (.tuple ds) vy) :
  (Q (.bool (ds.any fun y=>PyData.eqv y x)) s->wpAny (model X.prog X.w) X.A (compareOp .In v u) Q X.xe s)/\(Q (.bool (!(ds.any fun y=>PyData.eqv y x))) s->wpAny (model X.prog X.w) X.A (compareOp .NotIn v u) Q X.xe s):=by
 obtain⟨p,vs,rfl,h2,h3⟩:=r2
 obtain rfl:u=Value.ref p:=ry
 obtain⟨its,pl,ln,he⟩:=aN2 hu sx dx sd I rx ss r1 h2 h3
 obtain⟨⟨cls,dd,data,sl⟩,ho,hc,n,hd⟩:=id pl
 simp only at hc hd
 subst hc hd
 have ea:(List.range its.toArray.size).any (fun j=>PyData.eqv (ds.getD j .none) x)=ds.any fun y=>PyData.eqv y x:=by
  rw[List.size_toArray,ln]
  exact ba5 (fun y=>PyData.eqv y x) .none ds
 refine⟨fun q=>SeqRoads2.in_meets ⟨_,ho,rfl⟩ F.slot_tuple_contains F.entry_tuple_contains (F.args_tuple_contains_2 _ _) (al0 p its.toArray n dd sl v _) ⟨ho,he,_,rfl,by rw[ea];exact q⟩,
  fun q=>SeqRoads2.notIn_meets ⟨_,ho,rfl⟩ F.slot_tuple_contains F.entry_tuple_contains (F.args_tuple_contains_2 _ _) (al0 p its.toArray n dd sl v _) ⟨ho,he,_,rfl,by rw[ea];exact q⟩⟩
theorem bl5{op:CmpOp}{neg:Bool}(o:OpR X (compareOp op) (rIn X.K neg)) (o2:∀x ds,K1 x=false->SeqAt.shaped x=true->ds.all isS=true->OpR X (compareOp op) (fun vx vy H Q=>∃Hf,E2 Hf H/\Rep X.K Hf x vx/\Rep X.K Hf (.tuple ds) vy/\∀v H' Hf',Grow H Hf H' Hf'->Rep X.K Hf' (.bool neg) v->Q v H'))
  (o3:∀x ds,SeqAt.shaped x=true->x.depth<=60->ds.all SeqAt.shaped=true->OpR X (compareOp op) (fun vx vy H Q=>∃Hf,E2 Hf H/\Rep X.K Hf x vx/\Rep X.K Hf (.tuple ds) vy/\∀v H' Hf',Grow H Hf H' Hf'->Rep X.K Hf' (.bool (if neg then !(ds.any fun y=>PyData.eqv y x) else ds.any fun y=>PyData.eqv y x)) v->Q v H')):OpD X (compareOp op) (inD neg):=fun x y z h=>by
 unfold inD at h
 split at h
 ·split at h
  ·rename_i c
   cases h
   refine OpR.imp o fun vx vy H Q ⟨Hf,s,r1,r2,k⟩=>?_
   obtain⟨p,vs,rfl,h2,h3⟩:=r2
   obtain⟨e1,e2⟩:=V7 c.1 r1
   obtain⟨e3,e4⟩:=p9 c.2 h3
   subst e1 e3
   exact⟨p,_,rfl,.inl (F2 s h2),e2,e4,k _ H Hf (Grow.refl s) rfl⟩
  ·cases h
 ·split at h
  ·rename_i c
   cases h
   refine OpR.imp o fun vx vy H Q ⟨Hf,s,r1,r2,k⟩=>?_
   obtain⟨p,vs,rfl,h2,h3⟩:=r2
   obtain⟨e1,e2⟩:=V7 c.1 r1
   obtain⟨e3,e4⟩:=p9 c.2 h3
   subst e1 e3
   exact⟨p,_,rfl,.inr (C8 s h2),e2,e4,k _ H Hf (Grow.refl s) rfl⟩
  ·split at h
   ·rename_i c
    cases h
    exact o2 _ _ c.1 c.2.1 c.2.2
   ·split at h
    ·rename_i c
     cases h
     exact o3 _ _ c.1 c.2.1 c.2.2
    ·cases h
 ·cases h
theorem cc4(hu:X.A.units+64 < cLine):OpD X (compareOp .In) (inD false):=bl5 aU9 (fun x ds f sh a pins s σ H vx vy v u Q I rx ry ⟨Hf,ss,r1,r2,k⟩=>(bl4 hu f sh a I rx ry ss r1 r2).1 ⟨.bl false,H,I,rfl,k _ H Hf (Grow.refl ss) rfl⟩)
 fun x ds sx dx sd pins s σ H vx vy v u Q I rx ry ⟨Hf,ss,r1,r2,k⟩=>(bl3 hu sx dx sd I rx ry ss r1 r2).1 ⟨.bl _,H,I,rfl,k _ H Hf (Grow.refl ss) rfl⟩
theorem bh0(hu:X.A.units+64 < cLine):OpD X (compareOp .NotIn) (inD true):=bl5 ax0 (fun x ds f sh a pins s σ H vx vy v u Q I rx ry ⟨Hf,ss,r1,r2,k⟩=>(bl4 hu f sh a I rx ry ss r1 r2).2 ⟨.bl true,H,I,rfl,k _ H Hf (Grow.refl ss) rfl⟩)
 fun x ds sx dx sd pins s σ H vx vy v u Q I rx ry ⟨Hf,ss,r1,r2,k⟩=>(bl3 hu sx dx sd I rx ry ss r1 r2).2 ⟨.bl _,H,I,rfl,k _ H Hf (Grow.refl ss) rfl⟩
theorem aQ9(neg:Bool) (x:Str) (ys:List Str):inD neg (.str x) (.tuple (ys.map PyData.str))=some (.bool (if neg then !(ys.any fun y=>y==x) else ys.any fun y=>y==x)):=by
 have f:(ys.map PyData.str).all K1=true:=by
  rw[List.all_eq_true]
  intro d hd
  obtain⟨y,_,rfl⟩:=List.mem_map.mp hd
  rfl
 show(if K1 (.str x)=true/\(ys.map PyData.str).all K1=true then _ else _)=_
 rw[if_pos ⟨rfl,f⟩]
 have:inV (toV (.str x)) ((ys.map PyData.str).map toV)=ys.any fun y=>y==x:=by
  unfold inV
  rw[List.map_map,List.any_map]
  rfl
 rw[this]
end
section
variable {X:Cx}
theorem bq0:bootBuiltins "min" = some (.builtin "min"):=by decide +kernel
theorem aL1:bootBuiltins "max" = some (.builtin "max"):=by decide +kernel
theorem bW3:bootBuiltins "abs" = some (.builtin "abs"):=by decide +kernel
noncomputable def an7(f g:DE):DE:=fun ρ=>(f ρ).bind fun x=>(g ρ).bind fun y=>match x,y with
 | .int i,.int j=>some (.int (if j < i then j else i))
 | _,_=>none
noncomputable def an8(f g:DE):DE:=fun ρ=>(f ρ).bind fun x=>(g ρ).bind fun y=>match x,y with
 | .int i,.int j=>some (.int (if j > i then j else i))
 | _,_=>none
noncomputable def bB6(f:DE):DE:=fun ρ=>(f ρ).bind fun x=>match x with
 | .int i=>some (.int (if i < 0 then -i else i))
 | _=>none
theorem bT1{e:Expr}{f:DE}{p pos:Pos}(hg:Gl X "abs") (hm:X.mg "abs" = none) (h:JE X e f) (he:starEach [e] X.env=[(false,eval e X.env)]:=by rfl):JE X (.Call (.Name "abs" p) [e] [] pos) (bB6 f):=fun ρ d q=>by
 obtain⟨x,h1,h2⟩:=xbm q
 split at h2
 ·cases h2
  exact B4 (L6 bp8 hg hm bW3 (D9 (h ρ _ h1) G8 he) (he:=he)) fun σ H Q ⟨H0,Hf,s,sl,k⟩ =>⟨H0,Hf,s,sl,fun v H1 Hf1 g1 r=>⟨_,by rw[show v=_ from r],k _ H1 Hf1 g1 rfl⟩⟩
 ·cases h2
theorem by7{e e':Expr}{f g:DE}{p pos:Pos}(hg:Gl X "min") (hm:X.mg "min" = none) (h:JE X e f) (h':JE X e' g) (hc:X.calm=true:=by rfl) (he:starEach [e,e'] X.env=(false,eval e X.env)::starEach [e'] X.env:=by rfl) (he':starEach [e'] X.env=[(false,eval e' X.env)]:=by rfl)
  (hpl:(backTo pos (starEach [e'] X.env)).any (·.1)=false:=by rfl):JE X (.Call (.Name "min" p) [e,e'] [] pos) (an7 f g):=fun ρ d q=>by
 obtain⟨x,h1,q⟩:=xbm q
 obtain⟨y,h2,h3⟩:=xbm q
 split at h3
 ·cases h3
  exact B4 (L6 (aZ2 hc) hg hm bq0 (D9 (h ρ _ h1) (D9 (h' ρ _ h2) G8 he') he) (he:=he) (hpl:=hpl)) fun σ H Q ⟨H0,Hf,s,sl,k⟩ =>⟨H0,Hf,s,sl,fun v H1 Hf1 g1 r=>⟨H0,Hf1,g1.sub,sl.grow g1,fun w H2 Hf2 g2 r2=>⟨_,_,by rw[show v=_ from r,show w=_ from r2],k _ H2 Hf2 (g1.trans g2) rfl⟩⟩⟩
 ·cases h3
theorem by9{e e':Expr}{f g:DE}{p pos:Pos}(hg:Gl X "max") (hm:X.mg "max" = none) (h:JE X e f) (h':JE X e' g) (hc:X.calm=true:=by rfl) (he:starEach [e,e'] X.env=(false,eval e X.env)::starEach [e'] X.env:=by rfl) (he':starEach [e'] X.env=[(false,eval e' X.env)]:=by rfl)
  (hpl:(backTo pos (starEach [e'] X.env)).any (·.1)=false:=by rfl):JE X (.Call (.Name "max" p) [e,e'] [] pos) (an8 f g):=fun ρ d q=>by
 obtain⟨x,h1,q⟩:=xbm q
 obtain⟨y,h2,h3⟩:=xbm q
 split at h3
 ·cases h3
  exact B4 (L6 (aZ5 hc) hg hm aL1 (D9 (h ρ _ h1) (D9 (h' ρ _ h2) G8 he') he) (he:=he) (hpl:=hpl)) fun σ H Q ⟨H0,Hf,s,sl,k⟩ =>⟨H0,Hf,s,sl,fun v H1 Hf1 g1 r=>⟨H0,Hf1,g1.sub,sl.grow g1,fun w H2 Hf2 g2 r2=>⟨_,_,by rw[show v=_ from r,show w=_ from r2],k _ H2 Hf2 (g1.trans g2) rfl⟩⟩⟩
 ·cases h3
theorem bk8{k:Nat}{f:Addr}{fd:FuncData}{ps:List Str}{F:List D->Option D}{x:Str}{p pos:Pos}(Fk:FnOk X.prog X.w X.K X.mg X.base CX0 k f fd ps (spF X.K 0 F)) (hr:Room k X.A) (hg:Gl X x) (hm:X.mg x=some (.ref f)) (hk:PySem.W.keepIn X.K (.ref f)=true) (hb:o9 X.K fd ps [])
  (hdb:(x==("__debug__" : Str))=false:=by decide):JE X (.Call (.Name x p) [] [] pos) (A3 F A2):=fun ρ d q=>by
 have h2:F []=some d:=q
 refine B4 (bg2 Fk hr hg hm hk hb .nil bE5 hdb) fun σ H Q ⟨H0,Hf,s,sl,kk⟩=>?_
 exact⟨rfl,Hf,[],d,s,rfl,h2,fun v H2 Hf2 g2 r2=>kk v H2 Hf2 g2 r2⟩
end
section
variable {K:PySem.W.Frag}
end
theorem aC5(l:Addr) (items:Array Value) (n:Nat) (dd:Option Addr) (sl:Array (Option Value)) (u:Tok) :
  Meets (Builtin.«tuple.__mul__» ⟨[.ref l,.int 1 u],[]⟩) (fun _ R s=>s.heap.get? l=some ⟨.type "tuple", dd,.seq items n,sl⟩/\R (.ok (.ret (Value.ref l))) s) :=
 .of_wp fun prog w A R s h=>by
  obtain⟨hp,g,d,tk,os⟩:=s
  obtain⟨hl,h⟩:=h
  wp_walk
  exact⟨_,rfl,h⟩
section
variable {X:Cx}
theorem bg5:OpR X (binaryOp .Mult) (fun x y H Q=>∃l xs,x=.ref l/\y=.int 1/\SqT X.K H l xs/\Q (.ref l) H):=by
 intro pins s σ H x y v u Q I rx ry h
 obtain⟨l,xs,rfl,rfl,hq,q⟩:=h
 cases rx
 obtain⟨t,rfl⟩:=ry
 obtain⟨its,r,p1,_⟩:=I.tuple hq
 obtain⟨⟨cls,dd,data,sl⟩,ho,hc,n,hd⟩:=id p1
 simp only at hc hd
 subst hc hd
 exact wpAny_binaryOp_repeat_ref (T := "tuple") (U := "int") (by decide) ⟨_,ho,rfl⟩ (fun s'=>typeIs_int s' 1 t) ag9 F.fills_int_mul F.slot_int_rmul ar7 F.slot_int_index.lookup
  (call_meets F.slot_int_rmul (typeIs_int s 1 t) F.entry_int_rmul (F.args_int_rmul_2 _ _) (ac4 1 t l its.toArray n dd sl) ⟨ho,rfl,⟨_,ho,rfl⟩,
   call_meets F.slot_tuple_mul ⟨_,ho,rfl⟩ F.entry_tuple_mul (F.args_tuple_mul_2 _ _) (aC5 l its.toArray n dd sl t) ⟨ho,⟨.ref l,H,I,rfl,q⟩⟩⟩)
theorem aw0(a:Int) (t:Tok) (l:Addr) (items:Array Value) (n:Nat) (dd:Option Addr) (sl:Array (Option Value)) :
  Meets (Builtin.«int.__rmul__» ⟨[.int a t,.ref l],[]⟩) (fun _ R s=>s.heap.get? l=some ⟨.type "list", dd,.seq items n,sl⟩/\R (.ok (.ret Value.notImplemented)) s):=Meets.of_wp fun prog w A R s h=>by
 obtain⟨hp,g,d,tk,os⟩:=s
 obtain⟨hl,h⟩:=h
 wp_walk
 exact⟨_,rfl,h⟩
theorem aC7(l:Addr) (items:Array Value) (n:Nat) (dd:Option Addr) (sl:Array (Option Value)) (x:Int) (u:Tok) (c0:¬(!Builtin.List.listFitsIndex x)=true) (c1:¬items.size*x.toNat > (2 ^ 63 - 1) / 8) (c2:¬Builtin.List.listTooLong (items.size*x.toNat)=true) :
  Meets (Builtin.«list.__mul__» ⟨[.ref l,.int x u],[]⟩) (fun _ R s=>s.heap.get? l=some ⟨.type "list", dd,.seq items n,sl⟩/\R (.ok (.ret (Value.ref s.heap.objs.size))) { s with heap:=s.heap.push { cls:=Value.type "list", data:=Data.seq (List.foldl (fun x1 x2=>x1++x2) #[] (List.replicate (if items.isEmpty=true then 0 else x.toNat) items)) } }):=Meets.of_wp fun prog w A R s h=>by
 obtain⟨hp,g,d,tk,os⟩:=s
 obtain⟨hl,h⟩:=h
 have hsz:=AutoListH.joined_fits c2
 wp_walk
 refine wpAny_ite_false (decide_eq_false (Nat.not_lt.mpr hsz)) ?_
 wp_walk
 exact⟨_,rfl,h⟩
theorem bu9:OpR X (binaryOp .Mult) (fun x y H Q=>∃l k xs,x=.ref l/\y=.int k/\SqL X.K H l xs/\0<=k/\k < 1000000/\xs.length*k.toNat<=sizeLine/\∀p,H p=none->Q (.ref p) (upd H p (.lst (List.replicate k.toNat xs).flatten))):=by
 intro pins s σ H x y v u Q I rx ry h
 obtain⟨l,k,xs,rfl,rfl,hq,h1,h2,hz,q⟩:=h
 cases rx
 obtain⟨t,rfl⟩:=ry
 obtain⟨its,r,p1,_⟩:=I.list hq
 obtain⟨⟨cls,dd,data,sl⟩,ho,hc,n,hd⟩:=p1.isList
 simp only at hc hd
 subst hc hd
 have hl:=r.length
 have hlen:its.toArray.size*k.toNat<=sizeLine:=by rw[List.size_toArray,← hl];exact hz
 have hcap:¬its.toArray.size*k.toNat > (2 ^ 63 - 1) / 8:=by
  have:(sizeLine:Nat)<=(2 ^ 63 - 1) / 8:=by decide
  omega
 have hfit:¬(!Builtin.List.listFitsIndex k)=true:=by rw[fitsIndex_both (by omega) (by omega)];exact Bool.false_ne_true
 have hlong:¬Builtin.List.listTooLong (its.toArray.size*k.toNat)=true:=by rw[k8 hlen];exact Bool.false_ne_true
 have hnew:List.foldl (fun x1 x2=>x1++x2) #[] (List.replicate (if its.toArray.isEmpty=true then 0 else k.toNat) its.toArray)=(List.replicate k.toNat its).flatten.toArray:=by
  rw[aH9]
  cases its with
  | nil=>simp
  | cons a r'=>rw[if_neg (by simp)]
 refine wpAny_binaryOp_repeat_ref (T := "list") (U := "int") (by decide) ⟨_,ho,rfl⟩ (fun s'=>typeIs_int s' k t) noFill_list_mul F.fills_int_mul F.slot_int_rmul repeat_list F.slot_int_index.lookup
  (call_meets F.slot_int_rmul (typeIs_int s k t) F.entry_int_rmul (F.args_int_rmul_2 _ _) (aw0 k t l its.toArray n dd sl) ⟨ho,rfl,⟨_,ho,rfl⟩,
   call_meets F.slot_list_mul ⟨_,ho,rfl⟩ F.entry_list_mul (F.args_list_mul_2 _ _) (aC7 l its.toArray n dd sl k t hfit hcap hlong) ⟨ho,?_⟩⟩)
 rw[hnew]
 exact⟨.ref _,_,I.lnew (t':=s.toks) (r.rep k.toNat) (by rw[ay0,Nat.mul_comm];exact hz),rfl,q _ I.fresh⟩
noncomputable def C6(x y:D):Option D:=match x,y with
 | .tuple xs,.int k=>if k=1 then some (.tuple xs) else m8 (.tuple xs) (.int k)
 | .list xs,.int k=>if 0<=k/\k < 1000000/\xs.length*k.toNat<=16777216 then some (.list (List.replicate k.toNat xs).flatten) else none
 | x,y=>m8 x y
theorem aP0:OpD X (binaryOp .Mult) C6:=fun x y z h=>by
 unfold C6 at h
 split at h
 ·split at h
  ·rename_i xs k c
   subst c
   cases h
   refine OpR.imp bg5 fun vx vy H Q ⟨Hf,s,r1,r2,kk⟩=>?_
   obtain⟨a,vs,rfl,h2,h3⟩:=r1
   exact⟨a,vs,rfl,r2,C8 s h2,kk _ _ _ (Grow.refl s) ⟨a,vs,rfl,h2,h3⟩⟩
  ·exact ax1 _ _ z h
 ·split at h
  ·rename_i xs k c
   cases h
   refine OpR.imp bu9 fun vx vy H Q ⟨Hf,s,r1,r2,kk⟩=>?_
   obtain⟨a,vs,rfl,h2,h3⟩:=r1
   refine⟨a,k,vs,rfl,r2,F2 s h2,c.1,c.2.1,by rw[h3.length,sizeLine_eq];exact c.2.2,fun p hp=>?_⟩
   exact kk _ _ _ (Grow.laid s hp) ⟨p,_,rfl,SqL.of C1,(h3.flatten k.toNat).mono (D7 (s.free hp))⟩
  ·cases h
 ·exact ax1 _ _ z h
theorem S9(i j:Int):A9 (.int i) (.int j)=some (.int (i+j)):=rfl
noncomputable def aY7(f:Rho->Option (Bool×List D)) (lo hi:Rho->Option (Option Int)):DE:=fun ρ=>(f ρ).bind fun q=>(lo ρ).bind fun l=>(hi ρ).bind fun h=>if q.1=true then none else some (.list (O9 q.2 l h))
theorem bR7{a:Expr}{lo hi:Option Expr}{f:Rho->Option (Bool×List D)}{l h:Rho->Option (Option Int)}{pos p2:Pos}(ha:JQ X a f) (hl:JO X lo l) (hh:JO X hi h):JE X (.Subscript a (.Slice lo hi none p2) pos) (aY7 f l h):=fun ρ d q=>by
 obtain⟨⟨t,xs⟩,e1,q⟩:=xbm q
 obtain⟨y,e2,q⟩:=xbm q
 obtain⟨z,e3,q⟩:=xbm q
 cases t with
 | true=>simp at q
 | false =>
  simp only[Bool.false_eq_true,if_false]at q
  cases q
  refine B4 (ac8 aN7 (ha ρ _ _ e1) (hl ρ y e2) (hh ρ z e3)) fun σ H Q ⟨H0,Hf,s,sl,k⟩=>?_
  refine⟨H0,Hf,s,sl,fun v H1 Hf1 g1 ⟨p,vs,q1,q2,q3⟩=>⟨H0,Hf1,g1.sub,sl.grow g1,fun H2 Hf2 g2=>⟨H0,Hf2,g2.sub,sl.grow (g1.trans g2),fun H3 Hf3 g3=>?_⟩⟩⟩
  subst q1
  have q3':=q3.mono (g2.trans g3).ext
  refine⟨p,vs,rfl,F2 (g2.trans g3).big q2,fun p' hp=>?_⟩
  exact k _ _ _ (((g1.trans g2).trans g3).trans (Grow.laid g3.sub hp)) ⟨p',_,rfl,SqL.of C1,(al5 q3' y z).mono (D7 (g3.sub.free hp))⟩
noncomputable def F4:DS:=fun _=>none
theorem D2{st:Stmt}:JS X st F4:=fun ρ fl q=>by cases q
noncomputable def ap9(f:DE):Rho->Option Bool:=fun ρ=>(f ρ).bind J4
theorem bj1{op op':CmpOp}{h1 h2:D->D->Option D}{a b c:Expr}{f g k:DE}{pos:Pos}(o1:OpD X (compareOp op) h1) (o2:OpD X (compareOp op') h2) (ha:JE X a f) (hb:JE X b g) (hc:JE X c k)
  (hm:lastMarks [op,op'] [b,c]=false:=by with_unfolding_all rfl):JT X (.Compare a [op,op'] [b,c] pos) (ap9 (L0 h1 h2 f g k)):=fun ρ d q=>by
 obtain⟨dd,q,ed⟩:=xbm q
 have ed:=aS6 ed
 subst ed
 obtain⟨x,e1,q⟩:=xbm q
 obtain⟨y,e2,q⟩:=xbm q
 obtain⟨z,e3,q⟩:=xbm q
 split at q
 ·obtain⟨w,e4,e5⟩:=xbm q
  refine aw6 (aB3 (o1 x y _ e3) (o2 y w _ e5) (ha ρ x e1) (hb ρ y e2) (hc ρ w e4) hm) fun σ H Q ⟨H0,Hf,s,sl,kk⟩=>?_
  refine⟨H0,Hf,s,sl,fun v H1 Hf1 g1 r1=>⟨H0,Hf1,g1.sub,sl.grow g1,fun u H2 Hf2 g2 r2=>⟨Hf2,g2.sub,r1.mono g2.ext,r2,fun z' H3 Hf3 g3 r3=>?_⟩⟩⟩
  refine⟨true,r3,am8 ⟨H0,Hf3,g3.sub,sl.grow ((g1.trans g2).trans g3),fun w' H4 Hf4 g4 r4=>⟨Hf4,g4.sub,r2.mono (g3.trans g4).ext,r4,fun z2 H5 Hf5 g5 r5=>?_⟩⟩⟩
  exact⟨d,r5,kk H5 Hf5 ((((g1.trans g2).trans g3).trans g4).trans g5)⟩
 ·cases q
  intro pins s σ H Q I ⟨H0,Hf,ss,sl,kk⟩
  refine aB3 (tc:=fun _ _ _=>False) (r':=fun _ _ _ _=>False) (o1 x y _ e3) (fun _ _ _ _ _ _ _ _ _ _ _ _ h=>h.elim) (ha ρ x e1) (hb ρ y e2) (fun _ _ _ _ _ _ h=>h.elim) hm pins s σ H Q I ?_
  refine⟨H0,Hf,ss,sl,fun v H1 Hf1 g1 r1=>⟨H0,Hf1,g1.sub,sl.grow g1,fun u H2 Hf2 g2 r2=>⟨Hf2,g2.sub,r1.mono g2.ext,r2,fun z' H3 Hf3 g3 r3=>?_⟩⟩⟩
  exact⟨false,r3,am9 ⟨false,rfl,kk H3 Hf3 ((g1.trans g2).trans g3)⟩⟩
 ·cases q
end
section
variable {prog:Program}{w:World}{A:Around}{E:Value->Shared->Prop}{s:Shared}{t:Bool}
end
section
variable {X:Cx}
noncomputable def cg2(ds:List D):List D:=(List.range ds.length).zip ds |>.map fun(k,d)=>PyData.tuple [.int (k:Nat),d]
noncomputable def cf3(f:Rho->Option (Bool×List D)):Rho->Option (List D):=fun ρ=>(f ρ).map fun q=>cg2 q.2
end
section
variable {prog:Program}{w:World}{A:Around}{E:Value->Shared->Prop}{s:Shared}
theorem al4{l b sl:Addr}{items new:Array Value}{n n2:Nat}{vl vu:Value}{lo hi:Option Int}{Q:Unit->Shared->Prop}
    (e:s.heap.get? l=some { cls:=.type "list", data:=.seq items n }) (e2:s.heap.get? b=some { cls:=.type "list", data:=.seq new n2 }) (hne:l≠b)
    (hs:s.heap.IsSliceOf sl vl vu .none) (pl:IsPart vl lo) (pu:IsPart vu hi) (hsz:items.size+new.size<=sizeLine)
    (h:Q () { s with heap:=s.heap.update l (Obj.mapSeq fun xs=>xs.extract 0 (HT.sIx items.size 0 lo)++new++xs.extract (max (HT.sIx items.size 0 lo) (HT.sIx items.size items.size hi)) xs.size) }) :
    wpAny (model prog w) A (setItem (.ref l) (.ref sl) (.ref b)) Q E s:=by
  have hl:s.heap.IsList l items:=PySem.IsL.isList e
  have hb:s.heap.IsList b new:=PySem.IsL.isList e2
  obtain⟨os,hos,hcs,hds⟩:=id hs
  have hTs:s.TypeIs (.ref sl) "slice" := ⟨os,hos,hcs⟩
  have hstep:¬((rawPart none==rawInt 0)=true):=Bool.false_ne_true
  have hsame:Builtin.List.listSameRef (.ref l) (.ref b)=false:=by
    unfold Builtin.List.listSameRef
    exact beq_eq_false_iff_ne.mpr hne
  have hbd:sliceBounds lo hi none items.size=(((HT.sIx items.size 0 lo:Nat):Int),((HT.sIx items.size items.size hi:Nat):Int),1):=by
    obtain⟨h1,h2,h3⟩:=ac2 lo hi items.size
    exact Prod.ext h1 (Prod.ext h2 h3)
  have hmax:(max ((HT.sIx items.size 0 lo:Nat):Int) ((HT.sIx items.size items.size hi:Nat):Int)).toNat=max (HT.sIx items.size 0 lo) (HT.sIx items.size items.size hi):=by omega
  have hz':((fun xs:Array Value=>xs.extract 0 (HT.sIx items.size 0 lo)++new++xs.extract (max (HT.sIx items.size 0 lo) (HT.sIx items.size items.size hi)) xs.size) items).size<=sizeLine+1:=by
    simp only[Array.size_append,Array.size_extract]
    omega
  unfold setItem
  try with_reducible refine wpAny_holding ?_
  first|refine wpAny_bind (wpAny_pure ?_)|skip
  refine wpAny_bind (wpAny_sequenceKey hl.typeIs (by decide) ?_)
  refine wpAny_bind (wpAny_callSpecial?_slot (name:=Str.ofString "__setitem__") hl.typeIs slot_list_setitem (wpAny_call_entry slot_list_setitem hl.typeIs entry_list_setitem ?_ (args_list_setitem _ _ _)))
  show wpAny _ _ (Builtin.List.listSubscript? (.ref sl) >>= _) _ _ s
  refine wpAny_bind ?_
  unfold Builtin.List.listSubscript?
  refine wpAny_bind (wpAny_specialOf hTs slice_no_index ?_)
  simp only[Option.isNone_none,if_true]
  refine wpAny_pure ?_
  show wpAny _ _ (typeOf (.ref sl) >>= _) _ _ s
  refine wpAny_bind (wpAny_typeOf hTs ?_)
  first
    | rw[if_neg (by decide)]
    | refine PySem.W.KFB.if_not (by decide) ?_
  rw[listSliceParts_eq]
  refine wpAny_bind (wpAny_bind (wpAny_field hos hds (x:=.none) rfl (wpAny_bind (wpAny_listPart .none ?_))))
  rw[if_neg hstep]
  refine wpAny_bind (wpAny_field hos hds (x:=vl) rfl (wpAny_bind (wpAny_listPart pl ?_)))
  refine wpAny_bind (wpAny_field hos hds (x:=vu) rfl (wpAny_bind (wpAny_listPart pu (wpAny_pure ?_))))
  first
    | simp only[hsame,Bool.false_eq_true,if_false]
    | refine PySem.W.KFB.if_not hsame ?_
    | (dsimp only
       rw[if_neg (by rw[hsame];exact Bool.false_ne_true)])
  refine wpAny_bind (m:=Builtin.List.listAllItems (.ref b) "must assign iterable to extended slice") ?_
  unfold Builtin.List.listAllItems
  refine wpAny_bind (wpAny_typeOf hb.typeIs ?_)
  first
    | refine PySem.W.KFB.if_so (by decide) ?_
    | rw[if_pos (by decide)]
    | simp only[beq_self_eq_true,Bool.true_or,if_true]
  unfold Builtin.List.listItems
  refine wpAny_bind (wpAny_seqItems e2 rfl (wpAny_pure ?_))
  refine wpAny_bind (wpAny_bind (wpAny_seqItems e rfl (wpAny_pure ?_)))
  refine wpAny_bind (wpAny_of_eq ((sliceIndices_raw lo hi none items.size (by simp)).trans (congrArg (pure:Int×Int×Int->Sem (Int×Int×Int)) hbd)) ?_)
  show wpAny _ _ (if((1:Int)==1)=true then _ else _) _ _ s
  rw[if_pos (by decide)]
  refine wpAny_bind (wpAny_rule ?_)
  first
    | simp only[k8 hsz,Bool.false_eq_true,if_false]
    | refine PySem.W.KFB.if_not (k8 hsz) ?_
  first|refine wpAny_bind (wpAny_pure ?_)|skip
  show wpAny _ _ (updateSeq l (fun xs=>xs.extract 0 (((HT.sIx items.size 0 lo:Nat):Int)).toNat++new++xs.extract (max ((HT.sIx items.size 0 lo:Nat):Int) ((HT.sIx items.size items.size hi:Nat):Int)).toNat xs.size) >>= _) _ _ s
  rw[hmax,Int.toNat_natCast]
  refine wpAny_bind (wpAny_updateSeq (hz:=Nat.le_trans (Nat.le_add_right _ _) hsz) (_hz':=hz') e rfl ?_)
  refine wpAny_bind (wpAny_letGo ?_)
  first
    | exact wpAny_bind (wpAny_pure (wpAny_pure ⟨.none,rfl,wpAny_pure h⟩))
    | exact wpAny_pure ⟨.none,rfl,wpAny_pure h⟩
end
section
variable {X:Cx}
noncomputable def al1{α:Type}(xs:List α) (lo hi:Option Int) (ys:List α):List α:=xs.take (HT.sIx xs.length 0 lo)++ys++xs.drop (max (HT.sIx xs.length 0 lo) (HT.sIx xs.length xs.length hi))
theorem aH8{pins:List (Addr×Obj)}{s:Shared}{σ:L2.St}{H:Hp}{l b sl:Addr}{xs ys:List V}{lo hi:Option Int}{vl vu:Value}{Q:Unit->Shared->Prop}(I:Inv X pins σ H s)
  (hH:H l=some (.lst xs)) (hB:H b=some (.lst ys)) (hne:l≠b) (hs:s.heap.IsSliceOf sl vl vu .none) (pl:IsPart vl lo) (pu:IsPart vu hi)
  (hz:xs.length+ys.length<=sizeLine) (h:∀s',Inv X pins σ (upd H l (.lst (al1 xs lo hi ys))) s'->Q () s') :
  wpAny (model X.prog X.w) X.A (setItem (.ref l) (.ref sl) (.ref b)) Q X.xe s:=by
 obtain⟨z,its,n,r,hl,e⟩:=I.lstM hH
 obtain⟨z2,its2,n2,r2,hl2,e2⟩:=I.lstM hB
 refine al4 e e2 hne hs pl pu (by rw[List.size_toArray,List.size_toArray];omega) (h _ ?_)
 have hz0:its.toArray.size=xs.length:=by rw[List.size_toArray];exact hl.symm
 refine I.lset (its':=its.take (HT.sIx xs.length 0 lo)++its2++its.drop (max (HT.sIx xs.length 0 lo) (HT.sIx xs.length xs.length hi))) (t':=s.toks) hH e ?_ (D5.append (D5.append (r.take _) r2) (r.drop _)) ?_
 ·have e0:=aU3 its its2 (HT.sIx xs.length 0 lo) (max (HT.sIx xs.length 0 lo) (HT.sIx xs.length xs.length hi))
  rw[hz0]at e0 ⊢
  exact e0
 ·unfold al1
  rw[List.length_append,List.length_append,List.length_take,List.length_drop]
  omega
theorem be2{K:PySem.W.Frag}{H:Hp}{ds es:List D}{vs us:List V}(h:Reps K H ds vs) (g:Reps K H es us) (lo hi:Option Int):Reps K H (al1 ds lo hi es) (al1 vs lo hi us):=by
 unfold al1
 rw[h.length]
 exact((h.take _).append g).append (h.drop _)
theorem Slots.reOwn{K:PySem.W.Frag}{H0 H Hf:Hp}{ρ:Rho}{σ:L2.St}{i:Nat}{ds ds':List D}{b:Addr}{vs':List V}(sl:Slots K H0 ρ σ H Hf) (eo:ρ[i]? = some (some (.own ds))) (h1:σ[i]? = some (some (.ref b))) (hf:Hf b=none) (h0:H0 b=none) (r:Reps K Hf ds' vs') :
  Slots K H0 (ρ.set i (some (.own ds'))) σ (upd H b (.lst vs')) Hf:=by
 refine⟨by simpa using sl.len,fun j bb z=>?_,fun j k ds1 es c q1 q2 q3 q4=>?_⟩
 ·by_cases qj:i=j
  ·subst qj
   have hi:i < ρ.length:=(List.getElem?_eq_some_iff.mp eo).1
   rw[List.getElem?_set_self hi]at z
   cases z
   exact⟨_,h1,b,vs',rfl,C1,hf,h0,r⟩
  ·rw[List.getElem?_set_ne qj]at z
   obtain⟨u,z1,z2⟩:=sl.is j bb z
   refine⟨u,z1,?_⟩
   cases bb with
   | val d=>exact z2
   | exc C=>exact z2
   | own dd =>
    obtain⟨a',us',y1,y2,y3,y4,y5⟩:=z2
    have ne:a'≠b:=fun zz=>by
     subst zz y1
     exact qj (sl.apart i j ds dd a' eo z h1 z1)
    exact⟨a',us',y1,by rw[D4 ne];exact y2,y3,y4,y5⟩
 ·have f:∀(j:Nat) (es:List D),(ρ.set i (some (B.own ds')))[j]? = some (some (B.own es))->∃dd:List D,ρ[j]? = some (some (B.own dd)):=fun j es q=>by
   by_cases qj:i=j
   ·subst qj;exact⟨ds,eo⟩
   ·rw[List.getElem?_set_ne qj]at q;exact⟨_,q⟩
  obtain⟨d1,q1'⟩:=f j _ q1
  obtain⟨d2,q2'⟩:=f k _ q2
  exact sl.apart j k d1 d2 c q1' q2' q3 q4
noncomputable def bd9(i:Nat) (lo hi:Rho->Option (Option Int)) (f:Rho->Option (List D)):DS:=fun ρ=>(f ρ).bind fun es=>(lo ρ).bind fun l=>(hi ρ).bind fun h=>match ρ[i]? with
 | some (some (.own ds))=>if ds.length+es.length<=16777216 then some (.nx (ρ.set i (some (.own (al1 ds l h es))))) else none
 | _=>none
theorem bP8(i:Nat) {x:Str}{e:Expr}{lo hi:Option Expr}{f:Rho->Option (List D)}{l h:Rho->Option (Option Int)}{p p2 pos' pos:Pos}(he:JN X e f) (hl:JO X lo l) (hh:JO X hi h) (hN:X.N[i]? = some x:=by rfl)
  (hv:Vis X.env.scope x:=by first|exact Or.inl rfl|exact Or.inr (Or.inl rfl)|exact Or.inr (Or.inr rfl)) (hd:(x==("__debug__" : Str))=false:=by decide) (hcd:(x==("__classdict__" : Str))=false:=by decide)
  (hsw:swapsWith e (some (.Subscript (.Name x p) (.Slice lo hi none p2) pos')) pos.line X.env=pure false:=by rfl):JS X (.Assign [.Subscript (.Name x p) (.Slice lo hi none p2) pos'] e pos) (bd9 i l h f):=fun ρ fl q H0 Hf0=>by
 obtain⟨es,e1,q⟩:=xbm q
 obtain⟨y,e2,q⟩:=xbm q
 obtain⟨z,e3,q⟩:=xbm q
 split at q
 ·rename_i ds eo
  split at q
  ·rename_i hz
   cases q
   intro pins s σ H En I ⟨Hf,a,ee⟩
   refine wpAny_Assign_Subscript (thn (he ρ es e1 pins s σ H (fun v H'=>∃Hf',Grow H Hf H' Hf'/\∃b us,v=.ref b/\H b=none/\H' b=some (.lst us)/\Hf' b=none/\Reps X.K Hf' es us) I ⟨H0,Hf,a.gr.sub,a.sl,fun v H' Hf' g r=>⟨Hf',g,r⟩⟩) fun v s1 ⟨x1,H1,I1,r1,Hf1,g1,b,us,ev,b1,b2,b3,b4⟩=>?_) hsw
   subst ev
   cases r1
   obtain⟨vl0,h1,c,vs,ev,h2,h3,h4,h5⟩:=a.sl.is i _ eo
   subst ev
   refine thn (z9 hN hv hd hcd pins s1 σ H1 (fun v H'=>v=.ref c/\H'=H1) I1 ⟨_,h1,rfl,rfl⟩) fun ov s2 ⟨x2,H2,I2,r2,ex,eH⟩=>?_
   subst ex eH
   cases r2
   have sl1:=a.sl.grow g1
   refine wpAny_Slice (thn (hl ρ y e2 pins s2 σ H2 (fun o H'=>o=y/\∃Hf',Grow H2 Hf1 H' Hf') I2 ⟨H0,Hf1,g1.sub,sl1,fun H' Hf' g=>⟨rfl,Hf',g⟩⟩) fun wl s3 ⟨o3,H3,I3,pl,eo3,Hf3,g3⟩=>?_)
   subst eo3
   have sl3:=sl1.grow g3
   refine thn (hh ρ z e3 pins s3 σ H3 (fun o H'=>o=z/\∃Hf',Grow H3 Hf3 H' Hf') I3 ⟨H0,Hf3,g3.sub,sl3,fun H' Hf' g=>⟨rfl,Hf',g⟩⟩) fun wu s4 ⟨o4,H4,I4,pu,eo4,Hf4,g4⟩=>?_
   subst eo4
   have sl4:=sl3.grow g4
   have gg:Grow H Hf H4 Hf4:=(g1.trans g3).trans g4
   rw[evalPart_none]
   refine wpAny_pure ?_
   have I5:Inv X pins σ H4 { s4 with heap:=s4.heap.push { cls:=.type "slice", data:=.fields #[wl,wu,.none] } }:=I4.kept (t':=s4.toks) fun b ob q=>Heap.get?_push_of_some _ q
   have hc:H4 c=some (.lst vs):=gg.big _ _ h2
   have hb:H4 b=some (.lst us):=(g3.trans g4).big _ _ b2
   have hcb:c≠b:=fun zz=>by subst zz;rw[h2]at b1;cases b1
   have hfc:Hf4 c=none:=gg.nofr h2 h3
   have rd:Reps X.K Hf4 (al1 ds o3 o4 es) (al1 vs o3 o4 us):=be2 (h5.mono gg.ext) (b4.mono (g3.trans g4).ext) _ _
   refine aH8 I5 hc hb hcb (Heap.IsSliceOf.new ..) pl pu (by rw[h5.length,b4.length,sizeLine_eq];exact hz) fun s' I'=>?_
   have ga:=a.gr.trans gg
   refine⟨σ,_,I',ee σ _ Hf4 ⟨⟨fun d u zz=>?_,fun d u zz=>?_,ga.ext,ga.new⟩,sl4.reOwn eo h1 hfc h4 rd⟩ gg.ext⟩
   ·rw[D4 (D8 zz h4)];exact ga.big d u zz
   ·rw[D4 (D8 zz hfc)];exact ga.sub d u zz
  ·cases q
 ·cases q
theorem bx4(i:Nat) {N':List Str}{n:Nat}{caps:List Nat}{scope:Scope}{elt tgt iter:Expr}{ifs:List Expr}{pos pos' spos:Pos}{x:Str}{src:Rho->Option (List D)}{g:D->Rho->Option Rho}{c:Rho->Option Bool}{e:DE}(hN:X.N.Nodup) (S:CompSc X N' n caps scope) (hx:∀e s,X.xe e s->False)
  (hi:JI X tgt iter src) (hg:∀C s0 H0 ex,JG (E1 X N' scope C s0 H0 ex) tgt g) (ht:∀C s0 H0 ex,JTs (E1 X N' scope C s0 H0 ex) ifs c) (he:∀C s0 H0 ex,JE (E1 X N' scope C s0 H0 ex) elt e)
  (hi2:X.N[i]? = some x:=by rfl) (hl:X.env.scope.names.lookup x=some .local:=by rfl) (hsw:swapsWith (.ListComp elt [⟨tgt,iter,ifs,0⟩] scope pos) (some (.Name x pos')) spos.line X.env=pure true:=by rfl)
  (hc:X.calm=true:=by rfl) (hs:∀x,foldedSetIterable iter X.env x=pure x:=by intro _;rfl):JS X (.Assign [.Name x pos'] (.ListComp elt [⟨tgt,iter,ifs,0⟩] scope pos) spos) (Z6 i (B6 n caps src g c e)):=fun ρ fl q H0 Hf0=>by
 obtain⟨out,e1,e2⟩:=xmo q
 subst e2
 obtain⟨ds,e3,k⟩:=ab1 (K:=X.K) e1
 refine K8 (al6 S hx hc hN hi2 hl (hi ρ ds e3) (g:=tgJ X.K g) (tc:=ar0 X.K c) (te:=aN4 X.K e) hg ht (fun C s0 H0 ex pins s σ H Q I ⟨ρ,d,e,t⟩=>he C s0 H0 ex ρ d e pins s σ H Q I t) hsw hs) fun En σ H ⟨Hf,a,ee⟩=>k σ H _ ⟨H0,Hf,a.gr.sub,a.sl,fun v H' Hf' gg ⟨p,vs,z1,z2,z3,z4,z5⟩=>?_⟩
 subst z1
 exact ee _ H' Hf' ⟨a.gr.trans gg,a.sl.setOwn gg (a.gr.big.free z2) z2 z3 z4 z5⟩ gg.ext
noncomputable def bD8:DS:=fun ρ=>some (.ct ρ)
theorem bx5{pos:Pos}:JS X (.Continue pos) bD8:=fun ρ fl q H0 Hf0=>by
 cases q
 exact K8 aB4 fun En σ H ⟨Hf,a,e⟩=>e σ H Hf a (E2.refl _)
end
section
variable {X:Cx}
noncomputable def ai4(x:Str) (k:Int):Str:=if(k==1 || x.length==0)=true then x else⟨(List.replicate k.toNat x.cps).foldl (·++·) #[]⟩
noncomputable def aV6(x y:D):Option D:=match x,y with
 | .str x,.int k=>if 1<=k/\k<=2/\x.length<=1000/\(ai4 x k).length<=16777216 then some (.str (ai4 x k)) else none
 | _,_=>none
theorem bv6:OpD X (binaryOp .Mult) aV6:=fun x y z h=>by
 unfold aV6 at h
 split at h
 ·split at h
  ·rename_i x k c
   cases h
   intro pins s σ H vx vy v u Q I rx ry ⟨Hf,ss,r1,r2,kk⟩
   cases r1
   cases r2
   obtain⟨t,rfl⟩:=rx
   obtain⟨t2,rfl⟩:=ry
   have w:=kk (.str (ai4 x k)) H Hf (Grow.refl ss) rfl
   have k12:k=1\/k=2:=by omega
   refine P.mul_str (by rw[decide_eq_false (by omega),decide_eq_false (by omega)];rfl) (fun _ _=>by rcases k12 with rfl|rfl<;>omega) (fun _ _=>?_) ?_
   ·unfold Builtin.Str.tooLong
    rw[sizeLine_eq]
    refine decide_eq_false ?_
    rcases k12 with rfl|rfl<;>simp<;>omega
   ·rw[if_neg (by omega)]
    unfold ai4 at w c
    split
    ·rename_i e
     rw[if_pos e]at w
     exact⟨.str x,H,I,⟨_,rfl⟩,w⟩
    ·rename_i e
     rw[if_neg e]at w c
     exact⟨by rw[sizeLine_eq];exact c.2.2.2,.str _,H,I.tok _,⟨_,rfl⟩,w⟩
  ·cases h
 ·cases h
noncomputable def slS(x:Str) (lo hi:Option Int):Str:=if((1:Int)==1&&(Builtin.Str.strSliceIndices lo hi 1 x.length).length==x.length)=true then x else⟨((Builtin.Str.strSliceIndices lo hi 1 x.length).filterMap (x.cps[·]?)).toArray⟩
noncomputable def aY6(f:DE) (lo hi:Rho->Option (Option Int)):DE:=fun ρ=>(f ρ).bind fun d=>(lo ρ).bind fun l=>(hi ρ).bind fun h=>match d with
 | .str x=>if x.length<=1000/\(slS x l h).length<=16777216 then some (.str (slS x l h)) else none
 | _=>none
theorem aO7{u:Value}{o:Option Int}(h:IsPart u o):∃p:Option (Int×Tok),u=partValue p/\p.map (·.1)=o:=by
 cases h with
 | none=>exact⟨none,rfl,rfl⟩
 | int i t=>exact⟨some (i,t),rfl,rfl⟩
theorem bs3:SlR X (fun x lo hi H Q=>∃z,x=.str z/\(slS z lo hi).length<=16777216/\Q (.str (slS z lo hi)) H):=by
 intro pins s σ H x v vl vu lo hi sl Q I rx hs pl pu h
 obtain⟨z,rfl,hz,q⟩:=h
 obtain⟨t,rfl⟩:=rx
 obtain⟨pl',rfl,rfl⟩:=aO7 pl
 obtain⟨pu',rfl,rfl⟩:=aO7 pu
 refine⟨"str", _,F.slot_str_getitem.lookup,typeIs_str s z t,wpAny_getItem_str_slice (l:=pl') (u:=pu') (st:=none) hs rfl ?_⟩
 show(if((1:Int)==1&&(Builtin.Str.strSliceIndices (pl'.map (·.1)) (pu'.map (·.1)) 1 z.length).length==z.length)=true then Made.val (.str z t) else Made.str ⟨((Builtin.Str.strSliceIndices (pl'.map (·.1)) (pu'.map (·.1)) 1 z.length).filterMap (z.cps[·]?)).toArray⟩).post _ _
 unfold slS at q hz
 by_cases e:((1:Int)==1&&(Builtin.Str.strSliceIndices (pl'.map (·.1)) (pu'.map (·.1)) 1 z.length).length==z.length)=true
 ·rw[if_pos e]at q ⊢
  exact⟨.str z,H,I,⟨_,rfl⟩,q⟩
 ·rw[if_neg e]at q hz ⊢
  exact⟨by rw[sizeLine_eq];exact hz,.str _,H,I.tok _,⟨_,rfl⟩,q⟩
theorem bR6{a:Expr}{lo hi:Option Expr}{f:DE}{l h:Rho->Option (Option Int)}{pos p2:Pos}(ha:JE X a f) (hl:JO X lo l) (hh:JO X hi h):JE X (.Subscript a (.Slice lo hi none p2) pos) (aY6 f l h):=fun ρ d q=>by
 obtain⟨x,e1,q⟩:=xbm q
 obtain⟨y,e2,q⟩:=xbm q
 obtain⟨z,e3,q⟩:=xbm q
 cases x with
 | str x =>
  simp only at q
  split at q
  ·rename_i c
   cases q
   refine B4 (ac8 bs3 (ha ρ _ e1) (hl ρ y e2) (hh ρ z e3)) fun σ H Q ⟨H0,Hf,s,sl,k⟩=>?_
   refine⟨H0,Hf,s,sl,fun v H1 Hf1 g1 r1=>⟨H0,Hf1,g1.sub,sl.grow g1,fun H2 Hf2 g2=>⟨H0,Hf2,g2.sub,sl.grow (g1.trans g2),fun H3 Hf3 g3=>?_⟩⟩⟩
   exact⟨x,r1,c.2,k _ H3 Hf3 ((g1.trans g2).trans g3) rfl⟩
  ·cases q
 | _=>cases q
noncomputable def av9(i:Nat) (f:DE):DS:=fun ρ=>match ρ[i]? with
 | some (some (.own ds))=>(f ρ).bind fun d=>match d with
  | .list es=>if ds.length+es.length<=16777216 then some (.nx (ρ.set i (some (.own (ds++es))))) else none
  | .tuple es=>if ds.length+es.length<=16777216 then some (.nx (ρ.set i (some (.own (ds++es))))) else none
  | _=>none
 | _=>none
end
section
variable {X:Cx}
noncomputable def aV5(f g:Rho->Option (Bool×List D)):Rho->Option (List D):=fun ρ=>(f ρ).bind fun p=>(g ρ).bind fun q=>if p.1=false/\q.1=false/\p.2.length+q.2.length<=16777216 then some (p.2++q.2) else none
theorem bR0{a b:Expr}{f g:Rho->Option (Bool×List D)}{pos:Pos}(ha:JQ X a f) (hb:JQ X b g):JN X (.BinOp a .Add b pos) (aV5 f g):=fun ρ out q=>by
 obtain⟨⟨t1,xs⟩,e1,q⟩:=xbm q
 obtain⟨⟨t2,ys⟩,e2,q⟩:=xbm q
 split at q
 ·rename_i c
  obtain⟨c1,c2,c3⟩:=c
  simp only at c1 c2 c3
  subst c1 c2
  cases q
  refine B4 (bE3 aO9 (ha ρ _ _ e1) (hb ρ _ _ e2)) fun σ H Q ⟨H0,Hf,s,sl,k⟩=>?_
  refine⟨H0,Hf,s,sl,fun v H1 Hf1 g1 ⟨p,vs,z1,z2,z3⟩=>⟨H0,Hf1,g1.sub,sl.grow g1,fun u H2 Hf2 g2 ⟨p',us,z1',z2',z3'⟩=>?_⟩⟩
  subst z1 z1'
  refine⟨p,p',vs,us,rfl,rfl,F2 g2.big z2,z2',by rw[z3.length,z3'.length,sizeLine_eq];exact c3,fun n hn=>?_⟩
  exact k _ _ _ ((g1.trans g2).trans (Grow.made g2.sub hn)) ⟨n,vs++us,rfl,(g1.trans g2).big.free hn,C1,g2.sub.free hn,(z3.mono g2.ext).append z3'⟩
 ·cases q
end
section
variable {X:Cx}
theorem bA5(l b:Addr) (xs ys:Array Value) (n m:Nat) (dd:Option Addr) (sl:Array (Option Value)) (h0:¬(!xs.isEmpty&&Builtin.List.listTooLong (xs.size+ys.size))=true) (h1:xs.size<=sizeLine) (h2:xs.size+ys.size<=sizeLine+1) :
  Meets (Builtin.«list.extend» ⟨[.ref l,.ref b],[]⟩) (fun _ R s=>s.heap.get? l=some { cls:=.type "list", data:=.seq xs n }/\s.heap.get? b=some ⟨.type "list", dd,.seq ys m,sl⟩ /\
   R (.ok (.ret Value.none)) { s with heap:=s.heap.update l (Obj.mapSeq fun x=>x++ys),toks:=s.toks }) :=
 .of_wp fun prog w A R s h=>by
  obtain⟨hp,g,d,tk,os⟩:=s
  obtain⟨hl,hb,h⟩:=h
  have f1:=AutoSeq1.idx_int
  have f2:=AutoSeq1.sub_tuple_tuple
  have f3:=AutoSeq1.sub_list_list
  have f4:=AutoSeq1.sub_tuple_list
  have f5:=AutoSeq1.sub_list_tuple
  have hz':(xs++ys).size<=sizeLine+1:=by rw[Array.size_append];exact h2
  wp_walk using (wpAny_updateSeq hl rfl (hz:=h1) (_hz':=hz')),AutoSeq1.wpAny_loadPart' hl,AutoSeq1.wpAny_loadPart' hb
  exact⟨_,rfl,h⟩
theorem bA4(l b:Addr) (xs ys:Array Value) (n m:Nat) (dd:Option Addr) (sl:Array (Option Value)) (h0:¬(!xs.isEmpty&&Builtin.List.listTooLong (xs.size+ys.size))=true) (h1:xs.size<=sizeLine) (h2:xs.size+ys.size<=sizeLine+1) :
  Meets (Builtin.«list.extend» ⟨[.ref l,.ref b],[]⟩) (fun _ R s=>s.heap.get? l=some { cls:=.type "list", data:=.seq xs n }/\s.heap.get? b=some ⟨.type "tuple", dd,.seq ys m,sl⟩ /\
   R (.ok (.ret Value.none)) { s with heap:=s.heap.update l (Obj.mapSeq fun x=>x++ys),toks:=s.toks }) :=
 .of_wp fun prog w A R s h=>by
  obtain⟨hp,g,d,tk,os⟩:=s
  obtain⟨hl,hb,h⟩:=h
  have f1:=AutoSeq1.idx_int
  have f2:=AutoSeq1.sub_tuple_tuple
  have f3:=AutoSeq1.sub_list_list
  have f4:=AutoSeq1.sub_tuple_list
  have f5:=AutoSeq1.sub_list_tuple
  have hz':(xs++ys).size<=sizeLine+1:=by rw[Array.size_append];exact h2
  wp_walk using (wpAny_updateSeq hl rfl (hz:=h1) (_hz':=hz')),AutoSeq1.wpAny_loadPart' hl,AutoSeq1.wpAny_loadPart' hb
  exact⟨_,rfl,h⟩
noncomputable def ck6(K:PySem.W.Frag):V->List V->Hp->VK->Prop:=fun x vs H Q=>∃l b xs zs,x=.ref l/\vs=[.ref b]/\H l=some (.lst xs)/\(SqL K H b zs\/SqT K H b zs)/\xs.length+zs.length<=sizeLine/\Q .non (upd H l (.lst (xs++zs)))
theorem bi0:MtM X "list.extend" (ck6 X.K):=by
 intro pins s σ H x vs v us Q I rx rv h
 obtain⟨l,b,xs,zs,rfl,rfl,hH,hB,hz,q⟩:=h
 cases rx
 obtain⟨u,rfl,ru⟩:=rv.one
 cases ru
 obtain⟨z,its,n,r,hl,e⟩:=I.lstM hH
 rcases hB with hB|hB
 ·obtain⟨its2,r2,pl,_⟩:=I.list hB
  obtain⟨⟨cls,dd,data,sl⟩,ho,hc,m,hd⟩:=pl.isList
  simp only at hc hd
  subst hc hd
  have hl2:=r2.length
  have hsz:its.toArray.size+its2.toArray.size<=sizeLine:=by rw[List.size_toArray,List.size_toArray];omega
  have hlong:¬(!its.toArray.isEmpty&&Builtin.List.listTooLong (its.toArray.size+its2.toArray.size))=true:=by rw[k8 hsz,Bool.and_false];exact Bool.false_ne_true
  refine call_meets F.slot_list_extend ⟨_,e,rfl⟩ F.entry_list_extend (F.args_list_extend_2 _ _) (bA5 l b its.toArray its2.toArray n m dd sl hlong (by rw[List.size_toArray];omega) (by omega)) ⟨e,ho,?_⟩
  refine⟨.non,_,I.lset (its':=its++its2) hH e (by simp) (r.append r2) ?_,rfl,q⟩
  rw[List.length_append];omega
 ·obtain⟨its2,r2,pl,_⟩:=I.tuple hB
  obtain⟨⟨cls,dd,data,sl⟩,ho,hc,m,hd⟩:=pl
  simp only at hc hd
  subst hc hd
  have hl2:=r2.length
  have hsz:its.toArray.size+its2.toArray.size<=sizeLine:=by rw[List.size_toArray,List.size_toArray];omega
  have hlong:¬(!its.toArray.isEmpty&&Builtin.List.listTooLong (its.toArray.size+its2.toArray.size))=true:=by rw[k8 hsz,Bool.and_false];exact Bool.false_ne_true
  refine call_meets F.slot_list_extend ⟨_,e,rfl⟩ F.entry_list_extend (F.args_list_extend_2 _ _) (bA4 l b its.toArray its2.toArray n m dd sl hlong (by rw[List.size_toArray];omega) (by omega)) ⟨e,ho,?_⟩
  refine⟨.non,_,I.lset (its':=its++its2) hH e (by simp) (r.append r2) ?_,rfl,q⟩
  rw[List.length_append];omega
theorem bQ4(i:Nat) {x:Str}{e:Expr}{f:DE}{p apos cpos pos:Pos}(h:JE X e f) (hN:X.N[i]? = some x) (hv:Vis X.env.scope x) (hd:(x==("__debug__" : Str))=false)
  (hcd:(x==("__classdict__" : Str))=false) (hline:(apos.endLine==cpos.line)=true) (hs:starEach [e] X.env=[(false,eval e X.env)]) :
  JS X (.Expr (.Call (.Attribute (.Name x p) "extend" apos) [e] [] cpos) pos) (av9 i f):=fun ρ fl q H0 Hf0=>by
 unfold av9 at q
 split at q
 ·rename_i ds eo
  obtain⟨d,e1,q⟩:=xbm q
  split at q
  ·rename_i es
   split at q
   ·rename_i hz
    cases q
    refine K8 (aw7 (aO6 PySem.F.plainAttrs_list PySem.F.slot_list_extend PySem.F.type_list_extend bi0 (z9 hN hv hd hcd) (D9 (h ρ _ e1) G8 hs) rfl (by rw[hs];rfl) hline hs) rfl) fun En σ H ⟨Hf,a,ee⟩=>?_
    obtain⟨v,h1,b,vs,rfl,h2,h3,h4,h5⟩:=a.sl.is i _ eo
    refine⟨_,h1,.inl ⟨rfl,vs,SqL.of h2⟩,H0,Hf,a.gr.sub,a.sl,fun w H' Hf' gg r=>?_⟩
    obtain⟨b2,us,rfl,r1,r2⟩:=r
    have hb:H' b=some (.lst vs):=gg.big _ _ h2
    have hfb:Hf' b=none:=gg.nofr h2 h3
    have g2:=a.gr.trans gg
    have sl2:=a.sl.grow gg
    refine⟨b,b2,vs,us,rfl,rfl,hb,.inl (F2 gg.sub r1),by rw[h5.length,r2.length,sizeLine_eq];exact hz,ee _ _ Hf' ⟨⟨fun c u z=>?_,fun c u z=>?_,g2.ext,g2.new⟩,?_⟩ gg.ext⟩
    ·rw[D4 (D8 z h4)];exact g2.big c u z
    ·rw[D4 (D8 z hfb)];exact g2.sub c u z
    ·exact sl2.reOwn eo h1 hfb h4 ((h5.mono gg.ext).append r2)
   ·cases q
  ·rename_i es
   split at q
   ·rename_i hz
    cases q
    refine K8 (aw7 (aO6 PySem.F.plainAttrs_list PySem.F.slot_list_extend PySem.F.type_list_extend bi0 (z9 hN hv hd hcd) (D9 (h ρ _ e1) G8 hs) rfl (by rw[hs];rfl) hline hs) rfl) fun En σ H ⟨Hf,a,ee⟩=>?_
    obtain⟨v,h1,b,vs,rfl,h2,h3,h4,h5⟩:=a.sl.is i _ eo
    refine⟨_,h1,.inl ⟨rfl,vs,SqL.of h2⟩,H0,Hf,a.gr.sub,a.sl,fun w H' Hf' gg r=>?_⟩
    obtain⟨b2,us,rfl,r1,r2⟩:=r
    have hb:H' b=some (.lst vs):=gg.big _ _ h2
    have hfb:Hf' b=none:=gg.nofr h2 h3
    have g2:=a.gr.trans gg
    have sl2:=a.sl.grow gg
    refine⟨b,b2,vs,us,rfl,rfl,hb,.inr (C8 gg.sub r1),by rw[h5.length,r2.length,sizeLine_eq];exact hz,ee _ _ Hf' ⟨⟨fun c u z=>?_,fun c u z=>?_,g2.ext,g2.new⟩,?_⟩ gg.ext⟩
    ·rw[D4 (D8 z h4)];exact g2.big c u z
    ·rw[D4 (D8 z hfb)];exact g2.sub c u z
    ·exact sl2.reOwn eo h1 hfb h4 ((h5.mono gg.ext).append r2)
   ·cases q
  ·cases q
 ·cases q
end
section
variable {prog:Program}{w:World}{A:Around}{R:Result->Shared->Prop}{J:Addr}{fp wr:List Addr}{Gn:Array GenState->Array GenState->Prop}{n:Nat}{P:Nat->Value->Prop}{St:Nat->Shared->Prop}
end
section
variable {prog:Program}{w:World}{A:Around}{E:Value->Shared->Prop}{s:Shared}
end
section
variable {X:Cx}
end
section
variable {X:Cx}
noncomputable def cf4(x y:Str):Bool:=!(Builtin.Str.occurrences y x 0 y.length 1).isEmpty
noncomputable def inS(neg:Bool) (x y:D):Option D:=match x,y with
 | .str i,.str j=>some (.bool (if neg then !cf4 i j else cf4 i j))
 | _,_=>none
noncomputable def ch0(f:DE):DE:=fun ρ=>(f ρ).bind fun d=>match d with
 | .str x=>if x.length<=16777216 then some (.int x.length) else none
 | _=>none
noncomputable def ca2(x:Str):List D:=x.cps.toList.map fun c=>.str ⟨#[c]⟩
noncomputable def cl9(f:DE):Rho->Option (List D):=fun ρ=>(f ρ).bind fun d=>match d with
 | .str x=>if x.cps.all (· < 128)=true then some (ca2 x) else none
 | _=>none
end
end G
namespace G
open PySem PySem.Spec PyProof PyProof.Rows L2
section
variable {X:Cx}
noncomputable def mnF(m x:Int):Int:=if x < m then x else m
noncomputable def mxF(m x:Int):Int:=if x > m then x else m
noncomputable def mnL:List Int->Int
 | []=>0
 | a::r=>r.foldl mnF a
noncomputable def mxL:List Int->Int
 | []=>0
 | a::r=>r.foldl mxF a
theorem aP5:∀(l:List Int) (z:Int),(l.foldl mnF z=z\/l.foldl mnF z∈l)/\l.foldl mnF z<=z/\∀a∈l,l.foldl mnF z<=a
 | [],z=>⟨.inl rfl,Int.le_refl _,fun a h=>by simp at h⟩
 | x::l,z=>by
  obtain⟨h1,h2,h3⟩:=aP5 l (mnF z x)
  rw[List.foldl_cons]
  have k:(mnF z x=z\/mnF z x=x)/\mnF z x<=z/\mnF z x<=x:=by unfold mnF;split<;>omega
  refine⟨?_,by omega,fun a ha=>?_⟩
  ·rcases h1 with h|h
   ·rcases k.1 with q|q
    ·left;rw[h,q]
    ·right;rw[h,q];exact List.mem_cons_self ..
   ·right;exact xmm _ h
  ·rcases List.mem_cons.mp ha with rfl|ha
   ·omega
   ·exact h3 a ha
theorem aP4:∀(l:List Int) (z:Int),(l.foldl mxF z=z\/l.foldl mxF z∈l)/\z<=l.foldl mxF z/\∀a∈l,a<=l.foldl mxF z
 | [],z=>⟨.inl rfl,Int.le_refl _,fun a h=>by simp at h⟩
 | x::l,z=>by
  obtain⟨h1,h2,h3⟩:=aP4 l (mxF z x)
  rw[List.foldl_cons]
  have k:(mxF z x=z\/mxF z x=x)/\z<=mxF z x/\x<=mxF z x:=by unfold mxF;split<;>omega
  refine⟨?_,by omega,fun a ha=>?_⟩
  ·rcases h1 with h|h
   ·rcases k.1 with q|q
    ·left;rw[h,q]
    ·right;rw[h,q];exact List.mem_cons_self ..
   ·right;exact xmm _ h
  ·rcases List.mem_cons.mp ha with rfl|ha
   ·omega
   ·exact h3 a ha
theorem bi1{l:List Int}(h:l≠[]):mnL l∈l/\∀a∈l,mnL l<=a:=by
 cases l with
 | nil=>exact absurd rfl h
 | cons x l =>
  obtain⟨h1,h2,h3⟩:=aP5 l x
  refine⟨?_,fun a ha=>?_⟩
  ·rcases h1 with h|h
   ·show l.foldl mnF x∈_;rw[h];exact List.mem_cons_self ..
   ·exact xmm _ h
  ·rcases List.mem_cons.mp ha with rfl|ha
   ·exact h2
   ·exact h3 a ha
theorem am3{l:List Int}(h:l≠[]):mxL l∈l/\∀a∈l,a<=mxL l:=by
 cases l with
 | nil=>exact absurd rfl h
 | cons x l =>
  obtain⟨h1,h2,h3⟩:=aP4 l x
  refine⟨?_,fun a ha=>?_⟩
  ·rcases h1 with h|h
   ·show l.foldl mxF x∈_;rw[h];exact List.mem_cons_self ..
   ·exact xmm _ h
  ·rcases List.mem_cons.mp ha with rfl|ha
   ·exact h2
   ·exact h3 a ha
noncomputable def an2:List D->Option (List Int)
 | []=>some []
 | .int i::r=>(an2 r).map fun ys=>i::ys
 | _::_=>none
theorem p8{K:PySem.W.Frag}{H:Hp}:∀{ds:List D}{ys:List Int}{vs:List V},an2 ds=some ys->Reps K H ds vs->vs=ys.map V.int
 | [],ys,vs,h,r=>by cases h;exact r
 | .int x::ds,ys,vs,h,r=>by
  obtain⟨zs,h1,h2⟩:=xmo h
  subst h2
  obtain⟨v,t,e1,e2,e3⟩:=r
  subst e1
  rw[show v=_ from e2,p8 h1 e3];rfl
theorem P6:∀{ys:List Int}{us:List Value},D5 (ys.map V.int) us->∃xs:List (Int×Tok),us=xs.map (fun p=>.int p.1 p.2)/\xs.map (·.1)=ys
 | [],[],_=>⟨[],rfl,rfl⟩
 | y::ys,u::us,h=>by
  cases h with
  | cons a b =>
   obtain⟨xs,e1,e2⟩:=P6 b
   obtain⟨t,rfl⟩:=a
   exact⟨(y,t)::xs,by rw[e1];rfl,by rw[List.map_cons,e2]⟩
theorem aZ1(hc:X.calm=true):R3 X (.builtin "min") (fun xs H Q=>∃p ns,xs=[.ref p]/\SqL X.K H p (ns.map V.int)/\ns≠[]/\Q (.int (mnL ns)) H):=by
 intro pins s σ H xs us Q I r h
 obtain⟨p,ns,rfl,hq,hz,q⟩:=h
 obtain⟨u,rfl,rx⟩:=T6 r
 cases rx
 obtain⟨its,rv,pl,_⟩:=I.list hq
 obtain⟨zs,e1,e2⟩:=P6 rv
 have hl:s.heap.IsList p (intItems zs.toArray):=by
  have:=pl.isList
  rw[e1]at this
  simpa [intItems] using this
 have hzs:zs.toArray.toList.map (·.1)=ns:=by simpa using e2
 have hn:0 < zs.toArray.size:=by
  cases zs with
  | nil=>exact absurd e2.symm hz
  | cons=>simp
 refine min_intList (I.ok.hd hc) hl hn fun v h' tk hv hk=>?_
 obtain⟨t,rfl⟩:=intItems_at hv
 obtain⟨b1,b2⟩:=argBest_lt (numAt zs.toArray) (zs.toArray.size - 1)
 have key:numAt zs.toArray (argBest (fun i j=>decide (numAt zs.toArray i < numAt zs.toArray j)) (zs.toArray.size - 1))=mnL ns:=by
  obtain⟨m1,m2⟩:=bi1 hz
  have g:∀j,j < zs.toArray.size->numAt zs.toArray j∈ns:=fun j hj=>by rw[numAt_eq,hzs];exact getD_mem (by rw[← hzs,List.length_map,Array.length_toList];omega)
  refine Int.le_antisymm ?_ (m2 _ (g _ (by omega)))
  rw[← hzs]at m1
  obtain⟨j,hj,e⟩:=mem_getD m1
  rw[List.length_map,Array.length_toList]at hj
  have:=b2 j (by omega)
  rw[numAt_eq zs.toArray j,e,hzs]at this
  exact this
 rw[key]
 exact⟨.int _,H,I.kept (t':=tk) hk,⟨_,rfl⟩,q⟩
theorem bC1{zs:List (Int×Tok)}{ns:List Int}(hzs:zs.toArray.toList.map (·.1)=ns) (hz:ns≠[]) (hn:0 < zs.toArray.size):numAt zs.toArray (argBest (fun i j=>decide (numAt zs.toArray i > numAt zs.toArray j)) (zs.toArray.size - 1))=mxL ns:=by
 obtain⟨b1,b2⟩:=argBest_gt (numAt zs.toArray) (zs.toArray.size - 1)
 obtain⟨m1,m2⟩:=am3 hz
 have g:∀j,j < zs.toArray.size->numAt zs.toArray j∈ns:=fun j hj=>by rw[numAt_eq,hzs];exact getD_mem (by rw[← hzs,List.length_map,Array.length_toList];omega)
 refine Int.le_antisymm (m2 _ (g _ (by omega))) ?_
 rw[← hzs]at m1
 obtain⟨j,hj,e⟩:=mem_getD m1
 rw[List.length_map,Array.length_toList]at hj
 have:=b2 j (by omega)
 rw[numAt_eq zs.toArray j,e,hzs]at this
 exact this
theorem aZ3(hc:X.calm=true):R3 X (.builtin "max") (fun xs H Q=>∃p ns,xs=[.ref p]/\SqT X.K H p (ns.map V.int)/\ns≠[]/\Q (.int (mxL ns)) H):=by
 intro pins s σ H xs us Q I r h
 obtain⟨p,ns,rfl,hq,hz,q⟩:=h
 obtain⟨u,rfl,rx⟩:=T6 r
 cases rx
 obtain⟨its,rv,pl,_⟩:=I.tuple hq
 obtain⟨zs,e1,e2⟩:=P6 rv
 have hl:s.heap.IsTuple p (intItems zs.toArray):=by
  have:s.heap.IsTuple p its.toArray:=pl
  rw[e1]at this
  simpa [intItems] using this
 have hzs:zs.toArray.toList.map (·.1)=ns:=by simpa using e2
 have hn:0 < zs.toArray.size:=by
  cases zs with
  | nil=>exact absurd e2.symm hz
  | cons=>simp
 have hA:X.A.in1.handled=none:=I.ok.hd hc
 obtain⟨o,ho,hcl,n,hd⟩:=hl
 have lt:=Heap.lt_size ho
 refine call_max_walk (wpAny_pyIter_tuple ⟨o,ho,hcl,n,hd⟩ ?_)
 refine⟨s.heap.objs.size,_,_,_,_,_,_,rfl,Walks.tuple hA s.heap.objs.size p (Nat.ne_of_lt lt) (intItems zs.toArray),⟨?_,⟨o,Heap.get?_push_of_some _ ho,hcl,n,hd⟩⟩,?_,by simpa [intItems] using hn,CmpOf.ints_gt (numAt zs.toArray) (fun i v hv=>intItems_at hv),fun v h' tk hv hk=>?_⟩
 ·exact⟨_,Heap.get?_push_size _ rfl,rfl,rfl⟩
 ·intro b hb
  simp only[List.mem_cons,List.not_mem_nil,or_false]at hb
  rw[Heap.size_push]
  rcases hb with rfl|rfl
  ·exact Nat.lt_succ_self _
  ·exact Nat.lt_succ_of_lt lt
 ·obtain⟨t,rfl⟩:=intItems_at hv
  have sz:(intItems zs.toArray).size=zs.toArray.size:=by simp[intItems]
  rw[sz,bC1 hzs hz hn]
  exact⟨.int _,H,I.kept (t':=tk) (fun b o e=>hk b o (by
   simp only[List.mem_cons,List.not_mem_nil,or_false]
   exact Nat.ne_of_lt (Heap.lt_size e)) (Heap.get?_push_of_some _ e)),⟨_,rfl⟩,q⟩
theorem aZ4(hc:X.calm=true):R3 X (.builtin "max") (fun xs H Q=>∃p ns,xs=[.ref p]/\SqL X.K H p (ns.map V.int)/\ns≠[]/\Q (.int (mxL ns)) H):=by
 intro pins s σ H xs us Q I r h
 obtain⟨p,ns,rfl,hq,hz,q⟩:=h
 obtain⟨u,rfl,rx⟩:=T6 r
 cases rx
 obtain⟨its,rv,pl,_⟩:=I.list hq
 obtain⟨zs,e1,e2⟩:=P6 rv
 have hl:s.heap.IsList p (intItems zs.toArray):=by
  have:=pl.isList
  rw[e1]at this
  simpa [intItems] using this
 have hzs:zs.toArray.toList.map (·.1)=ns:=by simpa using e2
 have hn:0 < zs.toArray.size:=by
  cases zs with
  | nil=>exact absurd e2.symm hz
  | cons=>simp
 refine max_intList (I.ok.hd hc) hl hn fun v h' tk hv hk=>?_
 obtain⟨t,rfl⟩:=intItems_at hv
 obtain⟨b1,b2⟩:=argBest_gt (numAt zs.toArray) (zs.toArray.size - 1)
 have key:numAt zs.toArray (argBest (fun i j=>decide (numAt zs.toArray i > numAt zs.toArray j)) (zs.toArray.size - 1))=mxL ns:=by
  obtain⟨m1,m2⟩:=am3 hz
  have g:∀j,j < zs.toArray.size->numAt zs.toArray j∈ns:=fun j hj=>by rw[numAt_eq,hzs];exact getD_mem (by rw[← hzs,List.length_map,Array.length_toList];omega)
  refine Int.le_antisymm (m2 _ (g _ (by omega))) ?_
  rw[← hzs]at m1
  obtain⟨j,hj,e⟩:=mem_getD m1
  rw[List.length_map,Array.length_toList]at hj
  have:=b2 j (by omega)
  rw[numAt_eq zs.toArray j,e,hzs]at this
  exact this
 rw[key]
 exact⟨.int _,H,I.kept (t':=tk) hk,⟨_,rfl⟩,q⟩
noncomputable def cg9(f:Rho->Option (Bool×List D)):DE:=fun ρ=>(f ρ).bind fun q=>if q.1=true then none else(an2 q.2).bind fun ns=>if ns=[] then none else some (.int (mnL ns))
noncomputable def aS0(f:Rho->Option (Bool×List D)):DE:=fun ρ=>(f ρ).bind fun q=>(an2 q.2).bind fun ns=>if ns=[] then none else some (.int (mxL ns))
theorem ci4{e:Expr}{f:Rho->Option (Bool×List D)}{p pos:Pos}(hg:Gl X "min") (hm:X.mg "min" = none) (h:JQ X e f) (hc:X.calm=true) (he:starEach [e] X.env=[(false,eval e X.env)]):JE X (.Call (.Name "min" p) [e] [] pos) (cg9 f):=fun ρ d q=>by
 obtain⟨⟨t,ds⟩,h1,q⟩:=xbm q
 split at q
 ·cases q
 ·rename_i ht
  have ht:t=false:=by simpa using ht
  subst ht
  obtain⟨ys,h2,q⟩:=xbm q
  split at q
  ·cases q
  ·rename_i hz
   cases q
   refine B4 (L6 (aZ1 hc) hg hm bq0 (D9 (h ρ false ds h1) G8 he) (he:=he)) fun σ H Q ⟨H0,Hf,s,sl,k⟩=>?_
   refine⟨H0,Hf,s,sl,fun v H1 Hf1 g1 ⟨a,vs,e1,e2,e3⟩=>⟨a,ys,by rw[e1],?_,hz,?_⟩⟩
   ·rw[← p8 h2 e3];exact e2
   ·exact k _ _ _ g1 rfl
theorem by8{e:Expr}{f:Rho->Option (Bool×List D)}{p pos:Pos}(hg:Gl X "max") (hm:X.mg "max" = none) (h:JQ X e f) (hc:X.calm=true) (he:starEach [e] X.env=[(false,eval e X.env)]):JE X (.Call (.Name "max" p) [e] [] pos) (aS0 f):=fun ρ d q=>by
 obtain⟨⟨t,ds⟩,h1,q⟩:=xbm q
 obtain⟨ys,h2,q⟩:=xbm q
 split at q
 ·cases q
 ·rename_i hz
  cases q
  cases t with
  | false =>
   refine B4 (L6 (aZ4 hc) hg hm aL1 (D9 (h ρ false ds h1) G8 he) (he:=he)) fun σ H Q ⟨H0,Hf,s,sl,k⟩=>?_
   refine⟨H0,Hf,s,sl,fun v H1 Hf1 g1 ⟨a,vs,e1,e2,e3⟩=>⟨a,ys,by rw[e1],?_,hz,?_⟩⟩
   ·rw[← p8 h2 e3];exact e2
   ·exact k _ _ _ g1 rfl
  | true =>
   refine B4 (L6 (aZ3 hc) hg hm aL1 (D9 (h ρ true ds h1) G8 he) (he:=he)) fun σ H Q ⟨H0,Hf,s,sl,k⟩=>?_
   refine⟨H0,Hf,s,sl,fun v H1 Hf1 g1 ⟨a,vs,e1,e2,e3⟩=>⟨a,ys,by rw[e1],?_,hz,?_⟩⟩
   ·rw[← p8 h2 e3];exact e2
   ·exact k _ _ _ g1 rfl
end
end G
namespace G
open PySem PySem.Spec PyProof.Rows L2
section
variable {prog:Program}{w:World}{A:Around}{E:Value->Shared->Prop}{s:Shared}{t:Bool}
end
section
variable {X:Cx}{pins:List (Addr×Obj)}{σ:L2.St}{A:Around}{t:Bool}{S e it a:Addr}{ws:List V}
end
section
variable {X:Cx}
end
section
open PySem.SeqAt PySem.MeetsSeq PySem.MeetsSeq2 PySem.MeetsSeq3 PySem.SeqRoads2
open PySem.AutoSeq1 (wpAny_loadPart')
theorem aH4(l:Addr) (items:Array Value) (n:Nat) (dd:Option Addr) (sl:Array (Option Value)) (x:Value) (e:Nat->Bool) (j:Nat) (hj:j < items.size) (hit:e j=true) (hno:∀m,m < j->e m=false) :
  Meets (Builtin.«tuple.index» ⟨[.ref l,x],[]⟩)
   (fun A R s=>s.heap.get? l=some { cls:=.type "tuple", dict:=dd,data:=.seq items n,slots:=sl }/\(∀j (h:j < items.size),EqAt A.in1 s items[j] x (e j))/\R (.ok (.ret (.int j s.toks))) { s with toks:=s.toks+1 }) :=
 .of_wp fun prog w A R s h=>by
  obtain⟨hp,g,d,tk,os⟩:=s;obtain⟨hl,he,h⟩:=h
  unfold Builtin.«tuple.index»
  simp only[Std.Legacy.Range.forIn_eq_forIn_range']
  wp_walk using wpAny_loadPart' hl,wpAny_forIn_list _ (fun F5 b s'=>b.1=none/\s'=⟨hp,g,d,tk,os⟩/\∃i,i<=j/\F5=List.range' i (items.size - i)) _
  case turn =>
   rintro y F5 b s' ⟨hb,rfl,i,hij,hz⟩
   obtain⟨m,hm⟩:∃m,items.size - i=m+1:=⟨items.size - i - 1,by omega⟩
   rw[hm,List.range'_succ]at hz
   injection hz with hy hrest
   subst hy
   have hi:y < items.size:=by omega
   have e1:items[y]? = some items[y]:=by simp[hi]
   rw[e1]
   refine wpAny_bind (he y hi prog w _ _ ?_)
   rcases Nat.lt_or_ge y j with q|q
   ·rw[hno y q]
    wp_walk
    exact⟨rfl,rfl,y+1,q,by rw[hrest];congr 1;omega⟩
   ·have:y=j:=by omega
    subst this
    rw[hit]
    wp_walk
    exact⟨_,rfl,h⟩
  case fin =>
   rintro⟨b1,b2⟩ s' ⟨hb,rfl,i,hij,hz⟩
   exfalso
   have:items.size - i=0:=by
    cases q:items.size - i with
    | zero=>rfl
    | succ m=>rw[q,List.range'_succ]at hz;cases hz
   omega
  case h =>
   refine⟨rfl,rfl,0,Nat.zero_le _,?_⟩
   simp[Std.Legacy.Range.size]
end
section
variable {X:Cx}
noncomputable def ck5(X:Cx) (ds:List D) (x:D) (j:Nat):V->List V->Hp->VK->Prop:=fun vt vs H Q=>∃Hf vx,vs=[vx]/\E2 Hf H/\Rep X.K Hf (.tuple ds) vt/\Rep X.K Hf x vx/\Q (.int j) H
theorem bh9(hu:X.A.units+64 < cLine) {ds:List D}{x:D}{j:Nat}(sx:SeqAt.shaped x=true) (dx:x.depth<=60) (sd:ds.all SeqAt.shaped=true) (hj:ds.findIdx? (fun y=>PyData.eqv y x)=some j):MtR X "tuple.index" (ck5 X ds x j):=by
 intro pins s σ H vt vs v us Q I rt rv ⟨Hf,vx,e,ss,r1,r2,q⟩
 subst e
 obtain⟨u,rfl,rx⟩:=T6 rv
 obtain⟨p,ws,rfl,h2,h3⟩:=r1
 obtain rfl:v=Value.ref p:=rt
 obtain⟨its,pl,ln,he⟩:=aN2 hu sx dx sd I rx ss r2 h2 h3
 obtain⟨⟨cls,dd,data,sl⟩,ho,hc,n,hd⟩:=id pl
 simp only at hc hd
 subst hc hd
 obtain⟨h1,h4,h5⟩:=List.findIdx?_eq_some_iff_getElem.mp hj
 refine call_meets F.slot_tuple_index ⟨_,ho,rfl⟩ F.entry_tuple_index (F.args_tuple_index_2 _ _) (aH4 p its.toArray n dd sl u (fun m=>PyData.eqv (ds.getD m .none) x) j (by rw[List.size_toArray,ln];exact h1) (by simpa [h1] using h4) (fun m hm=>?_)) ⟨ho,he,.int j,H,I.tok _,⟨_,rfl⟩,q⟩
 have hm':m < ds.length:=by omega
 have:=h5 m hm
 simpa [hm'] using this
theorem bL4{o e:Expr}{to:TE}{t:TA}{name:Str}{apos cpos:Pos}{id:String}{r:V->List V->Hp->VK->Prop}(slot:Slot "tuple" name id) (hty:typeOf (.builtin id)=pure (.type "method_descriptor")) (hm:MtR X id r) (ho:PE X o to) (ha:PA X [e] t)
  (hbase:attributeBase o name X.env (eval o X.env)=eval o X.env)
  (hfew:((backTo cpos (starEach [e] X.env)).all (fun x=>!x.1)&&(backToKw cpos (keywordEach [] X.env)).all (fun x=>x.1.isSome)&&decide (([e]:List Expr).length+([]:List Keyword).length+(if([]:List Keyword).isEmpty then 0 else 1) < 30))=true)
  (hline:(apos.endLine==cpos.line)=true) (hs:starEach [e] X.env=[(false,eval e X.env)]) :
  PE X (.Call (.Attribute o name apos) [e] [] cpos) (fun σ H Q=>to σ H fun x H1=>(∃p xs,x=.ref p/\SqT X.K H1 p xs)/\t σ H1 fun xs H2=>r x xs H2 Q):=by
 intro pins s σ H Q I h
 refine wpAny_Call_method_late hbase hfew hline rfl (thn (ho pins s σ H _ I h) fun v s1 ⟨x,H1,I1,r1,⟨p,xs,e1,e2⟩,q1⟩=>?_)
 subst e1
 obtain rfl:v=Value.ref p:=r1
 obtain⟨its,_,⟨ob,g1,g2,_,g4⟩,_⟩:=I1.tupN e2
 refine⟨"tuple", id,F.plainAttrs_tuple,slot,hty,⟨ob,g1,g2⟩,fun a ea=>?_,?_⟩
 ·cases ea;exact⟨ob,g1,g4⟩
 have hA:=ha cpos pins s1 σ H1 _ I1 q1
 rw[hs]at hA ⊢
 refine Calls.callWith_builtin (by rfl) (Calls.evalArgs_plain ?_)
 exact thn hA fun us s2 ⟨vs,H2,I2,r2,q2⟩=>hm pins s2 σ H2 (.ref p) vs (.ref p) us Q I2 rfl r2 q2
noncomputable def bp1(f g:DE):DE:=fun ρ=>(f ρ).bind fun t=>(g ρ).bind fun x=>match t with
 | .tuple ds=>if SeqAt.shaped x=true/\x.depth<=60/\ds.all SeqAt.shaped=true then(ds.findIdx? fun y=>PyData.eqv y x).map (fun(j:Nat)=>PyData.int (j:Int)) else none
 | _=>none
theorem bk6{o e:Expr}{f g:DE}{apos cpos:Pos}(hu:X.A.units+64 < cLine) (ho:JE X o f) (h:JE X e g) (hbase:attributeBase o "index" X.env (eval o X.env)=eval o X.env)
  (hfew:((backTo cpos (starEach [e] X.env)).all (fun x=>!x.1)&&(backToKw cpos (keywordEach [] X.env)).all (fun x=>x.1.isSome)&&decide (([e]:List Expr).length+([]:List Keyword).length+(if([]:List Keyword).isEmpty then 0 else 1) < 30))=true)
  (hline:(apos.endLine==cpos.line)=true) (hs:starEach [e] X.env=[(false,eval e X.env)]):JE X (.Call (.Attribute o "index" apos) [e] [] cpos) (bp1 f g):=fun ρ d q=>by
 obtain⟨t,e1,q⟩:=xbm q
 obtain⟨x,e2,q⟩:=xbm q
 cases t with
 | tuple ds =>
  simp only at q
  split at q
  ·rename_i c
   obtain⟨j,hj,rfl⟩:=xmo q
   refine B4 (bL4 F.slot_tuple_index F.type_tuple_index (bh9 hu c.1 c.2.1 c.2.2 hj) (ho ρ _ e1) (D9 (h ρ _ e2) G8 hs) hbase hfew hline hs) fun σ H Q ⟨H0,Hf,s,sl,k⟩=>?_
   refine⟨H0,Hf,s,sl,fun v H1 Hf1 g1 r1=>?_⟩
   have r1':=r1
   obtain⟨p,vs,rfl,h2,h3⟩:=r1
   refine⟨⟨p,vs,rfl,C8 g1.sub h2⟩,H0,Hf1,g1.sub,sl.grow g1,fun w H2 Hf2 g2 r2=>?_⟩
   exact⟨Hf2,w,rfl,g2.sub,r1'.mono g2.ext,r2,k _ H2 Hf2 (g1.trans g2) rfl⟩
  ·cases q
 | _=>cases q
end
section
variable {X:Cx}
noncomputable def flV:Value->D
 | .bool b=>.bool b
 | .int i _=>.int i
 | .str x _=>.str x
 | _=>.none
theorem bU6{d:D}{y:Value}(f:K1 d=true) (r:D3 (toV d) y):flV y=d:=by
 cases d with
 | none=>cases r;rfl
 | bool b=>cases r;rfl
 | int i=>obtain⟨t,rfl⟩:=r;rfl
 | str x=>obtain⟨t,rfl⟩:=r;rfl
 | tuple _=>cases f
 | list _=>cases f
 | dict _=>cases f
theorem aR4:∀{ds:List D}{its:List Value},ds.all K1=true->D5 (ds.map toV) its->its.map flV=ds
 | [],its,_,r=>by cases r;rfl
 | d::ds,its,f,r=>by
  rw[List.all_cons,Bool.and_eq_true]at f
  cases r with
  | cons r1 r2=>rw[List.map_cons,bU6 f.1 r1,aR4 f.2 r2]
theorem bw4{x:D}{ds:List D}{vx:V}{v:Value}{pins:List (Addr×Obj)}{s:Shared}{σ:L2.St}{H Hf:Hp}{p:Addr}{vs:List V}(hu:X.A.units+64 < cLine) (sx:SeqAt.shaped x=true) (dx:x.depth<=60) (sd:ds.all SeqAt.shaped=true) (fd:ds.all K1=true) (I:L2.Inv X pins σ H s) (rx:D3 vx v) (ss:E2 Hf H) (r1:Rep X.K Hf x vx) (h2:SqL X.K Hf p vs) (h3:Reps X.K Hf ds vs) :
  ∃its:List Value,PlainL s.heap p its.toArray/\its.map flV=ds/\its.length<=sizeLine/\∀y∈its.toArray,SeqAt.EqAt X.A.in1 s y v (PyData.eqv (flV y) x):=by
 obtain⟨its,rv,pl,hz⟩:=I.list (F2 ss h2)
 have hz':its.length<=sizeLine:=by rw[← rv.length];exact hz
 obtain⟨as,rd⟩:=Rep.reads I (r1.mono ss) rx
 obtain⟨bs,ra⟩:=Reps.reads I (h3.mono ss) rv
 obtain⟨e1,e2⟩:=bJ7 ra
 have fm:its.map flV=ds:=by
  obtain⟨e,_⟩:=p9 fd h3
  subst e
  exact aR4 fd rv
 refine⟨its,pl,fm,hz',fun y hy=>?_⟩
 obtain⟨j,hj,rfl⟩:=List.getElem_of_mem (List.mem_toArray.mp hy)
 obtain⟨cs,q⟩:=e2 j hj
 have hd:j < ds.length:=by omega
 have sj:=List.all_eq_true.mp sd _ (List.getElem_mem hd)
 have ej:flV its[j]=ds[j]:=by
  have:(its.map flV)[j]'(by simpa using hj)=ds[j]:=by simp only[fm]
  rwa [List.getElem_map]at this
 have eg:ds.getD j .none=ds[j]:=by simp[hd]
 rw[eg]at q
 rw[ej]
 have:=SeqAt.eqAt_reads ds[j] x X.A.in1 s _ _ _ _ q rd (SeqAt.canLay_of_shaped sj) (SeqAt.canLay_of_shaped sx) (by show X.A.units+1+_ < _;have:=Nat.min_le_right ds[j].depth x.depth;omega)
 simpa using this
noncomputable def ca4(X:Cx) (ds:List D) (x z:D):V->List V->Hp->VK->Prop:=fun vt vs H Q=>∃Hf vx,vs=[vx]/\E2 Hf H/\Rep X.K Hf (.list ds) vt/\Rep X.K Hf x vx/\∀v,Rep X.K Hf z v->Q v H
theorem aV7(hu:X.A.units+64 < cLine) {ds:List D}{x:D}{j:Nat}(sx:SeqAt.shaped x=true) (dx:x.depth<=60) (sd:ds.all SeqAt.shaped=true) (fd:ds.all K1=true) (hj:ds.findIdx? (fun y=>PyData.eqv y x)=some j):MtR X "list.index" (ca4 X ds x (.int j)):=by
 intro pins s σ H vt vs v us Q I rt rv ⟨Hf,vx,e,ss,r1,r2,q⟩
 subst e
 obtain⟨u,rfl,rx⟩:=T6 rv
 obtain⟨p,ws,rfl,h2,h3⟩:=r1
 obtain rfl:v=Value.ref p:=rt
 obtain⟨its,pl,fm,hz,he⟩:=bw4 hu sx dx sd fd I rx ss r2 h2 h3
 obtain⟨⟨cls,dd,data,sl⟩,n,ho,hc,hd0,hd⟩:=pl
 simp only at hc hd hd0
 subst hc hd hd0
 obtain⟨h1,h4,h5⟩:=List.findIdx?_eq_some_iff_getElem.mp hj
 have ln:its.length=ds.length:=by rw[← fm,List.length_map]
 have ej:∀(m:Nat) (hm:m < its.length),flV its[m]=ds[m]'(by omega):=fun m hm=>by
  have:(its.map flV)[m]'(by simpa using hm)=ds[m]'(by omega):=by simp only[fm]
  rwa [List.getElem_map]at this
 have hn:=af3
 refine call_meets F.slot_list_index ⟨_,ho,rfl⟩ F.entry_list_index (F.args_list_index_2 _ _) (SeqAt.list_indexAt p its.toArray n none sl u (fun y=>PyData.eqv (flV y) x) j (by rw[List.size_toArray];omega) (by omega) (by simpa [ej j (by omega)] using h4) fun m hm hmj=>?_) ⟨ho,he,.int j,H,I.tok _,⟨_,rfl⟩,q _ rfl⟩
 have hm':m < its.length:=by simpa using hm
 have:=h5 m hmj
 simpa [ej m hm'] using this
theorem bL5{o e:Expr}{to:TE}{t:TA}{name:Str}{apos cpos:Pos}{id:String}{r:V->List V->Hp->VK->Prop}(slot:Slot "list" name id) (hty:typeOf (.builtin id)=pure (.type "method_descriptor")) (hm:MtR X id r) (ho:PE X o to) (ha:PA X [e] t)
  (hbase:attributeBase o name X.env (eval o X.env)=eval o X.env)
  (hfew:((backTo cpos (starEach [e] X.env)).all (fun x=>!x.1)&&(backToKw cpos (keywordEach [] X.env)).all (fun x=>x.1.isSome)&&decide (([e]:List Expr).length+([]:List Keyword).length+(if([]:List Keyword).isEmpty then 0 else 1) < 30))=true)
  (hline:(apos.endLine==cpos.line)=true) (hs:starEach [e] X.env=[(false,eval e X.env)]) :
  PE X (.Call (.Attribute o name apos) [e] [] cpos) (fun σ H Q=>to σ H fun x H1=>(∃p xs,x=.ref p/\SqL X.K H1 p xs)/\t σ H1 fun xs H2=>r x xs H2 Q):=by
 intro pins s σ H Q I h
 refine wpAny_Call_method_late hbase hfew hline rfl (thn (ho pins s σ H _ I h) fun v s1 ⟨x,H1,I1,r1,⟨p,xs,e1,e2⟩,q1⟩=>?_)
 subst e1
 obtain rfl:v=Value.ref p:=r1
 obtain⟨its,_,⟨ob,n,g1,g2,g4,_⟩,_⟩:=I1.list e2
 refine⟨"list", id,F.plainAttrs_list,slot,hty,⟨ob,g1,g2⟩,fun a ea=>?_,?_⟩
 ·cases ea;exact⟨ob,g1,g4⟩
 have hA:=ha cpos pins s1 σ H1 _ I1 q1
 rw[hs]at hA ⊢
 refine Calls.callWith_builtin (by rfl) (Calls.evalArgs_plain ?_)
 exact thn hA fun us s2 ⟨vs,H2,I2,r2,q2⟩=>hm pins s2 σ H2 (.ref p) vs (.ref p) us Q I2 rfl r2 q2
noncomputable def lsB(x:D) (ds:List D):Prop:=SeqAt.shaped x=true/\x.depth<=60/\ds.all SeqAt.shaped=true/\ds.all K1=true
instance (x:D) (ds:List D):Decidable (lsB x ds):=by unfold lsB;exact inferInstance
noncomputable def cm8(f g:DE):DE:=fun ρ=>(f ρ).bind fun t=>(g ρ).bind fun x=>match t with
 | .list ds=>if lsB x ds then some (.int (ds.countP fun y=>PyData.eqv y x)) else none
 | _=>none
noncomputable def aS1(f g:DE):DE:=fun ρ=>(f ρ).bind fun t=>(g ρ).bind fun x=>match t with
 | .list ds=>if lsB x ds then(ds.findIdx? fun y=>PyData.eqv y x).map (fun(j:Nat)=>PyData.int (j:Int)) else none
 | _=>none
theorem bz0{o e:Expr}{f g:DE}{name:Str}{id:String}{apos cpos:Pos}{ρ:Rho}{ds:List D}{x z:D}(slot:Slot "list" name id) (hty:typeOf (.builtin id)=pure (.type "method_descriptor")) (hm:MtR X id (ca4 X ds x z)) (ho:JE X o f) (h:JE X e g) (hz:∀Hf Hf' v,Rep X.K Hf z v->Rep X.K Hf' z v) (e1:f ρ=some (.list ds)) (e2:g ρ=some x) (hbase:attributeBase o name X.env (eval o X.env)=eval o X.env)
  (hfew:((backTo cpos (starEach [e] X.env)).all (fun x=>!x.1)&&(backToKw cpos (keywordEach [] X.env)).all (fun x=>x.1.isSome)&&decide (([e]:List Expr).length+([]:List Keyword).length+(if([]:List Keyword).isEmpty then 0 else 1) < 30))=true)
  (hline:(apos.endLine==cpos.line)=true) (hs:starEach [e] X.env=[(false,eval e X.env)]):PE X (.Call (.Attribute o name apos) [e] [] cpos) (tJ X.K ρ fun _ v _ Hf=>Rep X.K Hf z v):=by
 refine B4 (bL5 slot hty hm (ho ρ _ e1) (D9 (h ρ _ e2) G8 hs) hbase hfew hline hs) fun σ H Q ⟨H0,Hf,s,sl,k⟩=>?_
 refine⟨H0,Hf,s,sl,fun v H1 Hf1 g1 r1=>?_⟩
 have r1':=r1
 obtain⟨p,vs,rfl,h2,h3⟩:=r1
 refine⟨⟨p,vs,rfl,F2 g1.sub h2⟩,H0,Hf1,g1.sub,sl.grow g1,fun w H2 Hf2 g2 r2=>?_⟩
 exact⟨Hf2,w,rfl,g2.sub,r1'.mono g2.ext,r2,fun v rv=>k _ H2 Hf2 (g1.trans g2) rv⟩
theorem aW6{o e:Expr}{f g:DE}{apos cpos:Pos}(hu:X.A.units+64 < cLine) (ho:JE X o f) (h:JE X e g) (hbase:attributeBase o "index" X.env (eval o X.env)=eval o X.env)
  (hfew:((backTo cpos (starEach [e] X.env)).all (fun x=>!x.1)&&(backToKw cpos (keywordEach [] X.env)).all (fun x=>x.1.isSome)&&decide (([e]:List Expr).length+([]:List Keyword).length+(if([]:List Keyword).isEmpty then 0 else 1) < 30))=true)
  (hline:(apos.endLine==cpos.line)=true) (hs:starEach [e] X.env=[(false,eval e X.env)]):JE X (.Call (.Attribute o "index" apos) [e] [] cpos) (aS1 f g):=fun ρ d q=>by
 obtain⟨t,e1,q⟩:=xbm q
 obtain⟨x,e2,q⟩:=xbm q
 cases t with
 | list ds =>
  simp only at q
  split at q
  ·rename_i c
   obtain⟨j,hj,rfl⟩:=xmo q
   exact bz0 F.slot_list_index F.type_list_index (aV7 hu c.1 c.2.1 c.2.2.1 c.2.2.2 hj) ho h (fun _ _ _ r=>r) e1 e2 hbase hfew hline hs
  ·cases q
 | _=>cases q
noncomputable def u6(f g:DE):DE:=fun ρ=>match f ρ with
 | some (.list _)=>aS1 f g ρ
 | _=>bp1 f g ρ
theorem aW7{o e:Expr}{f g:DE}{apos cpos:Pos}(hu:X.A.units+64 < cLine) (ho:JE X o f) (h:JE X e g) (hbase:attributeBase o "index" X.env (eval o X.env)=eval o X.env)
  (hfew:((backTo cpos (starEach [e] X.env)).all (fun x=>!x.1)&&(backToKw cpos (keywordEach [] X.env)).all (fun x=>x.1.isSome)&&decide (([e]:List Expr).length+([]:List Keyword).length+(if([]:List Keyword).isEmpty then 0 else 1) < 30))=true)
  (hline:(apos.endLine==cpos.line)=true) (hs:starEach [e] X.env=[(false,eval e X.env)]):JE X (.Call (.Attribute o "index" apos) [e] [] cpos) (u6 f g):=fun ρ d q=>by
 unfold u6 at q
 split at q
 ·exact aW6 hu ho h hbase hfew hline hs ρ d q
 ·exact bk6 hu ho h hbase hfew hline hs ρ d q
end
end G
namespace L2
open PySem PySem.Spec PyProof.Rows
section
variable {κ:Type} [DecidableEq κ]
noncomputable def ab6(kvs:List (κ×V)) (k:κ):Option V:=(kvs.find? fun kv=>decide (kv.1=k)).map (·.2)
noncomputable def v3(kvs:List (κ×V)) (k:κ) (v:V):List (κ×V) :=
 if(kvs.any fun kv=>decide (kv.1=k))=true then kvs.map (fun kv=>if kv.1=k then(kv.1,v) else kv) else kvs++[(k,v)]
theorem ak8{p:κ×V}{r:List (κ×V)}{k:κ}(e:p.1=k):ab6 (p::r) k=some p.2:=by simp[ab6,List.find?_cons,e]
theorem ak9{p:κ×V}{r:List (κ×V)}{k:κ}(e:¬p.1=k):ab6 (p::r) k=ab6 r k:=by simp[ab6,List.find?_cons,e]
theorem ah2(kvs:List (κ×V)) (k:κ) (v:V):(v3 kvs k v).length<=kvs.length+1:=by
 unfold v3
 split
 ·rw[List.length_map];omega
 ·rw[List.length_append,List.length_cons,List.length_nil];omega
theorem aj2.isSome_eq{o:Option V}{u:Option Value}(r:aj2 o u):o.isSome=u.isSome:=by
 cases o with
 | none=>cases u with
  | none=>rfl
  | some _=>exact(show False from r).elim
 | some _=>cases u with
  | none=>exact(show False from r).elim
  | some _=>rfl
theorem aj2.getD{o:Option V}{u:Option Value}{d:V}{d':Value}(r:aj2 o u) (rd:D3 d d'):D3 (o.getD d) (u.getD d'):=by
 cases o with
 | none=>cases u with
  | none=>exact rd
  | some _=>exact(show False from r).elim
 | some _=>cases u with
  | none=>exact(show False from r).elim
  | some _=>exact r
theorem KV.val{kvs:List (κ×V)}{vs:List (κ×Value)}(r:KV kvs vs) (k:κ):aj2 (ab6 kvs k) (valueAt vs k):=by
 unfold KV at r
 induction r with
 | nil=>exact True.intro
 | @cons p q ps qs h t ih =>
  obtain⟨h1,h2⟩:=h
  by_cases e:p.1=k
  ·have e':q.1=k:=h1.symm.trans e
   have b:valueAt (q::qs) k=some q.2:=by simp[valueAt,List.find?_cons,e']
   rw[ak8 e,b];exact h2
  ·have e':¬q.1=k:=fun z=>e (h1.trans z)
   have b:valueAt (q::qs) k=valueAt qs k:=by simp[valueAt,List.find?_cons,e']
   rw[ak9 e,b];exact ih
theorem KV.any{kvs:List (κ×V)}{vs:List (κ×Value)}(r:KV kvs vs) (k:κ):(kvs.any fun kv=>decide (kv.1=k))=vs.any fun kv=>decide (kv.1=k):=by
 unfold KV at r
 induction r with
 | nil=>rfl
 | cons h t ih=>rw[List.any_cons,List.any_cons,ih,h.1]
theorem KV.repl{kvs:List (κ×V)}{vs:List (κ×Value)}(r:KV kvs vs) (k:κ) {y:V}{u:Value}(ry:D3 y u) :
  KV (kvs.map fun kv=>if kv.1=k then(kv.1,y) else kv) (vs.map fun kv=>if kv.1=k then(kv.1,u) else kv):=by
 unfold KV at r ⊢
 induction r with
 | nil=>exact .nil
 | @cons p q ps qs h t ih =>
  rw[List.map_cons,List.map_cons]
  refine .cons ?_ ih
  obtain⟨h1,h2⟩:=h
  by_cases e:p.1=k
  ·rw[if_pos e,if_pos (h1.symm.trans e)];exact⟨h1,ry⟩
  ·rw[if_neg e,if_neg (fun z=>e (h1.trans z))];exact⟨h1,h2⟩
theorem KV.put{kvs:List (κ×V)}{vs:List (κ×Value)}(r:KV kvs vs) (k:κ) {y:V}{u:Value}(ry:D3 y u):KV (v3 kvs k y) (stored vs k u):=by
 unfold v3 stored
 rw[r.any k]
 by_cases e:(vs.any fun kv=>decide (kv.1=k))=true
 ·rw[if_pos e,if_pos e];exact r.repl k ry
 ·rw[if_neg e,if_neg e];exact Paired.snoc r ⟨rfl,ry⟩
end
theorem as7{P:Program}{w:World}{k:Key}{u:Value}(r:D3 (kV k) u):(E5 P w).is k u=true:=by
 cases k with
 | inl i=>obtain⟨t,e⟩:=(show ∃t,u=Value.int i t from r);subst e;exact aC9 P w i t
 | inr x=>obtain⟨t,e⟩:=(show ∃t,u=Value.str x t from r);subst e;exact ah0 P w x t
theorem at0{P:Program}{w:World}:∀{ks:List Key}{us:List Value},D5 (ks.map kV) us->ItemsAre (E5 P w) ks us
 | [],_,r=>by rw[List.map_nil]at r;cases r;exact .nil
 | k::ks,_,r=>by
  rw[List.map_cons]at r
  cases r with
  | cons h t=>exact .cons (as7 h) (at0 t)
noncomputable abbrev KT(H:Hp):List (List Key×V)->List (List Key×Addr×Value)->Prop:=Paired fun p q=>p.1=q.1/\H q.2.1=some (.tup (p.1.map kV))/\D3 p.2 q.2.2
theorem KT.val{H:Hp}{kvs:List (List Key×V)}{xs:List (List Key×Addr×Value)}(r:KT H kvs xs) (k:List Key):aj2 (ab6 kvs k) ((atKey xs k).map (·.2)):=by
 induction r with
 | nil=>exact True.intro
 | @cons p q ps qs h t ih =>
  obtain⟨h1,_,h2⟩:=h
  by_cases e:p.1=k
  ·have e':q.1=k:=h1.symm.trans e
   have b:atKey (q::qs) k=some q.2:=by simp[atKey,List.find?_cons,e']
   rw[ak8 e,b];exact h2
  ·have e':¬q.1=k:=fun z=>e (h1.trans z)
   have b:atKey (q::qs) k=atKey qs k:=by simp[atKey,List.find?_cons,e']
   rw[ak9 e,b];exact ih
section
variable {P:Program}{w:World}{H:Hp}{h:Heap}{a:Addr}
theorem bD9{u:HO}(ok:HOk P w H h) (e:Rd H a u):M5 P w H h a u:=e.ok ok
theorem an4{kvs:List (Key×V)}(ok:HOk P w H h) (e:Rd H a (.dK kvs)):kvs.length<=sizeLine/\(a==sysModules)=false/\∃vs,KV kvs vs/\h.DictOf (E5 P w) a vs :=
 show M5 P w H h a (.dK kvs) from bD9 ok e
theorem cg8{kvs:List (Key×V)}(ok:HOk P w H h) (e:H a=some (.dK kvs)):kvs.length<=sizeLine/\(a==sysModules)=false/\∃vs,KV kvs vs/\h.DictOf (E5 P w) a vs:=an4 ok (.inl e)
theorem am6{ks:List Key}(ok:HOk P w H h) (e:H a=some (.tup (ks.map kV))):(tupleKind (E5 P w)).is h ks a:=by
 obtain⟨_,its,r,o,h1,h2,⟨n,h3⟩,_⟩:=(show M5 P w H h a (.tup (ks.map kV)) from ok a _ e)
 exact⟨o,its.toArray,n,h1,h2,h3,by simpa using at0 r⟩
theorem at4{kvs:List (List Key×V)}(ok:HOk P w H h) (e:Rd H a (.dT kvs)):kvs.length<=sizeLine/\(a==sysModules)=false /\
  ∃xs,KT H kvs xs/\h.DictOfH (tupleKind (E5 P w)) a xs:=by
 obtain⟨z,y,xs,r,o,es,ep,h1,h2,h3,h4,h5⟩:=(show M5 P w H h a (.dT kvs) from bD9 ok e)
 refine⟨z,y,xs,r,o,es,ep,h1,h2,h3,h4,fun x hx=>?_,h5⟩
 have all:∀{l:List (List Key×V)}{m:List (List Key×Addr×Value)},KT H l m->∀x∈m,(tupleKind (E5 P w)).is h x.1 x.2.1:=by
  intro l m q
  induction q with
  | nil=>intro x hx;exact nomatch hx
  | @cons p q ps qs hq t ih =>
   intro x hx
   rcases List.mem_cons.mp hx with e|hx
   ·subst e
    exact am6 ok (by rw[← hq.1];exact hq.2.1)
   ·exact ih x hx
 exact all r x hx
end
noncomputable def ag2(H:Hp) (a:Addr) (y:V) (r:Option V):Prop :=
 (∃kvs k,Rd H a (.dK kvs)/\y=kV k/\r=ab6 kvs k)\/∃kvs k b,Rd H a (.dT kvs)/\y=.ref b/\H b=some (.tup (k.map kV))/\r=ab6 kvs k
theorem ag2.k{H:Hp}{a:Addr}{kvs:List (Key×V)}{k:Key}(e:H a=some (.dK kvs)):ag2 H a (kV k) (ab6 kvs k):=.inl ⟨kvs,k,.inl e,rfl,rfl⟩
section
variable {X:Cx}{pins:List (Addr×Obj)}{σ:St}{H:Hp}{s:Shared}{a:Addr}{y v:V}{u r:Value}{o:Option V}{A:Around}{E:Value->Shared->Prop}
theorem Inv.big(I:Inv X pins σ H s):sysModules < s.heap.objs.size:=by
 have h:mainGlobals < s.heap.objs.size:=(I.mod.glob.keeps I.bk).lt
 exact Nat.lt_trans (by decide) h
theorem aY5{Q:Value->Shared->Prop}(hu:A.units+1 < cLine) (I:Inv X pins σ H s) (g:ag2 H a y (some v)) (ry:D3 y u) (h:∀w' s',Inv X pins σ H s'->D3 v w'->Q w' s') :
  wpAny (model X.prog X.w) A (getItem (.ref a) u) Q E s:=by
 rcases g with⟨kvs,k,e,ey,l⟩|⟨kvs,k,b,e,ey,eb,l⟩
 ·subst ey
  obtain⟨z,hd,vs,rel,dd⟩:=an4 I.hok e
  obtain⟨w',hw,rw'⟩:=aj2.some_of (v:=v) (o:=valueAt vs k) (by rw[l];exact rel.val k)
  exact wpAny_getItem_of (as7 ry) dd.mapOf hw (h w' _ (I.tok _) rw')
 ·subst ey
  cases(show u=Value.ref b from ry)
  obtain⟨z,hd,xs,rel,dd⟩:=at4 I.hok e
  obtain⟨w',hw,rw'⟩:=aj2.some_of (v:=v) (o:=(atKey xs k).map (·.2)) (by rw[l];exact rel.val k)
  obtain⟨p,hp,hp2⟩:=xmo hw
  refine wpAny_getItem_heap (tupleKind_room_in1 hu) (am6 I.hok eb) dd hp ?_
  rw[hp2]
  exact h w' _ (I.tok _) rw'
theorem cm7{Q:Value->Shared->Prop}(hu:A.units+1 < cLine) (I:Inv X pins σ H s) (g:ag2 H a y o) (ry:D3 y u) (h:∀s',Inv X pins σ H s'->Q (.bool o.isSome) s') :
  wpAny (model X.prog X.w) A (compareOp .In u (.ref a)) Q E s:=by
 rcases g with⟨kvs,k,e,ey,l⟩|⟨kvs,k,b,e,ey,eb,l⟩
 ·subst ey
  obtain⟨z,hd,vs,rel,dd⟩:=an4 I.hok e
  refine wpAny_in_of (as7 ry) hd dd.mapOf ?_
  rw[← (rel.val k).isSome_eq,← l]
  exact h _ (I.tok _)
 ·subst ey
  cases(show u=Value.ref b from ry)
  obtain⟨z,hd,xs,rel,dd⟩:=at4 I.hok e
  refine wpAny_in_heap (tupleKind_room_in1 hu) (am6 I.hok eb) hd dd ?_
  have q:=(rel.val k).isSome_eq
  rw[Option.isSome_map]at q
  rw[← q,← l]
  exact h _ (I.tok _)
theorem bB1{Q:Value->Shared->Prop}(hu:A.units+1 < cLine) (I:Inv X pins σ H s) (g:ag2 H a y o) (ry:D3 y u) (h:∀s',Inv X pins σ H s'->Q (.bool (!o.isSome)) s') :
  wpAny (model X.prog X.w) A (compareOp .NotIn u (.ref a)) Q E s:=by
 rcases g with⟨kvs,k,e,ey,l⟩|⟨kvs,k,b,e,ey,eb,l⟩
 ·subst ey
  obtain⟨z,hd,vs,rel,dd⟩:=an4 I.hok e
  refine wpAny_notIn_of (as7 ry) hd dd.mapOf ?_
  rw[← (rel.val k).isSome_eq,← l]
  exact h _ (I.tok _)
 ·subst ey
  cases(show u=Value.ref b from ry)
  obtain⟨z,hd,xs,rel,dd⟩:=at4 I.hok e
  refine wpAny_notIn_heap (tupleKind_room_in1 hu) (am6 I.hok eb) hd dd ?_
  have q:=(rel.val k).isSome_eq
  rw[Option.isSome_map]at q
  rw[← q,← l]
  exact h _ (I.tok _)
theorem bB0{h':Heap}{t':Nat}{ob:HO}(I:Inv X pins σ H s) (mu:Mut (H a)) (hs:Heap.SameBut a s.heap h') (he:∃q,h'.get? a=some q) (new:M5 X.prog X.w (upd H a ob) h' a ob) :
  Inv X pins σ (upd H a ob) { s with heap:=h',toks:=t' } :=
 I.write (x:=a) (e:=a) mu (.inl rfl) (fun b q hb z=>(hs.2 b hb).trans z) he new
theorem bn9{P:Program}{w:World}{H':Hp}{h':Heap}{kvs:List (Key×V)}{vs:List (Key×Value)}(z:kvs.length<=sizeLine) (hd:(a==sysModules)=false) (rel:KV kvs vs) (dd:h'.DictOf (E5 P w) a vs) :
  M5 P w H' h' a (.dK kvs):=⟨z,hd,vs,rel,dd⟩
end
section
variable {X:Cx}{pins:List (Addr×Obj)}{σ:St}{H:Hp}{s:Shared}{a:Addr}{kvs:List (Key×V)}{k:Key}{u:Value}{A:Around}{E:Value->Shared->Prop}
end
noncomputable def ci3(i:Expr):Prop:=∀ov iv,subscripted i false ov iv=operate [ov,iv] (getItem ov iv)
theorem bs0{prog:Program}{w:World}{A:Around}{E:Value->Shared->Prop}{s:Shared}{env:Env}{value slice:Expr}{pos:Pos}{T id:String}{Q:Value->Shared->Prop}
  (hl:typeLookup (.type T) "__getitem__" = pure (some (.builtin id))) (hs:ci3 slice)
  (h:wpAny (model prog w) A (eval value env) (fun o s₁=>wpAny (model prog w) A (eval slice env) (fun i s₂=>s₂.TypeIs o T/\wpAny (model prog w) A (getItem o i) Q E s₂) E s₁) E s) :
  wpAny (model prog w) A (eval (.Subscript value slice pos) env) Q E s:=by
 refine Subscript_ (wpAny_mono h (fun o s₁ h₁=>wpAny_mono h₁ (fun i s₂ h₂=>?_) fun _ _ x=>x) fun _ _ x=>x)
 obtain⟨hT,h₂⟩:=h₂
 unfold subscriptTail
 refine wpAny_bind ?_
 rw[getitemInPython_of_ne hT.not_modules]
 refine wpAny_bind (wpAny_specialOf hT hl ?_)
 have fin:wpAny (model prog w) A (subscripted slice false o i) (fun r s₃=>wpAny (model prog w) A (letTemporaryGo value o r >>= fun _=>pure r) Q E s₃) E s₂:=by
  rw[hs o i]
  exact wpAny_operating (wpAny_mono h₂ (fun r s₃ h₃=>wpAny_bind (wpAny_letTemporaryGo (wpAny_pure h₃))) fun _ _ x=>x)
 first
  | exact wpAny_pure (wpAny_bind fin)
  | exact wpAny_bind (wpAny_pure (wpAny_bind fin))
  | exact wpAny_bind fin
theorem aE3{X:Cx}{pins:List (Addr×Obj)}{σ:St}{H:Hp}{s:Shared}{a:Addr}{y:V}{o:Option V}(I:Inv X pins σ H s) (g:ag2 H a y o):s.TypeIs (.ref a) "dict" := by
 rcases g with⟨kvs,k,e,_,_⟩|⟨kvs,k,b,e,_,_,_⟩
 ·obtain⟨_,_,vs,_,dd⟩:=an4 I.hok e
  exact dd.typeIs
 ·obtain⟨_,_,xs,_,dd⟩:=at4 I.hok e
  exact dd.typeIs
noncomputable def bZ5(td ty:TE):TE:=fun σ H Q=>td σ H fun x H1=>ty σ H1 fun y H2=>∃a v,x=.ref a/\ag2 H2 a y (some v)/\Q v H2
section
variable {X:Cx}{o i e value:Expr}{pos pos' tpos:Pos}{td ty tv:TE}
theorem bu3(hu:X.A.units+1 < cLine) (ho:PE X o td) (hi:PE X i ty) (hs:ci3 i):PE X (.Subscript o i pos) (bZ5 td ty):=by
 intro pins s σ H Q I h
 refine bs0 PySem.F.slot_dict_getitem.lookup hs (thn (ho pins s σ H _ I h) fun u s1 ⟨x,H1,I1,rx,q1⟩=>thn (hi pins s1 σ H1 _ I1 q1) fun iv s2 ⟨y,H2,I2,ry,a,v,ex,g,q2⟩=>?_)
 subst ex
 obtain rfl:u=Value.ref a:=rx
 exact⟨aE3 I2 g,aY5 hu I2 g ry fun w' s3 I3 rw'=>⟨v,H2,I3,rw',q2⟩⟩
end
theorem bo0{P:Program}{w:World}{H:Hp}(h:Heap) (hb:sysModules < h.objs.size):M5 P w H (h.push { cls:=.type "dict", data:=.dict #[] }) h.objs.size (.dK []) :=
 ⟨Nat.zero_le _,beq_eq_false_iff_ne.mpr (Ne.symm (Nat.ne_of_lt hb)),[],.nil,Heap.DictOf.new h⟩
section
variable {X:Cx}{pos:Pos}
end
noncomputable def av6:List (TE×TE)->St->Hp->(List (V×V)->Hp->Prop)->Prop
 | [],_,H,Q=>Q [] H
 | (tk,tv)::r,σ,H,Q=>tk σ H fun x H1=>tv σ H1 fun y H2=>av6 r σ H2 fun ps H3=>Q ((x,y)::ps) H3
noncomputable abbrev VV:List (V×V)->List (Value×Value)->Prop:=Paired fun p q=>D3 p.1 q.1/\D3 p.2 q.2
noncomputable def PPs(X:Cx) (pos:Pos) (keys:List (Option Expr)) (values:List Expr) (trs:List (TE×TE)):Prop :=
 ∀(pins:List (Addr×Obj)) (s:Shared) (σ:St) (H:Hp) (Q:List (V×V)->Hp->Prop),Inv X pins σ H s->av6 trs σ H Q ->
  wpAny (model X.prog X.w) X.A (evalPairs (pairTrees keys values X.env pos)) (fun vs s'=>∃ps H',Inv X pins σ H' s'/\VV ps vs/\Q ps H') X.xe s
theorem bt5{X:Cx}{pos:Pos}:PPs X pos [] [] []:=fun pins s σ H Q I h=>pairTrees_nil_walk ⟨[],H,I,.nil,h⟩
theorem bf2{X:Cx}{pos:Pos}{k v:Expr}{ks:List (Option Expr)}{vs:List Expr}{tk tv:TE}{trs:List (TE×TE)}(hk:PE X k tk) (hv:PE X v tv) (hr:PPs X pos ks vs trs) :
  PPs X pos (some k::ks) (v::vs) ((tk,tv)::trs):=fun pins s σ H Q I h =>
 pairTrees_cons_walk (thn (hk pins s σ H _ I h) fun u s1 ⟨x,H1,I1,rx,q1⟩=>thn (hv pins s1 σ H1 _ I1 q1) fun w2 s2 ⟨y,H2,I2,ry,q2⟩ =>thn (hr pins s2 σ H2 _ I2 q2) fun ws s3 ⟨ps,H3,I3,rel,q3⟩=>⟨(x,y)::ps,H3,I3,.cons ⟨rx,ry⟩ rel,q3⟩)
noncomputable def aa4(kvs more:List (Key×V)):List (Key×V):=more.foldl (fun acc kv=>v3 acc kv.1 kv.2) kvs
theorem KV.merge:∀{more:List (Key×V)}{rs:List (Key×Value)}{kvs:List (Key×V)}{vs:List (Key×Value)},KV more rs->KV kvs vs->KV (aa4 kvs more) (merged vs rs):=by
 intro more rs kvs vs r
 unfold KV at r
 induction r generalizing kvs vs with
 | nil=>intro q;exact q
 | @cons p q ps qs h t ih =>
  intro r0
  have e:KV (v3 kvs p.1 p.2) (stored vs q.1 q.2):=by
   have:=r0.put p.1 h.2
   rw[← h.1];exact this
  exact ih e
theorem x5:∀(more kvs:List (Key×V)),(aa4 kvs more).length<=kvs.length+more.length
 | [],kvs=>by show kvs.length<=kvs.length+0;omega
 | p::r,kvs=>by
  have h1:=x5 r (v3 kvs p.1 p.2)
  have h2:=ah2 kvs p.1 p.2
  show(aa4 (v3 kvs p.1 p.2) r).length<=_
  rw[List.length_cons];omega
theorem ao1{P:Program}{w:World}:∀{kvs:List (Key×V)}{ws:List (Value×Value)},VV (kvs.map fun kv=>(kV kv.1,kv.2)) ws->∃rs,Carries (E5 P w) ws rs/\KV kvs rs
 | [],_,r=>by rw[List.map_nil]at r;cases r;exact⟨[],True.intro,.nil⟩
 | p::kvs,_,r=>by
  rw[List.map_cons]at r
  cases r with
  | @cons a b as bs h t =>
   obtain⟨rs,c,q⟩:=ao1 (P:=P) (w:=w) t
   obtain⟨b1,b2⟩:=b
   exact⟨(p.1,b2)::rs,⟨as7 h.1,rfl,c⟩,.cons ⟨rfl,h.2⟩ q⟩
noncomputable def bZ4(trs:List (TE×TE)):TE:=fun σ H Q=>∀p,H p=none->av6 trs σ (upd H p (.dK [])) fun ps H2=>H2 p=some (.dK [])/\∃kvs:List (Key×V),ps=kvs.map (fun kv=>(kV kv.1,kv.2))/\kvs.length<=15/\Q (.ref p) (upd H2 p (.dK (aa4 [] kvs)))
theorem bu2{X:Cx}{pos:Pos}{keys:List (Option Expr)}{values:List Expr}{trs:List (TE×TE)}(h:PPs X pos keys values trs) (hall:keys.all (·.isSome)=true) (hl:keys.length=values.length) (h0:keys≠[])
  (h15:keys.length<=15):PE X (.Dict keys values pos) (bZ4 trs):=by
 intro pins s σ H Q I q
 have hn:=I.hok.fresh (Nat.le_refl s.heap.objs.size)
 have I1:=I.laid (a:=s.heap.objs.size) (o:=.dK []) (h':=s.heap.push { cls:=.type "dict", data:=.dict #[] }) (t':=s.toks) (fun _ _ q=>Heap.get?_push_of_some _ q) (Nat.le_refl _) (bo0 s.heap I.big)
 refine wpAny_Dict_walk (knd:=E5 X.prog X.w) hall hl h0 h15 (thn (h pins _ σ _ _ I1 (q _ hn)) fun ws s2 ⟨ps,H2,I2,rel,e,kvs,ep,lk,q2⟩=>?_)
 subst ep
 obtain⟨rs,c,rk⟩:=ao1 (P:=X.prog) (w:=X.w) rel
 obtain⟨z,hd,vs0,r0,dd⟩:=cg8 I2.hok e
 cases r0
 refine⟨rs,c,dd,fun h' dd' hs=>⟨.ref s.heap.objs.size,_,?_,rfl,q2⟩⟩
 have hz:(aa4 [] kvs).length<=sizeLine:=by
  have h1:=x5 kvs []
  rw[List.length_nil]at h1
  rw[sizeLine_eq];omega
 have he:∃q,h'.get? s.heap.objs.size=some q:=let⟨q,_,_,hq,_⟩:=dd';⟨q,hq⟩
 exact bB0 I2 (by rw[e];exact True.intro) hs he (bn9 hz hd (rk.merge .nil) dd')
structure M2 (X:Cx) (o:Expr) (m:Str) (apos:Pos) (e f:Expr) (cpos:Pos):Prop where
 base:attributeBase o m X.env (eval o X.env)=eval o X.env
 few:((backTo cpos (starEach [e,f] X.env)).all (fun x=>!x.1)&&(backToKw cpos (keywordEach [] X.env)).all (fun x=>x.1.isSome)
  && decide (([e,f]:List Expr).length+([]:List Keyword).length+(if([]:List Keyword).isEmpty then 0 else 1) < 30))=true
 line:(apos.endLine==cpos.line)=true
 trees:backTo cpos (starEach [e,f] X.env)=[(false,eval e X.env),(false,eval f X.env)]
noncomputable def IsD(H:Hp) (a:Addr):Prop:=(∃kvs,Rd H a (.dK kvs))\/∃kvs,Rd H a (.dT kvs)
theorem bT8{X:Cx}{pins:List (Addr×Obj)}{σ:St}{H:Hp}{s:Shared}{a:Addr}(I:Inv X pins σ H s) (d:IsD H a) :
  s.TypeIs (.ref a) "dict" /\ (∀b,Value.ref a=.ref b->∃ob,s.heap.get? b=some ob/\ob.dict=none)/\(a==sysModules)=false:=by
 rcases d with⟨kvs,e⟩|⟨kvs,e⟩
 ·obtain⟨_,hd,vs,_,dd⟩:=an4 I.hok e
  refine⟨dd.typeIs,fun b q=>?_,hd⟩
  cases q
  obtain⟨ob,_,_,h1,h2,_⟩:=dd
  exact⟨ob,h1,h2.2.1⟩
 ·obtain⟨_,hd,xs,_,dd⟩:=at4 I.hok e
  refine⟨dd.typeIs,fun b q=>?_,hd⟩
  cases q
  obtain⟨ob,_,_,h1,h2,_⟩:=dd
  exact⟨ob,h1,h2.2.1⟩
section
variable {X:Cx}{pins:List (Addr×Obj)}{σ:St}{H:Hp}{s:Shared}{a:Addr}{y d:V}{u r:Value}{o:Option V}{A:Around}{E:Value->Shared->Prop}
theorem bV4{Q:Value->Shared->Prop}(hu:A.units+1 < cLine) (I:Inv X pins σ H s) (g:ag2 H a y o) (ry:D3 y u) (rd:D3 d r) (h:∀w' s',Inv X pins σ H s'->D3 (o.getD d) w'->Q w' s') :
  wpAny (model X.prog X.w) A (call (.builtin "dict.get") [.ref a,u,r]) Q E s:=by
 rcases g with⟨kvs,k,e,ey,l⟩|⟨kvs,k,b,e,ey,eb,l⟩
 ·subst ey
  obtain⟨z,hd,vs,rel,dd⟩:=an4 I.hok e
  refine call_meetsIn PySem.F.slot_dict_get dd.typeIs PySem.F.entry_dict_get (PySem.F.args_dict_get_3 _ _ _) (meets_dict_get_default (E5 X.prog X.w) a (as7 ry) hd r) ⟨_,dd.mapOf,h _ _ (I.tok _) ?_⟩
  rw[l]
  exact(rel.val k).getD rd
 ·subst ey
  cases(show u=Value.ref b from ry)
  obtain⟨z,hd,xs,rel,dd⟩:=at4 I.hok e
  refine call_meetsIn PySem.F.slot_dict_get dd.typeIs PySem.F.entry_dict_get (PySem.F.args_dict_get_3 _ _ _) (meetsH_dict_get_default (tupleKind (E5 X.prog X.w)) a b hd r) ⟨tupleKind_room_in1 hu,k,xs,am6 I.hok eb,dd,h _ _ (I.tok _) ?_⟩
  rw[l]
  exact(rel.val k).getD rd
end
noncomputable def bJ0(td ty tx:TE):TE:=fun σ H Q=>td σ H fun x H1=>∃a,x=.ref a/\IsD H1 a/\ty σ H1 fun y H2=>tx σ H2 fun z H3=>∃o,ag2 H3 a y o/\Q (o.getD z) H3
section
variable {X:Cx}{o e f:Expr}{apos cpos:Pos}{td ty tx:TE}
theorem bg1(hu:X.A.units+1 < cLine) (ho:PE X o td) (he:PE X e ty) (hf:PE X f tx) (m:M2 X o "get" apos e f cpos):PE X (.Call (.Attribute o "get" apos) [e,f] [] cpos) (bJ0 td ty tx):=by
 intro pins s σ H Q I h
 refine wpAny_Call_method m.base m.few m.line PySem.F.plainAttrs_dict PySem.F.slot_dict_get PySem.F.type_dict_get (thn (ho pins s σ H _ I h) fun u s1 ⟨x,H1,I1,rx,a,ex,d,q1⟩=>?_)
 subst ex
 obtain rfl:u=Value.ref a:=rx
 obtain⟨t1,t2,_⟩:=bT8 I1 d
 refine⟨t1,t2,?_⟩
 rw[m.trees]
 refine Calls.callWith_builtin rfl (Calls.evalArgs_plain (Calls.spliced_cons (thn (he pins s1 σ H1 _ I1 q1) fun iv s2 ⟨y,H2,I2,ry,q2⟩ =>Calls.spliced_cons (thn (hf pins s2 σ H2 _ I2 q2) fun fv s3 ⟨z,H3,I3,rz,ov,g,q3⟩=>Calls.spliced_nil ?_))))
 exact bV4 hu I3 g ry rz fun w' s4 I4 rw'=>⟨_,H3,I4,rw',q3⟩
end
section
variable {X:Cx}{pins:List (Addr×Obj)}{σ:St}{H:Hp}{s:Shared}{a:Addr}{kvs:List (Key×V)}{A:Around}{E:Value->Shared->Prop}
end
section
variable {X:Cx}{pins:List (Addr×Obj)}{σ:St}{H:Hp}{s:Shared}{a:Addr}{y:V}{u:Value}{A:Around}{E:Value->Shared->Prop}
end
end L2
namespace G
open PySem PySem.Spec PyProof.Rows L2
theorem ah4:entryFor table "dict.update.loop" = some Builtin.«dict.update.loop»:=entryFor_of_tree (by kernel_rfl)
theorem U6:plainId "dict.update.loop" = true:=by decide +kernel
theorem ax9:typeLookup (.type "list") "keys" = pure none:=by rw[typeLookup_type,builtinLookup_eq_fast];kernel_rfl
noncomputable def mgL(l:List (Str×Value)):List (Key×Value):=l.foldl (fun a p=>stored a (Sum.inr p.1) p.2) []
theorem aU1(a:List (Key×Value)) (k:Key) (v:Value):(stored a k v).length<=a.length+1:=by
 unfold stored
 split
 ·rw[List.length_map];omega
 ·rw[List.length_append,List.length_singleton];omega
theorem aD0(l:List (Str×Value)) (p:Str×Value):mgL (l++[p])=stored (mgL l) (Sum.inr p.1) p.2:=by unfold mgL;rw[List.foldl_append];rfl
theorem aP7:∀(l:List (Str×Value)) (n:Nat),l.length=n->(mgL l).length<=n
 | l,0,h=>by rw[List.length_eq_zero_iff]at h;subst h;exact Nat.le_refl 0
 | l,n+1,h=>by
  obtain⟨a,p,rfl⟩:∃a p,l=a++[p]:=by
   rcases List.eq_nil_or_concat l with e|⟨a,p,e⟩
   ·subst e;cases h
   ·exact⟨a,p,by rw[e,List.concat_eq_append]⟩
  rw[List.length_append,List.length_singleton]at h
  rw[aD0]
  have:=aP7 a n (by omega)
  have:=aU1 (mgL a) (Sum.inr p.1) p.2
  omega
section
variable {prog:Program}{w:World}{A:Around}{E:Value->Shared->Prop}{s:Shared}
theorem aW2{a:Addr}{o:Obj}{xs:Array Value}{k:Nat}{Q:Option Value->Shared->Prop}(hx:s.heap.get? a=some o) (hc:o.cls=.type "list") (hdat:o.data=.seq xs k) (hd:o.dict=none) (hA:A.handled=none)
  (h:∀h' tk,(∀b o,s.heap.get? b=some o->h'.get? b=some o)->Q none { s with heap:=h',toks:=tk }):wpAny (model prog w) A (getAttr? (.ref a) "keys") Q E s:=by
 obtain⟨c,dct,dat,sl⟩:=o
 simp only at hc hdat hd
 subst hc hdat hd
 obtain⟨hp,g,d,tk,os⟩:=s
 have hT:∀tk',(⟨hp,g,d,tk',os⟩:Shared).TypeIs (.ref a) "list" := fun _=>⟨_,hx,rfl⟩
 have f1:=sub_AttributeError
 have f3:=F.slot_list_getattribute.lookup
 have f4:=F.slot_list_getattribute.bind (.ref a)
 have f5:=am_list_getattr_none
 unfold getAttr? getAttrBy? getAttrBy
 repeat (any_goals (first|assumption|exact hT _|((with_reducible show wpAny _ _ (call (Value.builtin "list.__getattribute__") _ _) _ _ _);refine call_meets F.slot_list_getattribute (hT _) am_entry_list_getattribute (F.args_list_getattribute_2 _ _) (meets_getattribute_miss_list a xs k sl "keys" _ ax9 (by decide) (by size_fits)) ⟨hx,hA,fun h' tk' e hx'=>?_⟩)|wp_step))
 obtain⟨t',u',he⟩:=hx'.there
 show wpAny _ _ (getattributeRaised _ _ _ _ _ _ _) _ _ _
 unfold getattributeRaised
 repeat (any_goals (first|assumption|wp_step))
 exact h _ _ hx'.keeps
variable {R:Result->Shared->Prop}{J S:Addr}{fp wr:List Addr}{Gn:Array GenState->Array GenState->Prop}{P:Nat->Value->Prop}{St:Nat->Shared->Prop}{ps:List (Str×Value)}
theorem aX4(W:WalksS prog w A.in1 J fp wr Gn ps.length P St) (hS1:S∉fp) (T:Nat->Addr) (hT:∀j,j < ps.length->T j∉S::wr) (hP:∀i u,P i u->u=.ref (T i)) (hb:ps.length<=1000) :
  ∀(k i:Nat) (s:Shared) (ii:Int),ps.length - i=k->i<=ps.length->St i s->(∀j p,ps[j]? = some p->∃t,IsTup s.heap (T j) #[.str p.1 t,p.2])->s.heap.DictOf (E5 prog w) S (mgL (ps.take i)) ->
   (∀s',Moved (S::wr) Gn s s'->s'.heap.DictOf (E5 prog w) S (mgL ps)->R (.ok (.ret .none)) s') ->
   codeAny (model prog w) A (.builtin "dict.update.loop" ⟨[.ref S,.ref J,rawInt ii,.none],[]⟩) R s:=by
 have hS2:S∉wr:=fun z=>hS1 (W.sub _ z)
 have more:∀b∈wr,b∈S::wr:=fun b z=>xmm _ z
 intro k
 induction k with
 | zero =>
  intro i s ii e1 e2 q1 q0 q2 q3
  obtain rfl:i=ps.length:=by omega
  refine codeAny_builtin ah4 ?_
  rw[Around.under_plainId U6 _]
  show wpAny _ _ (pyNext (.ref J) >>= _) _ _ _
  refine wpAny_bind (W.done s _ _ q1 fun s' mv=>?_)
  show wpAny _ _ (Builtin.Dict.addKeywords S [] >>= fun _=>ret Value.none) _ _ _
  refine wpAny_bind (wpAny_pure (wpAny_pure (q3 s' (mv.mono more) ?_)))
  rw[List.take_length]at q2
  obtain⟨o,es,ep,ho,more'⟩:=q2
  exact⟨o,es,ep,mv.heap S _ hS2 ho,more'⟩
 | succ k ih =>
  intro i s ii e1 e2 q1 q0 q2 q3
  have lt:i < ps.length:=by omega
  refine codeAny_builtin ah4 ?_
  rw[Around.under_plainId U6 _]
  show wpAny _ _ (pyNext (.ref J) >>= _) _ _ _
  refine wpAny_bind (W.item i s _ _ lt q1 fun u s' hP' q1' mv=>?_)
  obtain rfl:=hP i u hP'
  have q2':s'.heap.DictOf (E5 prog w) S (mgL (ps.take i)):=by
   obtain⟨o,es,ep,ho,more'⟩:=q2
   exact⟨o,es,ep,mv.heap S _ hS2 ho,more'⟩
  have q0':∀j p,ps[j]? = some p->∃t,IsTup s'.heap (T j) #[.str p.1 t,p.2]:=fun j p e=>by
   obtain⟨t,o,ho,r⟩:=q0 j p e
   have hj:j < ps.length:=by
    rcases Nat.lt_or_ge j ps.length with z|z
    ·exact z
    ·rw[List.getElem?_eq_none z]at e;cases e
   exact⟨t,o,mv.heap (T j) _ (fun z=>hT j hj (xmm _ z)) ho,r⟩
  obtain⟨t,⟨c0,d0,dt0,sl0⟩,ho,hc,n,hd⟩:=q0' i ps[i] (List.getElem?_eq_getElem lt)
  simp only at hc hd
  subst hc hd
  obtain⟨hp,g,d,tk,os⟩:=s'
  simp only at ho
  have hTy:(⟨hp,g,d,tk,os⟩:Shared).TypeIs (.ref (T i)) "tuple" := ⟨_,ho,rfl⟩
  show wpAny _ _ (holding [Value.ref (T i)] _ >>= _) _ _ _
  refine wpAny_bind (wpAny_holding (wpAny_bind (wpAny_tryCatch ?_)))
  unfold Builtin.Dict.pairItems
  refine wpAny_bind (wpAny_typeOf hTy ?_)
  rw[if_pos (by decide)]
  generalize hDS:dictSet=DS
  repeat (any_goals (first|assumption|wp_step))
  subst hDS
  refine wpAny_dictSet_pairs (knd:=E5 prog w) (k:=Sum.inr ps[i].1) (ah0 _ _ _ _) q2' (fun h' dd hs=>?_) (by
   have:=aP7 (ps.take i) i (by rw[List.length_take];omega)
   have:(1000:Nat) < sizeLine:=by decide
   omega)
  have tk1:ps.take (i+1)=ps.take i++[ps[i]]:=by rw[List.take_succ_eq_append_getElem lt]
  rw[← aD0,← tk1]at dd
  refine wpAny_pure ⟨plainId_quiet U6 _,ih (i+1) _ (ii+1) (by omega) lt (W.frame _ _ _ _ q1' (Nat.le_succ _) fun b z o e=>?_) (fun j p e=>?_) dd fun s2 mv2 q6=>?_⟩
  ·rw[hs.2 b (fun y:b=S=>hS1 (by rw[← y];exact z))];exact e
  ·obtain⟨t,o,ho,r⟩:=q0' j p e
   have hj:j < ps.length:=by
    rcases Nat.lt_or_ge j ps.length with z|z
    ·exact z
    ·rw[List.getElem?_eq_none z]at e;cases e
   exact⟨t,o,(hs.2 (T j) (fun z=>hT j hj (by rw[z];exact List.mem_cons_self))).trans ho,r⟩
  ·refine q3 s2 (Moved.trans W.gtrans ((mv.mono more).then_heap (Nat.le_succ _) fun b o z e=>?_) mv2) q6
   rw[hs.2 b (fun y:b=S=>z (by rw[y];exact List.mem_cons_self))];exact e
theorem aq1{l:Addr}{its:Array Value}{Q:Value->Shared->Prop}(hh:A.handled=none) (hl:PlainL s.heap l its) (T:Nat->Addr) (hn:its.size=ps.length) (hi:∀(i:Nat) (u:Value),its[i]? = some u->u=.ref (T i)) (ht:∀j p,ps[j]? = some p->∃t,IsTup s.heap (T j) #[.str p.1 t,p.2]) (hb:ps.length<=1000)
  (h:∀(h':Heap) (tk:Nat),h'.DictOf (E5 prog w) s.heap.objs.size (mgL ps)->(∀b o,b < s.heap.objs.size->s.heap.get? b=some o->h'.get? b=some o)->Q (.ref s.heap.objs.size) { s with heap:=h',toks:=tk }) :
  wpAny (model prog w) A (call (.type "dict") [.ref l]) Q E s:=by
 have hT:∀j,j < ps.length->T j < s.heap.objs.size:=fun j hj=>by
  obtain⟨t,o,ho,_⟩:=ht j _ (List.getElem?_eq_getElem hj)
  exact Heap.lt_size ho
 refine callType_codes (Q₁:=fun obj s₁=>obj=.ref s.heap.objs.size/\s₁={ s with heap:=s.heap.push { cls:=.type "dict", data:=.dict #[] } }) F.kt_called_dict (F.kt_typeCall_dict_1 _) F.entry_dict_init (kt_code_dict_new _ ⟨rfl,rfl⟩) ?_
 rintro obj s₁ ⟨rfl,rfl⟩
 have hnew:(s.heap.push { cls:=.type "dict", data:=.dict #[] }).DictOf (E5 prog w) s.heap.objs.size []:=Heap.DictOf.new s.heap
 refine⟨hnew.typeIs,F.args_dict_init_2 _ _,?_⟩
 unfold Builtin.«dict.__init__»
 refine wpAny_bind ?_
 unfold Builtin.Dict.selfAndRest
 refine wpAny_bind (wpAny_notOrdered_dict hnew.typeIs ?_)
 show wpAny _ _ (pure (s.heap.objs.size,[Value.ref l])) _ _ _
 refine wpAny_pure ?_
 show wpAny _ _ (Builtin.Dict.updateFrom "dict.__init__" s.heap.objs.size (.ref l) [] .none) _ _ _
 unfold Builtin.Dict.updateFrom
 obtain⟨o,n,ho,hc,hdd,hd⟩:=hl
 have ho1:=Heap.get?_push_of_some { cls:=.type "dict", data:=.dict #[] } ho
 refine wpAny_bind (wpAny_typeOf ⟨_,ho1,hc⟩ ?_)
 rw[if_pos (by decide)]
 refine wpAny_bind (aW2 ho1 hc hd hdd (by simpa using hh) fun h₁ tk₁ kp=>?_)
 rw[if_pos (by rfl)]
 refine wpAny_bind (wpAny_rule ?_)
 have hl1:h₁.IsList l its:=⟨o,kp _ _ ho1,hc,n,hd⟩
 refine wpAny_bind (wpAny_pyIter_list hl1 ?_)
 have sz:s.heap.objs.size < h₁.objs.size:=Heap.lt_size (kp _ _ (Heap.get?_push_size s.heap (o:={ cls:=.type "dict", data:=.dict #[] }) rfl))
 have lS:l < s.heap.objs.size:=Heap.lt_size ho
 have keep:∀b o,s.heap.get? b=some o->(h₁.push { cls:=.type "list_iterator", data:=.fields #[.ref l,.int 0 0] }).get? b=some o:=fun b o e=>Heap.get?_push_of_some _ (kp _ _ (Heap.get?_push_of_some _ e))
 have nf:s.heap.objs.size∉[h₁.objs.size,l]:=by
  simp only[List.mem_cons,List.not_mem_nil,or_false,not_or]
  exact⟨Nat.ne_of_lt sz,Nat.ne_of_gt lS⟩
 refine wpAny_pure ⟨plainId_quiet U6 _,aX4 (A:=A.in1) (ps:=ps) (S:=s.heap.objs.size) (hn ▸ (Walks.list (by simpa using hh) _ l (Nat.ne_of_lt (Nat.lt_trans lS sz)) its).toS) nf T (fun j hj=>?_) hi hb ps.length 0 _ 0 (by omega) (Nat.zero_le _) ⟨⟨_,Heap.get?_push_size _ rfl,rfl,rfl⟩,(hl1.push _)⟩ (fun j p e=>?_) ?_ fun s' mv dd=>?_⟩
 ·have hj':=hT j hj
  simp only[List.mem_cons,List.not_mem_nil,or_false,not_or]
  exact⟨Nat.ne_of_lt hj',Nat.ne_of_lt (Nat.lt_trans hj' sz)⟩
 ·obtain⟨t,o,ho,r⟩:=ht j p e
  exact⟨t,o,keep _ _ ho,r⟩
 ·obtain⟨o,es,ep,ho,r⟩:=hnew
  exact⟨o,es,ep,Heap.get?_push_of_some _ (kp _ _ ho),r⟩
 ·obtain⟨h',g',d',tk',os'⟩:=s'
  have eg:g'=s.gens:=mv.gens
  have ed:d'=s.drawn:=mv.drawn
  have eo:os'=s.os:=mv.os
  subst eg ed eo
  refine⟨rfl,h h' tk' dd fun b o hb e=>mv.heap b o ?_ (keep b o e)⟩
  simp only[List.mem_cons,List.not_mem_nil,or_false,not_or]
  exact⟨Nat.ne_of_lt hb,Nat.ne_of_lt (Nat.lt_trans hb sz)⟩
end
noncomputable def P5(x:Str) (kv:D×D):Bool:=match kv.1 with
 | .str y=>y==x
 | _=>false
noncomputable def M4(kvs:List (D×D)) (x:Str):Option D:=(kvs.find? (P5 x)).map (·.2)
noncomputable def aI0(kvs:List (D×D)) (x:Str) (d:D):List (D×D):=if kvs.any (P5 x) then kvs.map (fun kv=>if P5 x kv then(kv.1,d) else kv) else kvs++[(.str x,d)]
noncomputable def mgD(ps:List (Str×D)):List (D×D):=ps.foldl (fun a p=>aI0 a p.1 p.2) []
noncomputable def bg4:D->Option (Str×D)
 | .tuple [.str x,d]=>some (x,d)
 | _=>none
noncomputable def al8:List D->Option (List (Str×D))
 | []=>some []
 | d::r=>(bg4 d).bind fun p=>(al8 r).map fun q=>p::q
section
variable {K:PySem.W.Frag}{H:Hp}
theorem bw7(x y:Str):decide ((Sum.inr y:Key)=Sum.inr x)=(y==x):=by rw[bi8];rfl
theorem RepKs.look:∀{kvs:List (D×D)}{m:List (Key×V)}(x:Str),RepKs K H kvs m->(M4 kvs x=none/\ab6 m (.inr x)=none)\/∃d v,M4 kvs x=some d/\ab6 m (.inr x)=some v/\Rep K H d v
 | [],_,x,h=>by cases h;exact .inl ⟨rfl,rfl⟩
 | (k,d)::r,_,x,⟨y,v,t,h1,h2,h3,h4⟩=>by
  subst h1 h2
  by_cases e:y=x
  ·subst e
   exact .inr ⟨d,v,by simp[M4,P5],by rw[ak8 rfl],h3⟩
  ·have e1:M4 ((.str y,d)::r) x=M4 r x:=by simp[M4,P5,e]
   have e2:ab6 ((Sum.inr y,v)::t) (Sum.inr x)=ab6 t (.inr x):=ak9 (by intro z;exact e (Sum.inr.inj z))
   rw[e1,e2]
   exact RepKs.look x h4
theorem RepKs.any(x:Str):∀{kvs:List (D×D)}{m:List (Key×V)},RepKs K H kvs m->kvs.any (P5 x)=m.any fun kv=>decide (kv.1=Sum.inr x)
 | [],_,h=>by cases h;rfl
 | (k,d)::r,_,⟨y,v,t,h1,h2,h3,h4⟩=>by
  subst h1 h2
  rw[List.any_cons,List.any_cons,RepKs.any x h4,bw7];rfl
theorem RepKs.snoc{x:Str}{d:D}{v:V}(q:Rep K H d v):∀{kvs:List (D×D)}{m:List (Key×V)},RepKs K H kvs m->RepKs K H (kvs++[(.str x,d)]) (m++[(.inr x,v)])
 | [],_,h=>by cases h;exact⟨x,v,[],rfl,rfl,q,rfl⟩
 | (k,_)::r,_,⟨y,w,t,h1,h2,h3,h4⟩=>by subst h2;exact⟨y,w,_,h1,rfl,h3,RepKs.snoc q h4⟩
theorem RepKs.repl{x:Str}{d:D}{v:V}(q:Rep K H d v):∀{kvs:List (D×D)}{m:List (Key×V)},RepKs K H kvs m->RepKs K H (kvs.map fun kv=>if P5 x kv then(kv.1,d) else kv) (m.map fun kv=>if kv.1=Sum.inr x then(kv.1,v) else kv)
 | [],_,h=>by cases h;rfl
 | (k,e)::r,_,⟨y,w,t,h1,h2,h3,h4⟩=>by
  subst h1 h2
  rw[List.map_cons,List.map_cons]
  by_cases e:y=x
  ·subst e
   rw[if_pos (show P5 y (.str y,_)=true by simp[P5]),if_pos rfl]
   exact⟨y,v,_,rfl,rfl,q,RepKs.repl q h4⟩
  ·rw[if_neg (show ¬P5 x (.str y,_)=true by simp[P5,e]),if_neg (by intro z;exact e (Sum.inr.inj z))]
   exact⟨y,w,_,rfl,rfl,h3,RepKs.repl q h4⟩
theorem RepKs.put{x:Str}{d:D}{v:V}(q:Rep K H d v) {kvs:List (D×D)}{m:List (Key×V)}(h:RepKs K H kvs m):RepKs K H (aI0 kvs x d) (v3 m (.inr x) v):=by
 unfold aI0 v3
 rw[h.any x]
 split
 ·exact h.repl q
 ·exact h.snoc q
noncomputable abbrev mgV(a:List (Str×V)):List (Key×V):=a.foldl (fun acc p=>v3 acc (.inr p.1) p.2) []
theorem y8:∀{ps:List (Str×D)}{a:List (Str×V)}{kvs:List (D×D)}{m:List (Key×V)},Paired (fun(p:Str×D) (q:Str×V)=>p.1=q.1/\Rep K H p.2 q.2) ps a->RepKs K H kvs m->RepKs K H (ps.foldl (fun a p=>aI0 a p.1 p.2) kvs) (a.foldl (fun acc p=>v3 acc (.inr p.1) p.2) m)
 | _,_,_,_,.nil,h=>h
 | _,_,_,_,.cons ⟨e,r⟩ t,h=>by
  rw[List.foldl_cons,List.foldl_cons]
  refine y8 t ?_
  rw[← e]
  exact h.put r
theorem aQ3:∀{a:List (Str×V)}{b:List (Str×Value)}{k1:List (Key×V)}{k2:List (Key×Value)},Paired (fun(p:Str×V) (q:Str×Value)=>p.1=q.1/\D3 p.2 q.2) a b->KV k1 k2->KV (a.foldl (fun acc p=>v3 acc (.inr p.1) p.2) k1) (b.foldl (fun acc p=>stored acc (.inr p.1) p.2) k2)
 | _,_,_,_,.nil,h=>h
 | _,_,_,_,.cons ⟨e,r⟩ t,h=>by
  rw[List.foldl_cons,List.foldl_cons]
  refine aQ3 t ?_
  rw[← e]
  exact h.put _ r
theorem aP6:∀(a:List (Str×V)) (m:List (Key×V)),(a.foldl (fun acc p=>v3 acc (Sum.inr p.1) p.2) m).length<=m.length+a.length
 | [],m=>Nat.le_refl _
 | p::r,m=>by
  have h1:=aP6 r (v3 m (.inr p.1) p.2)
  have h2:=ah2 m (Sum.inr p.1:Key) p.2
  rw[List.foldl_cons,List.length_cons]
  omega
end
section
variable {X:Cx}
theorem bC2:bootBuiltins "dict" = some (.type "dict"):=by decide +kernel
noncomputable def PrV(K:PySem.W.Frag) (H:Hp):List V->List (Str×V)->Prop:=Paired fun v p=>∃b,v=.ref b/\SqT K H b [.str p.1,p.2]
theorem PrV.length{K:PySem.W.Frag}{H:Hp}{vs:List V}{a:List (Str×V)}(h:PrV K H vs a):vs.length=a.length:=Paired.length h
theorem bf1{K:PySem.W.Frag}{H:Hp}:∀{ds:List D}{vs:List V}{ps:List (Str×D)},al8 ds=some ps->Reps K H ds vs->∃a,PrV K H vs a/\Paired (fun(p:Str×D) (q:Str×V)=>p.1=q.1/\Rep K H p.2 q.2) ps a
 | [],_,_,e,h=>by cases e;cases h;exact⟨[],.nil,.nil⟩
 | d::ds,_,_,e,⟨v,r,h1,h2,h3⟩=>by
  subst h1
  obtain⟨p,e1,e⟩:=xbm e
  obtain⟨q,e2,e⟩:=xmo e
  subst e
  obtain⟨a,q1,q2⟩:=bf1 e2 h3
  unfold bg4 at e1
  split at e1
  ·cases e1
   obtain⟨b,us,z1,z2,z3⟩:=h2
   obtain⟨u1,r1,y1,y2,y3⟩:=z3
   obtain⟨u2,r2,x1,x2,x3⟩:=y3
   cases y2;cases x3;subst x1 y1
   exact⟨(_,u2)::a,.cons ⟨b,z1,z2⟩ q1,.cons ⟨rfl,x2⟩ q2⟩
  ·cases e1
theorem aB5{pins:List (Addr×Obj)}{σ:L2.St}{H:Hp}{s:Shared}(I:Inv X pins σ H s):∀{vs:List V}{a:List (Str×V)}{us:List Value},PrV X.K H vs a->D5 vs us ->
  ∃(T:List Addr) (b:List (Str×Value)),us=T.map Value.ref/\b.length=us.length/\Paired (fun(p:Str×V) (q:Str×Value)=>p.1=q.1/\D3 p.2 q.2) a b/\∀(j:Nat) (p:Str×Value),b[j]? = some p->∃t,IsTup s.heap (T.getD j 0) #[.str p.1 t,p.2]
 | _,_,_,.nil,.nil=>⟨[],[],rfl,rfl,.nil,fun j p e=>by simp at e⟩
 | _,_,_,.cons (b:=p) ⟨b,e,h⟩ t,.cons r rs=>by
  subst e;cases r
  obtain⟨T,c,e1,e2,e3,e4⟩:=aB5 I t rs
  obtain⟨its,rv,tp,_⟩:=I.tuple h
  cases rv with
  | cons r1 rv =>
   cases rv with
   | cons r2 rv =>
    cases rv
    rename_i u2
    obtain⟨t1,rfl⟩:=r1
    refine⟨b::T,(p.1,u2)::c,by rw[e1];rfl,by simp[e2],.cons ⟨rfl,r2⟩ e3,fun j q e=>?_⟩
    cases j with
    | zero=>simp at e;subst e;exact⟨t1,tp⟩
    | succ j=>exact e4 j q (by simpa using e)
theorem aL0:R3 X (.type "dict") (fun xs H Q=>X.calm=true/\∃p vs a,xs=[.ref p]/\SqL X.K H p vs/\PrV X.K H vs a/\vs.length<=1000/\∀l,H l=none->Q (.ref l) (upd H l (.dK (mgV a)))):=by
 intro pins s σ H xs us Q I r h
 obtain⟨hc,p,vs,a,rfl,hs,hp,hz,q⟩:=h
 obtain⟨u,rfl,rx⟩:=T6 r
 cases rx
 obtain⟨its,rv,pl,_⟩:=I.list hs
 obtain⟨T,b,e1,e2,e3,e4⟩:=aB5 I hp rv
 have ln:b.length=vs.length:=by rw[e2,rv.length]
 refine aq1 (ps:=b) (I.ok.hd hc) pl (fun j=>T.getD j 0) (by simp[e2]) (fun i u hu=>?_) e4 (by omega) fun h' tk dd kp=>?_
 ·subst e1
  simp only[List.getElem?_toArray,List.getElem?_map,Option.map_eq_some_iff]at hu
  obtain⟨t,ht,rfl⟩:=hu
  simp[List.getD,ht]
 ·have hn:=I.hok.fresh (Nat.le_refl s.heap.objs.size)
  have z:(mgV a).length<=sizeLine:=by
   have h1:=aP6 a []
   have h2:=hp.length
   have:(1000:Nat) < sizeLine:=by decide
   simp only[List.length_nil]at h1
   show(List.foldl (fun acc p=>v3 acc (Sum.inr p.1) p.2) [] a).length<=sizeLine
   omega
  exact⟨.ref s.heap.objs.size,_,I.laid (a:=s.heap.objs.size) (o:=.dK (mgV a)) (h':=h') (t':=tk) (fun b u e=>kp b u (Heap.lt_size e) e) (Nat.le_refl _) (bn9 z (beq_eq_false_iff_ne.mpr (Ne.symm (Nat.ne_of_lt I.big))) (aQ3 e3 .nil) dd),rfl,q _ hn⟩
noncomputable def aE9(f:Rho->Option (Bool×List D)):DE:=fun ρ=>(f ρ).bind fun q=>if q.1=false/\q.2.length<=1000 then(al8 q.2).map fun ps=>.dict (mgD ps) else none
theorem bz4{e:Expr}{f:Rho->Option (Bool×List D)}{p pos:Pos}(hc:X.calm=true) (hg:Gl X "dict") (hm:X.mg "dict" = none) (h:JQ X e f) (he:starEach [e] X.env=[(false,eval e X.env)]:=by rfl) :
  JE X (.Call (.Name "dict" p) [e] [] pos) (aE9 f):=fun ρ d q=>by
 obtain⟨⟨t,ds⟩,h1,h2⟩:=xbm q
 simp only at h2
 split at h2
 ·rename_i c
  obtain⟨rfl,c2⟩:=c
  obtain⟨ps,e1,e2⟩:=xmo h2
  subst e2
  refine B4 (V9 aL0 hg hm bC2 (D9 (h ρ false ds h1) G8 he) (he:=he)) fun σ H Q ⟨H0,Hf,s,sl,k⟩=>?_
  refine⟨H0,Hf,s,sl,fun v H1 Hf1 g1 ⟨a,vs,z1,z2,z3⟩=>?_⟩
  obtain⟨m,m1,m2⟩:=bf1 e1 z3
  refine⟨hc,a,vs,m,by rw[z1],z2,Paired.mapP m1 (fun _ _ z=>let⟨b,y1,y2⟩:=z;⟨b,y1,C8 g1.sub y2⟩),by rw[z3.length];exact c2,fun l hl=>?_⟩
  have hs:=D7 (o:=.dK (mgV m)) (g1.sub.free hl)
  refine k _ _ _ (g1.trans (Grow.laid g1.sub hl)) ⟨l,_,rfl,C1,(y8 (Paired.mapP m2 fun _ _ z=>⟨z.1,z.2.mono hs⟩) (show RepKs X.K _ [] [] from rfl))⟩
 ·cases h2
noncomputable def ab0(f g:DE):DE:=fun ρ=>(f ρ).bind fun d=>(g ρ).bind fun k=>match d,k with
 | .dict kvs,.str x=>M4 kvs x
 | _,_=>none
theorem bS3{a b:Expr}{f g:DE}{pos:Pos}(hu:X.A.units+64 < cLine) (ha:JE X a f) (hb:JE X b g) (hs:ae4 b:=by intro _ _;rfl):JE X (.Subscript a b pos) (ab0 f g):=fun ρ d q=>by
 obtain⟨x,e1,q⟩:=xbm q
 obtain⟨y,e2,q⟩:=xbm q
 split at q
 ·rename_i kvs x _
  refine B4 (bu3 (by omega) (ha ρ _ e1) (hb ρ _ e2) hs) fun σ H Q ⟨H0,Hf,s,sl,k⟩=>?_
  refine⟨H0,Hf,s,sl,fun v H1 Hf1 g1 ⟨p,m,z1,z2,z3⟩=>⟨H0,Hf1,g1.sub,sl.grow g1,fun u H2 Hf2 g2 r2=>?_⟩⟩
  subst z1;cases r2
  rcases(z3.mono g2.ext).look x with⟨l1,_⟩|⟨d',w,l1,l2,l3⟩
  ·rw[l1]at q;cases q
  ·rw[l1]at q;cases q
   refine⟨p,w,rfl,?_,k w H2 Hf2 (g1.trans g2) l3⟩
   have:=ag2.k (k:=Sum.inr x) (g2.sub _ _ (g2.ext _ _ z2))
   rw[l2]at this
   exact this
 ·cases q
noncomputable def inK(neg:Bool) (x y:D):Option D:=match x,y with
 | .str x,.dict kvs=>some (.bool (if neg then !(M4 kvs x).isSome else(M4 kvs x).isSome))
 | _,_=>none
theorem bM5(hu:X.A.units+64 < cLine):OpD X (compareOp .In) (inK false):=fun x y z h=>by
 unfold inK at h
 split at h
 ·rename_i x kvs
  cases h
  intro pins s σ H vx vy v u Q I rx ry ⟨Hf,ss,r1,r2,k⟩
  cases r1
  obtain⟨p,m,z1,z2,z3⟩:=r2
  subst z1;cases ry
  refine cm7 (by omega) I (ag2.k (k:=Sum.inr x) (ss _ _ z2)) rx fun s' I'=>⟨.bl _,H,I',rfl,k _ H Hf (Grow.refl ss) ?_⟩
  rcases z3.look x with⟨l1,l2⟩|⟨d',w,l1,l2,l3⟩<;>rw[l1,l2]<;>rfl
 ·cases h
theorem aV3(hu:X.A.units+64 < cLine):OpD X (compareOp .NotIn) (inK true):=fun x y z h=>by
 unfold inK at h
 split at h
 ·rename_i x kvs
  cases h
  intro pins s σ H vx vy v u Q I rx ry ⟨Hf,ss,r1,r2,k⟩
  cases r1
  obtain⟨p,m,z1,z2,z3⟩:=r2
  subst z1;cases ry
  refine bB1 (by omega) I (ag2.k (k:=Sum.inr x) (ss _ _ z2)) rx fun s' I'=>⟨.bl _,H,I',rfl,k _ H Hf (Grow.refl ss) ?_⟩
  rcases z3.look x with⟨l1,l2⟩|⟨d',w,l1,l2,l3⟩<;>rw[l1,l2]<;>rfl
 ·cases h
noncomputable def aS2(f g h:DE):DE:=fun ρ=>(f ρ).bind fun d=>(g ρ).bind fun k=>(h ρ).bind fun e=>match d,k with
 | .dict kvs,.str x=>some ((M4 kvs x).getD e)
 | _,_=>none
theorem bz2{o e e2:Expr}{f g h:DE}{apos cpos:Pos}(hu:X.A.units+64 < cLine) (ho:JE X o f) (he:JE X e g) (hf:JE X e2 h) (m:M2 X o "get" apos e e2 cpos):JE X (.Call (.Attribute o "get" apos) [e,e2] [] cpos) (aS2 f g h):=fun ρ d q=>by
 obtain⟨x,e1,q⟩:=xbm q
 obtain⟨y,e2,q⟩:=xbm q
 obtain⟨z,e3,q⟩:=xbm q
 split at q
 ·cases q
  refine B4 (bg1 (by omega) (ho ρ _ e1) (he ρ _ e2) (hf ρ _ e3) m) fun σ H Q ⟨H0,Hf,s,sl,k⟩=>?_
  refine⟨H0,Hf,s,sl,fun v H1 Hf1 g1 ⟨p,m,z1,z2,z3⟩=>⟨p,z1,.inl ⟨m,.inl (g1.sub _ _ z2)⟩,H0,Hf1,g1.sub,sl.grow g1,fun u H2 Hf2 g2 r2=>⟨H0,Hf2,g2.sub,sl.grow (g1.trans g2),fun u3 H3 Hf3 g3 r3=>?_⟩⟩⟩
  cases r2
  refine⟨_,ag2.k (k:=Sum.inr _) (g3.sub _ _ (g3.ext _ _ (g2.ext _ _ z2))),k _ H3 Hf3 ((g1.trans g2).trans g3) ?_⟩
  rcases(z3.mono (g2.trans g3).ext).look _ with⟨l1,l2⟩|⟨d',w,l1,l2,l3⟩
  ·rw[l1,l2];exact r3
  ·rw[l1,l2];exact l3
 ·cases q
theorem ag8{K:PySem.W.Frag}{H:Hp}:∀(ps:List (Str×Int)),Paired (fun(p:Str×D) (q:Str×V)=>p.1=q.1/\Rep K H p.2 q.2) (ps.map fun p=>(p.1,.int p.2)) (ps.map fun p=>(p.1,V.int p.2))
 | []=>.nil
 | p::r=>.cons ⟨rfl,rfl⟩ (ag8 r)
noncomputable def aR9:List (Option Expr)->List Expr->Option (List (Str×Int))
 | [],[]=>some []
 | some (.Constant (.str x) _ _)::ks,.Constant (.int i) _ _::vs=>(aR9 ks vs).map fun r=>(x,i)::r
 | _,_=>none
theorem aB6{pos:Pos}:∀{ks:List (Option Expr)}{vs:List Expr}{ps:List (Str×Int)},aR9 ks vs=some ps->PPs X pos ks vs (ps.map fun p=>((fun σ H Q=>Q (.str p.1) H:TE),(fun σ H Q=>Q (.int p.2) H:TE)))/\ks.length=ps.length/\vs.length=ps.length/\ks.all (·.isSome)=true
 | [],[],ps,h=>by cases h;exact⟨bt5,rfl,rfl,rfl⟩
 | some (.Constant (.str x) _ _)::ks,.Constant (.int i) _ _::vs,ps,h=>by
  obtain⟨r,e1,e2⟩:=xmo h
  subst e2
  obtain⟨q1,q2,q3,q4⟩:=aB6 (pos:=pos) e1
  exact⟨bf2 bf8 bg0 q1,by simp[q2],by simp[q3],by simpa using q4⟩
theorem ag3{σ:L2.St}{H:Hp}:∀{ps:List (Str×Int)}{Q:List (V×V)->Hp->Prop},Q (ps.map fun p=>(.str p.1,.int p.2)) H->av6 (ps.map fun p=>((fun σ H Q=>Q (.str p.1) H:TE),(fun σ H Q=>Q (.int p.2) H:TE))) σ H Q
 | [],Q,h=>h
 | p::r,Q,h=>ag3 (ps:=r) (Q:=fun ps H3=>Q ((.str p.1,.int p.2)::ps) H3) h
theorem bz3{ks:List (Option Expr)}{vs:List Expr}{ps:List (Str×Int)}{pos:Pos}(h:aR9 ks vs=some ps) (h0:ps≠[]) (h15:ps.length<=15):JE X (.Dict ks vs pos) (dC (.dict (mgD (ps.map fun p=>(p.1,.int p.2))))):=fun ρ d q=>by
 cases q
 obtain⟨q1,q2,q3,q4⟩:=aB6 (X:=X) (pos:=pos) h
 refine B4 (bu2 q1 q4 (q2.trans q3.symm) (by intro z;rw[z]at q2;exact h0 (List.length_eq_zero_iff.mp q2.symm)) (by omega)) fun σ H Q ⟨H0,Hf,s,sl,k⟩ p hp=>ag3 ?_
 refine⟨C1,ps.map fun p=>(Sum.inr p.1,.int p.2),by rw[List.map_map];rfl,by simpa using h15,?_⟩
 rw[br7]
 refine k _ _ (upd Hf p _) (Grow.laid s hp) ⟨p,_,rfl,C1,?_⟩
 have e:aa4 [] (ps.map fun p=>((Sum.inr p.1:Key),V.int p.2))=mgV (ps.map fun p=>(p.1,V.int p.2)):=by
  unfold aa4 mgV
  rw[List.foldl_map,List.foldl_map]
 rw[e]
 exact y8 (ag8 ps) (show RepKs X.K _ [] [] from rfl)
end
section
variable {X:Cx}
noncomputable def bq1:List D->Option Bool
 | []=>some false
 | .bool b::r=>(bq1 r).map fun c=>b || c
 | _::_=>none
theorem aF7:∀{ds:List D}{c:Bool},bq1 ds=some c->∃bs:List Bool,ds=bs.map PyData.bool/\c=bs.any id
 | [],c,h=>by cases h;exact⟨[],rfl,rfl⟩
 | .bool b::r,c,h=>by
  obtain⟨c',h1,h2⟩:=xmo h
  obtain⟨bs,h3,h4⟩:=aF7 h1
  exact⟨b::bs,by simp[h3],by simp[← h2,h4]⟩
theorem aZ6:R3 X (.builtin "any") (fun xs H Q=>X.calm=true/\∃(p:Addr) (bs:List Bool),xs=[.ref p]/\SqL X.K H p (bs.map V.bl)/\Q (.bl (bs.any id)) H):=by
 intro pins s σ H xs us Q I r h
 obtain⟨hc,p,bs,rfl,hq,q⟩:=h
 obtain⟨u,rfl,rx⟩:=T6 r
 cases rx
 obtain⟨its,rv,pl,hz⟩:=I.list hq
 have hlen:=rv.length
 have hh:X.A.in1.handled=none:=I.ok.hd hc
 have hlt:p < s.heap.objs.size:=by obtain⟨_,e,_⟩:=pl.isList;exact Heap.lt_size e
 refine call_any_walk (wpAny_pyIter_list pl.isList ?_)
 refine⟨s.heap.objs.size,_,_,_,_,_,fun i=>(bs[i]?).getD false,rfl,Walks.list hh _ p (Nat.ne_of_lt hlt) its.toArray,⟨⟨_,Heap.get?_push_size _ rfl,rfl,rfl⟩,pl.isList.at fun o e=>Heap.get?_push_of_some _ e⟩,?_,?_⟩
 ·intro i v s' Q' E' hv hQ
  have hv':its[i]? = some v:=by simpa using hv
  have:∃b,bs[i]? = some b:=by
   have:i < its.length:=(List.getElem?_eq_some_iff.mp hv').1
   have:i < bs.length:=by simpa using (by omega:i < (bs.map V.bl).length)
   exact⟨bs[i],by simp[this]⟩
  obtain⟨b,hb⟩:=this
  obtain⟨u,hu,ru⟩:=rv.get (i:=i) (x:=.bl b) (by simp[hb])
  rw[hv']at hu;cases hu
  cases ru
  exact wpAny_truthy_bool (by simpa [hb] using hQ)
 ·intro h' tk hk
  have e:((List.range its.toArray.size).any fun i=>(bs[i]?).getD false)=bs.any id:=by
   have hn:its.toArray.size=bs.length:=by simpa using hlen.symm
   rw[hn,Bool.eq_iff_iff]
   simp only[List.any_eq_true,List.mem_range,id]
   constructor
   ·rintro⟨i,hi,h⟩
    exact⟨bs[i],List.getElem_mem hi,by simpa [hi] using h⟩
   ·rintro⟨x,hx,h⟩
    obtain⟨i,hi,rfl⟩:=List.mem_iff_getElem.mp hx
    exact⟨i,hi,by simpa [hi] using h⟩
  rw[e]
  have I1:Inv X pins σ H { s with heap:=h',toks:=tk }:=by
   have I0:Inv X pins σ H { s with heap:=s.heap.push { cls:=.type "list_iterator", data:=.fields #[.ref p,rawInt 0] } }:=I.kept (t':=s.toks) fun b o e=>Heap.get?_push_of_some _ e
   refine I.kept (t':=tk) fun b o e=>hk b o ?_ (Heap.get?_push_of_some _ e)
   intro hb
   have:b=s.heap.objs.size:=by simpa using hb
   subst this
   exact absurd (Heap.lt_size e) (Nat.lt_irrefl _)
  exact⟨.bl (bs.any id),H,I1,rfl,q⟩
noncomputable def bB5(f:Rho->Option (Bool×List D)):DE:=fun ρ=>(f ρ).bind fun q=>if q.1=true then none else(bq1 q.2).map PyData.bool
theorem bS8{e:Expr}{f:Rho->Option (Bool×List D)}{p pos:Pos}(hg:Gl X "any") (hm:X.mg "any" = none) (h:JQ X e f) (hc:X.calm=true:=by rfl) (he:starEach [e] X.env=[(false,eval e X.env)]:=by rfl):JE X (.Call (.Name "any" p) [e] [] pos) (bB5 f):=fun ρ d q=>by
 obtain⟨⟨t,ds⟩,h1,h2⟩:=xbm q
 cases t with
 | true=>simp at h2
 | false =>
  simp only[Bool.false_eq_true,if_false]at h2
  obtain⟨c,h3,h4⟩:=xmo h2
  subst h4
  obtain⟨bs,h5,h6⟩:=aF7 h3
  subst h5 h6
  refine B4 (L6 aZ6 hg hm boot_any (D9 (h ρ false _ h1) G8 he) (he:=he)) fun σ H Q ⟨H0,Hf,s,sl,k⟩=>?_
  refine⟨H0,Hf,s,sl,fun v H1 Hf1 g1 ⟨a,vs,e1,e2,e3⟩=>⟨hc,a,bs,by rw[e1],?_,k _ H1 Hf1 g1 rfl⟩⟩
  rw[y6 e3]at e2
  exact e2
end
section
variable {X:Cx}{pins:List (Addr×Obj)}{σ:L2.St}{H H':Hp}{s s':Shared}{g B:Heap}
end
section
variable {P:Program}{w:World}{K:PySem.W.Frag}{mg:Str->Option Value}{base:Heap}{N:List Str}{qual:Str}{scope:Scope}{f:Addr}{cd:Value}{A:Around}{outer:List Env}{s:Shared}{H H1:Hp}{E:XK}
 {pins:List (Addr×Obj)}{σ:L2.St}{s1 s':Shared}{h2:Heap}{a C:Addr}{vs:List Value}
end
section
variable {X:Cx}{m:Bool}(hx:∀e s,X.xe e s->False)
include hx
end
section
variable {M:Model}{A:Around}{E:Value->Shared->Prop}{h:Heap}{g:Array GenState}{d:Drawn}{t:Nat}{os:OsState}
variable {nm qn nm2 qn2:Str}{C N D N2:Addr}{bs bm bs2 bm2:List Value}{hd hd2:Bool}{sn sn2:List Str}{sub sub2:List Value}{ab ab2:Bool}{col col2:Option Bool}{dd dd2:Option Addr}{k0 k1 k2 k3 k5 j0 j1 j2 j3 j5:Option Value}{nid nid2:String}
end
section
variable {X:Cx}{pins:List (Addr×Obj)}{σ:L2.St}{H:Hp}{s:Shared}
end
section
variable {X:Cx}{pins:List (Addr×Obj)}{σ:L2.St}{H:Hp}{s:Shared}{a:Addr}{oe:Obj}
noncomputable abbrev fz(oe:Obj) (a:Addr):HO:=.frz oe (.own a)
end
section
variable {X:Cx}
end
section
variable {prog:Program}{w:World}{A:Around}{E:Value->Shared->Prop}{h:Heap}{g:Array GenState}{d:Drawn}{t:Nat}{os:OsState}{a C:Addr}{o:Obj}{K:PySem.W.Frag}
end
section
variable {X:Cx}
end
section
variable {X:Cx}
end
section
variable {X:Cx}
end
section
variable {X:Cx}
end
section
variable {X:Cx}
end
section
variable {X:Cx}
end
end G
namespace G
theorem xg0{α:Type}{a:α}{l:List α}:(a::l)[0]? = some a:=rfl
theorem xg1{α:Type}{a:α}{i:Nat}{l:List α}:(a::l)[i+1]? = l[i]?:=rfl
theorem xw0{α:Type}{a b:α}{l:List α}:(a::l).set 0 b=b::l:=rfl
theorem xw1{α:Type}{a b:α}{i:Nat}{l:List α}:(a::l).set (i+1) b=a::l.set i b:=rfl
theorem xbs{α β:Type}{a:α}{f:α->Option β}:(some a).bind f=f a:=rfl
theorem xms{α β:Type}{a:α}{f:α->β}:(some a).map f=some (f a):=rfl
theorem xca{α:Type}{a:α}{l m:List α}:(a::l)++m=a::(l++m):=rfl
theorem xna{α:Type}{l:List α}:[]++l=l:=rfl
theorem xmc{α β:Type}{f:α->β}{a:α}{l:List α}:(a::l).map f=f a::l.map f:=rfl
theorem xmn{α β:Type}{f:α->β}:[].map f=[]:=rfl
theorem xnf:(!false)=true:=rfl
theorem xnt:(!true)=false:=rfl
theorem xft:(false=true)=False:=by simp
end G
local macro_rules
  | `(‹$x›) => `(some (G.B.val $x))
local macro_rules
  | `(⇑$x) => `(G.dC (PySem.PyData.int $x))
noncomputable section
namespace Sh
open PySem PySem.Spec PyProof.Rows L2 G
def af8:DS:=(A8 (j9 (tB2 neD (A1 1) ⇑0) (A8 (B2 2 (A4 V0 (A1 0) (A1 1))) (A8 (B2 0 (A1 1)) (B2 1 (A1 2))))) (B0 (A1 0)))
def ag1:List D->Option D:=D1 af8 3
def aA3:DS:=(B0 (A4 leI (A4 m8 (dIx (A7 0) ⇑0) (dIx (A7 1) ⇑1)) (A4 m8 (dIx (A7 1) ⇑0) (dIx (A7 0) ⇑1))))
def aA7:List D->Option D:=D1 aA3 2
def ap3:DS:=(A8 (sIf (tB2 eqD (A1 0) (D6 A2)) (B0 (A4 m8 ⇑7 (A1 1))) C5) (B0 (A4 Z8 (dIx (A7 0) (A4 V0 (A1 1) (L9 (A7 0)))) (A4 m8 ⇑6553 (A4 ai8 (A1 1) (L9 (A7 0)))))))
def ap7:List D->Option D:=D1 ap3 2
def av2:DS:=(A8 (B2 3 (A4 V0 (A4 Z8 (A4 m8 (A4 V0 (A3 ap7 (A0 (A1 0) (A0 (A1 1) A2))) ⇑2147483563) ⇑69069) (A4 m8 ⇑104723 (A4 Z8 (A1 1) ⇑1))) ⇑2147483563)) (A8 (B2 3 (A4 V0 (A4 Z8 (A4 m8 (A1 3) (A1 3)) (A4 ai8 (A1 3) ⇑3)) ⇑2147483399)) (B0 (A4 V0 (A4 ai8 (A4 V0 (A4 Z8 (A4 m8 (A1 3) (A1 3)) (A4 ai8 (A1 3) ⇑7)) ⇑2147483647) ⇑11) (A1 2)))))
def A5:List D->Option D:=D1 av2 4
def ae5:DS:=(A8 (B2 2 (A1 0)) (A8 (B2 3 (A1 1)) (A8 (j9 (tB2 gtI (A1 2) ⇑0) (be0 2 3 (A0 (A4 V0 (A1 3) (A1 2)) (A0 (A1 2) A2)))) (B0 (B1 (A0 (A4 ai8 (A1 0) (A1 3)) (A0 (A4 ai8 (A1 1) (A1 3)) A2)))))))
def ae6:List D->Option D:=D1 ae5 4
def au8:DS:=(B0 (A3 ae6 (A0 (A4 m8 (dIx (A7 0) ⇑0) (dIx (A7 1) ⇑0)) (A0 (A4 m8 (dIx (A7 0) ⇑1) (dIx (A7 1) ⇑1)) A2))))
def af9:List D->Option D:=D1 au8 2
def au9:DS:=(A8 (B2 2 (A4 Z8 ⇑1 (A3 A5 (A0 (A1 0) (A0 (A1 1) (A0 ⇑12 A2)))))) (A8 (B2 3 (A3 ae6 (A0 (A3 A5 (A0 (A1 0) (A0 (A4 Z8 (A1 1) ⇑1) (A0 (A4 Z8 (A1 2) ⇑1) A2)))) (A0 (A1 2) A2)))) (B0 (dIx (qN (A0 (A1 3) (A0 (A1 3) (A0 (A1 3) (A0 (B1 (A0 ⇑0 (A0 ⇑1 A2))) (A0 (B1 (A0 ⇑1 (A0 ⇑1 A2))) A2)))))) (A3 A5 (A0 (A1 0) (A0 (A4 Z8 (A1 1) ⇑2) (A0 ⇑5 A2))))))))
def G7:List D->Option D:=D1 au9 4
def aG3:DS:=(A8 (B2 2 (A3 G7 (A0 (A1 0) (A0 (A1 1) A2)))) (B0 (A4 Z8 (B1 (A0 (A1 2) A2)) (O6 (qN (B6 1 [2,0,1] (G3 ⇑3) (B3 0) E9 (A3 af9 (A0 (A1 1) (A0 (A3 G7 (A0 (A1 2) (A0 (A4 Z8 (A4 Z8 (A1 3) ⇑3) (A4 m8 ⇑3 (A1 0))) A2))) A2)))))))))
def R0:List D->Option D:=D1 aG3 3
def aL8:DS:=(B0 (P8 (Y1 "int" (A1 0)) (az3 (Y1 "bool" (A1 0)))))
def Y5:List D->Option D:=D1 aL8 1
def aM3:DS:=(A8 (sIf (F8 (M7 (J2 (Y1 "tuple" (A1 0)))) (tB2 neD (L9 (A7 0)) ⇑2)) (B0 (dC (.bool false))) C5) (A8 (B2 1 (dIx (A7 0) ⇑0)) (A8 (B2 2 (dIx (A7 0) ⇑1)) (A8 (sIf (F8 (M7 (J2 (A3 Y5 (A0 (A1 1) A2)))) (M7 (J2 (A3 Y5 (A0 (A1 2) A2))))) (B0 (dC (.bool false))) C5) (B0 (P8 (A4 gtI (A1 2) ⇑0) (P8 (L0 leI leI ⇑0 (A1 1) (A1 2)) (A4 eqD (A3 ag1 (A0 (A1 1) (A0 (A1 2) A2))) ⇑1))))))))
def ab5:List D->Option D:=D1 aM3 3
def bb5:DS:=(A8 (sIf (F8 (M7 (J2 (Y1 "tuple" (A1 0)))) (tB2 neD (L9 (A7 0)) ⇑4)) (B0 (dC (.bool false))) C5) (A8 (sIf (M7 (J2 (ad8 (qN (B6 1 [] (E7 (A1 0)) (B3 0) E9 (A3 ab5 (A0 (A1 0) A2))))))) (B0 (dC (.bool false))) C5) (B0 (ad8 (qN (B6 1 [0] (E7 (af5 (A1 0) (B5 ⇑1) C4)) (B3 0) E9 (A3 aA7 (A0 (A1 0) (A0 (dIx (A7 1) ⇑0) A2)))))))))
def bc3:List D->Option D:=D1 bb5 1
def bb6:DS:=(B0 (P8 (A3 Y5 (A0 (A1 0) A2)) (L0 leI leI ⇑1 (A1 0) ⇑8)))
def av3:List D->Option D:=D1 bb6 1
def aM0:DS:=(A8 (sIf (F8 (M7 (J2 (Y1 "tuple" (A1 0)))) (tB2 neD (L9 (A7 0)) ⇑3)) (B0 (dC (.bool false))) C5) (B0 (P8 (A3 av3 (A0 (dIx (A7 0) ⇑0) A2)) (P8 (A3 av3 (A0 (dIx (A7 0) ⇑1) A2)) (Y1 "tuple" (dIx (A7 0) ⇑2))))))
def aM7:List D->Option D:=D1 aM0 1
def aM2:DS:=(A8 (sIf (M7 (J2 (A3 aM7 (A0 (A1 0) A2)))) (B0 (dC (.bool false))) C5) (A8 (B2 1 (dIx (A7 0) ⇑2)) (B0 (P8 (A4 eqD (L9 (A7 1)) (A4 C6 (dIx (A7 0) ⇑0) (dIx (A7 0) ⇑1))) (ad8 (qN (B6 1 [] (E7 (A1 1)) (B3 0) E9 (A3 bc3 (A0 (A1 0) A2)))))))))
def aM9:List D->Option D:=D1 aM2 2
def af7:DS:=(A8 (Z4 4 (B6 1 [0,1] (G3 (A4 C6 (A1 2) (A1 3))) (B3 0) E9 (A3 R0 (A0 (A1 1) (A0 (A4 A9 (A1 2) (A4 C6 ⇑12 (A1 0))) A2))))) (A8 (sIf (tB2 eqD (A3 A5 (A0 (A1 0) (A0 (A4 A9 (A1 1) ⇑7) (A0 ⇑3 A2)))) ⇑0) (B2 4 (A4 C6 (E4 (A1 4) C4 (B5 ⇑1)) (A4 C6 (A1 2) (A1 3)))) C5) (B0 (B1 (A0 (A1 2) (A0 (A1 3) (A0 (O6 (A7 4)) A2)))))))
def u8:List D->Option D:=D1 af7 5
def bb3:DS:=(B0 (dIx (A7 0) ⇑0))
def v2:List D->Option D:=D1 bb3 1
def aM4:DS:=(B0 (A4 eqD (A3 v2 (A0 (A1 0) A2)) (dC (.str "layer"))))
def aN0:List D->Option D:=D1 aM4 1
def bb4:DS:=(B0 (A4 eqD (A3 v2 (A0 (A1 0) A2)) (dC (.str "tone"))))
def bc2:List D->Option D:=D1 bb4 1
def aG1:DS:=(B0 (dIx (A7 0) ⇑2))
def ai1:List D->Option D:=D1 aG1 1
def ba8:DS:=(B0 (dIx (A7 0) ⇑2))
def bb9:List D->Option D:=D1 ba8 1
def aq7:DS:=(B0 (dIx (A7 0) ⇑3))
def aq9:List D->Option D:=D1 aq7 1
def aM1:DS:=(B0 (dIx (A7 0) ⇑4))
def aM8:List D->Option D:=D1 aM1 1
def bb2:DS:=(B0 (dIx (A7 0) ⇑5))
def bc1:List D->Option D:=D1 bb2 1
def bq3:DS:=(B0 (dIx (A7 0) ⇑6))
def bq5:List D->Option D:=D1 bq3 1
def bb1:DS:=(B0 (dIx (A7 0) ⇑7))
def bc0:List D->Option D:=D1 bb1 1
def aL7:DS:=(B0 (dIx (A7 0) ⇑8))
def ap5:List D->Option D:=D1 aL7 1
def aq8:DS:=(B0 (dIx (A7 0) ⇑5))
def K7:List D->Option D:=D1 aq8 1
def av1:DS:=(A8 (B2 3 (A4 eqD (A3 A5 (A0 (A1 0) (A0 (A1 1) (A0 ⇑2 A2)))) ⇑0)) (A8 (Z6 4 A2) (A8 (S2 (G3 (A1 2)) (B3 5) (A8 (B2 6 (an9 (dC (.str "")) (qN (B6 1 [0,1,5] (G3 ⇑2) (B3 0) E9 (aa9 (dC (.str "abcdefghijklmnopqrstuvwxyz")) (A3 A5 (A0 (A1 1) (A0 (A4 A9 (A4 A9 (A4 A9 (A1 2) ⇑1) (A4 C6 ⇑3 (A1 3))) (A1 0)) (A0 ⇑26 A2))))))))) (A8 (B2 6 (A4 aV6 (aY6 (A1 6) C4 (B5 (A3 A5 (A0 (A1 0) (A0 (A4 A9 (A4 A9 (A1 1) ⇑3) (A4 C6 ⇑3 (A1 5))) (A0 ⇑3 A2)))))) (dIx (qN (A0 ⇑1 (A0 ⇑2 A2))) (A3 A5 (A0 (A1 0) (A0 (A4 A9 (A4 A9 (A1 1) ⇑2) (A4 C6 ⇑3 (A1 5))) (A0 ⇑2 A2))))))) (S7 4 (dIx (qN (A0 (A4 A9 (A1 6) (aa9 (dC (.str "abcdefghijklmn")) (A1 5))) (A0 (A4 A9 (aa9 (dC (.str "abcdefghijklmn")) (A1 5)) (A1 6)) A2))) (v9 (A1 3))))))) (av8 4 (B0 (A1 4))))))
def u9:List D->Option D:=D1 av1 7
def f9:DS:=(B2 4 (A3 G7 (A0 (A1 0) (A0 (A1 1) A2))))
def f8:DS:=(B2 5 (A4 gtI (A3 A5 (A0 (A1 0) (A0 (A4 A9 (A1 1) ⇑3) (A0 ⇑6 A2)))) ⇑0))
def Q6:DS:=(sIf (tB2 eqD (A3 A5 (A0 (A1 0) (A0 (A4 A9 (A1 1) ⇑4) (A0 ⇑6 A2)))) ⇑0) (B0 (B1 (A0 (dC (.str "tone")) (A0 (A1 2) (A0 (dIx (qN (A0 (dC (.str "turn")) (A0 (dC (.str "grey")) (A0 (dC (.str "round")) A2)))) (A3 A5 (A0 (A1 0) (A0 (A4 A9 (A1 1) ⇑5) (A0 ⇑3 A2))))) (A0 (A1 4) (A0 (A1 5) A2))))))) C5)
def f7:DS:=(B2 6 (dIx (qN (A0 (dC (.str "over")) (A0 (dC (.str "multiply")) (A0 (dC (.str "screen")) (A0 (dC (.str "plus")) (A0 (dC (.str "atop")) (A0 (dC (.str "cut")) A2))))))) (A3 A5 (A0 (A1 0) (A0 (A4 A9 (A1 1) ⇑5) (A0 ⇑6 A2))))))
def T8:DS:=(sIf (tB2 gtI (A3 A5 (A0 (A1 0) (A0 (A4 A9 (A1 1) ⇑6) (A0 ⇑3 A2)))) ⇑0) (B2 6 (A1 3)) C5)
def f6:DS:=(B2 7 (A4 A9 ⇑1 (A3 A5 (A0 (A1 0) (A0 (A4 A9 (A1 1) ⇑7) (A0 ⇑3 A2))))))
def c7:DS:=(B2 8 (A4 A9 ⇑1 (A3 A5 (A0 (A1 0) (A0 (A4 A9 (A1 1) ⇑8) (A0 ⇑3 A2))))))
def c6:DS:=(B2 9 (dC .none))
def T7:DS:=(sIf (tB2 eqD (A3 A5 (A0 (A1 0) (A0 (A4 A9 (A1 1) ⇑9) (A0 ⇑3 A2)))) ⇑0) (B2 9 (O6 (qN (B6 1 [0,1] (G3 (A4 C6 (A1 7) (A1 8))) (B3 0) E9 (A3 G7 (A0 (A1 1) (A0 (A4 A9 (A4 A9 (A1 2) ⇑20) (A4 C6 ⇑3 (A1 0))) A2))))))) C5)
def b0:DS:=(B2 10 (A4 V2 (A3 A5 (A0 (A1 0) (A0 (A4 A9 (A1 1) ⇑10) (A0 ⇑4 A2)))) ⇑1))
def W9:DS:=(B2 11 (A4 V2 (A3 A5 (A0 (A1 0) (A0 (A4 A9 (A1 1) ⇑11) (A0 ⇑4 A2)))) ⇑1))
def S1:DS:=(sIf (tB2 eqD (A3 A5 (A0 (A1 0) (A0 (A4 A9 (A1 1) ⇑12) (A0 ⇑3 A2)))) ⇑0) (V6 (B1 (A0 ⇑3 (A0 ⇑3 (A0 ⇑0 (A0 ⇑0 (A0 (dC .none) A2)))))) (M9 5 (C0 (B3 7) (C0 (B3 8) (C0 (B3 10) (C0 (B3 11) (C0 (B3 9) O5))))))) C5)
def W8:DS:=(B2 12 (A3 u8 (A0 (A1 0) (A0 (A4 A9 (A1 1) ⇑50) (A0 (A1 7) (A0 (A1 8) A2))))))
def W7:DS:=(B0 (B1 (A0 (dC (.str "layer")) (A0 (A1 2) (A0 (A1 6) (A0 (A1 4) (A0 (A1 5) (A0 (A1 10) (A0 (A1 11) (A0 (A1 9) (A0 (A1 12) A2)))))))))))
def ap0:DS:=(A8 f9 (A8 f8 (A8 Q6 (A8 f7 (A8 T8 (A8 f6 (A8 c7 (A8 c6 (A8 T7 (A8 b0 (A8 W9 (A8 S1 (A8 W8 W7)))))))))))))
def P3:List D->Option D:=D1 ap0 13
def av0:DS:=(A8 (B2 4 (dIx (qN (A0 (dC (.str "over")) (A0 (dC (.str "multiply")) (A0 (dC (.str "screen")) (A0 (dC (.str "plus")) A2))))) (A3 A5 (A0 (A1 0) (A0 (A1 1) (A0 ⇑4 A2)))))) (A8 (B2 5 (A3 A5 (A0 (A1 0) (A0 (A4 A9 (A1 1) ⇑1) (A0 (A4 A9 (A1 2) ⇑1) A2))))) (A8 (Z6 6 (B6 1 [0,4,3,1] (G3 (A1 5)) (B3 0) E9 (A3 P3 (A0 (A1 1) (A0 (A4 A9 (A4 A9 (A1 4) ⇑20) (A4 C6 ⇑170 (A1 0))) (A0 (dIx (A7 3) (A1 0)) (A0 (A1 2) A2))))))) (A8 (S2 (G3 (A3 A5 (A0 (A1 0) (A0 (A4 A9 (A1 1) ⇑2) (A0 ⇑3 A2))))) (B3 7) (A8 (B2 8 (A3 A5 (A0 (A1 0) (A0 (A4 A9 (A4 A9 (A1 1) ⇑3) (A4 C6 ⇑5 (A1 7))) (A0 (A4 A9 (L9 (A7 6)) ⇑1) A2))))) (A8 (B2 9 (A4 A9 (A1 8) (A3 A5 (A0 (A1 0) (A0 (A4 A9 (A4 A9 (A1 1) ⇑4) (A4 C6 ⇑5 (A1 7))) (A0 ⇑3 A2)))))) (A8 (B2 10 (dIx (qN (A0 (B1 (A0 ⇑1 (A0 ⇑1 A2))) (A0 (A3 G7 (A0 (A1 0) (A0 (A4 A9 (A4 A9 (A1 1) ⇑5) (A4 C6 ⇑5 (A1 7))) A2))) A2))) (A3 A5 (A0 (A1 0) (A0 (A4 A9 (A4 A9 (A1 1) ⇑6) (A4 C6 ⇑5 (A1 7))) (A0 ⇑2 A2)))))) (A8 (B2 11 (dIx (qN (A0 (A1 4) (A0 (dC (.str "atop")) (A0 (A1 4) (A0 (dC (.str "cut")) A2))))) (A3 A5 (A0 (A1 0) (A0 (A4 A9 (A4 A9 (A1 1) ⇑7) (A4 C6 ⇑5 (A1 7))) (A0 ⇑4 A2)))))) (A8 (B2 12 (B1 (A0 (dC (.str "group")) (A0 (dIx (A7 3) (A4 A9 (A1 2) (A1 7))) (A0 (A1 11) (A0 (A1 10) (A0 (A4 gtI (A3 A5 (A0 (A1 0) (A0 (A4 A9 (A4 A9 (A1 1) ⇑14) (A1 7)) (A0 ⇑7 A2)))) ⇑0) A2))))))) (bd9 6 (B5 (A1 8)) (B5 (A1 9)) (A0 (A4 A9 (A1 12) (B1 (A0 (O6 (qE (aY7 (A7 6) (B5 (A1 8)) (B5 (A1 9))))) A2))) A2)))))))) (B0 (O6 (A7 6)))))))
def ag0:List D->Option D:=D1 av0 13
def ai0:DS:=(A8 (B2 4 (A4 A9 ⇑1 (A3 A5 (A0 (A1 0) (A0 (A1 1) (A0 ⇑3 A2)))))) (A8 (B2 5 (A4 A9 ⇑1 (A3 A5 (A0 (A1 0) (A0 (A4 A9 (A1 1) ⇑1) (A0 ⇑3 A2)))))) (B0 (B1 (A0 (A1 4) (A0 (A1 5) (A0 (A3 ag0 (A0 (A1 0) (A0 (A4 A9 (A1 1) ⇑2) (A0 (A1 2) (A0 (A1 3) A2))))) A2)))))))
def U8:List D->Option D:=D1 ai0 6
def aM5:DS:=(B0 (A4 eqD (A3 v2 (A0 (A1 0) A2)) (dC (.str "group"))))
def Q1:List D->Option D:=D1 aM5 1
def bb0:DS:=(B0 (dIx (A7 0) ⇑1))
def Q0:List D->Option D:=D1 bb0 1
def ao9:DS:=(A8 (S2 (cf3 (qE (A1 0))) (M9 2 (C0 (B3 2) (C0 (B3 3) O5))) (sIf (tB2 eqD (A3 Q0 (A0 (A1 3) A2)) (A1 1)) (B0 (A1 2)) C5)) (B0 (dC .none)))
def ap6:List D->Option D:=D1 ao9 4
def aA2(self:List D->Option D):DS:=(A8 (sIf (tB2 am0 (A3 ap6 (A0 (A1 0) (A0 (A1 1) A2))) (dC .none)) (B0 (A1 0)) C5) (A8 (S2 (E7 (A1 0)) (B3 2) (sIf (J2 (A3 Q1 (A0 (A1 2) A2))) (A8 (B2 3 (A3 self (A0 (A3 K7 (A0 (A1 2) A2)) (A0 (A1 1) A2)))) (sIf (tB2 am0 (A1 3) (dC .none)) (B0 (A1 3)) C5)) C5)) (B0 (dC .none))))
def aA5:Nat->List D->Option D
 | 0=>fun _=>none
 | k+1=>D1 (aA2 (aA5 k)) 4
def aT3(self:List D->Option D):DS:=(A8 (Z6 1 A2) (A8 (S2 (E7 (A1 0)) (B3 2) (A8 (S7 1 (A1 2)) (sIf (tB2 eqD (dIx (A7 2) ⇑0) (dC (.str "group"))) (Z6 1 (aV5 (A7 1) (qE (A3 self (A0 (dIx (A7 2) ⇑5) A2))))) C5))) (av8 1 (B0 (A1 1)))))
def E6:Nat->List D->Option D
 | 0=>fun _=>none
 | k+1=>D1 (aT3 (E6 k)) 3
end Sh
namespace G
open PySem PySem.Spec PyProof.Rows L2
abbrev FnD:=List D->Option D
structure Sg where
 fn:List (Str×FnD×Nat)
 cs:List (Str×D)
 bl:List Str
structure Kx where
 N:List Str
 sc:Scope
 df:Bool
 own:List Nat
 cpt:List Nat
 tx:List Nat
 dx:List Nat
 old:Bool
 fz:List (Nat×List Nat)
 hc:List ((Nat×Nat)×List Nat)
def biS(K:PySem.W.Frag) (n:Nat) (F:List D->Option D):List V->Hp->VK->Prop:=fun vs H Q=>vs.length=n/\∃Hf ds d,E2 Hf H/\Reps K Hf ds vs/\F ds=some d/\∀v H' Hf',Grow H Hf H' Hf'->Rep K Hf' d v->Q v H'
def bX2(x:Str) (F:FnD) (n:Nat):Prop:=0 < n/\x ≠ "__name__" /\ ∃nm,bootBuiltins x=some (.builtin nm)/\∀X:Cx,X.A.units+64 < cLine->R3 X (.builtin nm) (biS X.K n F)
theorem ce7{X:Cx}{n:Nat}{F:FnD}{x:Str}{e:Expr}{es:List Expr}{g:Rho->Option (List D)}{p pos:Pos}(hb:bX2 x F n) (hu:X.A.units+64 < cLine) (hg:Gl X x) (hm:X.mg x=none) (ha:JA X (e::es) g) (hn:(e::es).length=n) (hdb:(x==("__debug__" : Str))=false)
  (he:starEach (e::es) X.env=(false,eval e X.env)::starEach es X.env) (hpl:(backTo pos (starEach es X.env)).any (·.1)=false):JE X (.Call (.Name x p) (e::es) [] pos) (A3 F g):=fun ρ d q=>by
 obtain⟨ds,h1,h2⟩:=xbo q
 obtain⟨_,hnn,nm,hv,hc⟩:=hb
 refine B4 (L6 (hc X hu) hg hm hv (ha.run ρ ds h1) hnn hdb he hpl) fun σ H Q ⟨H0,Hf,s,sl,kk⟩=>?_
 exact⟨H0,Hf,s,sl,fun vs H1 Hf1 g1 r1=>⟨by rw[r1.length,ha.len ρ ds h1,hn],Hf1,ds,d,g1.sub,r1,h2,fun v H2 Hf2 g2 r2=>kk v H2 Hf2 (g1.trans g2) r2⟩⟩
def cn5(X:Cx) (x:Str) (F:FnD) (n:Nat):Prop:=(∃(k:Nat) (f:Addr) (fd:FuncData) (ps:List Str),FnOk X.prog X.w X.K X.mg X.base CX0 k f fd ps (spF X.K n F)/\Room k X.A/\X.mg x=some (.ref f)/\PySem.W.keepIn X.K (.ref f)=true/\o9 X.K fd ps [])\/(X.mg x=none/\bX2 x F n)
structure Fit (S:Sg) (c:Kx) (X:Cx):Prop where
 N:X.N=c.N
 sc:X.env.scope=c.sc
 nd:c.N.Nodup
 calm:X.calm=true
 xe:X.xe=fun _ _=>False
 units:X.A.units+64 < cLine
 df:c.df=true->(∀x,X.fn x=true)/\c.sc.kind=.function
 fns:∀x F n,S.fn.lookup x=some (F,n)->cn5 X x F n
 css:∀x d,S.cs.lookup x=some d->∃u,bW9 X.K d u/\X.mg x=some u
 bls:∀x,S.bl.contains x=true->X.mg x=none
def pl:Expr->Bool
 | .Starred ..=>false
 | .Slice ..=>false
 | .Set ..=>false
 | _=>true
def ax2:Expr->Bool
 | .Call ..=>false
 | _=>true
def isC:Expr->Bool
 | .ListComp ..=>true
 | .SetComp ..=>true
 | .DictComp ..=>true
 | _=>false
def plT:Expr->Bool
 | .UnaryOp ..=>false
 | .BoolOp ..=>false
 | .IfExp ..=>false
 | .Compare ..=>false
 | _=>true
def aa7(x:Str):List Str->Option Nat
 | []=>none
 | y::r=>if y==x then some 0 else(aa7 x r).map (·+1)
theorem aD2{x:Str}:∀{l:List Str}{i:Nat},aa7 x l=some i->l[i]? = some x
 | [],i,h=>by cases h
 | y::r,i,h=>by
  unfold aa7 at h
  split at h
  ·rename_i e
   cases h
   simp only[beq_iff_eq]at e
   subst e;rfl
  ·obtain⟨j,h1,h2⟩:=xmo h
   subst h2
   simpa using aD2 h1
def af0:List Str->Bool
 | []=>true
 | x::r=>!(r.contains x)&&af0 r
theorem ae9:∀{l:List Str},af0 l=true->l.Nodup
 | [],_=>List.nodup_nil
 | x::r,h=>by
  unfold af0 at h
  simp only[Bool.and_eq_true,Bool.not_eq_true']at h
  refine List.nodup_cons.mpr ⟨fun z=>?_,ae9 h.2⟩
  have:=h.1
  rw[List.contains_iff_mem.mpr z]at this
  cases this
def aT8(sc:Scope) (x:Str):Bool:=(match sc.names.lookup x with|some .local=>true|some .cell=>true|some .free=>true|_=>false) && !(x==("__debug__" : Str)) && !(x==("__classdict__" : Str))
def bi5(c:Kx) (x:Str):Bool:=(match c.sc.names.lookup x with|some .local=>true|some .cell=>c.df|_=>false)
def bm3(sc:Scope) (x:Str):Bool:=(match sc.names.lookup x with|some .globalImplicit=>true|_=>false) && !(x==("__debug__" : Str))
def biB(S:Sg) (c:Kx) (w x:Str):Bool:=x==w&&S.bl.contains w&&bm3 c.sc w
section
variable {X:Cx}{S:Sg}{c:Kx}
theorem aj5{x:Str}(F:Fit S c X) (h:aT8 c.sc x=true):Vis X.env.scope x/\(x==("__debug__" : Str))=false/\(x==("__classdict__" : Str))=false:=by
 unfold aT8 at h
 simp only[Bool.and_eq_true,Bool.not_eq_true']at h
 obtain⟨⟨h1,h2⟩,h3⟩:=h
 refine⟨?_,h2,h3⟩
 rw[F.sc]
 unfold Vis
 split at h1
 ·rename_i e;exact .inl e
 ·rename_i e;exact .inr (.inl e)
 ·rename_i e;exact .inr (.inr e)
 ·cases h1
theorem aQ0{x:Str}(F:Fit S c X) (h:bi5 c x=true):L2.Loc X.env.scope x/\(X.fn x=true\/X.env.scope.names.lookup x=some .local):=by
 unfold bi5 at h
 rw[F.sc]
 unfold L2.Loc
 split at h
 ·rename_i e;exact⟨.inl e,.inr e⟩
 ·rename_i e;exact⟨.inr e,.inl ((F.df h).1 x)⟩
 ·cases h
theorem az0{x:Str}(F:Fit S c X) (h:bm3 c.sc x=true):Gl X x/\(x==("__debug__" : Str))=false:=by
 unfold bm3 at h
 simp only[Bool.and_eq_true,Bool.not_eq_true']at h
 refine⟨?_,h.2⟩
 unfold Gl Env.kindOf
 rw[F.sc]
 have h1:=h.1
 split at h1
 ·rename_i e;exact e
 ·cases h1
theorem G9{w x:Str}(F:Fit S c X) (h:biB S c w x=true):x=w/\Gl X w/\X.mg w=none:=by
 unfold biB at h
 simp only[Bool.and_eq_true,beq_iff_eq]at h
 exact⟨h.1.1,(az0 F h.2).1,F.bls _ h.1.2⟩
theorem J0{e:Expr}(h:pl e=true) (es:List Expr) (env:Env):starEach (e::es) env=(false,eval e env)::starEach es env:=by cases e<;>first|rfl|cases h
theorem bf3{e:Expr}(h:pl e=true):ae4 e:=by
 intro o i
 cases e<;>first|rfl|cases h
theorem aj7{e:Expr}(h:pl e=true) (op:CmpOp):behindInMarks op e=false:=by cases e<;>first|rfl|cases h
theorem aO4{e:Expr}(h:pl e=true) (env:Env) (x:Value):foldedSetIterable e env x=pure x:=by cases e<;>first|rfl|cases h
theorem k9{o:Expr}(h:ax2 o=true) (attr:Str) (env:Env) (t:Sem Value):attributeBase o attr env t=t:=by cases o<;>first|rfl|cases h
theorem am1{e:Expr}(h:isC e=false) (t:Option Expr) (l:Nat) (env:Env):swapsWith e t l env=pure false:=by cases e<;>first|rfl|cases h
theorem bf4{e:Expr}(h:plT e=true) (env:Env) (whole:Sem Value):isTrue e env whole=(do let v ← whole;standAt e.pos;holding [v] (truthy v)):=by cases e<;>first|rfl|cases h
end
abbrev DA:=Rho->Option (List D)
abbrev DQ:=Rho->Option (Bool×List D)
abbrev DT:=Rho->Option Bool
abbrev DG:=D->Rho->Option Rho
def dNo:DE:=fun _=>none
def aNo:DA:=fun _=>none
def qNo:DQ:=fun _=>none
def tNo:DT:=fun _=>none
def gNo:DG:=fun _ _=>none
structure Ev where
 e:Kx->Expr->DE
 q:Kx->Expr->DQ
 n:Kx->Expr->DA
 t:Kx->Expr->DT
 g:Kx->Expr->DG
 b:Kx->List Stmt->DS
def aK7:CmpOp->D->D->Option D
 | .Lt=>ltI | .LtE=>leI | .Gt=>gtI | .GtE=>geI | .Eq=>eqD | .NotEq=>neD | .Is=>isB | .IsNot=>am0 | .In=>inD false | .NotIn=>inD true
def evA(f:Expr->DE):List Expr->DA
 | []=>A2
 | e::es=>if pl e then A0 (f e) (evA f es) else aNo
def bn4(f:Expr->DE) (op:BoolOp):List Expr->DE
 | []=>dNo
 | [a]=>f a
 | a::b::r=>match op with
  | .And=>P8 (f a) (bn4 f op (b::r))
  | .Or=>dOr (f a) (bn4 f op (b::r))
def bn3(f:Expr->DT) (op:BoolOp):List Expr->DT
 | []=>tNo
 | [a]=>f a
 | a::b::r=>match op with
  | .And=>F9 (f a) (bn3 f op (b::r))
  | .Or=>F8 (f a) (bn3 f op (b::r))
def evO(f:Expr->DE):Option Expr->Rho->Option (Option Int)
 | none=>C4
 | some e=>B5 (f e)
def bU7(f:Expr->DG):List Expr->List D->Rho->Option Rho
 | []=>O5
 | e::es=>C0 (f e) (bU7 f es)
def bn1(f:Expr->DT):List Expr->DT
 | []=>E9
 | [t]=>f t
 | _=>tNo
def R4:Expr->List Str
 | .Name x _=>[x]
 | .Tuple es _ _=>es.filterMap fun | .Name x _=>some x|_=>none
 | _=>[]
def rl(scope sc:Scope):Scope:={ scope with names:=scope.names.map fun(n,k)=>if(k == .free&&sc.kind == .function&&sc.names.lookup n==some .cell) then(n,.cell) else(n,k) }
def aJ9(n:Nat) (caps l:List Nat):List Nat:=(List.range caps.length).filterMap fun i=>match caps[i]? with|some j=>if l.contains j then some (n+i) else none|none=>none
def ca1(c:Kx) (j:Nat):Str:=(c.N[j]?).getD ""
def inner(c:Kx) (tn:List Str) (caps:List Nat) (scope:Scope):Kx :=
 { N:=tn++caps.map (ca1 c),sc:=rl scope c.sc,df:=false,own:=aJ9 tn.length caps c.own,cpt:=[],tx:=aJ9 tn.length caps c.tx,dx:=aJ9 tn.length caps c.dx,old:=c.old,fz:=[],hc:=c.hc }
def isList:Expr->Bool
 | .List ..=>true
 | .ListComp ..=>true
 | _=>false
def X9(c:Kx) (l:List Nat):Expr->Bool
 | .Name x _=>(match aa7 x c.N with|some i=>l.contains i|none=>false)
 | _=>false
def bT7:Expr->Bool
 | .Constant (.str _) _ _=>true
 | _=>false
def cn6(S:Sg) (c:Kx):Expr->Bool
 | .Constant (.str _) _ _=>true
 | .Name x _=>(match aa7 x c.N with|some _=>false|none=>(match S.cs.lookup x with|some (.str _)=>true|_=>false))
 | _=>false
def opW(S:Sg) (c:Kx) (op:CmpOp) (b:Expr):D->D->Option D:=if X9 c c.dx b then(match op with
 | .In=>inK false
 | .NotIn=>inK true
 | _=>aK7 op) else aK7 op
def aD5:Expr->Bool
 | .Tuple ..=>true
 | _=>false
def bI6(x:Str):Option String:=if x == "int" then some "int" else if x == "bool" then some "bool" else if x == "str" then some "str" else if x == "tuple" then some "tuple" else if x == "list" then some "list" else none
section
variable (S:Sg) (r:Ev)
def evR(c:Kx) (tg:Expr) (a:Expr):DA:=match a with
 | .Call f as kw _=>(match f,as,kw with
  | .Name y _,[e],[]=>(match e with
   | .Call f2 as2 kw2 _=>(match f2,as2,kw2 with
    | .Name z _,[b],[]=>if biB S c "list" y&&biB S c "enumerate" z&&aD5 tg&&pl b then fun _=>none else fun _=>none
    | _,_,_=>fun _=>none)
   | _=>fun _=>none)
  | _,_,_=>fun _=>none)
 | _=>fun _=>none
def evI(c:Kx) (tg it:Expr):DA:=match it with
 | .Call (.Name x _) [a] [] _=>if biB S c "reversed" x then evR S c tg a else if biB S c "range" x&&pl a then G3 (r.e c a) else if biB S c "enumerate" x&&aD5 tg&&pl a then(fun _=>none) else E7 (r.e c it)
 | .Call (.Name x _) [a,b] [] _=>if biB S c "range" x&&pl a&&pl b then(fun _=>none) else if biB S c "zip" x&&aD5 tg&&pl a&&pl b then(fun _=>none) else E7 (r.e c it)
 | _=>if X9 c c.tx it then(fun _=>none) else E7 (r.e c it)
def evC(c:Kx) (ex:Expr):DA:=match ex with
 | .ListComp elt [⟨tgt,iter,ifs,0⟩] scope pos =>
  let tn:=R4 tgt
  let caps:=(c.hc.lookup (pos.line,pos.col)).getD []
  let c':=inner c tn caps scope
  if ak2 c.N c'.N tn.length caps c.sc scope&&af0 c'.N&&pl iter then B6 tn.length caps (evI S r c tgt iter) (r.g c' tgt) (bn1 (r.t c') ifs) (r.e c' elt) else aNo
 | _=>aNo
def aG9(c:Kx) (x:Str) (a:Expr):DE :=
 if !(pl a) then dNo
 else if biB S c "len" x then(match a with
  | .Call (.Name y _) [e] [] _=>if biB S c "set" y&&pl e then dNo else L9 (r.q c a)
  | _=>if X9 c c.tx a then dNo else L9 (r.q c a))
 else if biB S c "tuple" x then O6 (r.q c a)
 else if biB S c "all" x then ad8 (r.q c a)
 else if biB S c "any" x then bB5 (r.q c a)
 else if biB S c "dict" x then aE9 (r.q c a)
 else if biB S c "int" x then v9 (r.e c a)
 else if biB S c "str" x then dNo
 else if biB S c "abs" x then bB6 (r.e c a)
 else if biB S c "min" x then dNo
 else if biB S c "max" x then aS0 (r.q c a)
 else dNo
def aG8(c:Kx) (x:Str) (a b:Expr):DE :=
 if !(pl a) then dNo
 else if biB S c "isinstance" x then(match b with
  | .Name y _=>(match bI6 y with
   | some T=>if biB S c y y then Y1 T (r.e c a) else dNo
   | none=>dNo)
  | _=>dNo)
 else if !(pl b) then dNo
 else if biB S c "min" x then an7 (r.e c a) (r.e c b)
 else if biB S c "max" x then an8 (r.e c a) (r.e c b)
 else dNo
def bc8(c:Kx) (x:Str) (args:List Expr) (ex:Expr):DE:=match S.fn.lookup x with
 | some (F,n)=>if bm3 c.sc x&&args.length==n&&args.all pl then A3 F (evA (r.e c) args) else dNo
 | none=>match args with
  | [a]=>if biB S c "list" x then D6 (r.n c ex) else aG9 S r c x a
  | [a,b]=>aG8 S r c x a b
  | _=>dNo
def bH1(c:Kx) (a i:Expr):DE:=match i with
 | .Slice lo hi none _ =>
  if c.old then af5 (r.e c a) (evO (r.e c) lo) (evO (r.e c) hi)
  else if X9 c c.tx a then aY6 (r.e c a) (evO (r.e c) lo) (evO (r.e c) hi)
  else if X9 c c.own a then aY7 (r.q c a) (evO (r.e c) lo) (evO (r.e c) hi)
  else E4 (r.e c a) (evO (r.e c) lo) (evO (r.e c) hi)
 | .Slice none none (some (.UnaryOp .USub (.Constant (.int 1) _ _) _)) _=>bG2 (r.e c a)
 | _=>if pl i then(if bT7 a then aa9 (r.e c a) (r.e c i) else if X9 c c.dx a then ab0 (r.e c a) (r.e c i) else dIx (r.q c a) (r.e c i)) else dNo
def xCn(k:Const):DE:=match k with
 | .none=>dC .none
 | .bool b=>dC (.bool b)
 | .int i=>dC (.int i)
 | .str x=>dC (.str x)
 | _=>dNo
def bH9(c:Kx) (a:Expr) (op:Operator) (b:Expr):DE:=match op with
 | .Add=>if c.old && !(isList a || isList b) then A4 Z8 (r.e c a) (r.e c b) else A4 A9 (r.e c a) (r.e c b)
 | .Sub=>A4 V2 (r.e c a) (r.e c b)
 | .Mult=>if c.old then A4 m8 (r.e c a) (r.e c b) else(match a with
  | .Subscript v _ _=>if X9 c c.tx v then A4 aV6 (r.e c a) (r.e c b) else A4 C6 (r.e c a) (r.e c b)
  | _=>A4 C6 (r.e c a) (r.e c b))
 | .FloorDiv=>A4 ai8 (r.e c a) (r.e c b)
 | .Mod=>A4 V0 (r.e c a) (r.e c b)
 | .Pow=>dNo
 | _=>dNo
def xUn(c:Kx) (op:UnaryOp) (a:Expr):DE:=match op with
 | .USub=>Y0 (r.e c a)
 | .Not=>az3 (r.e c a)
 | _=>dNo
def bH7(c:Kx) (a:Expr) (ops:List CmpOp) (bs:List Expr):DE:=match ops,bs with
 | [op],[b]=>if pl b then A4 (opW S c op b) (r.e c a) (r.e c b) else dNo
 | [op,op'],[b,d]=>if pl d then L0 (aK7 op) (aK7 op') (r.e c a) (r.e c b) (r.e c d) else dNo
 | _,_=>dNo
def bH3(c:Kx) (o:Expr) (m:Str) (apos cpos:Pos) (args:List Expr):DE:=match args with
 | [a]=>if m == "join" && ax2 o&&apos.endLine==cpos.line&&pl a then an9 (r.e c o) (r.q c a) else if m == "index" && ax2 o&&apos.endLine==cpos.line&&pl a then u6 (r.e c o) (r.e c a) else dNo
 | [a,b]=>if m == "get" && ax2 o&&apos.endLine==cpos.line&&pl a&&pl b then aS2 (r.e c o) (r.e c a) (r.e c b) else dNo
 | _=>dNo
def xCl(c:Kx) (f:Expr) (args:List Expr) (kw:List Keyword) (pos:Pos):DE:=match kw with
 | []=>(match f with
  | .Name x p=>bc8 S r c x args (.Call (.Name x p) args [] pos)
  | .Attribute o m apos=>bH3 r c o m apos pos args
  | _=>dNo)
 | _=>dNo
def xDs(ks:List (Option Expr)) (vs:List Expr):DE:=match aR9 ks vs with
 | some ps=>if !ps.isEmpty&&ps.length<=15 then dC (.dict (mgD (ps.map fun p=>(p.1,.int p.2)))) else dNo
 | none=>dNo
def xE(c:Kx) (ex:Expr):DE:=match ex with
 | .Constant k _ _=>xCn k
 | .Name x _=>(match aa7 x c.N with
  | some i=>if aT8 c.sc x then A1 i else dNo
  | none=>(match S.cs.lookup x with
   | some d=>if bm3 c.sc x then dC d else dNo
   | none=>dNo))
 | .Tuple es _ _=>if es.length<=1000 then B1 (evA (r.e c) es) else dNo
 | .List _ _=>D6 (r.n c ex)
 | .ListComp _ _ _ _=>D6 (r.n c ex)
 | .BinOp a op b _=>bH9 r c a op b
 | .UnaryOp op a _=>xUn r c op a
 | .Compare a ops bs _=>bH7 S r c a ops bs
 | .BoolOp op vs _=>bn4 (r.e c) op vs
 | .IfExp t a b _=>v8 (r.t c t) (r.e c a) (r.e c b)
 | .Subscript a i _=>bH1 r c a i
 | .Call f args kw pos=>xCl S r c f args kw pos
 | .Dict ks vs _=>xDs ks vs
 | _=>dNo
def cl7(c:Kx) (f:Expr) (as:List Expr) (kw:List Keyword):Bool:=match f with
 | .Name x _=>as.length==1&&kw.isEmpty&&biB S c "list" x
 | _=>false
def xQ(c:Kx) (ex:Expr):DQ:=match ex with
 | .Name x _=>(match aa7 x c.N with
  | some i=>if aT8 c.sc x then A7 i else qNo
  | none=>qE (r.e c ex))
 | .List _ _=>qN (r.n c ex)
 | .ListComp _ _ _ _=>qN (r.n c ex)
 | .Call f as kw _=>if cl7 S c f as kw then qN (r.n c ex) else qE (r.e c ex)
 | _=>qE (r.e c ex)
def xNl(c:Kx) (f:Expr) (as:List Expr) (kw:List Keyword):DA:=match f with
 | .Name x _=>(match as,kw with
  | [a],[]=>if biB S c "list" x&&pl a then(fun ρ=>(r.q c a ρ).map fun q=>q.2) else aNo
  | _,_=>aNo)
 | _=>aNo
def xN(c:Kx) (ex:Expr):DA:=match ex with
 | .List es _=>if es.length<=1000 then evA (r.e c) es else aNo
 | .ListComp _ _ _ _=>evC S r c ex
 | .Call f as kw _=>xNl S r c f as kw
 | .BinOp a op b _=>(match op with
  | .Add=>aV5 (r.q c a) (r.q c b)
  | _=>aNo)
 | _=>aNo
def bC9(c:Kx) (a:Expr) (ops:List CmpOp) (bs:List Expr):DT:=match ops,bs with
 | [op],[b]=>if pl b then tB2 (opW S c op b) (r.e c a) (r.e c b) else tNo
 | [op,op'],[b,d]=>if pl d then ap9 (L0 (aK7 op) (aK7 op') (r.e c a) (r.e c b) (r.e c d)) else tNo
 | _,_=>tNo
def ci6(c:Kx) (op:UnaryOp) (a:Expr):DT:=match op with
 | .Not=>M7 (r.t c a)
 | _=>tNo
def xT(c:Kx) (ex:Expr):DT:=match ex with
 | .Compare a ops bs _=>bC9 S r c a ops bs
 | .BoolOp op vs _=>bn3 (r.t c) op vs
 | .UnaryOp op a _=>ci6 r c op a
 | _=>if plT ex then J2 (r.e c ex) else tNo
def xG(c:Kx) (ex:Expr):DG:=match ex with
 | .Name x _=>(match aa7 x c.N with
  | some i=>if bi5 c x then B3 i else gNo
  | none=>gNo)
 | .Tuple es _ _=>if es.all pl then M9 es.length (bU7 (r.g c) es) else gNo
 | _=>gNo
def cb2(c:Kx) (x y:Str) (px py:Pos) (a b:Expr):Bool :=
 c.df&&pl a&&pl b && !(x==y)&&px.line==py.line&&c.sc.names.lookup x==some .local&&c.sc.names.lookup y==some .local && !(([a,b]:List Expr).all (foldedForSure 8)) && !(([a,b]:List Expr).all (constantsAlone 8))
def bI0(c:Kx) (tg v:Expr) (p:Pos):DS:=match tg with
 | .Name x p'=>(match aa7 x c.N with
  | none=>F4
  | some i=>if !(bi5 c x) then F4 else(match v with
   | .ListComp _ _ sc pv=>if c.sc.names.lookup x==some .local then
     (if c.df&&p'.line==pv.line && !(sc.names.any fun(n,k)=>n==x&&(k == .local || k == .cell)) then(if c.own.contains i then Z6 i (evC S r c v) else Z4 i (evC S r c v)) else F4)
    else B2 i (r.e c v)
   | _=>if isC v then F4 else if c.own.contains i then Z6 i (r.n c v) else B2 i (r.e c v)))
 | .Subscript (.Name x _) (.Slice lo hi none _) _=>(match aa7 x c.N with
  | none=>F4
  | some i=>if aT8 c.sc x && !(isC v) then bd9 i (evO (r.e c) lo) (evO (r.e c) hi) (r.n c v) else F4)
 | .Tuple [.Name x px,.Name y py] _ _=>(match v with
  | .Tuple [a,b] _ _=>(match aa7 x c.N,aa7 y c.N with
   | some i,some j=>if cb2 c x y px py a b then be0 i j (evA (r.e c) [a,b]) else F4
   | _,_=>F4)
  | .Tuple _ _ _=>F4
  | _=>V6 (r.e c v) (r.g c tg))
 | .Tuple es _ _=>if aD5 v&&(es.length==2 || es.length==3) then F4 else V6 (r.e c v) (r.g c tg)
 | _=>F4
def bH2(c:Kx) (x m:Str) (e:Expr):DS:=match aa7 x c.N with
 | none=>F4
 | some i=>if aT8 c.sc x&&pl e then(if m == "append" then S7 i (r.e c e) else if m == "extend" then av9 i (r.e c e) else F4) else F4
def xEx(c:Kx) (e:Expr):DS:=match e with
 | .Call f args kw cpos=>(match f with
  | .Attribute o m apos=>(match o with
   | .Name x _=>(match args,kw with
    | [e],[]=>if apos.endLine==cpos.line then bH2 r c x m e else F4
    | _,_=>F4)
   | _=>F4)
  | _=>F4)
 | _=>F4
def ci7(c:Kx):Option Expr->DS
 | some e=>B0 (r.e c e)
 | none=>F4
def xWh(c:Kx) (t:Expr) (a:List Stmt):List Stmt->DS
 | []=>j9 (r.t c t) (r.b c a)
 | _=>F4
def xFo(c:Kx) (tg it:Expr) (a:List Stmt):List Stmt->DS
 | []=>if pl it then S2 (evI S r c tg it) (r.g c tg) (r.b c a) else F4
 | _=>F4
def xAs(c:Kx) (v:Expr) (p:Pos):List Expr->DS
 | [tg]=>bI0 S r c tg v p
 | _=>F4
def xS0(c:Kx) (st:Stmt):DS:=match st with
 | .Return o _=>ci7 r c o
 | .If t a b _=>sIf (r.t c t) (r.b c a) (r.b c b)
 | .While t a o _=>xWh r c t a o
 | .For tg it a o _=>xFo S r c tg it a o
 | .Assign ts v p=>xAs S r c v p ts
 | .Expr e _=>xEx r c e
 | .Continue _=>bD8
 | .Break _=>fun ρ=>some (.bk ρ)
 | .Pass _=>C5
 | _=>F4
def bO6:Stmt->Nat
 | .Return _ p=>p.line
 | .If _ _ _ p=>p.line
 | .While _ _ _ p=>p.line
 | .For _ _ _ _ p=>p.line
 | .Assign _ _ p=>p.line
 | .Expr _ p=>p.line
 | _=>0
def fzW(g:DS):Option (List Nat)->DS
 | none=>g
 | some l=>l.foldl (fun g i=>av8 i g) g
def xS(c:Kx) (st:Stmt):DS:=fzW (xS0 S r c st) (c.fz.lookup (bO6 st))
def evB(f:Stmt->DS):List Stmt->DS
 | []=>C5
 | [s]=>f s
 | s::t::F5=>A8 (f s) (evB f (t::F5))
def step:Ev:=⟨xE S r,xQ S r,xN S r,xT S r,xG r,fun c=>evB (xS S r c)⟩
end
def ev(S:Sg):Nat->Ev
 | 0=>⟨fun _ _=>dNo,fun _ _=>qNo,fun _ _=>aNo,fun _ _=>tNo,fun _ _=>gNo,fun _ _=>F4⟩
 | n+1=>step S (ev S n)
end G
namespace Sh
open PySem PySem.Spec PyProof.Rows L2 G
def bb7:DS:=(B0 (P8 (Y1 "str" (A1 0)) (P8 (L0 leI leI ⇑1 (ch0 (A1 0)) ⇑6) (ad8 (qN (B6 1 [] (cl9 (A1 0)) (B3 0) E9 (A4 (inS false) (A1 0) (dC (.str "abcdefghijklmnopqrstuvwxyz")))))))))
def bc4:List D->Option D:=D1 bb7 1
def aL9:DS:=(B0 (Y1 "bool" (A1 0)))
def aM6:List D->Option D:=D1 aL9 1
def aG6:DS:=(B0 (P8 (A3 Y5 (A0 (A1 0) A2)) (L0 leI leI (Y0 ⇑9) (A1 0) ⇑9)))
def ai2:List D->Option D:=D1 aG6 1
def bb8:DS:=(A8 (sIf (tB2 isB (A1 0) (dC .none)) (B0 (dC (.bool true))) C5) (A8 (sIf (F8 (M7 (J2 (Y1 "tuple" (A1 0)))) (tB2 neD (L9 (A7 0)) (L9 (qE (dIx (A7 1) ⇑2))))) (B0 (dC (.bool false))) C5) (B0 (ad8 (qN (B6 1 [] (E7 (A1 0)) (B3 0) E9 (A3 ab5 (A0 (A1 0) A2))))))))
def bc5:List D->Option D:=D1 bb8 2
def w6:DS:=(A8 (sIf (F8 (tB2 neD (L9 (A7 0)) ⇑9) (F8 (tB2 (inD true) (A3 ai1 (A0 (A1 0) A2)) (dC (.tuple [(.str "over"),(.str "multiply"),(.str "screen"),(.str "plus"),(.str "atop"),(.str "cut")]))) (M7 (J2 (A3 aM9 (A0 (A3 ap5 (A0 (A1 0) A2)) A2)))))) (B0 (dC (.bool false))) C5) (B0 (P8 (A3 ai2 (A0 (A3 bc1 (A0 (A1 0) A2)) A2)) (P8 (A3 ai2 (A0 (A3 bq5 (A0 (A1 0) A2)) A2)) (A3 bc5 (A0 (A3 bc0 (A0 (A1 0) A2)) (A0 (A3 ap5 (A0 (A1 0) A2)) A2)))))))
def x0:List D->Option D:=D1 w6 1
def w9(self:Nat->List D->Option D):DS:=(A8 (sIf (F8 (tB2 neD (L9 (A7 0)) ⇑6) (F8 (tB2 (inD true) (A3 ai1 (A0 (A1 0) A2)) (dC (.tuple [(.str "over"),(.str "multiply"),(.str "screen"),(.str "plus"),(.str "atop"),(.str "cut")]))) (tB2 eqD (A1 1) ⇑0))) (B0 (dC (.bool false))) C5) (B0 (A3 (self 2) (A0 (A3 K7 (A0 (A1 0) A2)) (A0 (A4 V2 (A1 1) ⇑1) A2)))))
def aj3(self:Nat->List D->Option D):DS:=(A8 (sIf (F8 (M7 (J2 (Y1 "tuple" (A1 0)))) (tB2 ltI (L9 (A7 0)) ⇑5)) (B0 (dC (.bool false))) C5) (A8 (sIf (F8 (M7 (J2 (A3 bc4 (A0 (A3 Q0 (A0 (A1 0) A2)) A2)))) (F8 (M7 (J2 (A3 ab5 (A0 (A3 aq9 (A0 (A1 0) A2)) A2)))) (M7 (J2 (A3 aM6 (A0 (A3 aM8 (A0 (A1 0) A2)) A2)))))) (B0 (dC (.bool false))) C5) (A8 (sIf (J2 (A3 aN0 (A0 (A1 0) A2))) (B0 (A3 x0 (A0 (A1 0) A2))) C5) (A8 (sIf (J2 (A3 Q1 (A0 (A1 0) A2))) (B0 (A3 (self 0) (A0 (A1 0) (A0 (A1 1) A2)))) C5) (B0 (P8 (A3 bc2 (A0 (A1 0) A2)) (P8 (A4 eqD (L9 (A7 0)) ⇑5) (A4 (inD false) (A3 bb9 (A0 (A1 0) A2)) (dC (.tuple [(.str "turn"),(.str "grey"),(.str "round")]))))))))))
def aG7(self:Nat->List D->Option D):DS:=(B0 (P8 (Y1 "tuple" (A1 0)) (ad8 (qN (B6 1 [1] (E7 (A1 0)) (B3 0) E9 (A3 (self 1) (A0 (A1 0) (A0 (A1 1) A2))))))))
def C7:Nat->Nat->List D->Option D
 | 0=>fun _ _=>none
 | k+1=>fun i=>match i with
  | 0=>D1 (w9 (C7 k)) 2
  | 1=>D1 (aj3 (C7 k)) 2
  | 2=>D1 (aG7 (C7 k)) 2
  | _=>fun _=>none
def y0(self:List D->Option D):DS:=(A8 (Z6 1 A2) (A8 (S2 (E7 (A1 0)) (B3 2) (A8 (S7 1 (A3 Q0 (A0 (A1 2) A2))) (sIf (J2 (A3 Q1 (A0 (A1 2) A2))) (av9 1 (A3 self (A0 (A3 K7 (A0 (A1 2) A2)) A2))) C5))) (av8 1 (B0 (A1 1)))))
def E8:Nat->List D->Option D
 | 0=>fun _=>none
 | k+1=>D1 (y0 (E8 k)) 3
def aG2(self:List D->Option D):DS:=(A8 (Z6 3 A2) (A8 (S2 (E7 (A1 0)) (B3 4) (sIf (tB2 eqD (dIx (A7 4) ⇑1) (A1 1)) (av9 3 (A1 2)) (sIf (tB2 eqD (dIx (A7 4) ⇑0) (dC (.str "group"))) (S7 3 (A4 A9 (E4 (A1 4) C4 (B5 ⇑5)) (B1 (A0 (A3 self (A0 (dIx (A7 4) ⇑5) (A0 (A1 1) (A0 (A1 2) A2)))) A2)))) (S7 3 (A1 4))))) (B0 (O6 (A7 3)))))
def K0:Nat->List D->Option D
 | 0=>fun _=>none
 | k+1=>D1 (aG2 (K0 k)) 5
end Sh
namespace Sh
open PySem G
theorem aI8(i j:Int):neD (.int i) (.int j)=some (.bool (!(i==j))):=rfl
theorem n5(i j:Int):eqD (.int i) (.int j)=some (.bool (i==j)):=rfl
theorem aQ7{t:Rho->Option Bool}{f:DS}{n:Nat}{ρ ρ':Rho}(h1:t ρ=some true) (h2:f ρ=some (.nx ρ')):Q9 t f (n+1) ρ=Q9 t f n ρ':=by simp only[Q9,h1,h2,xbs,if_true]
theorem cf7:∀(b a:Nat) (x:Option B),∃n x',Q9 (tB2 neD (A1 1) ⇑0) (A8 (B2 2 (A4 V0 (A1 0) (A1 1))) (A8 (B2 0 (A1 1)) (B2 1 (A1 2)))) n [‹.int a›,‹.int b›,x]
  = some (.nx [‹.int (Nat.gcd a b)›,‹.int 0›,x']):=by
 intro b
 induction b using Nat.strongRecOn with
 | _ b ih =>
  intro a x
  by_cases hb:b=0
  ·subst hb
   refine⟨1,x,?_⟩
   rw[Nat.gcd_zero_right]
   rfl
  ·obtain⟨n,x',h⟩:=ih (a % b) (Nat.mod_lt _ (Nat.pos_of_ne_zero hb)) b (‹.int ((a % b:Nat):Int)›)
   refine⟨n+1,x',?_⟩
   have e1:tB2 neD (A1 1) ⇑0 [‹.int a›,‹.int b›,x]=some true:=by
    show(neD (.int b) (.int 0)).bind J4=some true
    rw[aI8]
    have:((b:Int)==0)=false:=by simp;omega
    rw[this];rfl
   have e2:V0 (.int a) (.int b)=some (.int ((a % b:Nat):Int)):=by
    show(if(0:Int) < (b:Int) then some (PyData.int ((a:Int) % (b:Int))) else none)=_
    rw[if_pos (by omega)]
    simp
   have e3:A8 (B2 2 (A4 V0 (A1 0) (A1 1))) (A8 (B2 0 (A1 1)) (B2 1 (A1 2))) [‹.int a›,‹.int b›,x]=some (.nx [‹.int b›,‹.int ((a % b:Nat):Int)›,‹.int ((a % b:Nat):Int)›]):=by
    show((((V0 (.int a) (.int b))).map fun d=>Fl.nx [‹.int a›,‹.int b›,‹d›]).bind _)=_
    rw[e2]
    rfl
   rw[aQ7 e1 e3,h,Nat.gcd_comm b,Nat.gcd_comm a b,← Nat.gcd_rec]
theorem aV9:∀(a b:Nat) (t u:D),∃n,Q9 (tB2 gtI (A1 2) ⇑0) (be0 2 3 (A0 (A4 V0 (A1 3) (A1 2)) (A0 (A1 2) A2))) n [‹t›,‹u›,‹.int a›,‹.int b›]
  = some (.nx [‹t›,‹u›,‹.int 0›,‹.int (Nat.gcd a b)›]):=by
 intro a
 induction a using Nat.strongRecOn with
 | _ a ih =>
  intro b t u
  by_cases ha:a=0
  ·subst ha
   refine⟨1,?_⟩
   rw[Nat.gcd_zero_left]
   rfl
  ·obtain⟨n,h⟩:=ih (b % a) (Nat.mod_lt _ (Nat.pos_of_ne_zero ha)) a t u
   refine⟨n+1,?_⟩
   have e1:tB2 gtI (A1 2) ⇑0 [‹t›,‹u›,‹.int a›,‹.int b›]=some true:=by
    show some (decide ((0:Int) < (a:Int)))=some true
    rw[decide_eq_true (by omega)]
   have e2:V0 (.int b) (.int a)=some (.int ((b % a:Nat):Int)):=by
    show(if(0:Int) < (a:Int) then some (PyData.int ((b:Int) % (a:Int))) else none)=_
    rw[if_pos (by omega)]
    simp
   have e3:be0 2 3 (A0 (A4 V0 (A1 3) (A1 2)) (A0 (A1 2) A2)) [‹t›,‹u›,‹.int a›,‹.int b›]=some (.nx [‹t›,‹u›,‹.int ((b % a:Nat):Int)›,‹.int a›]):=by
    show((V0 (.int b) (.int a)).bind fun d=>(some [PyData.int (a:Int)]).map fun ds=>d::ds).bind _=_
    rw[e2]
    rfl
   rw[aQ7 e1 e3,h,← Nat.gcd_rec]
def fr(r:Rat):D:=.tuple [.int r.num,.int r.den]
theorem G2{i:Int}{k:Nat}(h:i.natAbs < 2 ^ k) (hk:k<=8000):E3 i:=Nat.lt_of_lt_of_le h (Nat.pow_le_pow_right (by decide) hk)
theorem bi3(a b:Nat) (hb:0 < b):fr (mkRat a b)=.tuple [.int ((a / Nat.gcd a b:Nat):Int),.int ((b / Nat.gcd a b:Nat):Int)]:=by
 unfold fr
 rw[Rat.num_mkRat,Rat.den_mkRat,if_neg (by omega),if_neg (by omega)]
 have e:b.gcd (a:Int).natAbs=Nat.gcd a b:=by rw[Int.natAbs_natCast,Nat.gcd_comm]
 rw[e]
 simp
theorem bA7(a b x k:Nat) (hb:0 < b) (hk:b < 2 ^ k) (hk8:k<=8000):ai8 (.int x) (.int (Nat.gcd a b))=some (.int ((x / Nat.gcd a b:Nat):Int)):=by
 have g0:0 < Nat.gcd a b:=Nat.gcd_pos_of_pos_right _ hb
 have gs:E3 (Nat.gcd a b:Nat):=G2 (k:=k) (by rw[Int.natAbs_natCast];exact Nat.lt_of_le_of_lt (Nat.le_of_dvd hb (Nat.gcd_dvd_right a b)) hk) hk8
 show(if(0:Int) < ((Nat.gcd a b:Nat):Int)/\E3 (Nat.gcd a b:Nat) then some (PyData.int ((x:Int) / ((Nat.gcd a b:Nat):Int))) else none)=_
 rw[if_pos ⟨by omega,gs⟩]
 simp
theorem bq6(a b k:Nat) (hb:0 < b) (hk:b < 2 ^ k) (hk8:k<=8000):ae6 [.int a,.int b]=some (fr (mkRat a b)):=by
 have d:=fun x=>bA7 a b x k hb hk hk8
 obtain⟨n,h⟩:=aV9 a b (.int a) (.int b)
 have e:ae5 [‹.int a›,‹.int b›,none,none]=some (.rt (fr (mkRat a b))):=by
  rw[bi3 a b hb]
  simp only[ae5,A8,B2,A3,A0,A2,A1,xg0,xg1,xbs,xms,xw1,xw0,B0,B1,A4,d,aU5 h]
 show(ae5 [‹.int a›,‹.int b›,none,none]).bind _=_
 rw[e];rfl
structure Bd (k:Nat) (r:Rat):Prop where
 nn:0<=r
 num:r.num.natAbs < 2 ^ k
 den:r.den < 2 ^ k
theorem Bd.mono{j k:Nat}{r:Rat}(h:Bd j r) (l:j<=k):Bd k r:=⟨h.nn,Nat.lt_of_lt_of_le h.num (Nat.pow_le_pow_right (by decide) l),Nat.lt_of_lt_of_le h.den (Nat.pow_le_pow_right (by decide) l)⟩
theorem Bd.nat{k:Nat}{r:Rat}(h:Bd k r):r.num=(r.num.natAbs:Int):=by
 have:=Rat.num_nonneg.mpr h.nn
 omega
theorem bi2(a b:Nat):0<=mkRat (a:Int) b:=by
 rw[← Rat.num_nonneg,Rat.num_mkRat]
 split
 ·exact Int.le_refl _
 ·exact Int.ediv_nonneg (by omega) (by omega)
theorem Bd.of{a b k:Nat}(hb:0 < b) (h1:a < 2 ^ k) (h2:b < 2 ^ k):Bd k (mkRat a b):=by
 refine⟨bi2 a b,?_,?_⟩
 ·rw[Rat.num_mkRat,if_neg (by omega)]
  rw[show((a:Int) / ((b.gcd (a:Int).natAbs:Nat):Int))=((a / b.gcd (a:Int).natAbs:Nat):Int) by simp,Int.natAbs_natCast]
  exact Nat.lt_of_le_of_lt (Nat.div_le_self _ _) h1
 ·rw[Rat.den_mkRat,if_neg (by omega)]
  exact Nat.lt_of_le_of_lt (Nat.div_le_self _ _) h2
theorem aa3{a b j k:Nat}(h1:a < 2 ^ j) (h2:b < 2 ^ k):a*b < 2 ^ (j+k):=by
 rw[Nat.pow_add]
 exact Nat.mul_lt_mul'' h1 h2
theorem aO0{j k:Nat}{r s:Rat}(hr:Bd j r) (hs:Bd k s):r*s=mkRat ((r.num.natAbs*s.num.natAbs:Nat):Int) (r.den*s.den):=by rw[Rat.mul_def,Rat.normalize_eq_mkRat,Int.natCast_mul,← hr.nat,← hs.nat]
theorem Q5(r:Rat):0 < r.den:=Nat.pos_of_ne_zero r.den_nz
theorem Bd.mul{j k:Nat}{r s:Rat}(hr:Bd j r) (hs:Bd k s):Bd (j+k) (r*s):=by
 rw[aO0 hr hs]
 exact Bd.of (Nat.mul_pos (Q5 r) (Q5 s)) (aa3 hr.num hs.num) (aa3 hr.den hs.den)
theorem Bd.one:Bd 1 1:=⟨by decide,by decide,by decide⟩
theorem Bd.zero:Bd 1 0:=⟨by decide,by decide,by decide⟩
theorem Bd.sn{k:Nat}{r:Rat}(h:Bd k r) (hk:k<=8000):E3 r.num:=G2 h.num hk
theorem Bd.sd{k:Nat}{r:Rat}(h:Bd k r) (hk:k<=8000):E3 r.den:=G2 (k:=k) (by rw[Int.natAbs_natCast];exact h.den) hk
theorem Z5{i j:Int}(h1:E3 i) (h2:E3 j):m8 (.int i) (.int j)=some (.int (i*j)):=by
 show(if E3 i/\E3 j then some (PyData.int (i*j)) else none)=_
 rw[if_pos ⟨h1,h2⟩]
theorem at8(i j:Int):Z8 (.int i) (.int j)=some (.int (i+j)):=rfl
theorem ab7(i j:Int):V2 (.int i) (.int j)=some (.int (i - j)):=rfl
theorem aJ3(i j:Int):leI (.int i) (.int j)=some (.bool (decide (i<=j))):=rfl
theorem aL4(a b:D):L2.atI [a,b] 0=some a:=rfl
theorem aL3(a b:D):L2.atI [a,b] 1=some b:=rfl
theorem ix0{ρ:Rho}{i:Nat}{r:Rat}(h:ρ[i]? = some (‹fr r›)):dIx (A7 i) ⇑0 ρ=some (.int r.num):=by simp only[dIx,A7,h,fr,dC,xbs,aL4]
theorem ix1{ρ:Rho}{i:Nat}{r:Rat}(h:ρ[i]? = some (‹fr r›)):dIx (A7 i) ⇑1 ρ=some (.int r.den):=by simp only[dIx,A7,h,fr,dC,xbs,aL3]
theorem v0(x:Option B) (l:Rho):(x::l)[0]? = some x:=rfl
theorem v1(y x:Option B) (l:Rho):(y::x::l)[1]? = some x:=rfl
end Sh
set_option exponentiation.threshold 9000
namespace Sh
open PySem G L2
theorem aJ2(i j:Int):ltI (.int i) (.int j)=some (.bool (decide (i < j))):=rfl
theorem aX0(i j:Int):gtI (.int i) (.int j)=some (.bool (decide (j < i))):=rfl
theorem aw3{α:Type}(x:α):List.replicate 0 x=[]:=rfl
theorem aw2{α:Type}(x:α):List.replicate 1 x=[x]:=rfl
theorem aw1{α:Type}(x:α):List.replicate 2 x=[x,x]:=rfl
theorem ad9(a b c d:D):O9 [a,b,c,d] (some 1) none=[b,c,d]:=rfl
theorem ba1(a b c d:D):L2.atI [a,b,c,d] 0=some a:=rfl
theorem ba0(a b c d:D):L2.atI [a,b,c,d] 1=some b:=rfl
theorem aZ9(a b c d:D):L2.atI [a,b,c,d] 2=some c:=rfl
theorem aZ8(a b c d:D):L2.atI [a,b,c,d] 3=some d:=rfl
theorem ba4(a b c:D):L2.atI [a,b,c] 0=some a:=rfl
theorem ba3(a b c:D):L2.atI [a,b,c] 1=some b:=rfl
theorem ba2(a b c:D):L2.atI [a,b,c] 2=some c:=rfl
theorem V5{n k:Nat}(h:n < 2 ^ k) (hk:k<=8000):E3 (n:Int):=G2 (k:=k) (by rw[Int.natAbs_natCast];exact h) hk
theorem aC8{i j:Int}(h:0 < j):V0 (.int i) (.int j)=some (.int (i % j)):=by
 show(if(0:Int) < j then some (PyData.int (i % j)) else none)=_
 rw[if_pos h]
theorem aR8{i j:Int}(h:0 < j) (s:E3 j):ai8 (.int i) (.int j)=some (.int (i / j)):=by
 show(if(0:Int) < j/\E3 j then some (PyData.int (i / j)) else none)=_
 rw[if_pos ⟨h,s⟩]
theorem C2{g:DS}{n:Nat}{ds:List D}{ρ:Rho}{d:D}(h:ae7 n ds=ρ) (e:g ρ=some (.rt d)):D1 g n ds=some d:=by
 unfold D1
 rw[h,e];rfl
theorem ab3{j k:Nat}{r s:Rat}(hr:Bd j r) (hs:Bd k s) (l:j+k<=8000):af9 [fr r,fr s]=some (fr (r*s)):=by
 refine C2 (ρ:=[‹fr r›,‹fr s›]) rfl ?_
 simp only[au8,B0,A3,A0,A2,A4,ix0 (v0 _ _),ix1 (v0 _ _),ix0 (v1 _ _ _),ix1 (v1 _ _ _),xbs,xms,Z5 (hr.sn (by omega)) (hs.sn (by omega)),Z5 (hr.sd (by omega)) (hs.sd (by omega))]
 have:=bq6 (r.num.natAbs*s.num.natAbs) (r.den*s.den) (j+k) (Nat.mul_pos (Q5 r) (Q5 s)) (aa3 hr.den hs.den) l
 rw[← aO0 hr hs,Int.natCast_mul,Int.natCast_mul,← hr.nat,← hs.nat]at this
 rw[this];rfl
def at7(ns:List Int) (k:Nat):Int:=if ns.length=0 then 7*(k:Int) else ns.getD (k % ns.length) 0+6553*((k / ns.length:Nat):Int)
theorem bn6(ns:List Int):eqD (.list (ns.map PyData.int)) (.list [])=some (.bool (decide (ns.length=0))):=by
 have h1:SeqAt.shaped (.list (ns.map PyData.int))=true:=by
  have c:∀l:List Int,PyData.canLayAll0 (l.map PyData.int)=true:=fun l=>by
   induction l with
   | nil=>rfl
   | cons a r ih=>simp only[xmc,PyData.canLayAll0,PyData.canLay0,ih];rfl
  have d:∀l:List Int,PyData.depthAll (l.map PyData.int)=0:=fun l=>by
   induction l with
   | nil=>rfl
   | cons a r ih=>simp only[xmc,PyData.depthAll,PyData.depth,ih];rfl
  unfold SeqAt.shaped
  simp only[PyData.canLay0,c,PyData.depth,d]
  rfl
 unfold eqD
 rw[if_pos ⟨h1,rfl⟩]
 cases ns with
 | nil=>rfl
 | cons a r=>simp[PyData.eqv,PyData.eqvAll]
theorem bX1(ns:List Int) (k:Nat) (hn:ns.length<=63) (hk:k < 2 ^ 60):ap7 [.list (ns.map PyData.int),.int k]=some (.int (at7 ns k)):=by
 refine C2 (ρ:=[‹.list (ns.map PyData.int)›,‹.int k›]) rfl ?_
 have sk:E3 (k:Int):=V5 hk (by decide)
 by_cases h:ns.length=0
 ·have e:at7 ns k=7*(k:Int):=by unfold at7;rw[if_pos h]
  simp only[ap3,A8,B2,B0,sIf,C5,Z4,V6,A1,dC,B1,D6,A4,A3,v8,P8,dOr,az3,L0,dIx,af5,L9,O6,ad8,v9,Y1,A7,qE,qN,j8,C4,B5,n4,A2,A0,J2,tB2,F9,F8,M7,ap8,J4,B6,N0,V1,E9,B3,M9,C0,O5,E7,G3,ay8,an0,xg0,xg1,xw0,xw1,xbs,xms,xmc,xmn,xna,xca,at8,ab7,aJ3,aI8,n5,aJ2,aX0,aw3,aw2,aw1,ad9,ba1,ba0,aZ9,aZ8,ba4,ba3,ba2,aL4,aL3,xnt,xnf,xft,if_true,if_false,ite_true,ite_false,bn6,h,decide_true,Z5 (i:=7) (G2 (k:=3) (by decide) (by decide)) sk,e]
 ·have e:at7 ns k=ns.getD (k % ns.length) 0+6553*((k / ns.length:Nat):Int):=by unfold at7;rw[if_neg h]
  have hl:(List.map PyData.int ns).length=ns.length:=List.length_map ..
  have hp:0 < ns.length:=Nat.pos_of_ne_zero h
  have m1:V0 (.int k) (.int ns.length)=some (.int ((k % ns.length:Nat):Int)):=by rw[aC8 (by omega)];simp
  have m2:ai8 (.int k) (.int ns.length)=some (.int ((k / ns.length:Nat):Int)):=by rw[aR8 (by omega) (V5 (k:=6) (by omega) (by decide))];simp
  have m3:L2.atI (List.map PyData.int ns) ((k % ns.length:Nat):Int)=some (.int (ns.getD (k % ns.length) 0)):=by
   refine L2.J1 ?_
   have hlt:k % ns.length < ns.length:=Nat.mod_lt _ hp
   rw[List.getElem?_map,List.getElem?_eq_getElem hlt]
   simp[List.getD,hlt]
  have sq:E3 ((k / ns.length:Nat):Int):=V5 (k:=60) (Nat.lt_of_le_of_lt (Nat.div_le_self _ _) hk) (by decide)
  simp only[ap3,A8,B2,B0,sIf,C5,Z4,V6,A1,dC,B1,D6,A4,A3,v8,P8,dOr,az3,L0,dIx,af5,L9,O6,ad8,v9,Y1,A7,qE,qN,j8,C4,B5,n4,A2,A0,J2,tB2,F9,F8,M7,ap8,J4,B6,N0,V1,E9,B3,M9,C0,O5,E7,G3,ay8,an0,xg0,xg1,xw0,xw1,xbs,xms,xmc,xmn,xna,xca,at8,ab7,aJ3,aI8,n5,aJ2,aX0,aw3,aw2,aw1,ad9,ba1,ba0,aZ9,aZ8,ba4,ba3,ba2,aL4,aL3,xnt,xnf,xft,if_true,if_false,ite_true,ite_false,bn6,h,decide_false,hl,m1,m2,m3,Z5 (i:=6553) (G2 (k:=13) (by decide) (by decide)) sq,e]
def ad6(ns:List Int) (k:Nat) (m:Int):Int :=
 let c:=(at7 ns k % 2147483563*69069+104723*((k:Int)+1)) % 2147483563
 let c:=(c*c+c / 3) % 2147483399
 (c*c+c / 7) % 2147483647 / 11 % m
theorem aB1{i:Int}(h0:0<=i) (h:i < 4294967296):E3 i:=G2 (k:=32) (by omega) (by decide)
theorem ak6(ns:List Int) (k:Nat) (m:Int) (hn:ns.length<=63) (hk:k < 2 ^ 60) (hm:0 < m):A5 [.list (ns.map PyData.int),.int k,.int m]=some (.int (ad6 ns k m)):=by
 refine C2 (ρ:=[‹.list (ns.map PyData.int)›,‹.int k›,‹.int m›,none]) rfl ?_
 have c0:∀x:Int,E3 (x % 2147483563):=fun x=>aB1 (by omega) (by omega)
 have c1:∀x:Int,E3 (x % 2147483399):=fun x=>aB1 (by omega) (by omega)
 have sk:E3 ((k:Int)+1):=G2 (k:=61) (by omega) (by decide)
 have s1:E3 69069:=G2 (k:=17) (by decide) (by decide)
 have s2:E3 104723:=G2 (k:=17) (by decide) (by decide)
 have s3:E3 3:=G2 (k:=2) (by decide) (by decide)
 have s7:E3 7:=G2 (k:=3) (by decide) (by decide)
 have s11:E3 11:=G2 (k:=4) (by decide) (by decide)
 simp only[av2,A8,B2,B0,sIf,C5,Z4,V6,A1,dC,B1,D6,A4,A3,v8,P8,dOr,az3,L0,dIx,af5,L9,O6,ad8,v9,Y1,A7,qE,qN,j8,C4,B5,n4,A2,A0,J2,tB2,F9,F8,M7,ap8,J4,B6,N0,V1,E9,B3,M9,C0,O5,E7,G3,ay8,an0,xg0,xg1,xw0,xw1,xbs,xms,xmc,xmn,xna,xca,at8,ab7,aJ3,aI8,n5,aJ2,aX0,aw3,aw2,aw1,ad9,ba1,ba0,aZ9,aZ8,ba4,ba3,ba2,aL4,aL3,xnt,xnf,xft,if_true,if_false,ite_true,ite_false,bX1 ns k hn hk,aC8 (show(0:Int) < 2147483563 by decide),aC8 (show(0:Int) < 2147483399 by decide),aC8 (show(0:Int) < 2147483647 by decide),aC8 hm,Z5 (c0 _) s1,Z5 s2 sk,Z5 (c0 _) (c0 _),Z5 (c1 _) (c1 _),aR8 (show(0:Int) < 3 by decide) s3,aR8 (show(0:Int) < 7 by decide) s7,aR8 (show(0:Int) < 11 by decide) s11]
 rfl
theorem ak0(ns:List Int) (k:Nat) (m:Int) (hm:0 < m):0<=ad6 ns k m/\ad6 ns k m < m:=by
 unfold ad6
 exact⟨Int.emod_nonneg _ (by omega),Int.emod_lt_of_pos _ hm⟩
structure IsSh (k:Nat) (r:Rat):Prop where
 bd:Bd k r
 le:r<=1
theorem aW1{a b:Nat}(hb:0 < b) (h:a<=b):mkRat (a:Int) b<=1:=by
 rw[Rat.le_iff,Rat.num_mkRat,Rat.den_mkRat,if_neg (by omega),if_neg (by omega)]
 have e0:(1:Rat).num=1:=rfl
 have e1:(1:Rat).den=1:=rfl
 rw[e0,e1]
 have:a / b.gcd a<=b / b.gcd a:=Nat.div_le_div_right h
 simp
 exact_mod_cast this
theorem u7(ns:List Int) (at':Nat) (hn:ns.length<=63) (hk:at' < 2 ^ 40):∃r,G7 [.list (ns.map PyData.int),.int at']=some (fr r)/\IsSh 4 r:=by
 obtain⟨u0,u1⟩:=ak0 ns at' 12 (by decide)
 obtain⟨u,hu⟩:∃u:Nat,(1:Int)+ad6 ns at' 12=u/\0 < u/\u<=12:=⟨(1+ad6 ns at' 12).toNat,by omega,by omega,by omega⟩
 obtain⟨t0,t1⟩:=ak0 ns (at'+1) ((u:Int)+1) (by omega)
 obtain⟨t,ht⟩:∃t:Nat,ad6 ns (at'+1) ((u:Int)+1)=t/\t<=u:=⟨(ad6 ns (at'+1) ((u:Int)+1)).toNat,by omega,by omega⟩
 obtain⟨p0,p1⟩:=ak0 ns (at'+2) 5 (by decide)
 have hs:IsSh 4 (mkRat (t:Int) u):=⟨Bd.of (by omega) (by omega) (by omega),aW1 (by omega) (by omega)⟩
 have e1:=ak6 ns at' 12 hn (by omega) (by decide)
 have e2:=ak6 ns (at'+1) ((u:Int)+1) hn (by omega) (by omega)
 have e3:=ak6 ns (at'+2) 5 hn (by omega) (by decide)
 have e4:=bq6 t u 4 (by omega) (by omega) (by decide)
 have c1:((at':Int)+1)=((at'+1:Nat):Int):=by omega
 have c2:((at':Int)+2)=((at'+2:Nat):Int):=by omega
 rw[ht.1]at e2
 have pick:∀(j:Int),0<=j->j < 5->∃r,L2.atI [fr (mkRat (t:Int) u),fr (mkRat (t:Int) u),fr (mkRat (t:Int) u),.tuple [.int 0,.int 1],.tuple [.int 1,.int 1]] j=some (fr r)/\IsSh 4 r:=fun j h0 h5=>by
  have:j=0\/j=1\/j=2\/j=3\/j=4:=by omega
  rcases this with rfl|rfl|rfl|rfl|rfl
  ·exact⟨_,rfl,hs⟩
  ·exact⟨_,rfl,hs⟩
  ·exact⟨_,rfl,hs⟩
  ·exact⟨0,rfl,Bd.zero.mono (by decide),by decide⟩
  ·exact⟨1,rfl,Bd.one.mono (by decide),by decide⟩
 obtain⟨r,hr1,hr2⟩:=pick _ p0 p1
 refine⟨r,C2 (ρ:=[‹.list (ns.map PyData.int)›,‹.int at'›,none,none]) rfl ?_,hr2⟩
 simp only[au9,A8,B2,B0,sIf,C5,Z4,V6,A1,dC,B1,D6,A4,A3,v8,P8,dOr,az3,L0,dIx,af5,L9,O6,ad8,v9,Y1,A7,qE,qN,j8,C4,B5,n4,A2,A0,J2,tB2,F9,F8,M7,ap8,J4,B6,N0,V1,E9,B3,M9,C0,O5,E7,G3,ay8,an0,xg0,xg1,xw0,xw1,xbs,xms,xmc,xmn,xna,xca,at8,ab7,aJ3,aI8,n5,aJ2,aX0,aw3,aw2,aw1,ad9,ba1,ba0,aZ9,aZ8,ba4,ba3,ba2,aL4,aL3,xnt,xnf,xft,if_true,if_false,ite_true,ite_false,e1,hu.1,c1,c2,e2,e3,e4,hr1]
def sp(c x y z:Rat):D:=.tuple [fr c,fr x,fr y,fr z]
structure Spot (k:Nat) (c x y z:Rat):Prop where
 hc:IsSh k c
 hx:Bd k x
 hy:Bd k y
 hz:Bd k z
 xc:x<=c
 yc:y<=c
 zc:z<=c
theorem IsSh.mono{j k:Nat}{r:Rat}(h:IsSh j r) (l:j<=k):IsSh k r:=⟨h.bd.mono l,h.le⟩
theorem Spot.mono{j k:Nat}{c x y z:Rat}(h:Spot j c x y z) (l:j<=k):Spot k c x y z:=⟨h.hc.mono l,h.hx.mono l,h.hy.mono l,h.hz.mono l,h.xc,h.yc,h.zc⟩
theorem m7{c r:Rat}(hc:0<=c) (hr:r<=1):c*r<=c:=by
 have:=Rat.mul_le_mul_of_nonneg_right hr hc
 grind
theorem ck2:X4 0 3=[.int 0,.int 1,.int 2]:=rfl
theorem bX0(ns:List Int) (k:Nat) (hn:ns.length<=63) (hk:k < 2 ^ 30):∃c x y z,R0 [.list (ns.map PyData.int),.int k]=some (sp c x y z)/\Spot 8 c x y z:=by
 obtain⟨c,ec,hc⟩:=u7 ns k hn (by omega)
 obtain⟨a0,e0,h0⟩:=u7 ns (k+3) hn (by omega)
 obtain⟨a1,e1,h1⟩:=u7 ns (k+6) hn (by omega)
 obtain⟨a2,e2,h2⟩:=u7 ns (k+9) hn (by omega)
 refine⟨c,c*a0,c*a1,c*a2,?_,⟨hc.mono (by decide),hc.bd.mul h0.bd,hc.bd.mul h1.bd,hc.bd.mul h2.bd,m7 hc.bd.nn h0.le,m7 hc.bd.nn h1.le,m7 hc.bd.nn h2.le⟩⟩
 refine C2 (ρ:=[‹.list (ns.map PyData.int)›,‹.int k›,none]) rfl ?_
 have i0:(k:Int)+3+3*0=((k+3:Nat):Int):=by omega
 have i1:(k:Int)+3+3*1=((k+6:Nat):Int):=by omega
 have i2:(k:Int)+3+3*2=((k+9:Nat):Int):=by omega
 have s0:E3 0:=G2 (k:=2) (by decide) (by decide)
 have s1:E3 1:=G2 (k:=2) (by decide) (by decide)
 have s2:E3 2:=G2 (k:=2) (by decide) (by decide)
 have s3:E3 3:=G2 (k:=2) (by decide) (by decide)
 have m0:=Z5 s3 s0
 have m1:=Z5 s3 s1
 have m2:=Z5 s3 s2
 have r3:((-(2 ^ 62):Int)<=3/\(3:Int) < 2 ^ 62):=by decide
 have l3:([PyData.int 0,.int 1,.int 2]:List D).length<=16777216:=by decide
 have ct:∀a b c d:D,Z8 (.tuple [a]) (.tuple [b,c,d])=some (.tuple [a,b,c,d]):=fun a b c d=>rfl
 simp only[aG3,A8,B2,B0,sIf,C5,Z4,V6,A1,dC,B1,D6,A4,A3,v8,P8,dOr,az3,L0,dIx,af5,L9,O6,ad8,v9,Y1,A7,qE,qN,j8,C4,B5,n4,A2,A0,J2,tB2,F9,F8,M7,ap8,J4,B6,N0,V1,E9,B3,M9,C0,O5,E7,G3,ay8,an0,xg0,xg1,xw0,xw1,xbs,xms,xmc,xmn,xna,xca,at8,ab7,aJ3,aI8,n5,aJ2,aX0,aw3,aw2,aw1,ad9,ba1,ba0,aZ9,aZ8,ba4,ba3,ba2,aL4,aL3,xnt,xnf,xft,if_true,if_false,ite_true,ite_false,ec,r3,and_self,ck2,l3,m0,m1,m2,i0,i1,i2,e0,e1,e2,ab3 hc.bd h0.bd (by decide),ab3 hc.bd h1.bd (by decide),ab3 hc.bd h2.bd (by decide),ct,sp]
theorem at2(r:Rat):SeqAt.shaped (fr r)=true:=rfl
theorem cg1(r s:Rat):eqD (fr r) (fr s)=some (.bool (decide (r=s))):=by
 unfold eqD
 rw[if_pos ⟨at2 r,at2 s⟩]
 congr 2
 show((r.num==s.num)&&(((r.den:Int)==(s.den:Int))&&true))=_
 rw[Bool.eq_iff_iff]
 simp only[Bool.and_true,Bool.and_eq_true,beq_iff_eq,decide_eq_true_eq]
 constructor
 ·intro h;exact Rat.ext h.1 (by exact_mod_cast h.2)
 ·intro h;subst h;exact⟨rfl,rfl⟩
end Sh
local macro_rules
  | `(tactic| wp_walk using evP, $ts,*) => `(tactic| simp only [G.A8, G.B2, G.B0, G.sIf, G.C5, G.Z4, G.V6, G.A1, G.dC, G.B1, G.D6, G.A4, G.A3, G.P8, G.dOr, G.az3, G.L0, G.O6, G.ad8, G.v9, G.Y1, G.C4, G.B5, G.n4, G.A2, G.A0, G.J2, G.tB2, G.F9, G.F8, G.M7, G.ap8, G.J4, G.E9, G.B3, G.M9, G.C0, G.O5, G.E7, G.an0, G.xg0, G.xg1, G.xw0, G.xw1, G.xbs, G.xms, G.xmc, G.xmn, G.xna, G.xca, Sh.at8, Sh.ab7, Sh.aJ3, Sh.aI8, Sh.n5, Sh.aJ2, Sh.aX0, Sh.ba1, Sh.ba0, Sh.aZ9, Sh.aZ8, Sh.ba4, Sh.ba3, Sh.ba2, Sh.aL4, Sh.aL3, G.xnt, G.xnf, G.xft, if_true, if_false, $[$ts:term],*])
local macro_rules
  | `(tactic| wp_walk using evB) => `(tactic| wp_walk using evP, G.dIx, G.L9, G.A7, G.qE, G.qN, G.j8)
  | `(tactic| wp_walk using evB, $ts,*) => `(tactic| wp_walk using evP, G.dIx, G.L9, G.A7, G.qE, G.qN, G.j8, $ts,*)
local macro_rules
  | `(tactic| wp_walk using evA) => `(tactic| wp_walk using evB, G.v8, G.af5, G.B6, G.N0, G.V1, G.G3, G.ay8, Sh.aw3, Sh.aw2, Sh.aw1, Sh.ad9, ite_true, ite_false)
  | `(tactic| wp_walk using evA, $ts,*) => `(tactic| wp_walk using evB, G.v8, G.af5, G.B6, G.N0, G.V1, G.G3, G.ay8, Sh.aw3, Sh.aw2, Sh.aw1, Sh.ad9, ite_true, ite_false, $ts,*)
local macro_rules
  | `(tactic| wp_walk using evD) => `(tactic| wp_walk using evB, G.S9, G.ap9)
  | `(tactic| wp_walk using evD, $ts,*) => `(tactic| wp_walk using evB, G.S9, G.ap9, $ts,*)
local macro_rules
  | `(tactic| wp_walk using evC) => `(tactic| wp_walk using evD, G.v8, G.af5, G.B6, G.N0, G.V1, G.G3, G.ay8, Sh.aw3, Sh.aw2, Sh.aw1, Sh.ad9, ite_true, ite_false)
  | `(tactic| wp_walk using evC, $ts,*) => `(tactic| wp_walk using evD, G.v8, G.af5, G.B6, G.N0, G.V1, G.G3, G.ay8, Sh.aw3, Sh.aw2, Sh.aw1, Sh.ad9, ite_true, ite_false, $ts,*)
local macro_rules
  | `(tactic| wp_walk using evQ) => `(tactic| wp_walk using evP, G.S9, G.ap9)
  | `(tactic| wp_walk using evQ, $ts,*) => `(tactic| wp_walk using evP, G.S9, G.ap9, $ts,*)
namespace Sh
open PySem G L2
theorem F1{x y:Str}{b:Bool}(hx:PyData.canLay0 (.str x)=true) (hy:PyData.canLay0 (.str y)=true) (e:(x==y)=b):eqD (.str x) (.str y)=some (.bool b):=by
 unfold eqD
 have s:∀z:Str,PyData.canLay0 (.str z)=true->SeqAt.shaped (.str z)=true:=fun z h=>by unfold SeqAt.shaped;rw[h];rfl
 rw[if_pos ⟨s x hx,s y hy⟩]
 show some (PyData.bool (x==y))=_
 rw[e]
theorem F1z{x y:Str}{b:Bool}(hx:PyData.canLay0 (.str x)=true:=by decide +kernel)(hy:PyData.canLay0 (.str y)=true:=by decide +kernel)(e:(x==y)=b:=by decide +kernel):eqD (.str x) (.str y)=some (.bool b):=F1 hx hy e
theorem r8{x y:Str}{b:Bool}(hx:PyData.canLay0 (.str x)=true) (hy:PyData.canLay0 (.str y)=true) (e:(!(x==y))=b):neD (.str x) (.str y)=some (.bool b):=by
 unfold neD
 have s:∀z:Str,PyData.canLay0 (.str z)=true->SeqAt.shaped (.str z)=true:=fun z h=>by unfold SeqAt.shaped;rw[h];rfl
 rw[if_pos ⟨s x hx,s y hy⟩]
 show some (PyData.bool (!(x==y)))=_
 rw[e]
inductive Man where
 | over|mult|screen|plus|atop|cut
def Man.s:Man->Str
 | .over => "over"
 | .mult => "multiply"
 | .screen => "screen"
 | .plus => "plus"
 | .atop => "atop"
 | .cut => "cut"
inductive Rul where
 | turn|grey|round
def Rul.s:Rul->Str
 | .turn => "turn"
 | .grey => "grey"
 | .round => "round"
def v6:Rat:=mkRat 1 2
theorem aj9:fr v6=.tuple [.int 1,.int 2]:=by
 show PyData.tuple [.int (mkRat 1 2).num,.int (mkRat 1 2).den]=_
 rw[show(mkRat 1 2).num=1 by decide +kernel,show(mkRat 1 2).den=2 by decide +kernel];rfl
theorem bA1:IsSh 2 v6:=⟨⟨by decide +kernel,by decide +kernel,by decide +kernel⟩,by decide +kernel⟩
theorem z3(a b c d e f:D):(List.zip [a,b,c] [d,e,f]).map (fun(x,y)=>PyData.tuple [x,y])=[.tuple [a,d],.tuple [b,e],.tuple [c,f]]:=rfl
structure Q4 where
 c:Rat
 x:Rat
 y:Rat
 z:Rat
def Q4.d(q:Q4):D:=sp q.c q.x q.y q.z
def Q4.ok(k:Nat) (q:Q4):Prop:=Spot k q.c q.x q.y q.z
def q0:Q4:=⟨0,0,0,0⟩
theorem Q4.ok.mono{j k:Nat}{q:Q4}(h:q.ok j) (l:j<=k):q.ok k:=Spot.mono h l
def Ly(n:Nat) (d:D):Prop:=PyData.canLay0 d=true/\PyData.depth d<=n
theorem ao5{n:Nat}:∀xs:List D,(∀x∈xs,Ly n x)->PyData.canLayAll0 xs=true/\PyData.depthAll xs<=n
 | [],_=>⟨rfl,Nat.zero_le _⟩
 | x::xs,g=>by
  have a:=g x (List.mem_cons_self ..)
  have b:=ao5 xs fun y hy=>g y (xmm _ hy)
  refine⟨?_,?_⟩
  ·show(PyData.canLay0 x&&PyData.canLayAll0 xs)=true
   rw[a.1,b.1];rfl
  ·show max (PyData.depth x) (PyData.depthAll xs)<=n
   have:=a.2;have:=b.2;omega
theorem Ly.tup{n:Nat}{xs:List D}(h:∀x∈xs,Ly n x):Ly (n+1) (.tuple xs):=⟨(ao5 xs h).1,Nat.succ_le_succ (ao5 xs h).2⟩
theorem Ly.lst{n:Nat}{xs:List D}(h:∀x∈xs,Ly n x):Ly (n+1) (.list xs):=⟨(ao5 xs h).1,Nat.succ_le_succ (ao5 xs h).2⟩
theorem Ly.int(n:Nat) (i:Int):Ly n (.int i):=⟨rfl,Nat.zero_le _⟩
theorem Ly.mono{m n:Nat}{d:D}(h:Ly m d) (l:m<=n):Ly n d:=⟨h.1,Nat.le_trans h.2 l⟩
theorem Ly.shaped{n:Nat}{d:D}(g:Ly n d) (hn:n<=64):SeqAt.shaped d=true:=by
 unfold SeqAt.shaped
 rw[g.1,Bool.true_and]
 exact decide_eq_true (by have:=g.2;omega)
theorem Ly.q4(q:Q4) (n:Nat):Ly (n+2) q.d:=⟨rfl,by show 2<=n+2;omega⟩
theorem Ly.spots(l:List Q4) (n:Nat):Ly (n+3) (.tuple (l.map Q4.d)):=Ly.tup fun x hx=>by
 obtain⟨q,_,rfl⟩:=List.mem_map.mp hx
 exact Ly.q4 q n
theorem ax4{n:Nat}{d:D}(g:Ly n d) (hn:n<=64):neD d d=some (.bool false):=by
 unfold neD
 rw[if_pos ⟨g.shaped hn,g.shaped hn⟩,SeqAt.eqv_refl d g.1];rfl
def shD(w h:Nat) (l:List Q4):D:=.tuple [.int w,.int h,.tuple (l.map Q4.d)]
theorem Ly.sheet(w h:Nat) (l:List Q4):Ly 4 (shD w h l):=Ly.tup fun x hx=>by
 simp only[List.mem_cons,List.not_mem_nil,or_false]at hx
 rcases hx with rfl|rfl|rfl
 ·exact Ly.int _ _
 ·exact Ly.int _ _
 ·exact Ly.spots l 0
structure ShOk (k:Nat) (w h:Nat) (l:List Q4):Prop where
 w1:1<=w
 w8:w<=8
 h1:1<=h
 h8:h<=8
 len:l.length=w*h
 ok:∀q∈l,q.ok k
theorem bG3{α:Type}{e:DE}{r:Rho}{h f:α->D}:∀(l:List α) (x:Option B),(∀a∈l,e (‹h a›::r)=some (f a))->N0 (B3 0) E9 e (l.map h) (x::r)=some (l.map f)
 | [],_,_=>rfl
 | a::l,x,H=>by simp only[xmc,N0,B3,xw0,xbs,E9,if_true,H a (List.mem_cons_self ..),bG3 l _ (fun b hb=>H b (xmm _ hb)),xms]
theorem bp2{α:Type}{c:Rho->Option Bool}{e:DE}{r:Rho}{h f:α->D}{p:α->Bool}:∀(l:List α) (x:Option B),(∀a∈l,c (‹h a›::r)=some (p a))->(∀a∈l,e (‹h a›::r)=some (f a))->N0 (B3 0) c e (l.map h) (x::r)=some ((l.filter p).map f)
 | [],_,_,_=>rfl
 | a::l,x,C,H=>by
  have ih:=bp2 l (‹h a›) (fun b hb=>C b (xmm _ hb)) (fun b hb=>H b (xmm _ hb))
  cases q:p a with
  | true =>simp only[xmc,N0,B3,xw0,xbs,C a (List.mem_cons_self ..),q,if_true,H a (List.mem_cons_self ..),ih,xms,List.filter_cons_of_pos q]
  | false =>
   have q':¬p a=true:=by rw[q];exact Bool.false_ne_true
   simp only[xmc,N0,B3,xw0,xbs,C a (List.mem_cons_self ..),q,xft,if_false,ih,List.filter_cons_of_neg q']
theorem aa2{α:Type}{caps:List Nat}{src:Rho->Option (List D)}{e:DE}{ρ r:Rho}{l:List α}{h f:α->D}(hr:V1 1 caps ρ=none::r) (hs:src ρ=some (l.map h)) (hl:l.length<=1000) (H:∀a∈l,e (‹h a›::r)=some (f a)) :
  B6 1 caps src (B3 0) E9 e ρ=some (l.map f):=by
 unfold B6
 rw[hs,xbs,if_pos (by rw[List.length_map];omega),hr,bG3 l _ H]
theorem ax6{α:Type}{caps:List Nat}{src:Rho->Option (List D)}{c:Rho->Option Bool}{e:DE}{ρ r:Rho}{l:List α}{h f:α->D}{p:α->Bool}(hr:V1 1 caps ρ=none::r) (hs:src ρ=some (l.map h)) (hl:l.length<=1000) (C:∀a∈l,c (‹h a›::r)=some (p a)) (H:∀a∈l,e (‹h a›::r)=some (f a)) :
  B6 1 caps src (B3 0) c e ρ=some ((l.filter p).map f):=by
 unfold B6
 rw[hs,xbs,if_pos (by rw[List.length_map];omega),hr,bp2 l _ C H]
theorem X5{f:DE}{ρ:Rho}{n:Nat}(h:f ρ=some (.int n)) (hn:n<=1000):G3 f ρ=some ((List.range n).map fun k:Nat=>PyData.int k):=by
 unfold G3
 rw[h,xbs]
 show(if -(2 ^ 62)<=(n:Int)/\(n:Int) < 2 ^ 62 then some (X4 0 n) else none)=_
 rw[if_pos ⟨by omega,by omega⟩]
 unfold X4
 congr 1
 have e:((n:Int) - 0).toNat=n:=by omega
 rw[e]
 apply List.map_congr_left
 intro k _
 congr 1
 omega
theorem bN9{i j:Int}(h1:E3 i) (h2:E3 j):C6 (.int i) (.int j)=some (.int (i*j)):=Z5 h1 h2
theorem L8{i j:Nat}(h1:i<=1000) (h2:j<=1000):C6 (.int i) (.int j)=some (.int ((i*j:Nat):Int)):=by rw[bN9 (V5 (k:=10) (by omega) (by decide)) (V5 (k:=10) (by omega) (by decide)),Int.natCast_mul]
def plc(w n:Nat):List (Int×Int):=(List.range n).map fun k=>(((k % w:Nat):Int),((k / w:Nat):Int))
theorem aJ7{n:Nat}{i:Int}(h0:0<=i) (h1:i < n):ixN n i=some i.toNat:=by unfold ixN;rw[if_pos h0,if_pos h1]
abbrev scr(ns:List Int):D:=.list (ns.map PyData.int)
theorem aE0(ns:List Int) (k m:Nat) (hn:ns.length<=63) (hk:k < 2 ^ 60) (hm:0 < m):∃n:Nat,A5 [scr ns,.int k,.int m]=some (.int n)/\n < m:=by
 have a:=ak6 ns k m hn hk (by omega)
 have b:=ak0 ns k m (by omega)
 refine⟨(ad6 ns k m).toNat,?_,by omega⟩
 rw[a]
 congr 2
 omega
theorem ak1{h:D->D->Option D}{f g:DE}{ρ:Rho}{x y:D}(h1:f ρ=some x) (h2:g ρ=some y):A4 h f g ρ=h x y:=by unfold A4;rw[h1,xbs,h2,xbs]
theorem V7{α:Type}(a:α):∀n:Nat,(List.replicate n [a]).flatten=List.replicate n a
 | 0=>rfl
 | n+1=>by rw[List.replicate_succ,List.flatten_cons,V7 a n];rfl
theorem bh8{xs:List D}{n:Nat}(hn:n<=1000) (hx:xs.length<=1000):C6 (.list xs) (.int n)=some (.list (List.replicate n xs).flatten):=by
 show(if 0<=(n:Int)/\(n:Int) < 1000000/\xs.length*((n:Int)).toNat<=16777216 then some (PyData.list (List.replicate ((n:Int)).toNat xs).flatten) else none)=_
 rw[Int.toNat_natCast,if_pos ⟨by omega,by omega,Nat.le_trans (Nat.mul_le_mul hx hn) (by decide)⟩]
theorem ch1(a:D) (r:List D):O9 (a::r) none (some 1)=[a]:=by
 unfold O9
 have h1:HT.sIx (a::r).length 0 none=0:=by simp[HT.sIx]
 have h2:HT.sIx (a::r).length (a::r).length (some 1)=1:=by simp only[HT.sIx,List.length_cons];first|omega|(simp;omega)|simp
 rw[h1,h2];rfl
theorem aA6(ns:List Int) (k:Nat) (hn:ns.length<=63) (hk:k < 2 ^ 30):∃q:Q4,R0 [scr ns,.int k]=some q.d/\q.ok 8:=by
 obtain⟨c,x,y,z,e,S⟩:=bX0 ns k hn hk
 exact⟨⟨c,x,y,z⟩,e,S⟩
theorem bd7(ns:List Int) (at':Nat) (hn:ns.length<=63) (ha:at' < 2 ^ 20):∃f:Nat->Q4,∀k,k < 1000->R0 [scr ns,.int ((at'+12*k:Nat):Int)]=some (f k).d/\(f k).ok 8:=by
 refine⟨fun k=>if h:k < 1000 then Classical.choose (aA6 ns (at'+12*k) hn (by omega)) else q0,fun k hk=>?_⟩
 simp only[dif_pos hk]
 exact Classical.choose_spec (aA6 ns (at'+12*k) hn (by omega))
theorem ay3(ns:List Int) (at' w h:Nat) (hn:ns.length<=63) (ha:at' < 2 ^ 20) (w1:1<=w) (w8:w<=8) (h1:1<=h) (h8:h<=8):∃l:List Q4,u8 [scr ns,.int at',.int w,.int h]=some (shD w h l)/\ShOk 8 w h l:=by
 obtain⟨f,hf⟩:=bd7 ns at' hn ha
 have wh:w*h<=64:=Nat.mul_le_mul w8 h8
 have wh1:1<=w*h:=Nat.mul_le_mul w1 h1
 obtain⟨t,et,ht⟩:=aE0 ns (at'+7) 3 hn (by omega) (by decide)
 have et':A5 [scr ns,.int ((at':Int)+7),.int 3]=some (.int t):=by rw[← et];simp
 have c:B6 1 [0,1] (G3 (A4 C6 (A1 2) (A1 3))) (B3 0) E9 (A3 R0 (A0 (A1 1) (A0 (A4 A9 (A1 2) (A4 C6 ⇑12 (A1 0))) A2))) [‹scr ns›,‹.int at'›,‹.int w›,‹.int h›,none]=some ((List.range (w*h)).map fun k=>(f k).d):=by
  refine aa2 (l:=List.range (w*h)) (h:=fun k:Nat=>PyData.int k) (r:=[‹scr ns›,‹.int at'›]) rfl (X5 ?_ (by omega)) (by rw[List.length_range];omega) ?_
  ·exact L8 (by omega) (by omega)
  ·intro k hk
   have hk:=List.mem_range.mp hk
   have m12:C6 (.int 12) (.int k)=some (.int ((12*k:Nat):Int)):=L8 (i:=12) (by decide) (by omega)
   have e1:((at':Int)+((12*k:Nat):Int))=((at'+12*k:Nat):Int):=by omega
   wp_walk using evD,m12,e1,(hf k (by omega)).1
 have mwh:C6 (.int w) (.int h)=some (.int ((w*h:Nat):Int)):=L8 (by omega) (by omega)
 have cv:((t:Int)==0)=decide (t=0):=by cases t with
  | zero=>rfl
  | succ n=>rw[decide_eq_false (by omega)];exact beq_eq_false_iff_ne.mpr (by omega)
 obtain⟨n,en⟩:∃n,w*h=n+1:=⟨w*h - 1,by omega⟩
 by_cases t0:t=0
 ·refine⟨List.replicate (w*h) (f 0),?_,w1,w8,h1,h8,List.length_replicate ..,fun q hq=>by rw[(List.mem_replicate.mp hq).2];exact(hf 0 (by decide)).2⟩
  refine C2 (ρ:=[‹scr ns›,‹.int at'›,‹.int w›,‹.int h›,none]) rfl ?_
  have hd:(List.range (w*h)).map (fun k=>(f k).d)=(f 0).d::(List.range n).map (fun k=>(f (k+1)).d):=by rw[en,List.range_succ_eq_map,xmc,List.map_map];rfl
  rw[hd]at c
  have v:A4 C6 (E4 (A1 4) C4 (B5 ⇑1)) (A4 C6 (A1 2) (A1 3)) [‹scr ns›,‹.int at'›,‹.int w›,‹.int h›,‹.list ((f 0).d::(List.range n).map (fun k=>(f (k+1)).d))›]=some (.list (List.replicate (w*h) (f 0).d)):=by
   have a1:E4 (A1 4) C4 (B5 ⇑1) [‹scr ns›,‹.int at'›,‹.int w›,‹.int h›,‹.list ((f 0).d::(List.range n).map (fun k=>(f (k+1)).d))›]=some (.list (O9 ((f 0).d::(List.range n).map (fun k=>(f (k+1)).d)) none (some 1))):=rfl
   have a2:A4 C6 (A1 2) (A1 3) [‹scr ns›,‹.int at'›,‹.int w›,‹.int h›,‹.list ((f 0).d::(List.range n).map (fun k=>(f (k+1)).d))›]=some (.int ((w*h:Nat):Int)):=(ak1 rfl rfl).trans mwh
   rw[ch1]at a1
   have a3:=bh8 (xs:=[(f 0).d]) (show w*h<=1000 by omega) (show 1<=1000 by decide)
   rw[V7]at a3
   exact(ak1 a1 a2).trans a3
  have t1:tB2 eqD (A3 A5 (A0 (A1 0) (A0 (A4 A9 (A1 1) ⇑7) (A0 ⇑3 A2)))) ⇑0 [‹scr ns›,‹.int at'›,‹.int w›,‹.int h›,‹.list ((f 0).d::(List.range n).map (fun k=>(f (k+1)).d))›]=some true:=by simp only[tB2,A4,A3,A0,A2,A1,dC,xms,xbs,xg0,xg1,S9,et',n5,cv,decide_eq_true t0,J4]
  simp only[af7,A8,Z4,c,sIf,t1,B2,v,B0,B1,A0,A2,O6,A7,A1,xms,xbs,xw0,xw1,xg0,xg1,if_true,xft,if_false,shD,List.map_replicate]
 ·refine⟨(List.range (w*h)).map f,?_,w1,w8,h1,h8,by rw[List.length_map,List.length_range],fun q hq=>by
   obtain⟨k,hk,rfl⟩:=List.mem_map.mp hq
   exact(hf k (by have:=List.mem_range.mp hk;omega)).2⟩
  refine C2 (ρ:=[‹scr ns›,‹.int at'›,‹.int w›,‹.int h›,none]) rfl ?_
  wp_walk using evD,af7,c,et',cv,decide_eq_false t0,shD,List.map_map
  rfl
theorem q4:(4:Nat)<=16777216:=by decide
theorem q3:(3:Nat)<=16777216:=by decide
def Dv(N:Nat) (r:Rat):Prop:=∃z:Int,r*(N:Rat)=(z:Rat)
theorem Dv.mul{M N:Nat}{r s:Rat}(h:Dv M r) (g:Dv N s):Dv (M*N) (r*s):=by
 obtain⟨a,ha⟩:=h;obtain⟨b,hb⟩:=g
 exact⟨a*b,by rw[Rat.intCast_mul,← ha,← hb,Rat.natCast_mul];grind⟩
theorem Dv.int(N:Nat) (i:Int):Dv N (i:Rat):=⟨i*N,by rw[Rat.intCast_mul];rfl⟩
theorem Dv.one(N:Nat):Dv N 1:=Dv.int N 1
theorem Dv.right{N:Nat}{r:Rat}(h:Dv N r) (M:Nat):Dv (N*M) r:=by have:=h.mul (Dv.one M);rwa [Rat.mul_one]at this
theorem Dv.left{N:Nat}{r:Rat}(h:Dv N r) (M:Nat):Dv (M*N) r:=by have:=(Dv.one M).mul h;rwa [Rat.one_mul]at this
theorem Dv.of(a:Int) {N:Nat}(hN:0 < N):Dv N (mkRat a N):=by
 refine⟨a,?_⟩
 have hN':(N:Rat)≠0:=by
  intro h
  have:N=0:=by exact_mod_cast h
  omega
 rw[Rat.mkRat_eq_div]
 exact Rat.div_mul_cancel hN'
def Dn(k:Nat) (q:Q4):Prop:=∃N,0 < N/\N < 2 ^ k/\Dv N q.c/\Dv N q.x/\Dv N q.y/\Dv N q.z
def Ds(k:Nat) (s:Rat):Prop:=∃N,0 < N/\N < 2 ^ k/\Dv N s
theorem aa5{a b j k:Nat}(h1:a < 2 ^ j) (h2:b < 2 ^ k):a*b < 2 ^ (j+k):=by
 rw[Nat.pow_add]
 exact Nat.mul_lt_mul'' h1 h2
def Q4.or(q:Q4):Prop:=0<=q.x/\0<=q.y/\0<=q.z/\q.x<=q.c/\q.y<=q.c/\q.z<=q.c/\q.c<=1
theorem Q4.ok.or{k:Nat}{q:Q4}(h:q.ok k):q.or:=⟨h.hx.nn,h.hy.nn,h.hz.nn,h.xc,h.yc,h.zc,h.hc.le⟩
structure Dq (k:Nat) (q:Q4):Prop where
 o:q.or
 n:Dn k q
structure Sr (k:Nat) (s:Rat):Prop where
 h:IsSh k s
 n:Ds k s
inductive Nd where
 | layer (nm:D) (m:Man) (s:Rat) (sh:Bool) (lf tp:Int) (mk:Option (List Rat)) (w h:Nat) (l:List Q4) (kb:Nat)
 | tone (nm:D) (r:Rul) (s:Rat) (sh:Bool)
 | group (nm:D) (m:Man) (s:Rat) (sh:Bool) (ns:List Nd)
def mkD:Option (List Rat)->D
 | none=>.none
 | some ms=>.tuple (ms.map fr)
mutual
def Nd.d:Nd->D
 | .layer nm m s sh lf tp mk w h l _=>.tuple [.str "layer", nm,.str m.s,fr s,.bool sh,.int lf,.int tp,mkD mk,shD w h l]
 | .tone nm r s sh=>.tuple [.str "tone", nm,.str r.s,fr s,.bool sh]
 | .group nm m s sh ns=>.tuple [.str "group", nm,.str m.s,fr s,.bool sh,.tuple (Nd.ds ns)]
def Nd.ds:List Nd->List D
 | []=>[]
 | n::r=>n.d::Nd.ds r
end
mutual
def Nd.Ok:Nd->Prop
 | .layer _ _ s _ _ _ mk w h l kb=>Sr 4 s/\ShOk kb w h l/\(∀q∈l,Dq kb q)/\(∀ms,mk=some ms->ms.length=w*h/\∀r∈ms,Sr 4 r)/\1<=kb
 | .tone _ _ s _=>Sr 4 s
 | .group _ _ s _ ns=>Sr 4 s/\Nd.Oks ns
def Nd.Oks:List Nd->Prop
 | []=>True
 | n::r=>n.Ok/\Nd.Oks r
end
mutual
def Nd.wg:Nd->Nat
 | .layer _ _ _ _ _ _ _ _ _ _ kb=>kb+8
 | .tone ..=>6
 | .group _ _ _ _ ns=>5+Nd.wgs ns
def Nd.wgs:List Nd->Nat
 | []=>0
 | n::r=>n.wg+Nd.wgs r
end
mutual
def Nd.dp:Nd->Nat
 | .layer ..=>0
 | .tone ..=>0
 | .group _ _ _ _ ns=>1+Nd.dps ns
def Nd.dps:List Nd->Nat
 | []=>0
 | n::r=>max n.dp (Nd.dps r)
end
theorem cm3:eqD (.str "layer") (.str "tone")=some (.bool false):=F1z
theorem cg3:eqD (.str "tone") (.str "tone")=some (.bool true):=F1z
theorem cm5:eqD (.str "group") (.str "tone")=some (.bool false):=F1z
theorem cm4:eqD (.str "layer") (.str "layer")=some (.bool true):=F1z
theorem cm6:eqD (.str "group") (.str "layer")=some (.bool false):=F1z
theorem aX1:eqD (.str "layer") (.str "group")=some (.bool false):=F1z
theorem aX2:eqD (.str "group") (.str "group")=some (.bool true):=F1z
section
variable {nm:D}{m:Man}{r:Rul}{s:Rat}{sh:Bool}{lf tp:Int}{mk:Option (List Rat)}{w h:Nat}{l:List Q4}{kb:Nat}{ns:List Nd}
end
theorem bl0:isB .none .none=some (.bool true):=rfl
theorem bT9(ds:List D):isB (.tuple ds) .none=some (.bool false):=rfl
end Sh
local macro_rules
  | `(↥$x) => `(PySem.PyData.tuple (Sh.Nd.ds $x))
namespace Sh
open PySem G L2
theorem n8(a b c d e f g h i:D):L2.atI [a,b,c,d,e,f,g,h,i] 0=some a:=rfl
theorem au4(a b c d e f g h i:D):L2.atI [a,b,c,d,e,f,g,h,i] 1=some b:=rfl
theorem ch6(a b c d e f g h i:D):L2.atI [a,b,c,d,e,f,g,h,i] 2=some c:=rfl
theorem ch5(a b c d e f g h i:D):L2.atI [a,b,c,d,e,f,g,h,i] 3=some d:=rfl
theorem ch4(a b c d e f g h i:D):L2.atI [a,b,c,d,e,f,g,h,i] 4=some e:=rfl
theorem bG6(a b c d e f g h i:D):L2.atI [a,b,c,d,e,f,g,h,i] 8=some i:=rfl
theorem x9(a b c d e f:D):L2.atI [a,b,c,d,e,f] 0=some a:=rfl
theorem aS8(a b c d e f:D):L2.atI [a,b,c,d,e,f] 1=some b:=rfl
theorem ch8(a b c d e f:D):L2.atI [a,b,c,d,e,f] 3=some d:=rfl
theorem ch7(a b c d e f:D):L2.atI [a,b,c,d,e,f] 4=some e:=rfl
theorem aF6(a b c d e f:D):L2.atI [a,b,c,d,e,f] 5=some f:=rfl
theorem ah8(a b c d e:D):L2.atI [a,b,c,d,e] 0=some a:=rfl
theorem bG7(a b c d e:D):L2.atI [a,b,c,d,e] 1=some b:=rfl
theorem ci0(a b c d e:D):L2.atI [a,b,c,d,e] 2=some c:=rfl
theorem ch9(a b c d e:D):L2.atI [a,b,c,d,e] 4=some e:=rfl
theorem cd2:am0 .none .none=some (.bool false):=rfl
theorem A6{f g:DS}{ρ ρ':Rho}(h:f ρ=some (.nx ρ')):A8 f g ρ=g ρ':=by unfold A8;rw[h];rfl
theorem D0{f g:DS}{ρ:Rho}{d:D}(h:f ρ=some (.rt d)):A8 f g ρ=some (.rt d):=by unfold A8;rw[h];rfl
theorem ad3{α:Type}{g:D->Rho->Option Rho}{f:DS}{h:α->D}{I:Nat->Rho->Prop}:∀(l:List α) (i:Nat) (ρ:Rho),I i ρ->(∀(j:Nat) (a:α),l[j]? = some a->∀ρ,I (i+j) ρ->∃ρ1,g (h a) ρ=some ρ1/\∃ρ',f ρ1=some (.nx ρ')/\I (i+j+1) ρ')->∃ρ',Z7 g f (l.map h) ρ=some (.nx ρ')/\I (i+l.length) ρ'
 | [],i,ρ,h0,_=>⟨ρ,rfl,h0⟩
 | a::l,i,ρ,h0,H=>by
  obtain⟨ρ1,e1,ρ2,e2,h2⟩:=H 0 a rfl ρ h0
  obtain⟨ρ',e3,h3⟩:=ad3 l (i+1) ρ2 (by simpa using h2) (fun j b hb ρ hρ=>by
   have:=H (j+1) b (by simpa using hb) ρ (by rwa [show i+(j+1)=i+1+j by omega])
   rwa [show i+(j+1)+1=i+1+j+1 by omega]at this)
  refine⟨ρ',?_,by rw[List.length_cons,show i+(l.length+1)=i+1+l.length by omega];exact h3⟩
  simp only[xmc,Z7,e1,xbs,e2,e3]
theorem aD6{α:Type}(x:α) {n:Nat}{P:Nat->α->Prop}(h:∀j,j < n->∃a,P j a):∃f:Nat->α,∀j,j < n->P j (f j):=by
 refine⟨fun j=>if hj:j < n then Classical.choose (h j hj) else x,fun j hj=>?_⟩
 simp only[dif_pos hj]
 exact Classical.choose_spec (h j hj)
theorem B7(ns:List Int) (hn:ns.length<=63) {e m':Int}(k m:Nat) (he:e=(k:Int)) (hm':m'=(m:Int)) (hk:k < 2 ^ 60) (hm:0 < m):∃n:Nat,A5 [scr ns,.int e,.int m']=some (.int n)/\n < m:=by
 subst he hm'
 exact aE0 ns k m hn hk hm
theorem al3(ns:List Int) (hn:ns.length<=63) {e:Int}(k:Nat) (he:e=(k:Int)) (hk:k < 2 ^ 40):∃r,G7 [scr ns,.int e]=some (fr r)/\IsSh 4 r:=by
 subst he
 exact u7 ns k hn hk
theorem bd8(ns:List Int) (hn:ns.length<=63) {e:Int}(k w h:Nat) (he:e=(k:Int)) (hk:k < 2 ^ 20) (w1:1<=w) (w8:w<=8) (h1:1<=h) (h8:h<=8):∃l:List Q4,u8 [scr ns,.int e,.int w,.int h]=some (shD w h l)/\ShOk 8 w h l:=by
 subst he
 exact ay3 ns k w h hn hk w1 w8 h1 h8
theorem ad5(r:Rat):Dv r.den r:=by
 have:=Dv.of r.num (Q5 r)
 rwa [Rat.mkRat_self]at this
theorem ar3{k:Nat}{s:Rat}(h:IsSh k s):Sr k s:=⟨h,s.den,Q5 s,h.bd.den,ad5 s⟩
theorem bG0{q:Q4}(h:q.ok 8):Dq 32 q :=
 ⟨h.or,q.c.den*q.x.den*(q.y.den*q.z.den),Nat.mul_pos (Nat.mul_pos (Q5 _) (Q5 _)) (Nat.mul_pos (Q5 _) (Q5 _)),aa5 (aa5 h.hc.bd.den h.hx.den) (aa5 h.hy.den h.hz.den),
  ((ad5 q.c).right _).right _,((ad5 q.x).left _).right _,((ad5 q.y).right _).left _,((ad5 q.z).left _).left _⟩
def SOk(s:Str):Prop:=∀c∈s.cps.toList,97<=c/\c<=122
theorem SOk.ok{s:Str}(h:SOk s):PyData.canLay0 (.str s)=true:=by
 show s.cps.all (· < 0x110000)=true
 rw[Array.all_eq_true']
 intro c hc
 exact decide_eq_true (by have:=h c (Array.mem_toList_iff.mpr hc);omega)
theorem SOk.app{a b:Str}(ha:SOk a) (hb:SOk b):SOk (a++b):=by
 intro c hc
 have:c∈(a.cps++b.cps).toList:=hc
 rw[Array.toList_append]at this
 rcases List.mem_append.mp this with h|h
 ·exact ha c h
 ·exact hb c h
theorem bT5(x:Str) (n:Nat) (h:n < x.length) (hx:x.length<=1000):∃s:Str,atS x (n:Int)=some (.str s)/\s.length=1/\(SOk x->SOk s):=by
 unfold atS
 rw[if_pos (by omega)]
 have hl:x.cps.toList.length=x.length:=by unfold Str.length;simp
 have h':n < x.cps.toList.length:=by omega
 have:atI x.cps.toList (n:Int)=some x.cps.toList[n]:=by
  unfold atI
  rw[aJ7 (by omega) (by omega),xbs,Int.toNat_natCast,List.getElem?_eq_getElem h']
 rw[this]
 refine⟨⟨#[x.cps.toList[n]]⟩,rfl,rfl,fun hs c hc=>?_⟩
 have:c=x.cps.toList[n]:=by simpa using hc
 rw[this]
 exact hs _ (List.getElem_mem h')
theorem bs5(x:Str) (lo hi:Option Int):(slS x lo hi).length<=x.length:=by
 unfold slS
 split
 ·exact Nat.le_refl _
 ·unfold Str.length
  rw[List.size_toArray]
  exact Nat.le_trans (List.length_filterMap_le ..) (PyProof.Rows.indices_len_le ..)
theorem bs4{x:Str}(h:SOk x) (lo hi:Option Int):SOk (slS x lo hi):=by
 unfold slS
 split
 ·exact h
 ·intro c hc
  simp only[List.toList_toArray]at hc
  obtain⟨i,_,e⟩:=List.mem_filterMap.mp hc
  exact h c (Array.mem_toList_iff.mpr (Array.mem_of_getElem? e))
theorem be4{x:Str}(h:SOk x) (k:Int) (hk:k=1\/k=2):SOk (ai4 x k):=by
 unfold ai4
 split
 ·exact h
 ·rename_i e
  rcases hk with rfl|rfl
  ·simp at e
  ·intro c hc
   have:c∈((#[]++x.cps)++x.cps).toList:=hc
   simp at this
   exact h c (Array.mem_toList_iff.mpr this)
theorem bm1{a b:Str}(ha:SOk a) (hb:SOk b):SOk (Builtin.Str.glued "" [a,b]):=by
 intro c hc
 have:c∈(a.cps++("" : Str).cps++b.cps).toList:=hc
 rw[Array.toList_append,Array.toList_append]at this
 rcases List.mem_append.mp this with h|h
 ·rcases List.mem_append.mp h with h|h
  ·exact ha c h
  ·exact absurd h (by simp[show("" : Str).cps = #[] from rfl])
 ·exact hb c h
theorem bC8:SOk "abcdefghijklmnopqrstuvwxyz" := by
 have:("abcdefghijklmnopqrstuvwxyz" : Str).cps.toList.all (fun c=>decide (97<=c/\c<=122))=true:=by decide +kernel
 intro c hc
 exact of_decide_eq_true (List.all_eq_true.mp this c hc)
def ltr(k:Nat):Str:=⟨#[97+k]⟩
theorem bO3:∀k:Nat,k < 14->atS "abcdefghijklmn" (k:Int)=some (.str (ltr k)):=by
 have e:("abcdefghijklmn" : Str)=⟨#[97,98,99,100,101,102,103,104,105,106,107,108,109,110]⟩:=by decide +kernel
 intro k hk
 rw[e]
 rcases k with _|_|_|_|_|_|_|_|_|_|_|_|_|_|k
 all_goals first|rfl|omega
theorem aP9(k:Nat) (h:k < 14):SOk (ltr k):=by
 intro c hc
 have:c=97+k:=by simpa [ltr] using hc
 omega
def nmS(b:Bool) (k:Nat) (y:Str):Str:=if b=true then ltr k++y else y++ltr k
theorem bv9(b:Bool) {k:Nat}{y:Str}(hk:k < 14) (hy:SOk y):SOk (nmS b k y):=by
 unfold nmS
 split
 ·exact(aP9 k hk).app hy
 ·exact hy.app (aP9 k hk)
theorem bw0{b:Bool}{i j:Nat}{y z:Str}(e:nmS b i y=nmS b j z):i=j:=by
 unfold nmS at e
 cases b with
 | true =>
  have e:(ltr i).cps++y.cps=(ltr j).cps++z.cps:=congrArg Str.cps e
  have e:=congrArg (fun a=>a.toList.head?) e
  simp[ltr]at e
  omega
 | false =>
  have e:y.cps++(ltr i).cps=z.cps++(ltr j).cps:=congrArg Str.cps e
  have e:=congrArg (fun a=>a.toList.getLast?) e
  simp[ltr]at e
  omega
theorem aB2(x:Str) (k:Int) (hk:k=1\/k=2):(ai4 x k).length<=2*x.length:=by
 unfold ai4
 split
 ·omega
 ·rename_i e
  rcases hk with rfl|rfl
  ·simp at e
  ·show((#[]++x.cps)++x.cps).size<=2*x.cps.size
   simp;omega
theorem bF3(a b:Str) (ha:a.length=1) (hb:b.length=1):an9 (dC (.str "")) (fun _=>some (false,[.str a,.str b])) []=some (.str (Builtin.Str.glued "" [a,b]))/\(Builtin.Str.glued "" [a,b]).length=2:=by
 have h2:(Builtin.Str.glued "" [a,b]).length=2:=by
  show(a.cps++("" : Str).cps++b.cps).size=2
  unfold Str.length at ha hb
  rw[Array.size_append,Array.size_append,ha,hb]
  rfl
 have h1:ac9 "" [a,b]<=16777216:=by
  show 0+a.length+("" : Str).length+b.length+("" : Str).length<=16777216
  have:("" : Str).length=0:=rfl
  omega
 refine⟨?_,h2⟩
 show(if ac9 "" [a,b]<=16777216/\(Builtin.Str.glued "" [a,b]).length<=16777216 then some (PyData.str (Builtin.Str.glued "" [a,b])) else none)=_
 rw[if_pos ⟨h1,by omega⟩]
theorem bx7{f:DE}{g:Rho->Option (Bool×List D)}{ρ:Rho}{a b:Str}(hf:f ρ=some (.str "")) (hg:g ρ=some (false,[.str a,.str b])) (ha:a.length=1) (hb:b.length=1):an9 f g ρ=some (.str (Builtin.Str.glued "" [a,b])):=by
 rw[← (bF3 a b ha hb).1]
 unfold an9
 rw[hf,hg]
 rfl
theorem bw2(x:Str) (k:Int) (hk:k=1\/k=2) (hx:x.length<=1000):aV6 (.str x) (.int k)=some (.str (ai4 x k)):=by
 show(if 1<=k/\k<=2/\x.length<=1000/\(ai4 x k).length<=16777216 then some (PyData.str (ai4 x k)) else none)=_
 have:=aB2 x k hk
 rw[if_pos ⟨by omega,by omega,hx,by omega⟩]
theorem aF4(a b:Str) (ha:a.length<=1000) (hb:b.length<=1000):A9 (.str a) (.str b)=some (.str (a++b)):=by
 show(if a.length+b.length<=16777216 then some (PyData.str (a++b)) else none)=_
 rw[if_pos (by omega)]
theorem cl6:∀n:Nat,n < 2->∃k:Int,atI ([.int 1,.int 2]:List D) (n:Int)=some (.int k)/\(k=1\/k=2)
 | 0,_=>⟨1,rfl,.inl rfl⟩
 | 1,_=>⟨2,rfl,.inr rfl⟩
 | n+2,h=>absurd h (by omega)
def nbA:DS:=(B2 6 (an9 (dC (.str "")) (qN (B6 1 [0,1,5] (G3 ⇑2) (B3 0) E9 (aa9 (dC (.str "abcdefghijklmnopqrstuvwxyz")) (A3 A5 (A0 (A1 1) (A0 (A4 A9 (A4 A9 (A4 A9 (A1 2) ⇑1) (A4 C6 ⇑3 (A1 3))) (A1 0)) (A0 ⇑26 A2)))))))))
def nbB:DS:=(B2 6 (A4 aV6 (aY6 (A1 6) C4 (B5 (A3 A5 (A0 (A1 0) (A0 (A4 A9 (A4 A9 (A1 1) ⇑3) (A4 C6 ⇑3 (A1 5))) (A0 ⇑3 A2)))))) (dIx (qN (A0 ⇑1 (A0 ⇑2 A2))) (A3 A5 (A0 (A1 0) (A0 (A4 A9 (A4 A9 (A1 1) ⇑2) (A4 C6 ⇑3 (A1 5))) (A0 ⇑2 A2)))))))
def nbC:DS:=(S7 4 (dIx (qN (A0 (A4 A9 (A1 6) (aa9 (dC (.str "abcdefghijklmn")) (A1 5))) (A0 (A4 A9 (aa9 (dC (.str "abcdefghijklmn")) (A1 5)) (A1 6)) A2))) (v9 (A1 3))))
def aC4:DS:=A8 nbA (A8 nbB nbC)
theorem bl9:av1=(A8 (B2 3 (A4 eqD (A3 A5 (A0 (A1 0) (A0 (A1 1) (A0 ⇑2 A2)))) ⇑0)) (A8 (Z6 4 A2) (A8 (S2 (G3 (A1 2)) (B3 5) aC4) (av8 4 (B0 (A1 4)))))):=rfl
def gb0:DS:=(B2 8 (A3 A5 (A0 (A1 0) (A0 (A4 A9 (A4 A9 (A1 1) ⇑3) (A4 C6 ⇑5 (A1 7))) (A0 (A4 A9 (L9 (A7 6)) ⇑1) A2)))))
def gb1:DS:=(B2 9 (A4 A9 (A1 8) (A3 A5 (A0 (A1 0) (A0 (A4 A9 (A4 A9 (A1 1) ⇑4) (A4 C6 ⇑5 (A1 7))) (A0 ⇑3 A2))))))
def gb2:DS:=(B2 10 (dIx (qN (A0 (B1 (A0 ⇑1 (A0 ⇑1 A2))) (A0 (A3 G7 (A0 (A1 0) (A0 (A4 A9 (A4 A9 (A1 1) ⇑5) (A4 C6 ⇑5 (A1 7))) A2))) A2))) (A3 A5 (A0 (A1 0) (A0 (A4 A9 (A4 A9 (A1 1) ⇑6) (A4 C6 ⇑5 (A1 7))) (A0 ⇑2 A2))))))
def gb3:DS:=(B2 11 (dIx (qN (A0 (A1 4) (A0 (dC (.str "atop")) (A0 (A1 4) (A0 (dC (.str "cut")) A2))))) (A3 A5 (A0 (A1 0) (A0 (A4 A9 (A4 A9 (A1 1) ⇑7) (A4 C6 ⇑5 (A1 7))) (A0 ⇑4 A2))))))
def gb4:DS:=(B2 12 (B1 (A0 (dC (.str "group")) (A0 (dIx (A7 3) (A4 A9 (A1 2) (A1 7))) (A0 (A1 11) (A0 (A1 10) (A0 (A4 gtI (A3 A5 (A0 (A1 0) (A0 (A4 A9 (A4 A9 (A1 1) ⇑14) (A1 7)) (A0 ⇑7 A2)))) ⇑0) A2)))))))
def gb5:DS:=(bd9 6 (B5 (A1 8)) (B5 (A1 9)) (A0 (A4 A9 (A1 12) (B1 (A0 (O6 (qE (aY7 (A7 6) (B5 (A1 8)) (B5 (A1 9))))) A2))) A2))
def aR2:DS:=(A8 gb0 (A8 gb1 (A8 gb2 (A8 gb3 (A8 gb4 gb5)))))
def gn0:DS:=(B2 4 (dIx (qN (A0 (dC (.str "over")) (A0 (dC (.str "multiply")) (A0 (dC (.str "screen")) (A0 (dC (.str "plus")) A2))))) (A3 A5 (A0 (A1 0) (A0 (A1 1) (A0 ⇑4 A2))))))
def gn1:DS:=(B2 5 (A3 A5 (A0 (A1 0) (A0 (A4 A9 (A1 1) ⇑1) (A0 (A4 A9 (A1 2) ⇑1) A2)))))
def gn2:DS:=(Z6 6 (B6 1 [0,4,3,1] (G3 (A1 5)) (B3 0) E9 (A3 P3 (A0 (A1 1) (A0 (A4 A9 (A4 A9 (A1 4) ⇑20) (A4 C6 ⇑170 (A1 0))) (A0 (dIx (A7 3) (A1 0)) (A0 (A1 2) A2)))))))
def gn3:DS:=(S2 (G3 (A3 A5 (A0 (A1 0) (A0 (A4 A9 (A1 1) ⇑2) (A0 ⇑3 A2))))) (B3 7) aR2)
def gn4:DS:=(B0 (O6 (A7 6)))
theorem bl8:av0=(A8 gn0 (A8 gn1 (A8 gn2 (A8 gn3 gn4)))):=rfl
theorem bN6(ns:List Int) (hn:ns.length<=63) (at' k:Nat) (ha:at' < 2 ^ 20) (hk:k < 14) (a2:Option B) (b:Bool) (L:List D) (a6:Option B):∃x:Str,nbA [‹scr ns›,‹.int at'›,a2,‹.bool b›,some (.own L),‹.int k›,a6]=some (.nx [‹scr ns›,‹.int at'›,a2,‹.bool b›,some (.own L),‹.int k›,‹.str x›])/\x.length=2/\SOk x:=by
 have m3:C6 (.int 3) (.int k)=some (.int ((3*k:Nat):Int)):=L8 (i:=3) (by decide) (by omega)
 have P:∀j,j < 2->∃s:Str,aa9 (dC (.str "abcdefghijklmnopqrstuvwxyz")) (A3 A5 (A0 (A1 1) (A0 (A4 A9 (A4 A9 (A4 A9 (A1 2) ⇑1) (A4 C6 ⇑3 (A1 3))) (A1 0)) (A0 ⇑26 A2)))) [‹.int (j:Nat)›,‹scr ns›,‹.int at'›,‹.int k›]=some (.str s)/\s.length=1/\SOk s:=fun j hj=>by
  obtain⟨d,ed,ld⟩:=B7 ns hn (e:=(at':Int)+1+((3*k:Nat):Int)+(j:Int)) (m':=26) (at'+1+3*k+j) 26 (by omega) rfl (by omega) (by decide)
  obtain⟨s,es,ls,ss⟩:=bT5 "abcdefghijklmnopqrstuvwxyz" d ld (by decide)
  refine⟨s,?_,ls,ss bC8⟩
  wp_walk using evD,aa9,m3,ed,es
 obtain⟨S,hS⟩:=aD6 (x:=("" : Str)) P
 have c:B6 1 [0,1,5] (G3 ⇑2) (B3 0) E9 (aa9 (dC (.str "abcdefghijklmnopqrstuvwxyz")) (A3 A5 (A0 (A1 1) (A0 (A4 A9 (A4 A9 (A4 A9 (A1 2) ⇑1) (A4 C6 ⇑3 (A1 3))) (A1 0)) (A0 ⇑26 A2))))) [‹scr ns›,‹.int at'›,a2,‹.bool b›,some (.own L),‹.int k›,a6]=some ((List.range 2).map fun j=>.str (S j)) :=
  aa2 (l:=List.range 2) (h:=fun j:Nat=>PyData.int j) (r:=[‹scr ns›,‹.int at'›,‹.int k›]) rfl (X5 (n:=2) rfl (by decide)) (by decide) fun j hj=>(hS j (List.mem_range.mp hj)).1
 refine⟨Builtin.Str.glued "" [S 0,S 1],?_,(bF3 _ _ (hS 0 (by decide)).2.1 (hS 1 (by decide)).2.1).2,bm1 (hS 0 (by decide)).2.2 (hS 1 (by decide)).2.2⟩
 have jn:=bx7 (f:=dC (.str "")) (g:=qN (B6 1 [0,1,5] (G3 ⇑2) (B3 0) E9 (aa9 (dC (.str "abcdefghijklmnopqrstuvwxyz")) (A3 A5 (A0 (A1 1) (A0 (A4 A9 (A4 A9 (A4 A9 (A1 2) ⇑1) (A4 C6 ⇑3 (A1 3))) (A1 0)) (A0 ⇑26 A2))))))) (ρ:=[‹scr ns›,‹.int at'›,a2,‹.bool b›,some (.own L),‹.int k›,a6]) rfl (by unfold qN;rw[c];rfl) (hS 0 (by decide)).2.1 (hS 1 (by decide)).2.1
 unfold nbA B2
 rw[jn]
 rfl
theorem bN5(ns:List Int) (hn:ns.length<=63) (at' k:Nat) (ha:at' < 2 ^ 20) (hk:k < 14) (a2:Option B) (b:Bool) (L:List D) (x:Str) (hx:x.length=2) (sx:SOk x):∃y:Str,nbB [‹scr ns›,‹.int at'›,a2,‹.bool b›,some (.own L),‹.int k›,‹.str x›]=some (.nx [‹scr ns›,‹.int at'›,a2,‹.bool b›,some (.own L),‹.int k›,‹.str y›])/\y.length<=4/\SOk y:=by
 have m3:C6 (.int 3) (.int k)=some (.int ((3*k:Nat):Int)):=L8 (i:=3) (by decide) (by omega)
 obtain⟨d,ed,ld⟩:=B7 ns hn (e:=(at':Int)+3+((3*k:Nat):Int)) (m':=3) (at'+3+3*k) 3 (by omega) rfl (by omega) (by decide)
 obtain⟨d',ed',ld'⟩:=B7 ns hn (e:=(at':Int)+2+((3*k:Nat):Int)) (m':=2) (at'+2+3*k) 2 (by omega) rfl (by omega) (by decide)
 obtain⟨kk,ek,hk'⟩:=cl6 d' ld'
 have sl:=bs5 x none (some (d:Int))
 have rl:=aB2 (slS x none (some (d:Int))) kk hk'
 refine⟨ai4 (slS x none (some (d:Int))) kk,?_,by omega,be4 (bs4 sx _ _) kk hk'⟩
 have a1:aY6 (A1 6) C4 (B5 (A3 A5 (A0 (A1 0) (A0 (A4 A9 (A4 A9 (A1 1) ⇑3) (A4 C6 ⇑3 (A1 5))) (A0 ⇑3 A2))))) [‹scr ns›,‹.int at'›,a2,‹.bool b›,some (.own L),‹.int k›,‹.str x›]=some (.str (slS x none (some (d:Int)))):=by
  have cnd:x.length<=1000/\(slS x none (some (d:Int))).length<=16777216:=⟨by omega,by omega⟩
  wp_walk using evD,aY6,m3,ed,if_pos cnd
 have a2:dIx (qN (A0 ⇑1 (A0 ⇑2 A2))) (A3 A5 (A0 (A1 0) (A0 (A4 A9 (A4 A9 (A1 1) ⇑2) (A4 C6 ⇑3 (A1 5))) (A0 ⇑2 A2)))) [‹scr ns›,‹.int at'›,a2,‹.bool b›,some (.own L),‹.int k›,‹.str x›]=some (.int kk):=by wp_walk using evD,m3,ed',ek
 unfold nbB B2
 rw[ak1 a1 a2,bw2 _ kk hk' (by omega)]
 rfl
theorem ifb(b:Bool) (x y:D):atI [x,y] (if b=true then 1 else 0)=some (if b=true then y else x):=by cases b<;>rfl
theorem bN4(ns:List Int) (at' k:Nat) (hk:k < 14) (a2:Option B) (b:Bool) (L:List D) (hL:L.length<=100) (y:Str) (hy:y.length<=4):nbC [‹scr ns›,‹.int at'›,a2,‹.bool b›,some (.own L),‹.int k›,‹.str y›]=some (.nx [‹scr ns›,‹.int at'›,a2,‹.bool b›,some (.own (L++[.str (nmS b k y)])),‹.int k›,‹.str y›]):=by
 have ec:=bO3 k hk
 have lc:(ltr k).length=1:=rfl
 have c1:=aF4 y (ltr k) (by omega) (by omega)
 have c2:=aF4 (ltr k) y (by omega) (by omega)
 have hl:L.length < 16777216:=by omega
 have e:dIx (qN (A0 (A4 A9 (A1 6) (aa9 (dC (.str "abcdefghijklmn")) (A1 5))) (A0 (A4 A9 (aa9 (dC (.str "abcdefghijklmn")) (A1 5)) (A1 6)) A2))) (v9 (A1 3)) [‹scr ns›,‹.int at'›,a2,‹.bool b›,some (.own L),‹.int k›,‹.str y›]=some (.str (nmS b k y)):=by
  wp_walk using evD,aa9,ec,c1,c2,ifb
  cases b<;>rfl
 unfold nbC S7
 simp only[xg0,xg1,if_pos hl,e,xms,xw0,xw1]
theorem bh7(ns:List Int) (hn:ns.length<=63) (at' many:Nat) (ha:at' < 2 ^ 20) (hm:many<=14):∃L:List D,u9 [scr ns,.int at',.int many]=some (.list L)/\L.length=many/\∃b:Bool,∀i,i < many->∃y,L[i]? = some (.str (nmS b i y))/\SOk y/\y.length<=4:=by
 obtain⟨d,ed,ld⟩:=B7 ns hn (e:=(at':Int)) (m':=2) at' 2 rfl rfl (by omega) (by decide)
 obtain⟨ρ',e,L,a5,a6,hρ,hL,hP⟩:=ad3 (g:=B3 5) (f:=aC4) (h:=fun j:Nat=>PyData.int j) (I:=fun i ρ=>∃(L:List D) (a5 a6:Option B),ρ=[‹scr ns›,‹.int at'›,‹.int many›,‹.bool ((d:Int)==0)›,some (.own L),a5,a6]/\L.length=i/\∀n,n < i->∃y,L[n]? = some (.str (nmS ((d:Int)==0) n y))/\SOk y/\y.length<=4) (List.range many) 0 [‹scr ns›,‹.int at'›,‹.int many›,‹.bool ((d:Int)==0)›,some (.own []),none,none] ⟨[],none,none,rfl,rfl,fun n h=>absurd h (Nat.not_lt_zero n)⟩ (fun j a hj ρ hρ=>by
  obtain⟨L,a5,a6,rfl,hL,hP⟩:=hρ
  obtain⟨hj1,hj2⟩:=List.getElem?_eq_some_iff.mp hj
  rw[List.length_range]at hj1
  rw[List.getElem_range]at hj2
  subst hj2
  refine⟨_,rfl,?_⟩
  simp only[xw0,xw1]
  obtain⟨x,e1,hx,sx⟩:=bN6 ns hn at' j ha (by omega) (‹.int many›) ((d:Int)==0) L a6
  obtain⟨y,e2,hy,sy⟩:=bN5 ns hn at' j ha (by omega) (‹.int many›) ((d:Int)==0) L x hx sx
  have e3:=bN4 ns at' j (by omega) (‹.int many›) ((d:Int)==0) L (by omega) y hy
  have eb:aC4 [‹scr ns›,‹.int at'›,‹.int many›,‹.bool ((d:Int)==0)›,some (.own L),‹.int j›,a6]=some (.nx [‹scr ns›,‹.int at'›,‹.int many›,‹.bool ((d:Int)==0)›,some (.own (L++[.str (nmS ((d:Int)==0) j y)])),‹.int j›,‹.str y›]):=by
   unfold aC4
   rw[A6 e1,A6 e2,e3]
  refine⟨_,eb,L++[.str (nmS ((d:Int)==0) j y)],_,_,rfl,by rw[List.length_append,hL];rfl,fun n hn=>?_⟩
  by_cases q:n < 0+j
  ·obtain⟨z,e1,e2⟩:=hP n q
   exact⟨z,by rw[List.getElem?_append_left (by omega)];exact e1,e2⟩
  ·have:n=L.length:=by omega
   refine⟨y,?_,sy,hy⟩
   rw[this,List.getElem?_append_right (Nat.le_refl _),Nat.sub_self]
   rw[show L.length=j by omega]
   rfl)
 subst hρ
 rw[List.length_range,Nat.zero_add]at hL hP
 refine⟨L,?_,hL,_,hP⟩
 refine C2 (ρ:=[‹scr ns›,‹.int at'›,‹.int many›,none,none,none,none]) rfl ?_
 have rn:G3 (A1 2) [‹scr ns›,‹.int at'›,‹.int many›,‹.bool ((d:Int)==0)›,some (.own []),none,none]=_:=X5 (n:=many) rfl (by omega)
 have s0:(B2 3 (A4 eqD (A3 A5 (A0 (A1 0) (A0 (A1 1) (A0 ⇑2 A2)))) ⇑0)) [‹scr ns›,‹.int at'›,‹.int many›,none,none,none,none]=some (.nx [‹scr ns›,‹.int at'›,‹.int many›,‹.bool ((d:Int)==0)›,none,none,none]):=by simp only[B2,A4,A3,A0,A2,A1,dC,xbs,xms,xg0,xg1,xw0,xw1,ed,n5]
 have s1:(Z6 4 A2) [‹scr ns›,‹.int at'›,‹.int many›,‹.bool ((d:Int)==0)›,none,none,none]=some (.nx [‹scr ns›,‹.int at'›,‹.int many›,‹.bool ((d:Int)==0)›,some (.own []),none,none]):=rfl
 have s2:(S2 (G3 (A1 2)) (B3 5) aC4) [‹scr ns›,‹.int at'›,‹.int many›,‹.bool ((d:Int)==0)›,some (.own []),none,none]=some (.nx [‹scr ns›,‹.int at'›,‹.int many›,‹.bool ((d:Int)==0)›,some (.own L),a5,a6]):=by
  unfold S2
  rw[rn]
  exact e
 have s3:(av8 4 (B0 (A1 4))) [‹scr ns›,‹.int at'›,‹.int many›,‹.bool ((d:Int)==0)›,some (.own L),a5,a6]=some (.rt (.list L)):=rfl
 rw[bl9,A6 s0,A6 s1,A6 s2]
 exact s3
theorem cd5:∀n:Nat,n < 6->∃m:Man,atI ([.str "over", .str "multiply", .str "screen", .str "plus", .str "atop", .str "cut"]:List D) (n:Int)=some (.str m.s)
 | 0,_=>⟨.over,rfl⟩
 | 1,_=>⟨.mult,rfl⟩
 | 2,_=>⟨.screen,rfl⟩
 | 3,_=>⟨.plus,rfl⟩
 | 4,_=>⟨.atop,rfl⟩
 | 5,_=>⟨.cut,rfl⟩
 | n+6,h=>absurd h (by omega)
theorem cl4:∀n:Nat,n < 4->∃m:Man,atI ([.str "over", .str "multiply", .str "screen", .str "plus"]:List D) (n:Int)=some (.str m.s)
 | 0,_=>⟨.over,rfl⟩
 | 1,_=>⟨.mult,rfl⟩
 | 2,_=>⟨.screen,rfl⟩
 | 3,_=>⟨.plus,rfl⟩
 | n+4,h=>absurd h (by omega)
theorem cd6(m:Man):∀n:Nat,n < 4->∃m':Man,atI ([.str m.s,.str "atop", .str m.s,.str "cut"]:List D) (n:Int)=some (.str m'.s)
 | 0,_=>⟨m,rfl⟩
 | 1,_=>⟨.atop,rfl⟩
 | 2,_=>⟨m,rfl⟩
 | 3,_=>⟨.cut,rfl⟩
 | n+4,h=>absurd h (by omega)
theorem ck1:∀n:Nat,n < 3->∃r:Rul,atI ([.str "turn", .str "grey", .str "round"]:List D) (n:Int)=some (.str r.s)
 | 0,_=>⟨.turn,rfl⟩
 | 1,_=>⟨.grey,rfl⟩
 | 2,_=>⟨.round,rfl⟩
 | n+3,h=>absurd h (by omega)
theorem aT5(n:Nat):((n:Int)==0)=decide (n=0):=by
 cases n with
 | zero=>rfl
 | succ n=>rw[decide_eq_false (by omega)];exact beq_eq_false_iff_ne.mpr (by omega)
theorem bq7(n:Nat):(decide ((0:Int) < (n:Int)))=decide (0 < n):=by
 cases n with
 | zero=>rfl
 | succ n=>rw[decide_eq_true (by omega),decide_eq_true (by omega)]
theorem ad1(n:Nat):(1:Int)+(n:Int)=((1+n:Nat):Int):=by omega
def Nd.nm:Nd->D
 | .layer nm ..=>nm
 | .tone nm ..=>nm
 | .group nm ..=>nm
mutual
def Nd.near:Nd->Prop
 | .layer _ _ _ _ lf tp _ w h l kb=>-2<=lf/\lf<=2/\-2<=tp/\tp<=2/\kb<=40/\w<=3/\h<=3/\∀q∈l,q.ok 8
 | .tone ..=>True
 | .group _ _ _ _ ns=>Nd.nears ns
def Nd.nears:List Nd->Prop
 | []=>True
 | n::r=>n.near/\Nd.nears r
end
theorem O4:∀l:List Nd,Nd.nears l↔∀n∈l,n.near
 | []=>by simp[Nd.nears]
 | n::r=>by simp[Nd.nears,O4 r]
theorem aQ1(ns:List Int) (hn:ns.length<=63) (at':Nat) (ha:at' < 2 ^ 19) (nm:D) (m:Man):∃n:Nd,P3 [scr ns,.int at',nm,.str m.s]=some n.d/\n.Ok/\n.dp=0/\n.wg<=40/\n.nm=nm/\n.near:=by
 obtain⟨s,es,hs⟩:=u7 ns at' hn (by omega)
 have es:G7 [scr ns,.int at']=some (fr s):=es
 obtain⟨d3,e3,l3⟩:=B7 ns hn (e:=(at':Int)+3) (m':=6) (at'+3) 6 (by omega) rfl (by omega) (by decide)
 obtain⟨d4,e4,l4⟩:=B7 ns hn (e:=(at':Int)+4) (m':=6) (at'+4) 6 (by omega) rfl (by omega) (by decide)
 obtain⟨d6,e6,l6⟩:=B7 ns hn (e:=(at':Int)+6) (m':=3) (at'+6) 3 (by omega) rfl (by omega) (by decide)
 obtain⟨d7,e7,l7⟩:=B7 ns hn (e:=(at':Int)+7) (m':=3) (at'+7) 3 (by omega) rfl (by omega) (by decide)
 obtain⟨d8,e8,l8⟩:=B7 ns hn (e:=(at':Int)+8) (m':=3) (at'+8) 3 (by omega) rfl (by omega) (by decide)
 obtain⟨d9,e9,l9⟩:=B7 ns hn (e:=(at':Int)+9) (m':=3) (at'+9) 3 (by omega) rfl (by omega) (by decide)
 obtain⟨d10,e10,l10⟩:=B7 ns hn (e:=(at':Int)+10) (m':=4) (at'+10) 4 (by omega) rfl (by omega) (by decide)
 obtain⟨d11,e11,l11⟩:=B7 ns hn (e:=(at':Int)+11) (m':=4) (at'+11) 4 (by omega) rfl (by omega) (by decide)
 obtain⟨d12,e12,l12⟩:=B7 ns hn (e:=(at':Int)+12) (m':=3) (at'+12) 3 (by omega) rfl (by omega) (by decide)
 obtain⟨d5,e5,l5⟩:=B7 ns hn (e:=(at':Int)+5) (m':=3) (at'+5) 3 (by omega) rfl (by omega) (by decide)
 obtain⟨d5',e5',l5'⟩:=B7 ns hn (e:=(at':Int)+5) (m':=6) (at'+5) 6 (by omega) rfl (by omega) (by decide)
 have s0:f9 [‹scr ns›,‹.int at'›,‹nm›,‹.str m.s›,none,none,none,none,none,none,none,none,none]=some (.nx [‹scr ns›,‹.int at'›,‹nm›,‹.str m.s›,‹fr s›,none,none,none,none,none,none,none,none]):=by wp_walk using evD,f9,es
 have s1:f8 [‹scr ns›,‹.int at'›,‹nm›,‹.str m.s›,‹fr s›,none,none,none,none,none,none,none,none]=some (.nx [‹scr ns›,‹.int at'›,‹nm›,‹.str m.s›,‹fr s›,‹.bool (decide (0 < d3))›,none,none,none,none,none,none,none]):=by wp_walk using evD,f8,e3,bq7
 by_cases t4:d4=0
 ·obtain⟨r,er⟩:=ck1 d5 l5
  refine⟨.tone nm r s (decide (0 < d3)),?_,ar3 hs,rfl,by show 6<=40;decide,rfl,by rw[Nd.near];trivial⟩
  have s2:Q6 [‹scr ns›,‹.int at'›,‹nm›,‹.str m.s›,‹fr s›,‹.bool (decide (0 < d3))›,none,none,none,none,none,none,none]=some (.rt (.tuple [.str "tone", nm,.str r.s,fr s,.bool (decide (0 < d3))])):=by wp_walk using evD,Q6,e4,aT5,decide_eq_true t4,e5,er
  refine C2 (ρ:=[‹scr ns›,‹.int at'›,‹nm›,‹.str m.s›,none,none,none,none,none,none,none,none,none]) rfl ?_
  unfold ap0
  rw[A6 s0,A6 s1,D0 s2,Nd.d]
 have s2:Q6 [‹scr ns›,‹.int at'›,‹nm›,‹.str m.s›,‹fr s›,‹.bool (decide (0 < d3))›,none,none,none,none,none,none,none]=some (.nx [‹scr ns›,‹.int at'›,‹nm›,‹.str m.s›,‹fr s›,‹.bool (decide (0 < d3))›,none,none,none,none,none,none,none]):=by wp_walk using evD,Q6,e4,aT5,decide_eq_false t4
 obtain⟨m0,em0⟩:=cd5 d5' l5'
 have s3:f7 [‹scr ns›,‹.int at'›,‹nm›,‹.str m.s›,‹fr s›,‹.bool (decide (0 < d3))›,none,none,none,none,none,none,none]=some (.nx [‹scr ns›,‹.int at'›,‹nm›,‹.str m.s›,‹fr s›,‹.bool (decide (0 < d3))›,‹.str m0.s›,none,none,none,none,none,none]):=by wp_walk using evD,f7,e5',em0
 obtain⟨m1,s4⟩:∃m1:Man,T8 [‹scr ns›,‹.int at'›,‹nm›,‹.str m.s›,‹fr s›,‹.bool (decide (0 < d3))›,‹.str m0.s›,none,none,none,none,none,none]=some (.nx [‹scr ns›,‹.int at'›,‹nm›,‹.str m.s›,‹fr s›,‹.bool (decide (0 < d3))›,‹.str m1.s›,none,none,none,none,none,none]):=by
  by_cases t6:0 < d6
  ·exact⟨m,by wp_walk using evD,T8,e6,bq7,decide_eq_true t6⟩
  ·exact⟨m0,by wp_walk using evD,T8,e6,bq7,decide_eq_false t6⟩
 have s5:f6 [‹scr ns›,‹.int at'›,‹nm›,‹.str m.s›,‹fr s›,‹.bool (decide (0 < d3))›,‹.str m1.s›,none,none,none,none,none,none]=some (.nx [‹scr ns›,‹.int at'›,‹nm›,‹.str m.s›,‹fr s›,‹.bool (decide (0 < d3))›,‹.str m1.s›,‹.int ((1+d7:Nat):Int)›,none,none,none,none,none]):=by wp_walk using evD,f6,e7,ad1
 have s6:c7 [‹scr ns›,‹.int at'›,‹nm›,‹.str m.s›,‹fr s›,‹.bool (decide (0 < d3))›,‹.str m1.s›,‹.int ((1+d7:Nat):Int)›,none,none,none,none,none]=some (.nx [‹scr ns›,‹.int at'›,‹nm›,‹.str m.s›,‹fr s›,‹.bool (decide (0 < d3))›,‹.str m1.s›,‹.int ((1+d7:Nat):Int)›,‹.int ((1+d8:Nat):Int)›,none,none,none,none]):=by wp_walk using evD,c7,e8,ad1
 have s7:c6 [‹scr ns›,‹.int at'›,‹nm›,‹.str m.s›,‹fr s›,‹.bool (decide (0 < d3))›,‹.str m1.s›,‹.int ((1+d7:Nat):Int)›,‹.int ((1+d8:Nat):Int)›,none,none,none,none]=some (.nx [‹scr ns›,‹.int at'›,‹nm›,‹.str m.s›,‹fr s›,‹.bool (decide (0 < d3))›,‹.str m1.s›,‹.int ((1+d7:Nat):Int)›,‹.int ((1+d8:Nat):Int)›,some (.val .none),none,none,none]):=by wp_walk using evD,c6
 have wh:(1+d7)*(1+d8)<=9:=Nat.mul_le_mul (show 1+d7<=3 by omega) (show 1+d8<=3 by omega)
 have mwh:C6 (.int ((1+d7:Nat):Int)) (.int ((1+d8:Nat):Int))=some (.int (((1+d7)*(1+d8):Nat):Int)):=L8 (by omega) (by omega)
 obtain⟨mk,s8,hmk⟩:∃mk:Option (List Rat),T7 [‹scr ns›,‹.int at'›,‹nm›,‹.str m.s›,‹fr s›,‹.bool (decide (0 < d3))›,‹.str m1.s›,‹.int ((1+d7:Nat):Int)›,‹.int ((1+d8:Nat):Int)›,some (.val .none),none,none,none]=some (.nx [‹scr ns›,‹.int at'›,‹nm›,‹.str m.s›,‹fr s›,‹.bool (decide (0 < d3))›,‹.str m1.s›,‹.int ((1+d7:Nat):Int)›,‹.int ((1+d8:Nat):Int)›,‹mkD mk›,none,none,none])/\∀ms,mk=some ms->ms.length=(1+d7)*(1+d8)/\∀r∈ms,Sr 4 r:=by
  by_cases t9:d9=0
  ·have P:∀j,j < 9->∃r:Rat,G7 [scr ns,.int ((at':Int)+20+((3*j:Nat):Int))]=some (fr r)/\IsSh 4 r:=fun j hj=>al3 ns hn (at'+20+3*j) (by omega) (by omega)
   obtain⟨R,hR⟩:=aD6 (x:=(0:Rat)) P
   have c:B6 1 [0,1] (G3 (A4 C6 (A1 7) (A1 8))) (B3 0) E9 (A3 G7 (A0 (A1 1) (A0 (A4 A9 (A4 A9 (A1 2) ⇑20) (A4 C6 ⇑3 (A1 0))) A2))) [‹scr ns›,‹.int at'›,‹nm›,‹.str m.s›,‹fr s›,‹.bool (decide (0 < d3))›,‹.str m1.s›,‹.int ((1+d7:Nat):Int)›,‹.int ((1+d8:Nat):Int)›,some (.val .none),none,none,none]=some ((List.range ((1+d7)*(1+d8))).map fun j=>fr (R j)):=by
    refine aa2 (l:=List.range ((1+d7)*(1+d8))) (h:=fun j:Nat=>PyData.int j) (r:=[‹scr ns›,‹.int at'›]) rfl (X5 ((ak1 rfl rfl).trans mwh) (by omega)) (by rw[List.length_range];omega) fun j hj=>?_
    have hj:=List.mem_range.mp hj
    have m3:C6 (.int 3) (.int j)=some (.int ((3*j:Nat):Int)):=L8 (i:=3) (by decide) (by omega)
    wp_walk using evD,m3,(hR j (by omega)).1
   refine⟨some ((List.range ((1+d7)*(1+d8))).map R),?_,fun ms e=>?_⟩
   ·simp only[T7,sIf,tB2,B2,O6,qN,c,A4,A3,A0,A2,A1,dC,S9,e9,n5,aT5,decide_eq_true t9,J4,xbs,xms,xg0,xg1,xw0,xw1,if_true,xft,if_false,mkD,List.map_map]
    rfl
   ·cases e
    refine⟨by rw[List.length_map,List.length_range],fun r hr=>?_⟩
    obtain⟨j,hj,rfl⟩:=List.mem_map.mp hr
    exact ar3 (hR j (by have:=List.mem_range.mp hj;omega)).2
  ·exact⟨none,by(wp_walk using evD,T7,e9,aT5,decide_eq_false t9,mkD),fun ms e=>by cases e⟩
 have s9:b0 [‹scr ns›,‹.int at'›,‹nm›,‹.str m.s›,‹fr s›,‹.bool (decide (0 < d3))›,‹.str m1.s›,‹.int ((1+d7:Nat):Int)›,‹.int ((1+d8:Nat):Int)›,‹mkD mk›,none,none,none]=some (.nx [‹scr ns›,‹.int at'›,‹nm›,‹.str m.s›,‹fr s›,‹.bool (decide (0 < d3))›,‹.str m1.s›,‹.int ((1+d7:Nat):Int)›,‹.int ((1+d8:Nat):Int)›,‹mkD mk›,‹.int ((d10:Int) - 1)›,none,none]):=by wp_walk using evD,b0,e10
 have s10:W9 [‹scr ns›,‹.int at'›,‹nm›,‹.str m.s›,‹fr s›,‹.bool (decide (0 < d3))›,‹.str m1.s›,‹.int ((1+d7:Nat):Int)›,‹.int ((1+d8:Nat):Int)›,‹mkD mk›,‹.int ((d10:Int) - 1)›,none,none]=some (.nx [‹scr ns›,‹.int at'›,‹nm›,‹.str m.s›,‹fr s›,‹.bool (decide (0 < d3))›,‹.str m1.s›,‹.int ((1+d7:Nat):Int)›,‹.int ((1+d8:Nat):Int)›,‹mkD mk›,‹.int ((d10:Int) - 1)›,‹.int ((d11:Int) - 1)›,none]):=by wp_walk using evD,W9,e11
 obtain⟨w,h,lf,tp,mk',s11,hw,hh,hmk',hof⟩:∃(w h:Nat) (lf tp:Int) (mk':Option (List Rat)),S1 [‹scr ns›,‹.int at'›,‹nm›,‹.str m.s›,‹fr s›,‹.bool (decide (0 < d3))›,‹.str m1.s›,‹.int ((1+d7:Nat):Int)›,‹.int ((1+d8:Nat):Int)›,‹mkD mk›,‹.int ((d10:Int) - 1)›,‹.int ((d11:Int) - 1)›,none]=some (.nx [‹scr ns›,‹.int at'›,‹nm›,‹.str m.s›,‹fr s›,‹.bool (decide (0 < d3))›,‹.str m1.s›,‹.int (w:Nat)›,‹.int (h:Nat)›,‹mkD mk'›,‹.int lf›,‹.int tp›,none])/\(1<=w/\w<=3)/\(1<=h/\h<=3)/\(∀ms,mk'=some ms->ms.length=w*h/\∀r∈ms,Sr 4 r)/\(-2<=lf/\lf<=2/\-2<=tp/\tp<=2):=by
  by_cases t12:d12=0
  ·refine⟨3,3,0,0,none,?_,by decide,by decide,(fun ms e=>by cases e),by decide⟩
   have l5:∀a b c d e:D,([a,b,c,d,e]:List D).length=5:=fun _ _ _ _ _=>rfl
   wp_walk using evD,S1,e12,aT5,decide_eq_true t12,l5,mkD
   rfl
  ·exact⟨1+d7,1+d8,(d10:Int) - 1,(d11:Int) - 1,mk,by(wp_walk using evD,S1,e12,aT5,decide_eq_false t12),by omega,by omega,hmk,by omega⟩
 obtain⟨l,el,S⟩:=bd8 ns hn (e:=(at':Int)+50) (at'+50) w h (by omega) (by omega) hw.1 (by omega) hh.1 (by omega)
 have s12:W8 [‹scr ns›,‹.int at'›,‹nm›,‹.str m.s›,‹fr s›,‹.bool (decide (0 < d3))›,‹.str m1.s›,‹.int (w:Nat)›,‹.int (h:Nat)›,‹mkD mk'›,‹.int lf›,‹.int tp›,none]=some (.nx [‹scr ns›,‹.int at'›,‹nm›,‹.str m.s›,‹fr s›,‹.bool (decide (0 < d3))›,‹.str m1.s›,‹.int (w:Nat)›,‹.int (h:Nat)›,‹mkD mk'›,‹.int lf›,‹.int tp›,‹shD w h l›]):=by wp_walk using evD,W8,el
 refine⟨.layer nm m1 s (decide (0 < d3)) lf tp mk' w h l 32,?_,?_,rfl,Nat.le_refl _,rfl,by rw[Nd.near];exact⟨hof.1,hof.2.1,hof.2.2.1,hof.2.2.2,by decide,by omega,by omega,S.ok⟩⟩
 ·have s13:W7 [‹scr ns›,‹.int at'›,‹nm›,‹.str m.s›,‹fr s›,‹.bool (decide (0 < d3))›,‹.str m1.s›,‹.int (w:Nat)›,‹.int (h:Nat)›,‹mkD mk'›,‹.int lf›,‹.int tp›,‹shD w h l›]=some (.rt (.tuple [.str "layer", nm,.str m1.s,fr s,.bool (decide (0 < d3)),.int lf,.int tp,mkD mk',shD w h l])):=by
   wp_walk using evD,W7
  refine C2 (ρ:=[‹scr ns›,‹.int at'›,‹nm›,‹.str m.s›,none,none,none,none,none,none,none,none,none]) rfl ?_
  unfold ap0
  rw[A6 s0,A6 s1,A6 s2,A6 s3,A6 s4,A6 s5,A6 s6,A6 s7,A6 s8,A6 s9,A6 s10,A6 s11,A6 s12,s13,Nd.d]
 ·rw[Nd.Ok]
  exact⟨ar3 hs,⟨S.w1,S.w8,S.h1,S.h8,S.len,fun q hq=>(S.ok q hq).mono (by decide)⟩,fun q hq=>bG0 (S.ok q hq),hmk',by decide⟩
theorem G5:∀l:List Nd,Nd.ds l=l.map Nd.d
 | []=>by rw[Nd.ds];rfl
 | n::r=>by rw[Nd.ds,G5 r];rfl
theorem Q2:∀l:List Nd,Nd.Oks l↔∀n∈l,n.Ok
 | []=>by simp[Nd.Oks]
 | n::r=>by simp[Nd.Oks,Q2 r]
theorem W6:∀a b:List Nd,Nd.wgs (a++b)=Nd.wgs a+Nd.wgs b
 | [],b=>by simp[Nd.wgs]
 | n::a,b=>by rw[xca,Nd.wgs,Nd.wgs,W6 a b];omega
theorem G6:∀a b:List Nd,Nd.dps (a++b)=max (Nd.dps a) (Nd.dps b)
 | [],b=>by simp[Nd.dps]
 | n::a,b=>by rw[xca,Nd.dps,Nd.dps,G6 a b,Nat.max_assoc]
theorem bc9:∀l:List Nd,(∀n∈l,n.wg<=40)->Nd.wgs l<=40*l.length
 | [],_=>by simp[Nd.wgs]
 | n::l,h=>by
  have a:=h n (List.mem_cons_self ..)
  have b:=bc9 l fun m hm=>h m (xmm _ hm)
  rw[Nd.wgs,List.length_cons];omega
theorem aE1:∀l:List Nd,(∀n∈l,n.dp=0)->Nd.dps l=0
 | [],_=>by simp[Nd.dps]
 | n::l,h=>by
  have a:=h n (List.mem_cons_self ..)
  have b:=aE1 l fun m hm=>h m (xmm _ hm)
  rw[Nd.dps];omega
mutual
def Nd.nms:Nd->List D
 | .layer nm _ _ _ _ _ _ _ _ _ _=>[nm]
 | .tone nm _ _ _=>[nm]
 | .group nm _ _ _ ns=>nm::Nd.nmss ns
def Nd.nmss:List Nd->List D
 | []=>[]
 | n::r=>n.nms++Nd.nmss r
end
theorem C3:∀a b:List Nd,Nd.nmss (a++b)=Nd.nmss a++Nd.nmss b
 | [],b=>by simp[Nd.nmss]
 | n::a,b=>by rw[xca,Nd.nmss,Nd.nmss,C3 a b,List.append_assoc]
mutual
def Nd.thin:Nd->Prop
 | .layer ..=>True
 | .tone ..=>True
 | .group _ _ _ _ ns=>ns.length<=1000/\Nd.thins ns
def Nd.thins:List Nd->Prop
 | []=>True
 | n::r=>n.thin/\Nd.thins r
end
theorem O2:∀l:List Nd,Nd.thins l↔∀n∈l,n.thin
 | []=>by simp[Nd.thins]
 | n::r=>by simp[Nd.thins,O2 r]
def ai7(l:List Nd) (a c:Nat) (g:List Nd->Nd):List Nd:=l.take a++[g ((l.drop a).take (c - a))]++l.drop c
theorem bJ2(l:List Nd) {a c:Nat}(h:a<=c):l.take a++(l.drop a).take (c - a)++l.drop c=l:=by
 have e:l.drop c=(l.drop a).drop (c - a):=by rw[List.drop_drop];congr 1;omega
 rw[e,List.append_assoc,List.take_append_drop,List.take_append_drop]
theorem bB7{ds:List D}{a b:Nat}(ha:a<=ds.length):O9 ds (some (a:Int)) (some (b:Int))=(ds.drop a).take (min b ds.length - a)/\∀es:List D,al1 ds (some (a:Int)) (some (b:Int)) es=ds.take a++es++ds.drop (max a (min b ds.length)):=by
 have h1:HT.sIx ds.length 0 (some (a:Int))=a:=by rw[HT.sIx_nat];omega
 have h2:HT.sIx ds.length ds.length (some (b:Int))=min b ds.length:=HT.sIx_nat ..
 refine⟨?_,fun es=>?_⟩
 ·unfold O9;rw[h1,h2]
 ·unfold al1;rw[h1,h2]
theorem bm4(ns:List Int) (hn:ns.length<=63) (at' most k:Nat) (ha:at' < 2 ^ 18) (hk:k < 2) (hmost:most<=6) (N:List D) (hN:most+2<=N.length) (m:Man) (l:List Nd) (hl:l.length<=100) (a5 a8 a9 a10 a11 a12:Option B) :
  ∃(a c:Nat) (nm:D) (m':Man) (s:Rat) (sh:Bool) (b8 b9 b10 b11 b12:Option B),aR2 [‹scr ns›,‹.int at'›,‹.int most›,‹.list N›,‹.str m.s›,a5,some (.own (Nd.ds l)),‹.int k›,a8,a9,a10,a11,a12]=some (.nx [‹scr ns›,‹.int at'›,‹.int most›,‹.list N›,‹.str m.s›,a5,some (.own (Nd.ds (ai7 l a c (Nd.group nm m' s sh)))),‹.int k›,b8,b9,b10,b11,b12])/\a<=c/\c<=l.length/\IsSh 4 s/\nm=N.getD (most+k) .none:=by
 have m5:C6 (.int 5) (.int k)=some (.int ((5*k:Nat):Int)):=L8 (i:=5) (by decide) (by omega)
 have hds:(Nd.ds l).length=l.length:=by rw[G5,List.length_map]
 obtain⟨f,ef,lf⟩:=B7 ns hn (e:=(at':Int)+3+((5*k:Nat):Int)) (m':=(((Nd.ds l).length:Nat):Int)+1) (at'+3+5*k) (l.length+1) (by omega) (by rw[hds];omega) (by omega) (by omega)
 obtain⟨d,ed,ld⟩:=B7 ns hn (e:=(at':Int)+4+((5*k:Nat):Int)) (m':=3) (at'+4+5*k) 3 (by omega) rfl (by omega) (by decide)
 obtain⟨s0,es0,hs0⟩:=al3 ns hn (e:=(at':Int)+5+((5*k:Nat):Int)) (at'+5+5*k) (by omega) (by omega)
 obtain⟨d6,e6,l6⟩:=B7 ns hn (e:=(at':Int)+6+((5*k:Nat):Int)) (m':=2) (at'+6+5*k) 2 (by omega) rfl (by omega) (by decide)
 obtain⟨d7,e7,l7⟩:=B7 ns hn (e:=(at':Int)+7+((5*k:Nat):Int)) (m':=4) (at'+7+5*k) 4 (by omega) rfl (by omega) (by decide)
 obtain⟨d14,e14,l14⟩:=B7 ns hn (e:=(at':Int)+14+(k:Int)) (m':=7) (at'+14+k) 7 (by omega) rfl (by omega) (by decide)
 obtain⟨m',em'⟩:=cd6 m d7 l7
 obtain⟨s,est,hs⟩:∃s:Rat,atI ([.tuple [.int 1,.int 1],fr s0]:List D) (d6:Int)=some (fr s)/\IsSh 4 s:=by
  rcases(show d6=0\/d6=1 by omega) with rfl|rfl
  ·exact⟨1,rfl,Bd.one.mono (by decide),Rat.le_refl⟩
  ·exact⟨s0,rfl,hs0⟩
 obtain⟨nm,enm,hnm⟩:∃nm,atI N ((most:Int)+(k:Int))=some nm/\nm=N.getD (most+k) .none:=by
  unfold atI
  rw[aJ7 (by omega) (by omega),xbs]
  have h':((most:Int)+(k:Int)).toNat=most+k:=by omega
  rw[h']
  exact⟨N[most+k]'(by omega),List.getElem?_eq_getElem (by omega),by rw[List.getD_eq_getElem?_getD,List.getElem?_eq_getElem (by omega)];rfl⟩
 refine⟨f,max f (min (f+d) l.length),nm,m',s,decide (0 < d14),?_⟩
 have s0:gb0 [‹scr ns›,‹.int at'›,‹.int most›,‹.list N›,‹.str m.s›,a5,some (.own (Nd.ds l)),‹.int k›,a8,a9,a10,a11,a12]=some (.nx [‹scr ns›,‹.int at'›,‹.int most›,‹.list N›,‹.str m.s›,a5,some (.own (Nd.ds l)),‹.int k›,‹.int f›,a9,a10,a11,a12]):=by wp_walk using evD,gb0,m5,ef
 have fd:(f:Int)+(d:Int)=((f+d:Nat):Int):=by omega
 have s1:gb1 [‹scr ns›,‹.int at'›,‹.int most›,‹.list N›,‹.str m.s›,a5,some (.own (Nd.ds l)),‹.int k›,‹.int f›,a9,a10,a11,a12]=some (.nx [‹scr ns›,‹.int at'›,‹.int most›,‹.list N›,‹.str m.s›,a5,some (.own (Nd.ds l)),‹.int k›,‹.int f›,‹.int ((f+d:Nat):Int)›,a10,a11,a12]):=by wp_walk using evD,gb1,m5,ed,fd
 have s2:gb2 [‹scr ns›,‹.int at'›,‹.int most›,‹.list N›,‹.str m.s›,a5,some (.own (Nd.ds l)),‹.int k›,‹.int f›,‹.int ((f+d:Nat):Int)›,a10,a11,a12]=some (.nx [‹scr ns›,‹.int at'›,‹.int most›,‹.list N›,‹.str m.s›,a5,some (.own (Nd.ds l)),‹.int k›,‹.int f›,‹.int ((f+d:Nat):Int)›,‹fr s›,a11,a12]):=by wp_walk using evD,gb2,m5,es0,e6,est
 have s3:gb3 [‹scr ns›,‹.int at'›,‹.int most›,‹.list N›,‹.str m.s›,a5,some (.own (Nd.ds l)),‹.int k›,‹.int f›,‹.int ((f+d:Nat):Int)›,‹fr s›,a11,a12]=some (.nx [‹scr ns›,‹.int at'›,‹.int most›,‹.list N›,‹.str m.s›,a5,some (.own (Nd.ds l)),‹.int k›,‹.int f›,‹.int ((f+d:Nat):Int)›,‹fr s›,‹.str m'.s›,a12]):=by wp_walk using evD,gb3,m5,e7,em'
 have s4:gb4 [‹scr ns›,‹.int at'›,‹.int most›,‹.list N›,‹.str m.s›,a5,some (.own (Nd.ds l)),‹.int k›,‹.int f›,‹.int ((f+d:Nat):Int)›,‹fr s›,‹.str m'.s›,a12]=some (.nx [‹scr ns›,‹.int at'›,‹.int most›,‹.list N›,‹.str m.s›,a5,some (.own (Nd.ds l)),‹.int k›,‹.int f›,‹.int ((f+d:Nat):Int)›,‹fr s›,‹.str m'.s›,‹.tuple [.str "group", nm,.str m'.s,fr s,.bool (decide (0 < d14))]›]):=by wp_walk using evD,gb4,enm,e14,bq7
 obtain⟨q1,q2⟩:=bB7 (ds:=Nd.ds l) (a:=f) (b:=f+d) (by omega)
 have mid:((Nd.ds l).drop f).take (min (f+d) (Nd.ds l).length - f)=Nd.ds ((l.drop f).take (max f (min (f+d) l.length) - f)):=by
  rw[hds,G5,G5,← List.map_drop,← List.map_take]
  congr 2;omega
 have s5:gb5 [‹scr ns›,‹.int at'›,‹.int most›,‹.list N›,‹.str m.s›,a5,some (.own (Nd.ds l)),‹.int k›,‹.int f›,‹.int ((f+d:Nat):Int)›,‹fr s›,‹.str m'.s›,‹.tuple [.str "group", nm,.str m'.s,fr s,.bool (decide (0 < d14))]›]=some (.nx [‹scr ns›,‹.int at'›,‹.int most›,‹.list N›,‹.str m.s›,a5,some (.own (Nd.ds (ai7 l f (max f (min (f+d) l.length)) (Nd.group nm m' s (decide (0 < d14)))))),‹.int k›,‹.int f›,‹.int ((f+d:Nat):Int)›,‹fr s›,‹.str m'.s›,‹.tuple [.str "group", nm,.str m'.s,fr s,.bool (decide (0 < d14))]›]):=by
  have x1:aY7 (A7 6) (B5 (A1 8)) (B5 (A1 9)) [‹scr ns›,‹.int at'›,‹.int most›,‹.list N›,‹.str m.s›,a5,some (.own (Nd.ds l)),‹.int k›,‹.int f›,‹.int ((f+d:Nat):Int)›,‹fr s›,‹.str m'.s›,‹.tuple [.str "group", nm,.str m'.s,fr s,.bool (decide (0 < d14))]›]=some (.list (Nd.ds ((l.drop f).take (max f (min (f+d) l.length) - f)))):=by rw[← mid,← q1];rfl
  have x2:(A0 (A4 A9 (A1 12) (B1 (A0 (O6 (qE (aY7 (A7 6) (B5 (A1 8)) (B5 (A1 9))))) A2))) A2) [‹scr ns›,‹.int at'›,‹.int most›,‹.list N›,‹.str m.s›,a5,some (.own (Nd.ds l)),‹.int k›,‹.int f›,‹.int ((f+d:Nat):Int)›,‹fr s›,‹.str m'.s›,‹.tuple [.str "group", nm,.str m'.s,fr s,.bool (decide (0 < d14))]›]=some [Nd.d (Nd.group nm m' s (decide (0 < d14)) ((l.drop f).take (max f (min (f+d) l.length) - f)))]:=by
   have cc:∀a b c d e g:D,A9 (.tuple [a,b,c,d,e]) (.tuple [g])=some (.tuple [a,b,c,d,e,g]):=fun _ _ _ _ _ _=>rfl
   simp only[A0,A2,A4,B1,O6,qE,x1,j8,A1,xbs,xms,xg0,xg1,xft,if_false,cc,Nd.d]
  have sz:(Nd.ds l).length+1<=16777216:=by omega
  have fin:al1 (Nd.ds l) (some (f:Int)) (some ((f+d:Nat):Int)) [Nd.d (Nd.group nm m' s (decide (0 < d14)) ((l.drop f).take (max f (min (f+d) l.length) - f)))]=Nd.ds (ai7 l f (max f (min (f+d) l.length)) (Nd.group nm m' s (decide (0 < d14)))):=by
   rw[q2,hds]
   unfold ai7
   rw[G5,G5,List.map_append,List.map_append,List.map_take,List.map_drop]
   rfl
  rw[← fin]
  unfold gb5 bd9
  rw[x2,xbs]
  show(if(Nd.ds l).length+1<=16777216 then some (Fl.nx _) else none)=_
  rw[if_pos sz]
  rfl
 refine⟨‹.int f›,‹.int ((f+d:Nat):Int)›,‹fr s›,‹.str m'.s›,‹.tuple [.str "group", nm,.str m'.s,fr s,.bool (decide (0 < d14))]›,?_,by omega,by omega,hs,hnm⟩
 unfold aR2
 rw[A6 s0,A6 s1,A6 s2,A6 s3,A6 s4,s5]
structure NOk (N:List D) (i:Nat) (most:Nat) (l:List Nd):Prop where
 ok:Nd.Oks l
 wg:Nd.wgs l<=40*most+5*i
 dp:Nd.dps l<=i
 len:l.length<=most+i
 th:Nd.thins l
 nr:Nd.nears l
 ix:∃is:List Nat,Nd.nmss l=is.map (fun j=>N.getD j .none)/\is.Nodup/\∀j∈is,j < most+i
theorem NOk.grp{N:List D}{i most:Nat}{l:List Nd}(h:NOk N i most l) {a c:Nat}{nm:D}{m:Man}{s:Rat}{sh:Bool}(ac:a<=c) (hs:IsSh 4 s) (hnm:nm=N.getD (most+i) .none) (h100:l.length<=100):NOk N (i+1) most (ai7 l a c (Nd.group nm m s sh)):=by
 have e:=bJ2 l ac
 have w1:=congrArg Nd.wgs e
 have w2:=congrArg Nd.dps e
 rw[W6,W6]at w1
 rw[G6,G6]at w2
 have hw:=h.wg
 have hd:=h.dp
 refine⟨?_,?_,?_,?_,?_,?_,?_⟩
 ·rw[Q2]
  have ok:=(Q2 l).mp h.ok
  intro n hn
  unfold ai7 at hn
  rcases List.mem_append.mp hn with hn|hn
  ·rcases List.mem_append.mp hn with hn|hn
   ·exact ok n (List.mem_of_mem_take hn)
   ·rw[List.mem_singleton.mp hn]
    rw[Nd.Ok]
    exact⟨ar3 hs,(Q2 _).mpr fun n' hn'=>ok n' (List.mem_of_mem_drop (List.mem_of_mem_take hn'))⟩
  ·exact ok n (List.mem_of_mem_drop hn)
 ·unfold ai7
  rw[W6,W6]
  simp only[Nd.wgs,Nd.wg]
  omega
 ·unfold ai7
  rw[G6,G6]
  simp only[Nd.dps,Nd.dp]
  omega
 ·unfold ai7
  rw[List.length_append,List.length_append,List.length_take,List.length_drop,List.length_singleton]
  have:=h.len
  omega
 ·rw[O2]
  have th:=(O2 l).mp h.th
  intro n hn
  unfold ai7 at hn
  rcases List.mem_append.mp hn with hn|hn
  ·rcases List.mem_append.mp hn with hn|hn
   ·exact th n (List.mem_of_mem_take hn)
   ·rw[List.mem_singleton.mp hn,Nd.thin]
    exact⟨Nat.le_trans (List.length_take_le' ..) (by rw[List.length_drop];omega),(O2 _).mpr fun n' hn'=>th n' (List.mem_of_mem_drop (List.mem_of_mem_take hn'))⟩
  ·exact th n (List.mem_of_mem_drop hn)
 ·rw[O4]
  have th:=(O4 l).mp h.nr
  intro n hn
  unfold ai7 at hn
  rcases List.mem_append.mp hn with hn|hn
  ·rcases List.mem_append.mp hn with hn|hn
   ·exact th n (List.mem_of_mem_take hn)
   ·rw[List.mem_singleton.mp hn,Nd.near]
    exact(O4 _).mpr fun n' hn'=>th n' (List.mem_of_mem_drop (List.mem_of_mem_take hn'))
  ·exact th n (List.mem_of_mem_drop hn)
 ·obtain⟨is,e1,e2,e3⟩:=h.ix
  have w3:=congrArg Nd.nmss e
  rw[C3,C3,e1]at w3
  obtain⟨i12,i3,q1,q2,q3⟩:=List.map_eq_append_iff.mp w3.symm
  obtain⟨i1,i2,p1,p2,p3⟩:=List.map_eq_append_iff.mp q2
  subst p1 q1
  refine⟨i1++((most+i)::i2)++i3,?_,?_,?_⟩
  ·unfold ai7
   rw[C3,C3,← q3,← p2]
   simp only[Nd.nmss,Nd.nms,List.append_nil,List.map_append,xmc,p3,hnm]
  ·have pm:(i1++((most+i)::i2)++i3).Perm ((most+i)::(i1++i2++i3)):=by
    rw[List.append_assoc,xca,List.append_assoc i1 i2 i3]
    exact List.perm_middle
   rw[pm.nodup_iff,List.nodup_cons]
   exact⟨fun z=>by have:=e3 _ z;omega,e2⟩
  ·intro j hj
   have:j=most+i\/j∈i1++i2++i3:=by
    simp only[List.mem_append,List.mem_cons]at hj ⊢
    rcases hj with(h|h|h)|h
    ·exact .inr (.inl (.inl h))
    ·exact .inl h
    ·exact .inr (.inl (.inr h))
    ·exact .inr (.inr h)
   rcases this with rfl|h
   ·omega
   ·have:=e3 j h;omega
theorem bh4(ns:List Int) (hn:ns.length<=63) (at' most:Nat) (ha:at' < 2 ^ 18) (hmost:most<=6) (N:List D) (hN:most+2<=N.length):∃l:List Nd,ag0 [scr ns,.int at',.int most,.list N]=some ↥l/\NOk N 2 most l:=by
 obtain⟨d0,e0,l0⟩:=B7 ns hn (e:=(at':Int)) (m':=4) at' 4 rfl rfl (by omega) (by decide)
 obtain⟨d1,e1,l1⟩:=B7 ns hn (e:=(at':Int)+1) (m':=(most:Int)+1) (at'+1) (most+1) (by omega) (by omega) (by omega) (by omega)
 obtain⟨d2,e2,l2⟩:=B7 ns hn (e:=(at':Int)+2) (m':=3) (at'+2) 3 (by omega) rfl (by omega) (by decide)
 obtain⟨m,em⟩:=cl4 d0 l0
 have P:∀j,j < d1->∃n:Nd,A3 P3 (A0 (A1 1) (A0 (A4 A9 (A4 A9 (A1 4) ⇑20) (A4 C6 ⇑170 (A1 0))) (A0 (dIx (A7 3) (A1 0)) (A0 (A1 2) A2)))) [‹.int (j:Nat)›,‹scr ns›,‹.str m.s›,‹.list N›,‹.int at'›]=some n.d/\n.Ok/\n.dp=0/\n.wg<=40/\n.nm=N.getD j .none/\n.near:=fun j hj=>by
  have m170:C6 (.int 170) (.int j)=some (.int ((170*j:Nat):Int)):=L8 (i:=170) (by decide) (by omega)
  have en:atI N (j:Int)=some (N[j]'(by omega)):=by
   unfold atI
   rw[aJ7 (by omega) (by omega),xbs,Int.toNat_natCast]
   exact List.getElem?_eq_getElem (by omega)
  obtain⟨n,en',hn'⟩:=aQ1 ns hn (at'+20+170*j) (by omega) (N[j]'(by omega)) m
  have ei:(at':Int)+20+((170*j:Nat):Int)=((at'+20+170*j:Nat):Int):=by omega
  refine⟨n,?_,hn'.1,hn'.2.1,hn'.2.2.1,by rw[hn'.2.2.2.1,List.getD_eq_getElem?_getD,List.getElem?_eq_getElem (by omega)];rfl,hn'.2.2.2.2⟩
  wp_walk using evD,m170,en,ei,en'
 obtain⟨f,hf⟩:=aD6 (x:=Nd.tone .none .turn 0 true) P
 have g0:gn0 [‹scr ns›,‹.int at'›,‹.int most›,‹.list N›,none,none,none,none,none,none,none,none,none]=some (.nx [‹scr ns›,‹.int at'›,‹.int most›,‹.list N›,‹.str m.s›,none,none,none,none,none,none,none,none]):=by wp_walk using evD,gn0,e0,em
 have g1:gn1 [‹scr ns›,‹.int at'›,‹.int most›,‹.list N›,‹.str m.s›,none,none,none,none,none,none,none,none]=some (.nx [‹scr ns›,‹.int at'›,‹.int most›,‹.list N›,‹.str m.s›,‹.int d1›,none,none,none,none,none,none,none]):=by wp_walk using evD,gn1,e1
 have g2:gn2 [‹scr ns›,‹.int at'›,‹.int most›,‹.list N›,‹.str m.s›,‹.int d1›,none,none,none,none,none,none,none]=some (.nx [‹scr ns›,‹.int at'›,‹.int most›,‹.list N›,‹.str m.s›,‹.int d1›,some (.own (Nd.ds ((List.range d1).map f))),none,none,none,none,none,none]):=by
  have c:B6 1 [0,4,3,1] (G3 (A1 5)) (B3 0) E9 (A3 P3 (A0 (A1 1) (A0 (A4 A9 (A4 A9 (A1 4) ⇑20) (A4 C6 ⇑170 (A1 0))) (A0 (dIx (A7 3) (A1 0)) (A0 (A1 2) A2))))) [‹scr ns›,‹.int at'›,‹.int most›,‹.list N›,‹.str m.s›,‹.int d1›,none,none,none,none,none,none,none]=some ((List.range d1).map fun j=>(f j).d) :=
   aa2 (l:=List.range d1) (h:=fun j:Nat=>PyData.int j) (r:=[‹scr ns›,‹.str m.s›,‹.list N›,‹.int at'›]) rfl (X5 (n:=d1) rfl (by omega)) (by rw[List.length_range];omega) fun j hj=>(hf j (List.mem_range.mp hj)).1
  unfold gn2 Z6
  rw[c,G5,List.map_map]
  rfl
 have V3:NOk N 0 most ((List.range d1).map f):=by
  refine⟨(Q2 _).mpr fun n h=>?_,?_,?_,?_,(O2 _).mpr fun n h=>?_,(O4 _).mpr fun n h=>?_,List.range d1,?_,List.nodup_range,fun j hj=>by have:=List.mem_range.mp hj;omega⟩
  ·obtain⟨j,hj,rfl⟩:=List.mem_map.mp h
   exact(hf j (List.mem_range.mp hj)).2.1
  ·have:=bc9 ((List.range d1).map f) fun n h=>by
    obtain⟨j,hj,rfl⟩:=List.mem_map.mp h
    exact(hf j (List.mem_range.mp hj)).2.2.2.1
   rw[List.length_map,List.length_range]at this
   omega
  ·rw[aE1 _ fun n h=>by
    obtain⟨j,hj,rfl⟩:=List.mem_map.mp h
    exact(hf j (List.mem_range.mp hj)).2.2.1]
   exact Nat.le_refl _
  ·rw[List.length_map,List.length_range];omega
  ·obtain⟨j,hj,rfl⟩:=List.mem_map.mp h
   have:=(hf j (List.mem_range.mp hj)).2.2.1
   cases q:f j with
   | group=>rw[q,Nd.dp]at this;omega
   | layer=>rw[Nd.thin];trivial
   | tone=>rw[Nd.thin];trivial
  ·obtain⟨j,hj,rfl⟩:=List.mem_map.mp h
   exact(hf j (List.mem_range.mp hj)).2.2.2.2.2
  ·have key:∀is:List Nat,(∀j∈is,j < d1)->Nd.nmss (is.map f)=is.map fun j=>N.getD j .none:=by
    intro is
    induction is with
    | nil=>intro _;simp[Nd.nmss]
    | cons j is ih =>
     intro hj
     have a:=hf j (hj j (List.mem_cons_self ..))
     rw[xmc,Nd.nmss,ih fun i hi=>hj i (xmm _ hi),xmc,← a.2.2.2.2.1]
     cases q:f j with
     | group=>have:=a.2.2.1;rw[q,Nd.dp]at this;omega
     | layer=>simp[Nd.nms,Nd.nm]
     | tone=>simp[Nd.nms,Nd.nm]
   exact key _ fun j hj=>List.mem_range.mp hj
 obtain⟨ρ',e3,l,b7,b8,b9,b10,b11,b12,hρ,hl⟩:=ad3 (g:=B3 7) (f:=aR2) (h:=fun j:Nat=>PyData.int j) (I:=fun i ρ=>∃(l:List Nd) (b7 b8 b9 b10 b11 b12:Option B),ρ=[‹scr ns›,‹.int at'›,‹.int most›,‹.list N›,‹.str m.s›,‹.int d1›,some (.own (Nd.ds l)),b7,b8,b9,b10,b11,b12]/\NOk N i most l) (List.range d2) 0 [‹scr ns›,‹.int at'›,‹.int most›,‹.list N›,‹.str m.s›,‹.int d1›,some (.own (Nd.ds ((List.range d1).map f))),none,none,none,none,none,none] ⟨_,_,_,_,_,_,_,rfl,V3⟩ (fun j a hj ρ hρ=>by
  obtain⟨l,b7,b8,b9,b10,b11,b12,rfl,hl⟩:=hρ
  obtain⟨hj1,hj2⟩:=List.getElem?_eq_some_iff.mp hj
  rw[List.length_range]at hj1
  rw[List.getElem_range]at hj2
  subst hj2
  refine⟨_,rfl,?_⟩
  simp only[xw0,xw1]
  have hll:=hl.len
  obtain⟨a,c,nm,m',s,sh,c8,c9,c10,c11,c12,eb,ac,cl,hs,hnm⟩:=bm4 ns hn at' most j ha (by omega) hmost N hN m l (by omega) (‹.int d1›) b8 b9 b10 b11 b12
  exact⟨_,eb,_,_,_,_,_,_,_,rfl,hl.grp ac hs (by rw[hnm,Nat.zero_add]) (by omega)⟩)
 subst hρ
 rw[List.length_range,Nat.zero_add]at hl
 refine⟨l,?_,hl.ok,by have:=hl.wg;omega,by have:=hl.dp;omega,by have:=hl.len;omega,hl.th,hl.nr,by
  obtain⟨is,q1,q2,q3⟩:=hl.ix
  exact⟨is,q1,q2,fun j hj=>by have:=q3 j hj;omega⟩⟩
 have rn:G3 (A3 A5 (A0 (A1 0) (A0 (A4 A9 (A1 1) ⇑2) (A0 ⇑3 A2)))) [‹scr ns›,‹.int at'›,‹.int most›,‹.list N›,‹.str m.s›,‹.int d1›,some (.own (Nd.ds ((List.range d1).map f))),none,none,none,none,none,none]=_:=X5 (n:=d2) (by wp_walk using evD,e2) (by omega)
 have g3:gn3 [‹scr ns›,‹.int at'›,‹.int most›,‹.list N›,‹.str m.s›,‹.int d1›,some (.own (Nd.ds ((List.range d1).map f))),none,none,none,none,none,none]=some (.nx [‹scr ns›,‹.int at'›,‹.int most›,‹.list N›,‹.str m.s›,‹.int d1›,some (.own (Nd.ds l)),b7,b8,b9,b10,b11,b12]):=by
  unfold gn3 S2
  rw[rn]
  exact e3
 have g4:gn4 [‹scr ns›,‹.int at'›,‹.int most›,‹.list N›,‹.str m.s›,‹.int d1›,some (.own (Nd.ds l)),b7,b8,b9,b10,b11,b12]=some (.rt ↥l):=rfl
 refine C2 (ρ:=[‹scr ns›,‹.int at'›,‹.int most›,‹.list N›,none,none,none,none,none,none,none,none,none]) rfl ?_
 rw[bl8,A6 g0,A6 g1,A6 g2,A6 g3]
 exact g4
def P4(w h:Nat) (l:List Nd):D:=.tuple [.int w,.int h,↥l]
theorem aI4(ns:List Int) (hn:ns.length<=63) (at' most:Nat) (ha:at' < 2 ^ 17) (hmost:most<=6) (N:List D) (hN:most+2<=N.length):∃(w h:Nat) (l:List Nd),U8 [scr ns,.int at',.int most,.list N]=some (P4 w h l)/\NOk N 2 most l/\(1<=w/\w<=3)/\(1<=h/\h<=3):=by
 obtain⟨d0,e0,l0⟩:=B7 ns hn (e:=(at':Int)) (m':=3) at' 3 rfl rfl (by omega) (by decide)
 obtain⟨d1,e1,l1⟩:=B7 ns hn (e:=(at':Int)+1) (m':=3) (at'+1) 3 (by omega) rfl (by omega) (by decide)
 obtain⟨l,el,hl⟩:=bh4 ns hn (at'+2) most (by omega) hmost N hN
 have e2:(at':Int)+2=((at'+2:Nat):Int):=by omega
 refine⟨1+d0,1+d1,l,?_,hl,by omega,by omega⟩
 refine C2 (ρ:=[‹scr ns›,‹.int at'›,‹.int most›,‹.list N›,none,none]) rfl ?_
 wp_walk using evD,ai0,e0,e1,ad1,e2,el,P4
theorem U9(n:Nd):n.nm∈n.nms:=by cases n<;>simp[Nd.nm,Nd.nms]
theorem aj8{n:Nd}{l:List Nd}(h:n∈l) {d:D}(hd:d∈n.nms):d∈Nd.nmss l:=by
 obtain⟨a,b,rfl⟩:=List.append_of_mem h
 rw[C3,Nd.nmss]
 simp[hd]
def M0(d:D):Prop:=∃s:Str,d=.str s/\SOk s
def same(a b:D):Bool:=@decide (a=b) (Classical.propDecidable _)
theorem J9(a:D):same a a=true:=@decide_eq_true _ (Classical.propDecidable _) rfl
theorem N6{a b:D}(h:a≠b):same a b=false:=@decide_eq_false _ (Classical.propDecidable _) h
def w4(d:D):Prop:=∃s:Str,d=.str s/\PyData.canLay0 (.str s)=true
theorem M0.l{d:D}(h:M0 d):w4 d:=by
 obtain⟨s,rfl,hs⟩:=h
 exact⟨s,rfl,hs.ok⟩
theorem bU8{a b:D}(ha:M0 a) (hb:w4 b):eqD a b=some (.bool (same a b)):=by
 obtain⟨s,rfl,hs⟩:=ha
 obtain⟨t,rfl,ht⟩:=hb
 refine F1 hs.ok ht ?_
 by_cases e:s=t
 ·subst e;rw[J9];simp
 ·rw[N6 (fun z=>e (by cases z;rfl))];simp[e]
theorem cf9{a b:D}(ha:M0 a) (hb:M0 b):eqD a b=some (.bool (same a b)):=bU8 ha hb.l
theorem name_of(n:Nd):Q0 [n.d]=some n.nm:=by cases n<;>(rw[Nd.d];rfl)
theorem bn8(l:List Nd) (j:Nat):(Nd.ds l)[j]? = (l[j]?).map Nd.d:=by rw[G5,List.getElem?_map]
theorem aD4(n:Nd):Q1 [n.d]=some (.bool (match n with | .group ..=>true|_=>false)):=by
 have e_tg:eqD (.str "tone") (.str "group")=some (.bool false):=F1z
 cases n with
 | layer nm m s sh lf tp mk w h l kb=>rw[Nd.d];exact C2 (ρ:=[‹.tuple [.str "layer", nm,.str m.s,fr s,.bool sh,.int lf,.int tp,mkD mk,shD w h l]›]) rfl (congrArg (Option.map Fl.rt) aX1)
 | tone nm r s sh=>rw[Nd.d];exact C2 (ρ:=[‹.tuple [.str "tone", nm,.str r.s,fr s,.bool sh]›]) rfl (congrArg (Option.map Fl.rt) e_tg)
 | group nm m s sh ns=>rw[Nd.d];exact C2 (ρ:=[‹.tuple [.str "group", nm,.str m.s,fr s,.bool sh,↥ns]›]) rfl (congrArg (Option.map Fl.rt) aX2)
theorem ck9(ds:List D):am0 (.tuple ds) .none=some (.bool true):=rfl
theorem bN0{l:List Nd}(h:∀d∈Nd.nmss l,M0 d):∀n∈l,M0 n.nm:=fun n hn=>h _ (aj8 hn (U9 n))
theorem N7{l:List Nd}{n:Nd}(h:n∈l):n.dp<=Nd.dps l:=by
 obtain⟨a,b,rfl⟩:=List.append_of_mem h
 rw[G6,Nd.dps];omega
inductive Stands (a:List Nd) (n:Nd) (b:List Nd):List Nd->Prop
 | top:Stands a n b (a++n::b)
 | deep {c e:List Nd}{nm:D}{m:Man}{s:Rat}{sh:Bool}{ns:List Nd}:Stands a n b ns->Stands a n b (c ++ .group nm m s sh ns::e)
structure StProps (a:List Nd) (n:Nd) (b l:List Nd):Prop where
 ok:Nd.Oks l->n.Ok
 wg:n.wg<=Nd.wgs l
 dp:n.dp<=Nd.dps l
 nd:(Nd.nmss l).Nodup->(Nd.nmss (a++n::b)).Nodup
 sub:∀d∈Nd.nmss (a++n::b),d∈Nd.nmss l
 len:l.length<=1000->Nd.thins l->(a++n::b).length<=1000
theorem Stands.props{a b l:List Nd}{n:Nd}(h:Stands a n b l):StProps a n b l:=by
 induction h with
 | top =>
  refine⟨fun o=>(Q2 _).mp o n (by simp),?_,?_,fun h=>h,fun d h=>h,fun h _=>h⟩
  ·rw[W6,Nd.wgs];omega
  ·rw[G6,Nd.dps];omega
 | @deep c e nm m s sh ns h ih =>
  refine⟨fun o=>?_,?_,?_,fun hd=>?_,fun d hd=>?_,fun hl ht=>?_⟩
  ·have og:=(Q2 _).mp o (.group nm m s sh ns) (by simp)
   rw[Nd.Ok]at og
   exact ih.ok og.2
  ·have:=ih.wg
   rw[W6,Nd.wgs,Nd.wg];omega
  ·have:=ih.dp
   rw[G6,Nd.dps,Nd.dp];omega
  ·rw[C3,Nd.nmss,Nd.nms]at hd
   exact ih.nd (List.nodup_cons.mp (List.nodup_append.mp (List.nodup_append.mp hd).2.1).1).2
  ·rw[C3,Nd.nmss,Nd.nms]
   simp[ih.sub d hd]
  ·have tg:=(O2 _).mp ht (.group nm m s sh ns) (by simp)
   rw[Nd.thin]at tg
   exact ih.len tg.1 tg.2
def alb(f:Nat):DS:=(A8 (S7 1 (A1 2)) (sIf (tB2 eqD (dIx (A7 2) ⇑0) (dC (.str "group"))) (Z6 1 (aV5 (A7 1) (qE (A3 (E6 f) (A0 (dIx (A7 2) ⇑5) A2))))) C5))
theorem e_tg:eqD (.str "tone") (.str "group")=some (.bool false):=F1z
theorem aF9{n:Nd}(f:Nat) (h:n.dp=0) (a0:Option B) (X:List D) (hX:X.length < 1000):alb f [a0,some (.own X),‹n.d›]=some (.nx [a0,some (.own (X++[n.d])),‹n.d›]):=by
 have hx:X.length < 16777216:=by omega
 have s0:(S7 1 (A1 2)) [a0,some (.own X),‹n.d›]=some (.nx [a0,some (.own (X++[n.d])),‹n.d›]):=by simp only[S7,xg0,xg1,if_pos hx,A1,xms,xw0,xw1]
 unfold alb
 rw[A6 s0]
 cases n with
 | group=>rw[Nd.dp]at h;omega
 | layer=>rw[Nd.d];wp_walk using evD,n8,aX1
 | tone=>rw[Nd.d];wp_walk using evD,ah8,e_tg
theorem ba6{nm:D}{m:Man}{s:Rat}{sh:Bool}{ns:List Nd}(f:Nat) (a0:Option B) (X Y:List D) (hX:X.length < 1000) (hY:Y.length < 1000) (e:E6 f [↥ns]=some (.list Y)):alb f [a0,some (.own X),‹Nd.d (.group nm m s sh ns)›]=some (.nx [a0,some (.own (X++[Nd.d (.group nm m s sh ns)]++Y)),‹Nd.d (.group nm m s sh ns)›]):=by
 have hx:X.length < 16777216:=by omega
 have s0:(S7 1 (A1 2)) [a0,some (.own X),‹Nd.d (.group nm m s sh ns)›]=some (.nx [a0,some (.own (X++[Nd.d (.group nm m s sh ns)])),‹Nd.d (.group nm m s sh ns)›]):=by simp only[S7,xg0,xg1,if_pos hx,A1,xms,xw0,xw1]
 unfold alb
 rw[A6 s0]
 have hc:aV5 (A7 1) (qE (A3 (E6 f) (A0 (dIx (A7 2) ⇑5) A2))) [a0,some (.own (X++[Nd.d (.group nm m s sh ns)])),‹Nd.d (.group nm m s sh ns)›]=some (X++[Nd.d (.group nm m s sh ns)]++Y):=by
  have q2:qE (A3 (E6 f) (A0 (dIx (A7 2) ⇑5) A2)) [a0,some (.own (X++[Nd.d (.group nm m s sh ns)])),‹Nd.d (.group nm m s sh ns)›]=some (false,Y):=by
   rw[show Nd.d (.group nm m s sh ns)=.tuple [.str "group", nm,.str m.s,fr s,.bool sh,↥ns] by rw[Nd.d]]
   wp_walk using evD,aF6,e
  unfold aV5
  rw[q2]
  show(if false=false/\false=false/\(X++[Nd.d (.group nm m s sh ns)]).length+Y.length<=16777216 then some (X++[Nd.d (.group nm m s sh ns)]++Y) else none)=_
  rw[if_pos ⟨rfl,rfl,by rw[List.length_append];show X.length+1+Y.length<=_;omega⟩]
 have ht:tB2 eqD (dIx (A7 2) ⇑0) (dC (.str "group")) [a0,some (.own (X++[Nd.d (.group nm m s sh ns)])),‹Nd.d (.group nm m s sh ns)›]=some true:=by
  rw[show Nd.d (.group nm m s sh ns)=.tuple [.str "group", nm,.str m.s,fr s,.bool sh,↥ns] by rw[Nd.d]]
  wp_walk using evD,x9,aX2
 simp only[sIf,ht,xbs,if_true,Z6,hc,xms,xw0,xw1]
def Low(s:Str):Prop:=∀c∈s.cps.toList,97<=c/\c<=122
def Nm(d:D):Prop:=∃s:Str,d=.str s/\Low s/\1<=s.length/\s.length<=6
def nmb(f:Nat):DS:=(A8 (S7 1 (A3 Q0 (A0 (A1 2) A2))) (sIf (J2 (A3 Q1 (A0 (A1 2) A2))) (av9 1 (A3 (E8 f) (A0 (A3 K7 (A0 (A1 2) A2)) A2))) C5))
theorem bM9{n:Nd}(f:Nat) (a0:Option B) (X:List D) (hX:X.length+n.nms.length<=1000) (H:∀nm m s sh ns,n=.group nm m s sh ns->E8 f [↥ns]=some (.list (Nd.nmss ns))):nmb f [a0,some (.own X),‹n.d›]=some (.nx [a0,some (.own (X++n.nms)),‹n.d›]):=by
 have hx:X.length < 16777216:=by omega
 have en:=name_of n
 have eg:=aD4 n
 have s0:(S7 1 (A3 Q0 (A0 (A1 2) A2))) [a0,some (.own X),‹n.d›]=some (.nx [a0,some (.own (X++[n.nm])),‹n.d›]):=by simp only[S7,A3,A0,A2,en,xg0,xg1,if_pos hx,A1,xms,xbs,xw0,xw1]
 unfold nmb
 rw[A6 s0]
 cases n with
 | layer=>wp_walk using evD,eg;rw[Nd.nm,Nd.nms]
 | tone=>wp_walk using evD,eg;rw[Nd.nm,Nd.nms]
 | group nm m s sh ns =>
  have e1:K7 [Nd.d (.group nm m s sh ns)]=some ↥ns:=by rw[Nd.d];rfl
  have e2:=H nm m s sh ns rfl
  rw[Nd.nms]at hX
  have e3:(X++[nm]).length+(Nd.nmss ns).length<=16777216:=by simp at hX ⊢;omega
  rw[Nd.nm]
  wp_walk using evD,av9,eg,e1,e2,if_pos e3
  rw[Nd.nms,List.append_assoc];rfl
theorem aP3{l:List Nd}{f:Nat}(hw:(Nd.nmss l).length<=1000) (H:∀n∈l,∀nm m s sh ns,n=.group nm m s sh ns->E8 f [↥ns]=some (.list (Nd.nmss ns))):E8 (f+1) [↥l]=some (.list (Nd.nmss l)):=by
 obtain⟨ρ',e,a2,hρ⟩:=ad3 (g:=B3 2) (f:=nmb f) (h:=Nd.d) (I:=fun i ρ=>∃a2,ρ=[‹↥l›,some (.own (Nd.nmss (l.take i))),a2]) l 0 [‹↥l›,some (.own []),none] ⟨none,rfl⟩ (fun j n hj ρ hρ=>by
  obtain⟨a2,rfl⟩:=hρ
  rw[Nat.zero_add]
  obtain⟨hjl,rfl⟩:=List.getElem?_eq_some_iff.mp hj
  have ww:Nd.nmss (l.take (j+1))=Nd.nmss (l.take j)++(l[j]).nms:=by rw[List.take_succ_eq_append_getElem hjl,C3,Nd.nmss,Nd.nmss,List.append_nil]
  have wl:=congrArg (fun x=>(Nd.nmss x).length) (List.take_append_drop (j+1) l)
  simp only[C3,ww,List.length_append]at wl
  exact⟨_,rfl,_,bM9 f _ _ (by omega) (H _ (List.getElem_mem hjl)),_,by rw[ww]⟩)
 subst hρ
 rw[Nat.zero_add,List.take_of_length_le (Nat.le_refl _),← G5]at e
 refine C2 (g:=y0 (E8 f)) (ρ:=[‹↥l›,none,none]) rfl ?_
 have s0:(Z6 1 A2) [‹↥l›,none,none]=some (.nx [‹↥l›,some (.own []),none]):=rfl
 have s1:(S2 (E7 (A1 0)) (B3 2) (nmb f)) [‹↥l›,some (.own []),none]=some (.nx [‹↥l›,some (.own (Nd.nmss l)),a2]):=e
 have s2:(av8 1 (B0 (A1 1))) [‹↥l›,some (.own (Nd.nmss l)),a2]=some (.rt (.list (Nd.nmss l))):=rfl
 exact(A6 s0).trans ((A6 s1).trans s2)
theorem bv8{n:Nd}{l:List Nd}(h:n∈l):n.nms.length<=(Nd.nmss l).length:=by
 obtain⟨a,b,rfl⟩:=List.append_of_mem h
 rw[C3,Nd.nmss,List.length_append,List.length_append];omega
theorem names_among:∀(k:Nat) (l:List Nd) (f:Nat),Nd.dps l<=k->k+1<=f->(Nd.nmss l).length<=1000->E8 f [↥l]=some (.list (Nd.nmss l)):=by
 intro k
 induction k with
 | zero =>
  intro l f hd hf hw
  obtain⟨f,rfl⟩:∃g,f=g+1:=⟨f - 1,by omega⟩
  refine aP3 hw fun n hn nm m s sh ns e=>?_
  have:=N7 hn
  rw[e,Nd.dp]at this;omega
 | succ k ih =>
  intro l f hd hf hw
  obtain⟨f,rfl⟩:∃g,f=g+1:=⟨f - 1,by omega⟩
  refine aP3 hw fun n hn nm m s sh ns e=>?_
  have h1:=N7 hn
  have h2:=bv8 hn
  rw[e,Nd.dp]at h1
  rw[e,Nd.nms,List.length_cons]at h2
  exact ih ns f (by omega) (by omega) (by omega)
abbrev Bx:=Option (Int×Int×Int×Int)
def Bx.le(A B:Bx):Prop:=match A,B with
 | none,_=>True
 | some _,none=>False
 | some (l,t,r,b),some (l',t',r',b')=>l'<=l/\t'<=t/\r<=r'/\b<=b'
theorem le_refl(A:Bx):Bx.le A A:=by
 cases A with
 | none=>exact trivial
 | some a=>show _/\_/\_/\_;omega
theorem le_trans{A B C:Bx}(h1:Bx.le A B) (h2:Bx.le B C):Bx.le A C:=by
 cases A with
 | none=>exact trivial
 | some a =>
  cases B with
  | none=>exact h1.elim
  | some b =>
   cases C with
   | none=>exact h2.elim
   | some c =>
    obtain⟨a1,a2,a3,a4⟩:=h1
    obtain⟨b1,b2,b3,b4⟩:=h2
    exact⟨Int.le_trans b1 a1,Int.le_trans b2 a2,Int.le_trans a3 b3,Int.le_trans a4 b4⟩
theorem aJ0(q q':Q4):∃b,neD q.d q'.d=some (.bool b)/\(b=true->q≠q'):=by
 have:∃b,neD q.d q'.d=some (.bool b):=by
  unfold neD
  rw[if_pos ⟨(Ly.q4 q 0).shaped (by decide),(Ly.q4 q' 0).shaped (by decide)⟩]
  exact⟨_,rfl⟩
 obtain⟨b,e⟩:=this
 refine⟨b,e,fun hb he=>?_⟩
 subst he hb
 rw[ax4 (Ly.q4 q 0) (by decide)]at e
 cases e
def neB(q q':Q4):Bool:=(aJ0 q q').choose
theorem bN2(q q':Q4):neD q.d q'.d=some (.bool (neB q q')):=(aJ0 q q').choose_spec.1
theorem bN3{q q':Q4}(h:neB q q'=true):q≠q':=(aJ0 q q').choose_spec.2 h
theorem bl2{neg v:Bool}{x:D}{ds:List D}(hx:K1 x=true) (hd:ds.all K1=true) (h:inV (toV x) (ds.map toV)=v):inD neg x (.list ds)=some (.bool (if neg then !v else v)):=by
 subst h
 show(if K1 x=true/\ds.all K1=true then _ else _)=_
 rw[if_pos ⟨hx,hd⟩]
def inK(K:List D) (d:D):Bool:=@decide (d∈K) (Classical.propDecidable _)
theorem ah3{K:List D}{d:D}(h:d∈K):inK K d=true:=@decide_eq_true _ (Classical.propDecidable _) h
theorem cf0{K:List D}{d:D}(h:d∉K):inK K d=false:=@decide_eq_false _ (Classical.propDecidable _) h
theorem al9{K:List D}{d:D}(h:inK K d=true):d∈K:=@of_decide_eq_true _ (Classical.propDecidable _) h
section
variable {w h:Nat}{K:List D}{p:Int×Int}
mutual
theorem aV4(c e:List Nd):∀n:Nd,∀d∈n.nms,∃a n' b,Stands a n' b (c++n::e)/\n'.nm=d
 | .layer nm m s sh lf tp mk w h l kb,d,hd=>by
  rw[Nd.nms]at hd
  exact⟨c,_,e,.top,(List.mem_singleton.mp hd).symm⟩
 | .tone nm r s sh,d,hd=>by
  rw[Nd.nms]at hd
  exact⟨c,_,e,.top,(List.mem_singleton.mp hd).symm⟩
 | .group nm m s sh ns,d,hd=>by
  rw[Nd.nms]at hd
  rcases List.mem_cons.mp hd with q|q
  ·exact⟨c,_,e,.top,q.symm⟩
  ·obtain⟨a,n',b,st,en⟩:=nms_stands [] ns d q
   exact⟨a,n',b,.deep st,en⟩
theorem nms_stands(c:List Nd):∀l:List Nd,∀d∈Nd.nmss l,∃a n' b,Stands a n' b (c++l)/\n'.nm=d
 | [],d,hd=>by rw[Nd.nmss]at hd;simp at hd
 | n::r,d,hd=>by
  rw[Nd.nmss]at hd
  rcases List.mem_append.mp hd with q|q
  ·exact aV4 c r n d q
  ·have:=nms_stands (c++[n]) r d q
   rwa [List.append_assoc]at this
end
end
end Sh
namespace Sh
open PySem PySem.Spec PyProof.Rows L2 G
end Sh
namespace G
open PySem PySem.Spec PyProof.Rows L2
section
variable {X:Cx}{S:Sg}{c:Kx}
theorem F7{e:Expr}:JE X e dNo:=fun ρ d h=>by cases h
theorem bF2{e:Expr}:JQ X e qNo:=fun ρ t d h=>by cases h
theorem ad0{e:Expr}:JN X e aNo:=fun ρ d h=>by cases h
theorem as8{e:Expr}:JT X e tNo:=fun ρ d h=>by cases h
theorem ce1{e:Expr}:JW X e tNo:=fun ρ d h=>by cases h
theorem aD1{e:Expr}:JG X e gNo:=by
 unfold JG PG
 intros
 rename_i h
 obtain⟨d,ρ,ρ',H0,Hf,z,_⟩:=h
 cases z
theorem ce8{es:List Expr}:JA X es aNo:=⟨fun ρ d h=>(nomatch h),fun ρ d h=>(nomatch h)⟩
theorem bP3{es:List Expr}:JTs X es tNo:=fun pins s σ H Q I ⟨ρ,b,h,_⟩=>by cases h
theorem r6(hu:X.A.units+64 < cLine):∀op:CmpOp,OpD X (compareOp op) (aK7 op)
 | .Lt=>cc1 | .LtE=>cc2 | .Gt=>cc5 | .GtE=>cc6 | .Eq=>cc7 hu | .NotEq=>cc0 hu | .Is=>cc3 | .IsNot=>bh1 | .In=>cc4 hu | .NotIn=>bh0 hu
theorem bg9(hu:X.A.units+64 < cLine) (S:Sg) (c:Kx) (op:CmpOp) (b:Expr):OpD X (compareOp op) (opW S c op b):=by
 unfold opW
 split
 ·split
  ·exact bM5 hu
  ·exact aV3 hu
  ·exact r6 hu _
 ·exact r6 hu op
theorem as9{f:Expr->DE}(h:∀e,JE X e (f e)):∀es,JA X es (evA f es)
 | []=>bT2
 | e::es=>by
  unfold evA
  split
  ·rename_i p;exact bz6 (h e) (as9 h es) (J0 p es _)
  ·exact ce8
theorem ay5{f:Expr->DE}(h:∀e,JE X e (f e)) (op:BoolOp) (pos:Pos):∀vs,JE X (.BoolOp op vs pos) (bn4 f op vs)
 | []=>F7
 | [a]=>bR9 (h a)
 | a::b::r=>by
  unfold bn4
  cases op
  ·exact bS9 (h a) (ay5 h .And pos (b::r))
  ·exact ce4 (h a) (ay5 h .Or pos (b::r))
theorem ay4{f:Expr->DT}(h:∀e,JT X e (f e)) (op:BoolOp) (pos:Pos):∀vs,JW X (.BoolOp op vs pos) (bn3 f op vs)
 | []=>ce1
 | [a]=>by cases op;exact bw8 (h a);exact bP1 (h a)
 | a::b::r=>by
  unfold bn3
  cases op
  ·exact bP2 (h a) (ay4 h .And pos (b::r))
  ·exact ce0 (h a) (ay4 h .Or pos (b::r))
theorem x6{f:Expr->DE}(h:∀e,JE X e (f e)):∀o,JO X o (evO f o)
 | none=>bx9
 | some e=>bx8 (h e)
theorem bP4{f:Expr->DT}(h:∀e,JT X e (f e)):∀l,JTs X l (bn1 f l)
 | []=>bx0
 | [t]=>bw9 (h t)
 | _::_::_=>bP3
theorem bj8{f:Expr->DG}(h:∀e,JG X e (f e)):∀es,es.all pl=true->JGs X es (bU7 f es)
 | [],_=>by2
 | e::es,p=>by
  simp only[List.all_cons,Bool.and_eq_true]at p
  refine bj9 (h e) (bj8 h es p.2) ?_
  have p1:=p.1
  cases e<;>first|rfl|cases p1
theorem aT0{env:Env}:∀{es:List Expr},es.all pl=true->(assignEach es env).length=es.length/\(assignEach es env).findIdx? (·.1)=none
 | [],_=>⟨rfl,rfl⟩
 | e::es,p=>by
  simp only[List.all_cons,Bool.and_eq_true]at p
  obtain⟨h1,h2⟩:=aT0 (env:=env) p.2
  have p1:=p.1
  have q:assignEach (e::es) env=(false,assign e env)::assignEach es env:=by cases e<;>first|rfl|cases p1
  rw[q]
  refine⟨by simp[h1],?_⟩
  simp[List.findIdx?_cons,h2]
structure Sound (S:Sg) (r:Ev):Prop where
 e:∀{c X},Fit S c X->∀ex,JE X ex (r.e c ex)
 q:∀{c X},Fit S c X->∀ex,JQ X ex (r.q c ex)
 n:∀{c X},Fit S c X->∀ex,JN X ex (r.n c ex)
 t:∀{c X},Fit S c X->∀ex,JT X ex (r.t c ex)
 g:∀{c X},Fit S c X->∀ex,JG X ex (r.g c ex)
 b:∀{c X},Fit S c X->∀sts,JSs X sts (r.b c sts)
theorem Fit.hx(F:Fit S c X):∀e s,X.xe e s->False:=fun e s h=>by rw[F.xe]at h;exact h
theorem Fit.po(F:Fit S c X):PassesOwn (model X.prog X.w) X.A X.env X.xe:=by rw[F.xe];exact PassesOwn.never
theorem Fit.slot(F:Fit S c X) {x:Str}{i:Nat}(h:aa7 x c.N=some i):X.N[i]? = some x:=by rw[F.N];exact aD2 h
theorem Fit.inner{tn:List Str}{caps:List Nat}{scope:Scope}{C:Addr}{s0:Shared}{H0:Hp}{ex:List Addr}(F:Fit S c X) (hn:(G.inner c tn caps scope).N.Nodup):Fit S (G.inner c tn caps scope) (E1 X (G.inner c tn caps scope).N scope C s0 H0 ex) :=
 ⟨rfl,by show relabel scope X.env=rl scope c.sc;rw[← F.sc];rfl,hn,F.calm,rfl,F.units,(fun h=>by cases h),F.fns,F.css,F.bls⟩
variable {r:Ev}
theorem bR1(R:Sound S r) (F:Fit S c X) (tg a:Expr) {p pos:Pos}(hg:Gl X "reversed") (hm:X.mg "reversed" = none):JI X tg (.Call (.Name "reversed" p) [a] [] pos) (evR S c tg a):=by
 have no:∀e:Expr,JI X tg e fun _=>none:=fun e ρ ds q=>nomatch q
 unfold evR
 split
 ·split
  ·split
   ·split
    ·split
     ·rename_i h
      simp only[Bool.and_eq_true]at h
      obtain⟨rfl,h1,h2⟩:=G9 F h.1.1.1
      obtain⟨rfl,h3,h4⟩:=G9 F h.1.1.2
      have ht:=h.1.2
      exact no _
     ·exact no _
    ·exact no _
   ·exact no _
  ·exact no _
 ·exact no _
theorem bF4(R:Sound S r) (F:Fit S c X) (tg it:Expr):JI X tg it (evI S r c tg it):=by
 unfold evI
 split
 ·rename_i x p a pos
  split
  ·rename_i h
   obtain⟨rfl,h1,h2⟩:=G9 F h
   exact bR1 R F tg a h1 h2
  ·split
   ·rename_i h
    simp only[Bool.and_eq_true]at h
    obtain⟨rfl,h1,h2⟩:=G9 F h.1
    exact aW5 h1 h2 (R.e F a) (J0 h.2 _ _)
   ·split
    ·rename_i h
     simp only[Bool.and_eq_true]at h
     obtain⟨rfl,h1,h2⟩:=G9 F h.1.1
     have ht:=h.1.2
     exact fun ρ ds q=>nomatch q
    ·exact aJ6 (R.e F _)
 ·rename_i x p a b pos
  split
  ·rename_i h
   simp only[Bool.and_eq_true]at h
   obtain⟨rfl,h1,h2⟩:=G9 F h.1.1
   exact fun ρ ds q=>nomatch q
  ·split
   ·rename_i h
    simp only[Bool.and_eq_true]at h
    obtain⟨rfl,h1,h2⟩:=G9 F h.1.1.1
    have ht:=h.1.1.2
    exact fun ρ ds q=>nomatch q
   ·exact aJ6 (R.e F _)
 ·split
  ·exact fun ρ ds q=>nomatch q
  ·exact aJ6 (R.e F _)
theorem aS3(R:Sound S r) (F:Fit S c X) {elt tgt iter:Expr}{ifs:List Expr}{scope:Scope}{caps:List Nat}
  (h:(ak2 c.N (G.inner c (R4 tgt) caps scope).N (R4 tgt).length caps c.sc scope&&af0 (G.inner c (R4 tgt) caps scope).N&&pl iter)=true) :
  CompSc X (G.inner c (R4 tgt) caps scope).N (R4 tgt).length caps scope/\JI X tgt iter (evI S r c tgt iter)/\(∀C s0 H0 ex,JG (E1 X (G.inner c (R4 tgt) caps scope).N scope C s0 H0 ex) tgt (r.g (G.inner c (R4 tgt) caps scope) tgt)) /\
  (∀C s0 H0 ex,JTs (E1 X (G.inner c (R4 tgt) caps scope).N scope C s0 H0 ex) ifs (bn1 (r.t (G.inner c (R4 tgt) caps scope)) ifs))/\(∀C s0 H0 ex,JE (E1 X (G.inner c (R4 tgt) caps scope).N scope C s0 H0 ex) elt (r.e (G.inner c (R4 tgt) caps scope) elt)) /\
  ∀x,foldedSetIterable iter X.env x=pure x:=by
 simp only[Bool.and_eq_true]at h
 obtain⟨⟨h1,h2⟩,h3⟩:=h
 have hn:=ae9 h2
 exact⟨aZ0 h1 F.N F.sc,bF4 R F tgt iter,fun C s0 H0 ex=>R.g (F.inner hn) tgt,fun C s0 H0 ex=>bP4 (R.t (F.inner hn)) ifs,fun C s0 H0 ex=>R.e (F.inner hn) elt,aO4 h3 _⟩
theorem ce3(R:Sound S r) (F:Fit S c X) (ex:Expr):JN X ex (evC S r c ex):=by
 unfold evC
 split
 ·rename_i elt tgt iter ifs scope pos
  dsimp only
  split
  ·rename_i h
   obtain⟨h1,h2,h3,h4,h5,h6⟩:=aS3 (ifs:=ifs) (elt:=elt) R F h
   exact by1 h1 F.hx h2 h3 h4 h5 F.calm h6
  ·exact ad0
 ·exact ad0
theorem aT9{x:Str}{T:String}(h:bI6 x=some T):bootBuiltins x=some (.type T)/\x ≠ "__name__" /\ (x==("__debug__" : Str))=false:=by
 unfold bI6 at h
 split at h
 ·rename_i e;cases h;simp only[beq_iff_eq]at e;subst e;exact⟨aL2,by decide,by decide⟩
 ·split at h
  ·rename_i e;cases h;simp only[beq_iff_eq]at e;subst e;exact⟨bC3,by decide,by decide⟩
  ·split at h
   ·rename_i e;cases h;simp only[beq_iff_eq]at e;subst e;exact⟨bV9,by decide,by decide⟩
   ·split at h
    ·rename_i e;cases h;simp only[beq_iff_eq]at e;subst e;exact⟨aF5,by decide,by decide⟩
    ·split at h
     ·rename_i e;cases h;simp only[beq_iff_eq]at e;subst e;exact⟨aS7,by decide,by decide⟩
     ·cases h
theorem aO5{e:Expr}(h:pl e=true) (pos:Pos) (env:Env):(backTo pos (starEach [e] env)).any (·.1)=false:=by rw[J0 h];rfl
theorem y9(pos:Pos) (env:Env):∀{es:List Expr},es.all pl=true->(starEach es env).any (·.1)=false
 | [],_=>rfl
 | e::es,h=>by
  simp only[List.all_cons,Bool.and_eq_true]at h
  rw[J0 h.1,List.any_cons,y9 pos env h.2];rfl
end
section
variable {X:Cx}{S:Sg}{c:Kx}{r:Ev}
theorem bq8(R:Sound S r) (F:Fit S c X) (a i:Expr) (pos:Pos):JE X (.Subscript a i pos) (bH1 r c a i):=by
 unfold bH1
 split
 ·split
  ·exact bk1 (R.e F _) (x6 (R.e F) _) (x6 (R.e F) _)
  ·split
   ·exact bR6 (R.e F _) (x6 (R.e F) _) (x6 (R.e F) _)
   ·split
    ·exact bR7 (R.q F _) (x6 (R.e F) _) (x6 (R.e F) _)
    ·exact bR8 (R.e F _) (x6 (R.e F) _) (x6 (R.e F) _)
 ·exact by5 (R.e F _) (bk2 bk5)
 ·split
  ·rename_i h
   split
   ·exact bS2 (R.e F _) (R.e F _) (bf3 h)
   ·split
    ·exact bS3 F.units (R.e F _) (R.e F _) (bf3 h)
    ·exact ce5 (R.q F _) (R.e F _) (bf3 h)
  ·exact F7
theorem aT7(R:Sound S r) (F:Fit S c X) (x:Str) (a:Expr) (p pos:Pos):JE X (.Call (.Name x p) [a] [] pos) (aG9 S r c x a):=by
 unfold aG9
 split
 ·exact F7
 rename_i hp
 have hp:pl a=true:=by simpa using hp
 have hs:=J0 hp [] X.env
 split
 ·rename_i h
  obtain⟨rfl,h1,h2⟩:=G9 F h
  split
  ·rename_i y py e ppos
   split
   ·rename_i hy
    simp only[Bool.and_eq_true]at hy
    obtain⟨rfl,g1,g2⟩:=G9 F hy.1
    exact F7
   ·exact bk3 h1 h2 (R.q F _) hs
  ·split
   ·exact F7
   ·exact bk3 h1 h2 (R.q F a) hs
 split
 ·rename_i h;obtain⟨rfl,h1,h2⟩:=G9 F h;exact by4 h1 h2 (R.q F a) hs
 split
 ·rename_i h;obtain⟨rfl,h1,h2⟩:=G9 F h;exact bT0 h1 h2 (R.q F a) F.calm hs
 split
 ·rename_i h;obtain⟨rfl,h1,h2⟩:=G9 F h;exact bS8 h1 h2 (R.q F a) F.calm hs
 split
 ·rename_i h;obtain⟨rfl,h1,h2⟩:=G9 F h;exact bz4 F.calm h1 h2 (R.q F a) hs
 split
 ·rename_i h;obtain⟨rfl,h1,h2⟩:=G9 F h;exact bk4 h1 h2 (R.e F a) hs
 split
 ·rename_i h;obtain⟨rfl,h1,h2⟩:=G9 F h;exact F7
 split
 ·rename_i h;obtain⟨rfl,h1,h2⟩:=G9 F h;exact bT1 h1 h2 (R.e F a) hs
 split
 ·rename_i h;obtain⟨rfl,h1,h2⟩:=G9 F h;exact F7
 split
 ·rename_i h;obtain⟨rfl,h1,h2⟩:=G9 F h;exact by8 h1 h2 (R.q F a) F.calm hs
 exact F7
theorem aT6(R:Sound S r) (F:Fit S c X) (x:Str) (a b:Expr) (p pos:Pos):JE X (.Call (.Name x p) [a,b] [] pos) (aG8 S r c x a b):=by
 unfold aG8
 split
 ·exact F7
 rename_i hp
 have hp:pl a=true:=by simpa using hp
 split
 ·rename_i h
  obtain⟨rfl,h1,h2⟩:=G9 F h
  split
  ·rename_i y py
   split
   ·rename_i T hT
    split
    ·rename_i hy
     obtain⟨_,g1,g2⟩:=G9 F hy
     obtain⟨t1,t2,t3⟩:=aT9 hT
     exact bS4 h1 h2 g1 g2 t1 (R.e F a) t2 t3 (J0 hp _ _) rfl rfl
    ·exact F7
   ·exact F7
  ·exact F7
 split
 ·exact F7
 rename_i hb
 have hb:pl b=true:=by simpa using hb
 split
 ·rename_i h;obtain⟨rfl,h1,h2⟩:=G9 F h;exact by7 h1 h2 (R.e F a) (R.e F b) F.calm (J0 hp _ _) (J0 hb _ _) (aO5 hb pos _)
 split
 ·rename_i h;obtain⟨rfl,h1,h2⟩:=G9 F h;exact by9 h1 h2 (R.e F a) (R.e F b) F.calm (J0 hp _ _) (J0 hb _ _) (aO5 hb pos _)
 exact F7
theorem ao3(pos:Pos):∀l:List (Bool×Sem Value),(backTo pos l).any (·.1)=l.any (·.1)
 | []=>rfl
 | (b,t)::r=>by
  have ih:=ao3 pos r
  unfold backTo at ih ⊢
  rw[xmc,List.any_cons,List.any_cons,ih]
theorem bc7(R:Sound S r) (F:Fit S c X) (x:Str) (args:List Expr) (p pos:Pos):JE X (.Call (.Name x p) args [] pos) (bc8 S r c x args (.Call (.Name x p) args [] pos)):=by
 unfold bc8
 split
 ·rename_i Fn n hl
  split
  ·rename_i h
   simp only[Bool.and_eq_true,beq_iff_eq]at h
   obtain⟨⟨hg,hn⟩,hp⟩:=h
   obtain⟨g1,g2⟩:=az0 F hg
   rcases F.fns _ _ _ hl with⟨k,f,fd,ps,hk,hr,hm,hkp,hb⟩|⟨hm,hb⟩
   case inr =>
    cases args with
    | nil=>cases hn;exact absurd hb.1 (Nat.lt_irrefl _)
    | cons e es =>
     simp only[List.all_cons,Bool.and_eq_true]at hp
     exact ce7 hb F.units g1 hm (as9 (R.e F) (e::es)) hn g2 (J0 hp.1 _ _) ((ao3 pos _).trans (y9 pos _ hp.2))
   cases args with
   | nil=>cases hn;exact bk8 hk hr g1 hm hkp hb g2
   | cons e es =>
    simp only[List.all_cons,Bool.and_eq_true]at hp
    exact bz5 hk hr g1 hm hkp hb (as9 (R.e F) (e::es)) hn g2 (J0 hp.1 _ _) ((ao3 pos _).trans (y9 pos _ hp.2))
  ·exact F7
 ·split
  ·split
   ·exact am7 (R.n F _)
   ·exact aT7 R F _ _ _ _
  ·exact aT6 R F _ _ _ _ _
  ·exact F7
theorem bH6(k:Const) (u:Nat) (pos:Pos):JE X (.Constant k u pos) (xCn k):=by
 unfold xCn
 split
 ·exact bS1
 ·exact ce6
 ·exact bk5
 ·exact bR5
 ·exact F7
theorem br2(R:Sound S r) (F:Fit S c X) (a:Expr) (op:Operator) (b:Expr) (pos:Pos):JE X (.BinOp a op b pos) (bH9 r c a op b):=by
 unfold bH9
 split
 ·split
  ·exact X8 bh2 (R.e F _) (R.e F _)
  ·exact X8 bv7 (R.e F _) (R.e F _)
 ·exact X8 bM1 (R.e F _) (R.e F _)
 ·split
  ·exact X8 ax1 (R.e F _) (R.e F _)
  ·split
   ·split
    ·exact X8 bv6 (R.e F _) (R.e F _)
    ·exact X8 aP0 (R.e F _) (R.e F _)
   ·exact X8 aP0 (R.e F _) (R.e F _)
 ·exact X8 bM6 (R.e F _) (R.e F _)
 ·exact X8 bM3 (R.e F _) (R.e F _)
 ·exact F7
 ·exact F7
theorem bH0(R:Sound S r) (F:Fit S c X) (op:UnaryOp) (a:Expr) (pos:Pos):JE X (.UnaryOp op a pos) (xUn r c op a):=by
 unfold xUn
 split
 ·exact bk2 (R.e F _)
 ·exact bS0 (R.e F _)
 ·exact F7
theorem br1(R:Sound S r) (F:Fit S c X) (a:Expr) (ops:List CmpOp) (bs:List Expr) (pos:Pos):JE X (.Compare a ops bs pos) (bH7 S r c a ops bs):=by
 have hu:=F.units
 unfold bH7
 split
 ·split
  ·rename_i h;exact bS7 (bg9 hu S c _ _) (R.e F _) (R.e F _) (aj7 h _)
  ·exact F7
 ·split
  ·rename_i h;exact bk7 (r6 hu _) (r6 hu _) (R.e F _) (R.e F _) (R.e F _) (aj7 h _)
  ·exact F7
 ·exact F7
theorem br0(R:Sound S r) (F:Fit S c X) (o:Expr) (m:Str) (apos cpos:Pos) (args:List Expr):JE X (.Call (.Attribute o m apos) args [] cpos) (bH3 r c o m apos cpos args):=by
 have hu:=F.units
 unfold bH3
 split
 ·split
  ·rename_i h
   simp only[Bool.and_eq_true,beq_iff_eq]at h
   obtain⟨⟨⟨hm,hn⟩,hl⟩,hp⟩:=h
   subst hm
   have hs:=J0 hp [] X.env
   exact bz1 (R.e F _) (R.q F _) (k9 hn _ _ _) (by rw[hs];rfl) (by simpa using hl) hs
  ·split
   ·rename_i h
    simp only[Bool.and_eq_true,beq_iff_eq]at h
    obtain⟨⟨⟨hm,hn⟩,hl⟩,hp⟩:=h
    subst hm
    have hs:=J0 hp [] X.env
    exact aW7 hu (R.e F _) (R.e F _) (k9 hn _ _ _) (by rw[hs];rfl) (by simpa using hl) hs
   ·exact F7
 ·rename_i a1 b1
  split
  ·rename_i h
   simp only[Bool.and_eq_true,beq_iff_eq]at h
   obtain⟨⟨⟨⟨hm,hn⟩,hl⟩,hp⟩,hq⟩:=h
   subst hm
   have hs:=J0 hp [b1] X.env
   rw[J0 hq [] X.env]at hs
   exact bz2 hu (R.e F _) (R.e F _) (R.e F _) ⟨k9 hn _ _ _,by rw[hs];rfl,by simpa using hl,by rw[hs];rfl⟩
  ·exact F7
 ·exact F7
theorem bH8(R:Sound S r) (F:Fit S c X) (f:Expr) (args:List Expr) (kw:List Keyword) (pos:Pos):JE X (.Call f args kw pos) (xCl S r c f args kw pos):=by
 unfold xCl
 split
 ·split
  ·exact bc7 R F _ _ _ _
  ·exact br0 R F _ _ _ _ _
  ·exact F7
 ·exact F7
theorem bH5(ks:List (Option Expr)) (vs:List Expr) (pos:Pos):JE X (.Dict ks vs pos) (xDs ks vs):=by
 unfold xDs
 split
 ·rename_i ps h
  split
  ·rename_i q
   simp only[Bool.and_eq_true,decide_eq_true_eq]at q
   exact bz3 h (by intro z;rw[z]at q;exact absurd q.1 (by decide)) q.2
  ·exact F7
 ·exact F7
theorem bX9(R:Sound S r) (F:Fit S c X) (ex:Expr):JE X ex (xE S r c ex):=by
 cases ex
 case Constant=>exact bH6 _ _ _
 case Dict ks vs p=>exact bH5 ks vs p
 case Name x p =>
  unfold xE
  dsimp only
  split
  ·rename_i i h
   split
   ·rename_i v;obtain⟨h1,h2,h3⟩:=aj5 F v;exact bR3 i (F.slot h) h1 h2 h3
   ·exact F7
  ·split
   ·rename_i d hd
    split
    ·rename_i g;obtain⟨u,k1,k2⟩:=F.css _ _ hd;obtain⟨g1,g2⟩:=az0 F g;exact bS6 k1 g1 k2 g2
    ·exact F7
   ·exact F7
 case Tuple es _ _ =>
  unfold xE
  dsimp only
  split
  ·rename_i h;exact bR4 (as9 (R.e F) _) h
  ·exact F7
 case List=>exact am7 (R.n F _)
 case ListComp=>exact am7 (R.n F _)
 case BinOp=>exact br2 R F _ _ _ _
 case UnaryOp=>exact bH0 R F _ _ _
 case Compare=>exact br1 R F _ _ _ _
 case BoolOp=>exact ay5 (R.e F) _ _ _
 case IfExp=>exact bS5 (R.t F _) (R.e F _) (R.e F _)
 case Subscript=>exact bq8 R F _ _ _
 case Call=>exact bH8 R F _ _ _ _
 all_goals exact F7
theorem bX6(R:Sound S r) (F:Fit S c X) (ex:Expr):JQ X ex (xQ S r c ex):=by
 cases ex
 case Name x p =>
  unfold xQ
  dsimp only
  split
  ·rename_i i h
   split
   ·rename_i v;obtain⟨h1,h2,h3⟩:=aj5 F v;exact bQ7 i (F.slot h) h1 h2 h3
   ·exact bF2
  ·exact bj7 (R.e F _)
 case List=>exact bQ8 (R.n F _)
 case ListComp=>exact bQ8 (R.n F _)
 case Call f as kw p =>
  unfold xQ
  dsimp only
  split
  ·exact bQ8 (R.n F _)
  ·exact bj7 (R.e F _)
 all_goals exact bj7 (R.e F _)
theorem bX7(R:Sound S r) (F:Fit S c X) (ex:Expr):JN X ex (xN S r c ex):=by
 cases ex
 case List es p =>
  unfold xN
  dsimp only
  split
  ·rename_i h;exact bQ9 (as9 (R.e F) _) h
  ·exact ad0
 case ListComp=>exact ce3 R F _
 case Call f as kw p =>
  unfold xN
  dsimp only
  unfold xNl
  split
  ·split
   ·split
    ·rename_i h
     simp only[Bool.and_eq_true]at h
     obtain⟨rfl,h1,h2⟩:=G9 F h.1
     exact by0 h1 h2 (R.q F _) (J0 h.2 _ _)
    ·exact ad0
   ·exact ad0
  ·exact ad0
 case BinOp a op b p =>
  cases op
  case Add=>exact bR0 (R.q F _) (R.q F _)
  all_goals exact ad0
 all_goals exact ad0
theorem bX4(R:Sound S r) (F:Fit S c X) (ex:Expr):JT X ex (xT S r c ex):=by
 have hu:=F.units
 have oth:∀e:Expr,JT X e (if plT e then J2 (r.e c e) else tNo):=fun e=>by
  split
  ·rename_i h;exact bP5 (R.e F _) (bf4 h _)
  ·exact as8
 cases ex
 case Compare a ops bs p =>
  unfold xT bC9
  dsimp only
  split
  ·split
   ·rename_i h;exact bP7 (bg9 hu S c _ _) (R.e F _) (R.e F _) (aj7 h _)
   ·exact as8
  ·split
   ·rename_i h;exact bj1 (r6 hu _) (r6 hu _) (R.e F _) (R.e F _) (R.e F _) (aj7 h _)
   ·exact as8
  ·exact as8
 case BoolOp=>exact bj0 (ay4 (R.t F) _ _ _)
 case UnaryOp op a p =>
  cases op
  case Not=>exact bP6 (R.t F _)
  all_goals exact as8
 all_goals exact oth _
theorem bX8(R:Sound S r) (F:Fit S c X) (ex:Expr):JG X ex (xG r c ex):=by
 unfold xG
 split
 ·split
  ·rename_i i h
   split
   ·rename_i v;obtain⟨h1,h2⟩:=aQ0 F v;exact by3 i (by rw[F.N];exact F.nd) (F.slot h) h1 h2
   ·exact aD1
  ·exact aD1
 ·split
  ·rename_i h
   obtain⟨h1,h2⟩:=aT0 (env:=X.env) h
   exact bR2 (bj8 (R.g F) _ h) F.calm h1 h2
  ·exact aD1
 ·exact aD1
theorem aQ5{st:Stmt}{f:DS}(h:∀ρ,f ρ=none):JS X st f:=fun ρ fl q=>by rw[h ρ]at q;cases q
theorem bp9(F:Fit S c X) (h:c.df=true):X.env.blockKind=.function:=by
 unfold Env.blockKind
 rw[F.sc,(F.df h).2];rfl
theorem ar1(elt:Expr) (gens:List Comprehension) (sc:Scope) (pv p':Pos) (x:Str) (l:Nat) (env:Env):swapsWith (.ListComp elt gens sc pv) (some (.Name x p')) l env =
  pure (env.blockKind == .function&&env.kindOf x==some .local&&p'.line==pv.line && !(sc.names.any fun(n,k)=>n==x&&(k == .local || k == .cell))):=rfl
theorem aQ6(R:Sound S r) (F:Fit S c X) {x:Str}{p' pv p:Pos}{elt:Expr}{gens:List Comprehension}{sc:Scope}{i:Nat}(hi:aa7 x c.N=some i) (hl:(c.sc.names.lookup x==some .local)=true)
  (h:(c.df&&p'.line==pv.line && !(sc.names.any fun(n,k)=>n==x&&(k == .local || k == .cell)))=true) :
  JS X (.Assign [.Name x p'] (.ListComp elt gens sc pv) p) (Z6 i (evC S r c (.ListComp elt gens sc pv)))/\JS X (.Assign [.Name x p'] (.ListComp elt gens sc pv) p) (Z4 i (evC S r c (.ListComp elt gens sc pv))):=by
 unfold evC
 simp only[Bool.and_eq_true]at h
 have hl':X.env.scope.names.lookup x=some .local:=by rw[F.sc];simpa using hl
 have hsw:swapsWith (.ListComp elt gens sc pv) (some (.Name x p')) p.line X.env=pure true:=by
  rw[ar1,bp9 F h.1.1,h.1.2,h.2]
  unfold Env.kindOf
  rw[hl'];rfl
 split
 ·rename_i elt tgt iter ifs scope pos he
  cases he
  dsimp only
  split
  ·rename_i hc
   obtain⟨h1,h2,h3,h4,h5,h6⟩:=aS3 (ifs:=ifs) (elt:=elt) R F hc
   exact⟨bx4 i (by rw[F.N];exact F.nd) h1 F.hx h2 h3 h4 h5 (F.slot hi) hl' hsw F.calm h6,bx6 i (by rw[F.N];exact F.nd) h1 F.hx h2 h3 h4 h5 (F.slot hi) hl' hsw F.calm h6⟩
  ·exact⟨aQ5 fun ρ=>rfl,aQ5 fun ρ=>rfl⟩
 ·exact⟨aQ5 fun ρ=>rfl,aQ5 fun ρ=>rfl⟩
theorem br3(R:Sound S r) (F:Fit S c X) (tg v:Expr) (p:Pos):JS X (.Assign [tg] v p) (bI0 S r c tg v p):=by
 have nd:X.N.Nodup:=by rw[F.N];exact F.nd
 unfold bI0
 split
 ·rename_i x p'
  split
  ·exact D2
  ·rename_i i hi
   split
   ·exact D2
   ·rename_i hlo
    have hlo:bi5 c x=true:=by simpa using hlo
    obtain⟨l1,l2⟩:=aQ0 F hlo
    split
    ·rename_i elt gens sc pv
     split
     ·rename_i hl
      split
      ·rename_i h
       split
       ·exact(aQ6 R F hi hl h).1
       ·exact(aQ6 R F hi hl h).2
      ·exact D2
     ·rename_i hl
      refine bj4 i nd (R.e F _) (F.slot hi) l1 ?_ l2
      rw[ar1]
      have:(X.env.kindOf x==some .local)=false:=by
       unfold Env.kindOf
       rw[F.sc];simpa using hl
      rw[this,Bool.and_false];rfl
    ·split
     ·exact D2
     ·rename_i hc
      have hc:isC v=false:=by simpa using hc
      split
      ·exact bQ1 i nd (R.n F _) (F.slot hi) l1 (am1 hc _ _ _) l2
      ·exact bj4 i nd (R.e F _) (F.slot hi) l1 (am1 hc _ _ _) l2
 ·split
  ·exact D2
  ·rename_i i hi
   split
   ·rename_i h
    simp only[Bool.and_eq_true,Bool.not_eq_true']at h
    obtain⟨h1,h2,h3⟩:=aj5 F h.1
    exact bP8 i (R.n F _) (x6 (R.e F) _) (x6 (R.e F) _) (F.slot hi) h1 h2 h3 (am1 h.2 _ _ _)
   ·exact D2
 ·rename_i x px y py kt pt
  split
  ·rename_i a b k2 p2
   split
   ·rename_i i j hi hj
    split
    ·rename_i h
     unfold cb2 at h
     simp only[Bool.and_eq_true,Bool.not_eq_true',beq_iff_eq]at h
     obtain⟨⟨⟨⟨⟨⟨⟨⟨hd,ha⟩,hb⟩,hxy⟩,hl⟩,hx⟩,hy⟩,hf⟩,hcs⟩:=h
     have hx':X.env.scope.names.lookup x=some .local:=by rw[F.sc];exact hx
     have hy':X.env.scope.names.lookup y=some .local:=by rw[F.sc];exact hy
     have hne:i≠j:=fun z=>by
      subst z
      have:=(F.slot hi).symm.trans (F.slot hj)
      cases this
      simp at hxy
     refine bQ0 nd (as9 (R.e F) [a,b]) ?_ hne (F.slot hi) (F.slot hj) hx' hy' F.calm rfl
     have kx:X.env.kindOf x=some .local:=hx'
     have ky:X.env.kindOf y=some .local:=hy'
     have st:∀e:Expr,pl e=true->(match e with | .Starred ..=>true|_=>false)=false:=fun e he=>by cases e<;>first|rfl|cases he
     have sa:=st a ha
     have sb:=st b hb
     have hyx:(y==x)=false:=by
      cases q:(y==x) with
      | false=>rfl
      | true=>simp only[beq_iff_eq]at q;subst q;simp at hxy
     simp only[swappedStores,List.length_cons,List.length_nil,List.head?_cons,xms,Option.getD_some,Expr.pos,List.filterMap_cons,List.filterMap_nil,kx,ky,bp9 F hd,hf,hcs,hl,sa,sb,List.any_cons,List.any_nil]
     simp[List.eraseDups,List.eraseDupsBy,List.eraseDupsBy.loop,hxy,hyx]
     intro z
     rcases z with z|z
     ·cases a<;>first|exact absurd (show false=true from z) Bool.false_ne_true|exact nomatch ha
     ·cases b<;>first|exact absurd (show false=true from z) Bool.false_ne_true|exact nomatch hb
    ·exact D2
   ·exact D2
  ·exact D2
  ·rename_i h1 h2
   refine bj5 (R.e F _) (R.g F _) ?_ ?_ rfl
   ·cases v<;>rfl
   ·cases v<;>first|rfl|exact(h2 _ _ _ rfl).elim
 ·rename_i es kt pt _
  split
  ·exact D2
  ·rename_i h
   refine bj5 (R.e F _) (R.g F _) ?_ ?_ rfl
   ·cases v<;>rfl
   ·cases v<;>first|rfl|skip
    rename_i vs k3 p3
    have h:(es.length==2 || es.length==3)=false:=by simpa [aD5] using h
    unfold swappedStores
    simp only[h,xnf,Bool.true_or,if_true]
 ·exact D2
end
section
variable {X:Cx}{S:Sg}{c:Kx}{r:Ev}
theorem bq9(R:Sound S r) (F:Fit S c X) (x m:Str) (e:Expr) (p apos cpos pos:Pos) (hl:(apos.endLine==cpos.line)=true):JS X (.Expr (.Call (.Attribute (.Name x p) m apos) [e] [] cpos) pos) (bH2 r c x m e):=by
 unfold bH2
 split
 ·exact D2
 ·rename_i i hi
  split
  ·rename_i h
   simp only[Bool.and_eq_true]at h
   obtain⟨h1,h2,h3⟩:=aj5 F h.1
   have hs:=J0 h.2 [] X.env
   split
   ·rename_i hm
    simp only[beq_iff_eq]at hm
    subst hm
    exact bQ6 i (R.e F e) (F.slot hi) h1 h2 h3 rfl (by rw[hs];rfl) hl hs rfl
   ·split
    ·rename_i hm
     simp only[beq_iff_eq]at hm
     subst hm
     exact bQ4 i (R.e F e) (F.slot hi) h1 h2 h3 hl hs
    ·exact D2
  ·exact D2
theorem bH4(R:Sound S r) (F:Fit S c X) (e:Expr) (pos:Pos):JS X (.Expr e pos) (xEx r c e):=by
 unfold xEx
 split
 ·split
  ·split
   ·split
    ·split
     ·rename_i h;exact bq9 R F _ _ _ _ _ _ _ h
     ·exact D2
    ·exact D2
   ·exact D2
  ·exact D2
 ·exact D2
theorem bc6(R:Sound S r) (F:Fit S c X) (st:Stmt):JS X st (xS0 S r c st):=by
 cases st
 case Return o p =>
  cases o
  ·exact D2
  ·exact bP9 (R.e F _)
 case If=>exact ce2 (R.t F _) (R.b F _) (R.b F _)
 case While t a o p =>
  cases o
  ·exact bj3 (R.t F _) (R.b F _) F.po
  ·exact D2
 case For tg it a o p =>
  cases o
  ·unfold xS0 xFo
   dsimp only
   split
   ·rename_i h;exact bQ3 (bF4 R F _ _) (R.g F _) (R.b F _) F.po F.calm (aO4 h _)
   ·exact D2
  ·exact D2
 case Assign ts v p =>
  unfold xS0 xAs
  dsimp only
  split
  ·exact br3 R F _ _ _
  ·exact D2
 case Expr=>exact bH4 R F _ _
 case Continue=>exact bx5
 case Break=>exact bQ5
 case Pass=>exact bx3
 all_goals exact D2
theorem bm5{st:Stmt}:∀(l:List Nat) {g:DS},JS X st g->JS X st (l.foldl (fun g i=>av8 i g) g)
 | [],_,h=>h
 | i::l,_,h=>bm5 l (bQ2 i h)
theorem bX5(R:Sound S r) (F:Fit S c X) (st:Stmt):JS X st (xS S r c st):=by
 unfold xS fzW
 split
 ·exact bc6 R F st
 ·exact bm5 _ (bc6 R F st)
theorem bn2{f:Stmt->DS}(h:∀st,JS X st (f st)):∀sts,JSs X sts (evB f sts)
 | []=>bx2
 | [s]=>bx1 (h s)
 | s::t::F5=>bj2 (h s) (bn2 h (t::F5))
theorem bs1(R:Sound S r):Sound S (step S r) :=
 ⟨fun F=>bX9 R F,fun F=>bX6 R F,fun F=>bX7 R F,fun F=>bX4 R F,fun F=>bX8 R F,fun F=>bn2 (bX5 R F)⟩
theorem bF8(S:Sg):∀n,Sound S (ev S n)
 | 0=>⟨fun _ _=>F7,fun _ _=>bF2,fun _ _=>ad0,fun _ _=>as8,fun _ _=>aD1,fun _ _ ρ fl q=>by cases q⟩
 | n+1=>bs1 (bF8 S n)
end
structure Fd where
 x:Str
 st:Stmt
 ps:List Str
 N:List Str
 own:List Nat:=[]
 tx:List Nat:=[]
 dx:List Nat:=[]
 old:Bool:=false
 fz:List (Nat×List Nat):=[]
 hc:List ((Nat×Nat)×List Nat):=[]
def fdm(x:Str) (st:Stmt) (n:Nat) (N:List Str) (old:Bool:=false):Fd:={ x,st,ps:=N.take n,N,old }
def Fd.c(d:Fd):Kx:={ N:=d.N,sc:=F3 d.st,df:=true,own:=d.own,cpt:=[],tx:=d.tx,dx:=d.dx,old:=d.old,fz:=d.fz,hc:=d.hc }
def Fd.okB(d:Fd):Bool:=let sc:=F3 d.st
 sc.kind == .function && !sc.isCoroutine && !sc.isGenerator&&af0 d.N&&d.N.take d.ps.length==d.ps&&(d.ps.all fun x=>match sc.names.lookup x with|some .local=>true|some .cell=>true|_=>false)&&sc.names.all fun y=>match y.2 with | .free=>false|_=>true
theorem Fd.sc{d:Fd}(h:d.okB=true):FnScope d.N d.ps (F3 d.st):=by
 unfold Fd.okB at h
 simp only[Bool.and_eq_true,Bool.not_eq_true',beq_iff_eq,List.all_eq_true]at h
 obtain⟨⟨⟨⟨⟨⟨h1,h2⟩,h3⟩,h4⟩,h5⟩,h6⟩,h7⟩:=h
 refine⟨h1,h2,h3,ae9 h4,h5,fun x hx=>?_,fun y hy e=>?_⟩
 ·have:=h6 x hx
  split at this
  ·rename_i q;exact .inl q
  ·rename_i q;exact .inr q
  ·cases this
 ·have:=h7 y hy
  rw[e]at this
  cases this
def KF(K:PySem.W.Frag) (x:Str) (st:Stmt):Prop:=∃(f:Addr) (oc:Value) (od:Option Addr) (sl:Array (Option Value)) (kV dc pm:Value) (an:Option Addr) (cd ct:Value),
 PySem.W.nsIn K mainGlobals x=some (some (.ref f))/\K.lookup f=some ⟨oc,od,.func (PySem.W.fnOf x x (S4 st) (N8 st) (F3 st) .none kV dc pm an cd ct),sl⟩/\PySem.W.codeIn K cd x=true/\PySem.W.keepIn K (.ref f)=true
theorem cd8{K:PySem.W.Frag}{x:Str}{st:Stmt}{f:Addr}{oc:Value}{od:Option Addr}{sl:Array (Option Value)}{kV dc pm:Value}{an:Option Addr}{cd ct:Value}(a:PySem.W.nsIn K mainGlobals x=some (some (.ref f)))
  (l:K.lookup f=some ⟨oc,od,.func (PySem.W.fnOf x x (S4 st) (N8 st) (F3 st) .none kV dc pm an cd ct),sl⟩) (c:PySem.W.codeIn K cd x=true) (k:PySem.W.keepIn K (.ref f)=true):KF K x st:=⟨f,oc,od,sl,kV,dc,pm,an,cd,ct,a,l,c,k⟩
abbrev Tab:=List (Str×FnD×Nat)
section
variable {P:Program}{w:World}{K:PySem.W.Frag}{mg:Str->Option Value}{base:Heap}{cs:List (Str×D)}{bl:List Str}
structure Md (K:PySem.W.Frag) (mg:Str->Option Value) (cs:List (Str×D)) (bl:List Str):Prop where
 ns:∀x v,PySem.W.nsIn K mainGlobals x=some (some v)->mg x=some v
 css:∀x d,cs.lookup x=some d->∃u,bW9 K d u/\mg x=some u
 bls:∀x,bl.contains x=true->mg x=none
def TOk(P:Program) (w:World) (K:PySem.W.Frag) (mg:Str->Option Value) (base:Heap) (k:Nat) (tab:Tab):Prop:=∀x F n,tab.lookup x=some (F,n)->(∃(f:Addr) (fd:FuncData) (ps:List Str),
 FnOk P w K mg base CX0 k f fd ps (spF K n F)/\mg x=some (.ref f)/\PySem.W.keepIn K (.ref f)=true/\o9 K fd ps [])\/(mg x=none/\bX2 x F n)
theorem TOk.nil:TOk P w K mg base 0 []:=fun x F n h=>by cases h
theorem TOk.mono{j k:Nat}{tab:Tab}(T:TOk P w K mg base j tab) (h:j<=k):TOk P w K mg base k tab:=fun x F n e =>(T x F n e).imp (fun⟨f,fd,ps,h1,h2,h3,h4⟩=>⟨f,fd,ps,h1.mono h,h2,h3,h4⟩) id
def UA:Nat->(List Value->Prop)->Prop
 | 0,P=>P []
 | n+1,P=>∀a,UA n fun us=>P (a::us)
theorem ua:∀{n:Nat}{P:List Value->Prop},UA n P->∀us:List Value,us.length=n->P us
 | 0,_,h,[],_=>h
 | _+1,P,h,a::us,e=>ua (P:=fun us=>P (a::us)) (h a) us (Nat.succ.inj e)
def Bd(d:Fd):Prop:=∀(kV doc pm:Value) (an:Option Addr) (cdv ct:Value),UA d.ps.length fun us=>bindArgs (PySem.W.fnOf d.x d.x (S4 d.st) (N8 d.st) (F3 d.st) .none kV doc pm an cdv ct) ⟨us,[]⟩=pure (d.ps.zip us)
def rd(tab:Tab) (cs:List (Str×D)) (bl:List Str) (d:Fd):FnD:=D1 ((ev ⟨tab,cs,bl⟩ 99).b d.c (N8 d.st)) d.N.length
theorem bm9{k:Nat}{tab:Tab}{d:Fd}{f:Addr}{fd:FuncData}(M:Md K mg cs bl) (T:TOk P w K mg base k tab) (ok:d.okB=true) (Fn:Fun K d.x d.x d.st f fd):FnOk P w K mg base CX0 (k+1) f fd d.ps (spF K d.ps.length (rd tab cs bl d)):=by
 have Sc:=Fd.sc ok
 refine bA2 (N:=d.N) Fn Sc fun cdv A outer s H E hr=>(bF8 ⟨tab,cs,bl⟩ 99).b (c:=d.c) ?_ _
 refine⟨rfl,rfl,Sc.nd,rfl,rfl,hr.units,fun _=>⟨fun _=>rfl,Sc.kind⟩,fun x F n h=>?_,M.css,M.bls⟩
 exact(T x F n h).imp (fun⟨f',fd',ps,h1,h2,h3,h4⟩=>⟨k,f',fd',ps,h1,hr,h2,h3,h4⟩) id
theorem aJ5{x:Str}{st:Stmt}(h:KF K x st) (M:Md K mg cs bl):∃(f:Addr) (kV dc pm:Value) (an:Option Addr) (cd ct:Value),Fun K x x st f (PySem.W.fnOf x x (S4 st) (N8 st) (F3 st) .none kV dc pm an cd ct)/\mg x=some (.ref f):=by
 obtain⟨f,oc,od,sl,kV,dc,pm,an,cd,ct,a,l,cc,kk⟩:=h
 exact⟨f,kV,dc,pm,an,cd,ct,bU4 l cc kk,M.ns _ _ a⟩
theorem TOk.cons{k:Nat}{tab:Tab}{x:Str}{F:FnD}{n:Nat}(T:TOk P w K mg base k tab) (h:∃(f:Addr) (fd:FuncData) (ps:List Str),FnOk P w K mg base CX0 k f fd ps (spF K n F)/\mg x=some (.ref f)/\PySem.W.keepIn K (.ref f)=true/\o9 K fd ps []) :
  TOk P w K mg base k ((x,F,n)::tab):=fun y G m e=>by
 rw[List.lookup_cons]at e
 split at e
 ·rename_i q
  cases e
  simp only[beq_iff_eq]at q
  subst q
  exact .inl h
 ·exact T y G m e
theorem TOk.add{k:Nat}{tab:Tab}(T:TOk P w K mg base k tab) (M:Md K mg cs bl) (d:Fd) (h:KF K d.x d.st) (F:FnD) (e:rd tab cs bl d=F:=by kernel_rfl) (ok:d.okB=true:=by kernel_rfl) (bd:Bd d:=by repeat (first|exact rfl|intro _)):TOk P w K mg base (k+1) ((d.x,F,d.ps.length)::tab):=by
 subst e
 obtain⟨f,kV,dc,pm,an,cd,ct,Fn,hm⟩:=aJ5 h M
 exact(T.mono (Nat.le_succ k)).cons ⟨f,_,d.ps,bm9 M T ok Fn,hm,Fn.kp,.all (ua (bd kV dc pm an cd ct))⟩
theorem TOk.rec{k:Nat}{tab:Tab}(T:TOk P w K mg base k tab) (M:Md K mg cs bl) (d:Fd) (h:KF K d.x d.st) (F:Nat->FnD) (j:Nat) (e0:F 0=fun _=>none:=by rfl) (e:∀j,rd ((d.x,F j,d.ps.length)::tab) cs bl d=F (j+1):=by intro;kernel_rfl) (ok:d.okB=true:=by kernel_rfl) (bd:Bd d:=by repeat (first|exact rfl|intro _)) :
  TOk P w K mg base (k+j) ((d.x,F j,d.ps.length)::tab):=by
 obtain⟨f,kV,dc,pm,an,cd,ct,Fn,hm⟩:=aJ5 h M
 have bb:o9 K _ d.ps []:=.all (ua (bd kV dc pm an cd ct))
 have main:∀j,FnOk P w K mg base CX0 (k+j) f (PySem.W.fnOf d.x d.x (S4 d.st) (N8 d.st) (F3 d.st) .none kV dc pm an cd ct) d.ps (spF K d.ps.length (F j)):=fun j=>by
  induction j with
  | zero =>
   rw[e0]
   exact⟨fun vs H Q E h=>h.1,fun A outer s H args us vs Q E hr e0 hb hv hs=>by obtain⟨_,Hf,ds,d,_,_,e,_⟩:=hs;cases e⟩
  | succ j ih =>
   rw[← e j]
   exact bm9 M ((T.mono (Nat.le_add_right k j)).cons ⟨f,_,d.ps,ih,hm,Fn.kp,bb⟩) ok Fn
 exact(T.mono (Nat.le_add_right k j)).cons ⟨f,_,d.ps,main j,hm,Fn.kp,bb⟩
theorem bw6{k:Nat}{tab:Tab}{F:FnD}{fa:Addr}{x:Str}(M:Md K mg cs bl) (T:∀base:Heap,TOk P w K mg base k tab) (d:Fd) (h:KF K d.x d.st) (e:rd tab cs bl d=F) (hm:mg d.x=some (.ref fa)) (hp:d.ps=[x]:=by rfl) (ok:d.okB=true:=by kernel_rfl) (bd:Bd d:=by repeat (first|exact rfl|intro _)) :
  ∃fd:FuncData,(∀(s:Shared) (u:Value),BindsTo s fd ⟨[u],[]⟩ [(x,u)])/\∀base:Heap,FnOk P w K mg base CX0 (k+1) fa fd [x] (spF K 1 F):=by
 subst e
 obtain⟨f,kV,dc,pm,an,cd,ct,Fn,hm'⟩:=aJ5 h M
 cases hm.symm.trans hm'
 refine⟨PySem.W.fnOf d.x d.x (S4 d.st) (N8 d.st) (F3 d.st) .none kV dc pm an cd ct,fun s u=>.of_eq ?_,fun base=>?_⟩
 ·have:=ua (bd kV dc pm an cd ct) [u] (by rw[hp];rfl)
  rw[hp]at this
  exact this
 ·have:=bm9 M (T base) ok Fn
  rw[hp]at this
  exact this
end
abbrev cn1:=List (Str×(Str->Option D))
abbrev cn3:=List (Str×(List D->Option Str)×Nat)
structure Rg where
 rf:cn3
 cl:List Str
 tb:List (Str×List (Str×Bool))
 sb:List (Str×List Str)
 nb:List (Str×List Str)
 xf:cn1
section
variable (S:Sg) (T:Rg)
end
section
variable {S:Sg}{T:Rg}{c:Kx}{X:Cx}
end
section
variable {P:Program}{w:World}{K:PySem.W.Frag}{mg:Str->Option Value}{base:Heap}{cs:List (Str×D)}{bl:List Str}
end
section
variable {P:Program}{w:World}{K:PySem.W.Frag}{mg:Str->Option Value}{base:Heap}{cs:List (Str×D)}{bl:List Str}
end
end G
namespace Sh
open PySem PySem.Spec PyProof.Rows L2 G
def au7:DS:=(B0 (dIx (A7 0) ⇑0))
def M3:List D->Option D:=D1 au7 1
def ah9:DS:=(B0 (dIx (A7 0) ⇑1))
def O7:List D->Option D:=D1 ah9 1
def aG0:DS:=(B0 (dIx (A7 0) ⇑2))
def O8:List D->Option D:=D1 aG0 1
def ba9:DS:=(B0 (dIx (A7 0) ⇑3))
def P9:List D->Option D:=D1 ba9 1
def aG4:DS:=(B0 (A4 eqD (A3 M3 (A0 (A1 0) A2)) (dC (.str "put"))))
def T4:List D->Option D:=D1 aG4 1
def aG5:DS:=(B0 (A4 eqD (A3 M3 (A0 (A1 0) A2)) (dC (.str "out"))))
def o0:List D->Option D:=D1 aG5 1
def ap2(self:List D->Option D):DS:=(B0 (aS0 (qE (A4 A9 (D6 (A0 ⇑0 A2)) (D6 (B6 1 [] (E7 (A1 0)) (B3 0) (tB2 eqD (dIx (A7 0) ⇑0) (dC (.str "group"))) (A4 A9 ⇑1 (A3 self (A0 (dIx (A7 0) ⇑5) A2)))))))))
def N4:Nat->List D->Option D
 | 0=>fun _=>none
 | k+1=>D1 (ap2 (N4 k)) 1
def K4:DS:=(A8 (V6 (A1 1) (M9 4 (C0 (B3 2) (C0 (B3 3) (C0 (B3 4) (C0 (B3 5) O5)))))) (A8 (sIf (tB2 gtI (A1 4) (L9 (A7 0))) (B0 (dC .none)) C5) (A8 (sIf (tB2 eqD (A1 2) (dC (.str "put"))) (B0 (A4 A9 (A4 A9 (E4 (A1 0) C4 (B5 (A1 4))) (B1 (A0 (A1 5) A2))) (E4 (A1 0) (B5 (A1 4)) C4))) C5) (A8 (sIf (F8 (tB2 eqD (A1 4) (L9 (A7 0))) (tB2 neD (dIx (A7 0) (A1 4)) (A1 5))) (B0 (dC .none)) C5) (B0 (A4 A9 (E4 (A1 0) C4 (B5 (A1 4))) (E4 (A1 0) (B5 (A4 A9 (A1 4) ⇑1)) C4)))))))
def O1:List D->Option D:=D1 K4 6
def S6:DS:=(B2 2 (aS2 (dC (.dict (mgD [("manner", .int 2),("strength", .int 3),("shown", .int 4)]))) (dIx (A7 1) ⇑0) ⇑5))
def G1:DS:=(sIf (tB2 ltI (A1 2) ⇑5) (A8 (sIf (F8 (tB2 neD (dIx (A7 0) (A1 2)) (dIx (A7 1) ⇑2)) (F9 (tB2 eqD (dIx (A7 1) ⇑0) (dC (.str "manner"))) (tB2 eqD (dIx (A7 0) ⇑0) (dC (.str "tone"))))) (B0 (dC .none)) C5) (B0 (A4 A9 (A4 A9 (E4 (A1 0) C4 (B5 (A1 2))) (B1 (A0 (dIx (A7 1) ⇑3) A2))) (E4 (A1 0) (B5 (A4 A9 (A1 2) ⇑1)) C4)))) C5)
def P0:DS:=(sIf (tB2 neD (dIx (A7 0) ⇑0) (dC (.str "layer"))) (B0 (dC .none)) C5)
def L5:DS:=(sIf (tB2 eqD (dIx (A7 1) ⇑0) (dC (.str "place"))) (A8 (sIf (tB2 neD (E4 (A1 0) (B5 ⇑5) (B5 ⇑7)) (dIx (A7 1) ⇑2)) (B0 (dC .none)) C5) (B0 (A4 A9 (A4 A9 (E4 (A1 0) C4 (B5 ⇑5)) (dIx (A7 1) ⇑3)) (E4 (A1 0) (B5 ⇑7) C4)))) C5)
def j7:DS:=(V6 (A1 1) (M9 6 (C0 (B3 3) (C0 (B3 4) (C0 (B3 5) (C0 (B3 6) (C0 (B3 7) (C0 (B3 8) O5))))))))
def j4:DS:=(V6 (dIx (A7 0) ⇑8) (M9 3 (C0 (B3 9) (C0 (B3 10) (C0 (B3 11) O5)))))
def L4:DS:=(sIf (F8 (tB2 geI (A1 5) (A1 9)) (F8 (tB2 geI (A1 6) (A1 10)) (tB2 neD (dIx (A7 11) (A4 A9 (A4 C6 (A1 6) (A1 9)) (A1 5))) (A1 7)))) (B0 (dC .none)) C5)
def i9:DS:=(B2 11 (A4 A9 (A4 A9 (E4 (A1 11) C4 (B5 (A4 A9 (A4 C6 (A1 6) (A1 9)) (A1 5)))) (B1 (A0 (A1 8) A2))) (E4 (A1 11) (B5 (A4 A9 (A4 A9 (A4 C6 (A1 6) (A1 9)) (A1 5)) ⇑1)) C4)))
def i8:DS:=(B0 (A4 A9 (E4 (A1 0) C4 (B5 ⇑8)) (B1 (A0 (B1 (A0 (A1 9) (A0 (A1 10) (A0 (A1 11) A2)))) A2))))
def K2:DS:=(A8 S6 (A8 G1 (A8 P0 (A8 L5 (A8 j7 (A8 j4 (A8 L4 (A8 i9 i8))))))))
def K3:List D->Option D:=D1 K2 12
def ag6:DS:=(V6 (A1 0) (M9 3 (C0 (B3 2) (C0 (B3 3) (C0 (B3 4) O5)))))
def ag5:DS:=(B2 5 (aE9 (qN (B6 1 [] (E7 (A3 (E6 12) (A0 (A1 4) A2))) (B3 0) E9 (B1 (A0 (dIx (A7 0) ⇑1) (A0 (A1 0) A2)))))))
def g7:DS:=(sIf (tB2 (inD true) (dIx (A7 1) ⇑0) (B1 (A0 (dC (.str "put")) (A0 (dC (.str "out")) A2)))) (A8 (sIf (tB2 (G.inK true) (dIx (A7 1) ⇑1) (A1 5)) (B0 (dC .none)) C5) (A8 (B2 6 (A3 K3 (A0 (ab0 (A1 5) (dIx (A7 1) ⇑1)) (A0 (A1 1) A2)))) (A8 (sIf (tB2 isB (A1 6) (dC .none)) (B0 (dC .none)) C5) (B0 (B1 (A0 (A1 2) (A0 (A1 3) (A0 (A3 (K0 12) (A0 (A1 4) (A0 (dIx (A7 1) ⇑1) (A0 (B1 (A0 (A1 6) A2)) A2)))) A2)))))))) C5)
def L1:DS:=(sIf (F9 (tB2 eqD (dIx (A7 1) ⇑0) (dC (.str "put"))) (tB2 neD (D6 (B6 1 [5] (E7 (A3 (E6 12) (A0 (B1 (A0 (dIx (A7 1) ⇑3) A2)) A2))) (B3 0) (tB2 (G.inK false) (dIx (A7 0) ⇑1) (A1 1)) (A1 0))) (D6 A2))) (B0 (dC .none)) C5)
def U3:DS:=(sIf (tB2 eqD (dIx (A7 1) ⇑1) (dC (.str ""))) (B2 7 (A3 O1 (A0 (A1 4) (A0 (A1 1) A2)))) (sIf (F8 (tB2 (G.inK true) (dIx (A7 1) ⇑1) (A1 5)) (tB2 neD (dIx (qE (ab0 (A1 5) (dIx (A7 1) ⇑1))) ⇑0) (dC (.str "group")))) (B2 7 (dC .none)) (A8 (B2 8 (ab0 (A1 5) (dIx (A7 1) ⇑1))) (A8 (B2 7 (A3 O1 (A0 (dIx (A7 8) ⇑5) (A0 (A1 1) A2)))) (sIf (tB2 am0 (A1 7) (dC .none)) (B2 7 (A3 (K0 12) (A0 (A1 4) (A0 (dIx (A7 1) ⇑1) (A0 (B1 (A0 (A4 A9 (E4 (A1 8) C4 (B5 ⇑5)) (B1 (A0 (A1 7) A2))) A2)) A2))))) C5)))))
def U2:DS:=(sIf (F8 (tB2 isB (A1 7) (dC .none)) (tB2 gtI (A3 (N4 12) (A0 (A1 7) A2)) ⇑3)) (B0 (dC .none)) C5)
def g6:DS:=(B0 (B1 (A0 (A1 2) (A0 (A1 3) (A0 (A1 7) A2)))))
def ap1:DS:=(A8 ag6 (A8 ag5 (A8 g7 (A8 L1 (A8 U3 (A8 U2 g6))))))
def W5:List D->Option D:=D1 ap1 9
def aT2:DS:=(A8 (B2 4 (A4 A9 (D6 (A0 (B1 (A0 (dC (.str "")) (A0 (A1 2) A2))) A2)) (D6 (B6 1 [] (E7 (A3 (E6 12) (A0 (A1 2) A2))) (B3 0) (tB2 eqD (dIx (A7 0) ⇑0) (dC (.str "group"))) (B1 (A0 (dIx (A7 0) ⇑1) (A0 (dIx (A7 0) ⇑5) A2))))))) (A8 (V6 (dIx (A7 4) (A3 A5 (A0 (A1 0) (A0 (A1 1) (A0 (L9 (A7 4)) A2))))) (M9 2 (C0 (B3 5) (C0 (B3 6) O5)))) (A8 (B2 7 (A3 P3 (A0 (A1 0) (A0 (A4 A9 (A1 1) ⇑10) (A0 (A1 3) (A0 (dC (.str "over")) A2)))))) (A8 (sIf (tB2 eqD (A3 A5 (A0 (A1 0) (A0 (A4 A9 (A1 1) ⇑1) (A0 ⇑3 A2)))) ⇑0) (B2 7 (B1 (A0 (dC (.str "group")) (A0 (A1 3) (A0 (dC (.str "plus")) (A0 (B1 (A0 ⇑1 (A0 ⇑2 A2))) (A0 (dC (.bool true)) (A0 (B1 (A0 (A4 A9 (A4 A9 (E4 (A1 7) C4 (B5 ⇑1)) (B1 (A0 (A4 A9 (A1 3) (dC (.str "q"))) A2))) (E4 (A1 7) (B5 ⇑2) C4)) A2)) A2)))))))) C5) (B0 (B1 (A0 (dC (.str "put")) (A0 (A1 5) (A0 (A3 A5 (A0 (A1 0) (A0 (A4 A9 (A1 1) ⇑2) (A0 (A4 A9 (L9 (A7 6)) ⇑1) A2)))) (A0 (A1 7) A2))))))))))
def ak4:List D->Option D:=D1 aT2 8
def ag7:DS:=(B2 4 (dIx (A7 2) ⇑2))
def h9:DS:=(B2 5 (A3 (E6 12) (A0 (A1 4) A2)))
def Q8:DS:=(sIf (F8 (tB2 eqD (A1 5) (D6 A2)) (tB2 eqD (A3 A5 (A0 (A1 0) (A0 (A1 1) (A0 ⇑4 A2)))) ⇑0)) (B0 (A3 ak4 (A0 (A1 0) (A0 (A4 A9 (A1 1) ⇑20) (A0 (A1 4) (A0 (A1 3) A2)))))) C5)
def g9:DS:=(B2 6 (dIx (A7 5) (A3 A5 (A0 (A1 0) (A0 (A4 A9 (A1 1) ⇑1) (A0 (L9 (A7 5)) A2))))))
def g8:DS:=(B2 7 (A3 A5 (A0 (A1 0) (A0 (A4 A9 (A1 1) ⇑2) (A0 ⇑6 A2)))))
def O3:DS:=(sIf (tB2 eqD (A1 7) ⇑0) (A8 (B2 8 (A4 A9 (D6 (A0 (B1 (A0 (dC (.str "")) (A0 (A1 4) A2))) A2)) (D6 (B6 1 [] (E7 (A1 5)) (B3 0) (tB2 eqD (dIx (A7 0) ⇑0) (dC (.str "group"))) (B1 (A0 (dIx (A7 0) ⇑1) (A0 (dIx (A7 0) ⇑5) A2))))))) (A8 (V6 (dIx (qN (B6 1 [6] (E7 (A1 8)) (B3 0) (tB2 (inD false) (A1 1) (dIx (A7 0) ⇑1)) (A1 0))) ⇑0) (M9 2 (C0 (B3 9) (C0 (B3 10) O5)))) (B0 (B1 (A0 (dC (.str "out")) (A0 (A1 9) (A0 (u6 (A1 10) (A1 6)) (A0 (A1 6) A2)))))))) C5)
def L3:DS:=(sIf (F8 (tB2 eqD (A1 7) ⇑1) (tB2 eqD (dIx (A7 6) ⇑0) (dC (.str "tone")))) (B0 (B1 (A0 (dC (.str "shown")) (A0 (dIx (A7 6) ⇑1) (A0 (dIx (A7 6) ⇑4) (A0 (A4 eqD (A3 A5 (A0 (A1 0) (A0 (A4 A9 (A1 1) ⇑3) (A0 ⇑2 A2)))) ⇑0) A2)))))) C5)
def Q7:DS:=(sIf (F8 (tB2 eqD (A1 7) ⇑2) (tB2 eqD (dIx (A7 6) ⇑0) (dC (.str "group")))) (B0 (B1 (A0 (dC (.str "strength")) (A0 (dIx (A7 6) ⇑1) (A0 (dIx (A7 6) ⇑3) (A0 (A3 G7 (A0 (A1 0) (A0 (A4 A9 (A1 1) ⇑4) A2))) A2)))))) C5)
def U5:DS:=(sIf (tB2 eqD (A1 7) ⇑3) (A8 (B2 11 (D6 (A0 (dC (.str "over")) (A0 (dC (.str "multiply")) (A0 (dC (.str "screen")) (A0 (dC (.str "plus")) (A0 (dC (.str "atop")) (A0 (dC (.str "cut")) A2)))))))) (B0 (B1 (A0 (dC (.str "manner")) (A0 (dIx (A7 6) ⇑1) (A0 (dIx (A7 6) ⇑2) (A0 (dIx (A7 11) (A3 A5 (A0 (A1 0) (A0 (A4 A9 (A1 1) ⇑3) (A0 ⇑6 A2))))) A2))))))) C5)
def U4:DS:=(sIf (tB2 eqD (A1 7) ⇑4) (B0 (B1 (A0 (dC (.str "place")) (A0 (dIx (A7 6) ⇑1) (A0 (E4 (A1 6) (B5 ⇑5) (B5 ⇑7)) (A0 (B1 (A0 (A4 V2 (A3 A5 (A0 (A1 0) (A0 (A4 A9 (A1 1) ⇑3) (A0 ⇑5 A2)))) ⇑2) (A0 (A4 V2 (A3 A5 (A0 (A1 0) (A0 (A4 A9 (A1 1) ⇑4) (A0 ⇑5 A2)))) ⇑2) A2))) A2)))))) C5)
def X3:DS:=(V6 (dIx (A7 6) ⇑8) (M9 3 (C0 (B3 12) (C0 (B3 13) (C0 (B3 14) O5)))))
def X2:DS:=(B2 15 (A3 A5 (A0 (A1 0) (A0 (A4 A9 (A1 1) ⇑3) (A0 (A1 12) A2)))))
def X1:DS:=(B2 16 (A3 A5 (A0 (A1 0) (A0 (A4 A9 (A1 1) ⇑4) (A0 (A1 13) A2)))))
def X0:DS:=(B0 (B1 (A0 (dC (.str "spot")) (A0 (dIx (A7 6) ⇑1) (A0 (A1 15) (A0 (A1 16) (A0 (dIx (A7 14) (A4 A9 (A4 C6 (A1 16) (A1 12)) (A1 15))) (A0 (A3 R0 (A0 (A1 0) (A0 (A4 A9 (A1 1) ⇑7) A2))) A2))))))))
def W4:DS:=(A8 ag7 (A8 h9 (A8 Q8 (A8 g9 (A8 g8 (A8 O3 (A8 L3 (A8 Q7 (A8 U5 (A8 U4 (A8 X3 (A8 X2 (A8 X1 X0)))))))))))))
def R1:List D->Option D:=D1 W4 17
def R9:DS:=(B0 (dOr (A3 T4 (A0 (A1 0) A2)) (A3 o0 (A0 (A1 0) A2))))
def J7:List D->Option D:=D1 R9 1
def N1:DS:=(B0 (B1 (A0 (A3 M3 (A0 (A1 0) A2)) (A0 (A3 O7 (A0 (A1 0) A2)) (A0 (A1 1) (A0 (A3 P9 (A0 (A1 0) A2)) A2))))))
def N3:List D->Option D:=D1 N1 2
def R8:DS:=(B0 (v8 (J2 (A3 J7 (A0 (A1 0) A2))) (A3 (E8 12) (A0 (B1 (A0 (A3 P9 (A0 (A1 0) A2)) A2)) A2)) (D6 A2)))
def K6:List D->Option D:=D1 R8 1
def R7:DS:=(B0 (A4 A9 (D6 (A0 (A3 O7 (A0 (A1 0) A2)) A2)) (A3 K6 (A0 (A1 0) A2))))
def S0:List D->Option D:=D1 R7 1
def F6:DS:=(A8 (B2 2 (A3 S0 (A0 (A1 1) A2))) (B0 (bB5 (qN (B6 1 [2] (E7 (A3 K6 (A0 (A1 0) A2))) (B3 0) E9 (A4 (inD false) (A1 0) (A1 1)))))))
def B9:List D->Option D:=D1 F6 3
def T0:DS:=(A8 (sIf (tB2 eqD (A3 M3 (A0 (A1 0) A2)) (A3 M3 (A0 (A1 1) A2))) (B0 (dC (.bool false))) C5) (A8 (B2 2 (bB6 (A4 V2 (A3 O8 (A0 (A1 0) A2)) (A3 O8 (A0 (A1 1) A2))))) (B0 (dOr (A4 eqD (A1 2) ⇑0) (P8 (A4 eqD (A1 2) ⇑1) (A3 T4 (A0 (A1 0) A2)))))))
def T2:List D->Option D:=D1 T0 3
def P2:DS:=(B0 (P8 (A3 J7 (A0 (A1 0) A2)) (P8 (A3 J7 (A0 (A1 1) A2)) (A4 eqD (A3 O7 (A0 (A1 0) A2)) (A3 O7 (A0 (A1 1) A2))))))
def G4:List D->Option D:=D1 P2 2
def aA4:DS:=(A8 (sIf (F8 (J2 (A3 B9 (A0 (A1 0) (A0 (A1 1) A2)))) (J2 (A3 B9 (A0 (A1 1) (A0 (A1 0) A2))))) (B0 (dC (.bool true))) C5) (A8 (sIf (J2 (A3 G4 (A0 (A1 0) (A0 (A1 1) A2)))) (B0 (A3 T2 (A0 (A1 0) (A0 (A1 1) A2)))) C5) (B0 (A4 eqD (E4 (A1 0) C4 (B5 (Y0 ⇑2))) (E4 (A1 1) C4 (B5 (Y0 ⇑2)))))))
def ak5:List D->Option D:=D1 aA4 2
def J5:DS:=(A8 (B2 2 (A3 O8 (A0 (A1 0) A2))) (A8 (B2 3 (A3 O8 (A0 (A1 1) A2))) (A8 (sIf (F9 (J2 (A3 T4 (A0 (A1 1) A2))) (tB2 leI (A1 3) (A1 2))) (B0 (B1 (A0 (A1 1) (A0 (A3 N3 (A0 (A1 0) (A0 (A4 A9 (A1 2) ⇑1) A2))) A2)))) C5) (A8 (sIf (F9 (J2 (A3 o0 (A0 (A1 1) A2))) (tB2 ltI (A1 3) (A1 2))) (B0 (B1 (A0 (A1 1) (A0 (A3 N3 (A0 (A1 0) (A0 (A4 V2 (A1 2) ⇑1) A2))) A2)))) C5) (B0 (B1 (A0 (A3 N3 (A0 (A1 1) (A0 (v8 (J2 (A3 T4 (A0 (A1 0) A2))) (A4 V2 (A1 3) ⇑1) (A4 A9 (A1 3) ⇑1)) A2))) (A0 (A1 0) A2))))))))
def J6:List D->Option D:=D1 J5 4
def n9:DS:=(A8 (sIf (J2 (A3 ak5 (A0 (A1 0) (A0 (A1 1) A2)))) (B0 (dC .none)) C5) (A8 (sIf (J2 (A3 G4 (A0 (A1 0) (A0 (A1 1) A2)))) (B0 (A3 J6 (A0 (A1 0) (A0 (A1 1) A2)))) C5) (B0 (B1 (A0 (A1 1) (A0 (A1 0) A2))))))
def F0:List D->Option D:=D1 n9 2
def Y2:DS:=(A8 (sIf (tB2 (inD false) (dIx (A7 0) ⇑0) (B1 (A0 (dC (.str "put")) (A0 (dC (.str "out")) A2)))) (B0 (D6 (B6 1 [] (E7 (A3 (E6 12) (A0 (B1 (A0 (dIx (A7 0) ⇑3) A2)) A2))) (B3 0) E9 (dIx (A7 0) ⇑1)))) C5) (B0 (D6 A2)))
def S5:List D->Option D:=D1 Y2 1
def Z3:DS:=(B2 2 (A3 S5 (A0 (A1 0) A2)))
def Z2:DS:=(B2 3 (A3 S5 (A0 (A1 1) A2)))
def Z1:DS:=(sIf (F8 (tB2 (inD false) (dIx (A7 0) ⇑1) (A1 3)) (F8 (tB2 (inD false) (dIx (A7 1) ⇑1) (A1 2)) (tB2 neD (D6 (B6 1 [3] (E7 (A1 2)) (B3 0) (tB2 (inD false) (A1 0) (A1 1)) (A1 0))) (D6 A2)))) (B0 (dC .none)) C5)
def R5:DS:=(sIf (F9 (tB2 eqD (A1 2) (D6 A2)) (F9 (tB2 eqD (A1 3) (D6 A2)) (tB2 eqD (E4 (A1 0) C4 (B5 (Y0 ⇑2))) (E4 (A1 1) C4 (B5 (Y0 ⇑2)))))) (B0 (dC .none)) C5)
def Z0:DS:=(sIf (F8 (tB2 eqD (A1 2) (D6 A2)) (F8 (tB2 eqD (A1 3) (D6 A2)) (tB2 neD (dIx (A7 0) ⇑1) (dIx (A7 1) ⇑1)))) (B0 (B1 (A0 (A1 1) (A0 (A1 0) A2)))) C5)
def Y9:DS:=(B2 4 (dIx (A7 0) ⇑2))
def Y8:DS:=(B2 5 (dIx (A7 1) ⇑2))
def Y7:DS:=(sIf (F9 (tB2 neD (dIx (A7 0) ⇑0) (dIx (A7 1) ⇑0)) (F8 (tB2 eqD (A1 4) (A1 5)) (F9 (tB2 eqD (dIx (A7 0) ⇑0) (dC (.str "put"))) (ap9 (L0 leI leI (Y0 ⇑1) (A4 V2 (A1 4) (A1 5)) ⇑1))))) (B0 (dC .none)) C5)
def Y6:DS:=(sIf (F8 (tB2 ltI (A1 5) (A1 4)) (F9 (tB2 eqD (dIx (A7 1) ⇑0) (dC (.str "put"))) (tB2 eqD (A1 5) (A1 4)))) (A8 (B2 6 (dIx (qN (A0 (Y0 ⇑1) (A0 ⇑1 A2))) (v9 (A4 eqD (dIx (A7 1) ⇑0) (dC (.str "put")))))) (B0 (B1 (A0 (A1 1) (A0 (A4 A9 (A4 A9 (E4 (A1 0) C4 (B5 ⇑2)) (B1 (A0 (A4 A9 (A1 4) (A1 6)) A2))) (E4 (A1 0) (B5 ⇑3) C4)) A2))))) C5)
def ai3:DS:=(B2 6 (dIx (qN (A0 (Y0 ⇑1) (A0 ⇑1 A2))) (v9 (A4 eqD (dIx (A7 0) ⇑0) (dC (.str "put"))))))
def V4:DS:=(B0 (B1 (A0 (A4 A9 (A4 A9 (E4 (A1 1) C4 (B5 ⇑2)) (B1 (A0 (A4 V2 (A1 5) (A1 6)) A2))) (E4 (A1 1) (B5 ⇑3) C4)) (A0 (A1 0) A2))))
def Y3:DS:=(A8 Z3 (A8 Z2 (A8 Z1 (A8 R5 (A8 Z0 (A8 Y9 (A8 Y8 (A8 Y7 (A8 Y6 (A8 ai3 V4))))))))))
def K5:List D->Option D:=D1 Y3 7
end Sh
namespace Sh
open PySem G L2 Sh
inductive Rp (o o':List Nd):List Nd->List Nd->Prop
 | top:Rp o o' o o'
 | deep {c e:List Nd}{nm:D}{m:Man}{s:Rat}{sh:Bool}{ns ns':List Nd}:Rp o o' ns ns'->Rp o o' (c ++ .group nm m s sh ns::e) (c ++ .group nm m s sh ns'::e)
theorem U7(a b:List Nd):Nd.Oks (a++b)↔Nd.Oks a/\Nd.Oks b:=by
 rw[Q2,Q2,Q2]
 constructor
 ·exact fun h=>⟨fun n hn=>h n (List.mem_append_left _ hn),fun n hn=>h n (List.mem_append_right _ hn)⟩
 ·intro h n hn
  rcases List.mem_append.mp hn with q|q
  ·exact h.1 n q
  ·exact h.2 n q
mutual
theorem br8:∀n:Nd,n.nms.length<=1000->n.thin
 | .layer ..,_=>by rw[Nd.thin];trivial
 | .tone ..,_=>by rw[Nd.thin];trivial
 | .group nm m s sh ns,h=>by
  rw[Nd.nms,List.length_cons]at h
  rw[Nd.thin]
  have:=thins_of ns (by omega)
  exact⟨by omega,this.1⟩
theorem thins_of:∀l:List Nd,(Nd.nmss l).length<=1000->Nd.thins l/\l.length<=(Nd.nmss l).length
 | [],_=>by rw[Nd.thins,Nd.nmss];exact⟨trivial,Nat.le_refl _⟩
 | n::r,h=>by
  rw[Nd.nmss,List.length_append]at h ⊢
  rw[Nd.thins]
  have h1:=br8 n (by omega)
  have h2:=thins_of r (by omega)
  have h3:1<=n.nms.length:=List.length_pos_iff.mpr (List.ne_nil_of_mem (U9 n))
  exact⟨⟨h1,h2.1⟩,by rw[List.length_cons];omega⟩
end
theorem Q3{d:D}(h:Nm d):M0 d:=by
 obtain⟨s,e,o,_⟩:=h
 exact⟨s,e,o⟩
end Sh
namespace Sh
open PySem G L2
theorem ak3{xs ys:List D}(h:xs.length+ys.length<=16777216):A9 (.list xs) (.list ys)=some (.list (xs++ys)):=if_pos h
theorem bh5(q:Q4):neB q q=false:=by
 cases h:neB q q with
 | false=>rfl
 | true=>exact absurd rfl (bN3 h)
mutual
def Nd.ws(nm:D) (oth:List Nd):Nd->Nd
 | .layer n m s sh lf tp mk w h l kb=>.layer n m s sh lf tp mk w h l kb
 | .tone n r s sh=>.tone n r s sh
 | .group n m s sh ns=>.group n m s sh (Nd.wss nm oth ns)
def Nd.wss(nm:D) (oth:List Nd):List Nd->List Nd
 | []=>[]
 | n::r=>if same n.nm nm=true then oth++Nd.wss nm oth r else n.ws nm oth::Nd.wss nm oth r
end
theorem bV3(a b:List Nd):Nd.ds (a++b)=Nd.ds a++Nd.ds b:=by rw[G5,G5,G5,List.map_append]
def wsb(f:Nat):DS:=(sIf (tB2 eqD (dIx (A7 4) ⇑1) (A1 1)) (av9 3 (A1 2)) (sIf (tB2 eqD (dIx (A7 4) ⇑0) (dC (.str "group"))) (S7 3 (A4 A9 (E4 (A1 4) C4 (B5 ⇑5)) (B1 (A0 (A3 (K0 f) (A0 (dIx (A7 4) ⇑5) (A0 (A1 1) (A0 (A1 2) A2)))) A2)))) (S7 3 (A1 4))))
end Sh
namespace Sh
open PySem G L2 Sh
theorem av5{nm:D}(hn:M0 nm) {oth:List Nd}(ho:oth.length<=1000) (f:Nat):∀(l:List Nd) (X:List D) (a0 a4:Option B),(∀n∈l,M0 n.nm)->X.length+1001*l.length<=2000000->(∀n∈l,∀nm' m s sh ns,n=.group nm' m s sh ns->K0 f [↥ns,nm,↥oth]=some ↥(Nd.wss nm oth ns)) ->
  ∃a4',Z7 (B3 4) (wsb f) (Nd.ds l) [a0,‹nm›,‹↥oth›,some (.own X),a4]=some (.nx [a0,‹nm›,‹↥oth›,some (.own (X++Nd.ds (Nd.wss nm oth l))),a4'])
 | [],X,a0,a4,_,_,_=>⟨a4,by rw[Nd.wss,Nd.ds,List.append_nil];rfl⟩
 | n::l,X,a0,a4,hs,hl,H=>by
  have hi:=cf9 (hs n (List.mem_cons_self ..)) hn
  rw[List.length_cons,Nat.mul_succ]at hl
  have hx:X.length < 16777216:=by omega
  have lo:(Nd.ds oth).length<=1000:=by rw[G5,List.length_map];exact ho
  have hx':X.length+(Nd.ds oth).length<=16777216:=by omega
  rw[Nd.ds,Nd.wss]
  have n1:∃ds:List D,n.d=.tuple ds/\atI ds 1=some n.nm:=by cases n<;>exact⟨_,by rw[Nd.d],rfl⟩
  cases q:same n.nm nm with
  | true =>
   rw[q]at hi
   obtain⟨a4',e⟩:=av5 hn ho f l (X++Nd.ds oth) a0 (‹n.d›) (fun x hx=>hs x (xmm _ hx)) (by rw[List.length_append];omega) (fun x hx=>H x (xmm _ hx))
   refine⟨a4',?_⟩
   have b:wsb f [a0,‹nm›,‹↥oth›,some (.own X),‹n.d›]=some (.nx [a0,‹nm›,‹↥oth›,some (.own (X++Nd.ds oth)),‹n.d›]):=by
    obtain⟨ds,ed,e1⟩:=n1
    rw[ed]
    wp_walk using evD,wsb,e1,hi,av9,if_pos hx'
   simp only[Z7,B3,xw0,xw1,xbs,b,if_true,bV3]
   rw[List.append_assoc]at e
   exact e
  | false =>
   rw[q]at hi
   obtain⟨a4',e⟩:=av5 hn ho f l (X++[(n.ws nm oth).d]) a0 (‹n.d›) (fun x hx=>hs x (xmm _ hx)) (by rw[List.length_append];show X.length+1+_<=_;omega) (fun x hx=>H x (xmm _ hx))
   refine⟨a4',?_⟩
   have b:wsb f [a0,‹nm›,‹↥oth›,some (.own X),‹n.d›]=some (.nx [a0,‹nm›,‹↥oth›,some (.own (X++[(n.ws nm oth).d])),‹n.d›]):=by
    cases n with
    | layer=>rw[Nd.ws,Nd.d];rw[Nd.nm]at hi;wp_walk using evD,wsb,au4,n8,hi,aX1,S7,if_pos hx
    | tone=>rw[Nd.ws,Nd.d];rw[Nd.nm]at hi;wp_walk using evD,wsb,bG7,ah8,hi,e_tg,S7,if_pos hx
    | group nm' m s sh ns =>
     have e1:=H _ (List.mem_cons_self ..) nm' m s sh ns rfl
     have cut:∀a b c d e f:D,O9 [a,b,c,d,e,f] none (some 5)=[a,b,c,d,e]:=fun _ _ _ _ _ _=>rfl
     have ct:∀a b c d e f:D,A9 (.tuple [a,b,c,d,e]) (.tuple [f])=some (.tuple [a,b,c,d,e,f]):=fun _ _ _ _ _ _=>rfl
     rw[Nd.ws,Nd.d,Nd.d]
     rw[Nd.nm]at hi
     wp_walk using evD,wsb,aS8,x9,aF6,hi,aX2,S7,if_pos hx,E4,cut,e1,ct
   simp only[Z7,B3,xw0,xw1,xbs,b,xft,if_false,Nd.ds]
   rw[List.append_assoc]at e
   exact e
theorem bI1{nm:D}(hn:M0 nm) {oth:List Nd}(ho:oth.length<=1000):∀(k:Nat) (l:List Nd) (f:Nat),Nd.dps l<=k->k+1<=f->l.length<=1000->Nd.thins l->(∀d∈Nd.nmss l,M0 d)->K0 f [↥l,nm,↥oth]=some ↥(Nd.wss nm oth l):=by
 have step:∀(l:List Nd) (f:Nat),l.length<=1000->(∀d∈Nd.nmss l,M0 d)->(∀n∈l,∀nm' m s sh ns,n=.group nm' m s sh ns->K0 f [↥ns,nm,↥oth]=some ↥(Nd.wss nm oth ns))->K0 (f+1) [↥l,nm,↥oth]=some ↥(Nd.wss nm oth l):=fun l f hl hs H=>by
  obtain⟨a4',e⟩:=av5 hn ho f l [] (‹↥l›) none (bN0 hs) (by show 0+_<=_;omega) H
  refine C2 (g:=aG2 (K0 f)) (ρ:=[‹↥l›,‹nm›,‹↥oth›,none,none]) rfl ?_
  have s1:(S2 (E7 (A1 0)) (B3 4) (wsb f)) [‹↥l›,‹nm›,‹↥oth›,some (.own []),none]=some (.nx [‹↥l›,‹nm›,‹↥oth›,some (.own ([]++Nd.ds (Nd.wss nm oth l))),a4']):=e
  exact(A6 (ρ':=[‹↥l›,‹nm›,‹↥oth›,some (.own []),none]) rfl).trans ((A6 s1).trans rfl)
 intro k
 induction k with
 | zero =>
  intro l f hd hf hl ht hs
  obtain⟨f,rfl⟩:∃g,f=g+1:=⟨f - 1,by omega⟩
  refine step l f hl hs fun n hn' nm' m s sh ns e=>?_
  have:=N7 hn'
  rw[e,Nd.dp]at this;omega
 | succ k ih =>
  intro l f hd hf hl ht hs
  obtain⟨f,rfl⟩:∃g,f=g+1:=⟨f - 1,by omega⟩
  refine step l f hl hs fun n hn' nm' m s sh ns e=>?_
  have h1:=N7 hn'
  have h2:=(O2 l).mp ht n hn'
  rw[e,Nd.dp]at h1
  rw[e,Nd.thin]at h2
  exact ih ns f (by omega) (by omega) h2.1 h2.2 fun d hd'=>hs d (aj8 hn' (by rw[e,Nd.nms];exact xmm _ hd'))
mutual
theorem bI2{nm:D}{oth:List Nd}:∀n:Nd,nm∉n.nms->n.ws nm oth=n
 | .layer ..,_=>by rw[Nd.ws]
 | .tone ..,_=>by rw[Nd.ws]
 | .group nm' m s sh ns,h=>by
  rw[Nd.nms]at h
  rw[Nd.ws,wt_id ns fun z=>h (xmm _ z)]
theorem wt_id{nm:D}{oth:List Nd}:∀l:List Nd,nm∉Nd.nmss l->Nd.wss nm oth l=l
 | [],_=>by rw[Nd.wss]
 | n::r,h=>by
  rw[Nd.nmss]at h
  have h1:nm∉n.nms:=fun z=>h (List.mem_append_left _ z)
  have ne:n.nm≠nm:=fun z=>h1 (by rw[← z];exact U9 n)
  rw[Nd.wss,N6 ne,if_neg (by simp),bI2 n h1,wt_id r fun z=>h (List.mem_append_right _ z)]
end
theorem aH0(nm:D) (oth:List Nd):∀a b:List Nd,Nd.wss nm oth (a++b)=Nd.wss nm oth a++Nd.wss nm oth b
 | [],b=>by rw[Nd.wss];rfl
 | n::a,b=>by
  rw[xca,Nd.wss,Nd.wss,aH0 nm oth a b]
  split
  ·rw[List.append_assoc]
  ·rfl
theorem bY3{a b oth l l':List Nd}{n:Nd}(r:Rp (a++n::b) (a++oth++b) l l'):(Nd.nmss l).Nodup->Nd.wss n.nm oth l=l':=by
 induction r with
 | top =>
  intro nd
  rw[C3,Nd.nmss]at nd
  have d1:=List.nodup_append.mp nd
  have d2:=List.nodup_append.mp d1.2.1
  have ha:n.nm∉Nd.nmss a:=fun z=>d1.2.2 n.nm z n.nm (List.mem_append_left _ (U9 n)) rfl
  have hb:n.nm∉Nd.nmss b:=fun z=>d2.2.2 n.nm (U9 n) n.nm z rfl
  rw[aH0,wt_id a ha,Nd.wss,J9,if_pos rfl,wt_id b hb,List.append_assoc]
 | @deep c e nm m s sh ns ns' r ih =>
  intro nd
  have hin:n.nm∈Nd.nmss ns:=by
   have:∀{x y:List Nd},Rp (a++n::b) (a++oth++b) x y->n.nm∈Nd.nmss x:=fun r=>by
    induction r with
    | top=>rw[C3,Nd.nmss];exact List.mem_append_right _ (List.mem_append_left _ (U9 n))
    | deep _ ih=>rw[C3,Nd.nmss,Nd.nms];exact List.mem_append_right _ (List.mem_append_left _ (xmm _ ih))
   exact this r
  rw[C3,Nd.nmss,Nd.nms]at nd
  have dc:=List.nodup_append.mp nd
  have dg:=List.nodup_append.mp dc.2.1
  have dn:=List.nodup_cons.mp dg.1
  have hc:n.nm∉Nd.nmss c:=fun z=>dc.2.2 n.nm z n.nm (by simp[hin]) rfl
  have hg:nm≠n.nm:=fun z=>dn.1 (z ▸ hin)
  have he:n.nm∉Nd.nmss e:=fun z=>dg.2.2 n.nm (by simp[hin]) n.nm z rfl
  rw[aH0,wt_id c hc,Nd.wss,show(Nd.group nm m s sh ns).nm=nm by rw[Nd.nm],N6 hg,if_neg (by simp),Nd.ws,ih dn.2,wt_id e he]
mutual
def Nd.al:Nd->List Nd
 | .layer nm m s sh lf tp mk w h l kb=>[.layer nm m s sh lf tp mk w h l kb]
 | .tone nm r s sh=>[.tone nm r s sh]
 | .group nm m s sh ns=>.group nm m s sh ns::Nd.als ns
def Nd.als:List Nd->List Nd
 | []=>[]
 | n::r=>Nd.al n++Nd.als r
end
mutual
theorem ao7:∀n:Nd,(Nd.al n).map Nd.nm=n.nms
 | .layer ..=>by rw[Nd.al,Nd.nms];rfl
 | .tone ..=>by rw[Nd.al,Nd.nms];rfl
 | .group nm m s sh ns=>by rw[Nd.al,Nd.nms,xmc,als_nms ns];rfl
theorem als_nms:∀l:List Nd,(Nd.als l).map Nd.nm=Nd.nmss l
 | []=>by rw[Nd.als,Nd.nmss];rfl
 | n::r=>by rw[Nd.als,Nd.nmss,List.map_append,ao7 n,als_nms r]
end
theorem ae3(a b:List Nd):Nd.als (a++b)=Nd.als a++Nd.als b:=by
 induction a with
 | nil=>rw[Nd.als];rfl
 | cons n a ih=>rw[xca,Nd.als,Nd.als,ih,List.append_assoc]
theorem aT1(f:Nat):∀(l:List Nd) (X:List D) (a0 a2:Option B),X.length+(Nd.als l).length<=900->(∀n∈l,∀nm' m s sh ns,n=.group nm' m s sh ns->E6 f [↥ns]=some (.list ((Nd.als ns).map Nd.d))) ->
  ∃a2',Z7 (B3 2) (alb f) (Nd.ds l) [a0,some (.own X),a2]=some (.nx [a0,some (.own (X++(Nd.als l).map Nd.d)),a2'])
 | [],X,a0,a2,_,_=>⟨a2,by rw[Nd.als,Nd.ds,xmn,List.append_nil];rfl⟩
 | n::l,X,a0,a2,hl,H=>by
  rw[Nd.als,List.length_append]at hl
  obtain⟨a2',e⟩:=aT1 f l (X++(Nd.al n).map Nd.d) a0 (‹n.d›) (by rw[List.length_append,List.length_map];omega) (fun x hx=>H x (xmm _ hx))
  refine⟨a2',?_⟩
  have b:alb f [a0,some (.own X),‹n.d›]=some (.nx [a0,some (.own (X++(Nd.al n).map Nd.d)),‹n.d›]):=by
   cases n with
   | layer=>rw[Nd.al]at hl ⊢;exact aF9 f rfl a0 X (by simp at hl;omega)
   | tone=>rw[Nd.al]at hl ⊢;exact aF9 f rfl a0 X (by simp at hl;omega)
   | group nm' m s sh ns =>
    rw[Nd.al,List.length_cons]at hl
    have:=ba6 (nm:=nm') (m:=m) (s:=s) (sh:=sh) f a0 X ((Nd.als ns).map Nd.d) (by omega) (by rw[List.length_map];omega) (H _ (List.mem_cons_self ..) nm' m s sh ns rfl)
    rw[this,Nd.al,xmc,List.append_assoc]
    rfl
  rw[Nd.ds,Nd.als,List.map_append,← List.append_assoc]
  simp only[Z7,B3,xw0,xw1,xbs,b]
  exact e
theorem bC5{n:Nd}{l:List Nd}(h:n∈l):(Nd.al n).length<=(Nd.als l).length:=by
 obtain⟨a,b,rfl⟩:=List.append_of_mem h
 rw[ae3,Nd.als,List.length_append,List.length_append];omega
theorem ao6:∀(k:Nat) (l:List Nd) (f:Nat),Nd.dps l<=k->k+1<=f->(Nd.als l).length<=900->E6 f [↥l]=some (.list ((Nd.als l).map Nd.d)):=by
 have step:∀(l:List Nd) (f:Nat),(Nd.als l).length<=900->(∀n∈l,∀nm' m s sh ns,n=.group nm' m s sh ns->E6 f [↥ns]=some (.list ((Nd.als ns).map Nd.d)))->E6 (f+1) [↥l]=some (.list ((Nd.als l).map Nd.d)):=fun l f hl H=>by
  obtain⟨a2',e⟩:=aT1 f l [] (‹↥l›) none (by show 0+_<=_;omega) H
  refine C2 (g:=aT3 (E6 f)) (ρ:=[‹↥l›,none,none]) rfl ?_
  have s1:(S2 (E7 (A1 0)) (B3 2) (alb f)) [‹↥l›,some (.own []),none]=some (.nx [‹↥l›,some (.own ([]++(Nd.als l).map Nd.d)),a2']):=e
  exact(A6 (ρ':=[‹↥l›,some (.own []),none]) rfl).trans ((A6 s1).trans rfl)
 intro k
 induction k with
 | zero =>
  intro l f hd hf hl
  obtain⟨f,rfl⟩:∃g,f=g+1:=⟨f - 1,by omega⟩
  refine step l f hl fun n hn' nm' m s sh ns e=>?_
  have:=N7 hn'
  rw[e,Nd.dp]at this;omega
 | succ k ih =>
  intro l f hd hf hl
  obtain⟨f,rfl⟩:∃g,f=g+1:=⟨f - 1,by omega⟩
  refine step l f hl fun n hn' nm' m s sh ns e=>?_
  have h1:=N7 hn'
  have h2:=bC5 hn'
  rw[e,Nd.dp]at h1
  rw[e,Nd.al,List.length_cons]at h2
  exact ih ns f (by omega) (by omega) (by omega)
theorem bE7(n:Nd) (r:Rho):dIx (A7 0) ⇑1 (‹n.d›::r)=some n.nm:=by cases n<;>(rw[Nd.d];rfl)
theorem Rp.dps{o o' l l':List Nd}(r:Rp o o' l l') (h:Nd.dps o'<=Nd.dps o):Nd.dps l'<=Nd.dps l:=by
 induction r with
 | top=>exact h
 | deep _ ih=>rw[G6,G6,Nd.dps,Nd.dps,Nd.dp,Nd.dp];omega
structure Wl (l:List Nd):Prop where
 dp:Nd.dps l<=3
 hs:∀d∈Nd.nmss l,M0 d
 nd:(Nd.nmss l).Nodup
 nl:(Nd.nmss l).length<=1000
theorem Wl.wt{l:List Nd}(g:Wl l) {nm:D}(hn:M0 nm) {oth:List Nd}(ho:oth.length<=1000):K0 12 [↥l,nm,↥oth]=some ↥(Nd.wss nm oth l):=by
 have t:=thins_of l g.nl
 have:=g.nl
 exact bI1 hn ho 3 l 12 g.dp (by decide) (by omega) t.1 g.hs
theorem aK1{k:Nat}:∀l:List Nd,(∀n∈l,n.dp<=k)->Nd.dps l<=k
 | [],_=>by rw[Nd.dps];exact Nat.zero_le _
 | n::l,h=>by rw[Nd.dps];exact Nat.max_le.mpr ⟨h n (List.mem_cons_self ..),aK1 l fun m hm=>h m (xmm _ hm)⟩
theorem aR7{l' l:List Nd}(h:∀n∈l',n.dp=0\/n∈l):Nd.dps l'<=Nd.dps l:=aK1 l' fun n hn=>by
 rcases h n hn with e|e
 ·rw[e];exact Nat.zero_le _
 ·exact N7 e
theorem ax7{d:D}(h:M0 d) (n:Nat):Ly n d:=by
 obtain⟨s,rfl,o⟩:=h
 exact⟨o.ok,Nat.zero_le _⟩
theorem as3(r:Rat):Ly 1 (fr r):=Ly.tup fun x hx=>by
 simp only[List.mem_cons,List.not_mem_nil,or_false]at hx
 rcases hx with rfl|rfl<;>exact Ly.int _ _
theorem ax8(m:Man) (n:Nat):Ly n (.str m.s):=⟨by cases m<;>decide +kernel,Nat.zero_le _⟩
theorem bO1{nm:D}{m:Man}{s:Rat}{sh:Bool}{lf tp:Int}{mk:Option (List Rat)}{w h:Nat}{l:List Q4}{kb:Nat}(hn:M0 nm):Ly 5 (Nd.d (.layer nm m s sh lf tp mk w h l kb)):=by
 rw[Nd.d]
 refine Ly.tup fun x hx=>?_
 simp only[List.mem_cons,List.not_mem_nil,or_false]at hx
 rcases hx with rfl|rfl|rfl|rfl|rfl|rfl|rfl|rfl|rfl
 ·exact⟨by decide +kernel,Nat.zero_le _⟩
 ·exact ax7 hn _
 ·exact ax8 m _
 ·exact(as3 s).mono (by decide)
 ·exact⟨rfl,Nat.zero_le _⟩
 ·exact Ly.int _ _
 ·exact Ly.int _ _
 ·cases mk with
  | none=>exact⟨rfl,Nat.zero_le _⟩
  | some ms =>
   refine Ly.mono (m:=2) (Ly.tup fun x hx=>?_) (by decide)
   obtain⟨r,_,rfl⟩:=List.mem_map.mp hx
   exact as3 r
 ·exact Ly.sheet w h l
theorem bO0(r:Rul) (n:Nat):Ly n (.str r.s):=⟨by cases r<;>decide +kernel,Nat.zero_le _⟩
mutual
theorem ah1:∀n:Nd,(∀d∈n.nms,M0 d)->Ly (5+2*n.dp) n.d
 | .layer nm m s sh lf tp mk w h l kb,hs=>(bO1 (hs nm (by rw[Nd.nms];simp))).mono (by omega)
 | .tone nm r s sh,hs=>by
  rw[Nd.d,Nd.dp]
  refine Ly.tup fun x hx=>?_
  simp only[List.mem_cons,List.not_mem_nil,or_false]at hx
  rcases hx with rfl|rfl|rfl|rfl|rfl
  ·exact⟨by decide +kernel,Nat.zero_le _⟩
  ·exact ax7 (hs _ (by rw[Nd.nms];simp)) _
  ·exact bO0 r _
  ·exact(as3 s).mono (by decide)
  ·exact⟨rfl,Nat.zero_le _⟩
 | .group nm m s sh ns,hs=>by
  rw[Nd.nms]at hs
  have i:=ly_nds ns fun d hd=>hs d (xmm _ hd)
  rw[Nd.d,Nd.dp]
  refine Ly.mono (m:=6+2*Nd.dps ns+1) (Ly.tup fun x hx=>?_) (by omega)
  simp only[List.mem_cons,List.not_mem_nil,or_false]at hx
  rcases hx with rfl|rfl|rfl|rfl|rfl|rfl
  ·exact⟨by decide +kernel,Nat.zero_le _⟩
  ·exact ax7 (hs _ (List.mem_cons_self ..)) _
  ·exact ax8 m _
  ·exact(as3 s).mono (by omega)
  ·exact⟨rfl,Nat.zero_le _⟩
  ·exact⟨i.1,by show PyData.depthAll (Nd.ds ns)+1<=_;omega⟩
theorem ly_nds:∀l:List Nd,(∀d∈Nd.nmss l,M0 d)->PyData.canLayAll0 (Nd.ds l)=true/\PyData.depthAll (Nd.ds l)<=5+2*Nd.dps l
 | [],_=>by rw[Nd.ds];exact⟨rfl,Nat.zero_le _⟩
 | n::r,hs=>by
  rw[Nd.nmss]at hs
  obtain⟨i1,i2⟩:=ah1 n fun d hd=>hs d (List.mem_append_left _ hd)
  obtain⟨j1,j2⟩:=ly_nds r fun d hd=>hs d (List.mem_append_right _ hd)
  rw[Nd.ds,Nd.dps]
  refine⟨?_,?_⟩
  ·show(PyData.canLay0 n.d&&PyData.canLayAll0 (Nd.ds r))=true
   rw[i1,j1];rfl
  ·show max (PyData.depth n.d) (PyData.depthAll (Nd.ds r))<=_
   omega
end
theorem aH7{a b l:List Nd}{n:Nd}(h:Stands a n b l):n∈Nd.als l:=by
 induction h with
 | top =>
  rw[ae3,Nd.als]
  refine List.mem_append_right _ (List.mem_append_left _ ?_)
  cases n<;>(rw[Nd.al];simp)
 | deep _ ih =>
  rw[ae3,Nd.als,Nd.al]
  exact List.mem_append_right _ (List.mem_append_left _ (xmm _ ih))
theorem ax3{n m:Nd}(e:n.nm=m.nm):∀{L:List Nd},(L.map Nd.nm).Nodup->n∈L->m∈L->n=m
 | [],_,h,_=>absurd h (by simp)
 | x::L,nd,hn,hm=>by
  rw[xmc]at nd
  obtain⟨h1,h2⟩:=List.nodup_cons.mp nd
  rcases List.mem_cons.mp hn with h3|h3<;>rcases List.mem_cons.mp hm with h4|h4
  ·exact h3.trans h4.symm
  ·exact absurd (List.mem_map.mpr ⟨m,h4,by rw[← e,h3]⟩) h1
  ·exact absurd (List.mem_map.mpr ⟨n,h3,by rw[e,h4]⟩) h1
  ·exact ax3 e h2 h3 h4
theorem ao4{l:List Nd}{n:Nd}(nd:(Nd.nmss l).Nodup) (h:n∈Nd.als l):∃a b,Stands a n b l:=by
 have hn:n.nm∈Nd.nmss l:=by rw[← als_nms];exact List.mem_map.mpr ⟨n,h,rfl⟩
 obtain⟨a,m,b,St,e⟩:=nms_stands [] l n.nm hn
 rw[xna]at St
 have:m=n:=ax3 e (by rw[als_nms];exact nd) (aH7 St) h
 subst this
 exact⟨a,b,St⟩
end Sh
namespace Sh
open PySem G L2
mutual
def wt:D->Nat
 | .tuple xs=>1+wts xs
 | .list xs=>1+wts xs
 | _=>1
def wts:List D->Nat
 | []=>0
 | x::xs=>wt x+wts xs
end
theorem bV5{xs:List D}{i:Nat}(h:i < xs.length):O9 xs none (some (i:Int))=xs.take i:=by
 unfold O9
 rw[HT.sIx_none,HT.sIx_nat,List.drop_zero,Nat.min_eq_left (Nat.le_of_lt h),Nat.sub_zero]
theorem aF0{xs:List D}{i:Nat}(h:i < xs.length):O9 xs (some ((i:Int)+1)) none=xs.drop (i+1):=by
 have e:((i:Int)+1)=((i+1:Nat):Int):=by omega
 rw[e]
 unfold O9
 rw[HT.sIx_none,HT.sIx_nat,Nat.min_eq_left h]
 exact List.take_of_length_le (by rw[List.length_drop];exact Nat.le_refl _)
inductive De where
 | str (nm:D) (o n:Rat)
 | shw (nm:D) (o n:Bool)
 | man (nm:D) (o n:Man)
 | plc (nm:D) (a b c d:Int)
 | spt (nm:D) (x y:Nat) (o n:Q4)
 | put (pa:D) (k:Nat) (x:Nd)
 | out (pa:D) (k:Nat) (x:Nd)
def De.d:De->D
 | .str nm o n=>.tuple [.str "strength", nm,fr o,fr n]
 | .shw nm o n=>.tuple [.str "shown", nm,.bool o,.bool n]
 | .man nm o n=>.tuple [.str "manner", nm,.str o.s,.str n.s]
 | .plc nm a b c d=>.tuple [.str "place", nm,.tuple [.int a,.int b],.tuple [.int c,.int d]]
 | .spt nm x y o n=>.tuple [.str "spot", nm,.int x,.int y,o.d,n.d]
 | .put pa k x=>.tuple [.str "put", pa,.int k,x.d]
 | .out pa k x=>.tuple [.str "out", pa,.int k,x.d]
def De.nm:De->D
 | .str nm ..=>nm
 | .shw nm ..=>nm
 | .man nm ..=>nm
 | .plc nm ..=>nm
 | .spt nm ..=>nm
 | .put pa ..=>pa
 | .out pa ..=>pa
def De.isV:De->Bool
 | .put ..=>false
 | .out ..=>false
 | _=>true
def De.on:De->Nd->Option Nd
 | .str _ o n,.layer nm m s sh lf tp mk w h l kb=>if s=o then some (.layer nm m n sh lf tp mk w h l kb) else none
 | .str _ o n,.tone nm r s sh=>if s=o then some (.tone nm r n sh) else none
 | .str _ o n,.group nm m s sh ns=>if s=o then some (.group nm m n sh ns) else none
 | .shw _ o n,.layer nm m s sh lf tp mk w h l kb=>if sh=o then some (.layer nm m s n lf tp mk w h l kb) else none
 | .shw _ o n,.tone nm r s sh=>if sh=o then some (.tone nm r s n) else none
 | .shw _ o n,.group nm m s sh ns=>if sh=o then some (.group nm m s n ns) else none
 | .man _ o n,.layer nm m s sh lf tp mk w h l kb=>if m.s=o.s then some (.layer nm n s sh lf tp mk w h l kb) else none
 | .man _ o n,.group nm m s sh ns=>if m.s=o.s then some (.group nm n s sh ns) else none
 | .plc _ a b c d,.layer nm m s sh lf tp mk w h l kb=>if lf=a/\tp=b then some (.layer nm m s sh c d mk w h l kb) else none
 | .spt _ x y o n,.layer nm m s sh lf tp mk w h l kb=>if x < w/\y < h/\neB (l.getD (y*w+x) q0) o=false then some (.layer nm m s sh lf tp mk w h (l.set (y*w+x) n) 32) else none
 | _,_=>none
def ai5:Option Nd->D
 | none=>.none
 | some n=>n.d
theorem af6{a b:List D}(h:a.length+b.length<=1000):A9 (.tuple a) (.tuple b)=some (.tuple (a++b)):=by
 show(if a.length+b.length<=16777216 then _ else none)=_
 rw[if_pos (by omega)]
theorem S8{x y:D}{b:Bool}(h:eqD x y=some (.bool b)):neD x y=some (.bool (!b)):=by
 unfold eqD at h
 unfold neD
 split at h
 ·rename_i c
  rw[if_pos c]
  simp only[Option.some.injEq,PyData.bool.injEq]at h
  rw[h]
 ·cases h
theorem aI9(r s:Rat):neD (fr r) (fr s)=some (.bool (!decide (r=s))):=S8 (cg1 r s)
theorem af2(a b:Bool):neD (.bool a) (.bool b)=some (.bool (!decide (a=b))):=by cases a<;>cases b<;>rfl
theorem aJ1(m:Man):PyData.canLay0 (.str m.s)=true:=by cases m<;>decide +kernel
theorem bJ5(m:Rul):PyData.canLay0 (.str m.s)=true:=by cases m<;>decide +kernel
theorem aP2(m o:Man):neD (.str m.s) (.str o.s)=some (.bool (!decide (m.s=o.s))):=by
 refine r8 (aJ1 m) (aJ1 o) ?_
 by_cases e:m.s=o.s
 ·rw[e];simp
 ·simp[e]
theorem cd0(r:Rul) (o:Man):∃b,neD (.str r.s) (.str o.s)=some (.bool b):=⟨_,r8 (bJ5 r) (aJ1 o) rfl⟩
theorem bN1(a b c d:Int):neD (.tuple [.int a,.int b]) (.tuple [.int c,.int d])=some (.bool (!decide (a=c/\b=d))):=by
 unfold neD
 rw[if_pos ⟨rfl,rfl⟩]
 by_cases h1:a=c<;>by_cases h2:b=d<;>simp[PyData.eqv,PyData.eqvAll,h1,h2]
theorem aH1{x y:Str}(hx:PyData.canLay0 (.str x)=true) (hy:PyData.canLay0 (.str y)=true) (h:(x==y)=false):eqD (.str x) (.str y)=some (.bool false):=F1 hx hy h
theorem br6{x:Str}(hx:PyData.canLay0 (.str x)=true):eqD (.str x) (.str x)=some (.bool true):=F1 hx hx (by simp)
abbrev kT:List (D×D):=mgD [("manner", .int 2),("strength", .int 3),("shown", .int 4)]
theorem k_m:(M4 kT "manner").getD (.int 5)=.int 2:=by kernel_rfl
theorem k_s:(M4 kT "strength").getD (.int 5)=.int 3:=by kernel_rfl
theorem k_h:(M4 kT "shown").getD (.int 5)=.int 4:=by kernel_rfl
theorem k_p:(M4 kT "place").getD (.int 5)=.int 5:=by kernel_rfl
theorem k_t:(M4 kT "spot").getD (.int 5)=.int 5:=by kernel_rfl
abbrev c12(a b:D) (i:Option B):Rho:=[‹a›,‹b›,i,none,none,none,none,none,none,none,none,none]
theorem bp5{a:D}{w:Str}{xs:List D}{i:D}(hk:(M4 kT w).getD (.int 5)=i):S6 (c12 a (.tuple (.str w::xs)) none)=some (.nx (c12 a (.tuple (.str w::xs)) (‹i›))):=by
 have h0:atI (.str w::xs) 0=some (.str w):=J1 (j:=0) rfl
 wp_walk using evD,S6,c12,aS2,h0,hk
theorem bV1:eqD (.str "manner") (.str "manner")=some (.bool true):=br6 (by decide +kernel)
theorem bV0:eqD (.str "strength") (.str "manner")=some (.bool false):=aH1 (by decide +kernel) (by decide +kernel) (by decide +kernel)
theorem bV2:eqD (.str "shown") (.str "manner")=some (.bool false):=aH1 (by decide +kernel) (by decide +kernel) (by decide +kernel)
theorem au6(a b c d:D):L2.atI [a,b,c,d] 0=some a:=rfl
theorem au5(a b c d:D):L2.atI [a,b,c,d] 2=some c:=rfl
theorem aS9(a b c d:D):L2.atI [a,b,c,d] 3=some d:=rfl
theorem cm9{xs pre post:List D}{w:Str}{nm o n x a0:D}{i:Nat}{b c:Bool}(hx:xs=pre++x::post) (hi:pre.length=i) (h5:i < 5) (hl:xs.length<=100) (hb:neD x o=some (.bool b)) (h0:atI xs 0=some a0) (hw:eqD (.str w) (.str "manner")=some (.bool c)) (ht:c=true->∃t,eqD a0 (.str "tone")=some (.bool t)/\(t=true->False)) :
  G1 (c12 (.tuple xs) (.tuple [.str w,nm,o,n]) (‹.int i›))=some (.rt (if b=true then .none else .tuple (pre++n::post))):=by
 have hn:i < xs.length:=by rw[hx,List.length_append,List.length_cons];omega
 have e1:atI xs (i:Int)=some x:=by
  refine J1 ?_
  rw[hx,← hi];simp
 have c1:=bV5 hn
 have c2:=aF0 hn
 have t1:xs.take i=pre:=by rw[hx,← hi];simp
 have t2:xs.drop (i+1)=post:=by rw[hx,← hi];simp
 rw[t1]at c1;rw[t2]at c2
 have l1:pre.length+1<=1000:=by omega
 have l2:(pre++[n]).length+post.length<=1000:=by
  rw[hx,List.length_append,List.length_cons]at hl
  rw[List.length_append,List.length_singleton];omega
 have k1:=af6 (a:=pre) (b:=[n]) l1
 have k2:=af6 l2
 have lt:ltI (.int i) (.int 5)=some (.bool true):=by show some (PyData.bool (decide ((i:Int) < 5)))=_;rw[decide_eq_true (by omega)]
 have a3:A9 (.int (i:Int)) (.int 1)=some (.int ((i:Int)+1)):=by rw[S9]
 cases b with
 | true=>wp_walk using evD,G1,c12,lt,e1,au5,hb
 | false =>
  cases c with
  | false=>wp_walk using evD,G1,c12,E4,lt,e1,au6,au5,aS9,hb,hw,c1,c2,k1,k2,List.append_assoc,List.singleton_append
  | true =>
   obtain⟨t,h1,h2⟩:=ht rfl
   cases t with
   | true=>exact(h2 rfl).elim
   | false=>wp_walk using evD,G1,c12,E4,lt,e1,au6,au5,aS9,hb,hw,h0,h1,c1,c2,k1,k2,List.append_assoc,List.singleton_append
theorem ac3{a b d:D}(h:K2 (c12 a b none)=some (.rt d)):K3 [a,b]=some d:=C2 (g:=K2) (n:=12) (ρ:=c12 a b none) rfl h
theorem aN3{x:Str}(hx:PyData.canLay0 (.str x)=true) (h:(x == "tone")=false):∃t,eqD (.str x) (.str "tone")=some (.bool t)/\(t=true->False):=⟨false,aH1 hx (by decide +kernel) h,nofun⟩
theorem ah7{n:Nd}{xs pre post:List D}{w:Str}{nm o v x a0:D}{i:Nat}{b c:Bool}(hk:(M4 kT w).getD (.int 5)=.int i) (hx:n.d=.tuple xs) (hp:xs=pre++x::post) (hi:pre.length=i) (h5:i < 5) (hl:xs.length<=100) (hb:neD x o=some (.bool b)) (h0:atI xs 0=some a0) (hw:eqD (.str w) (.str "manner")=some (.bool c)) (ht:c=true->∃t,eqD a0 (.str "tone")=some (.bool t)/\(t=true->False)) :
  K3 [n.d,.tuple [.str w,nm,o,v]]=some (if b=true then .none else .tuple (pre++v::post)):=by
 rw[hx]
 refine ac3 ?_
 unfold K2
 rw[A6 (bp5 hk)]
 exact D0 (cm9 hp hi h5 hl hb h0 hw ht)
theorem S3(p:Prop) [Decidable p] (a b:D):(if(!decide p)=true then a else b)=if p then b else a:=by by_cases h:p<;>simp[h]
theorem M8(p:Prop) [Decidable p] (n:Nd):ai5 (if p then some n else none)=if p then n.d else .none:=by by_cases h:p<;>simp[h,ai5]
theorem cg4:eqD (.str "place") (.str "place")=some (.bool true):=br6 (by decide +kernel)
theorem cm2:eqD (.str "spot") (.str "place")=some (.bool false):=aH1 (by decide +kernel) (by decide +kernel) (by decide +kernel)
theorem cl1:neD (.str "layer") (.str "layer")=some (.bool false):=S8 cm4
theorem cd4:neD (.str "group") (.str "layer")=some (.bool true):=S8 cm6
theorem cd3:neD (.str "tone") (.str "layer")=some (.bool true):=S8 (aH1 (by decide +kernel) (by decide +kernel) (by decide +kernel))
theorem bp4(a b:D):G1 (c12 a b (‹.int 5›))=some (.nx (c12 a b (‹.int 5›))):=by
 have q:decide ((5:Int) < 5)=false:=by decide
 wp_walk using evD,G1,c12,q
theorem bG4(xs:List D) (b:D) (i:Option B):P0 (c12 (.tuple (.str "layer" :: xs)) b i)=some (.nx (c12 (.tuple (.str "layer" :: xs)) b i)):=by
 have h0:atI (.str "layer" :: xs) 0=some (.str "layer"):=J1 (j:=0) rfl
 wp_walk using evD,P0,c12,h0,cl1
theorem ch2(a:D) (xs:List D) (i:Option B):L5 (c12 a (.tuple (.str "spot" :: xs)) i)=some (.nx (c12 a (.tuple (.str "spot" :: xs)) i)):=by
 have h0:atI (.str "spot" :: xs) 0=some (.str "spot"):=J1 (j:=0) rfl
 wp_walk using evD,L5,c12,h0,cm2
theorem az5{a b:D}{w:Str}{xs ys:List D}{x:Str}(hk:(M4 kT w).getD (.int 5)=.int 5) (hx:neD (.str x) (.str "layer")=some (.bool true)):K3 [.tuple (.str x::xs),.tuple (.str w::ys)]=some .none:=by
 refine ac3 ?_
 have h0:atI (.str x::xs) 0=some (.str x):=J1 (j:=0) rfl
 unfold K2
 rw[A6 (bp5 hk),A6 (bp4 _ _)]
 exact D0 (by wp_walk using evD,P0,c12,h0,hx)
theorem aY8{xs:List D}{i:Nat}(h:i<=xs.length):O9 xs none (some (i:Int))=xs.take i/\O9 xs (some (i:Int)) none=xs.drop i:=by
 unfold O9 HT.sIx
 simp only
 constructor
 ·rw[if_neg (by omega)]
  simp only[Int.toNat_natCast,List.drop_zero,Nat.sub_zero]
  rw[Nat.min_eq_left h]
 ·rw[if_neg (by omega)]
  simp only[Int.toNat_natCast]
  rw[Nat.min_eq_left h,List.take_of_length_le (by rw[List.length_drop];omega)]
theorem bp3{nm':D}{m:Man}{s:Rat}{sh:Bool}{lf tp:Int}{mk:Option (List Rat)}{w h kb:Nat}{l:List Q4}(S:ShOk kb w h l) (nm:D) (x y:Nat) (o n:Q4) (hx:x<=1000) (hy:y<=1000) :
  K3 [Nd.d (.layer nm' m s sh lf tp mk w h l kb),(De.spt nm x y o n).d]=some (ai5 ((De.spt nm x y o n).on (.layer nm' m s sh lf tp mk w h l kb))):=by
 rw[Nd.d,De.d,De.on,M8,Nd.d]
 refine ac3 ?_
 have l6:∀a b c d e f:D,([a,b,c,d,e,f]:List D).length=6:=fun _ _ _ _ _ _=>rfl
 have l3:∀a b c:D,([a,b,c]:List D).length=3:=fun _ _ _=>rfl
 unfold K2
 rw[A6 (bp5 k_t),A6 (bp4 _ _),A6 (bG4 _ _ _),A6 (ch2 _ _ _)]
 rw[A6 (ρ':=[‹.tuple [.str "layer", nm',.str m.s,fr s,.bool sh,.int lf,.int tp,mkD mk,shD w h l]›,‹.tuple [.str "spot", nm,.int x,.int y,o.d,n.d]›,‹.int 5›,‹.str "spot"›,‹nm›,‹.int x›,‹.int y›,‹o.d›,‹n.d›,none,none,none]) (by wp_walk using evD,j7,c12,l6)]
 rw[A6 (ρ':=[‹.tuple [.str "layer", nm',.str m.s,fr s,.bool sh,.int lf,.int tp,mkD mk,shD w h l]›,‹.tuple [.str "spot", nm,.int x,.int y,o.d,n.d]›,‹.int 5›,‹.str "spot"›,‹nm›,‹.int x›,‹.int y›,‹o.d›,‹n.d›,‹.int w›,‹.int h›,‹.tuple (l.map Q4.d)›]) (by wp_walk using evD,j4,bG6,shD,l3)]
 have ge:∀a b:Nat,geI (.int a) (.int b)=some (.bool (decide (b<=a))):=fun a b=>by
  show some (PyData.bool (decide ((b:Int)<=a)))=_
  rw[decide_eq_decide.mpr (Int.ofNat_le)]
 have em:C6 (.int y) (.int w)=some (.int ((y*w:Nat):Int)):=L8 (by have:=S.w8;omega) (by have:=S.w8;omega)
 have ei:((y*w:Nat):Int)+(x:Int)=((y*w+x:Nat):Int):=by omega
 by_cases c1:x < w
 ·by_cases c2:y < h
  ·have bw:y*w+x < l.length:=by
    rw[S.len]
    have:(y+1)*w<=h*w:=Nat.mul_le_mul_right _ (by omega)
    rw[Nat.succ_mul]at this
    rw[Nat.mul_comm w h];omega
   have ea:atI (l.map Q4.d) ((y*w+x:Nat):Int)=some (l.getD (y*w+x) q0).d:=J1 (by rw[List.getElem?_map,List.getElem?_eq_getElem bw,List.getD_eq_getElem?_getD,List.getElem?_eq_getElem bw];rfl)
   have nb:=bN2 (l.getD (y*w+x) q0) o
   have d1:decide (w<=x)=false:=decide_eq_false (by omega)
   have d2:decide (h<=y)=false:=decide_eq_false (by omega)
   cases q:neB (l.getD (y*w+x) q0) o with
   | true =>
    rw[q]at nb
    rw[if_neg (by rintro⟨_,_,z⟩;cases z)]
    exact D0 (by wp_walk using evD,L4,ge,d1,d2,em,ei,ea,nb)
   | false =>
    rw[q]at nb
    rw[if_pos ⟨c1,c2,rfl⟩]
    rw[A6 (ρ':=[‹.tuple [.str "layer", nm',.str m.s,fr s,.bool sh,.int lf,.int tp,mkD mk,shD w h l]›,‹.tuple [.str "spot", nm,.int x,.int y,o.d,n.d]›,‹.int 5›,‹.str "spot"›,‹nm›,‹.int x›,‹.int y›,‹o.d›,‹n.d›,‹.int w›,‹.int h›,‹.tuple (l.map Q4.d)›]) (by wp_walk using evD,L4,ge,d1,d2,em,ei,ea,nb)]
    have hl:(l.map Q4.d).length=w*h:=by rw[List.length_map,S.len]
    have wh:w*h<=64:=Nat.mul_le_mul S.w8 S.h8
    have bl:y*w+x < (l.map Q4.d).length:=by rw[List.length_map];exact bw
    have c3:=(aY8 (Nat.le_of_lt bl)).1
    have c4:=(aY8 (Nat.succ_le_of_lt bl)).2
    have i1:((y*w+x:Nat):Int)+1=((y*w+x+1:Nat):Int):=by omega
    have k1:=af6 (a:=(l.map Q4.d).take (y*w+x)) (b:=[n.d]) (by rw[List.length_take,List.length_singleton];omega)
    have k2:=af6 (a:=(l.map Q4.d).take (y*w+x)++[n.d]) (b:=(l.map Q4.d).drop (y*w+x+1)) (by rw[List.length_append,List.length_take,List.length_singleton,List.length_drop];omega)
    have st:(l.map Q4.d).take (y*w+x)++[n.d]++(l.map Q4.d).drop (y*w+x+1)=(l.set (y*w+x) n).map Q4.d:=by rw[List.set_eq_take_append_cons_drop,if_pos bw,List.map_append,List.map_take,xmc,List.map_drop,List.append_assoc];rfl
    rw[st]at k2
    rw[A6 (ρ':=[‹.tuple [.str "layer", nm',.str m.s,fr s,.bool sh,.int lf,.int tp,mkD mk,shD w h l]›,‹.tuple [.str "spot", nm,.int x,.int y,o.d,n.d]›,‹.int 5›,‹.str "spot"›,‹nm›,‹.int x›,‹.int y›,‹o.d›,‹n.d›,‹.int w›,‹.int h›,‹.tuple ((l.set (y*w+x) n).map Q4.d)›]) (by wp_walk using evD,i9,E4,em,ei,i1,c3,c4,k1,k2)]
    have c5:O9 [.str "layer", nm',.str m.s,fr s,.bool sh,.int lf,.int tp,mkD mk,shD w h l] none (some 8)=[.str "layer", nm',.str m.s,fr s,.bool sh,.int lf,.int tp,mkD mk]:=rfl
    have k3:=af6 (a:=[.str "layer", nm',.str m.s,fr s,.bool sh,.int lf,.int tp,mkD mk]) (b:=[.tuple [.int w,.int h,.tuple ((l.set (y*w+x) n).map Q4.d)]]) (by show 9<=1000;decide)
    simp only[i8,E4,B0,A4,B1,A0,A2,A1,C4,B5,dC,n4,xbs,xms,xg0,xg1,c5,k3]
    rfl
  ·have d1:decide (w<=x)=false:=decide_eq_false (by omega)
   have d2:decide (h<=y)=true:=decide_eq_true (by omega)
   rw[if_neg (by rintro⟨_,z,_⟩;exact c2 z)]
   exact D0 (by wp_walk using evD,L4,ge,d1,d2)
 ·have d1:decide (w<=x)=true:=decide_eq_true (by omega)
  rw[if_neg (by rintro⟨z,_,_⟩;exact c1 z)]
  exact D0 (by wp_walk using evD,L4,ge,d1)
def De.sz:De->Prop
 | .spt _ x y _ _=>x<=1000/\y<=1000
 | _=>True
theorem bB9(e:De) (n:Nd) (hv:e.isV=true) (ok:n.Ok) (hz:e.sz):K3 [n.d,e.d]=some (ai5 (e.on n)):=by
 have tl:=aN3 (x := "layer") (by decide +kernel) (by decide +kernel)
 have tg:=aN3 (x := "group") (by decide +kernel) (by decide +kernel)
 cases e with
 | put=>cases hv
 | out=>cases hv
 | str nm o v =>
  cases n with
  | layer nm' m s sh lf tp mk w h l kb =>
   rw[De.d,De.on,M8,← S3,Nd.d]
   have:=ah7 (n:=.layer nm' m s sh lf tp mk w h l kb) (nm:=nm) (v:=fr v) k_s (by rw[Nd.d];rfl) (pre:=[.str "layer", nm',.str m.s]) (post:=[.bool sh,.int lf,.int tp,mkD mk,shD w h l]) rfl rfl (by decide) (by show 9<=100;decide) (aI9 s o) (n8 ..) bV0 nofun
   rw[Nd.d]at this;exact this
  | tone nm' r s sh =>
   rw[De.d,De.on,M8,← S3,Nd.d]
   have:=ah7 (n:=.tone nm' r s sh) (nm:=nm) (v:=fr v) k_s (by rw[Nd.d];rfl) (pre:=[.str "tone", nm',.str r.s]) (post:=[.bool sh]) rfl rfl (by decide) (by show 5<=100;decide) (aI9 s o) (ah8 ..) bV0 nofun
   rw[Nd.d]at this;exact this
  | group nm' m s sh ns =>
   rw[De.d,De.on,M8,← S3,Nd.d]
   have:=ah7 (n:=.group nm' m s sh ns) (nm:=nm) (v:=fr v) k_s (by rw[Nd.d];rfl) (pre:=[.str "group", nm',.str m.s]) (post:=[.bool sh,↥ns]) rfl rfl (by decide) (by show 6<=100;decide) (aI9 s o) (x9 ..) bV0 nofun
   rw[Nd.d]at this;exact this
 | shw nm o v =>
  cases n with
  | layer nm' m s sh lf tp mk w h l kb =>
   rw[De.d,De.on,M8,← S3,Nd.d]
   have:=ah7 (n:=.layer nm' m s sh lf tp mk w h l kb) (nm:=nm) (v:=.bool v) k_h (by rw[Nd.d];rfl) (pre:=[.str "layer", nm',.str m.s,fr s]) (post:=[.int lf,.int tp,mkD mk,shD w h l]) rfl rfl (by decide) (by show 9<=100;decide) (af2 sh o) (n8 ..) bV2 nofun
   rw[Nd.d]at this;exact this
  | tone nm' r s sh =>
   rw[De.d,De.on,M8,← S3,Nd.d]
   have:=ah7 (n:=.tone nm' r s sh) (nm:=nm) (v:=.bool v) k_h (by rw[Nd.d];rfl) (pre:=[.str "tone", nm',.str r.s,fr s]) (post:=[]) rfl rfl (by decide) (by show 5<=100;decide) (af2 sh o) (ah8 ..) bV2 nofun
   rw[Nd.d]at this;exact this
  | group nm' m s sh ns =>
   rw[De.d,De.on,M8,← S3,Nd.d]
   have:=ah7 (n:=.group nm' m s sh ns) (nm:=nm) (v:=.bool v) k_h (by rw[Nd.d];rfl) (pre:=[.str "group", nm',.str m.s,fr s]) (post:=[↥ns]) rfl rfl (by decide) (by show 6<=100;decide) (af2 sh o) (x9 ..) bV2 nofun
   rw[Nd.d]at this;exact this
 | man nm o v =>
  cases n with
  | layer nm' m s sh lf tp mk w h l kb =>
   rw[De.d,De.on,M8,← S3,Nd.d]
   have:=ah7 (n:=.layer nm' m s sh lf tp mk w h l kb) (nm:=nm) (v:=.str v.s) k_m (by rw[Nd.d];rfl) (pre:=[.str "layer", nm']) (post:=[fr s,.bool sh,.int lf,.int tp,mkD mk,shD w h l]) rfl rfl (by decide) (by show 9<=100;decide) (aP2 m o) (n8 ..) bV1 (fun _=>tl)
   rw[Nd.d]at this;exact this
  | tone nm' r s sh =>
   obtain⟨b,hb⟩:=cd0 r o
   rw[show De.on (.man nm o v) (.tone nm' r s sh)=none from rfl,De.d,ai5,Nd.d]
   refine ac3 ?_
   have lt2:ltI (.int 2) (.int 5)=some (.bool true):=rfl
   unfold K2
   rw[A6 (bp5 k_m)]
   refine D0 ?_
   have lt3:decide ((2:Int) < 5)=true:=by decide
   cases b<;>wp_walk using evD,G1,c12,lt3,ah8,ci0,au6,au5,hb,bV1,cg3
  | group nm' m s sh ns =>
   rw[De.d,De.on,M8,← S3,Nd.d]
   have:=ah7 (n:=.group nm' m s sh ns) (nm:=nm) (v:=.str v.s) k_m (by rw[Nd.d];rfl) (pre:=[.str "group", nm']) (post:=[fr s,.bool sh,↥ns]) rfl rfl (by decide) (by show 6<=100;decide) (aP2 m o) (x9 ..) bV1 (fun _=>tg)
   rw[Nd.d]at this;exact this
 | plc nm a b c d =>
  cases n with
  | layer nm' m s sh lf tp mk w h l kb =>
   rw[De.d,De.on,M8,← S3,Nd.d,Nd.d]
   refine ac3 ?_
   unfold K2
   rw[A6 (bp5 k_p),A6 (bp4 _ _),A6 (bG4 _ _ _)]
   have c1:O9 [.str "layer", nm',.str m.s,fr s,.bool sh,.int lf,.int tp,mkD mk,shD w h l] (some 5) (some 7)=[.int lf,.int tp]:=rfl
   have c2:O9 [.str "layer", nm',.str m.s,fr s,.bool sh,.int lf,.int tp,mkD mk,shD w h l] none (some 5)=[.str "layer", nm',.str m.s,fr s,.bool sh]:=rfl
   have c3:O9 [.str "layer", nm',.str m.s,fr s,.bool sh,.int lf,.int tp,mkD mk,shD w h l] (some 7) none=[mkD mk,shD w h l]:=rfl
   have k1:=af6 (a:=[.str "layer", nm',.str m.s,fr s,.bool sh]) (b:=[.int c,.int d]) (by show 7<=1000;decide)
   have k2:=af6 (a:=[.str "layer", nm',.str m.s,fr s,.bool sh]++[.int c,.int d]) (b:=[mkD mk,shD w h l]) (by show 9<=1000;decide)
   have nb:=bN1 lf tp a b
   refine D0 ?_
   cases q:(!decide (lf=a/\tp=b)) with
   | true=>rw[q]at nb;wp_walk using evD,L5,c12,E4,au6,au5,cg4,c1,nb
   | false =>
    rw[q]at nb
    simp only[L5,c12,E4,sIf,A8,C5,B0,A4,tB2,dIx,A7,dC,A1,C4,B5,n4,j8,J4,xbs,xms,xg0,xg1,if_true,if_false,xft,au6,au5,aS9,cg4,c1,nb,c2,c3,k1,k2]
    rfl
  | tone nm' r s sh=>rw[show De.on (.plc nm a b c d) (.tone nm' r s sh)=none from rfl,De.d,ai5,Nd.d];exact az5 (a:=.none) (b:=.none) k_p cd3
  | group nm' m s sh ns=>rw[show De.on (.plc nm a b c d) (.group nm' m s sh ns)=none from rfl,De.d,ai5,Nd.d];exact az5 (a:=.none) (b:=.none) k_p cd4
 | spt nm x y o v =>
  cases n with
  | layer nm' m s sh lf tp mk w h l kb =>
   rw[Nd.Ok]at ok
   exact bp3 ok.2.1 nm x y o v hz.1 hz.2
  | tone nm' r s sh=>rw[show De.on (.spt nm x y o v) (.tone nm' r s sh)=none from rfl,De.d,ai5,Nd.d];exact az5 (a:=.none) (b:=.none) k_t cd3
  | group nm' m s sh ns=>rw[show De.on (.spt nm x y o v) (.group nm' m s sh ns)=none from rfl,De.d,ai5,Nd.d];exact az5 (a:=.none) (b:=.none) k_t cd4
def De.ls:De->List Nd->Option (List Nd)
 | .put _ k x,ns=>if k<=ns.length then some (ns.take k++x::ns.drop k) else none
 | .out _ k x,ns=>if(ns[k]?).any (fun y=>PyData.eqv y.d x.d)=true then some (ns.take k++ns.drop (k+1)) else none
 | _,_=>none
def fnd(l:List Nd) (nm:D):Option Nd:=(Nd.als l).find? fun n=>same n.nm nm
def grp(e:De):Nd->Option Nd
 | .group nm m s sh ns=>(e.ls ns).map fun ns'=>.group nm m s sh ns'
 | _=>none
def De.pre(e:De) (l:List Nd):Option (List Nd) :=
 if same e.nm (.str "")=true then e.ls l else(fnd l e.nm).bind fun n=>(grp e n).map fun n'=>Nd.wss e.nm [n'] l
def ae1(l:List Nd):De->Bool
 | .put _ _ x=>x.nms.any fun d=>(Nd.nmss l).any fun c=>same c d
 | _=>false
def dn(l:List Nd) (e:De):Option (List Nd) :=
 if e.isV=true then(fnd l e.nm).bind fun n=>(e.on n).map fun n'=>Nd.wss e.nm [n'] l
 else if ae1 l e=true then none
 else(e.pre l).bind fun l'=>if Nd.dps l'<=3 then some l' else none
def aa0:Option (List Nd)->D
 | none=>.none
 | some l=>.tuple (Nd.ds l)
def X6(w h:Nat):Option (List Nd)->D
 | none=>.none
 | some l=>P4 w h l
theorem aR5(l:List Nd) (k:Nat):(Nd.ds l).take k=Nd.ds (l.take k):=by rw[G5,G5,List.map_take]
theorem aR6(l:List Nd) (k:Nat):(Nd.ds l).drop k=Nd.ds (l.drop k):=by rw[G5,G5,List.map_drop]
theorem bA6(a b:List Nd):Nd.ds (a++b)=Nd.ds a++Nd.ds b:=by rw[G5,G5,G5,List.map_append]
theorem af4(n:Nd):Nd.ds [n]=[n.d]:=by rw[G5];rfl
theorem O0(l:List Nd):(Nd.ds l).length=l.length:=by rw[G5,List.length_map]
theorem bY6:eqD (.str "put") (.str "put")=some (.bool true):=br6 (by decide +kernel)
theorem br5:eqD (.str "out") (.str "put")=some (.bool false):=aH1 (by decide +kernel) (by decide +kernel) (by decide +kernel)
theorem aR1(a b:Nat):gtI (.int a) (.int b)=some (.bool (decide (b < a))):=by
 show some (PyData.bool (decide ((b:Int) < a)))=_
 rw[decide_eq_decide.mpr (Int.ofNat_lt)]
theorem neN{x y:Nd}{k:Nat}(hx:Ly k x.d) (hy:Ly k y.d) (hk:k<=64):neD x.d y.d=some (.bool (!PyData.eqv x.d y.d)):=by
 unfold neD
 rw[if_pos ⟨hx.shaped hk,hy.shaped hk⟩]
theorem bV7{a b:List Nd}(h:a.length+b.length<=1000):A9 ↥a ↥b=some ↥(a++b):=by rw[bA6];exact af6 (by rw[O0,O0];exact h)
def De.isP:De->Bool
 | .put ..=>true
 | _=>false
theorem as4(e:De) (ns:List Nd) (hv:e.isV=false) (hl:ns.length<=900) (hy:∀y∈ns,Ly 60 y.d) (hx:∀pa k x,e=.put pa k x\/e=.out pa k x->Ly 60 x.d):O1 [↥ns,e.d]=some (aa0 (e.ls ns)):=by
 have l4:∀a b c d:D,([a,b,c,d]:List D).length=4:=fun _ _ _ _=>rfl
 have run:∀(a b d:D),K4 [‹a›,‹b›,none,none,none,none]=some (.rt d)->O1 [a,b]=some d:=fun a b d h=>C2 (g:=K4) (ρ:=[‹a›,‹b›,none,none,none,none]) rfl h
 have gn:=aR1
 cases e with
 | put pa k x =>
  rw[De.d,De.ls]
  refine run _ _ _ ?_
  have g1:=aR1 k (Nd.ds ns).length
  rw[O0]at g1
  have c:=aY8 (xs:=Nd.ds ns) (i:=k)
  by_cases h:k<=ns.length
  ·rw[if_pos h,aa0]
   rw[decide_eq_false (by omega)]at g1
   have c:=c (by rw[O0];exact h)
   rw[aR5,aR6]at c
   have k1:=bV7 (a:=ns.take k) (b:=[x]) (by rw[List.length_take,List.length_singleton];omega)
   have k2:=bV7 (a:=ns.take k++[x]) (b:=ns.drop k) (by rw[List.length_append,List.length_take,List.length_singleton,List.length_drop];omega)
   rw[af4]at k1
   rw[List.append_assoc,List.singleton_append]at k2
   have lt:decide ((ns.length:Int) < k)=false:=decide_eq_false (by omega)
   wp_walk using evD,K4,E4,l4,O0,lt,bY6,c.1,c.2,k1,k2
  ·rw[if_neg h,aa0]
   have lt:decide ((ns.length:Int) < k)=true:=decide_eq_true (by omega)
   wp_walk using evD,K4,l4,O0,lt
 | out pa k x =>
  rw[De.d,De.ls]
  refine run _ _ _ ?_
  have xl:=hx pa k x (.inr rfl)
  rcases Nat.lt_trichotomy k ns.length with h|h|h
  ·have lt:decide ((ns.length:Int) < k)=false:=decide_eq_false (by omega)
   have eq:((k:Int)==(ns.length:Int))=false:=by simp;omega
   have at1:atI (Nd.ds ns) (k:Int)=some (ns[k]).d:=J1 (by rw[bn8,List.getElem?_eq_getElem h];rfl)
   have nb:=neN (hy _ (List.getElem_mem h)) xl (by decide)
   rw[List.getElem?_eq_getElem h,Option.any_some]
   cases q:PyData.eqv (ns[k]).d x.d with
   | false =>
    rw[q]at nb
    rw[if_neg (by simp),aa0]
    wp_walk using evD,K4,l4,O0,lt,br5,eq,at1,nb
   | true =>
    rw[q]at nb
    rw[if_pos rfl,aa0]
    have c1:=(aY8 (xs:=Nd.ds ns) (i:=k) (by rw[O0];omega)).1
    have c2:=(aY8 (xs:=Nd.ds ns) (i:=k+1) (by rw[O0];omega)).2
    rw[aR5]at c1
    rw[aR6]at c2
    have k1:=bV7 (a:=ns.take k) (b:=ns.drop (k+1)) (by rw[List.length_take,List.length_drop];omega)
    have i1:(k:Int)+1=((k+1:Nat):Int):=by omega
    wp_walk using evD,K4,E4,l4,O0,lt,br5,eq,at1,nb,i1,c1,c2,k1
  ·have lt:decide ((ns.length:Int) < k)=false:=decide_eq_false (by omega)
   have eq:((k:Int)==(ns.length:Int))=true:=by simp;omega
   rw[List.getElem?_eq_none (by omega),Option.any_none,if_neg (by simp),aa0]
   wp_walk using evD,K4,l4,O0,lt,br5,eq
  ·have lt:decide ((ns.length:Int) < k)=true:=decide_eq_true (by omega)
   rw[List.getElem?_eq_none (by omega),Option.any_none,if_neg (by simp),aa0]
   wp_walk using evD,K4,l4,O0,lt
 | _=>cases hv
theorem az4{α:Type}{c:Rho->Option Bool}{e:DE}{r:Rho}{h f:α->D}{p:α->Bool}:∀(l:List α) (x:Option B),(∀a∈l,c (‹h a›::r)=some (p a))->(∀a∈l,p a=true->e (‹h a›::r)=some (f a))->N0 (B3 0) c e (l.map h) (x::r)=some ((l.filter p).map f)
 | [],_,_,_=>rfl
 | a::l,x,C,H=>by
  have ih:=az4 l (‹h a›) (fun b hb=>C b (xmm _ hb)) (fun b hb=>H b (xmm _ hb))
  cases q:p a with
  | true =>simp only[xmc,N0,B3,xw0,xbs,C a (List.mem_cons_self ..),q,if_true,H a (List.mem_cons_self ..) q,ih,xms,List.filter_cons_of_pos q]
  | false =>
   have q':¬p a=true:=by rw[q];exact Bool.false_ne_true
   simp only[xmc,N0,B3,xw0,xbs,C a (List.mem_cons_self ..),q,xft,if_false,ih,List.filter_cons_of_neg q']
def isG:Nd->Bool
 | .group ..=>true
 | _=>false
theorem bF5(n:Nd) (r:Rho):tB2 eqD (dIx (A7 0) ⇑0) (dC (.str "group")) (‹n.d›::r)=some (isG n):=by
 cases n with
 | layer=>rw[Nd.d];wp_walk using evD,n8,aX1,isG
 | tone=>rw[Nd.d];wp_walk using evD,ah8,e_tg,isG
 | group=>rw[Nd.d];wp_walk using evD,x9,aX2,isG
theorem aQ8:∀(l:List Nat),an2 (l.map fun k:Nat=>PyData.int (k:Int))=some (l.map fun k:Nat=>(k:Int))
 | []=>rfl
 | k::l=>by
  have:=aQ8 l
  simp only[xmc,an2,this,xms]
theorem bN7(l:List Nd):mxL (0::(l.filter isG).map fun n=>(n.dp:Int))=(Nd.dps l:Int):=by
 obtain⟨h1,h2⟩:=am3 (l:=0::(l.filter isG).map fun n=>(n.dp:Int)) (by simp)
 have up:mxL (0::(l.filter isG).map fun n=>(n.dp:Int))<=(Nd.dps l:Int):=by
  rcases List.mem_cons.mp h1 with e|e
  ·rw[e];omega
  ·obtain⟨n,hn,e⟩:=List.mem_map.mp e
   rw[← e]
   have:=N7 (List.mem_filter.mp hn).1
   omega
 have z:=h2 0 (List.mem_cons_self ..)
 have lo:Nd.dps l<=(mxL (0::(l.filter isG).map fun n=>(n.dp:Int))).toNat:=aK1 l fun n hn=>by
  cases q:isG n with
  | true =>
   have:=h2 n.dp (xmm _ (List.mem_map.mpr ⟨n,List.mem_filter.mpr ⟨hn,q⟩,rfl⟩))
   omega
  | false =>
   have:n.dp=0:=by cases n<;>simp[isG]at q<;>rw[Nd.dp]
   omega
 omega
theorem at5{l:List Nd}{f:Nat}(hl:l.length<=1000) (H:∀nm m s sh ns,Nd.group nm m s sh ns∈l->N4 f [↥ns]=some (.int (Nd.dps ns))):N4 (f+1) [↥l]=some (.int (Nd.dps l)):=by
 refine C2 (g:=ap2 (N4 f)) (ρ:=[‹↥l›]) rfl ?_
 have c:B6 1 [] (E7 (A1 0)) (B3 0) (tB2 eqD (dIx (A7 0) ⇑0) (dC (.str "group"))) (A4 A9 ⇑1 (A3 (N4 f) (A0 (dIx (A7 0) ⇑5) A2))) [‹↥l›]=some ((l.filter isG).map fun n=>PyData.int (n.dp:Int)):=by
  unfold B6
  have e:E7 (A1 0) [‹↥l›]=some (l.map Nd.d):=by rw[← G5];rfl
  rw[e,xbs,if_pos (by rw[List.length_map];omega),show V1 1 [] [some (B.val ↥l)]=[none] from rfl]
  refine az4 (h:=Nd.d) (p:=isG) l none (fun n _=>bF5 n []) fun n hn hp=>?_
  cases n with
  | layer=>cases hp
  | tone=>cases hp
  | group nm m s sh ns =>
   have e:=H nm m s sh ns hn
   have i1:(1:Int)+(Nd.dps ns:Int)=((1+Nd.dps ns:Nat):Int):=by omega
   rw[Nd.d]
   wp_walk using evD,aF6,e,i1,Nd.dp
 have k:=ak3 (xs:=[.int 0]) (ys:=(l.filter isG).map fun n=>PyData.int (n.dp:Int)) (by have:=List.length_filter_le isG l;rw[List.length_map,List.length_singleton];omega)
 have i:=aQ8 (0::(l.filter isG).map Nd.dp)
 rw[xmc,xmc,List.map_map,List.map_map]at i
 have i:an2 ([.int 0]++(l.filter isG).map fun n=>PyData.int (n.dp:Int))=some (0::(l.filter isG).map fun n=>(n.dp:Int)):=i
 have x:A4 A9 (D6 (A0 ⇑0 A2)) (D6 (B6 1 [] (E7 (A1 0)) (B3 0) (tB2 eqD (dIx (A7 0) ⇑0) (dC (.str "group"))) (A4 A9 ⇑1 (A3 (N4 f) (A0 (dIx (A7 0) ⇑5) A2))))) [‹↥l›]=some (.list ([.int 0]++(l.filter isG).map fun n=>PyData.int (n.dp:Int))):=by simp only[A4,D6,A0,A2,dC,xbs,xms,c,k]
 simp only[ap2,B0,aS0,qE,x,xbs,j8,i]
 rw[if_neg (by simp),bN7]
 rfl
theorem bA9:∀(k:Nat) (l:List Nd) (f:Nat),Nd.dps l<=k->k+1<=f->l.length<=1000->Nd.thins l->N4 f [↥l]=some (.int (Nd.dps l)):=by
 intro k
 induction k with
 | zero =>
  intro l f hd hf hl ht
  obtain⟨f,rfl⟩:∃g,f=g+1:=⟨f - 1,by omega⟩
  refine at5 hl fun nm m s sh ns hn=>?_
  have:=N7 hn
  rw[Nd.dp]at this;omega
 | succ k ih =>
  intro l f hd hf hl ht
  obtain⟨f,rfl⟩:∃g,f=g+1:=⟨f - 1,by omega⟩
  refine at5 hl fun nm m s sh ns hn=>?_
  have h1:=N7 hn
  have h2:=(O2 l).mp ht _ hn
  rw[Nd.dp]at h1
  rw[Nd.thin]at h2
  exact ih ns f (by omega) (by omega) h2.1 h2.2
def ag4:D->Str
 | .str s=>s
 | _ => ""
theorem M0.is{d:D}(h:M0 d):d=.str (ag4 d):=by obtain⟨s,rfl,_⟩:=h;rfl
theorem aP8:∀(ps:List (Str×D)) (a:List (Str×D)),((a++ps).map Prod.fst).Nodup->ps.foldl (fun a p=>aI0 a p.1 p.2) (a.map fun p=>(PyData.str p.1,p.2))=(a++ps).map fun p=>(PyData.str p.1,p.2)
 | [],a,_=>by simp
 | p::ps,a,h=>by
  have no:(a.map fun p=>(PyData.str p.1,p.2)).any (P5 p.1)=false:=by
   rw[List.any_eq_false]
   intro x hx
   obtain⟨q,hq,rfl⟩:=List.mem_map.mp hx
   have:q.1≠p.1:=fun e=>by
    rw[List.map_append,List.nodup_append]at h
    exact h.2.2 _ (List.mem_map_of_mem hq) _ (List.mem_cons_self ..) e
   simp[P5,this]
  have e1:aI0 (a.map fun p=>(PyData.str p.1,p.2)) p.1 p.2=(a++[p]).map fun p=>(PyData.str p.1,p.2):=by
   unfold aI0
   rw[no,if_neg (by decide),List.map_append];rfl
  rw[List.foldl_cons,e1,aP8 ps (a++[p]) (by rw[List.append_assoc];exact h),List.append_assoc];rfl
theorem aV8(ps:List (Str×D)) (h:(ps.map Prod.fst).Nodup):mgD ps=ps.map fun p=>(PyData.str p.1,p.2):=aP8 ps [] h
def knw(l:List Nd):D:=.dict ((Nd.als l).map fun n=>(n.nm,n.d))
theorem am5{l:List Nd}(hs:∀d∈Nd.nmss l,M0 d) (x:Str):M4 ((Nd.als l).map fun n=>(n.nm,n.d)) x=(fnd l (.str x)).map Nd.d:=by
 unfold M4 fnd
 have:∀L:List Nd,(∀n∈L,M0 n.nm)->((L.map fun n=>(n.nm,n.d)).find? (P5 x)).map Prod.snd=(L.find? fun n=>same n.nm (.str x)).map Nd.d:=by
  intro L
  induction L with
  | nil=>intro _;rfl
  | cons n L ih =>
   intro h
   obtain⟨s,e,_⟩:=h n (List.mem_cons_self ..)
   rw[xmc,List.find?_cons,List.find?_cons,e]
   by_cases q:s=x
   ·subst q
    rw[show P5 s (.str s,n.d)=true by simp[P5],J9];rfl
   ·rw[show P5 x (.str s,n.d)=false by simp[P5,q],N6 (fun z=>q (by cases z;rfl))]
    exact ih fun m hm=>h m (xmm _ hm)
 refine this _ fun n hn=>hs _ ?_
 rw[← als_nms];exact List.mem_map_of_mem hn
theorem bO7{l:List Nd}(hs:∀d∈Nd.nmss l,M0 d) (nd:(Nd.nmss l).Nodup) (hl:(Nd.als l).length<=900) {src:Rho->Option (List D)}{ρ:Rho}(e:src ρ=some ((Nd.als l).map Nd.d)) :
  aE9 (qN (B6 1 [] src (B3 0) E9 (B1 (A0 (dIx (A7 0) ⇑1) (A0 (A1 0) A2))))) ρ=some (knw l):=by
 have c:B6 1 [] src (B3 0) E9 (B1 (A0 (dIx (A7 0) ⇑1) (A0 (A1 0) A2))) ρ=some ((Nd.als l).map fun n=>.tuple [n.nm,n.d]) :=
  aa2 (l:=Nd.als l) (h:=Nd.d) (r:=[]) rfl e (by omega) fun n _=>by
   have:=bE7 n []
   simp only[B1,A0,A2,this,A1,xg0,xbs,xms]
 have nms:∀n∈Nd.als l,n.nm=.str (ag4 n.nm):=fun n hn=>(hs _ (by rw[← als_nms];exact List.mem_map_of_mem hn)).is
 have p:∀L:List Nd,(∀n∈L,n.nm=.str (ag4 n.nm))->al8 (L.map fun n=>.tuple [n.nm,n.d])=some (L.map fun n=>(ag4 n.nm,n.d)):=by
  intro L
  induction L with
  | nil=>intro _;rfl
  | cons n L ih =>
   intro h
   rw[xmc,al8,ih fun m hm=>h m (xmm _ hm)]
   have:=h n (List.mem_cons_self ..)
   rw[xmc,show bg4 (.tuple [n.nm,n.d])=some (ag4 n.nm,n.d) by rw[this];rfl]
   rfl
 have nd2:(((Nd.als l).map fun n=>(ag4 n.nm,n.d)).map Prod.fst).Nodup:=by
  rw[List.map_map]
  rw[← als_nms]at nd
  rw[List.Nodup,List.pairwise_map]at nd ⊢
  refine List.Pairwise.imp_of_mem (fun{a b} ha hb h e=>h ?_) nd
  rw[nms a ha,nms b hb]
  exact congrArg PyData.str e
 unfold aE9
 have q:qN (B6 1 [] src (B3 0) E9 (B1 (A0 (dIx (A7 0) ⇑1) (A0 (A1 0) A2)))) ρ=some (false,(Nd.als l).map fun n=>.tuple [n.nm,n.d]):=by unfold qN;rw[c];rfl
 rw[q,xbs,if_pos ⟨rfl,by rw[List.length_map];omega⟩,p _ nms,xms,aV8 _ nd2,List.map_map]
 unfold knw
 congr 2
 exact List.map_congr_left fun n hn=>by
  show(PyData.str (ag4 n.nm),n.d)=_
  rw[← nms n hn]
theorem cg0{a b:D}(ha:w4 a) (hb:w4 b):eqD a b=some (.bool (same a b)):=by
 obtain⟨x,rfl,hx⟩:=ha
 obtain⟨y,rfl,hy⟩:=hb
 by_cases e:x=y
 ·subst e;rw[J9];exact br6 hx
 ·rw[N6 (by intro z;cases z;exact e rfl)];exact aH1 hx hy (by simpa using e)
theorem P1{a b:D}:same a b=true↔a=b:=by
 constructor
 ·intro h
  exact Classical.byContradiction fun z=>by rw[N6 z]at h;cases h
 ·intro h;rw[h];exact J9 b
theorem ad4{l:List Nd}{nm:D}{n:Nd}(h:fnd l nm=some n):n∈Nd.als l/\n.nm=nm:=by
 unfold fnd at h
 have q:=List.find?_some (p:=fun n:Nd=>same n.nm nm) h
 exact⟨List.mem_of_find?_eq_some h,P1.mp q⟩
theorem bm7{l:List Nd}{nm:D}(h:fnd l nm=none):nm∉Nd.nmss l:=by
 unfold fnd at h
 rw[List.find?_eq_none]at h
 rw[← als_nms]
 intro z
 obtain⟨n,hn,e⟩:=List.mem_map.mp z
 exact h n hn (P1.mpr e)
theorem bm8{l:List Nd}{n:Nd}(nd:(Nd.nmss l).Nodup) (h:n∈Nd.als l):fnd l n.nm=some n:=by
 cases e:fnd l n.nm with
 | none=>exact absurd (by rw[← als_nms];exact List.mem_map_of_mem h) (bm7 e)
 | some m =>
  obtain⟨h1,h2⟩:=ad4 e
  rw[← als_nms]at nd
  rw[ax3 h2 nd h1 h]
theorem aR3(l:List Nd) (nm:D):(fnd l nm).isSome=(Nd.nmss l).any fun c=>same c nm:=by
 unfold fnd
 rw[← als_nms,List.any_map]
 cases e:(Nd.als l).find? (fun n=>same n.nm nm) with
 | none =>
  rw[List.find?_eq_none]at e
  symm
  rw[Option.isSome_none,List.any_eq_false]
  exact e
 | some n =>
  symm
  rw[Option.isSome_some,List.any_eq_true]
  exact⟨n,List.mem_of_find?_eq_some e,List.find?_some (p:=fun n:Nd=>same n.nm nm) e⟩
theorem ay7{l:List Nd}(hs:∀d∈Nd.nmss l,M0 d) (x:Str) (neg:Bool):G.inK neg (.str x) (knw l)=some (.bool (if neg then !(fnd l (.str x)).isSome else(fnd l (.str x)).isSome)):=by
 show some (PyData.bool (if neg then !(M4 _ x).isSome else(M4 _ x).isSome))=_
 rw[am5 hs,Option.isSome_map]
structure Pl (l:List Nd):Prop where
 wl:Wl l
 ok:Nd.Oks l
 len:(Nd.nmss l).length<=500
theorem Pl.al{l:List Nd}(g:Pl l):(Nd.als l).length<=500:=by
 have:=congrArg List.length (als_nms l)
 rw[List.length_map]at this
 have:=g.len
 omega
structure Dee (e:De):Prop where
 nmo:Nm e.nm\/(e.isV=false/\e.nm=.str "")
 sz:e.sz
 nd:∀pa k x,e=.put pa k x\/e=.out pa k x->(∀d∈x.nms,M0 d)/\x.dp<=4/\x.nms.length<=100
theorem Dee.nm{e:De}(g:Dee e):w4 e.nm:=by
 rcases g.nmo with h|⟨_,h⟩
 ·exact(Q3 h).l
 ·rw[h];exact⟨"", rfl,by decide +kernel⟩
theorem Dee.ly{e:De}(g:Dee e):∀pa k x,e=.put pa k x\/e=.out pa k x->Ly 60 x.d:=fun pa k x h=>by
 obtain⟨h1,h2,_⟩:=g.nd pa k x h
 exact(ah1 x h1).mono (by omega)
theorem aA0:∀(k:Nat) (l:List Nd),Nd.dps l<=k->Nd.Oks l->∀n∈Nd.als l,n.Ok/\n.dp<=k/\(∀d∈n.nms,d∈Nd.nmss l)/\n.nms.length<=(Nd.nmss l).length:=by
 intro k
 induction k with
 | zero =>
  intro l hd ok n hn
  induction l with
  | nil=>rw[Nd.als]at hn;cases hn
  | cons y l ih =>
   rw[Nd.als]at hn
   rw[Nd.Oks]at ok
   rw[Nd.dps]at hd
   rcases List.mem_append.mp hn with h|h
   ·cases y with
    | group=>rw[Nd.dp]at hd;omega
    | layer=>rw[Nd.al]at h;rw[List.mem_singleton.mp h];exact⟨ok.1,by rw[Nd.dp];exact Nat.le_refl _,fun d hd'=>by rw[Nd.nmss];exact List.mem_append_left _ hd',by rw[Nd.nmss,List.length_append];omega⟩
    | tone=>rw[Nd.al]at h;rw[List.mem_singleton.mp h];exact⟨ok.1,by rw[Nd.dp];exact Nat.le_refl _,fun d hd'=>by rw[Nd.nmss];exact List.mem_append_left _ hd',by rw[Nd.nmss,List.length_append];omega⟩
   ·obtain⟨q1,q2,q3,q4⟩:=ih (by omega) ok.2 h
    exact⟨q1,q2,fun d hd'=>by rw[Nd.nmss];exact List.mem_append_right _ (q3 d hd'),by rw[Nd.nmss,List.length_append];omega⟩
 | succ k ih =>
  intro l hd ok n hn
  induction l with
  | nil=>rw[Nd.als]at hn;cases hn
  | cons y l ihl =>
   rw[Nd.als]at hn
   rw[Nd.Oks]at ok
   rw[Nd.dps]at hd
   rcases List.mem_append.mp hn with h|h
   ·have own:n=y->n.Ok/\n.dp<=k+1/\(∀d∈n.nms,d∈Nd.nmss (y::l))/\n.nms.length<=(Nd.nmss (y::l)).length:=fun e=>by
     subst e
     exact⟨ok.1,by omega,fun d hd'=>by rw[Nd.nmss];exact List.mem_append_left _ hd',by rw[Nd.nmss,List.length_append];omega⟩
    cases y with
    | layer=>rw[Nd.al]at h;exact own (List.mem_singleton.mp h)
    | tone=>rw[Nd.al]at h;exact own (List.mem_singleton.mp h)
    | group nm m s sh ns =>
     rw[Nd.al]at h
     rcases List.mem_cons.mp h with h|h
     ·exact own h
     ·have o:=ok.1
      rw[Nd.Ok]at o
      rw[Nd.dp]at hd
      obtain⟨q1,q2,q3,q4⟩:=ih ns (by omega) o.2 n h
      refine⟨q1,by omega,fun d hd'=>?_,?_⟩
      ·rw[Nd.nmss,Nd.nms];exact List.mem_append_left _ (xmm _ (q3 d hd'))
      ·rw[Nd.nmss,Nd.nms,List.length_append,List.length_cons];omega
   ·obtain⟨q1,q2,q3,q4⟩:=ihl (by omega) ok.2 h
    exact⟨q1,q2,fun d hd'=>by rw[Nd.nmss];exact List.mem_append_right _ (q3 d hd'),by rw[Nd.nmss,List.length_append];omega⟩
theorem bw1{X:List D}(h:∀x∈X,Ly 60 x):neD (.list X) (.list [])=some (.bool (!X.isEmpty)):=by
 unfold neD
 rw[if_pos ⟨(Ly.lst h).shaped (by decide),rfl⟩]
 cases X<;>rfl
theorem bF6{w:Str}{b:Bool}(h:(["put", "out"]:List Str).any (fun y=>y==w)=b):inD true (.str w) (.tuple [.str "put", .str "out"])=some (.bool (!b)):=by
 have:=aQ9 true w ["put", "out"]
 rw[h]at this;exact this
theorem C9{c:Rho->Option Bool}{f g:DS}{ρ:Rho}(h:c ρ=some true):sIf c f g ρ=f ρ:=by unfold sIf;rw[h];rfl
theorem B8{c:Rho->Option Bool}{f g:DS}{ρ:Rho}(h:c ρ=some false):sIf c f g ρ=g ρ:=by unfold sIf;rw[h];rfl
abbrev r9(w h:Nat) (l:List Nd) (e:D) (a6 a7 a8:Option B):Rho:=[‹P4 w h l›,‹e›,‹.int w›,‹.int h›,‹↥l›,‹knw l›,a6,a7,a8]
theorem aE2{w h:Nat}{l:List Nd}{e:D}(g:Pl l):∀z,(A8 g7 (A8 L1 (A8 U3 (A8 U2 g6)))) (r9 w h l e none none none)=some (.rt z)->W5 [P4 w h l,e]=some z:=fun z hz=>by
 have l3:∀a b c:D,([a,b,c]:List D).length=3:=fun _ _ _=>rfl
 refine C2 (g:=ap1) (ρ:=[‹P4 w h l›,‹e›,none,none,none,none,none,none,none]) rfl ?_
 unfold ap1
 rw[A6 (ρ':=[‹P4 w h l›,‹e›,‹.int w›,‹.int h›,‹↥l›,none,none,none,none]) (by wp_walk using evD,ag6,P4,l3)]
 have al:=g.al
 have eA:=ao6 3 l 12 g.wl.dp (by decide) (by omega)
 have k:=bO7 g.wl.hs g.wl.nd (by omega) (src:=E7 (A3 (E6 12) (A0 (A1 4) A2))) (ρ:=[‹P4 w h l›,‹e›,‹.int w›,‹.int h›,‹↥l›,none,none,none,none]) (by simp only[E7,A3,A0,A2,A1,xg0,xg1,xbs,xms,eA])
 rw[A6 (ρ':=r9 w h l e none none none) (by simp only[ag5,B2,k,xbs,xms,xw0,xw1])]
 exact hz
def De.w:De->Str
 | .str .. => "strength"
 | .shw .. => "shown"
 | .man .. => "manner"
 | .plc .. => "place"
 | .spt .. => "spot"
 | .put .. => "put"
 | .out .. => "out"
theorem De.parts(e:De):∃r,e.d=.tuple (.str e.w::e.nm::r):=by cases e<;>(rw[De.d];exact⟨_,rfl⟩)
theorem bC4(a:D) (r:List D):L2.atI (a::r) 0=some a:=J1 (j:=0) rfl
theorem az8(a b:D) (r:List D):L2.atI (a::b::r) 1=some b:=J1 (j:=1) rfl
def v2a:DS:=(sIf (tB2 (G.inK true) (dIx (A7 1) ⇑1) (A1 5)) (B0 (dC .none)) C5)
def v2b:DS:=(B2 6 (A3 K3 (A0 (ab0 (A1 5) (dIx (A7 1) ⇑1)) (A0 (A1 1) A2))))
def v2c:DS:=(sIf (tB2 isB (A1 6) (dC .none)) (B0 (dC .none)) C5)
def v2d:DS:=(B0 (B1 (A0 (A1 2) (A0 (A1 3) (A0 (A3 (K0 12) (A0 (A1 4) (A0 (dIx (A7 1) ⇑1) (A0 (B1 (A0 (A1 6) A2)) A2)))) A2)))))
theorem bD4:g7=sIf (tB2 (inD true) (dIx (A7 1) ⇑0) (B1 (A0 (dC (.str "put")) (A0 (dC (.str "out")) A2)))) (A8 v2a (A8 v2b (A8 v2c v2d))) C5:=rfl
theorem bU0(n:Nd):isB n.d .none=some (.bool false):=by cases n<;>(rw[Nd.d];rfl)
theorem aW0(e:De) (hv:e.isV=true) {w h:Nat}{l:List Nd}(g:Pl l) (de:Dee e):W5 [P4 w h l,e.d]=some (X6 w h (dn l e)):=by
 obtain⟨r,er⟩:=e.parts
 obtain⟨x,ex,hx⟩:=de.nm
 have ip:inD true (.str e.w) (.tuple [.str "put", .str "out"])=some (.bool true):=bF6 (b:=false) (by cases e<;>first|(cases hv;done)|(rw[De.w];decide +kernel))
 refine aE2 g _ ?_
 have ik:=ay7 g.wl.hs x true
 have lk:=am5 g.wl.hs x
 unfold dn
 rw[if_pos hv,ex]
 rw[ex]at er
 rw[er]
 have t2:(tB2 (inD true) (dIx (A7 1) ⇑0) (B1 (A0 (dC (.str "put")) (A0 (dC (.str "out")) A2)))) (r9 w h l (.tuple (.str e.w :: .str x::r)) none none none)=some true:=by wp_walk using evD,r9,bC4,ip
 refine D0 ?_
 rw[bD4]
 refine Eq.trans (C9 t2) ?_
 cases q:fnd l (.str x) with
 | none =>
  rw[q]at ik
  refine D0 ?_
  wp_walk using evD,v2a,r9,az8,ik,Option.isSome_none
  rfl
 | some n =>
  rw[q]at ik lk
  obtain⟨n1,n2⟩:=ad4 q
  have hc:=bB9 e n hv (aA0 3 l g.wl.dp g.ok n n1).1 de.sz
  rw[er]at hc
  rw[A6 (ρ':=r9 w h l (.tuple (.str e.w :: .str x::r)) none none none) (by wp_walk using evD,v2a,r9,az8,ik,Option.isSome_some)]
  have ixk:ab0 (A1 5) (dIx (A7 1) ⇑1) (r9 w h l (.tuple (.str e.w :: .str x::r)) none none none)=some n.d:=by
   have k:knw l=.dict ((Nd.als l).map fun n=>(n.nm,n.d)):=rfl
   wp_walk using evD,ab0,r9,az8,k,lk
  have v1:A1 1 (r9 w h l (.tuple (.str e.w :: .str x::r)) none none none)=some (.tuple (.str e.w :: .str x::r)):=rfl
  rw[A6 (ρ':=r9 w h l (.tuple (.str e.w :: .str x::r)) (‹ai5 (e.on n)›) none none) (by
   simp only[v2b,B2,A3,A0,A2,ixk,v1,xbs,xms,hc,r9,xw0,xw1])]
  rw[xbs]
  cases p:e.on n with
  | none =>
   refine D0 ?_
   wp_walk using evD,v2c,r9,ai5,bl0
   rfl
  | some n' =>
   rw[ai5]
   rw[A6 (ρ':=r9 w h l (.tuple (.str e.w :: .str x::r)) (‹n'.d›) none none) (by wp_walk using evD,v2c,r9,bU0)]
   have sx:M0 (.str x):=by rw[← n2];exact g.wl.hs _ (by rw[← als_nms];exact List.mem_map_of_mem n1)
   have wt:=g.wl.wt sx (oth:=[n']) (by show 1<=1000;decide)
   rw[af4]at wt
   wp_walk using evD,v2d,r9,az8,wt,X6,P4
theorem bG8{x:Nd}(hx:∀d∈x.nms,M0 d) (hd:x.dp<=4):∀n∈Nd.al x,Ly 60 n.d/\M0 n.nm:=by
 have key:∀(k:Nat) (l:List Nd),Nd.dps l<=k->∀n∈Nd.als l,n.dp<=k/\∀d∈n.nms,d∈Nd.nmss l:=by
  intro k
  induction k with
  | zero =>
   intro l hd n hn
   induction l with
   | nil=>rw[Nd.als]at hn;cases hn
   | cons y l ih =>
    rw[Nd.als]at hn
    rw[Nd.dps]at hd
    rcases List.mem_append.mp hn with h|h
    ·cases y with
     | group=>rw[Nd.dp]at hd;omega
     | layer=>rw[Nd.al]at h;rw[List.mem_singleton.mp h];exact⟨by rw[Nd.dp];exact Nat.le_refl _,fun d hd'=>by rw[Nd.nmss];exact List.mem_append_left _ hd'⟩
     | tone=>rw[Nd.al]at h;rw[List.mem_singleton.mp h];exact⟨by rw[Nd.dp];exact Nat.le_refl _,fun d hd'=>by rw[Nd.nmss];exact List.mem_append_left _ hd'⟩
    ·obtain⟨q2,q3⟩:=ih (by omega) h
     exact⟨q2,fun d hd'=>by rw[Nd.nmss];exact List.mem_append_right _ (q3 d hd')⟩
  | succ k ih =>
   intro l hd n hn
   induction l with
   | nil=>rw[Nd.als]at hn;cases hn
   | cons y l ihl =>
    rw[Nd.als]at hn
    rw[Nd.dps]at hd
    rcases List.mem_append.mp hn with h|h
    ·have own:n=y->n.dp<=k+1/\∀d∈n.nms,d∈Nd.nmss (y::l):=fun e=>by
      subst e
      exact⟨by omega,fun d hd'=>by rw[Nd.nmss];exact List.mem_append_left _ hd'⟩
     cases y with
     | layer=>rw[Nd.al]at h;exact own (List.mem_singleton.mp h)
     | tone=>rw[Nd.al]at h;exact own (List.mem_singleton.mp h)
     | group nm m s sh ns =>
      rw[Nd.al]at h
      rcases List.mem_cons.mp h with h|h
      ·exact own h
      ·rw[Nd.dp]at hd
       obtain⟨q2,q3⟩:=ih ns (by omega) n h
       exact⟨by omega,fun d hd'=>by rw[Nd.nmss,Nd.nms];exact List.mem_append_left _ (xmm _ (q3 d hd'))⟩
    ·obtain⟨q2,q3⟩:=ihl (by omega) h
     exact⟨q2,fun d hd'=>by rw[Nd.nmss];exact List.mem_append_right _ (q3 d hd')⟩
 intro n hn
 have e1:Nd.als [x]=Nd.al x:=by rw[Nd.als,Nd.als,List.append_nil]
 have e2:Nd.nmss [x]=x.nms:=by rw[Nd.nmss,Nd.nmss,List.append_nil]
 obtain⟨q1,q2⟩:=key 4 [x] (by rw[Nd.dps,Nd.dps];omega) n (by rw[e1];exact hn)
 rw[e2]at q2
 exact⟨(ah1 n fun d hd'=>hx d (q2 d hd')).mono (by omega),hx _ (q2 _ (U9 n))⟩
theorem aK8{l:List Nd}{x:Nd}(hx:∀d∈x.nms,M0 d) (hd:x.dp<=4):neD (.list (((Nd.al x).filter fun n=>(fnd l n.nm).isSome).map Nd.d)) (.list [])=some (.bool (x.nms.any fun d=>(Nd.nmss l).any fun c=>same c d)):=by
 have h:=bG8 hx hd
 rw[bw1 fun d hd'=>by
  obtain⟨n,hn,rfl⟩:=List.mem_map.mp hd'
  exact(h n (List.mem_filter.mp hn).1).1]
 congr 2
 rw[← ao7,List.any_map,Bool.eq_iff_iff]
 simp only[Bool.not_eq_true',List.isEmpty_eq_false_iff,ne_eq,List.map_eq_nil_iff,List.filter_eq_nil_iff,List.any_eq_true]
 constructor
 ·intro z
  exact Classical.byContradiction fun q=>z fun n hn hs=>q ⟨n,hn,by show((Nd.nmss l).any fun c=>same c n.nm)=true;rw[← aR3];exact hs⟩
 ·rintro⟨n,hn,hs⟩ z
  exact z n hn (by rw[aR3];exact hs)
theorem ax5{l:List Nd}(g:Pl l) {x:Nd}(hx:∀d∈x.nms,M0 d) (hd:x.dp<=4) (hn:x.nms.length<=100) {src:Rho->Option (List D)}{ρ:Rho}(hs:src ρ=some ((Nd.al x).map Nd.d)) (hc:V1 1 [5] ρ=[none,‹knw l›]) :
  B6 1 [5] src (B3 0) (tB2 (G.inK false) (dIx (A7 0) ⇑1) (A1 1)) (A1 0) ρ=some (((Nd.al x).filter fun n=>(fnd l n.nm).isSome).map Nd.d):=by
 have len:=congrArg List.length (ao7 x)
 rw[List.length_map]at len
 unfold B6
 rw[hs,xbs,if_pos (by rw[List.length_map];omega),hc]
 refine az4 (h:=Nd.d) (f:=Nd.d) (p:=fun n=>(fnd l n.nm).isSome) (Nd.al x) none (fun n hn=>?_) fun n _ _=>rfl
 have q:=((bG8 hx hd) n hn).2
 have ik:=ay7 g.wl.hs (ag4 n.nm) false
 rw[← q.is]at ik
 have a1:=bE7 n [‹knw l›]
 have v1:A1 1 [‹n.d›,‹knw l›]=some (knw l):=rfl
 unfold tB2 A4
 rw[a1,v1,xbs,xbs,ik]
 rfl
def p4a:DS:=(B2 7 (A3 O1 (A0 (A1 4) (A0 (A1 1) A2))))
def p4b:DS:=(B2 8 (ab0 (A1 5) (dIx (A7 1) ⇑1)))
def p4c:DS:=(B2 7 (A3 O1 (A0 (dIx (A7 8) ⇑5) (A0 (A1 1) A2))))
def p4d:DS:=(sIf (tB2 am0 (A1 7) (dC .none)) (B2 7 (A3 (K0 12) (A0 (A1 4) (A0 (dIx (A7 1) ⇑1) (A0 (B1 (A0 (A4 A9 (E4 (A1 8) C4 (B5 ⇑5)) (B1 (A0 (A1 7) A2))) A2)) A2))))) C5)
theorem cb3:U3=sIf (tB2 eqD (dIx (A7 1) ⇑1) (dC (.str ""))) p4a (sIf (F8 (tB2 (G.inK true) (dIx (A7 1) ⇑1) (A1 5)) (tB2 neD (dIx (qE (ab0 (A1 5) (dIx (A7 1) ⇑1))) ⇑0) (dC (.str "group")))) (B2 7 (dC .none)) (A8 p4b (A8 p4c p4d))):=rfl
theorem ce9{f:DE}{ρ:Rho}{d:D}(h:f ρ=some d) (i:Int):dIx (qE f) (dC (.int i)) ρ=(j8 d).bind fun q=>atI q.2 i:=by unfold dIx qE;rw[h];rfl
theorem bO4:w4 (.str ""):=⟨"", rfl,by decide +kernel⟩
theorem bO5{e:De}{ns ns':List Nd}(h:e.ls ns=some ns'):ns'.length<=ns.length+1:=by
 cases e with
 | put pa k x =>
  rw[De.ls]at h
  split at h
  ·cases h;rw[List.length_append,List.length_cons,List.length_take,List.length_drop];omega
  ·cases h
 | out pa k x =>
  rw[De.ls]at h
  split at h
  ·cases h;rw[List.length_append,List.length_take,List.length_drop];omega
  ·cases h
 | _=>cases h
theorem cl3:neD (.str "group") (.str "group")=some (.bool false):=S8 aX2
theorem cl2:neD (.str "layer") (.str "group")=some (.bool true):=S8 aX1
theorem cl0:neD (.str "tone") (.str "group")=some (.bool true):=S8 e_tg
theorem bK5(e:De) (hv:e.isV=false) {w h:Nat}{l:List Nd}(g:Pl l) (de:Dee e) {r:List D}(er:e.d=.tuple (.str e.w::e.nm::r)):∃a8,U3 (r9 w h l (.tuple (.str e.w::e.nm::r)) none none none)=some (.nx (r9 w h l (.tuple (.str e.w::e.nm::r)) none (‹aa0 (e.pre l)›) a8)):=by
 have al:=g.al
 have t0:(tB2 eqD (dIx (A7 1) ⇑1) (dC (.str ""))) (r9 w h l (.tuple (.str e.w::e.nm::r)) none none none)=some (same e.nm (.str "")):=by
  have q:=cg0 de.nm bO4
  wp_walk using evD,r9,az8,q
 have lyl:∀y∈l,Ly 60 y.d:=fun y hy=>(ah1 y fun d hd=>g.wl.hs d (aj8 hy hd)).mono (by have:=N7 hy;have:=g.wl.dp;omega)
 have th:=thins_of l g.wl.nl
 have v1:∀a6 a7 a8,A1 1 (r9 w h l (.tuple (.str e.w::e.nm::r)) a6 a7 a8)=some (.tuple (.str e.w::e.nm::r)):=fun _ _ _=>rfl
 rw[cb3]
 unfold De.pre
 cases s0:same e.nm (.str "") with
 | true =>
  rw[s0]at t0
  rw[if_pos rfl,C9 t0]
  have q:=as4 e l hv (by have:=g.len;omega) lyl de.ly
  rw[er]at q
  exact⟨none,by wp_walk using evD,p4a,r9,q⟩
 | false =>
  rw[s0]at t0
  rw[if_neg (by decide),B8 t0]
  obtain⟨x,ex,hx⟩:=de.nm
  have ik:=ay7 g.wl.hs x true
  have lk:=am5 g.wl.hs x
  rw[← ex]at ik lk
  have k:knw l=.dict ((Nd.als l).map fun n=>(n.nm,n.d)):=rfl
  have tk:(tB2 (G.inK true) (dIx (A7 1) ⇑1) (A1 5)) (r9 w h l (.tuple (.str e.w::e.nm::r)) none none none)=some (!(fnd l e.nm).isSome):=by wp_walk using evD,r9,az8,ik
  cases q:fnd l e.nm with
  | none =>
   rw[q]at tk
   have tt:(F8 (tB2 (G.inK true) (dIx (A7 1) ⇑1) (A1 5)) (tB2 neD (dIx (qE (ab0 (A1 5) (dIx (A7 1) ⇑1))) ⇑0) (dC (.str "group")))) (r9 w h l (.tuple (.str e.w::e.nm::r)) none none none)=some true:=by unfold F8;rw[tk];rfl
   rw[C9 tt]
   exact⟨none,rfl⟩
  | some n =>
   rw[q]at tk lk
   obtain⟨n1,n2⟩:=ad4 q
   have ixk:∀a6 a7 a8,ab0 (A1 5) (dIx (A7 1) ⇑1) (r9 w h l (.tuple (.str e.w::e.nm::r)) a6 a7 a8)=some n.d:=fun a6 a7 a8=>by
    rw[ex]
    wp_walk using evD,ab0,r9,az8,k,lk
   have tg:(tB2 neD (dIx (qE (ab0 (A1 5) (dIx (A7 1) ⇑1))) ⇑0) (dC (.str "group"))) (r9 w h l (.tuple (.str e.w::e.nm::r)) none none none)=some (!isG n):=by
    unfold tB2 A4
    rw[ce9 (ixk none none none)]
    cases n with
    | layer=>rw[Nd.d];simp only[dC,xbs,j8,n8,cl2,J4];rfl
    | tone=>rw[Nd.d];simp only[dC,xbs,j8,ah8,cl0,J4];rfl
    | group=>rw[Nd.d];simp only[dC,xbs,j8,x9,cl3,J4];rfl
   have tt:(F8 (tB2 (G.inK true) (dIx (A7 1) ⇑1) (A1 5)) (tB2 neD (dIx (qE (ab0 (A1 5) (dIx (A7 1) ⇑1))) ⇑0) (dC (.str "group")))) (r9 w h l (.tuple (.str e.w::e.nm::r)) none none none)=some (!isG n):=by unfold F8;rw[tk];simp only[Option.isSome_some,xnt,xbs,xft,if_false];exact tg
   rw[xbs]
   cases n with
   | layer=>rw[C9 tt];exact⟨none,rfl⟩
   | tone=>rw[C9 tt];exact⟨none,rfl⟩
   | group nm m s sh ns =>
    rw[B8 tt,grp]
    obtain⟨o1,o2,o3,o4⟩:=aA0 3 l g.wl.dp g.ok _ n1
    rw[Nd.dp]at o2
    rw[Nd.nms,List.length_cons]at o4
    have nl:ns.length<=500:=by
     have:=(thins_of ns (by have:=g.len;omega)).2
     have:=g.len
     omega
    have lyn:∀y∈ns,Ly 60 y.d:=fun y hy=>(ah1 y fun d hd=>g.wl.hs d (o3 d (by rw[Nd.nms];exact xmm _ (aj8 hy hd)))).mono (by have:=N7 hy;omega)
    have ql:=as4 e ns hv (by omega) lyn de.ly
    rw[er]at ql
    rw[A6 (ρ':=r9 w h l (.tuple (.str e.w::e.nm::r)) none none (‹Nd.d (.group nm m s sh ns)›)) (by simp only[p4b,B2,ixk,xbs,xms,r9,xw0,xw1])]
    have i5:dIx (A7 8) ⇑5 (r9 w h l (.tuple (.str e.w::e.nm::r)) none none (‹Nd.d (.group nm m s sh ns)›))=some ↥ns:=by rw[Nd.d];wp_walk using evD,r9,aF6
    rw[A6 (ρ':=r9 w h l (.tuple (.str e.w::e.nm::r)) none (‹aa0 (e.ls ns)›) (‹Nd.d (.group nm m s sh ns)›)) (by simp only[p4c,B2,A3,A0,A2,i5,v1,xbs,xms,ql,r9,xw0,xw1])]
    refine⟨‹Nd.d (.group nm m s sh ns)›,?_⟩
    cases p:e.ls ns with
    | none =>
     rw[aa0]
     wp_walk using evD,p4d,r9,cd2,Option.map_none,aa0
    | some ns' =>
     have ln:=bO5 p
     have sx:M0 e.nm:=by rw[← n2];exact g.wl.hs _ (by rw[← als_nms];exact List.mem_map_of_mem n1)
     have wt:=g.wl.wt sx (oth:=[.group nm m s sh ns']) (by show 1<=1000;decide)
     rw[af4,Nd.d]at wt
     have c5:O9 [.str "group", nm,.str m.s,fr s,.bool sh,↥ns] none (some 5)=[.str "group", nm,.str m.s,fr s,.bool sh]:=rfl
     have k5:=af6 (a:=[.str "group", nm,.str m.s,fr s,.bool sh]) (b:=[↥ns']) (by show 6<=1000;decide)
     have k5:A9 (.tuple [.str "group", nm,.str m.s,fr s,.bool sh]) (.tuple [↥ns'])=some (.tuple [.str "group", nm,.str m.s,fr s,.bool sh,↥ns']):=k5
     rw[aa0,Nd.d]
     wp_walk using evD,p4d,r9,E4,ck9,c5,k5,az8,wt,xms,aa0
theorem Stands.rp{a b l:List Nd}{n:Nd}(h:Stands a n b l) (o':List Nd):∃l',Rp (a++n::b) o' l l':=by
 induction h with
 | top=>exact⟨_,.top⟩
 | deep _ ih=>obtain⟨l',r⟩:=ih;exact⟨_,.deep r⟩
theorem bm6{l:List Nd}(nd:(Nd.nmss l).Nodup) {nm:D}{n:Nd}(h:fnd l nm=some n):∃a b,Stands a n b l/\∀n',Rp (a++n::b) (a++[n']++b) l (Nd.wss nm [n'] l):=by
 obtain⟨h1,h2⟩:=ad4 h
 obtain⟨a,b,St⟩:=ao4 nd h1
 refine⟨a,b,St,fun n'=>?_⟩
 obtain⟨l',r⟩:=St.rp (a++[n']++b)
 rw[← h2,bY3 r nd];exact r
theorem aj4(e:De):M3 [e.d]=some (.str e.w):=by
 obtain⟨r,er⟩:=e.parts
 rw[er]
 refine C2 (ρ:=[‹.tuple (.str e.w::e.nm::r)›]) rfl ?_
 wp_walk using evD,au7,bC4
theorem p7(e:De):O7 [e.d]=some e.nm:=by
 obtain⟨r,er⟩:=e.parts
 rw[er]
 refine C2 (ρ:=[‹.tuple (.str e.w::e.nm::r)›]) rfl ?_
 wp_walk using evD,ah9,az8
structure Gp (N:Nat) (l:List Nd):Prop where
 ok:Nd.Oks l
 nr:Nd.nears l
 dp:Nd.dps l<=3
 nm:∀d∈Nd.nmss l,Nm d
 nd:(Nd.nmss l).Nodup
 len:(Nd.nmss l).length<=N
theorem Gp.wl{N:Nat}{l:List Nd}(g:Gp N l) (hN:N<=400):Wl l:=⟨g.dp,fun d hd=>Q3 (g.nm d hd),g.nd,by have:=g.len;omega⟩
theorem Gp.pl{N:Nat}{l:List Nd}(g:Gp N l) (hN:N<=400):Pl l:=⟨g.wl hN,g.ok,by have:=g.len;omega⟩
def De.gv:De->Prop
 | .str _ _ n=>Sr 4 n
 | .plc _ _ _ c d=>(-2<=c/\c<=2)/\-2<=d/\d<=2
 | .spt _ _ _ _ n=>n.ok 8
 | .put _ _ x=>x.Ok/\x.near/\x.nms.Nodup
 | _=>True
structure Dg (e:De):Prop where
 de:Dee e
 gv:e.gv
 nd:∀pa k x,e=.put pa k x\/e=.out pa k x->(∀d∈x.nms,Nm d)/\x.nms.length<=100
theorem cb9{e:De}(g:e.gv) {n n':Nd}(h:e.on n=some n') (ok:n.Ok) (nr:n.near):n'.Ok/\n'.near/\n'.nms=n.nms/\n'.dp=n.dp/\n'.nm=n.nm:=by
 cases e with
 | put=>cases n<;>cases h
 | out=>cases n<;>cases h
 | str nm o v =>
  cases n with
  | layer nm' m s sh lf tp mk w h' l kb =>
   rw[De.on]at h
   split at h
   ·cases h;rw[Nd.Ok]at ok ⊢;rw[Nd.near]at nr ⊢;exact⟨⟨g,ok.2⟩,nr,by rw[Nd.nms,Nd.nms],by rw[Nd.dp,Nd.dp],by rw[Nd.nm,Nd.nm]⟩
   ·cases h
  | tone nm' r s sh =>
   rw[De.on]at h
   split at h
   ·cases h;rw[Nd.Ok]at ok ⊢;rw[Nd.near]at nr ⊢;exact⟨g,trivial,by rw[Nd.nms,Nd.nms],by rw[Nd.dp,Nd.dp],by rw[Nd.nm,Nd.nm]⟩
   ·cases h
  | group nm' m s sh ns =>
   rw[De.on]at h
   split at h
   ·cases h;rw[Nd.Ok]at ok ⊢;rw[Nd.near]at nr ⊢;exact⟨⟨g,ok.2⟩,nr,by rw[Nd.nms,Nd.nms],by rw[Nd.dp,Nd.dp],by rw[Nd.nm,Nd.nm]⟩
   ·cases h
 | shw nm o v =>
  cases n with
  | layer nm' m s sh lf tp mk w h' l kb =>
   rw[De.on]at h
   split at h
   ·cases h;rw[Nd.Ok]at ok ⊢;rw[Nd.near]at nr ⊢;exact⟨ok,nr,by rw[Nd.nms,Nd.nms],by rw[Nd.dp,Nd.dp],by rw[Nd.nm,Nd.nm]⟩
   ·cases h
  | tone nm' r s sh =>
   rw[De.on]at h
   split at h
   ·cases h;rw[Nd.Ok]at ok ⊢;rw[Nd.near]at nr ⊢;exact⟨ok,trivial,by rw[Nd.nms,Nd.nms],by rw[Nd.dp,Nd.dp],by rw[Nd.nm,Nd.nm]⟩
   ·cases h
  | group nm' m s sh ns =>
   rw[De.on]at h
   split at h
   ·cases h;rw[Nd.Ok]at ok ⊢;rw[Nd.near]at nr ⊢;exact⟨ok,nr,by rw[Nd.nms,Nd.nms],by rw[Nd.dp,Nd.dp],by rw[Nd.nm,Nd.nm]⟩
   ·cases h
 | man nm o v =>
  cases n with
  | layer nm' m s sh lf tp mk w h' l kb =>
   rw[De.on]at h
   split at h
   ·cases h;rw[Nd.Ok]at ok ⊢;rw[Nd.near]at nr ⊢;exact⟨ok,nr,by rw[Nd.nms,Nd.nms],by rw[Nd.dp,Nd.dp],by rw[Nd.nm,Nd.nm]⟩
   ·cases h
  | tone=>cases h
  | group nm' m s sh ns =>
   rw[De.on]at h
   split at h
   ·cases h;rw[Nd.Ok]at ok ⊢;rw[Nd.near]at nr ⊢;exact⟨ok,nr,by rw[Nd.nms,Nd.nms],by rw[Nd.dp,Nd.dp],by rw[Nd.nm,Nd.nm]⟩
   ·cases h
 | plc nm a b c d =>
  cases n with
  | layer nm' m s sh lf tp mk w h' l kb =>
   rw[De.on]at h
   split at h
   ·cases h;rw[Nd.Ok]at ok ⊢;rw[Nd.near]at nr ⊢;exact⟨ok,⟨g.1.1,g.1.2,g.2.1,g.2.2,nr.2.2.2.2⟩,by rw[Nd.nms,Nd.nms],by rw[Nd.dp,Nd.dp],by rw[Nd.nm,Nd.nm]⟩
   ·cases h
  | tone=>cases h
  | group=>cases h
 | spt nm x y o v =>
  cases n with
  | layer nm' m s sh lf tp mk w h' l kb =>
   rw[De.on]at h
   split at h
   ·cases h
    rw[Nd.Ok]at ok ⊢;rw[Nd.near]at nr ⊢
    have o8:∀q∈l.set (y*w+x) v,q.ok 8:=fun q hq=>by
     rcases List.mem_or_eq_of_mem_set hq with z|z
     ·exact nr.2.2.2.2.2.2.2 q z
     ·rw[z];exact g
    obtain⟨k1,S,k3,k4,k5⟩:=ok
    refine⟨⟨k1,⟨S.w1,S.w8,S.h1,S.h8,by rw[List.length_set,S.len],fun q hq=>Spot.mono (o8 q hq) (by decide)⟩,fun q hq=>bG0 (o8 q hq),k4,by decide⟩,⟨nr.1,nr.2.1,nr.2.2.1,nr.2.2.2.1,by decide,nr.2.2.2.2.2.1,nr.2.2.2.2.2.2.1,o8⟩,by rw[Nd.nms,Nd.nms],by rw[Nd.dp,Nd.dp],by rw[Nd.nm,Nd.nm]⟩
   ·cases h
  | tone=>cases h
  | group=>cases h
theorem W0(n:Nd) (l:List Nd):Nd.Oks (n::l)↔n.Ok/\Nd.Oks l:=by rw[Nd.Oks]
theorem M1(a b:List Nd):Nd.nears (a++b)↔Nd.nears a/\Nd.nears b:=by
 rw[O4,O4,O4]
 constructor
 ·exact fun h=>⟨fun n hn=>h n (List.mem_append_left _ hn),fun n hn=>h n (List.mem_append_right _ hn)⟩
 ·intro h n hn
  rcases List.mem_append.mp hn with q|q
  ·exact h.1 n q
  ·exact h.2 n q
theorem Rp.oks{o o' l l':List Nd}(r:Rp o o' l l') (h:Nd.Oks o->Nd.Oks o'):Nd.Oks l->Nd.Oks l':=by
 induction r with
 | top=>exact h
 | deep _ ih =>
  intro k
  rw[U7,W0,Nd.Ok]at k ⊢
  exact⟨k.1,⟨k.2.1.1,ih k.2.1.2⟩,k.2.2⟩
theorem Rp.nears{o o' l l':List Nd}(r:Rp o o' l l') (h:Nd.nears o->Nd.nears o'):Nd.nears l->Nd.nears l':=by
 induction r with
 | top=>exact h
 | deep _ ih =>
  intro k
  rw[M1,Nd.nears,Nd.near]at k ⊢
  exact⟨k.1,ih k.2.1,k.2.2⟩
theorem Rp.oksO{o o' l l':List Nd}(r:Rp o o' l l'):Nd.Oks l->Nd.Oks o:=by
 induction r with
 | top=>exact id
 | deep _ ih=>intro k;rw[U7,W0,Nd.Ok]at k;exact ih k.2.1.2
theorem Rp.nearsO{o o' l l':List Nd}(r:Rp o o' l l'):Nd.nears l->Nd.nears o:=by
 induction r with
 | top=>exact id
 | deep _ ih=>intro k;rw[M1,Nd.nears,Nd.near]at k;exact ih k.2.1
theorem Rp.symm{o o' l l':List Nd}(r:Rp o o' l l'):Rp o' o l' l:=by
 induction r with
 | top=>exact .top
 | deep _ ih=>exact .deep ih
theorem Rp.perm{o o' l l':List Nd}{X:List D}(r:Rp o o' l l') (h:(Nd.nmss o').Perm (X++Nd.nmss o)):(Nd.nmss l').Perm (X++Nd.nmss l):=by
 induction r with
 | top=>exact h
 | @deep c e nm m s sh ns ns' _ ih =>
  rw[C3,C3,Nd.nmss,Nd.nmss,Nd.nms,Nd.nms]
  have h1:(nm::Nd.nmss ns').Perm (X++nm::Nd.nmss ns):=(List.Perm.cons nm ih).trans List.perm_middle.symm
  have h2:(nm::Nd.nmss ns'++Nd.nmss e).Perm (X++(nm::Nd.nmss ns++Nd.nmss e)):=by rw[← List.append_assoc];exact h1.append_right _
  refine(List.Perm.append_left _ h2).trans ?_
  exact List.perm_append_comm_assoc ..
theorem Rp.same{o o' l l':List Nd}(r:Rp o o' l l') (h:Nd.nmss o'=Nd.nmss o):Nd.nmss l'=Nd.nmss l:=by
 induction r with
 | top=>exact h
 | deep _ ih=>rw[C3,C3,Nd.nmss,Nd.nmss,Nd.nms,Nd.nms,ih]
theorem Rp.dpsEq{o o' l l':List Nd}(r:Rp o o' l l') (h:Nd.dps o'=Nd.dps o):Nd.dps l'=Nd.dps l:=by
 induction r with
 | top=>exact h
 | deep _ ih=>rw[G6,G6,Nd.dps,Nd.dps,Nd.dp,Nd.dp,ih]
theorem Rp.dpsLe{o o' l l':List Nd}(r:Rp o o' l l'):Nd.dps l'<=Nd.dps l+Nd.dps o':=by
 induction r with
 | top=>omega
 | deep _ ih=>rw[G6,G6,Nd.dps,Nd.dps,Nd.dp,Nd.dp];omega
theorem cf5{N:Nat}{l:List Nd}(g:Gp N l) {e:De}(ge:e.gv) {nm:D}{n n':Nd}(hf:fnd l nm=some n) (ho:e.on n=some n'):Gp N (Nd.wss nm [n'] l):=by
 obtain⟨a,b,St,R⟩:=bm6 g.nd hf
 have r:=R n'
 have h1:=r.oksO g.ok
 have h2:=r.nearsO g.nr
 rw[U7,W0]at h1
 rw[M1,Nd.nears]at h2
 obtain⟨q1,q2,q3,q4,q5⟩:=cb9 ge ho h1.2.1 h2.2.1
 have e1:Nd.nmss (a++[n']++b)=Nd.nmss (a++n::b):=by rw[List.append_assoc,List.singleton_append,C3,C3,Nd.nmss,Nd.nmss,q3]
 have e2:Nd.dps (a++[n']++b)=Nd.dps (a++n::b):=by rw[List.append_assoc,List.singleton_append,G6,G6,Nd.dps,Nd.dps,q4]
 have e3:=r.same e1
 refine⟨r.oks (fun _=>?_) g.ok,r.nears (fun _=>?_) g.nr,by rw[r.dpsEq e2];exact g.dp,by rw[e3];exact g.nm,by rw[e3];exact g.nd,by rw[e3];exact g.len⟩
 ·rw[List.append_assoc,List.singleton_append,U7,W0];exact⟨h1.1,q1,h1.2.2⟩
 ·rw[List.append_assoc,List.singleton_append,M1,Nd.nears];exact⟨h2.1,q2,h2.2.2⟩
def bF1:Nd->Option (List Nd)
 | .group _ _ _ _ ns=>some ns
 | _=>none
def inn(ns':List Nd):Nd->Nd
 | .group nm m s sh _=>.group nm m s sh ns'
 | n=>n
def kd(l:List Nd) (pa:D):Option (List Nd):=if same pa (.str "")=true then some l else(fnd l pa).bind bF1
def wk(l:List Nd) (pa:D) (ns':List Nd):List Nd:=if same pa (.str "")=true then ns' else match fnd l pa with
 | some n=>Nd.wss pa [inn ns' n] l
 | none=>l
theorem aw9(e:De) (l:List Nd):e.pre l=(kd l e.nm).bind fun ns=>(e.ls ns).map (wk l e.nm):=by
 unfold De.pre kd
 cases s0:same e.nm (.str "") with
 | true =>
  rw[if_pos rfl,if_pos rfl,xbs]
  have:wk l e.nm=id:=by funext ns';unfold wk;rw[s0,if_pos rfl];rfl
  rw[this,Option.map_id];rfl
 | false =>
  rw[if_neg (by simp),if_neg (by simp)]
  cases q:fnd l e.nm with
  | none=>rfl
  | some n =>
   rw[xbs,xbs]
   cases n with
   | layer=>rfl
   | tone=>rfl
   | group nm m s sh ns =>
    rw[grp,bF1,xbs,Option.map_map]
    congr 1
    funext ns'
    unfold wk
    rw[s0,if_neg (by simp),q];rfl
theorem Rp.into{a b l l':List Nd}{nm:D}{m:Man}{s:Rat}{sh:Bool}{ns ns':List Nd}(r:Rp (a ++ .group nm m s sh ns::b) (a++[.group nm m s sh ns']++b) l l'):Rp ns ns' l l':=by
 rw[List.append_assoc,List.singleton_append]at r
 generalize ho:a++Nd.group nm m s sh ns::b=o at r
 generalize ho':a++Nd.group nm m s sh ns'::b=o' at r
 induction r with
 | top=>subst ho ho';exact .deep .top
 | deep _ ih=>exact .deep ih
theorem as6{l:List Nd}(nd:(Nd.nmss l).Nodup) {pa:D}{ns:List Nd}(h:kd l pa=some ns) (ns':List Nd):Rp ns ns' l (wk l pa ns'):=by
 unfold kd at h
 unfold wk
 cases s0:same pa (.str "") with
 | true=>rw[s0,if_pos rfl]at h;cases h;rw[if_pos rfl];exact .top
 | false =>
  rw[s0,if_neg (by simp)]at h
  rw[if_neg (by simp)]
  obtain⟨n,q,hn⟩:=xbo h
  rw[q]
  cases n with
  | layer=>cases hn
  | tone=>cases hn
  | group nm m s sh ms =>
   cases hn
   obtain⟨a,b,St,R⟩:=bm6 nd q
   exact(R (.group nm m s sh ns')).into
theorem Rp.sub{o o' l l':List Nd}(r:Rp o o' l l'):(∀d∈Nd.nmss o,d∈Nd.nmss l)/\(Nd.nmss o).length<=(Nd.nmss l).length/\Nd.dps o<=Nd.dps l:=by
 induction r with
 | top=>exact⟨fun _ h=>h,Nat.le_refl _,Nat.le_refl _⟩
 | deep _ ih =>
  rw[C3,Nd.nmss,Nd.nms,G6,Nd.dps,Nd.dp]
  refine⟨fun d hd=>List.mem_append_right _ (List.mem_append_left _ (xmm _ (ih.1 d hd))),?_,by omega⟩
  rw[List.length_append,List.length_append,List.length_cons];omega
theorem af1{N:Nat}{l:List Nd}(g:Gp N l) (hN:N<=400) {pa:D}{ns:List Nd}(h:kd l pa=some ns):ns.length<=400/\(∀d∈Nd.nmss ns,d∈Nd.nmss l)/\Nd.dps ns<=3/\Nd.Oks ns/\Nd.nears ns:=by
 have r:=as6 g.nd h ns
 obtain⟨s1,s2,s3⟩:=r.sub
 have:=g.len
 have t:=thins_of ns (by omega)
 have:=g.dp
 exact⟨by omega,s1,by omega,r.oksO g.ok,r.nearsO g.nr⟩
theorem ar9{ns:List Nd}{k:Nat}{y:Nd}(h:ns[k]? = some y):ns=ns.take k++y::ns.drop (k+1):=by
 obtain⟨hk,e⟩:=List.getElem?_eq_some_iff.mp h
 rw[← e,List.getElem_cons_drop,List.take_append_drop]
theorem ar8{N:Nat}{l:List Nd}(g:Gp N l) (hN:N<=400) {pa:D}{k:Nat}{x:Nd}(d:Dg (.put pa k x)) {ns:List Nd}(hk:kd l pa=some ns) (hl:k<=ns.length) :
  Nd.Oks (wk l pa (ns.take k++x::ns.drop k))/\Nd.nears (wk l pa (ns.take k++x::ns.drop k))/\(Nd.nmss (wk l pa (ns.take k++x::ns.drop k))).Perm (x.nms++Nd.nmss l)/\Nd.dps (wk l pa (ns.take k++x::ns.drop k))<=7:=by
 have r:=as6 g.nd hk (ns.take k++x::ns.drop k)
 obtain⟨f1,f2,f3,f4,f5⟩:=af1 g hN hk
 obtain⟨o1,o2,o3⟩:=d.gv
 have e:ns=ns.take k++ns.drop k:=(List.take_append_drop k ns).symm
 have h4:Nd.Oks (ns.take k)/\Nd.Oks (ns.drop k):=(U7 _ _).mp (by rw[← e];exact f4)
 have h5:Nd.nears (ns.take k)/\Nd.nears (ns.drop k):=(M1 _ _).mp (by rw[← e];exact f5)
 have h3:Nd.dps (ns.take k)<=3/\Nd.dps (ns.drop k)<=3:=by rw[e,G6]at f3;omega
 refine⟨r.oks (fun _=>?_) g.ok,r.nears (fun _=>?_) g.nr,r.perm ?_,?_⟩
 ·rw[U7,W0];exact⟨h4.1,o1,h4.2⟩
 ·rw[M1,Nd.nears];exact⟨h5.1,o2,h5.2⟩
 ·conv=>rhs;rw[e]
  rw[C3,C3,Nd.nmss]
  exact List.perm_append_comm_assoc ..
 ·have:=r.dpsLe
  have:=(d.de.nd pa k x (.inl rfl)).2.1
  have:=g.dp
  rw[G6,Nd.dps]at *
  omega
theorem aC3{l:List Nd}{x:Nd}(n1:x.nms.Nodup) (n2:(Nd.nmss l).Nodup):(x.nms++Nd.nmss l).Nodup↔(x.nms.any fun d=>(Nd.nmss l).any fun c=>same c d)=false:=by
 rw[List.nodup_append,List.any_eq_false]
 constructor
 ·rintro⟨_,_,h⟩ d hd z
  obtain⟨c,hc,e⟩:=List.any_eq_true.mp z
  exact h d hd c hc (P1.mp e).symm
 ·intro h
  refine⟨n1,n2,fun a ha b hb e=>h a ha (List.any_eq_true.mpr ⟨b,hb,P1.mpr e.symm⟩)⟩
theorem bU2{N:Nat}{l:List Nd}(g:Gp N l) (hN:N<=400) {pa:D}{k:Nat}{x:Nd}(d:Dg (.put pa k x)) {l':List Nd}(h:dn l (.put pa k x)=some l'):Gp (N+x.nms.length) l':=by
 unfold dn at h
 rw[if_neg (by intro z;cases z)]at h
 split at h
 ·cases h
 ·rename_i c
  obtain⟨l1,h1,h2⟩:=xbo h
  rw[aw9]at h1
  obtain⟨ns,k1,k2⟩:=xbo h1
  obtain⟨ns',k3,k4⟩:=xmo k2
  rw[De.ls]at k3
  split at k3
  ·rename_i hl
   cases k3
   split at h2
   ·rename_i dp
    cases h2
    obtain⟨f1,f2,f3,f4⟩:=ar8 g hN d k1 hl
    have k4:wk l pa (ns.take k++x::ns.drop k)=l':=k4
    rw[k4]at f1 f2 f3
    have c:(x.nms.any fun d=>(Nd.nmss l).any fun c=>same c d)=false:=by
     cases q:(x.nms.any fun d=>(Nd.nmss l).any fun c=>same c d) with
     | false=>rfl
     | true=>exact absurd q c
    refine⟨f1,f2,dp,fun y hy=>?_,f3.symm.nodup ((aC3 d.gv.2.2 g.nd).mpr c),?_⟩
    ·rcases List.mem_append.mp (f3.mem_iff.mp hy) with z|z
     ·exact(d.nd pa k x (.inl rfl)).1 y z
     ·exact g.nm y z
    ·have:=f3.length_eq
     rw[List.length_append]at this
     have:=g.len
     omega
   ·cases h2
  ·cases k3
theorem bU3{N:Nat}{l:List Nd}(g:Gp N l) (hN:N<=400) {pa:D}{k:Nat}{x:Nd}{l':List Nd}(h:dn l (.out pa k x)=some l'):Gp N l':=by
 unfold dn at h
 rw[if_neg (by intro z;cases z),if_neg (by simp[ae1])]at h
 obtain⟨l1,h1,h2⟩:=xbo h
 rw[aw9]at h1
 obtain⟨ns,k1,k2⟩:=xbo h1
 obtain⟨ns',k3,k4⟩:=xmo k2
 rw[De.ls]at k3
 split at k3
 ·rename_i hy
  cases k3
  split at h2
  ·rename_i dp
   cases h2
   have k4:wk l pa (ns.take k++ns.drop (k+1))=l':=k4
   obtain⟨y,ey,_⟩:∃y,ns[k]? = some y/\True:=by
    cases q:ns[k]? with
    | none=>rw[q]at hy;cases hy
    | some y=>exact⟨y,rfl,trivial⟩
   have es:=ar9 ey
   have r:=as6 g.nd (show kd l pa=some ns from k1) (ns.take k++ns.drop (k+1))
   rw[k4]at r
   obtain⟨f1,f2,f3,f4,f5⟩:=af1 g hN k1
   rw[es,U7,W0]at f4
   rw[es,M1,Nd.nears]at f5
   have P:=r.symm.perm (X:=y.nms) (by
    conv=>lhs;rw[es]
    rw[C3,C3,Nd.nmss]
    exact List.perm_append_comm_assoc ..)
   have nd:=P.nodup g.nd
   refine⟨r.oks (fun _=>?_) g.ok,r.nears (fun _=>?_) g.nr,dp,fun z hz=>g.nm z (P.mem_iff.mpr (List.mem_append_right _ hz)),(List.nodup_append.mp nd).2.1,?_⟩
   ·rw[U7];exact⟨f4.1,f4.2.2⟩
   ·rw[M1];exact⟨f5.1,f5.2.2⟩
   ·have:=P.length_eq
    rw[List.length_append]at this
    have:=g.len
    omega
  ·cases h2
 ·cases k3
def De.pn:De->Nat
 | .put _ _ x=>x.nms.length
 | _=>0
theorem cg7{N:Nat}{l:List Nd}(g:Gp N l) (hN:N<=400) {e:De}(d:Dg e) {l':List Nd}(h:dn l e=some l'):Gp (N+e.pn) l':=by
 have up:∀{M:Nat},Gp M l'->M<=N+e.pn->Gp (N+e.pn) l':=fun q hm=>⟨q.ok,q.nr,q.dp,q.nm,q.nd,Nat.le_trans q.len hm⟩
 cases hv:e.isV with
 | true =>
  unfold dn at h
  rw[if_pos hv]at h
  obtain⟨n,h1,h2⟩:=xbo h
  obtain⟨n',h3,h4⟩:=xmo h2
  rw[← h4]
  rw[← h4]at up
  exact up (cf5 g d.gv h1 h3) (by omega)
 | false =>
  cases e with
  | put pa k x=>exact up (bU2 g hN d h) (Nat.le_refl _)
  | out pa k x=>exact up (bU3 g hN h) (by omega)
  | _=>cases hv
def De.isO:De->Bool
 | .out ..=>true
 | _=>false
theorem u5(e:De):T4 [e.d]=some (.bool e.isP)/\o0 [e.d]=some (.bool e.isO):=by
 have w:=aj4 e
 have lay:PyData.canLay0 (.str e.w)=true:=by cases e<;>(rw[De.w];decide +kernel)
 have b1:(e.w==("put" : Str))=e.isP:=by
  cases e<;>first
   | (show _=true;rw[De.w];decide +kernel)
   | (show _=false;rw[De.w];decide +kernel)
 have b2:(e.w==("out" : Str))=e.isO:=by
  cases e<;>first
   | (show _=true;rw[De.w];decide +kernel)
   | (show _=false;rw[De.w];decide +kernel)
 have h1:eqD (.str e.w) (.str "put")=some (.bool e.isP):=F1 lay (by decide +kernel) b1
 have h2:eqD (.str e.w) (.str "out")=some (.bool e.isO):=F1 lay (by decide +kernel) b2
 constructor
 ·refine C2 (ρ:=[‹e.d›]) rfl ?_
  wp_walk using evD,aG4,w,h1
 ·refine C2 (ρ:=[‹e.d›]) rfl ?_
  wp_walk using evD,aG5,w,h2
abbrev s6(w h:Nat) (l:List Nd) (e:De) (a b c d:Option B):Rho:=[‹P4 w h l›,‹e.d›,a,b,c,d]
abbrev s5(w h:Nat) (l:List Nd) (e:De) (a b c:Option B):Rho:=[‹P4 w h l›,‹e.d›,a,b,c]
theorem aU6{N:Nat}{l:List Nd}(g:Gp N l) (hN:N<=400) {e:De}(d:Dg e) {l':List Nd}(hp:e.pre l=some l'):Nd.dps l'<=10/\(Nd.nmss l').length<=500:=by
 rw[aw9]at hp
 obtain⟨ns,k1,k2⟩:=xbo hp
 obtain⟨ns',k3,k4⟩:=xmo k2
 cases e with
 | put pa k x =>
  rw[De.ls]at k3
  split at k3
  ·rename_i hl
   cases k3
   obtain⟨f1,f2,f3,f4⟩:=ar8 g hN d k1 hl
   have k4:wk l pa (ns.take k++x::ns.drop k)=l':=k4
   rw[k4]at f3 f4
   have:=f3.length_eq
   rw[List.length_append]at this
   have:=(d.nd pa k x (.inl rfl)).2
   have:=g.len
   exact⟨by omega,by omega⟩
  ·cases k3
 | out pa k x =>
  rw[De.ls]at k3
  split at k3
  ·rename_i hy
   cases k3
   have k4:wk l pa (ns.take k++ns.drop (k+1))=l':=k4
   have r:=as6 g.nd (show kd l pa=some ns from k1) (ns.take k++ns.drop (k+1))
   rw[k4]at r
   obtain⟨y,ey⟩:∃y,ns[k]? = some y:=by
    cases q:ns[k]? with
    | none=>rw[q]at hy;cases hy
    | some y=>exact⟨y,rfl⟩
   have es:=ar9 ey
   have P:=r.symm.perm (X:=y.nms) (by
    conv=>lhs;rw[es]
    rw[C3,C3,Nd.nmss]
    exact List.perm_append_comm_assoc ..)
   have:=P.length_eq
   rw[List.length_append]at this
   have dp:=r.dps (aR7 fun n hn=>.inr (by
    rcases List.mem_append.mp hn with z|z
    ·exact List.mem_of_mem_take z
    ·exact List.mem_of_mem_drop z))
   have:=g.len
   have:=g.dp
   exact⟨by omega,by omega⟩
  ·cases k3
 | _=>cases k3
theorem J3{p:D->D->Option D}{f g:DE}{ρ:Rho}{x y:D}{b:Bool}(hf:f ρ=some x) (hg:g ρ=some y) (h:p x y=some (.bool b)):tB2 p f g ρ=some b:=by unfold tB2 A4;rw[hf,hg,xbs,xbs,h];rfl
theorem am4{a:Rho->Option (List D)}{ρ:Rho}{xs:List D}(h:a ρ=some xs):D6 a ρ=some (.list xs):=by unfold D6;rw[h];rfl
theorem bw5{w h N:Nat}{l:List Nd}(g:Gp N l) (hN:N<=400) {e:De}(d:Dg e):W5 [P4 w h l,e.d]=some (X6 w h (dn l e)):=by
 have G0:=g.pl hN
 cases hv:e.isV with
 | true=>exact aW0 e hv G0 d.de
 | false =>
  obtain⟨r,er⟩:=e.parts
  have wp:e.w = "put" \/ e.w = "out" := by cases e<;>first|(cases hv;done)|exact .inl rfl|exact .inr rfl
  have ip:inD true (.str e.w) (.tuple [.str "put", .str "out"])=some (.bool false):=bF6 (b:=true) (by rcases wp with z|z<;>(rw[z];decide +kernel))
  refine aE2 G0 _ ?_
  rw[er]
  have t2:(tB2 (inD true) (dIx (A7 1) ⇑0) (B1 (A0 (dC (.str "put")) (A0 (dC (.str "out")) A2)))) (r9 w h l (.tuple (.str e.w::e.nm::r)) none none none)=some false:=by wp_walk using evD,r9,bC4,ip
  rw[bD4,A6 ((B8 t2).trans rfl)]
  have s3:L1 (r9 w h l (.tuple (.str e.w::e.nm::r)) none none none)=if ae1 l e=true then some (.rt .none) else some (.nx (r9 w h l (.tuple (.str e.w::e.nm::r)) none none none)):=by
   cases e with
   | put pa k x =>
    rw[De.d]at er
    injection er with er
    have er:r=[.int k,x.d]:=by
     injection er with _ er
     injection er with _ er
     exact er.symm
    subst er
    obtain⟨x1,x2,x3⟩:=d.de.nd pa k x (.inl rfl)
    have t3:(tB2 eqD (dIx (A7 1) ⇑0) (dC (.str "put"))) (r9 w h l (.tuple [.str "put", pa,.int k,x.d]) none none none)=some true:=by wp_walk using evD,r9,au6,bY6
    have al:=congrArg List.length (ao7 x)
    rw[List.length_map]at al
    have e1:Nd.als [x]=Nd.al x:=by rw[Nd.als,Nd.als,List.append_nil]
    have eA:=ao6 4 [x] 12 (by rw[Nd.dps,Nd.dps];omega) (by decide) (by rw[e1];omega)
    rw[af4,e1]at eA
    have src:E7 (A3 (E6 12) (A0 (B1 (A0 (dIx (A7 1) ⇑3) A2)) A2)) (r9 w h l (.tuple [.str "put", pa,.int k,x.d]) none none none)=some ((Nd.al x).map Nd.d):=by wp_walk using evD,r9,aS9,eA
    have cm:=ax5 G0 x1 x2 x3 src rfl
    have ne:=aK8 (l:=l) x1 x2
    have t4:(tB2 neD (D6 (B6 1 [5] (E7 (A3 (E6 12) (A0 (B1 (A0 (dIx (A7 1) ⇑3) A2)) A2))) (B3 0) (tB2 (G.inK false) (dIx (A7 0) ⇑1) (A1 1)) (A1 0))) (D6 A2)) (r9 w h l (.tuple [.str "put", pa,.int k,x.d]) none none none)=some (ae1 l (.put pa k x)):=by exact J3 (am4 cm) (am4 rfl) ne
    have t5:(F9 (tB2 eqD (dIx (A7 1) ⇑0) (dC (.str "put"))) (tB2 neD (D6 (B6 1 [5] (E7 (A3 (E6 12) (A0 (B1 (A0 (dIx (A7 1) ⇑3) A2)) A2))) (B3 0) (tB2 (G.inK false) (dIx (A7 0) ⇑1) (A1 1)) (A1 0))) (D6 A2))) (r9 w h l (.tuple [.str "put", pa,.int k,x.d]) none none none)=some (ae1 l (.put pa k x)):=by unfold F9;rw[t3];exact t4
    show L1 (r9 w h l (.tuple [.str "put", pa,.int k,x.d]) none none none)=_
    unfold L1
    cases qc:ae1 l (.put pa k x) with
    | true=>rw[qc]at t5;rw[C9 t5];rfl
    | false=>rw[qc]at t5;rw[B8 t5];rfl
   | out pa k x =>
    have t3:(tB2 eqD (dIx (A7 1) ⇑0) (dC (.str "put"))) (r9 w h l (.tuple (.str "out" :: pa::r)) none none none)=some false:=by wp_walk using evD,r9,bC4,br5
    have t5:∀T,(F9 (tB2 eqD (dIx (A7 1) ⇑0) (dC (.str "put"))) T) (r9 w h l (.tuple (.str "out" :: pa::r)) none none none)=some false:=fun T=>by unfold F9;rw[t3];rfl
    show L1 (r9 w h l (.tuple (.str "out" :: pa::r)) none none none)=_
    unfold L1
    rw[B8 (t5 _)]
    rfl
   | _=>cases hv
  unfold dn
  rw[if_neg (by rw[hv];simp)]
  cases qc:ae1 l e with
  | true=>rw[qc,if_pos rfl]at s3;rw[if_pos rfl];exact D0 s3
  | false =>
   rw[qc,if_neg (by simp)]at s3
   rw[if_neg (by simp),A6 s3]
   obtain⟨a8,s4⟩:=bK5 (w:=w) (h:=h) e hv G0 d.de er
   rw[A6 s4]
   cases qp:e.pre l with
   | none =>
    rw[aa0,Option.bind_none]
    refine D0 ?_
    wp_walk using evD,U2,r9,bl0
    rfl
   | some l' =>
    obtain⟨b1,b2⟩:=aU6 g hN d qp
    have th:=thins_of l' (by omega)
    have dp:=bA9 10 l' 12 b1 (by decide) (by omega) th.1
    have t6:(F8 (tB2 isB (A1 7) (dC .none)) (tB2 gtI (A3 (N4 12) (A0 (A1 7) A2)) ⇑3)) (r9 w h l (.tuple (.str e.w::e.nm::r)) none (‹↥l'›) a8)=some (decide (3 < Nd.dps l')):=by
     have e3:decide ((3:Int) < (Nd.dps l':Int))=decide (3 < Nd.dps l'):=decide_eq_decide.mpr (by omega)
     wp_walk using evD,r9,bT9,dp,e3
    rw[aa0,xbs]
    unfold U2
    by_cases h3:Nd.dps l'<=3
    ·rw[decide_eq_false (by omega)]at t6
     rw[if_pos h3,A6 ((B8 t6).trans rfl)]
     wp_walk using evD,g6,r9,X6,P4
    ·rw[decide_eq_true (by omega)]at t6
     rw[if_neg h3]
     refine D0 ((C9 t6).trans ?_)
     rfl
def De.inv:De->De
 | .str nm o n=>.str nm n o
 | .shw nm o n=>.shw nm n o
 | .man nm o n=>.man nm n o
 | .plc nm a b c d=>.plc nm c d a b
 | .spt nm x y o n=>.spt nm x y n o
 | .put pa k x=>.out pa k x
 | .out pa k x=>.put pa k x
theorem Rp.refl'{a b l:List Nd}{n:Nd}(h:Stands a n b l):Rp (a++n::b) (a++[n]++b) l l:=by
 rw[List.append_assoc,List.singleton_append]
 induction h with
 | top=>exact .top
 | deep _ ih=>exact .deep ih
theorem Rp.alsO{o o' l l':List Nd}(r:Rp o o' l l') {x:Nd}(h:x∈Nd.als o'):x∈Nd.als l':=by
 induction r with
 | top=>exact h
 | deep _ ih=>rw[ae3,Nd.als,Nd.al];exact List.mem_append_right _ (List.mem_append_left _ (xmm _ ih))
theorem bC7(n:Nd):n∈Nd.al n:=by cases n<;>simp[Nd.al]
theorem cg5{l:List Nd}{e:De}(hv:e.isV=false):dn l e=if ae1 l e=true then none else(kd l e.nm).bind fun ns=>((e.ls ns).map (wk l e.nm)).bind fun l'=>if Nd.dps l'<=3 then some l' else none:=by
 unfold dn
 rw[if_neg (by rw[hv];simp),aw9]
 split
 ·rfl
 ·cases kd l e.nm<;>rfl
theorem cg6{l:List Nd}{e:De}(hv:e.isV=false) (c:ae1 l e=false) {ns ns':List Nd}(h1:kd l e.nm=some ns) (h2:e.ls ns=some ns') (dp:Nd.dps (wk l e.nm ns')<=3):dn l e=some (wk l e.nm ns'):=by rw[cg5 hv,c,if_neg (by simp),h1,xbs,h2,xms,xbs,if_pos dp]
def aJ4:Nd->List Nd
 | .group _ _ _ _ ns=>ns
 | _=>[]
def K9(z:D×List Nd):D:=.tuple [z.1,↥z.2]
def par(l:List Nd):List (D×List Nd):=(.str "", l)::((Nd.als l).filter isG).map fun n=>(n.nm,aJ4 n)
theorem aC1{src:Rho->Option (List D)}{ρ:Rho}{l:List Nd}(hs:src ρ=some ((Nd.als l).map Nd.d)) (hl:(Nd.als l).length<=500) :
  B6 1 [] src (B3 0) (tB2 eqD (dIx (A7 0) ⇑0) (dC (.str "group"))) (B1 (A0 (dIx (A7 0) ⇑1) (A0 (dIx (A7 0) ⇑5) A2))) ρ=some (((Nd.als l).filter isG).map fun n=>K9 (n.nm,aJ4 n)):=by
 unfold B6
 rw[hs,xbs,if_pos (by rw[List.length_map];omega),show V1 1 [] ρ=[none] from rfl]
 refine az4 (h:=Nd.d) (p:=isG) (Nd.als l) none (fun n _=>bF5 n []) fun n _ hp=>?_
 cases n with
 | layer=>cases hp
 | tone=>cases hp
 | group nm m s sh ns=>rw[Nd.d];wp_walk using evD,aS8,aF6,K9,aJ4,Nd.nm
theorem aO8(l:List Nd) (hl:(Nd.als l).length<=500):A9 (.list [K9 (.str "", l)]) (.list (((Nd.als l).filter isG).map fun n=>K9 (n.nm,aJ4 n)))=some (.list ((par l).map K9)):=by
 have e:(par l).map K9=[K9 (.str "", l)]++(((Nd.als l).filter isG).map fun n=>K9 (n.nm,aJ4 n)):=by unfold par;rw[xmc,List.map_map];rfl
 rw[e]
 have:=List.length_filter_le isG (Nd.als l)
 exact ak3 (by rw[List.length_singleton,List.length_map];omega)
theorem bu7{l:List Nd}{z:D×List Nd}(h:z∈par l):(z=(.str "", l))\/∃nm m s sh ns,Nd.group nm m s sh ns∈Nd.als l/\z=(nm,ns):=by
 unfold par at h
 rcases List.mem_cons.mp h with h|h
 ·exact .inl h
 ·obtain⟨n,hn,rfl⟩:=List.mem_map.mp h
  obtain⟨h1,h2⟩:=List.mem_filter.mp hn
  cases n with
  | layer=>cases h2
  | tone=>cases h2
  | group nm m s sh ns=>exact .inr ⟨nm,m,s,sh,ns,h1,by rw[Nd.nm,aJ4]⟩
theorem bL6{l:List Nd}{nm:D}{m:Man}{s:Rat}{sh:Bool}{ns:List Nd}(h:Nd.group nm m s sh ns∈Nd.als l):(nm,ns)∈par l:=by
 unfold par
 refine xmm _ (List.mem_map.mpr ⟨_,List.mem_filter.mpr ⟨h,rfl⟩,?_⟩)
 rw[Nd.nm,aJ4]
theorem cc8{d:D}(h:Nm d):same d (.str "")=false:=by
 obtain⟨s,rfl,_,h1,_⟩:=h
 refine N6 fun z=>?_
 cases z
 exact absurd h1 (by decide)
theorem aI6{N:Nat}{l:List Nd}(g:Gp N l) {z:D×List Nd}(h:z∈par l):kd l z.1=some z.2/\(Nm z.1\/z.1=.str ""):=by
 rcases bu7 h with rfl|⟨nm,m,s,sh,ns,h1,rfl⟩
 ·unfold kd;rw[J9,if_pos rfl];exact⟨rfl,.inr rfl⟩
 ·have f:=bm8 g.nd h1
  rw[Nd.nm]at f
  have n1:Nm nm:=g.nm _ (by rw[← als_nms];exact List.mem_map.mpr ⟨_,h1,by rw[Nd.nm]⟩)
  unfold kd
  rw[cc8 n1,if_neg (by simp),f]
  exact⟨rfl,.inl n1⟩
theorem bW5:∀(k:Nat) (l:List Nd),Nd.dps l<=k->∀n∈Nd.als l,n∈l\/∃nm m s sh ns,Nd.group nm m s sh ns∈Nd.als l/\n∈ns:=by
 intro k
 induction k with
 | zero =>
  intro l hd n hn
  induction l with
  | nil=>rw[Nd.als]at hn;cases hn
  | cons y l ih =>
   rw[Nd.als]at hn ⊢
   rw[Nd.dps]at hd
   rcases List.mem_append.mp hn with h|h
   ·cases y with
    | group=>rw[Nd.dp]at hd;omega
    | layer=>rw[Nd.al]at h;exact .inl (by rw[List.mem_singleton.mp h];exact List.mem_cons_self ..)
    | tone=>rw[Nd.al]at h;exact .inl (by rw[List.mem_singleton.mp h];exact List.mem_cons_self ..)
   ·rcases ih (by omega) h with z|⟨nm,m,s,sh,ns,z1,z2⟩
    ·exact .inl (xmm _ z)
    ·exact .inr ⟨nm,m,s,sh,ns,List.mem_append_right _ z1,z2⟩
 | succ k ih =>
  intro l hd n hn
  induction l with
  | nil=>rw[Nd.als]at hn;cases hn
  | cons y l ihl =>
   rw[Nd.als]at hn ⊢
   rw[Nd.dps]at hd
   rcases List.mem_append.mp hn with h|h
   ·cases y with
    | layer=>rw[Nd.al]at h;exact .inl (by rw[List.mem_singleton.mp h];exact List.mem_cons_self ..)
    | tone=>rw[Nd.al]at h;exact .inl (by rw[List.mem_singleton.mp h];exact List.mem_cons_self ..)
    | group nm m s sh ns =>
     rw[Nd.al]at h ⊢
     rcases List.mem_cons.mp h with h|h
     ·exact .inl (by rw[h];exact List.mem_cons_self ..)
     ·rw[Nd.dp]at hd
      rcases ih ns (by omega) n h with z|⟨nm',m',s',sh',ns',z1,z2⟩
      ·exact .inr ⟨nm,m,s,sh,ns,List.mem_append_left _ (List.mem_cons_self ..),z⟩
      ·exact .inr ⟨nm',m',s',sh',ns',List.mem_append_left _ (xmm _ z1),z2⟩
   ·rcases ihl (by omega) h with z|⟨nm',m,s,sh,ns,z1,z2⟩
    ·exact .inl (xmm _ z)
    ·exact .inr ⟨nm',m,s,sh,ns,List.mem_append_right _ z1,z2⟩
theorem bL7{N:Nat}{l:List Nd}(g:Gp N l) {n:Nd}(h:n∈Nd.als l):∃z∈par l,n∈z.2:=by
 rcases bW5 3 l g.dp n h with z|⟨nm,m,s,sh,ns,z1,z2⟩
 ·exact⟨(.str "", l),by unfold par;exact List.mem_cons_self ..,z⟩
 ·exact⟨(nm,ns),bL6 z1,z2⟩
theorem bi9{l:List Nd}(nd:(Nd.nmss l).Nodup) {pa:D}{ns:List Nd}(h:kd l pa=some ns) {n:Nd}(hn:n∈ns):n∈Nd.als l:=by
 have r:=(as6 nd h ns).symm
 refine Rp.alsO r ?_
 obtain⟨a,b,rfl⟩:=List.append_of_mem hn
 rw[ae3,Nd.als]
 exact List.mem_append_right _ (List.mem_append_left _ (bC7 n))
theorem Gp.ly{N:Nat}{l:List Nd}(g:Gp N l) {n:Nd}(h:n∈Nd.als l):Ly 30 n.d:=by
 obtain⟨_,q2,q3,_⟩:=aA0 3 l g.dp g.ok n h
 exact(ah1 n fun d hd=>Q3 (g.nm d (q3 d hd))).mono (by omega)
theorem Gp.nr1{N:Nat}{l:List Nd}(g:Gp N l) {n:Nd}(h:n∈Nd.als l):n.Ok/\n.near/\n.dp<=3/\(∀d∈n.nms,Nm d)/\n.nms.length<=N/\n.nms.Nodup/\Nm n.nm:=by
 obtain⟨q1,q2,q3,q4⟩:=aA0 3 l g.dp g.ok n h
 obtain⟨a,b,St⟩:=ao4 g.nd h
 have r:=Rp.refl' St
 have nr:=r.nearsO g.nr
 rw[M1,Nd.nears]at nr
 have nd:(Nd.nmss (a++n::b)).Nodup:=St.props.nd g.nd
 rw[C3,Nd.nmss]at nd
 exact⟨q1,nr.2.1,q2,fun d hd=>g.nm d (q3 d hd),Nat.le_trans q4 g.len,(List.nodup_append.mp (List.nodup_append.mp nd).2.1).1,g.nm _ (q3 _ (U9 n))⟩
theorem bn5{y n:Nd}(hy:M0 y.nm) (hn:M0 n.nm) (h:PyData.eqv y.d n.d=true):y.nm=n.nm:=by
 have key:∀(a b:D) (r:List D) (a' b':D) (r':List D),PyData.eqv (.tuple (a::b::r)) (.tuple (a'::b'::r'))=true->PyData.eqv b b'=true:=fun a b r a' b' r' h=>by
  simp only[PyData.eqv,PyData.eqvAll,Bool.and_eq_true]at h
  revert h
  cases PyData.eqv a a'<;>cases PyData.eqv b b'<;>simp
 have hb:PyData.eqv y.nm n.nm=true:=by cases y<;>cases n<;>(rw[Nd.d,Nd.d]at h;exact key _ _ _ _ _ _ h)
 obtain⟨s,e1,_⟩:=hy
 obtain⟨t,e2,_⟩:=hn
 rw[e1,e2]at hb ⊢
 have hb:(s==t)=true:=hb
 simp only[beq_iff_eq]at hb
 rw[hb]
theorem bl1{d:D}{ks:List D}(hd:Ly 30 d) (hk:∀x∈ks,Ly 30 x) (ht:∃xs,d=.tuple xs) (hks:∀x∈ks,∃xs,x=.tuple xs):inD false d (.tuple ks)=some (.bool (ks.any fun y=>PyData.eqv y d)):=by
 obtain⟨xs,rfl⟩:=ht
 have sx:=hd.shaped (by decide)
 have sd:ks.all SeqAt.shaped=true:=by rw[List.all_eq_true];exact fun x hx=>(hk x hx).shaped (by decide)
 show(if K1 (.tuple xs)=true/\ks.all K1=true then some (PyData.bool (if false=true then !inV (toV (.tuple xs)) (ks.map toV) else inV (toV (.tuple xs)) (ks.map toV))) else if K1 (.tuple xs)=false/\SeqAt.shaped (.tuple xs)=true/\ks.all isS=true then some (PyData.bool false) else if SeqAt.shaped (.tuple xs)=true/\(PyData.tuple xs).depth<=60/\ks.all SeqAt.shaped=true then some (PyData.bool (if false=true then !(ks.any fun y=>PyData.eqv y (.tuple xs)) else ks.any fun y=>PyData.eqv y (.tuple xs))) else none)=_
 rw[if_neg (by intro z;cases z.1)]
 cases ks with
 | nil=>rw[if_pos ⟨rfl,sx,rfl⟩];rfl
 | cons k ks =>
  obtain⟨ys,rfl⟩:=hks k (List.mem_cons_self ..)
  rw[if_neg (by intro z;have:=z.2.2;rw[List.all_cons]at this;cases this),if_pos ⟨sx,Nat.le_trans hd.2 (by decide),sd⟩]
  rfl
theorem ixN{a:Rho->Option (List D)}{ρ:Rho}{xs:List D}(h:a ρ=some xs) (i:Int):dIx (qN a) (dC (.int i)) ρ=atI xs i:=by unfold dIx qN;rw[h];rfl
theorem bh6(n:Nd):∃xs,n.d=.tuple xs:=by cases n<;>(rw[Nd.d];exact⟨_,rfl⟩)
structure Dw (l:List Nd) (nm:Str) (e:De):Prop where
 dg:Dg e
 di:Dg e.inv
 fit:e.isP=false->∃l',dn l e=some l'
 out:∀pa k x,e=.out pa k x->∃ns,kd l pa=some ns/\ns[k]? = some x
 put:∀pa k x,e=.put pa k x->(x.nms=[.str nm]\/x.nms=[.str nm,.str (nm ++ "q")])/\x.dp<=1/\∃ns,kd l pa=some ns/\k<=ns.length
abbrev en(ns:List Int) (at':Nat) (w h:Nat) (l:List Nd) (nm:Str) (a4 a5 a6 a7 a8 a9 a10 a12 a13 a14 a15 a16:Option B):Rho:=[‹scr ns›,‹.int at'›,‹P4 w h l›,‹.str nm›,a4,a5,a6,a7,a8,a9,a10,none,a12,a13,a14,a15,a16]
theorem n6{N:Nat}{l:List Nd}(g:Gp N l) {nm:Str}{e:De}(hv:e.isV=true) {n n':Nd}(hn:n∈Nd.als l) (he:e.nm=n.nm) (ho:e.on n=some n') (g1:e.gv) (g2:e.inv.gv) (sz:e.sz):Dw l nm e:=by
 have nn:=(g.nr1 hn).2.2.2.2.2.2
 have f:=bm8 g.nd hn
 have noP:∀pa k x,¬(e=.put pa k x\/e=.out pa k x):=fun pa k x z=>by rcases z with z|z<;>(rw[z]at hv;cases hv)
 have noP':∀pa k x,¬(e.inv=.put pa k x\/e.inv=.out pa k x):=fun pa k x z=>by cases e<;>first|(cases hv;done)|(rcases z with z|z<;>cases z)
 refine⟨⟨⟨.inl (he ▸ nn),sz,fun pa k x z=>(noP pa k x z).elim⟩,g1,fun pa k x z=>(noP pa k x z).elim⟩,⟨⟨.inl ?_,?_,fun pa k x z=>(noP' pa k x z).elim⟩,g2,fun pa k x z=>(noP' pa k x z).elim⟩,fun _=>?_,fun pa k x z=>(noP pa k x (.inr z)).elim,fun pa k x z=>(noP pa k x (.inl z)).elim⟩
 ·have:e.inv.nm=e.nm:=by cases e<;>rfl
  rw[this,he];exact nn
 ·cases e<;>first|exact trivial|exact sz
 ·refine⟨Nd.wss e.nm [n'] l,?_⟩
  unfold dn
  rw[if_pos hv,he,f,xbs,ho];rfl
theorem ci9{N:Nat}{l:List Nd}(g:Gp N l) (hN:N<=60) (ns:List Int) (at':Nat) (w h:Nat) (nm:Str) {n:Nd}(hn:n∈Nd.als l) (t:Nat) (ht:((t:Int)==0)=true):∃e:De,O3 (en ns at' w h l nm (‹↥l›) (‹.list ((Nd.als l).map Nd.d)›) (‹n.d›) (‹.int t›) none none none none none none none none)=some (.rt e.d)/\Dw l nm e:=by
 have l6:=(g.pl (by omega)).al
 have src:E7 (A1 5) (en ns at' w h l nm (‹↥l›) (‹.list ((Nd.als l).map Nd.d)›) (‹n.d›) (‹.int t›) none none none none none none none none)=some ((Nd.als l).map Nd.d):=rfl
 have pc:=aC1 src (by omega)
 have cc:=aO8 l (by omega)
 have s0:(B2 8 (A4 A9 (D6 (A0 (B1 (A0 (dC (.str "")) (A0 (A1 4) A2))) A2)) (D6 (B6 1 [] (E7 (A1 5)) (B3 0) (tB2 eqD (dIx (A7 0) ⇑0) (dC (.str "group"))) (B1 (A0 (dIx (A7 0) ⇑1) (A0 (dIx (A7 0) ⇑5) A2))))))) (en ns at' w h l nm (‹↥l›) (‹.list ((Nd.als l).map Nd.d)›) (‹n.d›) (‹.int t›) none none none none none none none none)=some (.nx (en ns at' w h l nm (‹↥l›) (‹.list ((Nd.als l).map Nd.d)›) (‹n.d›) (‹.int t›) (‹.list ((par l).map K9)›) none none none none none none none)):=by
  have e1:D6 (A0 (B1 (A0 (dC (.str "")) (A0 (A1 4) A2))) A2) (en ns at' w h l nm (‹↥l›) (‹.list ((Nd.als l).map Nd.d)›) (‹n.d›) (‹.int t›) none none none none none none none none)=some (.list [K9 (.str "", l)]):=rfl
  simp only[B2,A4,e1,xbs]
  simp only[D6,pc,xbs,xms,cc,xw0,xw1]
 have lyz:∀z∈par l,∀x∈Nd.ds z.2,Ly 30 x/\∃xs,x=.tuple xs:=fun z hz x hx=>by
  rw[G5]at hx
  obtain⟨m,hm,rfl⟩:=List.mem_map.mp hx
  exact⟨g.ly (bi9 g.nd (aI6 g hz).1 hm),bh6 m⟩
 have inn:∀z∈par l,inD false n.d ↥z.2=some (.bool ((Nd.ds z.2).any fun y=>PyData.eqv y n.d)):=fun z hz =>bl1 (g.ly hn) (fun x hx=>(lyz z hz x hx).1) (bh6 n) fun x hx=>(lyz z hz x hx).2
 have pl:(par l).length<=501:=by
  unfold par
  rw[List.length_cons,List.length_map]
  have:=List.length_filter_le isG (Nd.als l)
  omega
 have cm:B6 1 [6] (E7 (A1 8)) (B3 0) (tB2 (inD false) (A1 1) (dIx (A7 0) ⇑1)) (A1 0) (en ns at' w h l nm (‹↥l›) (‹.list ((Nd.als l).map Nd.d)›) (‹n.d›) (‹.int t›) (‹.list ((par l).map K9)›) none none none none none none none)=some (((par l).filter fun z=>(Nd.ds z.2).any fun y=>PyData.eqv y n.d).map K9):=by
  refine ax6 (h:=K9) (p:=fun z=>(Nd.ds z.2).any fun y=>PyData.eqv y n.d) (r:=[‹n.d›]) rfl rfl (by omega) (fun z hz=>?_) fun z hz=>rfl
  have i1:dIx (A7 0) ⇑1 [‹K9 z›,‹n.d›]=some ↥z.2:=rfl
  simp only[tB2,A4,A1,i1,xg0,xg1,xbs,xms,inn z hz,J4]
 have mem:∃z∈par l,((Nd.ds z.2).any fun y=>PyData.eqv y n.d)=true:=by
  obtain⟨z,hz,hm⟩:=bL7 g hn
  exact⟨z,hz,List.any_eq_true.mpr ⟨n.d,by rw[G5];exact List.mem_map_of_mem hm,SeqAt.eqv_refl n.d (g.ly hn).1⟩⟩
 obtain⟨z,F5,hzr⟩:∃z F5,((par l).filter fun z=>(Nd.ds z.2).any fun y=>PyData.eqv y n.d)=z::F5:=by
  cases e:(par l).filter fun z=>(Nd.ds z.2).any fun y=>PyData.eqv y n.d with
  | nil =>
   obtain⟨z,h1,h2⟩:=mem
   rw[List.filter_eq_nil_iff]at e
   exact absurd h2 (e z h1)
  | cons z F5=>exact⟨z,F5,rfl⟩
 have hz:z∈par l/\((Nd.ds z.2).any fun y=>PyData.eqv y n.d)=true:=List.mem_filter.mp (by rw[hzr];exact List.mem_cons_self ..)
 rw[hzr]at cm
 obtain⟨kz,nz⟩:=aI6 g hz.1
 have s1:(V6 (dIx (qN (B6 1 [6] (E7 (A1 8)) (B3 0) (tB2 (inD false) (A1 1) (dIx (A7 0) ⇑1)) (A1 0))) ⇑0) (M9 2 (C0 (B3 9) (C0 (B3 10) O5)))) (en ns at' w h l nm (‹↥l›) (‹.list ((Nd.als l).map Nd.d)›) (‹n.d›) (‹.int t›) (‹.list ((par l).map K9)›) none none none none none none none)=some (.nx (en ns at' w h l nm (‹↥l›) (‹.list ((Nd.als l).map Nd.d)›) (‹n.d›) (‹.int t›) (‹.list ((par l).map K9)›) (‹z.1›) (‹↥z.2›) none none none none none)):=by
  have i0:dIx (qN (B6 1 [6] (E7 (A1 8)) (B3 0) (tB2 (inD false) (A1 1) (dIx (A7 0) ⇑1)) (A1 0))) ⇑0 (en ns at' w h l nm (‹↥l›) (‹.list ((Nd.als l).map Nd.d)›) (‹n.d›) (‹.int t›) (‹.list ((par l).map K9)›) none none none none none none none)=some (K9 z):=by
   rw[ixN cm]
   show atI (K9 z::F5.map K9) ((0:Nat):Int)=_
   exact J1 rfl
  unfold V6
  rw[i0]
  rfl
 obtain⟨j,jl,ej,yj,ey,eyn⟩:∃j,j < (Nd.ds z.2).length/\(Nd.ds z.2).findIdx? (fun y=>PyData.eqv y n.d)=some j/\∃y,z.2[j]? = some y/\PyData.eqv y.d n.d=true:=by
  cases e:(Nd.ds z.2).findIdx? (fun y=>PyData.eqv y n.d) with
  | none =>
   rw[List.findIdx?_eq_none_iff]at e
   obtain⟨x,hx,h⟩:=List.any_eq_true.mp hz.2
   rw[e x hx]at h;cases h
  | some j =>
   obtain⟨h1,h2,_⟩:=List.findIdx?_eq_some_iff_getElem.mp e
   have h1':j < z.2.length:=by rw[← O0];exact h1
   refine⟨j,h1,rfl,z.2[j],List.getElem?_eq_getElem h1',?_⟩
   have:(Nd.ds z.2)[j]=(z.2[j]).d:=by
    have q:=bn8 z.2 j
    rw[List.getElem?_eq_getElem h1,List.getElem?_eq_getElem h1']at q
    exact Option.some.inj q
   rw[← this];exact h2
 have jl':j < z.2.length:=by rw[← O0];exact jl
 have yn:yj=n:=by
  have my:yj∈Nd.als l:=bi9 g.nd kz (List.mem_of_getElem? ey)
  have e:=bn5 (Q3 (g.nr1 my).2.2.2.2.2.2) (Q3 (g.nr1 hn).2.2.2.2.2.2) eyn
  have nd:=g.nd
  rw[← als_nms]at nd
  exact ax3 e nd my hn
 subst yn
 have e3:u6 (A1 10) (A1 6) (en ns at' w h l nm (‹↥l›) (‹.list ((Nd.als l).map Nd.d)›) (‹yj.d›) (‹.int t›) (‹.list ((par l).map K9)›) (‹z.1›) (‹↥z.2›) none none none none none)=some (.int j):=by
  show(if SeqAt.shaped yj.d=true/\yj.d.depth<=60/\(Nd.ds z.2).all SeqAt.shaped=true then((Nd.ds z.2).findIdx? fun y=>PyData.eqv y yj.d).map (fun(j:Nat)=>PyData.int (j:Int)) else none)=_
  have sh:(Nd.ds z.2).all SeqAt.shaped=true:=by
   rw[List.all_eq_true]
   intro x hx
   exact(lyz z hz.1 x hx).1.shaped (by decide)
  rw[if_pos ⟨(g.ly hn).shaped (by decide),Nat.le_trans (g.ly hn).2 (by decide),sh⟩,ej]
  rfl
 obtain⟨k1,k2,k3,k4,k5,k6,k7⟩:=g.nr1 hn
 have nn:=g.len
 refine⟨.out z.1 j yj,?_,?_⟩
 ·have s2:(B0 (B1 (A0 (dC (.str "out")) (A0 (A1 9) (A0 (u6 (A1 10) (A1 6)) (A0 (A1 6) A2)))))) (en ns at' w h l nm (‹↥l›) (‹.list ((Nd.als l).map Nd.d)›) (‹yj.d›) (‹.int t›) (‹.list ((par l).map K9)›) (‹z.1›) (‹↥z.2›) none none none none none)=some (.rt (De.out z.1 j yj).d):=by
   rw[De.d]
   simp only[B0,B1,A0,A2,e3,dC,A1,xg0,xg1,xbs,xms]
  have c0:(tB2 eqD (A1 7) ⇑0) (en ns at' w h l nm (‹↥l›) (‹.list ((Nd.als l).map Nd.d)›) (‹yj.d›) (‹.int t›) none none none none none none none none)=some true:=by simp only[tB2,A4,A1,dC,xg0,xg1,xbs,xms,n5,ht,J4]
  unfold O3 sIf
  rw[c0,xbs,if_pos rfl,A6 s0,A6 s1]
  exact s2
 ·have nmo:∀e:De,e.isV=false->e.nm=z.1->Nm e.nm\/(e.isV=false/\e.nm=.str ""):=fun e hv he=>by
   rw[he]
   rcases nz with q|q
   ·exact .inl q
   ·exact .inr ⟨hv,q⟩
  have dnd:∀e:De,(e=.out z.1 j yj\/e=.put z.1 j yj)->(∀pa k x,e=.put pa k x\/e=.out pa k x->x=yj):=fun e he pa k x hx=>by rcases he with rfl|rfl<;>rcases hx with hx|hx<;>cases hx<;>rfl
  refine⟨⟨⟨nmo _ rfl rfl,trivial,fun pa k x hx=>?_⟩,trivial,fun pa k x hx=>?_⟩,⟨⟨nmo _ rfl rfl,trivial,fun pa k x hx=>?_⟩,⟨k1,k2,k6⟩,fun pa k x hx=>?_⟩,fun _=>?_,fun pa k x hx=>?_,fun pa k x hx=>by cases hx⟩
  ·rw[dnd _ (.inl rfl) pa k x hx];exact⟨fun d hd=>Q3 (k4 d hd),by omega,by omega⟩
  ·rw[dnd _ (.inl rfl) pa k x hx];exact⟨k4,by omega⟩
  ·rw[dnd _ (.inr rfl) pa k x hx];exact⟨fun d hd=>Q3 (k4 d hd),by omega,by omega⟩
  ·rw[dnd _ (.inr rfl) pa k x hx];exact⟨k4,by omega⟩
  ·have ls:(De.out z.1 j yj).ls z.2=some (z.2.take j++z.2.drop (j+1)):=by
    rw[De.ls,ey,Option.any_some,SeqAt.eqv_refl yj.d (g.ly hn).1,if_pos rfl]
   have dp:Nd.dps (wk l z.1 (z.2.take j++z.2.drop (j+1)))<=3:=by
    have r:=as6 g.nd kz (z.2.take j++z.2.drop (j+1))
    refine Nat.le_trans (r.dps (aR7 fun n hn=>.inr ?_)) g.dp
    rcases List.mem_append.mp hn with q|q
    ·exact List.mem_of_mem_take q
    ·exact List.mem_of_mem_drop q
   exact⟨_,cg6 (e:=.out z.1 j yj) rfl rfl kz ls dp⟩
  ·cases hx;exact⟨z.2,kz,ey⟩
def Nd.ren(d:D):Nd->Nd
 | .layer _ m s sh lf tp mk w h l kb=>.layer d m s sh lf tp mk w h l kb
 | .tone _ r s sh=>.tone d r s sh
 | .group _ m s sh ns=>.group d m s sh ns
theorem bJ6(d:D) {n:Nd}(h0:n.dp=0) (ok:n.Ok) (nr:n.near):(n.ren d).Ok/\(n.ren d).near/\(n.ren d).dp=0/\(n.ren d).nms=[d]:=by
 cases n with
 | group=>rw[Nd.dp]at h0;omega
 | layer=>rw[Nd.ren];rw[Nd.Ok]at ok ⊢;rw[Nd.near]at nr ⊢;exact⟨ok,nr,by rw[Nd.dp],by rw[Nd.nms]⟩
 | tone=>rw[Nd.ren];rw[Nd.Ok]at ok ⊢;rw[Nd.near];exact⟨ok,trivial,by rw[Nd.dp],by rw[Nd.nms]⟩
theorem aR0:Sr 4 v6:=ar3 (bA1.mono (by decide))
theorem ck8{nm:Str}(h:Nm (.str nm)) (h5:nm.length<=5):Nm (.str (nm ++ "q"))/\A9 (.str nm) (.str "q")=some (.str (nm ++ "q"))/\(.str nm:D)≠.str (nm ++ "q"):=by
 obtain⟨s,e,lo,l1,l6⟩:=h
 cases e
 have e0:(nm++("q" : Str)).cps=nm.cps++#[113]:=rfl
 have ln:(nm++("q" : Str)).length=nm.length+1:=Array.size_append ..
 refine⟨⟨_,rfl,fun c hc=>?_,by omega,by omega⟩,?_,fun z=>?_⟩
 ·rw[e0,Array.toList_append]at hc
  rcases List.mem_append.mp hc with q|q
  ·exact lo c q
  ·have:c=113:=by simpa using q
   omega
 ·show(if nm.length+1<=16777216 then _ else none)=_
  rw[if_pos (by omega)]
 ·have z:nm=nm ++ "q" := by injection z
  have:=congrArg Str.length z
  omega
theorem aX3{N:Nat}{l:List Nd}(g:Gp N l) (hN:N<=60) (ns:List Int) (hn:ns.length<=63) (at':Nat) (ha:at' < 2 ^ 17) {nm:Str}(hnm:Nm (.str nm)) (h5:nm.length<=5):∃e:De,ak4 [scr ns,.int at',↥l,.str nm]=some e.d/\Dw l nm e/\e.isP=true:=by
 have l6:=(g.pl (by omega)).al
 have eA:=ao6 3 l 12 g.dp (by decide) (by omega)
 have src:E7 (A3 (E6 12) (A0 (A1 2) A2)) [‹scr ns›,‹.int at'›,‹↥l›,‹.str nm›,none,none,none,none]=some ((Nd.als l).map Nd.d):=by simp only[E7,A3,A0,A2,A1,xg0,xg1,xbs,xms,eA]
 have pc:=aC1 src (by omega)
 have cc:=aO8 l (by omega)
 have s0:(B2 4 (A4 A9 (D6 (A0 (B1 (A0 (dC (.str "")) (A0 (A1 2) A2))) A2)) (D6 (B6 1 [] (E7 (A3 (E6 12) (A0 (A1 2) A2))) (B3 0) (tB2 eqD (dIx (A7 0) ⇑0) (dC (.str "group"))) (B1 (A0 (dIx (A7 0) ⇑1) (A0 (dIx (A7 0) ⇑5) A2))))))) [‹scr ns›,‹.int at'›,‹↥l›,‹.str nm›,none,none,none,none]=some (.nx [‹scr ns›,‹.int at'›,‹↥l›,‹.str nm›,‹.list ((par l).map K9)›,none,none,none]):=by
  have e1:D6 (A0 (B1 (A0 (dC (.str "")) (A0 (A1 2) A2))) A2) [‹scr ns›,‹.int at'›,‹↥l›,‹.str nm›,none,none,none,none]=some (.list [K9 (.str "", l)]):=rfl
  simp only[B2,A4,e1,xbs]
  simp only[D6,pc,xbs,xms,cc,xw0,xw1]
 have pl:((par l).map K9).length=(par l).length:=List.length_map ..
 have ppos:0 < (par l).length:=by unfold par;simp
 obtain⟨t,et,lt⟩:=B7 ns hn (e:=(at':Int)) (m':=(((par l).map K9).length:Nat)) at' (par l).length rfl (by rw[pl]) (by omega) ppos
 obtain⟨z,hz,ez⟩:∃z∈par l,atI ((par l).map K9) (t:Int)=some (K9 z):=⟨(par l)[t],List.getElem_mem lt,J1 (by rw[List.getElem?_map,List.getElem?_eq_getElem lt];rfl)⟩
 obtain⟨kz,nz⟩:=aI6 g hz
 have zl4:z.2.length<=400:=(af1 g (by omega) kz).1
 have l2:∀a b:D,([a,b]:List D).length=2:=fun _ _=>rfl
 have s1:(V6 (dIx (A7 4) (A3 A5 (A0 (A1 0) (A0 (A1 1) (A0 (L9 (A7 4)) A2))))) (M9 2 (C0 (B3 5) (C0 (B3 6) O5)))) [‹scr ns›,‹.int at'›,‹↥l›,‹.str nm›,‹.list ((par l).map K9)›,none,none,none]=some (.nx [‹scr ns›,‹.int at'›,‹↥l›,‹.str nm›,‹.list ((par l).map K9)›,‹z.1›,‹↥z.2›,none]):=by wp_walk using evD,et,ez,K9,l2
 obtain⟨n,en,no,nd,_,nnm,nnr⟩:=aQ1 ns hn (at'+10) (by omega) (.str nm) .over
 have en:P3 [scr ns,.int ((at':Int)+10),.str nm,.str "over"]=some n.d:=by
  have:((at'+10:Nat):Int)=(at':Int)+10:=by omega
  rw[← this];exact en
 have nms:n.nms=[.str nm]:=by
  cases n with
  | group=>rw[Nd.dp]at nd;omega
  | layer=>rw[Nd.nm]at nnm;rw[Nd.nms,nnm]
  | tone=>rw[Nd.nm]at nnm;rw[Nd.nms,nnm]
 have s2:(B2 7 (A3 P3 (A0 (A1 0) (A0 (A4 A9 (A1 1) ⇑10) (A0 (A1 3) (A0 (dC (.str "over")) A2)))))) [‹scr ns›,‹.int at'›,‹↥l›,‹.str nm›,‹.list ((par l).map K9)›,‹z.1›,‹↥z.2›,none]=some (.nx [‹scr ns›,‹.int at'›,‹↥l›,‹.str nm›,‹.list ((par l).map K9)›,‹z.1›,‹↥z.2›,‹n.d›]):=by wp_walk using evD,en
 obtain⟨c,ec,_⟩:=B7 ns hn (e:=(at':Int)+1) (m':=3) (at'+1) 3 (by omega) rfl (by omega) (by decide)
 obtain⟨q1,q2,q3⟩:=ck8 hnm h5
 obtain⟨x,x1,x2,x3,x4,s3⟩:∃x:Nd,x.Ok/\x.near/\(x.nms=[.str nm]\/x.nms=[.str nm,.str (nm ++ "q")])/\x.dp<=1/\(sIf (tB2 eqD (A3 A5 (A0 (A1 0) (A0 (A4 A9 (A1 1) ⇑1) (A0 ⇑3 A2)))) ⇑0) (B2 7 (B1 (A0 (dC (.str "group")) (A0 (A1 3) (A0 (dC (.str "plus")) (A0 (B1 (A0 ⇑1 (A0 ⇑2 A2))) (A0 (dC (.bool true)) (A0 (B1 (A0 (A4 A9 (A4 A9 (E4 (A1 7) C4 (B5 ⇑1)) (B1 (A0 (A4 A9 (A1 3) (dC (.str "q"))) A2))) (E4 (A1 7) (B5 ⇑2) C4)) A2)) A2)))))))) C5) [‹scr ns›,‹.int at'›,‹↥l›,‹.str nm›,‹.list ((par l).map K9)›,‹z.1›,‹↥z.2›,‹n.d›]=some (.nx [‹scr ns›,‹.int at'›,‹↥l›,‹.str nm›,‹.list ((par l).map K9)›,‹z.1›,‹↥z.2›,‹x.d›]):=by
  cases q:((c:Int)==0) with
  | false =>
   refine⟨n,no,nnr,.inl nms,by omega,?_⟩
   wp_walk using evD,ec,q
  | true =>
   obtain⟨r1,r2,r3,r4⟩:=bJ6 (.str (nm ++ "q")) nd no nnr
   obtain⟨r,F5,hr,hr2,hrl⟩:∃a r,n.d=.tuple (a :: .str nm::r)/\(n.ren (.str (nm ++ "q"))).d=.tuple (a :: .str (nm ++ "q")::r)/\r.length<=14:=by
    cases n with
    | group=>rw[Nd.dp]at nd;omega
    | layer nm'=>rw[Nd.nm]at nnm;subst nnm;rw[Nd.ren,Nd.d,Nd.d];exact⟨_,_,rfl,rfl,by show 7<=14;decide⟩
    | tone nm'=>rw[Nd.nm]at nnm;subst nnm;rw[Nd.ren,Nd.d,Nd.d];exact⟨_,_,rfl,rfl,by show 3<=14;decide⟩
   refine⟨.group (.str nm) .plus v6 true [n.ren (.str (nm ++ "q"))],?_,?_,.inr ?_,?_,?_⟩
   ·rw[Nd.Ok,Nd.Oks,Nd.Oks];exact⟨aR0,r1,trivial⟩
   ·rw[Nd.near,Nd.nears,Nd.nears];exact⟨r2,trivial⟩
   ·rw[Nd.nms,Nd.nmss,Nd.nmss,r4];rfl
   ·rw[Nd.dp,Nd.dps,Nd.dps,r3];decide
   ·have c1:O9 (r :: .str nm::F5) none (some 1)=[r]:=ch1 r _
    have c2:O9 (r :: .str nm::F5) (some 2) none=F5:=by
     have:=aF0 (xs:=r :: .str nm::F5) (i:=1) (by simp)
     exact this
    have k1:=af6 (a:=[r]) (b:=[.str (nm ++ "q")]) (by show 2<=1000;decide)
    have k2:=af6 (a:=[r]++[.str (nm ++ "q")]) (b:=F5) (by show 2+F5.length<=1000;omega)
    have k2:A9 (.tuple ([r]++[.str (nm ++ "q")])) (.tuple F5)=some (.tuple (r :: .str (nm ++ "q")::F5)):=k2
    rw[Nd.d,Nd.ds,Nd.ds,hr,hr2,aj9]
    have a1:E4 (A1 7) C4 (B5 ⇑1) [‹scr ns›,‹.int at'›,‹↥l›,‹.str nm›,‹.list ((par l).map K9)›,‹z.1›,‹↥z.2›,‹.tuple (r :: .str nm::F5)›]=some (.tuple [r]):=congrArg (fun q=>some (PyData.tuple q)) c1
    have a2:E4 (A1 7) (B5 ⇑2) C4 [‹scr ns›,‹.int at'›,‹↥l›,‹.str nm›,‹.list ((par l).map K9)›,‹z.1›,‹↥z.2›,‹.tuple (r :: .str nm::F5)›]=some (.tuple F5):=congrArg (fun q=>some (PyData.tuple q)) c2
    simp only[sIf,tB2,A4,A3,A0,A2,A1,dC,xg0,xg1,xbs,xms,S9,ec,n5,q,J4,if_true,B2,B1,a1,a2,q2,k1,k2,xw0,xw1]
    rfl
 have zl:(Nd.ds z.2).length=z.2.length:=O0 z.2
 obtain⟨u,eu,lu⟩:=B7 ns hn (e:=(at':Int)+2) (m':=((Nd.ds z.2).length:Nat)+1) (at'+2) (z.2.length+1) (by omega) (by rw[zl];omega) (by omega) (by omega)
 have xn:(∀d∈x.nms,Nm d)/\x.nms.length<=2/\x.nms.Nodup:=by
  rcases x3 with e|e<;>rw[e]
  ·exact⟨fun d hd=>by rw[List.mem_singleton.mp hd];exact hnm,by simp,by simp⟩
  ·refine⟨fun d hd=>?_,by simp,?_⟩
   ·rcases List.mem_cons.mp hd with hd|hd
    ·rw[hd];exact hnm
    ·rw[List.mem_singleton.mp hd];exact q1
   ·rw[List.nodup_cons]
    exact⟨fun z=>q3 (List.mem_singleton.mp z),by simp⟩
 have nmo:∀e:De,e.isV=false->e.nm=z.1->Nm e.nm\/(e.isV=false/\e.nm=.str ""):=fun e hv he=>by
  rw[he]
  rcases nz with q|q
  ·exact .inl q
  ·exact .inr ⟨hv,q⟩
 have dnd:∀e:De,(e=.out z.1 u x\/e=.put z.1 u x)->(∀pa k y,e=.put pa k y\/e=.out pa k y->y=x):=fun e he pa k y hy=>by rcases he with rfl|rfl<;>rcases hy with hy|hy<;>cases hy<;>rfl
 refine⟨.put z.1 u x,C2 (ρ:=[‹scr ns›,‹.int at'›,‹↥l›,‹.str nm›,none,none,none,none]) rfl ?_,⟨⟨⟨nmo _ rfl rfl,trivial,fun pa k y hy=>?_⟩,⟨x1,x2,xn.2.2⟩,fun pa k y hy=>?_⟩,⟨⟨nmo _ rfl rfl,trivial,fun pa k y hy=>?_⟩,trivial,fun pa k y hy=>?_⟩,fun h=>(by cases h),fun pa k y hy=>(by cases hy),fun pa k y hy=>?_⟩,rfl⟩
 ·unfold aT2
  rw[A6 s0,A6 s1,A6 s2,A6 s3,De.d]
  wp_walk using evD,eu
 ·rw[dnd _ (.inr rfl) pa k y hy];exact⟨fun d hd=>Q3 (xn.1 d hd),by omega,by have:=xn.2.1;omega⟩
 ·rw[dnd _ (.inr rfl) pa k y hy];exact⟨xn.1,by have:=xn.2.1;omega⟩
 ·rw[dnd _ (.inl rfl) pa k y hy];exact⟨fun d hd=>Q3 (xn.1 d hd),by omega,by have:=xn.2.1;omega⟩
 ·rw[dnd _ (.inl rfl) pa k y hy];exact⟨xn.1,by have:=xn.2.1;omega⟩
 ·cases hy;exact⟨x3,x4,z.2,kz,by omega⟩
theorem ci8{N:Nat}{l:List Nd}(g:Gp N l) (hN:N<=60) (ns:List Int) (hn:ns.length<=63) (at':Nat) (ha:at' < 2 ^ 17) (w h:Nat) (nm:Str) {n:Nd}(hm:n∈Nd.als l) (t:Nat) (ht:((t:Int)==0)=false):∃e:De,(A8 O3 (A8 L3 (A8 Q7 (A8 U5 (A8 U4 (A8 X3 (A8 X2 (A8 X1 X0)))))))) (en ns at' w h l nm (‹↥l›) (‹.list ((Nd.als l).map Nd.d)›) (‹n.d›) (‹.int t›) none none none none none none none none)=some (.rt e.d)/\Dw l nm e/\e.isV=true:=by
 have s5:O3 (en ns at' w h l nm (‹↥l›) (‹.list ((Nd.als l).map Nd.d)›) (‹n.d›) (‹.int t›) none none none none none none none none)=some (.nx (en ns at' w h l nm (‹↥l›) (‹.list ((Nd.als l).map Nd.d)›) (‹n.d›) (‹.int t›) none none none none none none none none)):=by
  have c0:(tB2 eqD (A1 7) ⇑0) (en ns at' w h l nm (‹↥l›) (‹.list ((Nd.als l).map Nd.d)›) (‹n.d›) (‹.int t›) none none none none none none none none)=some false:=by simp only[tB2,A4,A1,dC,xg0,xg1,xbs,xms,n5,ht,J4]
  unfold O3 sIf
  rw[c0]
  rfl
 rw[A6 s5]
 obtain⟨o1,o2,o3,o4,o5,o6,o7⟩:=g.nr1 hm
 obtain⟨x,ex,lx⟩:=B7 ns hn (e:=(at':Int)+3) (m':=2) (at'+3) 2 (by omega) rfl (by omega) (by decide)
 obtain⟨r,er,hr⟩:=al3 ns hn (e:=(at':Int)+4) (at'+4) (by omega) (by omega)
 obtain⟨y,ey,ly⟩:=B7 ns hn (e:=(at':Int)+3) (m':=6) (at'+3) 6 (by omega) rfl (by omega) (by decide)
 obtain⟨m6,em6⟩:=cd5 y ly
 obtain⟨u,eu,lu⟩:=B7 ns hn (e:=(at':Int)+3) (m':=5) (at'+3) 5 (by omega) rfl (by omega) (by decide)
 obtain⟨v,ev,lv⟩:=B7 ns hn (e:=(at':Int)+4) (m':=5) (at'+4) 5 (by omega) rfl (by omega) (by decide)
 obtain⟨q,eq,oq⟩:=aA6 ns (at'+7) hn (by omega)
 have eq:R0 [scr ns,.int ((at':Int)+7)]=some q.d:=by
  have:((at'+7:Nat):Int)=(at':Int)+7:=by omega
  rw[← this];exact eq
 have hr:=ar3 hr
 cases n with
 | tone nm' rr s sh =>
  refine⟨.shw nm' sh ((x:Int)==0),D0 ?_,n6 g rfl hm (by rw[Nd.nm];rfl) (by rw[De.on,if_pos rfl]) trivial trivial trivial,rfl⟩
  rw[Nd.d,De.d]
  cases q1:((t:Int)==1)<;>wp_walk using evD,L3,en,q1,ah8,bG7,ch9,cg3,ex
 | group nm' m s sh ms =>
  rw[Nd.Ok]at o1
  cases q1:((t:Int)==1) with
  | true =>
   refine⟨.shw nm' sh ((x:Int)==0),D0 ?_,n6 g rfl hm (by rw[Nd.nm];rfl) (by rw[De.on,if_pos rfl]) trivial trivial trivial,rfl⟩
   rw[Nd.d,De.d]
   wp_walk using evD,L3,en,q1,x9,aS8,ch7,ex
  | false =>
   refine⟨.str nm' s r,(A6 (ρ':=(en ns at' w h l nm (‹↥l›) (‹.list ((Nd.als l).map Nd.d)›) (‹.tuple [.str "group", nm',.str m.s,fr s,.bool sh,↥ms]›) (‹.int t›) none none none none none none none none)) ?_).trans (D0 ?_),n6 g rfl hm (by rw[Nd.nm];rfl) (by rw[De.on,if_pos rfl]) hr o1.1 trivial,rfl⟩
   ·rw[Nd.d];wp_walk using evD,L3,en,q1,x9,cm5
   ·rw[De.d];cases q2:((t:Int)==2)<;>wp_walk using evD,Q7,en,q2,x9,aS8,ch8,aX2,er
 | layer nm' m s sh lf tp mk w' h' l' kb =>
  rw[Nd.Ok]at o1
  rw[Nd.near]at o2
  obtain⟨p1,p2,_⟩:=o1
  cases q1:((t:Int)==1) with
  | true =>
   refine⟨.shw nm' sh ((x:Int)==0),D0 ?_,n6 g rfl hm (by rw[Nd.nm];rfl) (by rw[De.on,if_pos rfl]) trivial trivial trivial,rfl⟩
   rw[Nd.d,De.d]
   wp_walk using evD,L3,en,q1,n8,au4,ch4,ex
  | false =>
   rw[A6 (ρ':=(en ns at' w h l nm (‹↥l›) (‹.list ((Nd.als l).map Nd.d)›) (‹.tuple [.str "layer", nm',.str m.s,fr s,.bool sh,.int lf,.int tp,mkD mk,shD w' h' l']›) (‹.int t›) none none none none none none none none)) (by rw[Nd.d];wp_walk using evD,L3,en,q1,n8,cm3)]
   cases q2:((t:Int)==2) with
   | true =>
    refine⟨.str nm' s r,D0 ?_,n6 g rfl hm (by rw[Nd.nm];rfl) (by rw[De.on,if_pos rfl]) hr p1 trivial,rfl⟩
    rw[De.d]
    wp_walk using evD,Q7,en,q2,n8,au4,ch5,er
   | false =>
    rw[A6 (ρ':=(en ns at' w h l nm (‹↥l›) (‹.list ((Nd.als l).map Nd.d)›) (‹.tuple [.str "layer", nm',.str m.s,fr s,.bool sh,.int lf,.int tp,mkD mk,shD w' h' l']›) (‹.int t›) none none none none none none none none)) (by wp_walk using evD,Q7,en,q2,n8,aX1)]
    cases q3:((t:Int)==3) with
    | true =>
     refine⟨.man nm' m m6,D0 ?_,n6 g rfl hm (by rw[Nd.nm];rfl) (by rw[De.on,if_pos rfl]) trivial trivial trivial,rfl⟩
     rw[De.d]
     wp_walk using evD,U5,en,q3,au4,ch6,ey,em6
    | false =>
     rw[A6 (ρ':=(en ns at' w h l nm (‹↥l›) (‹.list ((Nd.als l).map Nd.d)›) (‹.tuple [.str "layer", nm',.str m.s,fr s,.bool sh,.int lf,.int tp,mkD mk,shD w' h' l']›) (‹.int t›) none none none none none none none none)) (by wp_walk using evD,U5,en,q3)]
     cases q4:((t:Int)==4) with
     | true =>
      refine⟨.plc nm' lf tp ((u:Int) - 2) ((v:Int) - 2),D0 ?_,n6 g rfl hm (by rw[Nd.nm];rfl) (by rw[De.on,if_pos ⟨rfl,rfl⟩]) ⟨⟨by omega,by omega⟩,by omega,by omega⟩ ⟨⟨o2.1,o2.2.1⟩,o2.2.2.1,o2.2.2.2.1⟩ trivial,rfl⟩
      have sl:E4 (A1 6) (B5 ⇑5) (B5 ⇑7) (en ns at' w h l nm (‹↥l›) (‹.list ((Nd.als l).map Nd.d)›) (‹.tuple [.str "layer", nm',.str m.s,fr s,.bool sh,.int lf,.int tp,mkD mk,shD w' h' l']›) (‹.int t›) none none none none none none none none)=some (.tuple [.int lf,.int tp]):=rfl
      rw[De.d]
      simp only[U4,en,sIf,B0,tB2,J4,B1,A0,A2,sl,A4,dC,A3,dIx,A7,n4,A1,xg0,xg1,xbs,xms,n5,S9,q4,j8,au4,eu,ev,ab7,if_true]
     | false =>
      rw[A6 (ρ':=(en ns at' w h l nm (‹↥l›) (‹.list ((Nd.als l).map Nd.d)›) (‹.tuple [.str "layer", nm',.str m.s,fr s,.bool sh,.int lf,.int tp,mkD mk,shD w' h' l']›) (‹.int t›) none none none none none none none none)) (by wp_walk using evD,U4,en,q4)]
      obtain⟨w1,w8,h1,h8,len,_⟩:=p2
      obtain⟨b1,b2,b3,b4,b5,w3,h3,o8⟩:=o2
      obtain⟨a,ea,la⟩:=B7 ns hn (e:=(at':Int)+3) (m':=(w':Int)) (at'+3) w' (by omega) rfl (by omega) (by omega)
      obtain⟨b,eb,lb⟩:=B7 ns hn (e:=(at':Int)+4) (m':=(h':Int)) (at'+4) h' (by omega) rfl (by omega) (by omega)
      have bw:b*w'+a < l'.length:=by
       rw[len]
       have:(b+1)*w'<=h'*w':=Nat.mul_le_mul_right _ (by omega)
       rw[Nat.mul_comm w' h']
       rw[Nat.succ_mul]at this
       omega
      have em:C6 (.int b) (.int w')=some (.int ((b*w':Nat):Int)):=L8 (by omega) (by omega)
      have ei:atI (l'.map Q4.d) (((b*w':Nat):Int)+(a:Int))=some (l'[b*w'+a]).d:=by
       rw[← Int.natCast_add]
       exact J1 (by rw[List.getElem?_map,List.getElem?_eq_getElem bw];rfl)
      have l3:∀a b c:D,([a,b,c]:List D).length=3:=fun _ _ _=>rfl
      refine⟨.spt nm' a b (l'[b*w'+a]) q,?_,n6 g rfl hm (by rw[Nd.nm];rfl) (by rw[De.on,if_pos ⟨la,lb,?_⟩]) oq (o8 _ (List.getElem_mem bw)) ⟨by omega,by omega⟩,rfl⟩
      ·rw[A6 (ρ':=(en ns at' w h l nm (‹↥l›) (‹.list ((Nd.als l).map Nd.d)›) (‹.tuple [.str "layer", nm',.str m.s,fr s,.bool sh,.int lf,.int tp,mkD mk,shD w' h' l']›) (‹.int t›) none none none (‹.int w'›) (‹.int h'›) (‹.tuple (l'.map Q4.d)›) none none)) (by wp_walk using evD,X3,en,bG6,shD,l3)]
       rw[A6 (ρ':=(en ns at' w h l nm (‹↥l›) (‹.list ((Nd.als l).map Nd.d)›) (‹.tuple [.str "layer", nm',.str m.s,fr s,.bool sh,.int lf,.int tp,mkD mk,shD w' h' l']›) (‹.int t›) none none none (‹.int w'›) (‹.int h'›) (‹.tuple (l'.map Q4.d)›) (‹.int a›) none)) (by wp_walk using evD,X2,en,ea)]
       rw[A6 (ρ':=(en ns at' w h l nm (‹↥l›) (‹.list ((Nd.als l).map Nd.d)›) (‹.tuple [.str "layer", nm',.str m.s,fr s,.bool sh,.int lf,.int tp,mkD mk,shD w' h' l']›) (‹.int t›) none none none (‹.int w'›) (‹.int h'›) (‹.tuple (l'.map Q4.d)›) (‹.int a›) (‹.int b›))) (by wp_walk using evD,X1,en,eb)]
       rw[De.d]
       wp_walk using evD,X0,en,em,ei,eq,au4
      ·rw[List.getD_eq_getElem?_getD,List.getElem?_eq_getElem bw];exact bh5 _
theorem an3{N:Nat}{l:List Nd}(g:Gp N l) (hN:N<=60) (ns:List Int) (hn:ns.length<=63) (at':Nat) (ha:at' < 2 ^ 16) (w h:Nat) {nm:Str}(hnm:Nm (.str nm)) (h5:nm.length<=5):∃e:De,R1 [scr ns,.int at',P4 w h l,.str nm]=some e.d/\Dw l nm e:=by
 have l6:=(g.pl (by omega)).al
 have eA:=ao6 3 l 12 g.dp (by decide) (by omega)
 have fin:∀e:De,W4 (en ns at' w h l nm none none none none none none none none none none none none)=some (.rt e.d)->Dw l nm e->∃e:De,R1 [scr ns,.int at',P4 w h l,.str nm]=some e.d/\Dw l nm e:=fun d h1 h2=>⟨d,C2 rfl h1,h2⟩
 have s0:ag7 (en ns at' w h l nm none none none none none none none none none none none none)=some (.nx (en ns at' w h l nm (‹↥l›) none none none none none none none none none none none)):=rfl
 have s1:h9 (en ns at' w h l nm (‹↥l›) none none none none none none none none none none none)=some (.nx (en ns at' w h l nm (‹↥l›) (‹.list ((Nd.als l).map Nd.d)›) none none none none none none none none none none)):=by wp_walk using evD,h9,en,eA
 have eX:eqD (.list ((Nd.als l).map Nd.d)) (.list [])=some (.bool ((Nd.als l).map Nd.d).isEmpty):=by
  unfold eqD
  rw[if_pos ⟨(Ly.lst (n:=30) fun x hx=>by
   obtain⟨n,hn',rfl⟩:=List.mem_map.mp hx
   exact g.ly hn').shaped (by decide),rfl⟩]
  cases(Nd.als l).map Nd.d<;>rfl
 obtain⟨c,ec,lc⟩:=B7 ns hn (e:=(at':Int)) (m':=4) at' 4 rfl rfl (by omega) (by decide)
 obtain⟨dp,ep,hp,_⟩:=aX3 g hN ns hn (at'+20) (by omega) hnm h5
 have ep:ak4 [scr ns,.int ((at':Int)+20),↥l,.str nm]=some dp.d:=by
  have:((at'+20:Nat):Int)=(at':Int)+20:=by omega
  rw[← this];exact ep
 cases q0:((Nd.als l).map Nd.d).isEmpty with
 | true =>
  rw[q0]at eX
  refine fin dp ?_ hp
  unfold W4
  rw[A6 s0,A6 s1]
  exact D0 (by wp_walk using evD,Q8,en,eX,ep)
 | false =>
  rw[q0]at eX
  cases q1:((c:Int)==0) with
  | true =>
   refine fin dp ?_ hp
   unfold W4
   rw[A6 s0,A6 s1]
   exact D0 (by wp_walk using evD,Q8,en,eX,ec,q1,ep)
  | false =>
   have s2:Q8 (en ns at' w h l nm (‹↥l›) (‹.list ((Nd.als l).map Nd.d)›) none none none none none none none none none none)=some (.nx (en ns at' w h l nm (‹↥l›) (‹.list ((Nd.als l).map Nd.d)›) none none none none none none none none none none)):=by wp_walk using evD,Q8,en,eX,ec,q1
   have pos:0 < (Nd.als l).length:=by
    cases e:Nd.als l with
    | nil=>rw[e]at q0;cases q0
    | cons a b=>rw[List.length_cons];omega
   obtain⟨i,ei,li⟩:=B7 ns hn (e:=(at':Int)+1) (m':=(((Nd.als l).map Nd.d).length:Nat)) (at'+1) (Nd.als l).length (by omega) (by rw[List.length_map]) (by omega) pos
   have hm:(Nd.als l)[i]∈Nd.als l:=List.getElem_mem li
   have ai:atI ((Nd.als l).map Nd.d) (i:Int)=some ((Nd.als l)[i]).d:=J1 (by rw[List.getElem?_map,List.getElem?_eq_getElem li];rfl)
   generalize (Nd.als l)[i]=n at hm ai
   have s3:g9 (en ns at' w h l nm (‹↥l›) (‹.list ((Nd.als l).map Nd.d)›) none none none none none none none none none none)=some (.nx (en ns at' w h l nm (‹↥l›) (‹.list ((Nd.als l).map Nd.d)›) (‹n.d›) none none none none none none none none none)):=by wp_walk using evD,g9,en,ei,ai
   obtain⟨t,et,lt⟩:=B7 ns hn (e:=(at':Int)+2) (m':=6) (at'+2) 6 (by omega) rfl (by omega) (by decide)
   have s4:g8 (en ns at' w h l nm (‹↥l›) (‹.list ((Nd.als l).map Nd.d)›) (‹n.d›) none none none none none none none none none)=some (.nx (en ns at' w h l nm (‹↥l›) (‹.list ((Nd.als l).map Nd.d)›) (‹n.d›) (‹.int t›) none none none none none none none none)):=by wp_walk using evD,g8,en,et
   cases q2:((t:Int)==0) with
   | true =>
    obtain⟨d,e1,e2⟩:=ci9 g hN ns at' w h nm hm t q2
    refine fin d ?_ e2
    unfold W4
    rw[A6 s0,A6 s1,A6 s2,A6 s3,A6 s4]
    exact D0 e1
   | false =>
    obtain⟨d,e1,e2,_⟩:=ci8 g hN ns hn at' (by omega) w h nm hm t q2
    refine fin d ?_ e2
    unfold W4
    rw[A6 s0,A6 s1,A6 s2,A6 s3,A6 s4]
    exact e1
theorem bM8{N:List D}{many:Nat}{b:Bool}(hm:many<=14) (hP:∀i,i < many->∃y,N[i]? = some (.str (nmS b i y))/\SOk y/\y.length<=4):∀j,j < many->∃y:Str,N[j]? = some (.str (nmS b j y))/\Nm (.str (nmS b j y))/\(nmS b j y).length<=5:=fun j hj=>by
 obtain⟨y,e1,e2,e3⟩:=hP j hj
 have ln:(nmS b j y).length=y.length+1:=by
  have lc:(ltr j).cps.size=1:=rfl
  cases b
  ·show(y.cps++(ltr j).cps).size=_
   rw[Array.size_append,lc];rfl
  ·show((ltr j).cps++y.cps).size=_
   rw[Array.size_append,lc,Nat.add_comm];rfl
 exact⟨y,e1,⟨_,rfl,bv9 b (by omega) e2,by omega,by omega⟩,by omega⟩
theorem cf6{N:List D}{b:Bool}{l:List Nd}(hl:NOk N 2 4 l) (hP:∀j,j < 6->∃y:Str,N[j]? = some (.str (nmS b j y))/\Nm (.str (nmS b j y))/\(nmS b j y).length<=5):Gp 6 l/\∀d∈Nd.nmss l,∃(j:Nat) (y:Str),j < 6/\d=.str (nmS b j y):=by
 obtain⟨is,q1,q2,q3⟩:=hl.ix
 have gd:∀j,j < 6->∃y:Str,N.getD j .none=.str (nmS b j y)/\Nm (.str (nmS b j y)):=fun j hj=>by
  obtain⟨y,e1,e2,_⟩:=hP j hj
  exact⟨y,by rw[List.getD_eq_getElem?_getD,e1];rfl,e2⟩
 have nm6:∀d∈Nd.nmss l,∃(j:Nat) (y:Str),j < 6/\d=.str (nmS b j y)/\Nm d:=fun d hd=>by
  rw[q1]at hd
  obtain⟨j,hj,rfl⟩:=List.mem_map.mp hd
  have j6:j < 6:=by have:=q3 j hj;omega
  obtain⟨y,e1,e2⟩:=gd j j6
  exact⟨j,y,j6,e1,by rw[e1];exact e2⟩
 refine⟨⟨hl.ok,hl.nr,by have:=hl.dp;omega,fun d hd=>(nm6 d hd).choose_spec.choose_spec.2.2,?_,?_⟩,fun d hd=>?_⟩
 ·rw[q1]
  refine List.pairwise_map.mpr (List.Pairwise.imp_of_mem (fun{i j} hi hj ne e=>?_) q2)
  obtain⟨y,e1,_⟩:=gd i (by have:=q3 i hi;omega)
  obtain⟨z,e2,_⟩:=gd j (by have:=q3 j hj;omega)
  rw[e1,e2]at e
  exact ne (bw0 (b:=b) (by injection e))
 ·rw[q1,List.length_map]
  have:=List.Nodup.length_le_of_subset (l₂:=List.range 6) q2 fun j hj=>List.mem_range.mpr (by have:=q3 j hj;omega)
  rw[List.length_range]at this;omega
 ·obtain⟨j,y,h1,h2,_⟩:=nm6 d hd
  exact⟨j,y,h1,h2⟩
theorem bE9{e:De}(d:Dg e):Ly 30 e.d:=by
 have q:∀n,Ly n e.nm:=fun n=>by obtain⟨s,e1,e2⟩:=d.de.nm;rw[e1];exact⟨e2,Nat.zero_le _⟩
 have st:∀(x:Str) (n:Nat),PyData.canLay0 (.str x)=true->Ly n (.str x):=fun x n hx=>⟨hx,Nat.zero_le _⟩
 have bl:∀(b:Bool) (n:Nat),Ly n (.bool b):=fun b n=>⟨rfl,Nat.zero_le _⟩
 cases e with
 | str nm o n=>rw[De.d];exact(Ly.tup (n:=5) fun x hx=>by
   simp only[List.mem_cons,List.not_mem_nil,or_false]at hx
   rcases hx with rfl|rfl|rfl|rfl
   ·exact st _ _ (by decide +kernel)
   ·exact q _
   ·exact(as3 _).mono (by decide)
   ·exact(as3 _).mono (by decide)).mono (by decide)
 | shw nm o n=>rw[De.d];exact(Ly.tup (n:=5) fun x hx=>by
   simp only[List.mem_cons,List.not_mem_nil,or_false]at hx
   rcases hx with rfl|rfl|rfl|rfl
   ·exact st _ _ (by decide +kernel)
   ·exact q _
   ·exact bl _ _
   ·exact bl _ _).mono (by decide)
 | man nm o n=>rw[De.d];exact(Ly.tup (n:=5) fun x hx=>by
   simp only[List.mem_cons,List.not_mem_nil,or_false]at hx
   rcases hx with rfl|rfl|rfl|rfl
   ·exact st _ _ (by decide +kernel)
   ·exact q _
   ·exact ax8 _ _
   ·exact ax8 _ _).mono (by decide)
 | plc nm a b c d'=>rw[De.d];exact(Ly.tup (n:=5) fun x hx=>by
   have two:∀i j:Int,Ly 5 (.tuple [.int i,.int j]):=fun i j=>(Ly.tup (n:=0) fun y hy=>by
    simp only[List.mem_cons,List.not_mem_nil,or_false]at hy
    rcases hy with rfl|rfl<;>exact Ly.int _ _).mono (by decide)
   simp only[List.mem_cons,List.not_mem_nil,or_false]at hx
   rcases hx with rfl|rfl|rfl|rfl
   ·exact st _ _ (by decide +kernel)
   ·exact q _
   ·exact two _ _
   ·exact two _ _).mono (by decide)
 | spt nm x y o n=>rw[De.d];exact(Ly.tup (n:=5) fun z hz=>by
   simp only[List.mem_cons,List.not_mem_nil,or_false]at hz
   rcases hz with rfl|rfl|rfl|rfl|rfl|rfl
   ·exact st _ _ (by decide +kernel)
   ·exact q _
   ·exact Ly.int _ _
   ·exact Ly.int _ _
   ·exact Ly.q4 _ 3
   ·exact Ly.q4 _ 3).mono (by decide)
 | put pa k x =>
  have lx:Ly 20 x.d:=(ah1 x (d.de.nd pa k x (.inl rfl)).1).mono (by have:=(d.de.nd pa k x (.inl rfl)).2.1;omega)
  rw[De.d];exact(Ly.tup (n:=20) fun z hz=>by
   simp only[List.mem_cons,List.not_mem_nil,or_false]at hz
   rcases hz with rfl|rfl|rfl|rfl
   ·exact st _ _ (by decide +kernel)
   ·exact q _
   ·exact Ly.int _ _
   ·exact lx).mono (by decide)
 | out pa k x =>
  have lx:Ly 20 x.d:=(ah1 x (d.de.nd pa k x (.inr rfl)).1).mono (by have:=(d.de.nd pa k x (.inr rfl)).2.1;omega)
  rw[De.d];exact(Ly.tup (n:=20) fun z hz=>by
   simp only[List.mem_cons,List.not_mem_nil,or_false]at hz
   rcases hz with rfl|rfl|rfl|rfl
   ·exact st _ _ (by decide +kernel)
   ·exact q _
   ·exact Ly.int _ _
   ·exact lx).mono (by decide)
def De.car:De->List D
 | .put _ _ x=>x.nms
 | .out _ _ x=>x.nms
 | _=>[]
def De.no:De->Nat
 | .put _ k _=>k
 | .out _ k _=>k
 | _=>0
def De.wn(k:Nat):De->De
 | .put pa _ x=>.put pa k x
 | .out pa _ x=>.out pa k x
 | e=>e
def De.bg:De->List D
 | .str nm _ _=>[.str "strength", nm]
 | .shw nm _ _=>[.str "shown", nm]
 | .man nm _ _=>[.str "manner", nm]
 | .plc nm _ _ _ _=>[.str "place", nm]
 | .spt nm x y _ _=>[.str "spot", nm,.int x,.int y]
 | .put pa _ _=>[.str "put", pa]
 | .out pa _ _=>[.str "out", pa]
def tch(a b:De):Bool:=inK b.car a.nm || (inK a.car b.nm || a.car.any fun x=>inK b.car x)
def R6(a b:De):Bool:=!a.isV&&(!b.isV&&same a.nm b.nm)
def nhd(a b:De):Bool:=if a.isP=b.isP then false else decide (a.no=b.no) || (decide (a.no=b.no+1\/b.no=a.no+1)&&a.isP)
def hld(a b:De):Bool:=tch a b || (if R6 a b=true then nhd a b else same (.tuple a.bg) (.tuple b.bg))
def swp(a b:De):De×De:=if b.isP=true/\b.no<=a.no then(b,a.wn (a.no+1)) else if b.isO=true/\b.no < a.no then(b,a.wn (a.no - 1)) else(b.wn (if a.isP=true then b.no - 1 else b.no+1),a)
def exc(a b:De):Option (De×De):=if hld a b=true then none else if R6 a b=true then some (swp a b) else some (b,a)
def aa1:Option (De×De)->D
 | none=>.none
 | some z=>.tuple [z.1.d,z.2.d]
structure Dx (e:De):Prop where
 nm:w4 e.nm
 nd:∀pa k x,e=.put pa k x\/e=.out pa k x->(∀d∈x.nms,M0 d)/\x.dp<=4/\x.nms.length<=100
theorem Dee.dx{e:De}(d:Dee e):Dx e:=⟨d.nm,d.nd⟩
theorem Dx.car{e:De}(d:Dx e):(∀x∈e.car,w4 x)/\e.car.length<=100:=by
 cases e with
 | put pa k x=>obtain⟨h1,_,h3⟩:=d.nd pa k x (.inl rfl);exact⟨fun y hy=>(h1 y hy).l,h3⟩
 | out pa k x=>obtain⟨h1,_,h3⟩:=d.nd pa k x (.inr rfl);exact⟨fun y hy=>(h1 y hy).l,h3⟩
 | _=>exact⟨fun x hx=>(List.not_mem_nil hx).elim,by show 0<=100;decide⟩
theorem bA0{d:D}{K:List D}(hd:w4 d) (hK:∀x∈K,w4 x):inD false d (.list K)=some (.bool (inK K d)):=by
 obtain⟨s,rfl,_⟩:=hd
 have fl:K.all K1=true:=List.all_eq_true.mpr fun x hx=>by obtain⟨t,rfl,_⟩:=hK x hx;rfl
 by_cases h:(PyData.str s:D)∈K
 ·rw[ah3 h]
  exact bl2 (v:=true) rfl fl (List.any_eq_true.mpr ⟨.str s,List.mem_map.mpr ⟨.str s,h,rfl⟩,beq_self_eq_true s⟩)
 ·rw[cf0 h]
  refine bl2 (v:=false) rfl fl (List.any_eq_false.mpr fun y hy=>?_)
  obtain⟨x,hx,rfl⟩:=List.mem_map.mp hy
  obtain⟨t,rfl,_⟩:=hK x hx
  show ¬(t==s)=true
  intro e
  exact h (by rw[← eq_of_beq e];exact hx)
theorem bT6(e:De):(e.isP || e.isO) = !e.isV:=by cases e<;>rfl
theorem aI1(e:De):J7 [e.d]=some (.bool (!e.isV)):=by
 obtain⟨i1,i2⟩:=u5 e
 refine C2 (g:=R9) (ρ:=[‹e.d›]) rfl ?_
 rw[← bT6]
 cases h1:e.isP<;>(rw[h1]at i1;wp_walk using evD,R9,i1,i2,Bool.true_or,Bool.false_or)
theorem ao2{e:De}(d:Dx e):K6 [e.d]=some (.list e.car):=by
 have i:=aI1 e
 have t:(J2 (A3 J7 (A0 (A1 0) A2))) [‹e.d›]=some (!e.isV):=by wp_walk using evD,i
 have key:∀x:Nd,x.dp<=4->x.nms.length<=100->E8 12 [.tuple [x.d]]=some (.list x.nms):=fun x h1 h2=>by
  have e0:Nd.nmss [x]=x.nms:=by rw[Nd.nmss,Nd.nmss,List.append_nil]
  have:=names_among 4 [x] 12 (by rw[Nd.dps,Nd.dps];omega) (by decide) (by rw[e0];omega)
  rwa [e0,af4]at this
 refine C2 (g:=R8) (ρ:=[‹e.d›]) rfl ?_
 unfold R8 B0 v8
 rw[t,xbs]
 cases e with
 | put pa k x =>
  obtain⟨_,h2,h3⟩:=d.nd pa k x (.inl rfl)
  have n:P9 [(De.put pa k x).d]=some x.d:=by rw[De.d];rfl
  rw[show(!(De.put pa k x).isV)=true from rfl,if_pos rfl]
  wp_walk using evD,n,key x h2 h3,De.car
 | out pa k x =>
  obtain⟨_,h2,h3⟩:=d.nd pa k x (.inr rfl)
  have n:P9 [(De.out pa k x).d]=some x.d:=by rw[De.d];rfl
  rw[show(!(De.out pa k x).isV)=true from rfl,if_pos rfl]
  wp_walk using evD,n,key x h2 h3,De.car
 | _=>rfl
theorem aH5{e:De}(d:Dx e):S0 [e.d]=some (.list (e.nm::e.car)):=by
 have c:=ao2 d
 have t:=p7 e
 have k:=ak3 (xs:=[e.nm]) (ys:=e.car) (by have:=d.car.2;simp;omega)
 refine C2 (g:=R7) (ρ:=[‹e.d›]) rfl ?_
 wp_walk using evD,R7,c,t,k
theorem bW4{α:Type}(l:List α) (p:α->Bool):bq1 (l.map fun x=>PyData.bool (p x))=some (l.any p):=by
 induction l with
 | nil=>rfl
 | cons x l ih=>rw[xmc,bq1,ih,List.any_cons];rfl
theorem aN6{a b:De}(da:Dx a) (db:Dx b):B9 [a.d,b.d]=some (.bool (a.car.any fun x=>inK (b.nm::b.car) x)):=by
 have c:=ao2 da
 have t:=aH5 db
 refine C2 (g:=F6) (ρ:=[‹a.d›,‹b.d›,none]) rfl ?_
 unfold F6
 rw[A6 (ρ':=[‹a.d›,‹b.d›,‹.list (b.nm::b.car)›]) (by wp_walk using evD,t)]
 have cp:B6 1 [2] (E7 (A3 K6 (A0 (A1 0) A2))) (B3 0) E9 (A4 (inD false) (A1 0) (A1 1)) [‹a.d›,‹b.d›,‹.list (b.nm::b.car)›]=some (a.car.map fun x=>.bool (inK (b.nm::b.car) x)):=by
  refine aa2 (l:=a.car) (h:=fun x=>x) (r:=[‹.list (b.nm::b.car)›]) rfl (by wp_walk using evD,c,List.map_id') (by have:=da.car.2;omega) fun x hx=>?_
  have:=bA0 (d:=x) (K:=b.nm::b.car) (da.car.1 x hx) (fun y hy=>by
   rcases List.mem_cons.mp hy with rfl|hy
   ·exact db.nm
   ·exact db.car.1 y hy)
  wp_walk using evD,this
 unfold B0 bB5 qN
 rw[cp]
 simp only[xms,xbs,bW4,if_neg (show ¬(false=true) from by decide)]
theorem bg8{a b:De}(da:Dx a) (db:Dx b):G4 [a.d,b.d]=some (.bool (R6 a b)):=by
 have i1:=aI1 a
 have i2:=aI1 b
 have t1:=p7 a
 have t2:=p7 b
 have q:eqD a.nm b.nm=some (.bool (same a.nm b.nm)):=by
  obtain⟨s,e1,h1⟩:=da.nm
  obtain⟨t,e2,h2⟩:=db.nm
  rw[e1,e2]
  by_cases h:s=t
  ·subst h;rw[J9];exact F1 h1 h2 (by simp)
  ·rw[N6 (by intro z;injection z with z;exact h z)];exact F1 h1 h2 (by simpa using h)
 refine C2 (g:=P2) (ρ:=[‹a.d›,‹b.d›]) rfl ?_
 unfold R6
 cases h1:a.isV<;>cases h2:b.isV<;>(rw[h1]at i1;rw[h2]at i2;wp_walk using evD,P2,i1,i2,t1,t2,q,Bool.true_and,Bool.false_and)
theorem aH6(a b:De):((a.car.any fun x=>inK (b.nm::b.car) x) || (b.car.any fun x=>inK (a.nm::a.car) x))=tch a b:=by
 unfold tch
 rw[Bool.eq_iff_iff]
 simp only[Bool.or_eq_true,List.any_eq_true]
 constructor
 ·rintro(⟨x,h1,h2⟩|⟨x,h1,h2⟩)
  ·rcases List.mem_cons.mp (al9 h2) with z|z
   ·exact .inr (.inl (ah3 (by rw[← z];exact h1)))
   ·exact .inr (.inr ⟨x,h1,ah3 z⟩)
  ·rcases List.mem_cons.mp (al9 h2) with z|z
   ·exact .inl (ah3 (by rw[← z];exact h1))
   ·exact .inr (.inr ⟨x,z,ah3 h1⟩)
 ·rintro(h|h|⟨x,h1,h2⟩)
  ·exact .inr ⟨a.nm,al9 h,ah3 List.mem_cons_self⟩
  ·exact .inl ⟨b.nm,al9 h,ah3 List.mem_cons_self⟩
  ·exact .inl ⟨x,h1,ah3 (xmm _ (al9 h2))⟩
def Pln(d:D):Prop:=(∃s,d=.str s)\/∃i,d=.int i
theorem aO3{a b:D}(ha:Pln a) (hb:Pln b):PyData.eqv a b=same a b:=by
 rcases ha with⟨s,rfl⟩|⟨i,rfl⟩<;>rcases hb with⟨t,rfl⟩|⟨j,rfl⟩
 ·by_cases h:s=t
  ·subst h;rw[J9];show(s==s)=true;simp
  ·rw[N6 (by intro z;injection z with z;exact h z)];show(s==t)=false;simpa using h
 ·rw[N6 (by intro z;cases z)];rfl
 ·rw[N6 (by intro z;cases z)];rfl
 ·by_cases h:i=j
  ·subst h;rw[J9];show(i==i)=true;simp
  ·rw[N6 (by intro z;injection z with z;exact h z)];show(i==j)=false;simpa using h
theorem aB7:∀{a b:List D},(∀x∈a,Pln x)->(∀x∈b,Pln x)->(PyData.eqvAll a b=true↔a=b)
 | [],[],_,_=>by simp[PyData.eqvAll]
 | [],_::_,_,_=>by simp[PyData.eqvAll]
 | _::_,[],_,_=>by simp[PyData.eqvAll]
 | x::a,y::b,ha,hb=>by
  have e:=aO3 (ha x List.mem_cons_self) (hb y List.mem_cons_self)
  have r:=aB7 (fun z hz=>ha z (xmm _ hz)) (fun z hz=>hb z (xmm _ hz))
  simp only[PyData.eqvAll,Bool.and_eq_true,e,P1,r,List.cons.injEq]
theorem aj6{e:De}(d:Dx e):(∀x∈e.bg,Pln x)/\∀x∈e.bg,Ly 0 x:=by
 obtain⟨s,hs,ls⟩:=d.nm
 have k:∀w:Str,PyData.canLay0 (.str w)=true->(∀x∈([.str w,e.nm]:List D),Pln x)/\∀x∈([.str w,e.nm]:List D),Ly 0 x:=fun w hw=>by
  constructor<;>(intro x hx;simp only[List.mem_cons,List.not_mem_nil,or_false]at hx;rcases hx with rfl|rfl)
  ·exact .inl ⟨_,rfl⟩
  ·exact .inl ⟨s,hs⟩
  ·exact⟨hw,Nat.le_refl _⟩
  ·rw[hs];exact⟨ls,Nat.le_refl _⟩
 cases e with
 | spt nm x y o n =>
  have k:=k "spot" (by decide +kernel)
  constructor<;>(intro z hz;rw[De.bg]at hz;simp only[List.mem_cons,List.not_mem_nil,or_false]at hz;rcases hz with rfl|rfl|rfl|rfl)
  ·exact k.1 _ (by simp)
  ·exact k.1 _ (by simp[De.nm])
  ·exact .inr ⟨_,rfl⟩
  ·exact .inr ⟨_,rfl⟩
  ·exact k.2 _ (by simp)
  ·exact k.2 _ (by simp[De.nm])
  ·exact Ly.int _ _
  ·exact Ly.int _ _
 | str=>exact k "strength" (by decide +kernel)
 | shw=>exact k "shown" (by decide +kernel)
 | man=>exact k "manner" (by decide +kernel)
 | plc=>exact k "place" (by decide +kernel)
 | put=>exact k "put" (by decide +kernel)
 | out=>exact k "out" (by decide +kernel)
theorem aO2{a b:De}(da:Dx a) (db:Dx b):eqD (.tuple a.bg) (.tuple b.bg)=some (.bool (same (.tuple a.bg) (.tuple b.bg))):=by
 have la:Ly 1 (.tuple a.bg):=Ly.tup (aj6 da).2
 have lb:Ly 1 (.tuple b.bg):=Ly.tup (aj6 db).2
 unfold eqD
 rw[if_pos ⟨la.shaped (by decide),lb.shaped (by decide)⟩]
 have:PyData.eqv (.tuple a.bg) (.tuple b.bg)=same (.tuple a.bg) (.tuple b.bg):=by
  rw[Bool.eq_iff_iff,P1]
  have:=aB7 (aj6 da).1 (aj6 db).1
  constructor
  ·intro h;rw[this.mp h]
  ·intro h;injection h with h;exact this.mpr h
 rw[this]
theorem aw8(e:De) {ρ:Rho}{i:Nat}(h:A1 i ρ=some e.d):E4 (A1 i) C4 (B5 (Y0 ⇑2)) ρ=some (.tuple e.bg):=by
 unfold E4
 rw[h]
 cases e<;>(rw[De.d];rfl)
theorem bY5{a b:De}(ha:a.isV=false) (hb:b.isV=false):eqD (.str a.w) (.str b.w)=some (.bool (decide (a.isP=b.isP))):=by
 cases a with
 | put pa k x =>
  cases b with
  | put pb j y=>exact F1 (x := "put") (y := "put") (b:=true) (by decide +kernel) (by decide +kernel) (by decide +kernel)
  | out pb j y=>exact F1 (x := "put") (y := "out") (b:=false) (by decide +kernel) (by decide +kernel) (by decide +kernel)
  | _=>cases hb
 | out pa k x =>
  cases b with
  | put pb j y=>exact F1 (x := "out") (y := "put") (b:=false) (by decide +kernel) (by decide +kernel) (by decide +kernel)
  | out pb j y=>exact F1 (x := "out") (y := "out") (b:=true) (by decide +kernel) (by decide +kernel) (by decide +kernel)
  | _=>cases hb
 | _=>cases ha
theorem ay6{e:De}(h:e.isV=false):e.isO = !e.isP:=by cases e<;>first|rfl|cases h
theorem aP1{e:De}(h:e.isV=false):O8 [e.d]=some (.int e.no):=by
 cases e with
 | put pa k x=>rw[De.d];rfl
 | out pa k x=>rw[De.d];rfl
 | _=>cases h
theorem bD1{e:De}(h:e.isV=false) (k:Nat):N3 [e.d,.int k]=some (e.wn k).d:=by
 have w:=aj4 e
 have t:=p7 e
 cases e with
 | put pa j x =>
  have n:P9 [(De.put pa j x).d]=some x.d:=by rw[De.d];rfl
  refine C2 (g:=N1) (ρ:=[some (.val (De.put pa j x).d),‹.int k›]) rfl ?_
  wp_walk using evD,N1,w,t,n
  rw[De.wn,De.d];rfl
 | out pa j x =>
  have n:P9 [(De.out pa j x).d]=some x.d:=by rw[De.d];rfl
  refine C2 (g:=N1) (ρ:=[some (.val (De.out pa j x).d),‹.int k›]) rfl ?_
  wp_walk using evD,N1,w,t,n
  rw[De.wn,De.d];rfl
 | _=>cases h
theorem ci2(p q:Nat):(.int (if(p:Int) - q < 0 then -((p:Int) - q) else(p:Int) - q):D)=.int ((p - q+(q - p):Nat):Int):=by
 congr 1
 split<;>omega
theorem cc9{a b:De}(ha:a.isV=false) (hb:b.isV=false):T2 [a.d,b.d]=some (.bool (nhd a b)):=by
 have w1:=aj4 a
 have w2:=aj4 b
 have n1:=aP1 ha
 have n2:=aP1 hb
 have q:=bY5 ha hb
 obtain⟨i1,_⟩:=u5 a
 have t:(tB2 eqD (A3 M3 (A0 (A1 0) A2)) (A3 M3 (A0 (A1 1) A2))) [‹a.d›,‹b.d›,none]=some (decide (a.isP=b.isP)):=by wp_walk using evD,w1,w2,q
 refine C2 (g:=T0) (ρ:=[‹a.d›,‹b.d›,none]) rfl ?_
 unfold T0 nhd
 by_cases h:a.isP=b.isP
 ·rw[decide_eq_true h]at t
  rw[if_pos h]
  exact D0 ((C9 t).trans rfl)
 ·rw[decide_eq_false h]at t
  rw[if_neg h,A6 ((B8 t).trans rfl)]
  have e0:eqD (.int ((a.no - b.no+(b.no - a.no):Nat):Int)) (.int 0)=some (.bool (decide (a.no=b.no))):=by
   rw[n5];congr 2
   rw[Bool.eq_iff_iff];simp;omega
  have e1:eqD (.int ((a.no - b.no+(b.no - a.no):Nat):Int)) (.int 1)=some (.bool (decide (a.no=b.no+1\/b.no=a.no+1))):=by
   rw[n5];congr 2
   rw[Bool.eq_iff_iff];simp;omega
  rw[A6 (ρ':=[‹a.d›,‹b.d›,‹.int ((a.no - b.no+(b.no - a.no):Nat):Int)›]) (by
   wp_walk using evD,bB6,n1,n2
   rw[ci2])]
  cases h1:decide (a.no=b.no)<;>cases h2:decide (a.no=b.no+1\/b.no=a.no+1)<;>(rw[h1]at e0;rw[h2]at e1;wp_walk using evD,e0,e1,i1,Bool.true_or,Bool.false_or,Bool.true_and,Bool.false_and)
theorem bl6{a b:De}(da:Dx a) (db:Dx b):ak5 [a.d,b.d]=some (.bool (hld a b)):=by
 have s1:=aN6 da db
 have s2:=aN6 db da
 have o:=bg8 da db
 have pq:=aO2 da db
 have p1:=aw8 a (ρ:=[‹a.d›,‹b.d›]) (i:=0) rfl
 have p2:=aw8 b (ρ:=[‹a.d›,‹b.d›]) (i:=1) rfl
 have t1:(F8 (J2 (A3 B9 (A0 (A1 0) (A0 (A1 1) A2)))) (J2 (A3 B9 (A0 (A1 1) (A0 (A1 0) A2))))) [‹a.d›,‹b.d›]=some (tch a b):=by
  rw[← aH6 a b]
  generalize (a.car.any fun x=>inK (b.nm::b.car) x)=x at *
  generalize (b.car.any fun x=>inK (a.nm::a.car) x)=y at *
  cases x<;>wp_walk using evD,s1,s2,Bool.true_or,Bool.false_or
 have t2:(J2 (A3 G4 (A0 (A1 0) (A0 (A1 1) A2)))) [‹a.d›,‹b.d›]=some (R6 a b):=by wp_walk using evD,o
 refine C2 (g:=aA4) (ρ:=[‹a.d›,‹b.d›]) rfl ?_
 unfold aA4 hld
 cases h1:tch a b with
 | true=>rw[h1]at t1;exact D0 ((C9 t1).trans rfl)
 | false =>
  rw[h1]at t1
  rw[A6 ((B8 t1).trans rfl),Bool.false_or]
  cases h2:R6 a b with
  | true =>
   rw[h2]at t2
   unfold R6 at h2
   simp only[Bool.and_eq_true,Bool.not_eq_true']at h2
   have nh:=cc9 h2.1 h2.2.1
   refine D0 ((C9 t2).trans ?_)
   rw[if_pos rfl]
   wp_walk using evD,nh
  | false =>
   rw[h2]at t2
   rw[A6 ((B8 t2).trans rfl),if_neg (by simp)]
   unfold B0 A4
   rw[p1,p2]
   simp only[xbs,pq,xms]
theorem ca0{a b:De}(ha:a.isV=false) (hb:b.isV=false) (hn:nhd a b=false):J6 [a.d,b.d]=some (.tuple [(swp a b).1.d,(swp a b).2.d]):=by
 have n1:=aP1 ha
 have n2:=aP1 hb
 obtain⟨i1,_⟩:=u5 a
 obtain⟨i3,i4⟩:=u5 b
 have W1:=bD1 ha
 have W2:=bD1 hb
 have t1:(F9 (J2 (A3 T4 (A0 (A1 1) A2))) (tB2 leI (A1 3) (A1 2))) [‹a.d›,‹b.d›,‹.int a.no›,‹.int b.no›]=some (decide (b.isP=true/\b.no<=a.no)):=by
  cases h:b.isP with
  | true =>
   rw[h]at i3
   wp_walk using evD,i3
   congr 1
   rw[Bool.eq_iff_iff];simp
  | false =>
   rw[h]at i3
   wp_walk using evD,i3
   congr 1
 have t2:(F9 (J2 (A3 o0 (A0 (A1 1) A2))) (tB2 ltI (A1 3) (A1 2))) [‹a.d›,‹b.d›,‹.int a.no›,‹.int b.no›]=some (decide (b.isO=true/\b.no < a.no)):=by
  cases h:b.isO with
  | true =>
   rw[h]at i4
   wp_walk using evD,i4
   congr 1
   rw[Bool.eq_iff_iff];simp
  | false =>
   rw[h]at i4
   wp_walk using evD,i4
   congr 1
 refine C2 (g:=J5) (ρ:=[‹a.d›,‹b.d›,none,none]) rfl ?_
 unfold J5
 rw[A6 (ρ':=[‹a.d›,‹b.d›,‹.int a.no›,none]) (by wp_walk using evD,n1)]
 rw[A6 (ρ':=[‹a.d›,‹b.d›,‹.int a.no›,‹.int b.no›]) (by wp_walk using evD,n2)]
 unfold swp
 by_cases h1:b.isP=true/\b.no<=a.no
 ·rw[decide_eq_true h1]at t1
  rw[if_pos h1]
  refine D0 ((C9 t1).trans ?_)
  have c:A9 (.int (a.no:Int)) (.int 1)=some (.int ((a.no+1:Nat):Int)):=by rw[S9];rfl
  have W:=W1 (a.no+1)
  simp only[B0,B1,A3,A4,A0,A2,A1,dC,xg0,xg1,xbs,xms,c,W]
 ·rw[decide_eq_false h1]at t1
  rw[if_neg h1,A6 ((B8 t1).trans rfl)]
  by_cases h2:b.isO=true/\b.no < a.no
  ·rw[decide_eq_true h2]at t2
   rw[if_pos h2]
   refine D0 ((C9 t2).trans ?_)
   have c:V2 (.int (a.no:Int)) (.int 1)=some (.int ((a.no - 1:Nat):Int)):=by rw[ab7];congr 2;have:=h2.2;omega
   have W:=W1 (a.no - 1)
   simp only[B0,B1,A3,A4,A0,A2,A1,dC,xg0,xg1,xbs,xms,c,W]
  ·rw[decide_eq_false h2]at t2
   rw[if_neg h2,A6 ((B8 t2).trans rfl)]
   cases h3:a.isP with
   | true =>
    rw[h3]at i1
    have pos:1<=b.no:=by
     have o:=ay6 hb
     unfold nhd at hn
     rw[h3]at hn
     cases hp:b.isP with
     | true =>
      have:¬b.no<=a.no:=fun z=>h1 ⟨hp,z⟩
      omega
     | false =>
      rw[hp]at hn o
      have:¬b.no < a.no:=fun z=>h2 ⟨o,z⟩
      simp at hn
      omega
    have c:V2 (.int (b.no:Int)) (.int 1)=some (.int ((b.no - 1:Nat):Int)):=by rw[ab7];congr 2;omega
    have W:=W2 (b.no - 1)
    rw[if_pos rfl]
    simp only[B0,B1,A3,A4,v8,J2,ap8,A0,A2,A1,dC,xg0,xg1,xbs,xms,i1,if_true,c,W]
   | false =>
    rw[h3]at i1
    have c:A9 (.int (b.no:Int)) (.int 1)=some (.int ((b.no+1:Nat):Int)):=by rw[S9];rfl
    have W:=W2 (b.no+1)
    rw[if_neg (by simp)]
    simp only[B0,B1,A3,A4,v8,J2,ap8,A0,A2,A1,dC,xg0,xg1,xbs,xms,i1,if_neg (show ¬(false=true) from by decide),c,W]
theorem aK0{a b:De}(da:Dx a) (db:Dx b):F0 [a.d,b.d]=some (aa1 (exc a b)):=by
 have hd:=bl6 da db
 have o:=bg8 da db
 have t1:(J2 (A3 ak5 (A0 (A1 0) (A0 (A1 1) A2)))) [‹a.d›,‹b.d›]=some (hld a b):=by wp_walk using evD,hd
 have t2:(J2 (A3 G4 (A0 (A1 0) (A0 (A1 1) A2)))) [‹a.d›,‹b.d›]=some (R6 a b):=by wp_walk using evD,o
 refine C2 (g:=n9) (ρ:=[‹a.d›,‹b.d›]) rfl ?_
 unfold n9 exc
 cases h1:hld a b with
 | true=>rw[h1]at t1;rw[if_pos rfl];exact D0 ((C9 t1).trans rfl)
 | false =>
  rw[h1]at t1
  rw[A6 ((B8 t1).trans rfl),if_neg (by simp)]
  cases h2:R6 a b with
  | true =>
   rw[h2]at t2
   have h3:=h2
   unfold R6 at h3
   simp only[Bool.and_eq_true,Bool.not_eq_true']at h3
   unfold hld at h1
   rw[h2,if_pos rfl,Bool.or_eq_false_iff]at h1
   have sw:=ca0 h3.1 h3.2.1 h1.2
   refine D0 ((C9 t2).trans ?_)
   rw[if_pos rfl]
   wp_walk using evD,sw
   rfl
  | false =>
   rw[h2]at t2
   rw[A6 ((B8 t2).trans rfl),if_neg (by simp)]
   rfl
theorem bU1(e:De):inD false (.str e.w) (.tuple [.str "put", .str "out"])=some (.bool (!e.isV)):=by
 have:=aQ9 false e.w ["put", "out"]
 refine this.trans ?_
 congr 2
 cases e<;>first
  | (show _=true;rw[De.w];decide +kernel)
  | (show _=false;rw[De.w];decide +kernel)
theorem ah5(e:De) {ρ:Rho}{i:Nat}(h:A1 i ρ=some e.d):dIx (A7 i) ⇑0 ρ=some (.str e.w)/\dIx (A7 i) ⇑1 ρ=some e.nm:=by
 unfold A1 at h
 unfold dIx A7
 constructor<;>(revert h;generalize ρ[i]? = z;intro h;match z,h with
  | some (‹d›),h=>cases h;cases e<;>(rw[De.d];rfl))
theorem bG5{e:De}(d:Dx e):S5 [e.d]=some (.list e.car):=by
 obtain⟨i0,_⟩:=ah5 e (ρ:=[‹e.d›]) (i:=0) rfl
 have t:=J3 (p:=inD false) (g:=B1 (A0 (dC (.str "put")) (A0 (dC (.str "out")) A2))) i0 rfl (bU1 e)
 have key:∀x:Nd,x.dp<=4->x.nms.length<=100->∀ρ:Rho,(dIx (A7 0) ⇑3) ρ=some x.d->(B0 (D6 (B6 1 [] (E7 (A3 (E6 12) (A0 (B1 (A0 (dIx (A7 0) ⇑3) A2)) A2))) (B3 0) E9 (dIx (A7 0) ⇑1)))) ρ=some (.rt (.list x.nms)):=fun x h1 h2 ρ hρ=>by
  have al:=ao7 x
  have all:=congrArg List.length al
  rw[List.length_map]at all
  have e1:Nd.als [x]=Nd.al x:=by rw[Nd.als,Nd.als,List.append_nil]
  have eA:=ao6 4 [x] 12 (by rw[Nd.dps,Nd.dps];omega) (by decide) (by rw[e1];omega)
  rw[af4,e1]at eA
  have cp:B6 1 [] (E7 (A3 (E6 12) (A0 (B1 (A0 (dIx (A7 0) ⇑3) A2)) A2))) (B3 0) E9 (dIx (A7 0) ⇑1) ρ=some ((Nd.al x).map Nd.nm):=by
   refine aa2 (l:=Nd.al x) (h:=Nd.d) (r:=[]) rfl ?_ (by omega) fun y hy=>?_
   ·simp only[E7,A3,B1,A0,A2,hρ,xbs,xms,eA]
   ·cases y<;>(rw[Nd.d];rfl)
  unfold B0 D6
  rw[cp,al];rfl
 refine C2 (g:=Y2) (ρ:=[‹e.d›]) rfl ?_
 unfold Y2
 cases e with
 | put pa k x =>
  obtain⟨_,h2,h3⟩:=d.nd pa k x (.inl rfl)
  refine D0 ((C9 t).trans ?_)
  exact key x h2 h3 _ (by rw[De.d];rfl)
 | out pa k x =>
  obtain⟨_,h2,h3⟩:=d.nd pa k x (.inr rfl)
  refine D0 ((C9 t).trans ?_)
  exact key x h2 h3 _ (by rw[De.d];rfl)
 | _=>rw[A6 ((B8 t).trans rfl)];rfl
theorem bC0(e:De):e.car=[]↔e.isV=true:=by
 cases e with
 | put pa k x=>exact⟨fun h=>by have:=U9 x;rw[show x.nms=[] from h]at this;exact(List.not_mem_nil this).elim,fun h=>by cases h⟩
 | out pa k x=>exact⟨fun h=>by have:=U9 x;rw[show x.nms=[] from h]at this;exact(List.not_mem_nil this).elim,fun h=>by cases h⟩
 | _=>exact⟨fun _=>rfl,fun _=>rfl⟩
theorem am2{L:List D}(hL:∀x∈L,w4 x):eqD (.list L) (.list [])=some (.bool L.isEmpty)/\neD (.list L) (.list [])=some (.bool !L.isEmpty):=by
 have l1:Ly 1 (.list L):=Ly.lst fun x hx=>by
  obtain⟨s,rfl,h⟩:=hL x hx
  exact⟨h,Nat.le_refl _⟩
 have l2:Ly 1 (.list []):=Ly.lst fun x hx=>(List.not_mem_nil hx).elim
 have:PyData.eqv (.list L) (.list [])=L.isEmpty:=by cases L<;>rfl
 unfold eqD neD
 rw[if_pos ⟨l1.shaped (by decide),l2.shaped (by decide)⟩,if_pos ⟨l1.shaped (by decide),l2.shaped (by decide)⟩,this]
 exact⟨rfl,rfl⟩
theorem bp6(e:De):e.car.isEmpty=e.isV:=by rw[Bool.eq_iff_iff,List.isEmpty_iff];exact bC0 e
abbrev x7(a b:De) (p q c:Option B):Rho:=[‹a.d›,‹b.d›,‹.list a.car›,‹.list b.car›,p,q,c]
theorem bY2{a b:De}(da:Dx a) (db:Dx b):(F8 (tB2 (inD false) (dIx (A7 0) ⇑1) (A1 3)) (F8 (tB2 (inD false) (dIx (A7 1) ⇑1) (A1 2)) (tB2 neD (D6 (B6 1 [3] (E7 (A1 2)) (B3 0) (tB2 (inD false) (A1 0) (A1 1)) (A1 0))) (D6 A2)))) (x7 a b none none none)=some (tch a b):=by
 have i1:=(ah5 a (ρ:=x7 a b none none none) (i:=0) rfl).2
 have i2:=(ah5 b (ρ:=x7 a b none none none) (i:=1) rfl).2
 have t1:=J3 (p:=inD false) (g:=A1 3) i1 rfl (bA0 da.nm db.car.1)
 have t2:=J3 (p:=inD false) (g:=A1 2) i2 rfl (bA0 db.nm da.car.1)
 have cp:B6 1 [3] (E7 (A1 2)) (B3 0) (tB2 (inD false) (A1 0) (A1 1)) (A1 0) (x7 a b none none none)=some ((a.car.filter fun x=>inK b.car x).map fun x=>x):=by
  refine ax6 (l:=a.car) (h:=fun x=>x) (p:=fun x=>inK b.car x) (r:=[‹.list b.car›]) rfl (by wp_walk using evD,List.map_id') (by have:=da.car.2;omega) (fun x hx=>?_) fun x hx=>rfl
  exact J3 rfl rfl (bA0 (da.car.1 x hx) db.car.1)
 rw[List.map_id']at cp
 have t3:=J3 (p:=neD) (g:=D6 A2) (am4 cp) rfl (am2 (L:=a.car.filter fun x=>inK b.car x) fun x hx=>da.car.1 x ((List.mem_filter.mp hx).1)).2
 have q:(!(a.car.filter fun x=>inK b.car x).isEmpty)=a.car.any fun x=>inK b.car x:=by
  rw[Bool.eq_iff_iff]
  simp[List.isEmpty_iff,List.filter_eq_nil_iff]
 rw[q]at t3
 unfold tch F8
 rw[t1,t2,t3]
 cases inK b.car a.nm<;>cases inK a.car b.nm<;>rfl
theorem bY1{a b:De}(da:Dx a) (db:Dx b):(F9 (tB2 eqD (A1 2) (D6 A2)) (F9 (tB2 eqD (A1 3) (D6 A2)) (tB2 eqD (E4 (A1 0) C4 (B5 (Y0 ⇑2))) (E4 (A1 1) C4 (B5 (Y0 ⇑2)))))) (x7 a b none none none)=some (a.isV&&(b.isV&&same (.tuple a.bg) (.tuple b.bg))):=by
 have t1:=J3 (p:=eqD) (f:=A1 2) (g:=D6 A2) (ρ:=x7 a b none none none) rfl rfl (am2 da.car.1).1
 have t2:=J3 (p:=eqD) (f:=A1 3) (g:=D6 A2) (ρ:=x7 a b none none none) rfl rfl (am2 db.car.1).1
 have t3:=J3 (p:=eqD) (aw8 a (ρ:=x7 a b none none none) (i:=0) rfl) (aw8 b (ρ:=x7 a b none none none) (i:=1) rfl) (aO2 da db)
 rw[bp6]at t1 t2
 unfold F9
 rw[t1,t2,t3]
 cases a.isV<;>cases b.isV<;>rfl
theorem cd1{a b:De}(da:Dx a) (db:Dx b):neD a.nm b.nm=some (.bool !(same a.nm b.nm)):=by
 obtain⟨s,e1,h1⟩:=da.nm
 obtain⟨t,e2,h2⟩:=db.nm
 have l1:Ly 1 a.nm:=by rw[e1];exact⟨h1,Nat.zero_le _⟩
 have l2:Ly 1 b.nm:=by rw[e2];exact⟨h2,Nat.zero_le _⟩
 unfold neD
 rw[if_pos ⟨l1.shaped (by decide),l2.shaped (by decide)⟩,aO3 (.inl ⟨s,e1⟩) (.inl ⟨t,e2⟩)]
theorem bY0{a b:De}(da:Dx a) (db:Dx b):(F8 (tB2 eqD (A1 2) (D6 A2)) (F8 (tB2 eqD (A1 3) (D6 A2)) (tB2 neD (dIx (A7 0) ⇑1) (dIx (A7 1) ⇑1)))) (x7 a b none none none)=some (!R6 a b):=by
 have t1:=J3 (p:=eqD) (f:=A1 2) (g:=D6 A2) (ρ:=x7 a b none none none) rfl rfl (am2 da.car.1).1
 have t2:=J3 (p:=eqD) (f:=A1 3) (g:=D6 A2) (ρ:=x7 a b none none none) rfl rfl (am2 db.car.1).1
 have t3:=J3 (p:=neD) (ah5 a (ρ:=x7 a b none none none) (i:=0) rfl).2 (ah5 b (ρ:=x7 a b none none none) (i:=1) rfl).2 (cd1 da db)
 rw[bp6]at t1 t2
 unfold R6 F8
 rw[t1,t2,t3]
 cases a.isV<;>cases b.isV<;>cases same a.nm b.nm<;>rfl
theorem ch3{a b:De}(h:R6 a b=false):same (.tuple a.bg) (.tuple b.bg)=(a.isV&&(b.isV&&same (.tuple a.bg) (.tuple b.bg))):=by
 cases q:same (.tuple a.bg) (.tuple b.bg) with
 | false=>simp
 | true =>
  have e:=P1.mp q
  injection e with e
  cases a with
  | put pa k x =>
   cases b with
   | put pb j y =>
    rw[De.bg,De.bg]at e
    injection e with _ e
    injection e with e _
    unfold R6 at h
    rw[show(De.put pa k x).nm=(De.put pb j y).nm from e,J9]at h
    cases h
   | _=>rw[De.bg,De.bg]at e;injection e with e _;exact absurd e (by intro z;injection z with z;exact absurd z (by decide +kernel))
  | out pa k x =>
   cases b with
   | out pb j y =>
    rw[De.bg,De.bg]at e
    injection e with _ e
    injection e with e _
    unfold R6 at h
    rw[show(De.out pa k x).nm=(De.out pb j y).nm from e,J9]at h
    cases h
   | _=>rw[De.bg,De.bg]at e;injection e with e _;exact absurd e (by intro z;injection z with z;exact absurd z (by decide +kernel))
  | _ =>
   cases b<;>first
    | rfl
    | (rw[De.bg,De.bg]at e;injection e with e _;exact absurd e (by intro z;injection z with z;exact absurd z (by decide +kernel)))
theorem bI3{e:De}(h:e.isV=false):eqD (.str e.w) (.str "put")=some (.bool e.isP):=by
 cases e with
 | put pa k x=>exact F1 (x := "put") (y := "put") (b:=true) (by decide +kernel) (by decide +kernel) (by decide +kernel)
 | out pa k x=>exact F1 (x := "out") (y := "put") (b:=false) (by decide +kernel) (by decide +kernel) (by decide +kernel)
 | _=>cases h
theorem bY4{a b:De}(ha:a.isV=false) (hb:b.isV=false):neD (.str a.w) (.str b.w)=some (.bool !(decide (a.isP=b.isP))):=by
 cases a with
 | put pa k x =>
  cases b with
  | put pb j y=>exact r8 (x := "put") (y := "put") (b:=false) (by decide +kernel) (by decide +kernel) (by decide +kernel)
  | out pb j y=>exact r8 (x := "put") (y := "out") (b:=true) (by decide +kernel) (by decide +kernel) (by decide +kernel)
  | _=>cases hb
 | out pa k x =>
  cases b with
  | put pb j y=>exact r8 (x := "out") (y := "put") (b:=true) (by decide +kernel) (by decide +kernel) (by decide +kernel)
  | out pb j y=>exact r8 (x := "out") (y := "out") (b:=false) (by decide +kernel) (by decide +kernel) (by decide +kernel)
  | _=>cases hb
 | _=>cases ha
theorem bF9{e:De}(hv:e.isV=false) {ρ:Rho}{i:Nat}(h:A1 i ρ=some e.d):dIx (A7 i) ⇑2 ρ=some (.int e.no):=by
 unfold A1 at h
 unfold dIx A7
 revert h;generalize ρ[i]? = z;intro h
 match z,h with
 | some (‹d›),h =>
  cases h
  cases e with
  | put=>rw[De.d];rfl
  | out=>rw[De.d];rfl
  | _=>cases hv
theorem bD0{e:De}(hv:e.isV=false) {ρ:Rho}{i:Nat}(h:A1 i ρ=some e.d) {f:DE}{k:Nat}(hf:f ρ=some (.int k)):(A4 A9 (A4 A9 (E4 (A1 i) C4 (B5 ⇑2)) (B1 (A0 f A2))) (E4 (A1 i) (B5 ⇑3) C4)) ρ=some (e.wn k).d:=by
 have key:∀w pa n x:D,e.d=.tuple [w,pa,n,x]->(A4 A9 (A4 A9 (E4 (A1 i) C4 (B5 ⇑2)) (B1 (A0 f A2))) (E4 (A1 i) (B5 ⇑3) C4)) ρ=some (.tuple [w,pa,.int k,x]):=fun w pa n x he=>by
  rw[he]at h
  have s1:E4 (A1 i) C4 (B5 ⇑2) ρ=some (.tuple [w,pa]):=by unfold E4;rw[h];rfl
  have s2:E4 (A1 i) (B5 ⇑3) C4 ρ=some (.tuple [x]):=by unfold E4;rw[h];rfl
  have k1:=af6 (a:=[w,pa]) (b:=[.int k]) (by show 3<=1000;decide)
  have k2:=af6 (a:=[w,pa,.int k]) (b:=[x]) (by show 4<=1000;decide)
  simp only[A4,B1,A0,A2,s1,s2,hf,xbs,xms,k1,xca,xna,k2]
 cases e with
 | put pa j x=>rw[De.wn,De.d];exact key _ _ _ _ (by rw[De.d])
 | out pa j x=>rw[De.wn,De.d];exact key _ _ _ _ (by rw[De.d])
 | _=>cases hv
theorem by6{e:De}(hv:e.isV=false) {ρ:Rho}{i:Nat}(h:A1 i ρ=some e.d):(dIx (qN (A0 (Y0 ⇑1) (A0 ⇑1 A2))) (v9 (A4 eqD (dIx (A7 i) ⇑0) (dC (.str "put"))))) ρ=some (.int (if e.isP=true then 1 else -1)):=by
 have i0:=(ah5 e h).1
 have q:=bI3 hv
 have j:(v9 (A4 eqD (dIx (A7 i) ⇑0) (dC (.str "put")))) ρ=some (.int (if e.isP=true then 1 else 0)):=by
  unfold v9 A4
  rw[i0,xbs]
  show((eqD (.str e.w) (.str "put"))).bind _=_
  rw[q];cases e.isP<;>rfl
 have u:∀f:DE,(dIx (qN (A0 (Y0 ⇑1) (A0 ⇑1 A2))) f) ρ=(f ρ).bind fun i=>match i with | .int i=>atI [.int (-1),.int 1] i|_=>none:=fun _=>rfl
 rw[u,j];cases e.isP<;>rfl
theorem bY7{f g:DE}{ρ:Rho}{x y:D}(hf:f ρ=some x) (hg:g ρ=some y):B0 (B1 (A0 f (A0 g A2))) ρ=some (.rt (.tuple [x,y])):=by
 unfold B0 B1 A0 A2
 rw[hf,hg];rfl
theorem bF0{a b:De}(da:Dx a) (db:Dx b):K5 [a.d,b.d]=some (aa1 (exc a b)):=by
 have b1:=bG5 da
 have b2:=bG5 db
 have t2:=bY2 da db
 have t3:=bY1 da db
 have t4:=bY0 da db
 refine C2 (g:=Y3) (ρ:=[‹a.d›,‹b.d›,none,none,none,none,none]) rfl ?_
 unfold Y3
 rw[A6 (ρ':=[‹a.d›,‹b.d›,‹.list a.car›,none,none,none,none]) (by wp_walk using evD,Z3,b1)]
 rw[A6 (ρ':=x7 a b none none none) (by wp_walk using evD,Z2,b2)]
 unfold exc hld
 cases h2:tch a b with
 | true =>
  rw[h2]at t2
  rw[Bool.true_or,if_pos rfl]
  exact D0 ((C9 t2).trans rfl)
 | false =>
  rw[h2]at t2
  rw[Bool.false_or,A6 (f:=Z1) ((B8 t2).trans rfl)]
  cases ho:R6 a b with
  | false =>
   rw[ho]at t4
   rw[if_neg (show ¬(false=true) by decide),if_neg (show ¬(false=true) by decide),ch3 ho]
   cases hs:(a.isV&&(b.isV&&same (.tuple a.bg) (.tuple b.bg))) with
   | true=>rw[hs]at t3;rw[if_pos rfl];exact D0 ((C9 t3).trans rfl)
   | false =>
    rw[hs]at t3
    rw[if_neg (by decide),A6 (f:=R5) ((B8 t3).trans rfl)]
    exact D0 ((C9 t4).trans rfl)
  | true =>
   rw[ho]at t4
   have hv:=ho
   unfold R6 at hv
   simp only[Bool.and_eq_true,Bool.not_eq_true']at hv
   obtain⟨ha,hb,_⟩:=hv
   rw[ha]at t3
   rw[A6 (f:=R5) ((B8 t3).trans rfl),A6 (f:=Z0) ((B8 t4).trans rfl)]
   have p1:=bF9 ha (ρ:=x7 a b none none none) (i:=0) rfl
   rw[A6 (ρ':=x7 a b (‹.int a.no›) none none) (by simp only[Y9,B2,p1,xms,xw0,xw1])]
   have p2:=bF9 hb (ρ:=x7 a b (‹.int a.no›) none none) (i:=1) rfl
   rw[A6 (ρ':=x7 a b (‹.int a.no›) (‹.int b.no›) none) (by simp only[Y8,B2,p2,xms,xw0,xw1])]
   generalize hρ:x7 a b (‹.int a.no›) (‹.int b.no›) none=ρ
   have v0:A1 0 ρ=some a.d:=by rw[← hρ];rfl
   have v1:A1 1 ρ=some b.d:=by rw[← hρ];rfl
   have v4:A1 4 ρ=some (.int a.no):=by rw[← hρ];rfl
   have v5:A1 5 ρ=some (.int b.no):=by rw[← hρ];rfl
   have w0:=(ah5 a v0).1
   have w1:=(ah5 b v1).1
   have u1:=J3 w0 w1 (bY4 ha hb)
   have u2:=J3 (p:=eqD) v4 v5 (n5 _ _)
   have u3:=J3 (p:=eqD) (g:=dC (.str "put")) w0 rfl (bI3 ha)
   have u4:(ap9 (L0 leI leI (Y0 ⇑1) (A4 V2 (A1 4) (A1 5)) ⇑1)) ρ=some (decide ((-1:Int)<=(a.no:Int) - b.no)&&decide ((a.no:Int) - b.no<=1)):=by
    have s:(A4 V2 (A1 4) (A1 5)) ρ=some (.int ((a.no:Int) - b.no)):=by unfold A4;rw[v4,v5];rfl
    have n1:(Y0 ⇑1) ρ=some (.int (-1)):=rfl
    unfold ap9 L0
    rw[s,n1,xbs,xbs,aJ3]
    cases h:decide ((-1:Int)<=(a.no:Int) - b.no)<;>rfl
   have t7:(F9 (tB2 neD (dIx (A7 0) ⇑0) (dIx (A7 1) ⇑0)) (F8 (tB2 eqD (A1 4) (A1 5)) (F9 (tB2 eqD (dIx (A7 0) ⇑0) (dC (.str "put"))) (ap9 (L0 leI leI (Y0 ⇑1) (A4 V2 (A1 4) (A1 5)) ⇑1))))) ρ=some (nhd a b):=by
    unfold F9 F8 nhd
    dsimp only[]
    rw[u1,u2,u3,u4]
    by_cases hp:a.isP=b.isP
    ·rw[if_pos hp,decide_eq_true hp];rfl
    ·rw[if_neg hp,decide_eq_false hp]
     simp only[xbs,xnf,if_true]
     by_cases hq:a.no=b.no
     ·rw[decide_eq_true hq];simp[hq]
     ·rw[decide_eq_false hq]
      have:((a.no:Int)==(b.no:Int))=false:=by simp;omega
      simp only[this,Bool.false_or,if_neg (show ¬(false=true) by decide)]
      cases a.isP
      ·simp
      ·simp only[if_true,Bool.and_true]
       congr 1
       rw[Bool.eq_iff_iff];simp;omega
   rw[if_pos rfl,if_pos rfl]
   cases hn:nhd a b with
   | true=>rw[hn]at t7;rw[if_pos rfl];exact D0 ((C9 t7).trans rfl)
   | false =>
    rw[hn]at t7
    rw[if_neg (by decide),A6 (f:=Y7) ((B8 t7).trans rfl)]
    have y1:=J3 (p:=ltI) v5 v4 (aJ2 _ _)
    have y2:=J3 (p:=eqD) (g:=dC (.str "put")) w1 rfl (bI3 hb)
    have y3:=J3 (p:=eqD) v5 v4 (n5 _ _)
    have t8:(F8 (tB2 ltI (A1 5) (A1 4)) (F9 (tB2 eqD (dIx (A7 1) ⇑0) (dC (.str "put"))) (tB2 eqD (A1 5) (A1 4)))) ρ=some (decide (b.no < a.no\/(b.isP=true/\b.no=a.no))):=by
     unfold F9 F8
     dsimp only[]
     rw[y1,y2,y3]
     by_cases hq:b.no < a.no
     ·rw[decide_eq_true (show(b.no:Int) < a.no by omega),decide_eq_true (.inl hq)];rfl
     ·rw[decide_eq_false (show ¬(b.no:Int) < a.no by omega)]
      simp only[xbs,if_neg (show ¬(false=true) by decide)]
      cases b.isP
      ·simp[hq]
      ·simp only[if_true]
       congr 1
       rw[Bool.eq_iff_iff];simp;omega
    have ob:=ay6 hb
    by_cases hc:b.no < a.no\/(b.isP=true/\b.no=a.no)
    ·rw[decide_eq_true hc]at t8
     refine D0 ((C9 t8).trans ?_)
     have z6:=by6 hb v1
     rw[A6 (ρ':=x7 a b (‹.int a.no›) (‹.int b.no›) (‹.int (if b.isP=true then 1 else -1)›)) (by
      unfold B2;rw[z6,← hρ];rfl)]
     have fin:∀k:Nat,(a.no:Int)+(if b.isP=true then 1 else -1)=k->(B0 (B1 (A0 (A1 1) (A0 (A4 A9 (A4 A9 (E4 (A1 0) C4 (B5 ⇑2)) (B1 (A0 (A4 A9 (A1 4) (A1 6)) A2))) (E4 (A1 0) (B5 ⇑3) C4)) A2)))) (x7 a b (‹.int a.no›) (‹.int b.no›) (‹.int (if b.isP=true then 1 else -1)›))=some (.rt (.tuple [b.d,(a.wn k).d])):=fun k hk=>by
      have f:(A4 A9 (A1 4) (A1 6)) (x7 a b (‹.int a.no›) (‹.int b.no›) (‹.int (if b.isP=true then 1 else -1)›))=some (.int k):=by rw[← hk];rfl
      have r:=bD0 ha (ρ:=x7 a b (‹.int a.no›) (‹.int b.no›) (‹.int (if b.isP=true then 1 else -1)›)) (i:=0) rfl f
      exact bY7 rfl r
     cases hp:b.isP with
     | true =>
      rw[hp]at fin hc
      have sw:swp a b=(b,a.wn (a.no+1)):=by unfold swp;rw[if_pos ⟨hp,by rcases hc with z|z<;>omega⟩]
      rw[sw]
      exact fin (a.no+1) (by simp)
     | false =>
      rw[hp]at fin hc ob
      have hc:b.no < a.no:=by
       rcases hc with z|z
       ·exact z
       ·cases z.1
      have sw:swp a b=(b,a.wn (a.no - 1)):=by unfold swp;rw[if_neg (by rw[hp];intro z;cases z.1),if_pos ⟨ob,hc⟩]
      rw[sw]
      exact fin (a.no - 1) (by simp;omega)
    ·rw[decide_eq_false hc]at t8
     rw[A6 (f:=Y6) ((B8 t8).trans rfl)]
     have z6:=by6 ha v0
     rw[A6 (ρ':=x7 a b (‹.int a.no›) (‹.int b.no›) (‹.int (if a.isP=true then 1 else -1)›)) (by
      show B2 6 _ ρ=_
      unfold B2;rw[z6,← hρ];rfl)]
     have sw:swp a b=(b.wn (if a.isP=true then b.no - 1 else b.no+1),a):=by
      unfold swp
      rw[if_neg (by intro z;exact hc (by have:=z.2;by_cases q:b.no < a.no;exact .inl q;exact .inr ⟨z.1,by omega⟩)),if_neg (by intro z;exact hc (.inl z.2))]
     rw[sw]
     have fin:∀k:Nat,(b.no:Int) - (if a.isP=true then 1 else -1)=k->V4 (x7 a b (‹.int a.no›) (‹.int b.no›) (‹.int (if a.isP=true then 1 else -1)›))=some (.rt (.tuple [(b.wn k).d,a.d])):=fun k hk=>by
      have f:(A4 V2 (A1 5) (A1 6)) (x7 a b (‹.int a.no›) (‹.int b.no›) (‹.int (if a.isP=true then 1 else -1)›))=some (.int k):=by rw[← hk];rfl
      have r:=bD0 hb (ρ:=x7 a b (‹.int a.no›) (‹.int b.no›) (‹.int (if a.isP=true then 1 else -1)›)) (i:=1) rfl f
      exact bY7 r rfl
     refine fin _ ?_
     cases hp:a.isP with
     | false=>simp
     | true =>
      have pos:1<=b.no:=by
       unfold nhd at hn
       rw[hp]at hn
       cases hq:b.isP with
       | true =>
        rw[hq]at hc
        have:¬b.no<=a.no:=fun z=>hc (by by_cases q:b.no < a.no;exact .inl q;exact .inr ⟨rfl,by omega⟩)
        omega
       | false =>
        rw[hq]at hn
        have:¬b.no < a.no:=fun z=>hc (.inl z)
        simp at hn
        omega
      simp;omega
theorem ak7(e:De) (k:Nat):(e.wn k).nm=e.nm/\(e.wn k).car=e.car/\(e.wn k).isV=e.isV/\(e.wn k).isP=e.isP/\(e.wn k).isO=e.isO:=by cases e<;>exact⟨rfl,rfl,rfl,rfl,rfl⟩
theorem bD2{e:De}(h:e.isV=false) (k:Nat):(e.wn k).no=k:=by cases e<;>first|rfl|cases h
theorem Z9(e:De) (k j:Nat):(e.wn k).wn j=e.wn j:=by cases e<;>rfl
theorem N5(e:De):e.wn e.no=e:=by cases e<;>rfl
theorem bD3{e:De}(d:Dx e) (k:Nat):Dx (e.wn k):=by
 refine⟨by rw[(ak7 e k).1];exact d.nm,fun pa j x h=>?_⟩
 cases e with
 | put pb i y=>rcases h with h|h<;>cases h;exact d.nd _ _ _ (.inl rfl)
 | out pb i y=>rcases h with h|h<;>cases h;exact d.nd _ _ _ (.inr rfl)
 | _=>rcases h with h|h<;>cases h
theorem aA9(a b:De):tch a b=tch b a:=by rw[← aH6,← aH6,Bool.or_comm]
theorem ar5(a b:D):same a b=same b a:=by rw[Bool.eq_iff_iff,P1,P1];exact⟨Eq.symm,Eq.symm⟩
theorem as0(a b:De):R6 a b=R6 b a:=by
 unfold R6
 rw[ar5]
 cases a.isV<;>cases b.isV<;>rfl
theorem bI7(a b:De) (j k:Nat):tch (a.wn j) (b.wn k)=tch a b/\R6 (a.wn j) (b.wn k)=R6 a b:=by
 obtain⟨a1,a2,a3,_⟩:=ak7 a j
 obtain⟨b1,b2,b3,_⟩:=ak7 b k
 unfold tch R6
 rw[a1,a2,a3,b1,b2,b3]
 exact⟨rfl,rfl⟩
theorem bd5{a b:De}(ha:a.isV=false) (hb:b.isV=false) (hn:nhd a b=false):nhd (swp a b).1 (swp a b).2=false/\swp (swp a b).1 (swp a b).2=(a,b)/\∃j k,swp a b=(b.wn j,a.wn k):=by
 have oa:=ay6 ha
 have ob:=ay6 hb
 have A:∀k,(a.wn k).isP=a.isP/\(a.wn k).isO=a.isO/\(a.wn k).no=k:=fun k=>⟨(ak7 a k).2.2.2.1,(ak7 a k).2.2.2.2,bD2 ha k⟩
 have B:∀k,(b.wn k).isP=b.isP/\(b.wn k).isO=b.isO/\(b.wn k).no=k:=fun k=>⟨(ak7 b k).2.2.2.1,(ak7 b k).2.2.2.2,bD2 hb k⟩
 have key:∀j k:Nat,swp a b=(b.wn j,a.wn k)->nhd (b.wn j) (a.wn k)=false->(swp (b.wn j) (a.wn k)).1.no=a.no->(swp (b.wn j) (a.wn k)).2.no=b.no->nhd (swp a b).1 (swp a b).2=false/\swp (swp a b).1 (swp a b).2=(a,b)/\∃j k,swp a b=(b.wn j,a.wn k):=fun j k h1 h2 h3 h4=>by
  rw[h1]
  refine⟨h2,?_,j,k,rfl⟩
  have:∃p q,swp (b.wn j) (a.wn k)=(a.wn p,b.wn q):=by
   unfold swp
   split
   ·exact⟨k,_,by rw[Z9]⟩
   ·split
    ·exact⟨k,_,by rw[Z9]⟩
    ·exact⟨_,j,by rw[Z9]⟩
  obtain⟨p,q,e⟩:=this
  rw[e]at h3 h4 ⊢
  rw[(A p).2.2]at h3
  rw[(B q).2.2]at h4
  rw[h3,h4,N5,N5]
 unfold nhd at hn
 cases pa:a.isP<;>cases pb:b.isP<;>rw[pa]at oa A<;>rw[pb]at ob B<;>rw[pa,pb]at hn<;>simp at hn
 ·
  by_cases h:b.no < a.no
  ·refine key b.no (a.no - 1) ?_ ?_ ?_ ?_
   ·unfold swp;rw[pb,ob,if_neg (by simp),if_pos ⟨rfl,h⟩,N5]
   ·unfold nhd;rw[(A _).1,(B _).1,if_pos rfl]
   ·unfold swp;simp only[(A _).1,(A _).2.1,(B _).1,(A _).2.2,(B _).2.2,oa]
    rw[if_neg (by simp),if_neg (by simp;omega)]
    simp only[Z9,(A _).2.2];simp;omega
   ·unfold swp;simp only[(A _).1,(A _).2.1,(B _).1,(A _).2.2,(B _).2.2,oa]
    rw[if_neg (by simp),if_neg (by simp;omega)]
    simp only[(B _).2.2]
  ·refine key (b.no+1) a.no ?_ ?_ ?_ ?_
   ·unfold swp;rw[pb,ob,pa,if_neg (by simp),if_neg (by simp;omega),N5];rfl
   ·unfold nhd;rw[(A _).1,(B _).1,if_pos rfl]
   ·unfold swp;simp only[(A _).1,(A _).2.1,(B _).1,(A _).2.2,(B _).2.2,oa]
    rw[if_neg (by simp),if_pos ⟨rfl,by omega⟩]
    simp only[(A _).2.2]
   ·unfold swp;simp only[(A _).1,(A _).2.1,(B _).1,(A _).2.2,(B _).2.2,oa]
    rw[if_neg (by simp),if_pos ⟨rfl,by omega⟩]
    simp only[Z9,(B _).2.2];omega
 ·
  by_cases h:b.no<=a.no
  ·refine key b.no (a.no+1) ?_ ?_ ?_ ?_
   ·unfold swp;rw[pb,if_pos ⟨rfl,h⟩,N5]
   ·unfold nhd;rw[(A _).1,(B _).1,(A _).2.2,(B _).2.2,if_neg (by simp)];simp;omega
   ·unfold swp;simp only[(A _).1,(A _).2.1,(B _).1,(A _).2.2,(B _).2.2,oa]
    rw[if_neg (by simp),if_neg (by simp;omega)]
    simp only[Z9,(A _).2.2];simp
   ·unfold swp;simp only[(A _).1,(A _).2.1,(B _).1,(A _).2.2,(B _).2.2,oa]
    rw[if_neg (by simp),if_neg (by simp;omega)]
    simp only[(B _).2.2]
  ·refine key (b.no+1) a.no ?_ ?_ ?_ ?_
   ·unfold swp;rw[pb,ob,pa,if_neg (by simp;omega),if_neg (by simp),N5];rfl
   ·unfold nhd;rw[(A _).1,(B _).1,(A _).2.2,(B _).2.2,if_neg (by simp)];simp;omega
   ·unfold swp;simp only[(A _).1,(A _).2.1,(B _).1,(A _).2.2,(B _).2.2,oa]
    rw[if_neg (by simp),if_pos ⟨rfl,by omega⟩]
    simp only[(A _).2.2]
   ·unfold swp;simp only[(A _).1,(A _).2.1,(B _).1,(A _).2.2,(B _).2.2,oa]
    rw[if_neg (by simp),if_pos ⟨rfl,by omega⟩]
    simp only[Z9,(B _).2.2];omega
 ·
  by_cases h:b.no < a.no
  ·refine key b.no (a.no - 1) ?_ ?_ ?_ ?_
   ·unfold swp;rw[pb,ob,if_neg (by simp),if_pos ⟨rfl,h⟩,N5]
   ·unfold nhd;rw[(A _).1,(B _).1,(A _).2.2,(B _).2.2,if_neg (by simp)];simp;omega
   ·unfold swp;simp only[(A _).1,(A _).2.1,(B _).1,(A _).2.2,(B _).2.2,oa]
    rw[if_neg (by simp;omega),if_neg (by simp)]
    simp only[Z9,(A _).2.2];simp;omega
   ·unfold swp;simp only[(A _).1,(A _).2.1,(B _).1,(A _).2.2,(B _).2.2,oa]
    rw[if_neg (by simp;omega),if_neg (by simp)]
    simp only[(B _).2.2]
  ·refine key (b.no - 1) a.no ?_ ?_ ?_ ?_
   ·unfold swp;rw[pb,ob,pa,if_neg (by simp),if_neg (by simp;omega),N5];rfl
   ·unfold nhd;rw[(A _).1,(B _).1,(A _).2.2,(B _).2.2,if_neg (by simp)];simp;omega
   ·unfold swp;simp only[(A _).1,(A _).2.1,(B _).1,(A _).2.2,(B _).2.2,oa]
    rw[if_pos (by simp;omega)]
    simp only[(A _).2.2]
   ·unfold swp;simp only[(A _).1,(A _).2.1,(B _).1,(A _).2.2,(B _).2.2,oa]
    rw[if_pos (by simp;omega)]
    simp only[Z9,(B _).2.2];omega
 ·
  by_cases h:b.no<=a.no
  ·refine key b.no (a.no+1) ?_ ?_ ?_ ?_
   ·unfold swp;rw[pb,if_pos ⟨rfl,h⟩,N5]
   ·unfold nhd;rw[(A _).1,(B _).1,if_pos rfl]
   ·unfold swp;simp only[(A _).1,(A _).2.1,(B _).1,(A _).2.2,(B _).2.2,oa]
    rw[if_neg (by simp;omega),if_neg (by simp)]
    simp only[Z9,(A _).2.2];simp
   ·unfold swp;simp only[(A _).1,(A _).2.1,(B _).1,(A _).2.2,(B _).2.2,oa]
    rw[if_neg (by simp;omega),if_neg (by simp)]
    simp only[(B _).2.2]
  ·refine key (b.no - 1) a.no ?_ ?_ ?_ ?_
   ·unfold swp;rw[pb,ob,pa,if_neg (by simp;omega),if_neg (by simp),N5];rfl
   ·unfold nhd;rw[(A _).1,(B _).1,if_pos rfl]
   ·unfold swp;simp only[(A _).1,(A _).2.1,(B _).1,(A _).2.2,(B _).2.2,oa]
    rw[if_pos (by simp;omega)]
    simp only[(A _).2.2]
   ·unfold swp;simp only[(A _).1,(A _).2.1,(B _).1,(A _).2.2,(B _).2.2,oa]
    rw[if_pos (by simp;omega)]
    simp only[Z9,(B _).2.2];omega
theorem aD9{a b c e:De}(h:exc a b=some (c,e)):exc c e=some (a,b)/\∃j k,c=b.wn j/\e=a.wn k:=by
 unfold exc hld at h
 cases ht:tch a b with
 | true=>rw[ht,Bool.true_or,if_pos rfl]at h;cases h
 | false =>
  rw[ht,Bool.false_or]at h
  cases ho:R6 a b with
  | false =>
   rw[ho,if_neg (show ¬(false=true) by decide),if_neg (show ¬(false=true) by decide)]at h
   cases hs:same (.tuple a.bg) (.tuple b.bg) with
   | true=>rw[hs,if_pos rfl]at h;cases h
   | false =>
    rw[hs,if_neg (by decide)]at h
    cases h
    refine⟨?_,b.no,a.no,(N5 b).symm,(N5 a).symm⟩
    unfold exc hld
    rw[aA9,ht,as0,ho,ar5,Bool.false_or,if_neg (show ¬(false=true) by decide),hs,if_neg (by decide),if_neg (by decide)]
  | true =>
   rw[ho,if_pos rfl,if_pos rfl]at h
   cases hn:nhd a b with
   | true=>rw[hn,if_pos rfl]at h;cases h
   | false =>
    rw[hn,if_neg (by decide)]at h
    have hv:=ho
    unfold R6 at hv
    simp only[Bool.and_eq_true,Bool.not_eq_true']at hv
    obtain⟨s1,s2,j,k,s3⟩:=bd5 hv.1 hv.2.1 hn
    injection h with h
    rw[h]at s1 s2 s3
    injection s3 with s3 s4
    refine⟨?_,j,k,s3,s4⟩
    have t:=bI7 b a j k
    rw[← s3,← s4]at t
    unfold exc hld
    rw[t.1,t.2,aA9,as0,ht,ho,Bool.false_or,if_pos rfl,if_pos rfl]
    rw[show nhd c e=false from s1,if_neg (by decide),show swp c e=(a,b) from s2]
end Sh
namespace Lk81
open PySem PySem.Spec PyProof.Rows L2 G Sh
def top(i:Nat):Stmt:=PySem.Challenge.pw_glazework_k81_exchanged.main.body.getD i (.Pass ⟨0,0,0,0⟩)
def ac1:DS:=(B2 0 (B1 (A0 (B1 (A0 ⇑1 (A0 ⇑1 A2))) (A0 (B1 (A0 ⇑1 (A0 ⇑1 A2))) (A0 (B1 (A0 ⇑0 (A0 ⇑1 A2))) (A0 (B1 (A0 ⇑0 (A0 ⇑1 A2))) A2))))))
def ac0:DS:=(B2 1 (B1 (A0 (B1 (A0 ⇑1 (A0 ⇑1 A2))) (A0 (B1 (A0 ⇑0 (A0 ⇑1 A2))) (A0 (B1 (A0 ⇑1 (A0 ⇑1 A2))) (A0 (B1 (A0 ⇑0 (A0 ⇑1 A2))) A2))))))
def U1:DS:=(Z4 2 (B6 3 [0,1] (E7 (B1 (A0 (B1 (A0 (dC (.str "a")) (A0 ⇑0 (A0 ⇑0 A2)))) (A0 (B1 (A0 (dC (.str "a")) (A0 ⇑1 (A0 ⇑0 A2)))) (A0 (B1 (A0 (dC (.str "a")) (A0 ⇑0 (A0 ⇑1 A2)))) (A0 (B1 (A0 (dC (.str "b")) (A0 ⇑0 (A0 ⇑0 A2)))) A2)))))) (M9 3 (C0 (B3 0) (C0 (B3 1) (C0 (B3 2) O5)))) E9 (B1 (A0 (dC (.str "spot")) (A0 (A1 0) (A0 (A1 1) (A0 (A1 2) (A0 (A1 3) (A0 (A1 4) A2)))))))))
def U0:DS:=(B2 2 (A4 A9 (A1 2) (D6 (A0 (B1 (A0 (dC (.str "shown")) (A0 (dC (.str "a")) (A0 (dC (.bool true)) (A0 (dC (.bool false)) A2))))) (A0 (B1 (A0 (dC (.str "shown")) (A0 (dC (.str "b")) (A0 (dC (.bool true)) (A0 (dC (.bool false)) A2))))) (A0 (B1 (A0 (dC (.str "strength")) (A0 (dC (.str "a")) (A0 (B1 (A0 ⇑1 (A0 ⇑1 A2))) (A0 (B1 (A0 ⇑1 (A0 ⇑2 A2))) A2))))) A2))))))
def T9:DS:=(S2 (E7 (A1 2)) (B3 3) (sIf (tB2 neD (D6 (B6 1 [3] (E7 (A1 2)) (B3 0) (tB2 neD (A3 F0 (A0 (A1 1) (A0 (A1 0) A2))) (A3 K5 (A0 (A1 1) (A0 (A1 0) A2)))) (A1 0))) (D6 A2)) (B0 (dC (.bool false))) C5))
def ab9:DS:=(B0 (dC (.bool true)))
def T1:DS:=(A8 ac1 (A8 ac0 (A8 U1 (A8 U0 (A8 T9 ab9)))))
def T3:List D->Option D:=D1 T1 4
def ab4:DS:=(A8 (B2 1 (A3 u9 (A0 (A1 0) (A0 ⇑0 (A0 ⇑14 A2))))) (A8 (B2 2 (A3 U8 (A0 (A1 0) (A0 ⇑50 (A0 ⇑4 (A0 (E4 (A1 1) C4 (B5 ⇑6)) A2)))))) (A8 (S2 (G3 (an8 ⇑1 (an7 ⇑4 (L9 (A7 0))))) (B3 3) (A8 (B2 4 (A3 R1 (A0 (A1 0) (A0 (A4 A9 ⇑800 (A4 C6 ⇑420 (A1 3))) (A0 (A1 2) (A0 (dIx (A7 1) (A4 A9 ⇑6 (A4 C6 ⇑2 (A1 3)))) A2)))))) (A8 (B2 5 (A3 W5 (A0 (A1 2) (A0 (A1 4) A2)))) (A8 (B2 6 (A3 R1 (A0 (A1 0) (A0 (A4 A9 ⇑1010 (A4 C6 ⇑420 (A1 3))) (A0 (dOr (A1 5) (A1 2)) (A0 (dIx (A7 1) (A4 A9 ⇑7 (A4 C6 ⇑2 (A1 3)))) A2)))))) (A8 (sIf (tB2 eqD (A3 A5 (A0 (A1 0) (A0 (A4 A9 ⇑45 (A1 3)) (A0 ⇑2 A2)))) ⇑0) (A8 (B2 7 (D6 (A0 (dC (.str "put")) (A0 (dC (.str "out")) A2)))) (A8 (B2 8 (B1 (A0 (dC (.str "tone")) (A0 (dIx (A7 1) (A4 A9 ⇑6 (A4 C6 ⇑2 (A1 3)))) (A0 (dC (.str "turn")) (A0 (B1 (A0 ⇑1 (A0 ⇑2 A2))) (A0 (dC (.bool true)) A2))))))) (A8 (B2 4 (B1 (A0 (dIx (A7 7) (A3 A5 (A0 (A1 0) (A0 (A4 A9 ⇑800 (A4 C6 ⇑420 (A1 3))) (A0 ⇑2 A2))))) (A0 (dC (.str "")) (A0 (A3 A5 (A0 (A1 0) (A0 (A4 A9 ⇑801 (A4 C6 ⇑420 (A1 3))) (A0 ⇑6 A2)))) (A0 (A1 8) A2)))))) (A8 (B2 8 (B1 (A0 (dC (.str "tone")) (A0 (dIx (A7 1) (A4 A9 ⇑7 (A4 C6 ⇑2 (A1 3)))) (A0 (dC (.str "grey")) (A0 (B1 (A0 ⇑1 (A0 ⇑2 A2))) (A0 (dC (.bool true)) A2))))))) (B2 6 (B1 (A0 (dIx (A7 7) (A3 A5 (A0 (A1 0) (A0 (A4 A9 ⇑802 (A4 C6 ⇑420 (A1 3))) (A0 ⇑2 A2))))) (A0 (dC (.str "")) (A0 (A3 A5 (A0 (A1 0) (A0 (A4 A9 ⇑803 (A4 C6 ⇑420 (A1 3))) (A0 ⇑6 A2)))) (A0 (A1 8) A2)))))))))) C5) (A8 (B2 9 (A3 K5 (A0 (A1 4) (A0 (A1 6) A2)))) (A8 (sIf (tB2 neD (A3 F0 (A0 (A1 4) (A0 (A1 6) A2))) (A1 9)) (B0 (dC (.bool false))) C5) (A8 (sIf (F9 (tB2 am0 (A1 9) (dC .none)) (tB2 neD (A3 F0 (A0 (dIx (A7 9) ⇑0) (A0 (dIx (A7 9) ⇑1) A2))) (B1 (A0 (A1 4) (A0 (A1 6) A2))))) (B0 (dC (.bool false))) C5) (B2 2 (dOr (A1 5) (A1 2))))))))))) (B0 (dC (.bool true))))))
def Y4:List D->Option D:=D1 ab4 10
def bq4:DS:=(B0 (P8 (A3 T3 A2) (A3 Y4 (A0 (A1 0) A2))))
def aT4:List D->Option D:=D1 bq4 1
end Lk81
namespace Lk81
open PySem G L2 Sh
theorem bE8{n:Nat}{e:De}(h:Ly n e.d) (k:Nat):Ly n (e.wn k).d:=by
 cases e with
 | put pa j x=>rw[De.wn,De.d]at *;exact h
 | out pa j x=>rw[De.wn,De.d]at *;exact h
 | _=>exact h
theorem bi4{n:Nat}{a b:De}(ha:Ly n a.d) (hb:Ly n b.d):Ly (n+1) (.tuple [a.d,b.d]):=Ly.tup fun x hx=>by
 simp only[List.mem_cons,List.not_mem_nil,or_false]at hx
 rcases hx with rfl|rfl
 ·exact ha
 ·exact hb
theorem bO2{a b:De}(ha:Ly 30 a.d) (hb:Ly 30 b.d):Ly 31 (aa1 (exc a b)):=by
 cases h:exc a b with
 | none=>exact⟨rfl,Nat.zero_le _⟩
 | some z =>
  obtain⟨c,e⟩:=z
  obtain⟨_,j,k,rfl,rfl⟩:=aD9 h
  exact bi4 (bE8 hb j) (bE8 ha k)
theorem both{a b:De}(da:Dx a) (db:Dx b) (ha:Ly 30 a.d) (hb:Ly 30 b.d):neD (aa1 (exc a b)) (aa1 (exc a b))=some (.bool false):=ax4 (bO2 ha hb) (by decide)
theorem bV6{ρ:Rho}{i:Nat}{F:DE}{X Y:List D}(h1:A1 i ρ=some (.list X)) (h2:F ρ=some (.list Y)) (hl:X.length+Y.length<=16777216):B2 i (A4 A9 (A1 i) F) ρ=some (.nx (ρ.set i (‹.list (X++Y)›))):=by
 unfold B2 A4
 rw[h1,h2,xbs,xbs,ak3 hl];rfl
def qA:Q4:=⟨1,1,0,0⟩
def qB:Q4:=⟨1,0,1,0⟩
def L7:List De:=[.spt (.str "a") 0 0 qA qB,.spt (.str "a") 1 0 qA qB,.spt (.str "a") 0 1 qA qB,.spt (.str "b") 0 0 qA qB]++[.shw (.str "a") true false,.shw (.str "b") true false,.str (.str "a") 1 v6]
theorem bG9:∀e∈L7,Dx e/\Ly 30 e.d:=by
 have sa:w4 (.str "a"):=⟨"a", rfl,by decide +kernel⟩
 have sb:w4 (.str "b"):=⟨"b", rfl,by decide +kernel⟩
 have key:∀e:De,e.isV=true->w4 e.nm->Ly 30 e.d->Dx e/\Ly 30 e.d:=fun e hv hn hl=>⟨⟨hn,fun pa k x z=>by rcases z with z|z<;>(rw[z]at hv;cases hv)⟩,hl⟩
 intro e he
 unfold L7 at he
 simp only[xca,xna,List.mem_cons,List.not_mem_nil,or_false]at he
 have tl:∀(xs:List D),(∀x∈xs,Ly 29 x)->Ly 30 (.tuple xs):=fun xs h=>Ly.tup h
 have ws:∀w:Str,PyData.canLay0 (.str w)=true->Ly 29 (.str w):=fun w h=>⟨h,Nat.zero_le _⟩
 have sp:∀(nm:D) (x y:Nat),w4 nm->Ly 30 (De.spt nm x y qA qB).d:=fun nm x y h=>by
  rw[De.d]
  refine tl _ fun z hz=>?_
  simp only[List.mem_cons,List.not_mem_nil,or_false]at hz
  obtain⟨s,rfl,hs⟩:=h
  rcases hz with rfl|rfl|rfl|rfl|rfl|rfl
  ·exact ws _ (by decide +kernel)
  ·exact ws _ hs
  ·exact Ly.int _ _
  ·exact Ly.int _ _
  ·exact Ly.q4 qA 27
  ·exact Ly.q4 qB 27
 have sw:∀nm:D,w4 nm->Ly 30 (De.shw nm true false).d:=fun nm h=>by
  rw[De.d]
  refine tl _ fun z hz=>?_
  simp only[List.mem_cons,List.not_mem_nil,or_false]at hz
  obtain⟨s,rfl,hs⟩:=h
  rcases hz with rfl|rfl|rfl|rfl
  ·exact ws _ (by decide +kernel)
  ·exact ws _ hs
  ·exact⟨rfl,Nat.zero_le _⟩
  ·exact⟨rfl,Nat.zero_le _⟩
 rcases he with rfl|rfl|rfl|rfl|rfl|rfl|rfl
 ·exact key _ rfl sa (sp _ _ _ sa)
 ·exact key _ rfl sa (sp _ _ _ sa)
 ·exact key _ rfl sa (sp _ _ _ sa)
 ·exact key _ rfl sb (sp _ _ _ sb)
 ·exact key _ rfl sa (sw _ sa)
 ·exact key _ rfl sb (sw _ sb)
 ·refine key _ rfl sa ?_
  rw[De.d,aj9]
  exact⟨by decide +kernel,by decide +kernel⟩
def kb:DS:=(sIf (tB2 neD (D6 (B6 1 [3] (E7 (A1 2)) (B3 0) (tB2 neD (A3 F0 (A0 (A1 1) (A0 (A1 0) A2))) (A3 K5 (A0 (A1 1) (A0 (A1 0) A2)))) (A1 0))) (D6 A2)) (B0 (dC (.bool false))) C5)
theorem cd9{e:De}(he:e∈L7) (a0 a1:Option B):kb [a0,a1,‹.list (L7.map De.d)›,‹e.d›]=some (.nx [a0,a1,‹.list (L7.map De.d)›,‹e.d›]):=by
 obtain⟨de,le⟩:=bG9 e he
 have cp:B6 1 [3] (E7 (A1 2)) (B3 0) (tB2 neD (A3 F0 (A0 (A1 1) (A0 (A1 0) A2))) (A3 K5 (A0 (A1 1) (A0 (A1 0) A2)))) (A1 0) [a0,a1,‹.list (L7.map De.d)›,‹e.d›]=some ((L7.filter fun _=>false).map De.d):=by
  refine ax6 (l:=L7) (h:=De.d) (p:=fun _=>false) (r:=[‹e.d›]) rfl rfl (by unfold L7;simp) (fun x hx=>?_) fun x hx=>rfl
  obtain⟨dx,lx⟩:=bG9 x hx
  have e1:=aK0 de dx
  have e2:=bF0 de dx
  exact J3 (x:=aa1 (exc e x)) (y:=aa1 (exc e x)) (by wp_walk using evD,e1) (by wp_walk using evD,e2) (both de dx le lx)
 have f0:(L7.filter fun _=>false)=[]:=by rw[List.filter_eq_nil_iff];simp
 rw[f0]at cp
 exact(B8 (J3 (am4 cp) (am4 rfl) (by kernel_rfl))).trans rfl
theorem aQ4(a0 a1:Option B):∀(K:List De),(∀e∈K,e∈L7)->∀a3,∃b3,Z7 (B3 3) kb (K.map De.d) [a0,a1,‹.list (L7.map De.d)›,a3]=some (.nx [a0,a1,‹.list (L7.map De.d)›,b3])
 | [],_,a3=>⟨a3,by simp[Z7]⟩
 | e::K,hK,a3=>by
  obtain⟨b3,r⟩:=aQ4 a0 a1 K (fun x hx=>hK x (xmm _ hx)) (‹e.d›)
  refine⟨b3,?_⟩
  rw[xmc,Z7]
  have g1:B3 3 e.d [a0,a1,‹.list (L7.map De.d)›,a3]=some [a0,a1,‹.list (L7.map De.d)›,‹e.d›]:=rfl
  show(B3 3 e.d _).bind _=_
  rw[g1,xbs,cd9 (hK e List.mem_cons_self)]
  simp only[xbs]
  rw[r]
theorem bi7:T3 []=some (.bool true):=by
 refine C2 (g:=T1) (ρ:=[none,none,none,none]) rfl ?_
 unfold T1
 rw[A6 (ρ':=[‹qA.d›,none,none,none]) rfl,A6 (ρ':=[‹qA.d›,‹qB.d›,none,none]) rfl]
 have m4:([.spt (.str "a") 0 0 qA qB,.spt (.str "a") 1 0 qA qB,.spt (.str "a") 0 1 qA qB,.spt (.str "b") 0 0 qA qB]:List De).map De.d=[.tuple [.str "spot", .str "a", .int 0,.int 0,qA.d,qB.d],.tuple [.str "spot", .str "a", .int 1,.int 0,qA.d,qB.d],.tuple [.str "spot", .str "a", .int 0,.int 1,qA.d,qB.d],.tuple [.str "spot", .str "b", .int 0,.int 0,qA.d,qB.d]]:=by simp only[xmc,xmn,De.d];rfl
 have m3:([.shw (.str "a") true false,.shw (.str "b") true false,.str (.str "a") 1 v6]:List De).map De.d=[.tuple [.str "shown", .str "a", .bool true,.bool false],.tuple [.str "shown", .str "b", .bool true,.bool false],.tuple [.str "strength", .str "a", .tuple [.int 1,.int 1],.tuple [.int 1,.int 2]]]:=by simp only[xmc,xmn,De.d,aj9];rfl
 have s2:U1 [‹qA.d›,‹qB.d›,none,none]=some (.nx [‹qA.d›,‹qB.d›,‹.list ([.tuple [.str "spot", .str "a", .int 0,.int 0,qA.d,qB.d],.tuple [.str "spot", .str "a", .int 1,.int 0,qA.d,qB.d],.tuple [.str "spot", .str "a", .int 0,.int 1,qA.d,qB.d],.tuple [.str "spot", .str "b", .int 0,.int 0,qA.d,qB.d]])›,none]):=by kernel_rfl
 rw[← m4]at s2
 rw[A6 s2]
 have s3:U0 [‹qA.d›,‹qB.d›,‹.list (([.spt (.str "a") 0 0 qA qB,.spt (.str "a") 1 0 qA qB,.spt (.str "a") 0 1 qA qB,.spt (.str "b") 0 0 qA qB]:List De).map De.d)›,none]=some (.nx [‹qA.d›,‹qB.d›,‹.list (L7.map De.d)›,none]):=by
  have:=bV6 (i:=2) (X:=([.spt (.str "a") 0 0 qA qB,.spt (.str "a") 1 0 qA qB,.spt (.str "a") 0 1 qA qB,.spt (.str "b") 0 0 qA qB]:List De).map De.d) (Y:=([.shw (.str "a") true false,.shw (.str "b") true false,.str (.str "a") 1 v6]:List De).map De.d) (ρ:=[‹qA.d›,‹qB.d›,‹.list (([.spt (.str "a") 0 0 qA qB,.spt (.str "a") 1 0 qA qB,.spt (.str "a") 0 1 qA qB,.spt (.str "b") 0 0 qA qB]:List De).map De.d)›,none]) rfl (F:=D6 (A0 (B1 (A0 (dC (.str "shown")) (A0 (dC (.str "a")) (A0 (dC (.bool true)) (A0 (dC (.bool false)) A2))))) (A0 (B1 (A0 (dC (.str "shown")) (A0 (dC (.str "b")) (A0 (dC (.bool true)) (A0 (dC (.bool false)) A2))))) (A0 (B1 (A0 (dC (.str "strength")) (A0 (dC (.str "a")) (A0 (B1 (A0 ⇑1 (A0 ⇑1 A2))) (A0 (B1 (A0 ⇑1 (A0 ⇑2 A2))) A2))))) A2)))) (by rw[m3];rfl) (by simp)
  rw[← List.map_append]at this
  exact this
 rw[A6 s3]
 obtain⟨b3,lp⟩:=aQ4 (‹qA.d›) (‹qB.d›) L7 (fun _ h=>h) none
 have s4:T9 [‹qA.d›,‹qB.d›,‹.list (L7.map De.d)›,none]=some (.nx [‹qA.d›,‹qB.d›,‹.list (L7.map De.d)›,b3]):=by
  show(S2 (E7 (A1 2)) (B3 3) kb) _=_
  unfold S2
  have src:(E7 (A1 2)) [‹qA.d›,‹qB.d›,‹.list (L7.map De.d)›,none]=some (L7.map De.d):=rfl
  rw[src,xbs]
  exact lp
 rw[A6 s4]
 rfl
def lb0:DS:=(B2 4 (A3 R1 (A0 (A1 0) (A0 (A4 A9 ⇑800 (A4 C6 ⇑420 (A1 3))) (A0 (A1 2) (A0 (dIx (A7 1) (A4 A9 ⇑6 (A4 C6 ⇑2 (A1 3)))) A2))))))
def lb1:DS:=(B2 5 (A3 W5 (A0 (A1 2) (A0 (A1 4) A2))))
def lb2:DS:=(B2 6 (A3 R1 (A0 (A1 0) (A0 (A4 A9 ⇑1010 (A4 C6 ⇑420 (A1 3))) (A0 (dOr (A1 5) (A1 2)) (A0 (dIx (A7 1) (A4 A9 ⇑7 (A4 C6 ⇑2 (A1 3)))) A2))))))
def lc0:DS:=(B2 7 (D6 (A0 (dC (.str "put")) (A0 (dC (.str "out")) A2))))
def lc1:DS:=(B2 8 (B1 (A0 (dC (.str "tone")) (A0 (dIx (A7 1) (A4 A9 ⇑6 (A4 C6 ⇑2 (A1 3)))) (A0 (dC (.str "turn")) (A0 (B1 (A0 ⇑1 (A0 ⇑2 A2))) (A0 (dC (.bool true)) A2)))))))
def lc2:DS:=(B2 4 (B1 (A0 (dIx (A7 7) (A3 A5 (A0 (A1 0) (A0 (A4 A9 ⇑800 (A4 C6 ⇑420 (A1 3))) (A0 ⇑2 A2))))) (A0 (dC (.str "")) (A0 (A3 A5 (A0 (A1 0) (A0 (A4 A9 ⇑801 (A4 C6 ⇑420 (A1 3))) (A0 ⇑6 A2)))) (A0 (A1 8) A2))))))
def lc3:DS:=(B2 8 (B1 (A0 (dC (.str "tone")) (A0 (dIx (A7 1) (A4 A9 ⇑7 (A4 C6 ⇑2 (A1 3)))) (A0 (dC (.str "grey")) (A0 (B1 (A0 ⇑1 (A0 ⇑2 A2))) (A0 (dC (.bool true)) A2)))))))
def lc4:DS:=(B2 6 (B1 (A0 (dIx (A7 7) (A3 A5 (A0 (A1 0) (A0 (A4 A9 ⇑802 (A4 C6 ⇑420 (A1 3))) (A0 ⇑2 A2))))) (A0 (dC (.str "")) (A0 (A3 A5 (A0 (A1 0) (A0 (A4 A9 ⇑803 (A4 C6 ⇑420 (A1 3))) (A0 ⇑6 A2)))) (A0 (A1 8) A2))))))
def lb3:DS:=(sIf (tB2 eqD (A3 A5 (A0 (A1 0) (A0 (A4 A9 ⇑45 (A1 3)) (A0 ⇑2 A2)))) ⇑0) (A8 lc0 (A8 lc1 (A8 lc2 (A8 lc3 lc4)))) C5)
def lb4:DS:=(B2 9 (A3 K5 (A0 (A1 4) (A0 (A1 6) A2))))
def lb5:DS:=(sIf (tB2 neD (A3 F0 (A0 (A1 4) (A0 (A1 6) A2))) (A1 9)) (B0 (dC (.bool false))) C5)
def lb6:DS:=(sIf (F9 (tB2 am0 (A1 9) (dC .none)) (tB2 neD (A3 F0 (A0 (dIx (A7 9) ⇑0) (A0 (dIx (A7 9) ⇑1) A2))) (B1 (A0 (A1 4) (A0 (A1 6) A2))))) (B0 (dC (.bool false))) C5)
def lb7:DS:=(B2 2 (dOr (A1 5) (A1 2)))
def lb:DS:=(A8 lb0 (A8 lb1 (A8 lb2 (A8 lb3 (A8 lb4 (A8 lb5 (A8 lb6 lb7)))))))
theorem mA{k:Nat}(hk:k < 4):C6 (.int 420) (.int (k:Int))=some (.int (420*(k:Int))):=by rcases k with _|_|_|_|k<;>first|rfl|omega
theorem mB{k:Nat}(hk:k < 4):C6 (.int 2) (.int (k:Int))=some (.int (2*(k:Int))):=by rcases k with _|_|_|_|k<;>first|rfl|omega
theorem bA8{nm:Str}(h:Nm (.str nm)) (r:Rul) (p:Nat):(Dg (.put (.str "") p (.tone (.str nm) r v6 true)))/\(Dg (.out (.str "") p (.tone (.str nm) r v6 true))):=by
 have n1:(Nd.tone (.str nm) r v6 true).nms=[.str nm]:=by rw[Nd.nms]
 have dp:(Nd.tone (.str nm) r v6 true).dp=0:=by rw[Nd.dp]
 have de:∀e:De,e.isV=false->e.nm=.str "" -> (∀pa k x,e=.put pa k x\/e=.out pa k x->x=.tone (.str nm) r v6 true)->e.sz->Dee e/\(∀pa k x,e=.put pa k x\/e=.out pa k x->(∀d∈x.nms,Nm d)/\x.nms.length<=100):=fun e hv hn hx hz=>by
  have k1:∀d∈(Nd.tone (.str nm) r v6 true).nms,Nm d:=fun d hd=>by
   rw[n1,List.mem_singleton]at hd
   rw[hd];exact h
  refine⟨⟨.inr ⟨hv,hn⟩,hz,fun pa k x z=>?_⟩,fun pa k x z=>?_⟩
  ·rw[hx pa k x z,dp,n1]
   exact⟨fun d hd=>by rw[List.mem_singleton]at hd;rw[hd];exact Q3 h,by decide,by simp⟩
  ·rw[hx pa k x z]
   exact⟨k1,by rw[n1];simp⟩
 obtain⟨d1,d2⟩:=de (.put (.str "") p (.tone (.str nm) r v6 true)) rfl rfl (fun pa k x z=>by rcases z with z|z<;>cases z;rfl) trivial
 obtain⟨d3,d4⟩:=de (.out (.str "") p (.tone (.str nm) r v6 true)) rfl rfl (fun pa k x z=>by rcases z with z|z<;>cases z;rfl) trivial
 refine⟨⟨d1,⟨?_,?_,?_⟩,d2⟩,⟨d3,trivial,d4⟩⟩
 ·rw[Nd.Ok];exact aR0
 ·rw[Nd.near];trivial
 ·rw[n1];simp
theorem bd2(nm:Str) (r:Rul):(Nd.tone (.str nm) r v6 true).d=.tuple [.str "tone", .str nm,.str r.s,.tuple [.int 1,.int 2],.bool true]:=by rw[Nd.d,aj9]
theorem aN1{d:Nat}(hd:d < 2) {nm:Str}(h:Nm (.str nm)) (r:Rul) (p:Nat):∃(w:Str) (e:De),atI ([.str "put", .str "out"]:List D) (d:Int)=some (.str w)/\e.d=.tuple [.str w,.str "", .int p,.tuple [.str "tone", .str nm,.str r.s,.tuple [.int 1,.int 2],.bool true]]/\Dg e:=by
 obtain⟨g1,g2⟩:=bA8 h r p
 rcases d with _|_|d
 ·exact⟨"put", _,rfl,by rw[De.d,bd2],g1⟩
 ·exact⟨"out", _,rfl,by rw[De.d,bd2],g2⟩
 ·omega
abbrev r10(ns:List Int) (N:List D) (w h:Nat) (l:List Nd) (k:Nat) (a4 a5 a6 a7 a8 a9:Option B):Rho:=[‹scr ns›,‹.list N›,‹P4 w h l›,‹.int k›,a4,a5,a6,a7,a8,a9]
theorem bE6(w h:Nat) (l:List Nd) (o:Option (List Nd)) {ρ:Rho}(h5:A1 5 ρ=some (X6 w h o)) (h2:A1 2 ρ=some (P4 w h l)):dOr (A1 5) (A1 2) ρ=some (P4 w h (o.getD l)):=by
 unfold dOr
 rw[h5]
 cases o with
 | none=>exact h2
 | some l'=>rfl
theorem ca3(ns:List Int) (hn:ns.length<=63) {N:List D}(NV:∀j,j < 14->∃nm:Str,N[j]? = some (.str nm)/\Nm (.str nm)/\nm.length<=5) (w h:Nat) (l:List Nd) {k:Nat}(hk:k < 4) {a b:De}(da:Dg a) (db:Dg b) (a5 a7 a8 a9:Option B):∃(a' b':De) (b7 b8:Option B),lb3 (r10 ns N w h l k (‹a.d›) a5 (‹b.d›) a7 a8 a9)=some (.nx (r10 ns N w h l k (‹a'.d›) a5 (‹b'.d›) b7 b8 a9))/\Dg a'/\Dg b':=by
 obtain⟨c,ec,lc⟩:=B7 ns hn (e:=45+(k:Int)) (m':=2) (45+k) 2 (by omega) rfl (by omega) (by decide)
 have t:(tB2 eqD (A3 A5 (A0 (A1 0) (A0 (A4 A9 ⇑45 (A1 3)) (A0 ⇑2 A2)))) ⇑0) (r10 ns N w h l k (‹a.d›) a5 (‹b.d›) a7 a8 a9)=some ((c:Int)==0):=by wp_walk using evD,r10,ec
 cases q:((c:Int)==0) with
 | false=>rw[q]at t;exact⟨a,b,a7,a8,(B8 t).trans rfl,da,db⟩
 | true =>
  rw[q]at t
  obtain⟨nm,e6,h6,_⟩:=NV (6+2*k) (by omega)
  obtain⟨nm',e7,h7,_⟩:=NV (7+2*k) (by omega)
  have i6:atI N (6+2*(k:Int))=some (.str nm):=by
   have:=J1 (j:=6+2*k) e6
   rwa [show((6+2*k:Nat):Int)=6+2*(k:Int) by omega]at this
  have i7:atI N (7+2*(k:Int))=some (.str nm'):=by
   have:=J1 (j:=7+2*k) e7
   rwa [show((7+2*k:Nat):Int)=7+2*(k:Int) by omega]at this
  obtain⟨d0,ed0,ld0⟩:=B7 ns hn (e:=800+420*(k:Int)) (m':=2) (800+420*k) 2 (by omega) rfl (by omega) (by decide)
  obtain⟨d1,ed1,ld1⟩:=B7 ns hn (e:=801+420*(k:Int)) (m':=6) (801+420*k) 6 (by omega) rfl (by omega) (by decide)
  obtain⟨d2,ed2,ld2⟩:=B7 ns hn (e:=802+420*(k:Int)) (m':=2) (802+420*k) 2 (by omega) rfl (by omega) (by decide)
  obtain⟨d3,ed3,ld3⟩:=B7 ns hn (e:=803+420*(k:Int)) (m':=6) (803+420*k) 6 (by omega) rfl (by omega) (by decide)
  obtain⟨w1,A,p1,p2,p3⟩:=aN1 ld0 h6 .turn d1
  obtain⟨w2,C,p4,p5,p6⟩:=aN1 ld2 h7 .grey d3
  have p2:A.d=.tuple [.str w1,.str "", .int d1,.tuple [.str "tone", .str nm,.str "turn", .tuple [.int 1,.int 2],.bool true]]:=p2
  have p5:C.d=.tuple [.str w2,.str "", .int d3,.tuple [.str "tone", .str nm',.str "grey", .tuple [.int 1,.int 2],.bool true]]:=p5
  refine⟨A,C,‹.list [.str "put", .str "out"]›,‹.tuple [.str "tone", .str nm',.str "grey", .tuple [.int 1,.int 2],.bool true]›,?_,p3,p6⟩
  refine(C9 t).trans ?_
  rw[A6 (ρ':=r10 ns N w h l k (‹a.d›) a5 (‹b.d›) (‹.list [.str "put", .str "out"]›) a8 a9) rfl]
  rw[A6 (ρ':=r10 ns N w h l k (‹a.d›) a5 (‹b.d›) (‹.list [.str "put", .str "out"]›) (‹.tuple [.str "tone", .str nm,.str "turn", .tuple [.int 1,.int 2],.bool true]›) a9) (by wp_walk using evD,lc1,r10,mB hk,mA hk,i6)]
  rw[A6 (ρ':=r10 ns N w h l k (‹A.d›) a5 (‹b.d›) (‹.list [.str "put", .str "out"]›) (‹.tuple [.str "tone", .str nm,.str "turn", .tuple [.int 1,.int 2],.bool true]›) a9) (by rw[p2];wp_walk using evD,lc2,r10,mA hk,mB hk,ed0,ed1,p1)]
  rw[A6 (ρ':=r10 ns N w h l k (‹A.d›) a5 (‹b.d›) (‹.list [.str "put", .str "out"]›) (‹.tuple [.str "tone", .str nm',.str "grey", .tuple [.int 1,.int 2],.bool true]›) a9) (by wp_walk using evD,lc3,r10,mA hk,mB hk,i7)]
  rw[p5];wp_walk using evD,lc4,r10,mA hk,mB hk,ed2,ed3,p4
theorem pn2{l:List Nd}{nm:Str}{e:De}(D:Dw l nm e):e.pn<=2:=by
 cases e with
 | put pa k x =>
  show x.nms.length<=2
  rcases(D.put pa k x rfl).1 with q|q<;>(rw[q];simp)
 | _=>show 0<=2;decide
theorem Gp.mono{N M:Nat}{l:List Nd}(g:Gp N l) (h:N<=M):Gp M l:=⟨g.ok,g.nr,g.dp,g.nm,g.nd,Nat.le_trans g.len h⟩
theorem cd7(ns:List Int) (hn:ns.length<=63) {N:List D}(NV:∀j,j < 14->∃nm:Str,N[j]? = some (.str nm)/\Nm (.str nm)/\nm.length<=5) (w h:Nat) {M:Nat}{l:List Nd}(g:Gp M l) (hM:M<=50) {k:Nat}(hk:k < 4) (a4 a5 a6 a7 a8 a9:Option B):∃(l':List Nd) (b4 b5 b6 b7 b8 b9:Option B),lb (r10 ns N w h l k a4 a5 a6 a7 a8 a9)=some (.nx (r10 ns N w h l' k b4 b5 b6 b7 b8 b9))/\Gp (M+2) l':=by
 obtain⟨nm,e6,h6,s6⟩:=NV (6+2*k) (by omega)
 obtain⟨nm',e7,h7,s7⟩:=NV (7+2*k) (by omega)
 have i6:atI N (6+2*(k:Int))=some (.str nm):=by
  have:=J1 (j:=6+2*k) e6
  rwa [show((6+2*k:Nat):Int)=6+2*(k:Int) by omega]at this
 have i7:atI N (7+2*(k:Int))=some (.str nm'):=by
  have:=J1 (j:=7+2*k) e7
  rwa [show((7+2*k:Nat):Int)=7+2*(k:Int) by omega]at this
 obtain⟨a,ea,Da⟩:=an3 g (by omega) ns hn (800+420*k) (by omega) w h h6 s6
 rw[show((800+420*k:Nat):Int)=800+420*(k:Int) by omega]at ea
 have ed:=bw5 (w:=w) (h:=h) g (by omega) Da.dg
 have g2:Gp (M+2) ((dn l a).getD l):=by
  cases q:dn l a with
  | none=>exact Gp.mono g (by omega)
  | some l'=>exact Gp.mono (cg7 g (by omega) Da.dg q) (by have:=pn2 Da;omega)
 obtain⟨b,eb,Db⟩:=an3 g2 (by omega) ns hn (1010+420*k) (by omega) w h h7 s7
 rw[show((1010+420*k:Nat):Int)=1010+420*(k:Int) by omega]at eb
 obtain⟨A,C,b7,b8,e3,DA,DC⟩:=ca3 ns hn NV w h l hk Da.dg Db.dg (‹X6 w h (dn l a)›) a7 a8 a9
 have x1:=aK0 DA.de.dx DC.de.dx
 have x2:=bF0 DA.de.dx DC.de.dx
 have lA:=bE9 DA
 have lC:=bE9 DC
 refine⟨(dn l a).getD l,‹A.d›,‹X6 w h (dn l a)›,‹C.d›,b7,b8,‹aa1 (exc A C)›,?_,g2⟩
 unfold lb
 rw[A6 (ρ':=r10 ns N w h l k (‹a.d›) a5 a6 a7 a8 a9) (by wp_walk using evD,lb0,r10,mB hk,mA hk,i6,ea)]
 rw[A6 (ρ':=r10 ns N w h l k (‹a.d›) (‹X6 w h (dn l a)›) a6 a7 a8 a9) (by wp_walk using evD,lb1,r10,ed)]
 have o1:=bE6 w h l (dn l a) (ρ:=r10 ns N w h l k (‹a.d›) (‹X6 w h (dn l a)›) a6 a7 a8 a9) rfl rfl
 have f2:(A3 R1 (A0 (A1 0) (A0 (A4 A9 ⇑1010 (A4 C6 ⇑420 (A1 3))) (A0 (dOr (A1 5) (A1 2)) (A0 (dIx (A7 1) (A4 A9 ⇑7 (A4 C6 ⇑2 (A1 3)))) A2))))) (r10 ns N w h l k (‹a.d›) (‹X6 w h (dn l a)›) a6 a7 a8 a9)=some b.d:=by
  have c1:(A4 A9 ⇑1010 (A4 C6 ⇑420 (A1 3))) (r10 ns N w h l k (‹a.d›) (‹X6 w h (dn l a)›) a6 a7 a8 a9)=some (.int (1010+420*(k:Int))):=by wp_walk using evD,r10,mA hk
  have c2:(dIx (A7 1) (A4 A9 ⇑7 (A4 C6 ⇑2 (A1 3)))) (r10 ns N w h l k (‹a.d›) (‹X6 w h (dn l a)›) a6 a7 a8 a9)=some (.str nm'):=by wp_walk using evD,r10,mB hk,i7
  have c0:(A1 0) (r10 ns N w h l k (‹a.d›) (‹X6 w h (dn l a)›) a6 a7 a8 a9)=some (scr ns):=rfl
  unfold A3 A0 A2
  rw[c0,c1,o1,c2]
  exact eb
 rw[A6 (ρ':=r10 ns N w h l k (‹a.d›) (‹X6 w h (dn l a)›) (‹b.d›) a7 a8 a9) (by unfold lb2 B2;rw[f2];rfl)]
 rw[A6 e3]
 rw[A6 (ρ':=r10 ns N w h l k (‹A.d›) (‹X6 w h (dn l a)›) (‹C.d›) b7 b8 (‹aa1 (exc A C)›)) (by wp_walk using evD,lb4,r10,x2)]
 have t5:=J3 (p:=neD) (f:=A3 F0 (A0 (A1 4) (A0 (A1 6) A2))) (g:=A1 9) (ρ:=r10 ns N w h l k (‹A.d›) (‹X6 w h (dn l a)›) (‹C.d›) b7 b8 (‹aa1 (exc A C)›)) (x:=aa1 (exc A C)) (y:=aa1 (exc A C)) (by wp_walk using evD,r10,x1) rfl (both DA.de.dx DC.de.dx lA lC)
 rw[A6 (f:=lb5) ((B8 t5).trans rfl)]
 have t6:(F9 (tB2 am0 (A1 9) (dC .none)) (tB2 neD (A3 F0 (A0 (dIx (A7 9) ⇑0) (A0 (dIx (A7 9) ⇑1) A2))) (B1 (A0 (A1 4) (A0 (A1 6) A2))))) (r10 ns N w h l k (‹A.d›) (‹X6 w h (dn l a)›) (‹C.d›) b7 b8 (‹aa1 (exc A C)›))=some false:=by
  cases q:exc A C with
  | none=>rfl
  | some z =>
   obtain⟨c,e⟩:=z
   obtain⟨bk,j,i,hc,he⟩:=aD9 q
   have y:=aK0 (a:=c) (b:=e) (by rw[hc];exact bD3 DC.de.dx j) (by rw[he];exact bD3 DA.de.dx i)
   rw[bk]at y
   have u:=J3 (p:=neD) (f:=A3 F0 (A0 (dIx (A7 9) ⇑0) (A0 (dIx (A7 9) ⇑1) A2))) (g:=B1 (A0 (A1 4) (A0 (A1 6) A2))) (ρ:=r10 ns N w h l k (‹A.d›) (‹X6 w h (dn l a)›) (‹C.d›) b7 b8 (‹aa1 (some (c,e))›)) (x:=.tuple [A.d,C.d]) (y:=.tuple [A.d,C.d]) y rfl (ax4 (bi4 lA lC) (by decide))
   unfold F9
   rw[u];rfl
 rw[A6 (f:=lb6) ((B8 t6).trans rfl)]
 have o2:=bE6 w h l (dn l a) (ρ:=r10 ns N w h l k (‹A.d›) (‹X6 w h (dn l a)›) (‹C.d›) b7 b8 (‹aa1 (exc A C)›)) rfl rfl
 unfold lb7 B2
 rw[o2];rfl
theorem aQ2(ns:List Int) (hn:ns.length<=63) {N:List D}(NV:∀j,j < 14->∃nm:Str,N[j]? = some (.str nm)/\Nm (.str nm)/\nm.length<=5) (w h:Nat):∀(K:List Nat) (M:Nat) (l:List Nd),(∀k∈K,k < 4)->Gp M l->M+2*K.length<=50->∀a3 a4 a5 a6 a7 a8 a9,∃ρ',Z7 (B3 3) lb (K.map fun k:Nat=>PyData.int k) [‹scr ns›,‹.list N›,‹P4 w h l›,a3,a4,a5,a6,a7,a8,a9]=some (.nx ρ')
 | [],M,l,_,_,_,a3,a4,a5,a6,a7,a8,a9=>⟨_,by simp[Z7];rfl⟩
 | k::K,M,l,hK,g,hl,a3,a4,a5,a6,a7,a8,a9=>by
  rw[List.length_cons]at hl
  obtain⟨l',b4,b5,b6,b7,b8,b9,e,g'⟩:=cd7 ns hn NV w h g (by omega) (hK k List.mem_cons_self) a4 a5 a6 a7 a8 a9
  obtain⟨ρ',r⟩:=aQ2 ns hn NV w h K (M+2) l' (fun x hx=>hK x (xmm _ hx)) g' (by omega) (‹.int k›) b4 b5 b6 b7 b8 b9
  refine⟨ρ',?_⟩
  rw[xmc,Z7]
  have g1:B3 3 (.int k) [‹scr ns›,‹.list N›,‹P4 w h l›,a3,a4,a5,a6,a7,a8,a9]=some (r10 ns N w h l k a4 a5 a6 a7 a8 a9):=rfl
  show(B3 3 (.int k) _).bind _=_
  rw[g1,xbs,e]
  simp only[xbs]
  exact r
theorem aU2(ns:List Int) (hn:ns.length<=63):Y4 [scr ns]=some (.bool true):=by
 obtain⟨N,eN,hN,b,hP⟩:=bh7 ns hn 0 14 (by decide) (by decide)
 have eN:u9 [scr ns,.int 0,.int 14]=some (.list N):=eN
 have cu:O9 N none (some 6)=N.take 6:=(aY8 (i:=6) (by omega)).1
 obtain⟨w,h,l,ep,hl,hw,hh⟩:=aI4 ns hn 50 4 (by decide) (by decide) (N.take 6) (by rw[List.length_take];omega)
 have ep:U8 [scr ns,.int 50,.int 4,.list (N.take 6)]=some (P4 w h l):=ep
 have nv:=bM8 (by decide) hP
 obtain⟨g,_⟩:=cf6 hl (b:=b) (fun j hj=>by
  obtain⟨y,e1,e2⟩:=nv j (by omega)
  exact⟨y,by rw[List.getElem?_take,if_pos hj];exact e1,e2⟩)
 have NV:∀j,j < 14->∃nm:Str,N[j]? = some (.str nm)/\Nm (.str nm)/\nm.length<=5:=fun j hj=>by
  obtain⟨y,e1,e2⟩:=nv j hj
  exact⟨_,e1,e2⟩
 refine C2 (g:=ab4) (ρ:=[‹scr ns›,none,none,none,none,none,none,none,none,none]) rfl ?_
 unfold ab4
 rw[A6 (ρ':=[‹scr ns›,‹.list N›,none,none,none,none,none,none,none,none]) (by wp_walk using evD,eN)]
 rw[A6 (ρ':=[‹scr ns›,‹.list N›,‹P4 w h l›,none,none,none,none,none,none,none]) (by wp_walk using evD,E4,cu,ep)]
 obtain⟨m,em,hm⟩:∃m:Nat,(an8 ⇑1 (an7 ⇑4 (L9 (A7 0)))) [‹scr ns›,‹.list N›,‹P4 w h l›,none,none,none,none,none,none,none]=some (.int m)/\m<=4:=by
  have e0:(L9 (A7 0)) [‹scr ns›,‹.list N›,‹P4 w h l›,none,none,none,none,none,none,none]=some (.int ((ns.map PyData.int).length:Nat)):=rfl
  rw[List.length_map]at e0
  refine⟨max 1 (min 4 ns.length),?_,by omega⟩
  unfold an8 an7
  rw[e0]
  show some (PyData.int (if(if(ns.length:Int) < 4 then(ns.length:Int) else 4) > 1 then(if(ns.length:Int) < 4 then(ns.length:Int) else 4) else 1))=_
  congr 2
  split<;>split<;>omega
 obtain⟨ρ',lp⟩:=aQ2 ns hn NV w h (List.range m) 6 l (fun k hk=>by have:=List.mem_range.mp hk;omega) g (by rw[List.length_range];omega) none none none none none none none
 have s2:(S2 (G3 (an8 ⇑1 (an7 ⇑4 (L9 (A7 0))))) (B3 3) lb) [‹scr ns›,‹.list N›,‹P4 w h l›,none,none,none,none,none,none,none]=some (.nx ρ'):=by
  unfold S2
  rw[X5 em (by omega),xbs]
  exact lp
 show(A8 (S2 (G3 (an8 ⇑1 (an7 ⇑4 (L9 (A7 0))))) (B3 3) lb) (B0 (dC (.bool true)))) _=_
 rw[A6 (ρ':=ρ') s2]
 rfl
theorem main:∀ns:List Int,ns.length<=63->aT4 [.list (ns.map PyData.int)]=some (.bool true):=by
 intro ns hn
 have e1:=bi7
 have e2:Y4 [.list (ns.map PyData.int)]=some (.bool true):=aU2 ns hn
 refine C2 (g:=bq4) (ρ:=[‹.list (ns.map PyData.int)›]) rfl ?_
 unfold bq4
 wp_walk using evD,e1,e2
end Lk81
namespace Lk81
open PySem PySem.Spec PyProof.Rows L2 G Sh
def zcs:List (Str×D):=[]
def zbl:List Str:=["abs", "any", "dict", "int", "len", "max", "min", "range", "tuple"]
def tb0:Tab:=[]
def aY4:Fd:=fdm "kind_of" (top 1) 1 ["node"]
def aK4:Fd:=fdm "is_group" (top 2) 1 ["node"]
def aX7:Fd:=fdm "name_of" (top 3) 1 ["node"]
def aq4:Fd:=fdm "inner_nodes" (top 4) 1 ["group"]
def aq3:Fd:={ fdm "names_among" (top 6) 1 ["nodes", "names", "node"] with own:=[1],fz:=[(17,[1])] }
def aX5:Fd:=fdm "word_of" (top 8) 1 ["deed"]
def aE4:Fd:=fdm "target_of" (top 9) 1 ["deed"]
def aE5:Fd:=fdm "number_of" (top 10) 1 ["deed"]
def aX6:Fd:=fdm "node_of" (top 11) 1 ["deed"]
def bo9:Fd:=fdm "is_put" (top 12) 1 ["deed"]
def bp0:Fd:=fdm "is_out" (top 13) 1 ["deed"]
def aj1:Fd:=fdm "is_put_or_out" (top 14) 1 ["deed"]
def aq2:Fd:=fdm "with_number" (top 15) 2 ["deed", "number"]
def aj0:Fd:=fdm "names_carried" (top 16) 1 ["deed"]
def ai9:Fd:=fdm "names_touched" (top 17) 1 ["deed"]
def P7:Fd:={ fdm "some_carried_name_is_touched" (top 18) 2 ["one", "other", "touched"] with hc:=[((41,15),[2])] }
def an5:Fd:=fdm "numbers_hold" (top 19) 2 ["one", "other", "apart"]
def ad7:Fd:=fdm "have_one_parent" (top 20) 2 ["one", "other"]
def bB4:Fd:=fdm "holds" (top 21) 2 ["one", "other"]
def T5:Fd:=fdm "exchanged_of_one_parent" (top 22) 2 ["one", "other", "number", "other_number"]
def aE8:Fd:=fdm "exchanged" (top 23) 2 ["one", "other"]
def bo8:Fd:=fdm "_law_cell" (top 25) 2 ["_law_script", "_law_k"] true
def aY3:Fd:=fdm "_law_drawn" (top 26) 3 ["_law_script", "_law_k", "_law_many", "_law_cell_here"] true
def bo3:Fd:=fdm "_law_made" (top 27) 2 ["_law_top", "_law_under", "_law_one", "_law_by"] true
def aX8:Fd:=fdm "_law_times" (top 29) 2 ["_law_one", "_law_other"] true
def aY0:Fd:=fdm "_law_share" (top 31) 2 ["_law_script", "_law_at", "_law_under", "_law_drawn_here"] true
def bo2:Fd:={ fdm "_law_spot" (top 32) 2 ["_law_script", "_law_at", "_law_cover"] true with hc:=[((96,33),[2,0,1])] }
def aX9:Fd:={ fdm "_law_sheet" (top 33) 4 ["_law_script", "_law_at", "_law_wide", "_law_high", "_law_spots"] with hc:=[((98,17),[0,1])] }
def aY2:Fd:={ fdm "_law_names" (top 34) 3 ["_law_script", "_law_at", "_law_many", "_law_is_first", "_law_found", "_law_k", "_law_word"] with own:=[4],tx:=[6],fz:=[(109,[4])],hc:=[((106,28),[0,1,5])] }
def bo4:Fd:={ fdm "_law_leaf" (top 35) 4 ["_law_script", "_law_at", "_law_name", "_law_main", "_law_strength", "_law_is_shown", "_law_manner", "_law_wide", "_law_high", "_law_mask", "_law_left", "_law_top", "_law_sheet_here"] with hc:=[((122,26),[0,1])] }
def aY1:Fd:={ fdm "_law_nodes" (top 36) 4 ["_law_script", "_law_at", "_law_most", "_law_names_here", "_law_main", "_law_many", "_law_found", "_law_k", "_law_first", "_law_last", "_law_strength", "_law_manner", "_law_group"] with own:=[6],hc:=[((132,17),[0,4,3,1])] }
def aE6:Fd:=fdm "_law_picture" (top 37) 4 ["_law_script", "_law_at", "_law_most", "_law_names_here", "_law_wide", "_law_high"]
def bB3:Fd:={ fdm "_law_all" (top 38) 1 ["_law_nodes_here", "_law_found", "_law_node"] with own:=[1],fz:=[(151,[1])] }
def bo1:Fd:={ fdm "_law_with" (top 39) 3 ["_law_nodes_here", "_law_name", "_law_others", "_law_found", "_law_node"] with own:=[3] }
def bo6:Fd:=fdm "_law_deep" (top 40) 1 ["_law_nodes_here"]
def aK3:Fd:=fdm "_law_listed" (top 41) 2 ["_law_nodes_here", "_law_deed_here", "_law_word", "_law_parent", "_law_number", "_law_node"]
def aE7:Fd:=fdm "_law_changed" (top 42) 2 ["_law_node", "_law_deed_here", "_law_at", "_law_word", "_law_name", "_law_x", "_law_y", "_law_old", "_law_new", "_law_wide", "_law_high", "_law_spots"]
def bo5:Fd:={ fdm "_law_done" (top 43) 2 ["_law_picture_here", "_law_deed_here", "_law_wide", "_law_high", "_law_nodes_here", "_law_known", "_law_other", "_law_found", "_law_parent"] with dx:=[5],hc:=[((201,38),[5])] }
def bB2:Fd:=fdm "_law_put" (top 44) 4 ["_law_script", "_law_at", "_law_nodes_here", "_law_name", "_law_parents", "_law_parent", "_law_some", "_law_leaf_here"]
def bo7:Fd:={ fdm "_law_deed" (top 45) 4 ["_law_script", "_law_at", "_law_picture_here", "_law_name", "_law_nodes_here", "_law_known", "_law_node", "_law_way", "_law_parents", "_law_parent", "_law_some", "_law_manners", "_law_wide", "_law_high", "_law_spots", "_law_x", "_law_y"] with hc:=[((231,33),[6])] }
def az1:Fd:=fdm "_law_names_by" (top 46) 1 ["_law_deed_here"]
def az2:Fd:={ fdm "_law_exchange" (top 47) 2 ["_law_one", "_law_other", "_law_mine", "_law_yours", "_law_p", "_law_q", "_law_by"] with hc:=[((253,66),[3])] }
def an6:Fd:={ fdm "_law_known_ones" (top 48) 0 ["_law_one", "_law_two_of", "_law_some", "_law_mine"] with hc:=[((271,16),[0,1]),((274,11),[3])] }
def aK2:Fd:=fdm "_law_stands" (top 49) 1 ["_law_script", "_law_names_here", "_law_picture_here", "_law_k", "_law_one", "_law_behind", "_law_other", "_law_words", "_law_node", "_law_due"]
def bG1:Fd:=fdm "law" (top 50) 1 ["_law_script"]
structure Qs (K:PySem.W.Frag):Prop where
 h_kind_of:KF K "kind_of" (top 1)
 h_is_group:KF K "is_group" (top 2)
 h_name_of:KF K "name_of" (top 3)
 h_inner_nodes:KF K "inner_nodes" (top 4)
 h_names_among:KF K "names_among" (top 6)
 h_word_of:KF K "word_of" (top 8)
 h_target_of:KF K "target_of" (top 9)
 h_number_of:KF K "number_of" (top 10)
 h_node_of:KF K "node_of" (top 11)
 h_is_put:KF K "is_put" (top 12)
 h_is_out:KF K "is_out" (top 13)
 h_is_put_or_out:KF K "is_put_or_out" (top 14)
 h_with_number:KF K "with_number" (top 15)
 h_names_carried:KF K "names_carried" (top 16)
 h_names_touched:KF K "names_touched" (top 17)
 h_some_carried_name_is_touched:KF K "some_carried_name_is_touched" (top 18)
 h_numbers_hold:KF K "numbers_hold" (top 19)
 h_have_one_parent:KF K "have_one_parent" (top 20)
 h_holds:KF K "holds" (top 21)
 h_exchanged_of_one_parent:KF K "exchanged_of_one_parent" (top 22)
 h_exchanged:KF K "exchanged" (top 23)
 h_l_cell:KF K "_law_cell" (top 25)
 h_l_drawn:KF K "_law_drawn" (top 26)
 h_l_made:KF K "_law_made" (top 27)
 h_l_times:KF K "_law_times" (top 29)
 h_l_share:KF K "_law_share" (top 31)
 h_l_spot:KF K "_law_spot" (top 32)
 h_l_sheet:KF K "_law_sheet" (top 33)
 h_l_names:KF K "_law_names" (top 34)
 h_l_leaf:KF K "_law_leaf" (top 35)
 h_l_nodes:KF K "_law_nodes" (top 36)
 h_l_picture:KF K "_law_picture" (top 37)
 h_l_all:KF K "_law_all" (top 38)
 h_l_with:KF K "_law_with" (top 39)
 h_l_deep:KF K "_law_deep" (top 40)
 h_l_listed:KF K "_law_listed" (top 41)
 h_l_changed:KF K "_law_changed" (top 42)
 h_l_done:KF K "_law_done" (top 43)
 h_l_put:KF K "_law_put" (top 44)
 h_l_deed:KF K "_law_deed" (top 45)
 h_l_names_by:KF K "_law_names_by" (top 46)
 h_l_exchange:KF K "_law_exchange" (top 47)
 h_l_known_ones:KF K "_law_known_ones" (top 48)
 h_l_stands:KF K "_law_stands" (top 49)
 h_law:KF K "law" (top 50)
theorem ci5{P:Program}{w:World}{K:PySem.W.Frag}{mg:Str->Option Value}(M:Md K mg zcs zbl) (q:Qs K):∃tab,rd tab zcs zbl bG1=aT4/\∀base:Heap,TOk P w K mg base 88 tab:=by
 refine⟨?tab,?e,fun base=>?t⟩
 case t =>
  have t:TOk P w K mg base 0 tb0:=TOk.nil
  have t:=t.add M aY4 q.h_kind_of v2
  have t:=t.add M aK4 q.h_is_group Q1
  have t:=t.add M aX7 q.h_name_of Q0
  have t:=t.add M aq4 q.h_inner_nodes K7
  have t:=TOk.rec t M aq3 q.h_names_among E8 12
  have t:=t.add M aX5 q.h_word_of M3
  have t:=t.add M aE4 q.h_target_of O7
  have t:=t.add M aE5 q.h_number_of O8
  have t:=t.add M aX6 q.h_node_of P9
  have t:=t.add M bo9 q.h_is_put T4
  have t:=t.add M bp0 q.h_is_out o0
  have t:=t.add M aj1 q.h_is_put_or_out J7
  have t:=t.add M aq2 q.h_with_number N3
  have t:=t.add M aj0 q.h_names_carried K6
  have t:=t.add M ai9 q.h_names_touched S0
  have t:=t.add M P7 q.h_some_carried_name_is_touched B9
  have t:=t.add M an5 q.h_numbers_hold T2
  have t:=t.add M ad7 q.h_have_one_parent G4
  have t:=t.add M bB4 q.h_holds ak5
  have t:=t.add M T5 q.h_exchanged_of_one_parent J6
  have t:=t.add M aE8 q.h_exchanged F0
  have t:=t.add M bo8 q.h_l_cell ap7
  have t:=t.add M aY3 q.h_l_drawn A5
  have t:=t.add M bo3 q.h_l_made ae6
  have t:=t.add M aX8 q.h_l_times af9
  have t:=t.add M aY0 q.h_l_share G7
  have t:=t.add M bo2 q.h_l_spot R0
  have t:=t.add M aX9 q.h_l_sheet u8
  have t:=t.add M aY2 q.h_l_names u9
  have t:=t.add M bo4 q.h_l_leaf P3
  have t:=t.add M aY1 q.h_l_nodes ag0
  have t:=t.add M aE6 q.h_l_picture U8
  have t:=TOk.rec t M bB3 q.h_l_all E6 12
  have t:=TOk.rec t M bo1 q.h_l_with K0 12
  have t:=TOk.rec t M bo6 q.h_l_deep N4 12
  have t:=t.add M aK3 q.h_l_listed O1
  have t:=t.add M aE7 q.h_l_changed K3
  have t:=t.add M bo5 q.h_l_done W5
  have t:=t.add M bB2 q.h_l_put ak4
  have t:=t.add M bo7 q.h_l_deed R1
  have t:=t.add M az1 q.h_l_names_by S5
  have t:=t.add M az2 q.h_l_exchange K5
  have t:=t.add M an6 q.h_l_known_ones T3
  have t:=t.add M aK2 q.h_l_stands Y4
  exact t
 case e=>kernel_rfl
theorem zmd{K:PySem.W.Frag}{h:Heap}{mg:Str->Option Value}  (X:K.In h) (G:h.Ns mainGlobals mg) (z0:PySem.W.nsIn K mainGlobals "abs" = some none) (z1:PySem.W.nsIn K mainGlobals "any" = some none) (z2:PySem.W.nsIn K mainGlobals "dict" = some none) (z3:PySem.W.nsIn K mainGlobals "int" = some none) (z4:PySem.W.nsIn K mainGlobals "len" = some none) (z5:PySem.W.nsIn K mainGlobals "max" = some none) (z6:PySem.W.nsIn K mainGlobals "min" = some none) (z7:PySem.W.nsIn K mainGlobals "range" = some none) (z8:PySem.W.nsIn K mainGlobals "tuple" = some none):Md K mg zcs zbl:=by
 refine⟨fun x v e=>PySem.W.mg_of X G e,fun x d e=>?_,fun x e=>?_⟩
 ·unfold zcs at e
  cases e
 ·unfold zbl at e
  simp only[List.contains_cons,List.contains_nil,Bool.or_false,Bool.or_eq_true,beq_iff_eq]at e
  rcases e with e|e|e|e|e|e|e|e|e
  ·subst e;exact PySem.W.mg_none_of X G z0
  ·subst e;exact PySem.W.mg_none_of X G z1
  ·subst e;exact PySem.W.mg_none_of X G z2
  ·subst e;exact PySem.W.mg_none_of X G z3
  ·subst e;exact PySem.W.mg_none_of X G z4
  ·subst e;exact PySem.W.mg_none_of X G z5
  ·subst e;exact PySem.W.mg_none_of X G z6
  ·subst e;exact PySem.W.mg_none_of X G z7
  ·subst e;exact PySem.W.mg_none_of X G z8
theorem bX3{l:PySem.W.OpenLaw}{q:Program}{loose:List Str}{XP:(Str->Option Value)->Heap->Prop}{YP:World->Heap->Prop}{d:DefRec}{K:Params->PySem.W.Frag}(hn:l.most=some 63) (hdf:d.params.defaults=[])
  (hY:∀(w:World) (h:Heap),YP w h->(K w.params).In h) (hd:d.name = "law")
  (F:∀(w:World) (mg:Str->Option Value) (h:Heap),(K w.params).In h->h.Ns mainGlobals mg->Md (K w.params) mg zcs zbl)
  (Q:∀w:World,Qs (K w.params))
  (M:∀ns:List Int,ns.length<=63->aT4 [.list (ns.map PyData.int)]=some (.bool true)) :
  PySem.W.WalkO q loose XP YP l.row.toRowW d [] (fun f vs=>PySem.call f vs) :=
 L2.br4 (n:=63) (k:=89) (x := "_law_script") (CX:=fun _=>CX0) (sp:=fun w=>spF (K w.params) 1 aT4) hn (by decide) hdf ⟨rfl,by decide,by decide⟩ hY
  (fun w mg fa h hk hg hm=>by
   have N:=F w mg h hk hg
   have q:=Q w
   rw[hd]at hm
   obtain⟨_,e,t⟩:=ci5 N q
   obtain⟨fd,b1,b2⟩:=bw6 N t bG1 q.h_law e hm
   exact⟨fd,b1,fun base _ _=>b2 base⟩)
  (fun w H a ns hl _ hS=>⟨rfl,H,[.list (ns.map PyData.int)],.bool true,E2.refl _,⟨.ref a,[],rfl,⟨a,_,rfl,hS,Reps.ints ns⟩,rfl⟩,M ns hl,fun v H' Hf' g r=>r⟩) fun _ _ _ _ _ z=>z
end Lk81
def PySem.W.Fast.tw7563958818821741612:Unit:=()
def PySem.W.Fast.tw18443095134444192967:Unit:=()
def PySem.W.Fast.tw838476752825432519:Unit:=()
def PySem.W.Fast.tw8303672444585584394:Unit:=()
def PySem.W.Fast.tw15964293665619493378:Unit:=()
def PySem.W.Fast.tw17118410159430861139:Unit:=()
def PySem.W.Fast.tw9417099795538316927:Unit:=()
def PySem.W.Fast.tw9442743891044999371:Unit:=()
def PySem.W.Fast.tw17435928884968290811:Unit:=()
def PySem.W.Fast.tw6155911687330192045:Unit:=()
def PySem.W.Fast.tw9201107598632989280:Unit:=()
def PySem.W.Fast.tw16602076999800006998:Unit:=()
def PySem.W.Fast.tw16064278819180632150:Unit:=()
def PySem.W.Fast.tw8532511256105578461:Unit:=()
def PySem.W.Fast.tw9249887826845411010:Unit:=()
def PySem.W.Fast.tw2064738836304745843:Unit:=()
def PySem.W.Fast.tw7119017007877965867:Unit:=()
def PySem.W.Fast.tw11179642555325006507:Unit:=()
def PySem.W.Fast.tw5754306585838513391:Unit:=()
def PySem.W.Fast.tw8616812367491604815:Unit:=()
def PySem.W.Fast.tw15715647789577200166:Unit:=()
def PySem.W.Fast.tw10183698138890693487:Unit:=()
def PySem.W.Fast.tw8026974175317098731:Unit:=()
def PySem.W.Fast.tw7183996537918381362:Unit:=()
def PySem.W.Fast.tw15851426470847602831:Unit:=()
def PySem.W.Fast.tw9318898748239734135:Unit:=()
def PySem.W.Fast.tw18096660333515454299:Unit:=()
def PySem.W.Fast.tw15931092831790036064:Unit:=()
def PySem.W.Fast.tw12019204135267803398:Unit:=()
def PySem.W.Fast.tw5118906986013462086:Unit:=()
def PySem.W.Fast.tw13142758790749878070:Unit:=()
def PySem.W.Fast.tw13671539456546049214:Unit:=()
def PySem.W.Fast.tw16794879985453496076:Unit:=()
def PySem.W.Fast.tw4182590946546750085:Unit:=()
def PySem.W.Fast.tw9487230600137300095:Unit:=()
def PySem.W.Fast.tw3574441932196725709:Unit:=()
def PySem.W.Fast.tw16849226144696853232:Unit:=()
def PySem.W.Fast.tw2052394440570509506:Unit:=()
def PySem.W.Fast.tw9988014476465277169:Unit:=()
def PySem.W.Fast.tw7007877462782167335:Unit:=()
def PySem.W.Fast.tw9592147512061705830:Unit:=()
def PySem.W.Fast.tw2155527665021330085:Unit:=()
def PySem.W.Fast.tw15634340301664148776:Unit:=()
def PySem.W.Fast.tw9458539400667465999:Unit:=()
def PySem.W.Fast.tw1550024202495576995:Unit:=()
def PySem.W.Fast.tw18160187546489029281:Unit:=()
def PySem.W.Fast.tw3017360025428911478:Unit:=()
namespace Lk81
open PySem PySem.W PyProof.Rows
set_option maxHeartbeats 0 in
open_top head for PySem.Challenge.rw_glazework_k81_exchanged
end Lk81
open PySem PySem.W PyProof.Rows
set_option maxRecDepth 100000 in
set_option maxHeartbeats 0 in
theorem PySem.Challenge.cw_glazework_k81_exchanged_holds : PySem.Challenge.rw_glazework_k81_exchanged.Holds := by
 refine Lk81.head ?_
 k_fill
 refine Lk81.bX3 (l:=PySem.Challenge.rw_glazework_k81_exchanged) rfl rfl (fun w h Y=>PySem.W.kIn_of Y) rfl ?F ?Q Lk81.main
 case F =>
  intro w mg h KX G
  refine' Lk81.zmd KX G ?z0 ?z1 ?z2 ?z3 ?z4 ?z5 ?z6 ?z7 ?z8
  (case z0=>k_is);(case z1=>k_is);(case z2=>k_is);(case z3=>k_is);(case z4=>k_is);(case z5=>k_is);(case z6=>k_is);(case z7=>k_is);(case z8=>k_is)
 case Q =>
  intro w
  constructor
  all_goals (refine' G.cd8 ?a ?l ?c ?k;(case a=>k_is);(case l=>k_is);(case c=>k_is);(case k=>k_is))
