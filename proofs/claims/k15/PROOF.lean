import PyProof.Rows.All
import Wide.All
import OpenK.AllK
import Wide.FinOn
import Lean
import PyProof.EqAt
import PyProof.EqKinds
import PyProof.TupleCall
import PySem.Challenge.RW_glazework_k15_whole_put_together
set_option compiler.extract_closed false
noncomputable section
set_option autoImplicit true
set_option Elab.async false
set_option linter.all false
set_option maxRecDepth 100000
theorem xmo{α β:Type}{o:Option α}{f:α->β}{b:β}(h:o.map f=some b):∃a,o=some a/\f a=b:=Option.map_eq_some_iff.mp h
theorem xmm{α:Type}{a:α}{l:List α}(b:α)(h:a∈l):a∈b::l:=List.mem_cons_of_mem b h
namespace L2
open PySem PySem.Spec PyProof.Rows
noncomputable abbrev Key:=Sum Int Str
noncomputable def ai4:Key->Value->Bool
 | .inl k,v=>Value.isInt k v
 | .inr x,v=>Value.isStrOf x v
noncomputable def bP2(w:World):Key->Int
 | .inl k=>hashInt k
 | .inr x=>hashStr w x
theorem M7:∀{k:Key}{v:Value},ai4 k v=true->(∃i t,k=Sum.inl i/\v=Value.int i t)\/(∃x t,k=Sum.inr x/\v=Value.str x t)
 | .inl i,v,h=>by
  obtain⟨t,e⟩:=Value.isInt_shape (k:=i) (v:=v) h
  exact .inl ⟨i,t,rfl,e⟩
 | .inr x,v,h=>by
  obtain⟨t,e⟩:=Value.isStrOf_shape (x:=x) (v:=v) h
  exact .inr ⟨x,t,rfl,e⟩
theorem aL1(i:Int) (t:Tok):ai4 (.inl i) (.int i t)=true:=by simp[ai4,Value.isInt]
theorem aL0(x:Str) (t:Tok):ai4 (.inr x) (.str x t)=true:=by simp[ai4,Value.isStrOf]
theorem bw6(a b:Int):decide ((Sum.inl a:Key)=Sum.inl b)=(a==b):=by
 by_cases e:a=b
 ·subst e;simp
 ·have h:¬(Sum.inl a:Key)=Sum.inl b:=fun q=>e (Sum.inl.inj q)
  rw[decide_eq_false h]
  exact(beq_eq_false_iff_ne.mpr e).symm
theorem aV3(a b:Str):decide ((Sum.inr a:Key)=Sum.inr b)=decide (a=b):=by
 by_cases e:a=b
 ·subst e;simp
 ·have h:¬(Sum.inr a:Key)=Sum.inr b:=fun q=>e (Sum.inr.inj q)
  rw[decide_eq_false h,decide_eq_false e]
theorem bw5(a:Int) (b:Str):decide ((Sum.inl a:Key)=Sum.inr b)=false:=decide_eq_false (fun q=>nomatch q)
theorem bw4(a:Str) (b:Int):decide ((Sum.inr a:Key)=Sum.inl b)=false:=decide_eq_false (fun q=>nomatch q)
noncomputable def E8(prog:Program) (w:World):PySem.KeyKind prog w Key where
 is:=ai4
 hash:=bP2 w
 inj:=fun v a b ha hb=>by
  rcases M7 ha with⟨i,t,rfl,rfl⟩|⟨x,t,rfl,rfl⟩
  ·rcases M7 hb with⟨j,u,rfl,e⟩|⟨y,u,rfl,e⟩
   ·injection e with e1 _;rw[e1]
   ·exact nomatch e
  ·rcases M7 hb with⟨j,u,rfl,e⟩|⟨y,u,rfl,e⟩
   ·exact nomatch e
   ·injection e with e1 _;rw[e1]
 byValue:=fun k v h=>by rcases M7 h with⟨i,t,rfl,rfl⟩|⟨x,t,rfl,rfl⟩<;>rfl
 pyHash:=fun hv h=>by
  rcases M7 hv with⟨i,t,rfl,rfl⟩|⟨x,t,rfl,rfl⟩
  ·exact wpAny_pyHash_int h
  ·exact wpAny_pyHash_str h
 eqBool:=fun hu hv h=>by
  rcases M7 hu with⟨i,t,rfl,rfl⟩|⟨x,t,rfl,rfl⟩
  ·rcases M7 hv with⟨j,u,rfl,rfl⟩|⟨y,u,rfl,rfl⟩
   ·rw[bw6]at h;exact wpAny_eqBool_int h
   ·rw[bw5]at h;exact SeqAt.EqAt.int_str i t y u _ _ _ _ h
  ·rcases M7 hv with⟨j,u,rfl,rfl⟩|⟨y,u,rfl,rfl⟩
   ·rw[bw4]at h;exact SeqAt.EqAt.str_int x t j u _ _ _ _ h
   ·rw[aV3]at h;exact wpAny_eqBool_str h
 «strs»:=fun k x t v h=>by
  rcases M7 h with⟨i,u,rfl,e⟩|⟨y,u,rfl,e⟩
  ·exact nomatch e
  ·injection e with e1 _
   subst e1
   cases v<;>rfl
theorem as0(prog:Program) (w:World) (i:Int) (t:Tok):(E8 prog w).is (.inl i) (.int i t)=true:=aL1 i t
theorem y6(prog:Program) (w:World) (x:Str) (t:Tok):(E8 prog w).is (.inr x) (.str x t)=true:=aL0 x t
inductive V where
 | non|bl (b:Bool)|int (i:Int)|str (x:Str)|byt (b:Array UInt8)|flt (b:UInt64)|ref (a:Addr)|ty (n:String)
 deriving DecidableEq
noncomputable def C3:V->Value->Prop
 | .non,u=>u=Value.none
 | .bl b,u=>u=Value.bool b
 | .int i,u=>∃t,u=Value.int i t
 | .str x,u=>∃t,u=Value.str x t
 | .byt b,u=>∃t,u=Value.bytes b t
 | .flt b,u=>∃t,u=Value.float b t
 | .ref a,u=>u=Value.ref a
 | .ty n,u=>u=Value.type n
noncomputable abbrev B6:List V->List Value->Prop:=Paired C3
theorem B6.length(r:B6 xs us):xs.length=us.length:=Paired.length r
theorem B6.get:∀{xs:List V}{us:List Value}{i:Nat}{x:V},B6 xs us->xs[i]? = some x->∃u,us[i]? = some u/\C3 x u
 | _,_,_,_,.nil,e=>by simp at e
 | _,_,0,_,.cons r _,e=>by simp at e;subst e;exact⟨_,rfl,r⟩
 | _,_,i+1,x,.cons _ t,e=>by
  obtain⟨u,h1,h2⟩:=B6.get (i:=i) (x:=x) t (by simpa using e)
  exact⟨u,by simpa using h1,h2⟩
theorem B6.append:∀{xs ys:List V}{us ws:List Value},B6 xs us->B6 ys ws->B6 (xs++ys) (us++ws)
 | _,_,_,_,.nil,s=>s
 | _,_,_,_,.cons r t,s=>.cons r (B6.append t s)
theorem B6.take:∀{xs:List V}{us:List Value}(n:Nat),B6 xs us->B6 (xs.take n) (us.take n)
 | _,_,0,_=>.nil
 | _,_,_+1,.nil=>.nil
 | _,_,n+1,.cons r t=>.cons r (B6.take n t)
theorem B6.drop:∀{xs:List V}{us:List Value}(n:Nat),B6 xs us->B6 (xs.drop n) (us.drop n)
 | _,_,0,r=>r
 | _,_,_+1,.nil=>.nil
 | _,_,n+1,.cons _ t=>B6.drop n t
noncomputable def aa7:Option V->Option Value->Prop
 | some v,some u=>C3 v u
 | none,none=>True
 | _,_=>False
noncomputable def KV{κ:Type}:List (κ×V)->List (κ×Value)->Prop:=Paired fun(p:κ×V) (q:κ×Value)=>p.1=q.1/\C3 p.2 q.2
noncomputable def kV:Key->V
 | .inl i=>.int i
 | .inr x=>.str x
inductive HO where
 /-- a list -/
 | lst (xs:List V)
 /-- a tuple (never changes) -/
 | tup (xs:List V)
 /-- a dict whose keys are ints and texts;one whose keys are tuples of ints and texts (the empty one is both) -/
 | dK (kvs:List (Key×V))|dT (kvs:List (List Key×V))
 /-- a set of ints: its members,its size -/
 | set (S:Int->Bool) (n:Nat)
 /-- an instance of the class at C,its dict at dx,its attributes -/
 | ins (C dx:Addr) (fs:List (Str×V))
 /-- the dict of the instance at x -/
 | own (x:Addr)
 /-- the dict of an exception -/
 | xd (fs:List (Str×V))
 /-- a bound method,f of x -/
 | met (f x:Addr)
 /-- a range object lo,lo+1,.. below hi -/
 | rng (lo hi:Int)
 /-- a thing that is known to the object (the script;a dict while a loop walks it): read,never written while it is so -/
 | frz (o:Obj) (u:HO)
 /-- a code object's table -/
 | tbl (ps:Array Value)
 /-- any other thing,by what is true of its one object (a def of one's own: SetO a S n:=HO.ext fun h=>..) -/
 | ext (φ:Heap->Prop)
noncomputable abbrev Hp:=Addr->Option HO
noncomputable def upd(H:Hp) (a:Addr) (o:HO):Hp:=fun b=>if b=a then some o else H b
theorem A6:upd H a o a=some o:=by unfold upd;rw[if_pos rfl]
theorem A9(h:b≠a):upd H a o b=H b:=by unfold upd;rw[if_neg h]
theorem bc6:upd (upd H a o) a u=upd H a u:=by funext b;unfold upd;split<;>rfl
theorem A7{H:Hp}{a b:Addr}{o:HO}(h:H a=some o) (h':H b=none):a≠b:=by intro e;subst e;rw[h]at h';cases h'
noncomputable def af7(h:Heap) (a:Addr) (items:Array Value):Prop:=∃o,h.get? a=some o/\o.cls=.type "tuple" /\ (∃n,o.data=.seq items n)/\o.dict=none
theorem af7.tup{h:Heap}{a:Addr}{items:Array Value}(p:af7 h a items):IsTup h a items:=let⟨o,e,c,d,_⟩:=p;⟨o,e,c,d⟩
theorem af7.new(h:Heap) (items:Array Value) (n:Nat:=0):af7 (h.push { cls:=.type "tuple", data:=.seq items n }) h.objs.size items:=⟨_,Heap.get?_push_size _ rfl,rfl,⟨_,rfl⟩,rfl⟩
section
variable (P:Program) (w:World)
noncomputable def M8(H:Hp) (h:Heap) (a:Addr):HO->Prop
 | .lst xs=>xs.length<=sizeLine/\∃(its:List Value) (n:Nat),B6 xs its/\h.get? a=some { cls:=.type "list", data:=.seq its.toArray n }
 | .tup xs=>xs.length<=sizeLine/\∃its:List Value,B6 xs its/\af7 h a its.toArray
 | .dK kvs=>kvs.length<=sizeLine/\(a==sysModules)=false/\∃vs,KV kvs vs/\h.DictOf (E8 P w) a vs
 | .dT kvs=>kvs.length<=sizeLine/\(a==sysModules)=false/\∃xs:List (List Key×Addr×Value),
   Paired (fun(p:List Key×V) (q:List Key×Addr×Value)=>p.1=q.1/\H q.2.1=some (.tup (p.1.map kV))/\C3 p.2 q.2.2) kvs xs /\
   ∃o es ep,h.get? a=some o/\o.ExactDict/\o.data=.dict es ep/\es.toList=xs.map (entryOfKey (tupleKind (E8 P w)))/\(xs.map (·.1)).Nodup
 | .set S n=>h.SetOf (intKind P w) a S n
 | .ins C dx fs=>H dx=some (.own a)/\fs.length<=1000/\dx≠a/\h.get? a=some (PySem.W.instObj C dx) /\
   ∃mA,h.Ns1 dx mA/\(∀f,aa7 (fs.lookup f) (mA f))/\PySem.Within mA (fs.map (·.1))
 | .own _=>∃o,h.get? a=some o
 | .xd fs=>∃mA,h.Ns1 a mA/\∀f,aa7 (fs.lookup f) (mA f)
 | .rng lo hi=>∃t u v,h.get? a=some { cls:=.type "range", data:=.fields #[.int lo t,.int hi u,.int 1 v] }
 | .frz o u=>h.get? a=some o/\M8 H h a u
 | .tbl ps=>h.get? a=some { cls:=.none,data:=.fields ps }
 | .met f x=>h.get? a=some (PySem.W.methodObj (.ref f) (.ref x))
 | .ext φ=>φ h/\(∃o,h.get? a=some o)/\∀h1 h2:Heap,φ h1->(∀o,h1.get? a=some o->h2.get? a=some o)->φ h2
noncomputable def HOk(H:Hp) (h:Heap):Prop:=∀a o,H a=some o->M8 P w H h a o
end
section
variable {P:Program}{w:World}{H H':Hp}{h h':Heap}{a:Addr}{o:HO}
theorem M8.lt(x:M8 P w H h a o):a < h.objs.size:=by
 cases o with
 | lst xs=>obtain⟨_,_,_,_,e⟩:=x;exact Heap.lt_size e
 | tup xs=>obtain⟨_,_,_,p⟩:=x;exact p.tup.lt
 | dK kvs=>obtain⟨_,_,_,_,o,_,_,e,_⟩:=x;exact Heap.lt_size e
 | dT kvs=>obtain⟨_,_,_,_,o,_,_,e,_⟩:=x;exact Heap.lt_size e
 | set S n=>obtain⟨o,_,_,_,e,_⟩:=x;exact Heap.lt_size e
 | ins C dx fs=>obtain⟨_,_,_,e,_⟩:=x;exact Heap.lt_size e
 | own y=>obtain⟨_,e⟩:=x;exact Heap.lt_size e
 | xd fs=>obtain⟨_,⟨_,_,_,e,_⟩,_⟩:=x;exact Heap.lt_size e
 | rng lo hi=>obtain⟨_,_,_,e⟩:=x;exact Heap.lt_size e
 | frz ob u=>obtain⟨e,_⟩:=x;exact Heap.lt_size e
 | tbl ps=>exact Heap.lt_size (show h.get? a=some _ from x)
 | met f y=>exact Heap.lt_size (show h.get? a=some _ from x)
 | ext φ=>obtain⟨_,⟨_,e⟩,_⟩:=x;exact Heap.lt_size e
theorem Paired.mapP{α β:Type}{F G:α->β->Prop}:∀{l₁:List α}{l₂:List β},Paired F l₁ l₂->(∀a b,F a b->G a b)->Paired G l₁ l₂
 | _,_,.nil,_=>.nil
 | _,_,.cons r t,f=>.cons (f _ _ r) (Paired.mapP t f)
theorem M8.stay(x:M8 P w H h a o) (k:∀b u,(b=a\/H b=some (.own a))->h.get? b=some u->h'.get? b=some u)
  (ho:∀b,H b=some (.own a)->H' b=some (.own a)) (ht:∀b xs,H b=some (.tup xs)->H' b=some (.tup xs)):M8 P w H' h' a o:=by
 induction o with
 | lst xs=>obtain⟨z,its,n,r,e⟩:=x;exact⟨z,its,n,r,k _ _ (.inl rfl) e⟩
 | tup xs=>obtain⟨z,its,r,ob,e,c⟩:=x;exact⟨z,its,r,ob,k _ _ (.inl rfl) e,c⟩
 | dK kvs=>obtain⟨z,y,vs,r,ob,es,ep,e,c⟩:=x;exact⟨z,y,vs,r,ob,es,ep,k _ _ (.inl rfl) e,c⟩
 | dT kvs =>
  obtain⟨z,y,xs,r,ob,es,ep,e,c⟩:=x
  exact⟨z,y,xs,Paired.mapP r fun p q z=>⟨z.1,ht _ _ z.2.1,z.2.2⟩,ob,es,ep,k _ _ (.inl rfl) e,c⟩
 | set S n=>obtain⟨ob,es,ep,t,e,c⟩:=x;exact⟨ob,es,ep,t,k _ _ (.inl rfl) e,c⟩
 | ins C dx fs =>
  obtain⟨d,z,ne,e,mA,⟨od,es,ep,e2,c⟩,r⟩:=x
  exact⟨ho _ d,z,ne,k _ _ (.inl rfl) e,mA,⟨od,es,ep,k _ _ (.inr d) e2,c⟩,r⟩
 | own y=>obtain⟨ob,e⟩:=x;exact⟨ob,k _ _ (.inl rfl) e⟩
 | xd fs=>obtain⟨mA,⟨od,es,ep,e,c⟩,r⟩:=x;exact⟨mA,⟨od,es,ep,k _ _ (.inl rfl) e,c⟩,r⟩
 | rng lo hi=>obtain⟨t,u,v,e⟩:=x;exact⟨t,u,v,k _ _ (.inl rfl) e⟩
 | frz ob u ih=>obtain⟨e,q⟩:=x;exact⟨k _ _ (.inl rfl) e,ih q⟩
 | tbl ps =>
  have e:h.get? a=some { cls:=.none,data:=.fields ps }:=x
  show h'.get? a=some { cls:=.none,data:=.fields ps }
  exact k a _ (.inl rfl) e
 | met f y =>
  have e:h.get? a=some (PySem.W.methodObj (.ref f) (.ref y)):=x
  show h'.get? a=some (PySem.W.methodObj (.ref f) (.ref y))
  exact k a _ (.inl rfl) e
 | ext φ=>obtain⟨p,⟨o,e⟩,st⟩:=x;exact⟨st _ _ p fun o q=>k _ _ (.inl rfl) q,⟨o,k _ _ (.inl rfl) e⟩,st⟩
theorem HOk.lt(x:HOk P w H h) (e:H a=some o):a < h.objs.size:=(x a o e).lt
theorem HOk.fresh(x:HOk P w H h) (e:h.objs.size<=a):H a=none:=by
 cases q:H a with
 | none=>rfl
 | some u=>exact absurd (Nat.lt_of_lt_of_le (x.lt q) e) (Nat.lt_irrefl _)
theorem HOk.kept(x:HOk P w H h) (k:∀b u,h.get? b=some u->h'.get? b=some u):HOk P w H h':=fun a o e =>(x a o e).stay (fun b u _ q=>k b u q) (fun _ q=>q) fun _ _ q=>q
theorem HOk.laid(x:HOk P w H h) (k:∀b u,h.get? b=some u->h'.get? b=some u) (hp:h.objs.size<=a) (new:M8 P w (upd H a o) h' a o):HOk P w (upd H a o) h':=fun b u e=>by
 have hn:=x.fresh hp
 by_cases hb:b=a
 ·subst hb;rw[A6]at e;cases e;exact new
 ·rw[A9 hb]at e
  exact(x b u e).stay (fun c v _ q=>k c v q) (fun c q=>by rw[A9 (A7 q hn)];exact q) fun c xs q=>by rw[A9 (A7 q hn)];exact q
end
noncomputable def Rd(H:Hp) (a:Addr) (u:HO):Prop:=H a=some u\/∃o,H a=some (.frz o u)
theorem Rd.ok(r:Rd H a u) (x:HOk P w H h):M8 P w H h a u:=by
 rcases r with r|⟨o,r⟩
 ·exact x a u r
 ·obtain⟨_,q⟩:=x a _ r
  exact q
noncomputable def Mut:Option HO->Prop
 | some (.lst _)=>True
 | some (.dK _)=>True
 | some (.dT _)=>True
 | some (.set _ _)=>True
 | some (.ins _ _ _)=>True
 | some (.ext _)=>True
 | _=>False
section
variable {P:Program}{w:World}{H:Hp}{h h':Heap}{x e:Addr}{o':HO}
theorem HOk.write(ok:HOk P w H h) (mu:Mut (H x)) (he:e=x\/H e=some (.own x)) (k:∀b u,b≠e->h.get? b=some u->h'.get? b=some u) (heo:∃u,h'.get? e=some u)
  (new:M8 P w (upd H x o') h' x o'):HOk P w (upd H x o') h':=fun b u q=>by
 have nown:∀c y,H c=some (.own y)->c≠x:=fun c y r z=>by subst z;rw[r]at mu;exact mu
 have ntup:∀c xs,H c=some (.tup xs)->c≠x:=fun c xs r z=>by subst z;rw[r]at mu;exact mu
 by_cases hb:b=x
 ·subst hb;rw[A6]at q;cases q;exact new
 ·rw[A9 hb]at q
  by_cases hbe:b=e
  ·have q':H b=some (.own x):=by
    rcases he with z|z
    ·exact absurd (hbe.trans z) hb
    ·rw[hbe];exact z
   rw[q]at q';cases q'
   obtain⟨v,hv⟩:=heo
   exact⟨v,by rw[hbe];exact hv⟩
  ·refine(ok b u q).stay (fun c v hc r=>k c v ?_ r) (fun c r=>by rw[A9 (nown c b r)];exact r) fun c xs r=>by rw[A9 (ntup c xs r)];exact r
   rcases hc with rfl|hc
   ·exact hbe
   ·rintro rfl
    rcases he with z|z
    ·exact nown c b hc z
    ·rw[hc]at z;cases z;exact hb rfl
end
structure Un (fs ex:List Addr) (H H':Hp) (h h':Heap):Prop where
 keep:∀b o,h.get? b=some o->H b=none->b∉fs->b∉ex->h'.get? b=some o
 slot:∀b o,h.get? b=some o->H b=none->b∈fs->b∉ex->∃sl,h'.get? b=some { o with slots:=sl }
 free:∀b o,h.get? b=some o->H b=none->b∉ex->H' b=none
 there:∀b o,h.get? b=some o->b∉ex->∃o',h'.get? b=some o'
 tups:∀b xs,H b=some (.tup xs)->H' b=some (.tup xs)
 frzs:∀b o u,H b=some (.frz o u)->H' b=some (.frz o u)
 tbls:∀b ps,H b=some (.tbl ps)->∃more,H' b=some (.tbl (ps++more))
section
variable {fs fs' ex ex':List Addr}{H H1 H2:Hp}{h h1 h2 h':Heap}{a x e:Addr}{o:HO}
theorem Un.any(u:Un fs ex H H1 h h1) (q:h.get? b=some ob) (n:H b=none) (hx:b∉ex):∃sl,h1.get? b=some { ob with slots:=sl }:=by
 by_cases hb:b∈fs
 ·exact u.slot b ob q n hb hx
 ·exact⟨ob.slots,u.keep b ob q n hb hx⟩
theorem Un.kept(k:∀b u,h.get? b=some u->h'.get? b=some u):Un fs ex H H h h' :=
 ⟨fun b ob q _ _ _=>k b ob q,fun b ob q _ _ _=>⟨ob.slots,k b ob q⟩,fun _ _ _ n _=>n,fun b ob q _=>⟨ob,k b ob q⟩,fun _ _ q=>q,fun _ _ _ q=>q,fun _ ps q=>⟨#[],by rw[q];simp⟩⟩
theorem Un.refl:Un fs ex H H h h:=Un.kept fun _ _ q=>q
theorem Un.laid(k:∀b u,h.get? b=some u->h'.get? b=some u) (hp:h.objs.size<=a) (hn:H a=none):Un fs ex H (upd H a o) h h' where
 keep:=fun b u q _ _ _=>k b u q
 slot:=fun b u q _ _ _=>⟨u.slots,k b u q⟩
 free:=fun b u q n _=>by rw[A9 (Nat.ne_of_lt (Nat.lt_of_lt_of_le (Heap.lt_size q) hp))];exact n
 there:=fun b u q _=>⟨u,k b u q⟩
 tups:=fun b xs q=>by rw[A9 (A7 q hn)];exact q
 frzs:=fun b u xs q=>by rw[A9 (A7 q hn)];exact q
 tbls:=fun b ps q=>⟨#[],by rw[A9 (A7 q hn),q];simp⟩
theorem Un.write(mu:Mut (H x)) (he:e=x\/H e=some (.own x)) (k:∀b u,b≠e->h.get? b=some u->h'.get? b=some u) (heo:∃u,h'.get? e=some u):Un fs ex H (upd H x o) h h':=by
 have hx:∀b,H b=none->b≠x:=fun b n z=>by subst z;rw[n]at mu;exact mu
 have hb:∀b,H b=none->b≠e:=fun b n z=>by
  subst z
  rcases he with r|r
  ·exact hx b n r
  ·rw[n]at r;cases r
 have hm:∀b u,H b=some u->¬Mut (some u)->b≠x:=fun b u q nm z=>by subst z;rw[q]at mu;exact nm mu
 refine⟨fun b u q n _ _=>k b u (hb b n) q,fun b u q n _ _=>⟨u.slots,k b u (hb b n) q⟩,fun b u q n _=>by rw[A9 (hx b n)];exact n,fun b u q _=>?_,
  fun b xs q=>by rw[A9 (hm b _ q fun z=>z)];exact q,fun b u xs q=>by rw[A9 (hm b _ q fun z=>z)];exact q,fun b ps q=>⟨#[],by rw[A9 (hm b _ q fun z=>z),q];simp⟩⟩
 by_cases hbe:b=e
 ·subst hbe;exact heo
 ·exact⟨u,k b u hbe q⟩
end
noncomputable def trk(h:Heap) (H:Hp):List Addr:=(List.range h.objs.size).filter fun a=>(H a).isSome
noncomputable def ao3(h:Heap) (H:Hp):Heap:=PySem.W.hideAll h (trk h H)
theorem aL4(h:Heap) (H:Hp):(ao3 h H).objs.size=h.objs.size:=PySem.W.hideAll_size _ _
theorem aX8(e:h.get? b=some o) (n:H b=none):(ao3 h H).get? b=some o :=
 PySem.W.hideAll_get _ e fun hm=>by
  have q:(H b).isSome=true:=(List.mem_filter.mp hm).2
  rw[n]at q;simp at q
theorem bg5(e:(ao3 h H).get? b=some o):h.get? b=some o/\H b=none:=by
 have e':h.get? b=some o:=PySem.W.of_hideAll (trk h H) e
 refine⟨e',?_⟩
 cases q:H b with
 | none=>rfl
 | some x =>
  have hm:b∈trk h H:=List.mem_filter.mpr ⟨List.mem_range.mpr (Heap.lt_size e'),by simp[q]⟩
  have z:(ao3 h H).get? b=none:=PySem.W.hideAll_none (trk h H) hm
  rw[z]at e;cases e
noncomputable def bm7(g h:Heap) (L:Addr):List (Addr×Obj):=(List.range h.objs.size).filterMap fun a=>if a=L\/(g.get? a).isSome=true then none else(h.get? a).map fun o=>(a,o)
noncomputable def N4(g h:Heap) (L d:Addr):List (Addr×Obj):=(bm7 g h L).filter fun p=>decide (p.1≠d)
structure Mod (K:PySem.W.Frag) (mg:Str->Option Value) (base:Heap):Prop where
 kin:K.In base
 glob:base.Ns mainGlobals mg
 blt:∃mb,base.Ns builtinsNs mb/\∀x:Str,x ≠ "__name__" -> mb x=bootBuiltins x
 nolimit:base.NoLimit
structure Cx where
 prog:Program
 w:World
 K:PySem.W.Frag
 mg:Str->Option Value
 base:Heap
 A:Around
 N:List Str
 s₀:Shared
 H₀:Hp
 env:Env
 outer:List Env
 stack:List Env
 ex:List Addr
 fn:Str->Bool
 calm:Bool
 pn:List (Addr×Obj)
 xe:Value->Shared->Prop
noncomputable def frs(l:List Env):List Addr:=l.filterMap (·.frame)
noncomputable abbrev Cx.fs(X:Cx):List Addr:=frs X.outer
noncomputable def Vis(sc:Scope) (x:Str):Prop:=sc.names.lookup x=some .local\/sc.names.lookup x=some .cell\/sc.names.lookup x=some .free
noncomputable def Loc(sc:Scope) (x:Str):Prop:=sc.names.lookup x=some .local\/sc.names.lookup x=some .cell
noncomputable def bQ3(env:Env) (h:Heap) (m:Str->Option Value) (x:Str) (u:Value):Prop :=
 (env.kindOf x=some .local/\m x=some u)\/((env.kindOf x=some .cell\/env.kindOf x=some .free)/\∃c,env.cells.lookup x=some c/\h.IsCell c (some u))
structure Cx.Ok (X:Cx):Prop where
 mod:Mod X.K X.mg X.base
 kind:X.env.scope.kind=.function
 glob:X.env.globals=mainGlobals
 blt:X.env.builtins=builtinsNs
 above:X.s₀.heap.objs.size<=X.env.locals
 inj:∀x y c,X.env.cells.lookup x=some c->X.env.cells.lookup y=some c->x=y
 has:∀x,(X.env.kindOf x=some .cell\/X.env.kindOf x=some .free)->∃c,X.env.cells.lookup x=some c
 cab:∀x c,X.fn x=true->X.env.cells.lookup x=some c->X.s₀.heap.objs.size<=c
 hd:X.calm=true->X.A.handled=none
 frames:X.A.frames=some X.stack
 stk:X.stack=X.outer\/(X.stack=X.env::X.outer/\X.env.frame=some X.env.locals)
 exf:∀b∈X.ex,b≠X.env.locals/\∀x c,X.env.cells.lookup x=some c->c≠b
 bs:∀b o,X.base.get? b=some o->X.s₀.heap.get? b=some o/\X.H₀ b=none
 bsz:X.base.objs.size<=X.s₀.heap.objs.size
 noex:∀b o,X.base.get? b=some o->b∉X.ex
 exfs:∀b∈X.ex,b∉X.fs
 funs:X.s₀.heap.FunFrames X.base X.outer
 frf:∀b∈X.fs,X.H₀ b=none
structure Inv (X:Cx) (pins:List (Addr×Obj)) (σ:List (Option V)) (H:Hp) (s:Shared):Prop where
 ok:X.Ok
 os:s.os=X.s₀.os
 bare:AllBare s.gens
 base:Un X.fs X.ex X.H₀ H X.s₀.heap s.heap
 loc:∃m,s.heap.Ns X.env.locals m/\∀(i:Nat) (x:Str) (v:V),X.N[i]? = some x->σ[i]? = some (some v)->Vis X.env.scope x->∃u,C3 v u/\bQ3 X.env s.heap m x u
 cell:∀x c,X.env.cells.lookup x=some c->∃v,s.heap.IsCell c v
 free:H X.env.locals=none
 freeC:∀x c,X.env.cells.lookup x=some c->H c=none
 pin:∀p∈X.pn++pins,s.heap.get? p.1=some p.2/\H p.1=none/\p.1≠X.env.locals/\p.1∉X.fs/\∀v,p.2.data≠.cell v
 hok:HOk X.prog X.w H s.heap
 len:σ.length=X.N.length
section
variable {X:Cx}{pins:List (Addr×Obj)}{σ:List (Option V)}{H H':Hp}{s:Shared}{h':Heap}
theorem Cx.Ok.nofr(ok:X.Ok) (e:X.base.get? b=some o):b∉X.fs:=fun hb=>by
 have:=(ok.funs.mem hb).1
 rw[e]at this;cases this
theorem Inv.bs(I:Inv X pins σ H s):∀b o,X.base.get? b=some o->s.heap.get? b=some o/\H b=none:=fun b o e =>⟨I.base.keep b o (I.ok.bs b o e).1 (I.ok.bs b o e).2 (I.ok.nofr e) (I.ok.noex b o e),I.base.free b o (I.ok.bs b o e).1 (I.ok.bs b o e).2 (I.ok.noex b o e)⟩
theorem Inv.bk(I:Inv X pins σ H s):∀b o,X.base.get? b=some o->s.heap.get? b=some o:=fun b o e=>(I.bs b o e).1
theorem Inv.mod(I:Inv X pins σ H s):Mod X.K X.mg X.base:=I.ok.mod
theorem Inv.kIn(I:Inv X pins σ H s):X.K.In s.heap:=I.ok.mod.kin.keeps I.bk
theorem Inv.lt(I:Inv X pins σ H s):X.env.locals < s.heap.objs.size:=let⟨_,hn,_⟩:=I.loc;hn.lt
theorem Inv.sz(I:Inv X pins σ H s):X.s₀.heap.objs.size<=s.heap.objs.size:=Nat.le_trans I.ok.above (Nat.le_of_lt I.lt)
theorem Inv.nofs(I:Inv X pins σ H s) (h:s.heap.objs.size<=a):a∉X.fs:=fun hb=>by
 obtain⟨_,o,ho,_⟩:=I.ok.funs.mem hb
 exact absurd (Nat.lt_of_lt_of_le (Heap.lt_size ho) (Nat.le_trans I.sz h)) (Nat.lt_irrefl _)
theorem Inv.cne(I:Inv X pins σ H s):∀x c,X.env.cells.lookup x=some c->c≠X.env.locals:=fun x c e z=>by
 obtain⟨v,o,ho,hd⟩:=I.cell x c e
 obtain⟨m,⟨o',es,ep,ho',hd',_⟩,_⟩:=I.loc
 rw[z,ho']at ho;cases ho;rw[hd']at hd;cases hd
theorem Inv.funs(I:Inv X pins σ H s):s.heap.FunFrames X.base X.outer:=by
 have all:∀(l:List Env),(∀b∈frs l,b∈X.fs)->X.s₀.heap.FunFrames X.base l->s.heap.FunFrames X.base l:=by
  intro l
  induction l with
  | nil=>intro _ _;trivial
  | cons env r ih =>
   intro hs hl
   obtain⟨hk,⟨L,o,hf,hn,ho,hd⟩,hr⟩:=hl
   have hL:L∈X.fs:=hs L (by unfold frs;rw[List.filterMap_cons,hf];exact List.mem_cons_self)
   obtain⟨sl,e⟩:=I.base.slot L o ho (I.ok.frf L hL) hL fun z=>I.ok.exfs L z hL
   exact⟨hk,⟨L,_,hf,hn,e,hd⟩,ih (fun b hb=>hs b (by unfold frs;rw[List.filterMap_cons,hf];exact xmm _ hb)) hr⟩
 exact all X.outer (fun _ hb=>hb) I.ok.funs
theorem Inv.stack(I:Inv X pins σ H s):s.heap.FunFrames X.base X.stack:=by
 rcases I.ok.stk with e|⟨e,hf⟩
 ·rw[e];exact I.funs
 ·rw[e]
  obtain⟨m,hn,_⟩:=I.loc
  refine .cons (by rw[I.ok.kind];decide) hf hn ?_ I.funs
  exact Heap.get?_none_of_le (Nat.le_trans I.ok.bsz I.ok.above)
theorem Inv.stkSub(I:Inv X pins σ H s):∀b∈frs X.stack,b∈X.env.locals::X.fs:=fun b hb=>by
 rcases I.ok.stk with e|⟨e,hf⟩
 ·rw[e]at hb;exact xmm _ hb
 ·rw[e]at hb
  unfold frs at hb
  rw[List.filterMap_cons,hf]at hb
  exact hb
theorem Inv.stkFree(I:Inv X pins σ H s):∀b∈frs X.stack,H b=none:=fun b hb=>by
 rcases List.mem_cons.mp (I.stkSub b hb) with e|hb
 ·rw[e];exact I.free
 ·obtain⟨_,o,ho,_⟩:=I.ok.funs.mem hb
  exact I.base.free b o ho (I.ok.frf b hb) fun z=>I.ok.exfs b z hb
theorem Inv.step{g':Array GenState}{t':Nat}{d':Drawn}{ch:List Addr}(I:Inv X pins σ H s)
  (hch:∀b∈ch,(b∈X.ex\/X.s₀.heap.objs.size<=b)/\b≠X.env.locals/\(∀x c,X.env.cells.lookup x=some c->c≠b)/\∀p∈X.pn++pins,p.1≠b)
  (keep:∀b o,b≠X.env.locals->b∉X.fs->b∉ch->s.heap.get? b=some o->H b=none->h'.get? b=some o)
  (slot:∀b o,b≠X.env.locals->b∈X.fs->b∉ch->s.heap.get? b=some o->H b=none->∃sl,h'.get? b=some { o with slots:=sl }) (free:∀b o,b∉ch->s.heap.get? b=some o->H b=none->H' b=none)
  (there:∀b o,b∉ch->s.heap.get? b=some o->∃o',h'.get? b=some o')
  (tups:∀b xs,H b=some (.tup xs)->H' b=some (.tup xs)) (frzs:∀b o u,H b=some (.frz o u)->H' b=some (.frz o u)) (tbls:∀b ps,H b=some (.tbl ps)->∃more,H' b=some (.tbl (ps++more)))
  (ns:∀m,s.heap.Ns X.env.locals m->h'.Ns X.env.locals m) (hok:HOk X.prog X.w H' h') (hg:AllBare g') :
  Inv X pins σ H' { s with heap:=h',gens:=g',drawn:=d',toks:=t' }:=by
 have neL:∀b o,X.s₀.heap.get? b=some o->b≠X.env.locals:=fun b o e=>Nat.ne_of_lt (Nat.lt_of_lt_of_le (Heap.lt_size e) I.ok.above)
 have neC:∀b o,X.s₀.heap.get? b=some o->b∉X.ex->b∉ch:=fun b o e hx hb=>by
  rcases(hch b hb).1 with z|z
  ·exact hx z
  ·exact absurd (Nat.lt_of_lt_of_le (Heap.lt_size e) z) (Nat.lt_irrefl _)
 have cellK:∀x c,X.env.cells.lookup x=some c->∀v,s.heap.IsCell c v->h'.IsCell c v:=fun x c e v ⟨o,ho,hd⟩=>by
  have nch:c∉ch:=fun z=>(hch c z).2.2.1 x c e rfl
  by_cases hc:c∈X.fs
  ·obtain⟨sl,q⟩:=slot c o (I.cne x c e) hc nch ho (I.freeC x c e)
   exact⟨_,q,hd⟩
  ·exact⟨o,keep c o (I.cne x c e) hc nch ho (I.freeC x c e),hd⟩
 refine⟨I.ok,I.os,hg,⟨fun b o e n hb hx=>?_,fun b o e n hb hx=>?_,fun b o e n hx=>?_,fun b o e hx=>?_,fun b xs e=>tups b xs (I.base.tups b xs e),fun b o xs e=>frzs b o xs (I.base.frzs b o xs e),fun b ps e=>?_⟩,?_,fun x c e=>?_,?_,fun x c e=>?_,fun p hp=>?_,hok,I.len⟩
 ·exact keep b o (neL b o e) hb (neC b o e hx) (I.base.keep b o e n hb hx) (I.base.free b o e n hx)
 ·obtain⟨sl,e1⟩:=I.base.slot b o e n hb hx
  obtain⟨sl',e2⟩:=slot b _ (neL b o e) hb (neC b o e hx) e1 (I.base.free b o e n hx)
  exact⟨sl',e2⟩
 ·obtain⟨o',e1⟩:=I.base.there b o e hx
  exact free b o' (neC b o e hx) e1 (I.base.free b o e n hx)
 ·obtain⟨o',e1⟩:=I.base.there b o e hx
  exact there b o' (neC b o e hx) e1
 ·obtain⟨m1,e1⟩:=I.base.tbls b ps e
  obtain⟨m2,e2⟩:=tbls b _ e1
  exact⟨m1++m2,by rw[e2,Array.append_assoc]⟩
 ·obtain⟨m,hn,hl⟩:=I.loc
  refine⟨m,ns m hn,fun i x v e1 e2 e3=>?_⟩
  obtain⟨u,r,l⟩:=hl i x v e1 e2 e3
  refine⟨u,r,?_⟩
  rcases l with l|⟨k,c,e,z⟩
  ·exact .inl l
  ·exact .inr ⟨k,c,e,cellK x c e _ z⟩
 ·obtain⟨v,z⟩:=I.cell x c e
  exact⟨v,cellK x c e v z⟩
 ·obtain⟨m,⟨o,_,_,ho,_⟩,_⟩:=I.loc
  exact free _ o (fun z=>(hch _ z).2.1 rfl) ho I.free
 ·obtain⟨v,o,ho,hd⟩:=I.cell x c e
  exact free c o (fun z=>(hch c z).2.2.1 x c e rfl) ho (I.freeC x c e)
 ·obtain⟨e,n,ne,nf,d⟩:=I.pin p hp
  have nch:p.1∉ch:=fun z=>(hch p.1 z).2.2.2 p hp rfl
  exact⟨keep p.1 p.2 ne nf nch e n,free p.1 p.2 nch e n,ne,nf,d⟩
theorem Inv.un{t':Nat}(I:Inv X pins σ H s) (u:Un X.fs [] H H' s.heap h') (hok:HOk X.prog X.w H' h'):Inv X pins σ H' { s with heap:=h',toks:=t' }:=by
 obtain⟨m,⟨o,es,ep,ho,r⟩,_⟩:=id I.loc
 obtain⟨sl,hL⟩:=u.any ho I.free (by simp)
 exact I.step (g':=s.gens) (d':=s.drawn) (ch:=[]) (fun _ z=>nomatch z) (fun b o _ hb _ e n=>u.keep b o e n hb (by simp)) (fun b o _ hb _ e n=>u.slot b o e n hb (by simp)) (fun b o _ e n=>u.free b o e n (by simp)) (fun b o _ e=>u.there b o e (by simp)) u.tups u.frzs u.tbls (fun m' hm=>by
  obtain⟨o',es',ep',ho',r'⟩:=hm
  rw[ho]at ho';cases ho'
  exact⟨_,es',ep',hL,r'⟩) hok I.bare
theorem Inv.call{g':Array GenState}{t':Nat}{d':Drawn}{ch:List Addr}(I:Inv X pins σ H s) (u:Un (frs X.stack) ch H H' s.heap h') (hok:HOk X.prog X.w H' h') (hg:AllBare g')
  (hch:∀b∈ch,(b∈X.ex\/X.s₀.heap.objs.size<=b)/\b≠X.env.locals/\(∀x c,X.env.cells.lookup x=some c->c≠b)/\∀p∈X.pn++pins,p.1≠b) :
  Inv X pins σ H' { s with heap:=h',gens:=g',drawn:=d',toks:=t' }:=by
 obtain⟨m,⟨o,es,ep,ho,r⟩,_⟩:=id I.loc
 obtain⟨sl,hL⟩:=u.any ho I.free fun z=>(hch _ z).2.1 rfl
 exact I.step (ch:=ch) hch (fun b o hL hb hc e n=>u.keep b o e n (fun z=>(List.mem_cons.mp (I.stkSub b z)).elim hL hb) hc) (fun b o _ _ hc e n=>u.any e n hc) (fun b o hc e n=>u.free b o e n hc) (fun b o hc e=>u.there b o e hc) u.tups u.frzs u.tbls (fun m' hm=>by
  obtain⟨o',es',ep',ho',r'⟩:=hm
  rw[ho]at ho';cases ho'
  exact⟨_,es',ep',hL,r'⟩) hok hg
theorem Inv.turned{t':Nat}{it:Addr}(I:Inv X pins σ H s) (k:∀b o,b≠it->s.heap.get? b=some o->h'.get? b=some o) (hn:H it=none) (hL:it≠X.env.locals)
  (h1:it∈X.ex\/X.s₀.heap.objs.size<=it) (h2:∀x c,X.env.cells.lookup x=some c->c≠it) (h3:∀p∈X.pn++pins,p.1≠it):Inv X pins σ H { s with heap:=h',toks:=t' }:=by
 have nit:∀b u,H b=some u->b≠it:=fun b u e z=>by rw[z,hn]at e;cases e
 refine I.step (g':=s.gens) (d':=s.drawn) (ch:=[it]) (fun b hb=>?_) (fun b o _ _ hc e _=>k b o (fun z=>hc (by simp[z])) e) (fun b o _ _ hc e _=>⟨o.slots,k b o (fun z=>hc (by simp[z])) e⟩) (fun _ _ _ _ n=>n)
  (fun b o hc e=>⟨o,k b o (fun z=>hc (by simp[z])) e⟩) (fun _ _ e=>e) (fun _ _ _ e=>e) (fun b ps e=>⟨#[],by rw[e];simp⟩) (fun m hm=>?_) (fun b u e=>?_) I.bare
 ·have e:b=it:=by simpa using hb
  subst e
  exact⟨h1,hL,h2,h3⟩
 ·obtain⟨o,es,ep,ho,r⟩:=hm
  exact⟨o,es,ep,k _ o (Ne.symm hL) ho,r⟩
 ·refine(I.hok b u e).stay (fun c v hc q=>k c v ?_ q) (fun _ q=>q) fun _ _ q=>q
  rcases hc with z|z
  ·rw[z];exact nit b u e
  ·exact nit c _ z
theorem Inv.tok(I:Inv X pins σ H s) (t:Nat):Inv X pins σ H { s with toks:=t }:=I.un (h':=s.heap) (t':=t) Un.refl I.hok
theorem Inv.kept(I:Inv X pins σ H s) (k:∀b u,s.heap.get? b=some u->h'.get? b=some u):Inv X pins σ H { s with heap:=h',toks:=t' }:=I.un (Un.kept k) (I.hok.kept k)
theorem Inv.laid(I:Inv X pins σ H s) (k:∀b u,s.heap.get? b=some u->h'.get? b=some u) (hp:s.heap.objs.size<=a) (new:M8 X.prog X.w (upd H a o) h' a o) :
  Inv X pins σ (upd H a o) { s with heap:=h',toks:=t' }:=I.un (Un.laid k hp (I.hok.fresh hp)) (I.hok.laid k hp new)
theorem Inv.write(I:Inv X pins σ H s) (mu:Mut (H x)) (he:e=x\/H e=some (.own x)) (k:∀b u,b≠e->s.heap.get? b=some u->h'.get? b=some u) (heo:∃u,h'.get? e=some u)
  (new:M8 X.prog X.w (upd H x o) h' x o):Inv X pins σ (upd H x o) { s with heap:=h',toks:=t' }:=I.un (Un.write mu he k heo) (I.hok.write mu he k heo new)
theorem Inv.pins_of(I:Inv X pins σ H s) (h:∀p∈pins',s.heap.get? p.1=some p.2/\H p.1=none/\p.1≠X.env.locals/\p.1∉X.fs/\∀v,p.2.data≠.cell v):Inv X pins' σ H s :=
 ⟨I.ok,I.os,I.bare,I.base,I.loc,I.cell,I.free,I.freeC,fun p hp=>(List.mem_append.mp hp).elim (fun z=>I.pin p (List.mem_append_left _ z)) (h p),I.hok,I.len⟩
theorem ar5{N:List Str}(hN:N.Nodup) {i j:Nat}{x:Str}(a:N[i]? = some x) (b:N[j]? = some x):i=j:=by
 obtain⟨h1,e1⟩:=List.getElem?_eq_some_iff.mp a
 obtain⟨h2,e2⟩:=List.getElem?_eq_some_iff.mp b
 exact(List.getElem_inj hN).mp (e1.trans e2.symm)
theorem ah5(I:Inv X pins σ H s) (hN:X.N.Nodup) (hi:X.N[i]? = some x) (hx:Loc X.env.scope x) (r:C3 v u)
  (h:∀s',Inv X pins (σ.set i (some v)) H s'->(∃a,Heap.SameBut a s.heap s'.heap/\(a=X.env.locals\/X.env.cells.lookup x=some a))->Q () s') (hf:X.fn x=true\/X.env.scope.names.lookup x=some .local:=by first|exact .inl rfl|exact .inr rfl|assumption):wpAny M A (storeName X.env x u) Q E s:=by
 obtain⟨m,hn,hl⟩:=id I.loc
 have hcls:(X.env.scope.kind == .class || (X.env.scope.kind == .module&&X.env.locals != X.env.globals))=false:=by rw[I.ok.kind];rfl
 have hiσ:i < σ.length:=by rw[I.len];exact(List.getElem?_eq_some_iff.mp hi).1
 have cne:=I.cne
 have tracked:∀{a:Addr}{h':Heap},(∃o,s.heap.get? a=some o/\H a=none)->Heap.SameBut a s.heap h'->HOk X.prog X.w H h':=fun{a h'} ha hs b ob e=>by
  obtain⟨_,_,hfree⟩:=ha
  refine(I.hok b ob e).stay (fun c w' hc q=>(hs.2 c ?_).trans q) (fun _ q=>q) fun _ _ q=>q
  rintro rfl
  rcases hc with rfl|hc
  ·rw[hfree]at e;cases e
  ·rw[hfree]at hc;cases hc
 rcases hx with hk|hk
 ·refine wpAny_storeName_local hk hn (fun h' hn' hs=>?_) hcls
  obtain⟨oL,_,_,hoL,_⟩:=id hn
  refine h _ ⟨I.ok,I.os,I.bare,⟨fun b o e n hb hx=>?_,fun b o e n hb hx=>?_,I.base.free,fun b o e hx=>?_,I.base.tups,I.base.frzs,I.base.tbls⟩,⟨_,hn',fun j y v' e1 e2 e3=>?_⟩,fun y c e=>?_,I.free,I.freeC,fun p hp=>?_,tracked ⟨oL,hoL,I.free⟩ hs,by simpa using I.len⟩ ⟨_,hs,.inl rfl⟩
  ·exact(hs.2 b (Nat.ne_of_lt (Nat.lt_of_lt_of_le (Heap.lt_size e) I.ok.above))).trans (I.base.keep b o e n hb hx)
  ·obtain⟨sl,e1⟩:=I.base.slot b o e n hb hx
   exact⟨sl,(hs.2 b (Nat.ne_of_lt (Nat.lt_of_lt_of_le (Heap.lt_size e) I.ok.above))).trans e1⟩
  ·obtain⟨o',e1⟩:=I.base.there b o e hx
   exact⟨o',(hs.2 b (Nat.ne_of_lt (Nat.lt_of_lt_of_le (Heap.lt_size e) I.ok.above))).trans e1⟩
  ·by_cases hj:j=i
   ·subst hj
    rw[hi]at e1;cases e1
    rw[List.getElem?_set_self hiσ]at e2
    cases e2
    exact⟨u,r,.inl ⟨hk,by simp⟩⟩
   ·rw[List.getElem?_set_ne (Ne.symm hj)]at e2
    obtain⟨u',r',q⟩:=hl j y v' e1 e2 e3
    refine⟨u',r',?_⟩
    rcases q with⟨k,e⟩|⟨k,c,e,z⟩
    ·refine .inl ⟨k,?_⟩
     have:y≠x:=fun e=>hj (ar5 hN e1 (e ▸ hi))
     simp[this,e]
    ·exact .inr ⟨k,c,e,z.sameBut hs (cne y c e)⟩
  ·obtain⟨w',z⟩:=I.cell y c e
   exact⟨w',z.sameBut hs (cne y c e)⟩
  ·obtain⟨e,n,ne,nf,d⟩:=I.pin p hp
   exact⟨(hs.2 p.1 ne).trans e,n,ne,nf,d⟩
 ·have hfn:X.fn x=true:=by
   rcases hf with z|z
   ·exact z
   ·rw[z]at hk;cases hk
  obtain⟨c,hc⟩:=I.ok.has x (.inl hk)
  obtain⟨w',z⟩:=I.cell x c hc
  refine wpAny_storeName_cell I.ok.kind hk hc z (fun h' hc' hs=>?_)
  obtain⟨oc,hoc,hocd⟩:=id z
  refine h { s with heap:=h' } ⟨I.ok,I.os,I.bare,⟨fun b o e n hb hx=>?_,fun b o e n hb hx=>?_,I.base.free,fun b o e hx=>?_,I.base.tups,I.base.frzs,I.base.tbls⟩,⟨m,hn.sameBut hs (Ne.symm (cne x c hc)),fun j y v' e1 e2 e3=>?_⟩,fun y c' e=>?_,I.free,I.freeC,fun p hp=>?_,tracked ⟨oc,hoc,I.freeC x c hc⟩ hs,by simpa using I.len⟩ ⟨c,hs,.inr hc⟩
  ·exact(hs.2 b (Nat.ne_of_lt (Nat.lt_of_lt_of_le (Heap.lt_size e) (I.ok.cab x c hfn hc)))).trans (I.base.keep b o e n hb hx)
  ·obtain⟨sl,e1⟩:=I.base.slot b o e n hb hx
   exact⟨sl,(hs.2 b (Nat.ne_of_lt (Nat.lt_of_lt_of_le (Heap.lt_size e) (I.ok.cab x c hfn hc)))).trans e1⟩
  ·obtain⟨o',e1⟩:=I.base.there b o e hx
   exact⟨o',(hs.2 b (Nat.ne_of_lt (Nat.lt_of_lt_of_le (Heap.lt_size e) (I.ok.cab x c hfn hc)))).trans e1⟩
  ·by_cases hj:j=i
   ·subst hj
    rw[hi]at e1;cases e1
    rw[List.getElem?_set_self hiσ]at e2
    cases e2
    exact⟨u,r,.inr ⟨.inl hk,c,hc,hc'⟩⟩
   ·rw[List.getElem?_set_ne (Ne.symm hj)]at e2
    obtain⟨u',r',q⟩:=hl j y v' e1 e2 e3
    refine⟨u',r',?_⟩
    rcases q with q|⟨k,c',e,z'⟩
    ·exact .inl q
    ·refine .inr ⟨k,c',e,z'.sameBut hs ?_⟩
     rintro rfl
     exact hj (ar5 hN e1 (I.ok.inj _ _ _ e hc ▸ hi))
  ·by_cases hcc:c'=c
   ·subst hcc;exact⟨_,hc'⟩
   ·obtain⟨w2,z2⟩:=I.cell y c' e
    exact⟨w2,z2.sameBut hs hcc⟩
  ·obtain⟨e,n,ne,nf,d⟩:=I.pin p hp
   refine⟨(hs.2 p.1 ?_).trans e,n,ne,nf,d⟩
   intro q
   rw[q,hoc]at e
   have q':oc=p.2:=Option.some.inj e
   exact d w' (by rw[← q'];exact hocd)
theorem j9(I:Inv X pins σ H s) (hN:X.N.Nodup) (hi:X.N[i]? = some x) (hx:Loc X.env.scope x) (r:C3 v u)
  (h:∀s',Inv X pins (σ.set i (some v)) H s'->Q () s') (hf:X.fn x=true\/X.env.scope.names.lookup x=some .local:=by first|exact .inl rfl|exact .inr rfl|assumption):wpAny M A (storeName X.env x u) Q E s :=
 ah5 I hN hi hx r (fun s' I' _=>h s' I') hf
theorem Inv.call'(I:Inv X pins σ H s) (ho:s'.os=s.os) (u:Un (frs X.stack) ch H H' s.heap s'.heap) (hok:HOk X.prog X.w H' s'.heap) (hg:AllBare s'.gens)
  (hch:∀b∈ch,(b∈X.ex\/X.s₀.heap.objs.size<=b)/\b≠X.env.locals/\(∀x c,X.env.cells.lookup x=some c->c≠b)/\∀p∈X.pn++pins,p.1≠b):Inv X pins σ H' s':=by
 obtain⟨h',g',d',t',o'⟩:=s'
 have e:o'=s.os:=ho
 subst e
 exact I.call (g':=g') (t':=t') (d':=d') u hok hg hch
end
noncomputable abbrev XK:=Value->Option Addr->Hp->Prop
noncomputable abbrev St:=List (Option V)
noncomputable abbrev VK:=V->Hp->Prop
noncomputable abbrev TE:=St->Hp->VK->Prop
noncomputable abbrev TT:=St->Hp->(Bool->Hp->Prop)->Prop
noncomputable abbrev TA:=St->Hp->(List V->Hp->Prop)->Prop
structure Ends where
 nx:St->Hp->Prop
 rt:VK
 bk:St->Hp->Prop:=fun _ _=>False
 ct:St->Hp->Prop:=fun _ _=>False
noncomputable abbrev TS:=Ends->St->Hp->Prop
noncomputable def EP(X:Cx) (pins:List (Addr×Obj)) (σ:St) (Q:VK) (u:Value) (s':Shared):Prop:=∃v H',Inv X pins σ H' s'/\C3 v u/\Q v H'
noncomputable def TP(X:Cx) (pins:List (Addr×Obj)) (σ:St) (Q:Bool->Hp->Prop) (b:Bool) (s':Shared):Prop:=∃H',Inv X pins σ H' s'/\Q b H'
noncomputable def AP(X:Cx) (pins:List (Addr×Obj)) (σ:St) (Q:List V->Hp->Prop) (us:List Value) (s':Shared):Prop:=∃vs H',Inv X pins σ H' s'/\B6 vs us/\Q vs H'
noncomputable def SP(X:Cx) (pins:List (Addr×Obj)) (D:Ends) (f:Flow) (s':Shared):Prop :=
 match f with
 | .next=>∃σ' H',Inv X pins σ' H' s'/\D.nx σ' H'
 | .brk=>∃σ' H',Inv X pins σ' H' s'/\D.bk σ' H'
 | .cont=>∃σ' H',Inv X pins σ' H' s'/\D.ct σ' H'
 | .ret u=>∃v σ' H',Inv X pins σ' H' s'/\C3 v u/\D.rt v H'
noncomputable def PE(X:Cx) (e:Expr) (t:TE):Prop :=
 ∀(pins:List (Addr×Obj)) (s:Shared) (σ:St) (H:Hp) (Q:VK),Inv X pins σ H s->t σ H Q->wpAny (model X.prog X.w) X.A (eval e X.env) (EP X pins σ Q) X.xe s
noncomputable def PT(X:Cx) (e:Expr) (t:TT):Prop :=
 ∀(pins:List (Addr×Obj)) (s:Shared) (σ:St) (H:Hp) (Q:Bool->Hp->Prop),Inv X pins σ H s->t σ H Q->wpAny (model X.prog X.w) X.A (isTrue e X.env (eval e X.env)) (TP X pins σ Q) X.xe s
noncomputable def PW(X:Cx) (e:Expr) (t:TT):Prop :=
 ∀(whole:Sem Value) (pins:List (Addr×Obj)) (s:Shared) (σ:St) (H:Hp) (Q:Bool->Hp->Prop),Inv X pins σ H s->t σ H Q->wpAny (model X.prog X.w) X.A (isTrue e X.env whole) (TP X pins σ Q) X.xe s
theorem PW.pt(h:PW X e t):PT X e t:=h _
noncomputable def PA(X:Cx) (es:List Expr) (t:TA):Prop :=
 ∀(pos:Pos) (pins:List (Addr×Obj)) (s:Shared) (σ:St) (H:Hp) (Q:List V->Hp->Prop),Inv X pins σ H s->t σ H Q->wpAny (model X.prog X.w) X.A (spliced (backTo pos (starEach es X.env))) (AP X pins σ Q) X.xe s
noncomputable def PS(X:Cx) (st:Stmt) (t:TS):Prop :=
 ∀(pins:List (Addr×Obj)) (s:Shared) (σ:St) (H:Hp) (D:Ends),Inv X pins σ H s->t D σ H->wpAny (model X.prog X.w) X.A (exec st X.env) (SP X pins D) X.xe s
noncomputable def PSs(X:Cx) (st:List Stmt) (t:TS):Prop :=
 ∀(pins:List (Addr×Obj)) (s:Shared) (σ:St) (H:Hp) (D:Ends),Inv X pins σ H s->t D σ H->wpAny (model X.prog X.w) X.A (execs st X.env) (SP X pins D) X.xe s
theorem thn{α:Type}{t:Sem α}{Q Q':α->Shared->Prop}{M:Model}{A:Around}{E:Value->Shared->Prop}{s:Shared}(h:wpAny M A t Q E s) (hQ:∀a s,Q a s->Q' a s):wpAny M A t Q' E s:=wpAny_mono h hQ fun _ _ x=>x
section
variable {X:Cx}
theorem bin{a b:Expr}{ta tb:TE}(ha:PE X a ta) (hb:PE X b tb) {pins:List (Addr×Obj)}{s:Shared}{σ:St}{H:Hp}{R:V->V->Hp->Prop}(I:Inv X pins σ H s) (h:ta σ H fun x H1=>tb σ H1 fun y H2=>R x y H2)
  {α:Type}{Q:α->Shared->Prop}{f:Value->Value->Sem α}
  (hf:∀v u s2 x y H2,Inv X pins σ H2 s2->C3 x v->C3 y u->R x y H2->wpAny (model X.prog X.w) X.A (f v u) Q X.xe s2) :
  wpAny (model X.prog X.w) X.A (eval a X.env) (fun v s₁=>wpAny (model X.prog X.w) X.A (eval b X.env) (fun u s₂=>wpAny (model X.prog X.w) X.A (f v u) Q X.xe s₂) X.xe s₁) X.xe s:=by
 refine thn (ha pins s σ H _ I h) fun v s1 ⟨x,H1,I1,r1,q1⟩=>?_
 refine thn (hb pins s1 σ H1 _ I1 q1) fun u s2 ⟨y,H2,I2,r2,q2⟩=>?_
 exact hf v u s2 x y H2 I2 r1 r2 q2
noncomputable def al0(i:Nat):TE:=fun σ H Q=>∃v,σ[i]? = some (some v)/\Q v H
noncomputable def tC(v:V):TE:=fun _ H Q=>Q v H
theorem S3(hN:X.N[i]? = some x) (hv:Vis X.env.scope x) (hd:(x==("__debug__" : Str))=false:=by decide) (hcd:(x==("__classdict__" : Str))=false:=by decide):PE X (.Name x pos) (al0 i):=by
 intro pins s σ H Q I h
 obtain⟨v,e,h⟩:=h
 obtain⟨m,hn,hl⟩:=I.loc
 obtain⟨u,r,l⟩:=hl i x v hN e hv
 have fin:EP X pins σ Q u s:=⟨v,H,I,r,h⟩
 rcases l with⟨hk,hm⟩|⟨hk,c,hc,hcell⟩
 ·exact wpAny_Name (wpAny_loadName_local I.ok.kind hk hn hm fin) hd
 ·rcases hk with hk|hk
  ·exact wpAny_Name (wpAny_loadName_cell I.ok.kind hk hc hcell fin) hd
  ·exact wpAny_Name (wpAny_loadName_free I.ok.kind hk hc hcell fin hcd) hd
theorem am6{i j pos}:PE X (.Constant (.int i) j pos) (tC (.int i)):=fun _ _ _ H _ I h=>wpAny_Constant_int ⟨.int i,H,I.tok _,⟨_,rfl⟩,h⟩
theorem bH9{b j pos}:PE X (.Constant (.bool b) j pos) (tC (.bl b)):=fun _ _ _ H _ I h=>Constant_bool ⟨.bl b,H,I,rfl,h⟩
theorem bu2{j pos}:PE X (.Constant .none j pos) (tC .non):=fun _ _ _ H _ I h=>Constant_none ⟨.non,H,I,rfl,h⟩
theorem aS6{x j pos}:PE X (.Constant (.str x) j pos) (tC (.str x)):=fun _ _ _ H _ I h=>Calls.Constant_str ⟨.str x,H,I.tok _,⟨_,rfl⟩,h⟩
noncomputable def Gl(X:Cx) (x:Str):Prop:=X.env.kindOf x=some .globalImplicit
theorem an8(I:Inv X pins σ H s) (hg:Gl X x) (hm:X.mg x=some u) (h:Q u s)
  (hd:(x==("__debug__" : Str))=false:=by decide):wpAny (model X.prog X.w) X.A (eval (.Name x pos) X.env) Q E s :=
 Calls.Name_function_global I.ok.kind hg (Calls.loadGlobal_global (by rw[I.ok.glob];exact I.mod.glob.keeps I.bk) hm h) hd
theorem ae0(I:Inv X pins σ H s) (hg:Gl X x) (hm:X.mg x=none) (hv:bootBuiltins x=some u) (h:Q u s)
  (hn:x ≠ "__name__" := by decide) (hd:(x==("__debug__" : Str))=false:=by decide):wpAny (model X.prog X.w) X.A (eval (.Name x pos) X.env) Q E s:=by
 obtain⟨mb,h1,h2⟩:=I.mod.blt
 exact Calls.Name_function_global I.ok.kind hg (Calls.loadGlobal_builtin (by rw[I.ok.glob];exact I.mod.glob.keeps I.bk) hm (by rw[I.ok.blt];exact h1.keeps I.bk) ((h2 x hn).trans hv) h) hd
theorem bf3(hg:Gl X x) (hm:X.mg x=some u) (r:C3 v u) (hd:(x==("__debug__" : Str))=false:=by decide):PE X (.Name x pos) (tC v) :=
 fun _ _ _ H _ I h=>an8 I hg hm ⟨v,H,I,r,h⟩ hd
theorem bf8(hg:Gl X x) (hm:X.mg x=none) (hv:bootBuiltins x=some u) (r:C3 v u) (hn:x ≠ "__name__" := by decide) (hd:(x==("__debug__" : Str))=false:=by decide):PE X (.Name x pos) (tC v) :=
 fun _ _ _ H _ I h=>ae0 I hg hm hv ⟨v,H,I,r,h⟩ hn hd
variable {a b:Expr}{ta tb:TE}{pos:Pos}
variable {tA tB':TT}{N4:List Expr}
noncomputable def bO6(t u:TT):TT:=fun σ H Q=>t σ H fun c H1=>if c=true then u σ H1 Q else Q false H1
noncomputable def tOr(t u:TT):TT:=fun σ H Q=>t σ H fun c H1=>if c=true then Q true H1 else u σ H1 Q
noncomputable def bO2(t:TT):TT:=fun σ H Q=>t σ H fun c H1=>Q (!c) H1
theorem be0(ha:PT X a tA):PW X (.BoolOp .And [a] pos) tA:=by
 intro wh pins s σ H Q I h
 refine isTrue_and (thn (ha pins s σ H Q I h) fun c s1 e=>?_)
 cases c with
 | true=>exact isTrue_and_nil e
 | false=>exact e
theorem bt1(ha:PT X a tA):PW X (.BoolOp .Or [a] pos) tA:=by
 intro wh pins s σ H Q I h
 refine isTrue_or (thn (ha pins s σ H Q I h) fun c s1 e=>?_)
 cases c with
 | false=>exact isTrue_or_nil e
 | true=>exact e
theorem aQ7(ha:PT X a tA) (hb:PW X (.BoolOp .And (b::N4) pos) tB'):PW X (.BoolOp .And (a::b::N4) pos) (bO6 tA tB'):=by
 intro wh pins s σ H Q I h
 refine isTrue_and (thn (ha pins s σ H _ I h) fun c s1 ⟨H1,I1,q1⟩=>?_)
 cases c with
 | true=>exact hb wh pins s1 σ H1 Q I1 q1
 | false=>exact⟨H1,I1,q1⟩
theorem bn5(ha:PT X a tA) (hb:PW X (.BoolOp .Or (b::N4) pos) tB'):PW X (.BoolOp .Or (a::b::N4) pos) (tOr tA tB'):=by
 intro wh pins s σ H Q I h
 refine isTrue_or (thn (ha pins s σ H _ I h) fun c s1 ⟨H1,I1,q1⟩=>?_)
 cases c with
 | true=>exact⟨H1,I1,q1⟩
 | false=>exact hb wh pins s1 σ H1 Q I1 q1
theorem bt2(ha:PT X a tA):PT X (.UnaryOp .Not a pos) (bO2 tA):=by
 intro pins s σ H Q I h
 exact isTrue_not (ha pins s σ H (fun c H1=>Q (!c) H1) I h)
noncomputable def bG6(ta tb:TE):TE:=fun σ H Q=>ta σ H fun x H1=>∃c,x=.bl c/\if c=true then tb σ H1 Q else Q (.bl false) H1
noncomputable def bO1(ta tb:TE):TE:=fun σ H Q=>ta σ H fun x H1=>∃c,x=.bl c/\if c=true then Q (.bl true) H1 else tb σ H1 Q
noncomputable def bF7(ta:TE):TE:=fun σ H Q=>ta σ H fun x H1=>∃c,x=.bl c/\Q (.bl (!c)) H1
theorem bu0{op} (h:PE X a t):PE X (.BoolOp op [a] pos) t:=fun pins s σ H Q I hw=>BoolOp_one (h pins s σ H Q I hw)
theorem aT3(ha:PE X a ta) (hb:PE X (.BoolOp .And (b::N4) pos) tb):PE X (.BoolOp .And (a::b::N4) pos) (bG6 ta tb):=by
 intro pins s σ H Q I h
 refine BoolOp_and (thn (ha pins s σ H _ I h) fun v s1 ⟨x,H1,I1,r1,q1⟩=>?_)
 obtain⟨c,rfl,q1⟩:=q1
 cases r1
 refine wpAny_truthy_bool ?_
 cases c with
 | true=>exact hb pins s1 σ H1 Q I1 q1
 | false=>exact⟨.bl false,H1,I1,rfl,q1⟩
theorem bn7(ha:PE X a ta) (hb:PE X (.BoolOp .Or (b::N4) pos) tb):PE X (.BoolOp .Or (a::b::N4) pos) (bO1 ta tb):=by
 intro pins s σ H Q I h
 refine BoolOp_or (thn (ha pins s σ H _ I h) fun v s1 ⟨x,H1,I1,r1,q1⟩=>?_)
 obtain⟨c,rfl,q1⟩:=q1
 cases r1
 refine wpAny_truthy_bool ?_
 cases c with
 | false=>exact hb pins s1 σ H1 Q I1 q1
 | true=>exact⟨.bl true,H1,I1,rfl,q1⟩
theorem bu1(ha:PE X a ta):PE X (.UnaryOp .Not a pos) (bF7 ta):=by
 intro pins s σ H Q I h
 refine UnaryOp_ (thn (ha pins s σ H _ I h) fun v s1 ⟨x,H1,I1,r1,q1⟩=>?_)
 obtain⟨c,rfl,q1⟩:=q1
 cases r1
 exact not_of (wpAny_truthy_bool ⟨.bl (!c),H1,I1,rfl,q1⟩)
noncomputable def tIf(t:TT) (ta tb:TE):TE:=fun σ H Q=>t σ H fun c H1=>if c=true then ta σ H1 Q else tb σ H1 Q
theorem ar3(hc:PT X c tA) (ha:PE X a ta) (hb:PE X b tb):PE X (.IfExp c a b pos) (tIf tA ta tb):=by
 intro pins s σ H Q I h
 refine wpAny_IfExp (thn (hc pins s σ H _ I h) fun d s1 ⟨H1,I1,q1⟩=>?_)
 cases d with
 | true=>exact ha pins s1 σ H1 Q I1 q1
 | false=>exact hb pins s1 σ H1 Q I1 q1
end
noncomputable def SqL(K:PySem.W.Frag) (H:Hp) (a:Addr) (xs:List V):Prop :=
 Rd H a (.lst xs) \/
  ∃(o:Obj) (its:Array Value) (n:Nat),K.lookup a=some o/\o.cls=.type "list" /\ o.dict=none/\o.data=.seq its n/\its.size<=sizeLine/\B6 xs its.toList
noncomputable def SqT(K:PySem.W.Frag) (H:Hp) (a:Addr) (xs:List V):Prop :=
 Rd H a (.tup xs) \/
  ∃(o:Obj) (its:Array Value) (n:Nat),K.lookup a=some o/\o.cls=.type "tuple" /\ o.dict=none/\o.data=.seq its n/\its.size<=sizeLine/\B6 xs its.toList
noncomputable def bP9:Value->Option V
 | .none=>some .non
 | .bool b=>some (.bl b)
 | .int i _=>some (.int i)
 | .str x _=>some (.str x)
 | .bytes b _=>some (.byt b)
 | .float b _=>some (.flt b)
 | .ref a=>some (.ref a)
 | .type n=>some (.ty n)
 | _=>none
theorem C3.abs(r:C3 x u):bP9 u=some x:=by
 cases x with
 | non=>cases r;rfl
 | bl _=>cases r;rfl
 | int _=>obtain⟨t,rfl⟩:=r;rfl
 | str _=>obtain⟨t,rfl⟩:=r;rfl
 | byt _=>obtain⟨t,rfl⟩:=r;rfl
 | flt _=>obtain⟨t,rfl⟩:=r;rfl
 | ref _=>cases r;rfl
 | ty _=>cases r;rfl
theorem C3.inj(r:C3 x u) (q:C3 y u):x=y:=Option.some.inj (r.abs.symm.trans q.abs)
theorem B6.inj:∀{xs ys:List V}{us:List Value},B6 xs us->B6 ys us->xs=ys
 | _,_,_,.nil,.nil=>rfl
 | _,_,_,.cons r t,.cons r' t'=>by rw[r.inj r',B6.inj t t']
section
variable {X:Cx}{pins:List (Addr×Obj)}{σ:St}{H:Hp}{s:Shared}{a:Addr}{xs ys:List V}
theorem SqL.of{K:PySem.W.Frag}(h:H a=some (.lst xs)):SqL K H a xs:=.inl (.inl h)
theorem SqT.of{K:PySem.W.Frag}(h:H a=some (.tup xs)):SqT K H a xs:=.inl (.inl h)
theorem Inv.list(I:Inv X pins σ H s) (h:SqL X.K H a xs):∃its:List Value,B6 xs its/\PlainL s.heap a its.toArray/\xs.length<=sizeLine:=by
 rcases h with h|⟨o,its,n,hk,hc,hd,hs,hz,r⟩
 ·obtain⟨z,its,n,r,e⟩:=h.ok I.hok
  exact⟨its,r,⟨_,n,e,rfl,rfl,rfl⟩,z⟩
 ·refine⟨its.toList,r,⟨o,n,I.kIn a o hk,hc,hd,by simpa using hs⟩,?_⟩
  have e:=r.length
  simp only[Array.length_toList]at e
  omega
theorem Inv.tupN(I:Inv X pins σ H s) (h:SqT X.K H a xs):∃its:List Value,B6 xs its/\af7 s.heap a its.toArray/\xs.length<=sizeLine:=by
 rcases h with h|⟨o,its,n,hk,hc,hd,hs,hz,r⟩
 ·obtain⟨z,its,r,p⟩:=h.ok I.hok
  exact⟨its,r,p,z⟩
 ·refine⟨its.toList,r,⟨o,I.kIn a o hk,hc,⟨n,by simpa using hs⟩,hd⟩,?_⟩
  have e:=r.length
  simp only[Array.length_toList]at e
  omega
theorem Inv.tuple(I:Inv X pins σ H s) (h:SqT X.K H a xs):∃its:List Value,B6 xs its/\IsTup s.heap a its.toArray/\xs.length<=sizeLine :=
 let⟨its,r,p,z⟩:=I.tupN h;⟨its,r,p.tup,z⟩
theorem Inv.list_inj(I:Inv X pins σ H s) (h:SqL X.K H a xs) (h':SqL X.K H a ys):xs=ys:=by
 obtain⟨its,r,⟨o,n,e,_,_,d⟩,_⟩:=I.list h
 obtain⟨its',r',⟨o',n',e',_,_,d'⟩,_⟩:=I.list h'
 rw[e]at e';cases e'
 rw[d]at d'
 injection d' with d1 _
 have:its=its':=by simpa using congrArg Array.toList d1
 subst this
 exact r.inj r'
theorem Inv.tuple_inj(I:Inv X pins σ H s) (h:SqT X.K H a xs) (h':SqT X.K H a ys):xs=ys:=by
 obtain⟨its,r,⟨o,e,_,n,d⟩,_⟩:=I.tuple h
 obtain⟨its',r',⟨o',e',_,n',d'⟩,_⟩:=I.tuple h'
 rw[e]at e';cases e'
 rw[d]at d'
 injection d' with d1 _
 have:its=its':=by simpa using congrArg Array.toList d1
 subst this
 exact r.inj r'
end
noncomputable abbrev Cx.wish(X:Cx) (E:Value->Shared->Prop):Cx:={ X with xe:=E }
noncomputable abbrev Cx.nox(X:Cx):Cx:=X.wish fun _ _=>False
theorem Cx.Ok.wish{X:Cx}(ok:X.Ok) (E:Value->Shared->Prop):(X.wish E).Ok :=
 ⟨ok.mod,ok.kind,ok.glob,ok.blt,ok.above,ok.inj,ok.has,ok.cab,ok.hd,ok.frames,ok.stk,ok.exf,ok.bs,ok.bsz,ok.noex,ok.exfs,ok.funs,ok.frf⟩
theorem Cx.Ok.unwish{X:Cx}{E:Value->Shared->Prop}(ok:(X.wish E).Ok):X.Ok :=
 ⟨ok.mod,ok.kind,ok.glob,ok.blt,ok.above,ok.inj,ok.has,ok.cab,ok.hd,ok.frames,ok.stk,ok.exf,ok.bs,ok.bsz,ok.noex,ok.exfs,ok.funs,ok.frf⟩
section
variable {X:Cx}{pins:List (Addr×Obj)}{σ:St}{H:Hp}{s:Shared}{E:Value->Shared->Prop}
theorem Inv.wish(I:Inv X pins σ H s) (E:Value->Shared->Prop):Inv (X.wish E) pins σ H s:=⟨I.ok.wish E,I.os,I.bare,I.base,I.loc,I.cell,I.free,I.freeC,I.pin,I.hok,I.len⟩
theorem Inv.unwish(I:Inv (X.wish E) pins σ H s):Inv X pins σ H s:=⟨I.ok.unwish,I.os,I.bare,I.base,I.loc,I.cell,I.free,I.freeC,I.pin,I.hok,I.len⟩
theorem SP.unwish(h:SP (X.wish E) pins D f s'):SP X pins D f s':=by
 cases f with
 | next=>obtain⟨σ',H',I,q⟩:=h;exact⟨σ',H',I.unwish,q⟩
 | brk=>obtain⟨σ',H',I,q⟩:=h;exact⟨σ',H',I.unwish,q⟩
 | cont=>obtain⟨σ',H',I,q⟩:=h;exact⟨σ',H',I.unwish,q⟩
 | ret u=>obtain⟨v,σ',H',I,r,q⟩:=h;exact⟨v,σ',H',I.unwish,r,q⟩
theorem PSs.nox{st:List Stmt}{t:TS}(h:PSs X.nox st t):PSs X st t:=fun pins s σ H D I hw =>wpAny_mono (h pins s σ H D (I.wish _) hw) (fun _ _ q=>q.unwish) fun _ _ z=>False.elim z
end
section
variable {X:Cx}{st:Stmt}{N4:List Stmt}{t u:TS}{e:Expr}{te:TE}{pos:Pos}
noncomputable def bn0:TS:=fun D σ H=>D.nx σ H
noncomputable def bN8(t u:TS):TS:=fun D σ H=>t { D with nx:=u D } σ H
theorem be5:PSs X [] bn0:=fun _ _ σ H _ I h=>wpAny_execs_nil ⟨σ,H,I,h⟩
theorem V3(h1:PS X st t) (h2:PSs X N4 u):PSs X (st::N4) (bN8 t u):=by
 intro pins s σ H D I h
 refine wpAny_execs_cons (thn (h1 pins s σ H { D with nx:=u D } I h) fun f s1 q=>?_)
 cases f with
 | next =>
  obtain⟨σ',H',I',q⟩:=q
  exact h2 pins s1 σ' H' D I' q
 | ret v=>exact q
 | brk=>exact q
 | cont=>exact q
theorem am4(h1:PS X st t):PSs X [st] t:=by
 intro pins s σ H D I h
 refine wpAny_execs_cons (thn (h1 pins s σ H D I h) fun f s1 q=>?_)
 cases f with
 | next=>exact wpAny_execs_nil q
 | ret v=>exact q
 | brk=>exact q
 | cont=>exact q
noncomputable def br8:TS:=fun D σ H=>D.bk σ H
noncomputable def bG2:TS:=fun D σ H=>D.ct σ H
theorem be6:PS X (.Pass pos) bn0:=fun _ _ σ H _ I h=>wpAny_Pass ⟨σ,H,I,h⟩
theorem aR6:PS X (.Break pos) br8:=fun _ _ σ H _ I h=>wpAny_Break ⟨σ,H,I,h⟩
theorem aq7:PS X (.Continue pos) bG2:=fun _ _ σ H _ I h=>wpAny_Continue ⟨σ,H,I,h⟩
theorem Inv.quiet(I:Inv X pins σ H s):interactive X.env=false:=by simp[interactive,I.ok.kind]
noncomputable def bF9(te:TE):TS:=fun D σ H=>te σ H fun _ H1=>D.nx σ H1
theorem am5(he:PE X e te) (hs:swapsWith e none pos.line X.env=pure false:=by rfl):PS X (.Expr e pos) (bF9 te):=by
 intro pins s σ H D I h
 exact wpAny_Expr_any (thn (he pins s σ H _ I h) fun v s1 ⟨x,H1,I1,r1,q1⟩=>⟨σ,H1,I1,q1⟩) I.quiet hs
noncomputable def bN9(te:TE):TS:=fun D σ H=>te σ H D.rt
theorem aR4(he:PE X e te):PS X (.Return (some e) pos) (bN9 te):=by
 intro pins s σ H D I h
 exact wpAny_Return_some (thn (he pins s σ H _ I h) fun v s1 ⟨x,H1,I1,r1,q1⟩=>⟨x,σ,H1,I1,r1,q1⟩)
noncomputable def bO4(c:TT) (t u:TS):TS:=fun D σ H=>c σ H fun b H1=>if b=true then t D σ H1 else u D σ H1
theorem bn6(hc:PT X c tc) (ha:PSs X a t) (hb:PSs X b u):PS X (.If c a b pos) (bO4 tc t u):=by
 intro pins s σ H D I h
 refine wpAny_If (thn (hc pins s σ H _ I h) fun d s1 ⟨H1,I1,q1⟩=>?_)
 cases d with
 | true=>exact ha pins s1 σ H1 D I1 q1
 | false=>exact hb pins s1 σ H1 D I1 q1
noncomputable def br6:TS:=fun _ _ _=>False
theorem V2:PSs X sts br6:=fun _ _ _ _ _ _ h=>h.elim
end
noncomputable abbrev TG:=V->St->Hp->(St->Hp->Prop)->Prop
noncomputable abbrev TGs:=List V->St->Hp->(St->Hp->Prop)->Prop
noncomputable def PG(X:Cx) (target:Expr) (t:TG):Prop :=
 ∀(pins:List (Addr×Obj)) (s:Shared) (σ:St) (H:Hp) (v:V) (u:Value) (Q:St->Hp->Prop),Inv X pins σ H s->C3 v u->t v σ H Q ->
  wpAny (model X.prog X.w) X.A (assign target X.env u) (fun _ s'=>∃σ' H',Inv X pins σ' H' s'/\Q σ' H') X.xe s
noncomputable def PGs(X:Cx) (ts:List Expr) (t:TGs):Prop :=
 ∀(pins:List (Addr×Obj)) (s:Shared) (σ:St) (H:Hp) (vs:List V) (us:List Value) (Q:St->Hp->Prop),Inv X pins σ H s->B6 vs us->t vs σ H Q ->
  wpAny (model X.prog X.w) X.A (assignInOrder ((assignEach ts X.env).map (·.2)) us) (fun _ s'=>∃σ' H',Inv X pins σ' H' s'/\Q σ' H') X.xe s
section
variable {X:Cx}{pos:Pos}
noncomputable def aY2(i:Nat):TG:=fun v σ H Q=>Q (σ.set i (some v)) H
theorem aD7(hN:X.N.Nodup) (hi:X.N[i]? = some x) (hx:Loc X.env.scope x) (hf:X.fn x=true\/X.env.scope.names.lookup x=some .local:=by first|exact .inl rfl|exact .inr rfl|assumption):PG X (.Name x pos) (aY2 i):=by
 intro pins s σ H v u Q I r h
 exact wpAny_assign_Name (j9 I hN hi hx r (fun s' I'=>⟨_,H,I',h⟩) hf)
noncomputable def bP6:TGs:=fun vs σ H Q=>vs=[]/\Q σ H
noncomputable def bL2(t:TG) (u:TGs):TGs:=fun vs σ H Q=>∃v r,vs=v::r/\t v σ H fun σ' H'=>u r σ' H' Q
theorem bf2:PGs X [] bP6:=by
 intro pins s σ H vs us Q I r h
 obtain⟨e,h⟩:=h
 subst e
 cases r
 exact assignInOrder_nil ⟨σ,H,I,h⟩
theorem aS5(h1:PG X e t) (h2:PGs X es u)
  (hs:(assignEach (e::es) X.env).map (·.2)=assign e X.env::(assignEach es X.env).map (·.2):=by rfl):PGs X (e::es) (bL2 t u):=by
 intro pins s σ H vs us Q I r h
 obtain⟨v,vr,e1,h⟩:=h
 subst e1
 cases r with
 | cons r rr =>
  rw[hs]
  refine assignInOrder_cons (thn (h1 pins s σ H _ _ _ I r h) fun _ s1 ⟨σ1,H1,I1,q1⟩=>?_)
  exact h2 pins s1 σ1 H1 _ _ Q I1 rr q1
noncomputable def bP5(K:PySem.W.Frag) (n:Nat) (t:TGs):TG:=fun v σ H Q=>∃a xs,v=.ref a/\SqT K H a xs/\xs.length=n/\t xs σ H Q
theorem bt7(hc:X.calm=true) (h:PGs X es t)
  (hn:(assignEach es X.env).length=n:=by rfl) (hst:(assignEach es X.env).findIdx? (·.1)=none:=by rfl):PG X (.Tuple es k pos) (bP5 X.K n t):=by
 intro pins s σ H v u Q I r hw
 obtain⟨a,xs,e1,hq,hl,hw⟩:=hw
 subst e1
 cases r
 obtain⟨its,rv,ht,hz⟩:=I.tuple hq
 refine assign_Tuple_tuple (I.ok.hd hc) ht (by simp[hn,← hl,rv.length]) hst fun h' hx=>?_
 have I1:Inv X pins σ H { s with heap:=h' }:=I.kept (t':=s.toks) fun b o e=>hx b o (Nat.ne_of_lt (Heap.lt_size e)) e
 exact h pins _ σ H xs _ Q I1 (by simpa using rv) hw
noncomputable def bG5(te:TE) (g:TG):TS:=fun D σ H=>te σ H fun x H1=>g x σ H1 D.nx
theorem bt6(he:PE X e te) (hg:PG X tg g) (hs:swapsWithSole [tg] e pos.line X.env=pure false:=by rfl) (hw:swappedStores [tg] e X.env=pure none:=by rfl)
  (h1:(assignEach [tg] X.env).map (·.2)=[assign tg X.env]:=by rfl):PS X (.Assign [tg] e pos) (bG5 te g):=by
 intro pins s σ H D I h
 refine wpAny_Assign_stores (thn (he pins s σ H _ I h) fun v s1 ⟨x,H1,I1,r1,q1⟩=>?_) hs hw
 rw[h1]
 exact thn (hg pins s1 σ H1 x v _ I1 r1 q1) fun _ s2 q=>q
theorem ax1(hN:X.N.Nodup) (hi:X.N[i]? = some x) (hx:Loc X.env.scope x) (he:PE X e te) (hs:swapsWith e (some (.Name x pos')) pos.line X.env=pure false:=by rfl) (hf:X.fn x=true\/X.env.scope.names.lookup x=some .local:=by first|exact .inl rfl|exact .inr rfl|assumption) :
  PS X (.Assign [.Name x pos'] e pos) (bG5 te (aY2 i)):=by
 intro pins s σ H D I h
 refine wpAny_Assign_Name (thn (he pins s σ H _ I h) fun v s1 ⟨y,H1,I1,r1,q1⟩=>?_) hs
 exact j9 I1 hN hi hx r1 (fun s2 I2=>⟨_,H1,I2,q1⟩) hf
noncomputable def bO0(i j:Nat) (ta:TA):TS:=fun D σ H=>ta σ H fun vs H1=>∃v w,vs=[v,w]/\D.nx ((σ.set i (some v)).set j (some w)) H1
theorem bt4{kt k2 pt2} (hc:X.calm=true) (hN:X.N.Nodup) (hi:X.N[i]? = some x) (hj:X.N[j]? = some y) (hij:i≠j)
  (hx:X.env.scope.names.lookup x=some .local) (hy:X.env.scope.names.lookup y=some .local) (ha:PA X [a,b] ta)
  (hw:swappedStores [.Tuple [.Name x px,.Name y py] kt pt] (.Tuple [a,b] k2 pt2) X.env=pure (some [x,y]))
  (hs:swapsWithSole [.Tuple [.Name x px,.Name y py] kt pt] (.Tuple [a,b] k2 pt2) pos.line X.env=pure false:=by rfl) :
  PS X (.Assign [.Tuple [.Name x px,.Name y py] kt pt] (.Tuple [a,b] k2 pt2) pos) (bO0 i j ta):=by
 intro pins s σ H D I h
 rw[exec_Assign_arm]
 refine wpAny_bind (wpAny_standAt ?_)
 rw[hs]
 refine wpAny_bind (wpAny_pure ?_)
 rw[if_neg (by decide)]
 refine wpAny_bind (Tuple_ (thn (ha _ pins s σ H _ I h) fun us s1 ⟨vs,H1,I1,r1,q1⟩=>?_))
 obtain⟨v,w,e1,q1⟩:=q1
 subst e1
 obtain⟨u1,u2,rfl,rv,rw'⟩:∃u1 u2,us=[u1,u2]/\C3 v u1/\C3 w u2:=by
  cases r1 with
  | cons p q =>
   cases q with
   | cons p' q' =>
    cases q'
    exact⟨_,_,rfl,p,p'⟩
 refine wpAny_newObj_type ?_ (by show 2<=sizeLine;decide)
 have I2:Inv X pins σ H1 { s1 with heap:=s1.heap.push { cls:=.type "tuple", data:=.seq [u1,u2].toArray } }:=I1.kept (t':=s1.toks) fun b o e=>Heap.get?_push_of_some _ e
 rw[hw]
 refine wpAny_bind (wpAny_pure ?_)
 show wpAny (model X.prog X.w) X.A (do rule "assign.swapped-stores";let items ← unpackItems (.ref s1.heap.objs.size) 2 none;assignInOrder [fun v=>bindName X.env y v,fun v=>bindName X.env x v] items.reverse;pure Flow.next) _ _ _
 refine wpAny_bind (wpAny_rule (wpAny_bind (unpackItems_tuple (items:=#[u1,u2]) (I.ok.hd hc) (IsTup.new s1.heap _) fun h' hx'=>?_)))
 have I3:=I2.kept (h':=h') (t':=s1.toks) fun b o e=>hx' b o (Nat.ne_of_lt (Heap.lt_size e)) e
 show wpAny _ _ (assignInOrder [fun v=>bindName X.env y v,fun v=>bindName X.env x v] [u2,u1] >>= fun _=>pure Flow.next) _ _ _
 refine wpAny_bind (assignInOrder_cons (wpAny_bindName (j9 I3 hN hj (.inl hy) rw' (fun s2 I4=>?_) (.inr hy))))
 refine assignInOrder_cons (wpAny_bindName (j9 I4 hN hi (.inl hx) rv (fun s3 I5=>assignInOrder_nil (wpAny_pure ?_)) (.inr hx)))
 rw[List.set_comm _ _ (Ne.symm hij)]at I5
 exact⟨_,H1,I5,q1⟩
end
section
variable {X:Cx}{pos:Pos}
noncomputable def br5(c:TT) (tb:TS):TS:=fun D σ H=>∃W:Nat->St->Hp->Prop,(∃m,W m σ H)/\∀m σ H,W m σ H ->
 c σ H fun b H1=>if b=true then ∃N:St->Hp->Prop,(∀σ' H',N σ' H'->∃m',m' < m/\W m' σ' H')/\tb { D with nx:=N,ct:=N,bk:=D.nx } σ H1 else D.nx σ H1
theorem aR3(hp:PassesOwn (model X.prog X.w) X.A X.env X.xe) (hc:PT X c tc) (hb:PSs X body tb):PS X (.While c body [] pos) (br5 tc tb):=by
 intro pins s σ H D I h
 obtain⟨W,⟨m0,w0⟩,turn⟩:=h
 refine wpAny_While (codeAny_whileLoop (fun n s'=>∃σ' H',Inv X pins σ' H' s'/\W n σ' H') ?_ m0 ⟨σ,H,I,w0⟩)
 rintro n s1 ⟨σ1,H1,I1,w1⟩
 refine wpAny_passesOwn hp (thn (hc pins s1 σ1 H1 _ I1 (turn n σ1 H1 w1)) fun b s2 ⟨H2,I2,q2⟩=>?_)
 cases b with
 | true =>
  obtain⟨N,hN,q2⟩:=q2
  rw[if_pos rfl]
  refine wpAny_passesOwn hp (thn (hb pins s2 σ1 H2 _ I2 q2) fun f s3 q3=>?_)
  cases f with
  | next =>
   obtain⟨σ3,H3,I3,n3⟩:=q3
   obtain⟨m',hm,w3⟩:=hN σ3 H3 n3
   exact⟨m',hm,σ3,H3,I3,w3⟩
  | cont =>
   obtain⟨σ3,H3,I3,n3⟩:=q3
   obtain⟨m',hm,w3⟩:=hN σ3 H3 n3
   exact⟨m',hm,σ3,H3,I3,w3⟩
  | brk=>exact q3
  | ret v=>exact q3
 | false =>
  rw[if_neg Bool.false_ne_true]
  exact wpAny_execs_nil ⟨σ1,H2,I2,q2⟩
end
structure It where
 go:Nat->Hp->Prop
 yld:Nat->Hp->V->Hp->Prop
 stop:Nat->Hp->Prop
noncomputable def W4(X:Cx) (pins:List (Addr×Obj)) (H:Hp) (b:Addr):Prop :=
 H b=none/\b≠X.env.locals/\b∉X.fs/\(b∈X.ex\/X.s₀.heap.objs.size<=b)/\(∀x c,X.env.cells.lookup x=some c->c≠b)/\∀p∈X.pn++pins,p.1≠b
theorem Inv.fpOk(I:Inv X pins σ H s) (hb:s.heap.objs.size<=b) (hn:H' b=none):W4 X pins H' b:=by
 refine⟨hn,Nat.ne_of_gt (Nat.lt_of_lt_of_le I.lt hb),I.nofs hb,.inr (Nat.le_trans I.sz hb),fun x c e z=>?_,fun p hp z=>?_⟩
 ·obtain⟨v,q⟩:=I.cell x c e
  exact absurd (Nat.lt_of_lt_of_le q.lt (by rw[z];exact hb)) (Nat.lt_irrefl _)
 ·exact absurd (Nat.lt_of_lt_of_le (Heap.lt_size (I.pin p hp).1) (by rw[z];exact hb)) (Nat.lt_irrefl _)
structure Turn (P:Program) (w:World) (K:PySem.W.Frag) (tg:Expr) (J:It) (fp:List Addr) (it:Addr) (tn:Nat->Heap->Prop):Prop where
 mem:it∈fp
 obj:∀i h,tn i h->∀b∈fp,∃o,h.get? b=some o/\∀v,o.data≠.cell v
 keep:∀i h h',tn i h->(∀b∈fp,∀o,h.get? b=some o->h'.get? b=some o)->tn i h'
 item:∀(X:Cx),X.prog=P->X.w=w->X.K=K->X.calm=true->∀(i:Nat) (pins:List (Addr×Obj)) (s:Shared) (σ:St) (H:Hp) (E:Value->Shared->Prop),Inv X pins σ H s->(∀b∈fp,W4 X pins H b)->tn i s.heap->J.go i H ->
  wpAny (model P w) X.A (pyNext (.ref it)) (fun r s1=>∃u,r=some u /\
   wpAny (model P w) X.A (letOwnedTupleGo tg (.ref it) u) (fun _ s2=>∃x H',Inv X pins σ H' s2/\C3 x u/\J.yld i H x H'/\tn (i+1) s2.heap/\∀b∈fp,H' b=none) E s1) E s
 done:∀(X:Cx),X.prog=P->X.w=w->X.K=K->X.calm=true->∀(i:Nat) (pins:List (Addr×Obj)) (s:Shared) (σ:St) (H:Hp) (E:Value->Shared->Prop),Inv X pins σ H s->(∀b∈fp,W4 X pins H b)->tn i s.heap->J.stop i H ->
  wpAny (model P w) X.A (pyNext (.ref it)) (fun r s1=>r=none/\Inv X pins σ H s1) E s
 self:∀(A:Around) (i:Nat) (s:Shared) (Q:Value->Shared->Prop) (E:Value->Shared->Prop),tn i s.heap->Q (.ref it) s->wpAny (model P w) A (pyIter (.ref it)) Q E s
noncomputable abbrev TI:=St->Hp->(It->Hp->Prop)->Prop
noncomputable def PIE(X:Cx) (pins:List (Addr×Obj)) (σ:St) (tg:Expr) (R:It->Hp->Prop) (itv:Value) (s2:Shared):Prop :=
 ∃(it:Addr) (fp:List Addr) (tn:Nat->Heap->Prop) (J:It) (H':Hp),itv=.ref it/\Inv X pins σ H' s2/\Turn X.prog X.w X.K tg J fp it tn/\tn 0 s2.heap/\(∀b∈fp,W4 X pins H' b)/\R J H'
noncomputable def PI(X:Cx) (tg iter:Expr) (wi:TI):Prop :=
 ∀(pins:List (Addr×Obj)) (s:Shared) (σ:St) (H:Hp) (R:It->Hp->Prop),Inv X pins σ H s->wi σ H R ->
  wpAny (model X.prog X.w) X.A (eval iter X.env) (fun v s1=>wpAny (model X.prog X.w) X.A (pyIter v) (PIE X pins σ tg R) X.xe s1) X.xe s
theorem aX9(ho:s.heap.get? it=some o) (hc:o.cls=.type n) (hd:o.data=.fields vs)
    (hn:["enumerate", "zip", "dict_itemiterator", "dict_reverseitemiterator", "odict_iterator", "itertools.zip_longest", "itertools.pairwise"].contains n=false) (hQ:Q () s):wpAny M A (letOwnedTupleGo tg (.ref it) u) Q E s:=by
  unfold letOwnedTupleGo
  cases tg<;>first
    | exact wpAny_pure hQ
    | (cases u<;>first
        | exact wpAny_pure hQ
        | (refine wpAny_bind (wpAny_load ho ?_)
           rw[hc,hd]
           show wpAny M A (if(["enumerate", "zip", "dict_itemiterator", "dict_reverseitemiterator", "odict_iterator", "itertools.zip_longest", "itertools.pairwise"].contains n&&vs[0]? == some (rawInt _))=true then _ else _) Q E s
           rw[if_neg (by intro h;rw[hn,Bool.false_and]at h;cases h)]
           exact wpAny_pure hQ))
noncomputable def Itl(K:PySem.W.Frag) (a:Addr):It :=
 ⟨fun i H=>∃xs x,SqL K H a xs/\xs[i]? = some x,fun i H x H'=>H'=H/\∀xs,SqL K H a xs->xs[i]? = some x,fun i H=>∃xs,SqL K H a xs/\xs.length<=i⟩
noncomputable def Itt(K:PySem.W.Frag) (a:Addr):It :=
 ⟨fun i H=>∃xs x,SqT K H a xs/\xs[i]? = some x,fun i H x H'=>H'=H/\∀xs,SqT K H a xs->xs[i]? = some x,fun i H=>∃xs,SqT K H a xs/\xs.length<=i⟩
noncomputable def Itr(lo:Int) (n:Nat):It:=⟨fun i _=>i < n,fun i H x H'=>H'=H/\x=.int (lo+i),fun i _=>n<=i⟩
theorem aI3{P:Program}{w:World}{K:PySem.W.Frag}{tg:Expr}(a it:Addr):Turn P w K tg (Itl K a) [it] it (fun i h=>h.IsListIter it a i) where
 mem:=by simp
 obj:=fun i h st b hb=>by
  have e:b=it:=by simpa using hb
  subst e
  obtain⟨o,e,c,d⟩:=st
  exact⟨o,e,fun v z=>by rw[d]at z;cases z⟩
 keep:=fun i h h' st k=>st.at fun o e=>k it (by simp) o e
 item:=by
  intro X hP hw hK hc i pins s σ H E I hf st hg
  subst hP hw hK
  obtain⟨xs,x,hq,hx⟩:=hg
  obtain⟨its,rv,p,hz⟩:=I.list hq
  obtain⟨u,hu,ru⟩:=rv.get hx
  obtain⟨f0,f1,f2,f3,f4,f5⟩:=hf it (by simp)
  refine wpAny_pyNext_list_item st p.isList (x:=u) (by simpa using hu) fun h' st' sb=>?_
  have I1:Inv X pins σ H { s with heap:=h' }:=I.turned (t':=s.toks) (fun b o hb e=>(sb.2 b hb).trans e) f0 f1 f3 f4 f5
  obtain⟨o,e,c,d⟩:=id st'
  exact⟨u,rfl,aX9 (s:={ s with heap:=h' }) e c d (by decide) ⟨x,H,I1,ru,⟨rfl,fun ys hy=>by rw[I.list_inj hy hq];exact hx⟩,st',fun b hb=>(hf b hb).1⟩⟩
 done:=by
  intro X hP hw hK hc i pins s σ H E I hf st hg
  subst hP hw hK
  obtain⟨xs,hq,hx⟩:=hg
  obtain⟨its,rv,p,hz⟩:=I.list hq
  obtain⟨f0,f1,f2,f3,f4,f5⟩:=hf it (by simp)
  have hl:=rv.length
  exact wpAny_pyNext_list_end (I.ok.hd hc) st p.isList (by simp;omega) fun h' eb=>⟨rfl,I.turned (t':=s.toks) (fun b o hb e=>eb b o hb e) f0 f1 f3 f4 f5⟩
 self:=fun _ _ _ _ _ st h=>wpAny_pyIter_listiter st h
theorem aw1{P:Program}{w:World}{K:PySem.W.Frag}{tg:Expr}(a it:Addr):Turn P w K tg (Itt K a) [it] it (fun i h=>h.IsTupleIter it a i) where
 mem:=by simp
 obj:=fun i h st b hb=>by
  have e:b=it:=by simpa using hb
  subst e
  obtain⟨o,e,c,d⟩:=st
  exact⟨o,e,fun v z=>by rw[d]at z;cases z⟩
 keep:=fun i h h' st k=>st.at fun o e=>k it (by simp) o e
 item:=by
  intro X hP hw hK hc i pins s σ H E I hf st hg
  subst hP hw hK
  obtain⟨xs,x,hq,hx⟩:=hg
  obtain⟨its,rv,p,hz⟩:=I.tuple hq
  obtain⟨u,hu,ru⟩:=rv.get hx
  obtain⟨f0,f1,f2,f3,f4,f5⟩:=hf it (by simp)
  refine wpAny_pyNext_tuple_item st (show s.heap.IsTuple a its.toArray from p) (x:=u) (by simpa using hu) fun h' st' sb=>?_
  have I1:Inv X pins σ H { s with heap:=h' }:=I.turned (t':=s.toks) (fun b o hb e=>(sb.2 b hb).trans e) f0 f1 f3 f4 f5
  obtain⟨o,e,c,d⟩:=id st'
  exact⟨u,rfl,aX9 (s:={ s with heap:=h' }) e c d (by decide) ⟨x,H,I1,ru,⟨rfl,fun ys hy=>by rw[I.tuple_inj hy hq];exact hx⟩,st',fun b hb=>(hf b hb).1⟩⟩
 done:=by
  intro X hP hw hK hc i pins s σ H E I hf st hg
  subst hP hw hK
  obtain⟨xs,hq,hx⟩:=hg
  obtain⟨its,rv,p,hz⟩:=I.tuple hq
  obtain⟨f0,f1,f2,f3,f4,f5⟩:=hf it (by simp)
  have hl:=rv.length
  exact wpAny_pyNext_tuple_end (I.ok.hd hc) st (show s.heap.IsTuple a its.toArray from p) (by simp;omega) fun h' eb=>⟨rfl,I.turned (t':=s.toks) (fun b o hb e=>eb b o hb e) f0 f1 f3 f4 f5⟩
 self:=fun _ _ _ _ _ st h=>wpAny_pyIter_tupleiter st h
theorem aw2{P:Program}{w:World}{K:PySem.W.Frag}{tg:Expr}(it:Addr) (lo:Int) (n:Nat):Turn P w K tg (Itr lo n) [it] it (fun i h=>IsRangeIter h it (lo+(i:Nat)*1) ((n:Int) - (i:Nat)) 1) where
 mem:=by simp
 obj:=fun i h st b hb=>by
  have e:b=it:=by simpa using hb
  subst e
  exact⟨_,st,fun v z=>by
   have z':Data.fields _=Data.cell v:=z
   cases z'⟩
 keep:=fun i h h' st k=>k it (by simp) _ st
 item:=by
  intro X hP hw hK hc i pins s σ H E I hf st hg
  subst hP hw hK
  obtain⟨f0,f1,f2,f3,f4,f5⟩:=hf it (by simp)
  have W:=Walks.range (prog:=X.prog) (w:=X.w) (I.ok.hd hc) it lo 1 n
  refine W.item i s _ _ hg st fun v h' tk hv st' kk=>?_
  obtain⟨t,rfl⟩:=hv
  have I1:Inv X pins σ H { s with heap:=h',toks:=tk }:=I.turned (fun b o hb e=>kk b o (by simpa using hb) e) f0 f1 f3 f4 f5
  refine⟨_,rfl,aX9 (s:={ s with heap:=h',toks:=tk }) (n := "range_iterator") st' rfl rfl (by decide) ⟨.int (lo+i),H,I1,⟨t,?_⟩,⟨rfl,rfl⟩,st',fun b hb=>(hf b hb).1⟩⟩
  rw[Int.mul_one]
 done:=by
  intro X hP hw hK hc i pins s σ H E I hf st hg
  subst hP hw hK
  obtain⟨f0,f1,f2,f3,f4,f5⟩:=hf it (by simp)
  exact wpAny_pyNext_range_end (I.ok.hd hc) st (by have:n<=i:=hg;omega) fun h' eb=>⟨rfl,I.turned (t':=s.toks) (fun b o hb e=>eb b o hb e) f0 f1 f3 f4 f5⟩
 self:=fun _ _ _ _ _ st h=>wpAny_pyIter_rangeiter st h
section
variable {X:Cx}{tg:Expr}
noncomputable def bL0(K:PySem.W.Frag) (tl:TE):TI:=fun σ H R=>tl σ H fun x H1=>∃a,x=.ref a/\(∃xs,SqL K H1 a xs)/\R (Itl K a) H1
noncomputable def bP4(K:PySem.W.Frag) (tl:TE):TI:=fun σ H R=>tl σ H fun x H1=>∃a,x=.ref a/\(∃xs,SqT K H1 a xs)/\R (Itt K a) H1
theorem bf1{l:Expr}{tl:TE}(hl:PE X l tl):PI X tg l (bL0 X.K tl):=by
 intro pins s σ H R I h
 refine thn (hl pins s σ H _ I h) fun v s1 ⟨x,H1,I1,r1,q1⟩=>?_
 obtain⟨a,e,⟨xs,hq⟩,q⟩:=q1
 subst e
 cases r1
 obtain⟨its,rv,p,hz⟩:=I1.list hq
 refine wpAny_pyIter_list p.isList ?_
 refine⟨s1.heap.objs.size,[s1.heap.objs.size],_,_,H1,rfl,I1.kept (t':=s1.toks) fun b o e=>Heap.get?_push_of_some _ e,aI3 a _,⟨_,Heap.get?_push_size _ rfl,rfl,rfl⟩,fun b hb=>?_,q⟩
 have e:b=s1.heap.objs.size:=by simpa using hb
 subst e
 exact I1.fpOk (Nat.le_refl _) (I1.hok.fresh (Nat.le_refl _))
theorem aS4{l:Expr}{tl:TE}(hl:PE X l tl):PI X tg l (bP4 X.K tl):=by
 intro pins s σ H R I h
 refine thn (hl pins s σ H _ I h) fun v s1 ⟨x,H1,I1,r1,q1⟩=>?_
 obtain⟨a,e,⟨xs,hq⟩,q⟩:=q1
 subst e
 cases r1
 obtain⟨its,rv,p,hz⟩:=I1.tuple hq
 refine wpAny_pyIter_tuple (show s1.heap.IsTuple a its.toArray from p) ?_
 refine⟨s1.heap.objs.size,[s1.heap.objs.size],_,_,H1,rfl,I1.kept (t':=s1.toks) fun b o e=>Heap.get?_push_of_some _ e,aw1 a _,⟨_,Heap.get?_push_size _ rfl,rfl,rfl⟩,fun b hb=>?_,q⟩
 have e:b=s1.heap.objs.size:=by simpa using hb
 subst e
 exact I1.fpOk (Nat.le_refl _) (I1.hok.fresh (Nat.le_refl _))
theorem aQ4{pins:List (Addr×Obj)}{σ:St}{H:Hp}{s:Shared}{R:It->Hp->Prop}{E:Value->Shared->Prop}{lo hi:Int}{t u v:Tok}{tk:Nat}(I:Inv X pins σ H s) (h1:-(2 ^ 62)<=lo) (h2:lo < 2 ^ 62) (h3:-(2 ^ 62)<=hi) (h4:hi < 2 ^ 62)
  (q:R (Itr lo (hi - lo).toNat) H):wpAny (model X.prog X.w) X.A (pyIter (.ref s.heap.objs.size)) (PIE X pins σ tg R) E { s with heap:=s.heap.push { cls:=.type "range", data:=.fields #[.int lo t,.int hi u,.int 1 v] },toks:=tk }:=by
 refine wpAny_pyIter_range (IsRange.new ..) (small_one h1 h2 h3 h4) ?_
 have I1:Inv X pins σ H { s with heap:=s.heap.push { cls:=.type "range", data:=.fields #[.int lo t,.int hi u,.int 1 v] },toks:=tk }:=I.kept fun b o e=>Heap.get?_push_of_some _ e
 refine⟨(s.heap.push { cls:=.type "range", data:=.fields #[.int lo t,.int hi u,.int 1 v] }).objs.size,[(s.heap.push { cls:=.type "range", data:=.fields #[.int lo t,.int hi u,.int 1 v] }).objs.size],_,_,H,rfl,
  I1.kept (t':=tk) fun b o e=>Heap.get?_push_of_some _ e,aw2 _ lo (hi - lo).toNat,?_,fun b hb=>?_,q⟩
 ·have e1:lo+((0:Nat):Int)*1=lo:=by simp
  have e2:(((hi - lo).toNat:Nat):Int) - ((0:Nat):Int)=Builtin.Range.rangeSize lo hi 1:=by rw[rangeSize_one];split<;>omega
  show IsRangeIter _ _ (lo+((0:Nat):Int)*1) ((((hi - lo).toNat:Nat):Int) - ((0:Nat):Int)) 1
  rw[e1,e2]
  exact Heap.get?_push_size _ rfl
 ·have e:b=(s.heap.push { cls:=.type "range", data:=.fields #[.int lo t,.int hi u,.int 1 v] }).objs.size:=by simpa using hb
  subst e
  exact I1.fpOk (Nat.le_refl _) (I1.hok.fresh (Nat.le_refl _))
noncomputable def bK9(ta:TA):TI:=fun σ H R=>ta σ H fun vs H1=>∃j:Int,vs=[.int j]/\-(2 ^ 62)<=j/\j < 2 ^ 62/\R (Itr 0 j.toNat) H1
theorem aJ9{a:Expr}{ta:TA}{p pos:Pos}(hg:Gl X "range") (hm:X.mg "range" = none) (ha:PA X [a] ta) (hs:starEach [a] X.env=[(false,eval a X.env)]:=by rfl):PI X tg (.Call (.Name "range" p) [a] [] pos) (bK9 ta):=by
 intro pins s σ H R I h
 refine Call_ (ae0 I hg hm boot_range (PyProof.Rows.callWith_type1 (thn (ha pos pins s σ H _ I h) fun us s1 ⟨vs,H1,I1,r1,q1⟩=>?_) hs rfl))
 obtain⟨j,e,q1,q2,q⟩:=q1
 subst e
 cases r1 with
 | cons r rr =>
  cases rr
  obtain⟨t,rfl⟩:=r
  exact call_range_1 (aQ4 I1 (by omega) (by omega) q1 q2 (by simpa using q))
noncomputable def bO5(wi:TI) (g:TG) (tb:TS):TS:=fun D σ H=>wi σ H fun J H1=>∃W:Nat->Nat->St->Hp->Prop,(∃m,W 0 m σ H1)/\∀i m σ H,W i m σ H ->
 (J.stop i H/\D.nx σ H)\/(J.go i H/\∃N:St->Hp->Prop,(∀σ' H',N σ' H'->∃m',m' < m/\W (i+1) m' σ' H')/\∀x H',J.yld i H x H'->g x σ H' fun σ2 H2=>tb { D with nx:=N,ct:=N,bk:=D.nx } σ2 H2)
noncomputable def ad3(fp:List Addr) (h:Heap):List (Addr×Obj):=fp.filterMap fun b=>(h.get? b).map fun o=>(b,o)
theorem X4(hb:b∈fp) (e:h.get? b=some o):(b,o)∈ad3 fp h:=List.mem_filterMap.mpr ⟨b,hb,by rw[e];rfl⟩
theorem aK3(hp:p∈ad3 fp h):p.1∈fp/\h.get? p.1=some p.2:=by
 obtain⟨b,hb,e⟩:=List.mem_filterMap.mp hp
 cases q:h.get? b with
 | none=>rw[q]at e;cases e
 | some o =>
  rw[q]at e
  have e':(b,o)=p:=Option.some.inj e
  subst e'
  exact⟨hb,q⟩
theorem Inv.pinned(I:Inv X pins σ H s) (hf:∀b∈fp,W4 X pins H b) (ho:∀b∈fp,∃o,s.heap.get? b=some o/\∀v,o.data≠.cell v):Inv X (pins++ad3 fp s.heap) σ H s :=
 I.pins_of fun p hp=>(List.mem_append.mp hp).elim (fun z=>I.pin p (List.mem_append_right _ z)) fun z=>by
  obtain⟨hb,e⟩:=aK3 z
  obtain⟨f0,f1,f2,_⟩:=hf p.1 hb
  obtain⟨o,e',d⟩:=ho p.1 hb
  rw[e]at e';cases e'
  exact⟨e,f0,f1,f2,d⟩
theorem Inv.unpinned(I:Inv X (pins++pl) σ H s):Inv X pins σ H s:=I.pins_of fun p hp=>I.pin p (List.mem_append_right _ (List.mem_append_left _ hp))
theorem aR5(hp:PassesOwn (model X.prog X.w) X.A X.env X.xe) (hc:X.calm=true) (hi:PI X tg iter wi) (hg:PG X tg g) (hb:PSs X body tb)
  (hs:∀x,foldedSetIterable iter X.env x=pure x:=by intro _;rfl):PS X (.For tg iter body [] pos) (bO5 wi g tb):=by
 intro pins s σ H D I h
 refine wpAny_For (thn (hi pins s σ H _ I h) fun v s1 h1=>thn h1 fun itv s2 h2=>?_) hs
 obtain⟨it,fp,tn,J,H2,e,I2,T,st2,f2,W,⟨m0,w0⟩,turn⟩:=h2
 subst e
 have stat:∀{H':Hp},(∀b∈fp,H' b=none)->∀b∈fp,W4 X pins H' b:=fun hn b hb=>⟨hn b hb,(f2 b hb).2⟩
 refine codeAny_forLoop_any (fun n s'=>∃i σ' H',Inv X pins σ' H' s'/\tn i s'.heap/\(∀b∈fp,H' b=none)/\W i n σ' H') ?_ m0 ⟨0,σ,H2,I2,st2,fun b hb=>(f2 b hb).1,w0⟩
 rintro n s3 ⟨i,σ3,H3,I3,st3,fr3,w3⟩
 rcases turn i n σ3 H3 w3 with⟨stop,qn⟩|⟨go,N,hN,step⟩
 ·refine wpAny_passesOwn hp (thn (T.done X rfl rfl rfl hc i pins s3 σ3 H3 X.xe I3 (stat fr3) st3 stop) fun r s4 ⟨hr,I4⟩=>?_)
  subst hr
  exact wpAny_execs_nil ⟨σ3,H3,I4,qn⟩
 ·refine wpAny_passesOwn hp (thn (T.item X rfl rfl rfl hc i pins s3 σ3 H3 X.xe I3 (stat fr3) st3 go) fun r s4 ⟨u,hr,h4⟩=>?_)
  subst hr
  refine wpAny_passesOwn hp (thn h4 fun _ s5 ⟨x,H5,I5,r5,y5,st5,fr5⟩=>?_)
  have I5':=I5.pinned (stat fr5) (T.obj _ _ st5)
  refine wpAny_passesOwn hp (thn (hg _ s5 σ3 H5 x u _ I5' r5 (step x H5 y5)) fun _ s6 ⟨σ6,H6,I6,q6⟩=>?_)
  refine wpAny_passesOwn hp (thn (hb _ s6 σ6 H6 _ I6 q6) fun f s7 q7=>?_)
  have again:∀{σ7:St}{H7:Hp},Inv X (pins++ad3 fp s5.heap) σ7 H7 s7->N σ7 H7->∃m,m < n/\∃i σ' H',Inv X pins σ' H' s7/\tn i s7.heap/\(∀b∈fp,H' b=none)/\W i m σ' H':=fun{σ7 H7} I7 n7=>by
   obtain⟨m',hm,w7⟩:=hN σ7 H7 n7
   refine⟨m',hm,i+1,σ7,H7,I7.unpinned,T.keep _ _ _ st5 fun b hb o e=>(I7.pin (b,o) (List.mem_append_right _ (List.mem_append_right _ (X4 hb e)))).1,fun b hb=>?_,w7⟩
   obtain⟨o,e,d⟩:=T.obj _ _ st5 b hb
   exact(I7.pin (b,o) (List.mem_append_right _ (List.mem_append_right _ (X4 hb e)))).2.1
  cases f with
  | next=>obtain⟨σ7,H7,I7,n7⟩:=q7;exact again I7 n7
  | cont=>obtain⟨σ7,H7,I7,n7⟩:=q7;exact again I7 n7
  | brk=>obtain⟨σ7,H7,I7,q7⟩:=q7;exact⟨σ7,H7,I7.unpinned,q7⟩
  | ret v=>obtain⟨x7,σ7,H7,I7,r7,q7⟩:=q7;exact⟨x7,σ7,H7,I7.unpinned,r7,q7⟩
end
theorem bL3{K:PySem.W.Frag}{a:Addr}{xs:List V}{g:TG}{tb:TS}{D:Ends}{σ:St}{H:Hp}(Pv:Nat->St->Hp->Prop) (h0:Pv 0 σ H) (hl:∀i σ H,i<=xs.length->Pv i σ H->SqL K H a xs)
  (hs:∀i x σ H,xs[i]? = some x->Pv i σ H->g x σ H fun σ2 H2=>tb { D with nx:=Pv (i+1),ct:=Pv (i+1),bk:=D.nx } σ2 H2) (hd:∀σ H,Pv xs.length σ H->D.nx σ H) :
  ∃W:Nat->Nat->St->Hp->Prop,(∃m,W 0 m σ H)/\∀i m σ H,W i m σ H ->
   ((Itl K a).stop i H/\D.nx σ H)\/((Itl K a).go i H/\∃N:St->Hp->Prop,(∀σ' H',N σ' H'->∃m',m' < m/\W (i+1) m' σ' H')/\∀x H',(Itl K a).yld i H x H'->g x σ H' fun σ2 H2=>tb { D with nx:=N,ct:=N,bk:=D.nx } σ2 H2):=by
 refine⟨fun i m σ H=>m=xs.length - i/\i<=xs.length/\Pv i σ H,⟨xs.length,by simp,Nat.zero_le _,h0⟩,?_⟩
 rintro i m σ H ⟨rfl,hi,p⟩
 have q:=hl i σ H hi p
 by_cases hlt:i < xs.length
 ·refine .inr ⟨⟨xs,xs[i],q,by simp[hlt]⟩,Pv (i+1),fun σ' H' p'=>⟨xs.length - (i+1),by omega,rfl,hlt,p'⟩,fun x H' y=>?_⟩
  obtain⟨e,y⟩:=y
  subst e
  exact hs i x σ _ (y xs q) p
 ·have e:i=xs.length:=by omega
  subst e
  exact .inl ⟨⟨xs,q,Nat.le_refl _⟩,hd σ H p⟩
theorem bk8{K:PySem.W.Frag}{a:Addr}{xs:List V}{g:TG}{tb:TS}{D:Ends}{σ:St}{H:Hp}(Pv:Nat->St->Hp->Prop) (h0:Pv 0 σ H) (hl:∀i σ H,i<=xs.length->Pv i σ H->SqT K H a xs)
  (hs:∀i x σ H,xs[i]? = some x->Pv i σ H->g x σ H fun σ2 H2=>tb { D with nx:=Pv (i+1),ct:=Pv (i+1),bk:=D.nx } σ2 H2) (hd:∀σ H,Pv xs.length σ H->D.nx σ H) :
  ∃W:Nat->Nat->St->Hp->Prop,(∃m,W 0 m σ H)/\∀i m σ H,W i m σ H ->
   ((Itt K a).stop i H/\D.nx σ H)\/((Itt K a).go i H/\∃N:St->Hp->Prop,(∀σ' H',N σ' H'->∃m',m' < m/\W (i+1) m' σ' H')/\∀x H',(Itt K a).yld i H x H'->g x σ H' fun σ2 H2=>tb { D with nx:=N,ct:=N,bk:=D.nx } σ2 H2):=by
 refine⟨fun i m σ H=>m=xs.length - i/\i<=xs.length/\Pv i σ H,⟨xs.length,by simp,Nat.zero_le _,h0⟩,?_⟩
 rintro i m σ H ⟨rfl,hi,p⟩
 have q:=hl i σ H hi p
 by_cases hlt:i < xs.length
 ·refine .inr ⟨⟨xs,xs[i],q,by simp[hlt]⟩,Pv (i+1),fun σ' H' p'=>⟨xs.length - (i+1),by omega,rfl,hlt,p'⟩,fun x H' y=>?_⟩
  obtain⟨e,y⟩:=y
  subst e
  exact hs i x σ _ (y xs q) p
 ·have e:i=xs.length:=by omega
  subst e
  exact .inl ⟨⟨xs,q,Nat.le_refl _⟩,hd σ H p⟩
noncomputable abbrev R2:=V->V->Hp->VK->Prop
noncomputable def OpR(X:Cx) (f:Value->Value->Sem Value) (r:R2):Prop :=
 ∀(pins:List (Addr×Obj)) (s:Shared) (σ:St) (H:Hp) (x y:V) (v u:Value) (Q:VK),Inv X pins σ H s->C3 x v->C3 y u->r x y H Q ->
  wpAny (model X.prog X.w) X.A (f v u) (EP X pins σ Q) X.xe s
noncomputable def UnR(X:Cx) (f:Value->Sem Value) (r:V->Hp->VK->Prop):Prop :=
 ∀(pins:List (Addr×Obj)) (s:Shared) (σ:St) (H:Hp) (x:V) (v:Value) (Q:VK),Inv X pins σ H s->C3 x v->r x H Q ->
  wpAny (model X.prog X.w) X.A (f v) (EP X pins σ Q) X.xe s
noncomputable def W8(X:Cx) (f:Value) (r:List V->Hp->VK->Prop):Prop :=
 ∀(pins:List (Addr×Obj)) (s:Shared) (σ:St) (H:Hp) (xs:List V) (us:List Value) (Q:VK),Inv X pins σ H s->B6 xs us->r xs H Q ->
  wpAny (model X.prog X.w) X.A (call f us) (EP X pins σ Q) X.xe s
noncomputable def bQ1(X:Cx) (r:V->Hp->(Bool->Hp->Prop)->Prop):Prop :=
 ∀(pins:List (Addr×Obj)) (s:Shared) (σ:St) (H:Hp) (x:V) (v:Value) (Q:Bool->Hp->Prop),Inv X pins σ H s->C3 x v->r x H Q ->
  wpAny (model X.prog X.w) X.A (truthy v) (TP X pins σ Q) X.xe s
noncomputable def tOp(r:R2) (ta tb:TE):TE:=fun σ H Q=>ta σ H fun x H1=>tb σ H1 fun y H2=>r x y H2 Q
noncomputable def tUn(r:V->Hp->VK->Prop) (ta:TE):TE:=fun σ H Q=>ta σ H fun x H1=>r x H1 Q
noncomputable def rI(C:Int->Int->Prop) (g:Int->Int->V):R2:=fun x y H Q=>∃i j,x=.int i/\y=.int j/\C i j/\Q (g i j) H
noncomputable def rI0(g:Int->Int->V):R2:=fun x y H Q=>∃i j,x=.int i/\y=.int j/\Q (g i j) H
noncomputable def rU(g:Int->V):V->Hp->VK->Prop:=fun x H Q=>∃i,x=.int i/\Q (g i) H
section
variable {X:Cx}{a b c:Expr}{ta tb tc:TE}{pos:Pos}
theorem bC8(ha:PE X a ta) (hb:PE X b tb) {pins:List (Addr×Obj)}{s:Shared}{σ:St}{H:Hp}{R:V->V->Hp->Prop}(I:Inv X pins σ H s)
  (h:ta σ H fun x H1=>tb σ H1 fun y H2=>R x y H2) {Q:Value->Shared->Prop}{f:Value->Value->Sem Value}
  (hf:∀v u s2 x y H2,Inv X pins σ H2 s2->C3 x v->C3 y u->R x y H2->wpAny (model X.prog X.w) X.A (f v u) Q X.xe s2) :
  wpAny (model X.prog X.w) X.A (eval a X.env) (fun v s₁=>wpAny (model X.prog X.w) X.A (eval b X.env) (fun u s₂=>wpAny (model X.prog X.w) X.A (f v u) Q X.xe s₂) X.xe s₁) X.xe s:=by
 refine thn (ha pins s σ H _ I h) fun v s1 ⟨x,H1,I1,r1,q1⟩=>?_
 refine thn (hb pins s1 σ H1 _ I1 q1) fun u s2 ⟨y,H2,I2,r2,q2⟩=>?_
 exact hf v u s2 x y H2 I2 r1 r2 q2
theorem aS8(ho:OpR X (binaryOp op) r) (ha:PE X a ta) (hb:PE X b tb):PE X (.BinOp a op b pos) (tOp r ta tb):=by
 intro pins s σ H Q I h
 exact wpAny_BinOp (bC8 ha hb I h fun v u s2 x y H2 I2 rx ry q=>ho pins s2 σ H2 x y v u Q I2 rx ry q)
theorem bH7(ho:UnR X (unaryOp op) r) (ha:PE X a ta):PE X (.UnaryOp op a pos) (tUn r ta):=by
 intro pins s σ H Q I h
 exact UnaryOp_ (thn (ha pins s σ H _ I h) fun v s1 ⟨x,H1,I1,r1,q1⟩=>ho pins s1 σ H1 x v Q I1 r1 q1)
theorem opI{f:Value->Value->Sem Value}{C:Int->Int->Prop}{g:Int->Int->Int}
  (rule:∀(i j:Int) (t u:Tok) (s:Shared) (Q:Value->Shared->Prop) (E:Value->Shared->Prop),C i j->Q (.int (g i j) s.toks) { s with toks:=s.toks+1 }->wpAny (model X.prog X.w) X.A (f (.int i t) (.int j u)) Q E s) :
  OpR X f (rI C fun i j=>.int (g i j)):=by
 intro pins s σ H x y v u Q I rx ry h
 obtain⟨i,j,rfl,rfl,hc,q⟩:=h
 obtain⟨t,rfl⟩:=rx
 obtain⟨t',rfl⟩:=ry
 exact rule i j t t' s _ _ hc ⟨.int (g i j),H,I.tok _,⟨_,rfl⟩,q⟩
theorem bI5{f:Value->Value->Sem Value}{g:Int->Int->Int}
  (rule:∀(i j:Int) (t u:Tok) (s:Shared) (Q:Value->Shared->Prop) (E:Value->Shared->Prop),Q (.int (g i j) s.toks) { s with toks:=s.toks+1 }->wpAny (model X.prog X.w) X.A (f (.int i t) (.int j u)) Q E s) :
  OpR X f (rI0 fun i j=>.int (g i j)):=by
 intro pins s σ H x y v u Q I rx ry h
 obtain⟨i,j,rfl,rfl,q⟩:=h
 obtain⟨t,rfl⟩:=rx
 obtain⟨t',rfl⟩:=ry
 exact rule i j t t' s _ _ ⟨.int (g i j),H,I.tok _,⟨_,rfl⟩,q⟩
theorem bg4{f:Value->Value->Sem Value}{g:Int->Int->Bool}
  (rule:∀(i j:Int) (t u:Tok) (s:Shared) (Q:Value->Shared->Prop) (E:Value->Shared->Prop),Q (.bool (g i j)) s->wpAny (model X.prog X.w) X.A (f (.int i t) (.int j u)) Q E s) :
  OpR X f (rI0 fun i j=>.bl (g i j)):=by
 intro pins s σ H x y v u Q I rx ry h
 obtain⟨i,j,rfl,rfl,q⟩:=h
 obtain⟨t,rfl⟩:=rx
 obtain⟨t',rfl⟩:=ry
 exact rule i j t t' s _ _ ⟨.bl (g i j),H,I,rfl,q⟩
theorem ax7:OpR X (binaryOp .Add) (rI0 fun i j=>.int (i+j)):=bI5 fun _ _ _ _ _ _ _ q=>add_int q
theorem bu4:OpR X (binaryOp .Sub) (rI0 fun i j=>.int (i - j)):=bI5 fun _ _ _ _ _ _ _ q=>sub_int q
theorem bu5:OpR X (binaryOp .Mod) (rI (fun _ j=>0 < j) fun i j=>.int (i % j)):=opI fun i j _ _ _ _ _ hc q=>by
 have h1:(0:Int) < j:=hc
 exact mod_int' (by omega) (by rw[Int.fmod_eq_emod_of_nonneg i (by omega)];exact q)
theorem unI{f:Value->Sem Value}{g:Int->Int}
  (rule:∀(i:Int) (t:Tok) (s:Shared) (Q:Value->Shared->Prop) (E:Value->Shared->Prop),Q (.int (g i) s.toks) { s with toks:=s.toks+1 }->wpAny (model X.prog X.w) X.A (f (.int i t)) Q E s) :
  UnR X f (rU fun i=>.int (g i)):=by
 intro pins s σ H x v Q I rx h
 obtain⟨i,rfl,q⟩:=h
 obtain⟨t,rfl⟩:=rx
 exact rule i t s _ _ ⟨.int (g i),H,I.tok _,⟨_,rfl⟩,q⟩
theorem br2:UnR X (unaryOp .USub) (rU fun i=>.int (-i)):=unI fun _ _ _ _ _ q=>neg_int q
end
section
variable {X:Cx}{a b c:Expr}{ta tb tc:TE}{pos:Pos}
theorem aY8(I:Inv X pins σ H s) (q:Q (.bl k) H) (e:k=k'):EP X pins σ Q (.bool k') s:=by
 subst e
 exact⟨.bl k,H,I,rfl,q⟩
theorem bI1:OpR X (compareOp .Lt) (rI0 fun i j=>.bl (decide (i < j))):=bg4 fun _ _ _ _ _ _ _ q=>lt_int q
theorem bI2:OpR X (compareOp .LtE) (rI0 fun i j=>.bl (decide (i<=j))):=bg4 fun _ _ _ _ _ _ _ q=>le_int q
theorem bI3:OpR X (compareOp .Gt) (rI0 fun i j=>.bl (decide (j < i))):=bg4 fun _ _ _ _ _ _ _ q=>gt_int q
theorem bI4:OpR X (compareOp .GtE) (rI0 fun i j=>.bl (decide (j<=i))):=bg4 fun _ _ _ _ _ _ _ q=>ge_int q
theorem bu6:OpR X (compareOp .Is) (fun x y H Q=>y=.non/\Q (.bl (decide (x=.non))) H):=by
 intro pins s σ H x y v u Q I rx ry h
 obtain⟨rfl,q⟩:=h
 cases ry
 refine is_none_gen (aY8 I q ?_)
 cases x<;>first
  | (cases rx;rfl)
  | (obtain⟨t,rfl⟩:=rx;rfl)
theorem bg1:OpR X (compareOp .IsNot) (fun x y H Q=>y=.non/\Q (.bl (!decide (x=.non))) H):=by
 intro pins s σ H x y v u Q I rx ry h
 obtain⟨rfl,q⟩:=h
 cases ry
 refine isnot_none_gen (aY8 I q ?_)
 cases x<;>first
  | (cases rx;rfl)
  | (obtain⟨t,rfl⟩:=rx;rfl)
theorem aU0(b:Expr) (h:op≠.In:=by decide) (h2:op≠.NotIn:=by decide):behindInMarks op b=false:=by
 have e1:(op==CmpOp.In)=false:=by cases op<;>first|rfl|exact absurd rfl h
 have e2:(op==CmpOp.NotIn)=false:=by cases op<;>first|rfl|exact absurd rfl h2
 cases b<;>simp[behindInMarks,e1,e2]
theorem bf6(ho:OpR X (compareOp op) r) (ha:PE X a ta) (hb:PE X b tb) (hm:behindInMarks op b=false):PE X (.Compare a [op] [b] pos) (tOp r ta tb):=by
 intro pins s σ H Q I h
 exact wpAny_Compare1 (bC8 ha hb I h fun v u s2 x y H2 I2 rx ry q=>ho pins s2 σ H2 x y v u Q I2 rx ry q) hm
noncomputable def bm9(t:TE):TT:=fun σ H Q=>t σ H fun x H'=>∃k,x=.bl k/\Q k H'
theorem be4(ho:OpR X (compareOp op) r) (ha:PE X a ta) (hb:PE X b tb) (hm:behindInMarks op b=false):PT X (.Compare a [op] [b] pos) (bm9 (tOp r ta tb)):=by
 intro pins s σ H Q I h
 refine wpAny_isTrue_Compare1 (thn (ha pins s σ H _ I h) fun v s1 ⟨x,H1,I1,r1,q1⟩=>thn (hb pins s1 σ H1 _ I1 q1) fun u s2 ⟨y,H2,I2,r2,q2⟩ =>thn (ho pins s2 σ H2 x y v u _ I2 r1 r2 q2) fun c s3 ⟨z,H3,I3,r3,k,e,q3⟩=>?_) hm
 subst e
 cases r3
 exact wpAny_truthy_bool ⟨H3,I3,q3⟩
noncomputable def aO3(r r':R2) (ta tb tc:TE):TE:=fun σ H Q=>ta σ H fun x H1=>tb σ H1 fun y H2=>r x y H2 fun z H3=>∃k,z=.bl k /\
 (if k=true then tc σ H3 fun w' H4=>r' y w' H4 Q else Q (.bl false) H3)
theorem ar4(ho:OpR X (compareOp op) r) (ho':OpR X (compareOp op') r') (ha:PE X a ta) (hb:PE X b tb) (hc:PE X c tc)
  (hm:lastMarks [op,op'] [b,c]=false:=by with_unfolding_all rfl):PE X (.Compare a [op,op'] [b,c] pos) (aO3 r r' ta tb tc):=by
 intro pins s σ H Q I h
 refine Compare_chain (thn (ha pins s σ H _ I h) fun v s1 ⟨x,H1,I1,r1,q1⟩=>chain_link (thn (hb pins s1 σ H1 _ I1 q1) fun u s2 ⟨y,H2,I2,r2,q2⟩ =>thn (ho pins s2 σ H2 x y v u _ I2 r1 r2 q2) fun d s3 ⟨z,H3,I3,r3,k,e,q3⟩=>?_)) hm
 subst e
 cases r3
 refine wpAny_truthy_bool ?_
 cases k with
 | false=>exact ite_ff ⟨.bl false,H3,I3,rfl,q3⟩
 | true=>exact ite_tt (chain_last (thn (hc pins s3 σ H3 _ I3 q3) fun w' s4 ⟨z',H4,I4,r4,q4⟩=>ho' pins s4 σ H4 y z' u w' Q I4 r2 r4 q4))
theorem aq6(ho:OpR X (compareOp op) r) (ho':OpR X (compareOp op') r') (ha:PE X a ta) (hb:PE X b tb) (hc:PE X c tc)
  (hm:lastMarks [op,op'] [b,c]=false:=by with_unfolding_all rfl):PT X (.Compare a [op,op'] [b,c] pos) (bm9 (aO3 r r' ta tb tc)):=by
 intro pins s σ H Q I h
 refine isTrue_chain (thn (ha pins s σ H _ I h) fun v s1 ⟨x,H1,I1,r1,q1⟩=>test_link (thn (hb pins s1 σ H1 _ I1 q1) fun u s2 ⟨y,H2,I2,r2,q2⟩ =>thn (ho pins s2 σ H2 x y v u _ I2 r1 r2 q2) fun d s3 ⟨z,H3,I3,r3,k,e,q3⟩=>?_)) hm
 subst e
 cases r3
 refine wpAny_truthy_bool ?_
 cases k with
 | false =>
  obtain⟨k',e',q'⟩:=q3
  cases e'
  exact ite_ff ⟨H3,I3,q'⟩
 | true =>
  refine ite_tt (test_last (thn (hc pins s3 σ H3 _ I3 q3) fun w' s4 ⟨z',H4,I4,r4,q4⟩=>thn (ho' pins s4 σ H4 y z' u w' _ I4 r2 r4 q4) fun d' s5 ⟨z2,H5,I5,r5,k2,e2,q5⟩=>?_))
  subst e2
  cases r5
  exact wpAny_truthy_bool ⟨H5,I5,q5⟩
noncomputable def bE1(K:PySem.W.Frag) (x:V) (H:Hp) (k:Bool):Prop :=
 match x with
 | .non=>k=false
 | .bl b=>k=b
 | .int i=>k=(i != 0)
 | .str y=>y.length<=sizeLine/\k=((y.length:Int) != 0)
 | .byt y=>y.size<=sizeLine/\k=((y.size:Int) != 0)
 | .ref p=>(∃xs,SqL K H p xs/\k = !xs.isEmpty)\/(∃xs,SqT K H p xs/\k = !xs.isEmpty)\/∃kvs,H p=some (.dK kvs)/\k = !kvs.isEmpty
 | _=>False
theorem ay5{κ:Type}{kvs:List (κ×V)}{vs:List (κ×Value)}(r:KV kvs vs):(!vs.isEmpty) = !kvs.isEmpty:=by cases r<;>rfl
theorem ae6(r:B6 xs its):(!its.toArray.isEmpty) = !xs.isEmpty:=by cases r<;>simp
theorem ad9:(sizeLine:Nat) < 2 ^ 63:=by rw[sizeLine_eq];decide
theorem aO1:bQ1 X (fun x H Q=>∃k,bE1 X.K x H k/\Q k H):=by
 intro pins s σ H x v Q I rx h
 obtain⟨k,e,q⟩:=h
 have hl:=ad9
 have hs:sizeLine=16777216:=sizeLine_eq
 cases x with
 | non =>
  cases rx
  have e':k=false:=e
  subst e'
  exact truthy_none ⟨H,I,q⟩
 | bl b =>
  cases rx
  have e':k=b:=e
  subst e'
  exact wpAny_truthy_bool ⟨H,I,q⟩
 | int i =>
  obtain⟨t,rfl⟩:=rx
  have e':k=(i != 0):=e
  subst e'
  exact PySem.P.truthy_int ⟨H,I,q⟩
 | str y =>
  obtain⟨t,rfl⟩:=rx
  obtain⟨hy,e'⟩:y.length<=sizeLine/\k=((y.length:Int) != 0):=e
  subst e'
  exact PySem.P.truthy_str (by omega) ⟨H,I.tok _,q⟩
 | byt y =>
  obtain⟨t,rfl⟩:=rx
  obtain⟨hy,e'⟩:y.size<=sizeLine/\k=((y.size:Int) != 0):=e
  subst e'
  exact PySem.W.truthy_bytes (by omega) ⟨H,I.tok _,q⟩
 | ref p =>
  cases rx
  have e':(∃xs,SqL X.K H p xs/\k = !xs.isEmpty)\/(∃xs,SqT X.K H p xs/\k = !xs.isEmpty)\/∃kvs,H p=some (.dK kvs)/\k = !kvs.isEmpty:=e
  rcases e' with⟨xs,hx,e'⟩|⟨xs,hx,e'⟩|⟨kvs,hx,e'⟩
  ·subst e'
   obtain⟨its,r,pl,hz⟩:=I.list hx
   have hlen:=r.length
   exact wpAny_truthy_list pl.isList (by simp only[List.size_toArray];omega) ⟨H,I.tok _,by rw[ae6 r];exact q⟩
  ·subst e'
   obtain⟨its,r,pl,hz⟩:=I.tuple hx
   have hlen:=r.length
   exact truthy_tuple pl (by simp only[List.size_toArray];omega) ⟨H,I.tok _,by rw[ae6 r];exact q⟩
  ·subst e'
   obtain⟨hz,hS,vs,r,m⟩:kvs.length<=sizeLine/\(p==sysModules)=false/\∃vs,KV kvs vs/\s.heap.DictOf (E8 X.prog X.w) p vs:=I.hok p _ hx
   have hlen:kvs.length=vs.length:=Paired.length r
   exact wpAny_truthy_dict hS m (by omega) ⟨H,I.tok _,by rw[ay5 r];exact q⟩
 | _=>exact(show False from e).elim
theorem aR1(ha:PE X a ta) (he:∀whole,isTrue a X.env whole=(do let v ← whole;standAt a.pos;holding [v] (truthy v))) :
  PT X a (fun σ H Q=>ta σ H fun x H'=>∃k,bE1 X.K x H' k/\Q k H'):=by
 intro pins s σ H Q I h
 exact isTrue_plain (thn (ha pins s σ H _ I h) fun v s1 ⟨x,H1,I1,r1,q1⟩=>aO1 pins s1 σ H1 x v Q I1 r1 q1) (he _)
theorem ax6:OpR X (binaryOp .Add) (fun x y H Q=>∃i j,x=.str i/\y=.str j/\i.length+j.length<=sizeLine/\Q (.str (i++j)) H):=by
 intro pins s σ H x y v u Q I rx ry h
 obtain⟨i,j,rfl,rfl,hz,q⟩:=h
 obtain⟨t,rfl⟩:=rx
 obtain⟨t',rfl⟩:=ry
 exact add_str (fun t' tk=>⟨.str (i++j),H,I.tok _,⟨_,rfl⟩,q⟩) hz
theorem i9(r:B6 [x] us):∃u,us=[u]/\C3 x u:=by
 cases r with
 | cons r1 r2=>cases r2;exact⟨_,rfl,r1⟩
theorem aN9(r:B6 [x,y] us):∃u w',us=[u,w']/\C3 x u/\C3 y w':=by
 cases r with
 | cons r1 r2 =>
  cases r2 with
  | cons r3 r4=>cases r4;exact⟨_,_,rfl,r1,r3⟩
theorem aN1(hc:X.calm=true):W8 X (.builtin "min") (fun xs H Q=>∃i j,xs=[.int i,.int j]/\Q (.int (if j < i then j else i)) H):=by
 intro pins s σ H xs us Q I r h
 obtain⟨i,j,rfl,q⟩:=h
 obtain⟨u,w',rfl,⟨t,rfl⟩,⟨t',rfl⟩⟩:=aN9 r
 refine min_two_ints (I.ok.hd hc) fun h' tk k=>⟨_,H,I.kept k,?_,q⟩
 by_cases hj:j < i
 ·rw[if_pos hj,if_pos hj];exact⟨_,rfl⟩
 ·rw[if_neg hj,if_neg hj];exact⟨_,rfl⟩
theorem aj5:W8 X (.type "int") (fun xs H Q=>(∃i,xs=[.int i]/\Q (.int i) H)\/∃k,xs=[.bl k]/\Q (.int (if k then 1 else 0)) H):=by
 intro pins s σ H xs us Q I r h
 rcases h with⟨i,rfl,q⟩|⟨k,rfl,q⟩
 ·obtain⟨u,rfl,t,rfl⟩:=i9 r
  exact call_int_int ⟨.int i,H,I,⟨_,rfl⟩,q⟩
 ·obtain⟨u,rfl,r1⟩:=i9 r
  cases r1
  exact call_int_bool ⟨.int (if k then 1 else 0),H,I.tok _,⟨_,rfl⟩,q⟩
end
section
variable {prog:Program}{w:World}{A:Around}{E:Value->Shared->Prop}{s:Shared}{K:PySem.W.Frag}{x dx C f:Addr}{mA:Str->Option Value}{name:Str}{v:Value}
end
theorem aa7.some_of(r:aa7 (some v) o):∃u,o=some u/\C3 v u:=by
 cases o with
 | none=>exact(show False from r).elim
 | some u=>exact⟨u,rfl,r⟩
section
variable {P:Program}{w:World}{H H':Hp}{h h':Heap}{a C dx:Addr}{fs fs':List (Str×V)}
end
section
variable {X:Cx}{pins:List (Addr×Obj)}{σ:St}{H:Hp}{s:Shared}{a C dx:Addr}{fs:List (Str×V)}{f:Str}{v:V}{A:Around}{E:Value->Shared->Prop}
end
section
variable {X:Cx}{o e value:Expr}{f:Str}{pos pos' tpos:Pos}{ta tv:TE}
end
section
variable {X:Cx}{pins:List (Addr×Obj)}{σ:St}{H:Hp}{s:Shared}{A:Around}{E:Value->Shared->Prop}{Q:Value->Shared->Prop}{c:Value}{b:Bool}
end
structure Room (k:Nat) (A:Around):Prop where
 hd:A.handled=none
 dp:A.depth+3*k+5 < recursionLimit
 un:A.units+16*k+200 < cLine
theorem Room.mono(r:Room k A) (h:j<=k):Room j A:=⟨r.hd,by have:=r.dp;omega,by have:=r.un;omega⟩
theorem Room.deeper(r:Room (k+1) A) (env:Env):Room k (A.deeper env) :=
 ⟨r.hd,by have:=r.dp;show A.depth+1+3*k+5 < _;omega,by have:=r.un;show A.units+3+16*k+200 < _;omega⟩
theorem Room.depth(r:Room k A):A.depth < recursionLimit:=by have:=r.dp;omega
theorem Room.units(r:Room k A):A.units+64 < cLine:=by have:=r.un;omega
noncomputable def bF8:TA:=fun _ H Q=>Q [] H
noncomputable def bG3(ta:TE) (tr:TA):TA:=fun σ H Q=>ta σ H fun x H1=>tr σ H1 fun xs H2=>Q (x::xs) H2
section
variable {X:Cx}{e:Expr}{es:List Expr}{te:TE}{t:TA}{pos:Pos}
theorem N9:PA X [] bF8:=fun _ _ _ _ H Q I h=>Calls.spliced_nil ⟨[],H,I,.nil,h⟩
theorem J8(ha:PE X e te) (hr:PA X es t) (hs:starEach (e::es) X.env=(false,eval e X.env)::starEach es X.env:=by rfl):PA X (e::es) (bG3 te t):=by
 intro pos pins s σ H Q I h
 rw[hs]
 show wpAny _ _ (spliced ((false,eval e X.env)::backTo pos (starEach es X.env))) _ _ s
 refine Calls.spliced_cons (thn (ha pins s σ H _ I h) fun u s1 ⟨x,H1,I1,r1,q1⟩=>?_)
 exact thn (hr pos pins s1 σ H1 _ I1 q1) fun us s2 ⟨xs,H2,I2,r2,q2⟩=>⟨x::xs,H2,I2,.cons r1 r2,q2⟩
noncomputable def bN7(t:TA):TE:=fun σ H Q=>t σ H fun xs H1=>xs.length<=sizeLine/\∀p,H1 p=none->Q (.ref p) (upd H1 p (.tup xs))
noncomputable def bO3(t:TA):TE:=fun σ H Q=>t σ H fun xs H1=>xs.length<=sizeLine/\∀p,H1 p=none->Q (.ref p) (upd H1 p (.lst xs))
theorem bt8{x1} (h:PA X es t):PE X (.Tuple es x1 pos) (bN7 t):=by
 intro pins s σ H Q I hq
 refine wpAny_Tuple_spliced (thn (h pos pins s σ H _ I hq) fun us s1 ⟨xs,H1,I1,r,z,q⟩=>⟨by rw[← r.length];exact z,?_⟩)
 have hf:H1 s1.heap.objs.size=none:=I1.hok.fresh (Nat.le_refl _)
 refine⟨.ref s1.heap.objs.size,upd H1 s1.heap.objs.size (.tup xs),I1.laid (t':=s1.toks) (fun b u e=>Heap.get?_push_of_some _ e) (Nat.le_refl _) ?_,rfl,q _ hf⟩
 exact⟨z,us,r,⟨_,Heap.get?_push_size _ rfl,rfl,⟨_,rfl⟩,rfl⟩⟩
theorem bu3(h:PA X es t):PE X (.List es pos) (bO3 t):=by
 intro pins s σ H Q I hq
 refine wpAny_List_spliced (thn (h pos pins s σ H _ I hq) fun us s1 ⟨xs,H1,I1,r,z,q⟩=>⟨by rw[← r.length];exact z,?_⟩)
 have hf:H1 s1.heap.objs.size=none:=I1.hok.fresh (Nat.le_refl _)
 refine⟨.ref s1.heap.objs.size,upd H1 s1.heap.objs.size (.lst xs),I1.laid (t':=s1.toks) (fun b u e=>Heap.get?_push_of_some _ e) (Nat.le_refl _) ?_,rfl,q _ hf⟩
 exact⟨z,us,0,r,Heap.get?_push_size _ rfl⟩
end
noncomputable abbrev Sp:=List V->Hp->VK->XK->Prop
noncomputable abbrev CXT:=List Env->Hp->Shared->XK->Value->Shared->Prop
structure Env0 (P:Program) (w:World) (K:PySem.W.Frag) (mg:Str->Option Value) (base:Heap) (A:Around) (outer:List Env) (s:Shared) (H:Hp):Prop where
 frames:A.frames=some outer
 mod:Mod K mg base
 bs:∀b o,base.get? b=some o->s.heap.get? b=some o/\H b=none
 bsz:base.objs.size<=s.heap.objs.size
 funs:s.heap.FunFrames base outer
 frf:∀b∈frs outer,H b=none
 hok:HOk P w H s.heap
 bare:AllBare s.gens
noncomputable def CE(outer:List Env) (P:Program) (w:World) (H:Hp) (s:Shared) (Q:VK) (u:Value) (s':Shared):Prop :=
 ∃v H',s'.os=s.os/\AllBare s'.gens/\Un (frs outer) [] H H' s.heap s'.heap/\HOk P w H' s'.heap/\C3 v u/\Q v H'
noncomputable def CR(CX:CXT) (outer:List Env) (P:Program) (w:World) (H:Hp) (s:Shared) (Q:VK) (E:XK) (r:Result) (s':Shared):Prop :=
 match r with
 | .ok (.ret u)=>CE outer P w H s Q u s'
 | .ok _=>False
 | .error e=>CX outer H s E e s'
structure FnOk (P:Program) (w:World) (K:PySem.W.Frag) (mg:Str->Option Value) (base:Heap) (CX:CXT) (k:Nat) (f:Addr) (fd:FuncData) (ps:List Str) (sp:Sp):Prop where
 len:∀vs H Q E,sp vs H Q E->vs.length=ps.length
 run:∀(A:Around) (outer:List Env) (s:Shared) (H:Hp) (args:Args) (us:List Value) (vs:List V) (Q:VK) (E:XK),Room k A->Env0 P w K mg base A outer s H->BindsTo s fd args (ps.zip us)->B6 vs us->sp vs H Q E ->
  codeAny (model P w) A (.call (.ref f) args) (CR CX outer P w H s Q E) s
theorem FnOk.mono{P:Program}{w:World}{K:PySem.W.Frag}{mg:Str->Option Value}{base:Heap}{CX:CXT}{j k:Nat}{f:Addr}{fd:FuncData}{ps:List Str}{sp:Sp}(F:FnOk P w K mg base CX j f fd ps sp) (h:j<=k) :
  FnOk P w K mg base CX k f fd ps sp:=⟨F.len,fun A outer s H args us vs Q E hr=>F.run A outer s H args us vs Q E (hr.mono h)⟩
section
variable {X:Cx}{pins:List (Addr×Obj)}{σ:St}{H:Hp}{s s':Shared}
theorem Inv.env0(I:Inv X pins σ H s):Env0 X.prog X.w X.K X.mg X.base X.A X.stack s H :=
 ⟨I.ok.frames,I.ok.mod,I.bs,Nat.le_trans I.ok.bsz I.sz,I.stack,I.stkFree,I.hok,I.bare⟩
theorem Inv.after(I:Inv X pins σ H s) (h:CE X.stack X.prog X.w H s Q u s'):EP X pins σ Q u s':=by
 obtain⟨v,H',os,bare,un,hok,r,q⟩:=h
 obtain⟨hh,g,d,t,os'⟩:=s'
 obtain rfl:os'=s.os:=os
 exact⟨v,H',I.call (h':=hh) (g':=g) (d':=d) (t':=t) (ch:=[]) un hok bare (fun b z=>absurd z (by simp)),r,q⟩
end
noncomputable def bn1(sp:Sp) (dvs:List V) (E:XK) (t:TA):TE:=fun σ H Q=>t σ H fun vs H1=>sp (vs++dvs) H1 Q E
noncomputable def d8(K:PySem.W.Frag) (fd:FuncData) (ps:List Str) (ds:List Value):Prop :=
 ∀(s:Shared) (us:List Value),K.In s.heap->(us++ds).length=ps.length->BindsTo s fd ⟨us,[]⟩ (ps.zip (us++ds))
theorem d8.all{K:PySem.W.Frag}{fd:FuncData}{ps:List Str}(h:∀us:List Value,us.length=ps.length->bindArgs fd ⟨us,[]⟩=pure (ps.zip us)):d8 K fd ps []:=fun s us _ hl=>by
 rw[List.append_nil]at hl ⊢
 exact .of_eq (h us hl)
noncomputable def ap4(CX:CXT) (X:Cx) (E:XK):Prop:=∀(pins:List (Addr×Obj)) (σ:St) (H:Hp) (s:Shared) (e:Value) (s':Shared),Inv X pins σ H s->CX X.stack H s E e s'->X.xe e s'
section
variable {X:Cx}{CX:CXT}{k:Nat}{f C:Addr}{fd:FuncData}{ps:List Str}{sp:Sp}{dvs:List V}{ds:List Value}{E:XK}{x m:Str}{p pos apos:Pos}{e o:Expr}{es:List Expr}{ta:TE}{t:TA}
theorem aQ0(F:FnOk X.prog X.w X.K X.mg X.base CX k f fd ps sp) (hr:Room k X.A) (hb:d8 X.K fd ps ds) (hd:B6 dvs ds) (hx:ap4 CX X E)
  (I:Inv X pins σ H s) (r:B6 vs us) (h:sp (vs++dvs) H Q E):wpAny (model X.prog X.w) X.A (call (.ref f) us) (EP X pins σ Q) X.xe s:=by
 have r2:B6 (vs++dvs) (us++ds):=r.append hd
 have hl:(us++ds).length=ps.length:=by rw[← r2.length];exact F.len _ _ _ _ h
 refine wpAny_call (codeAny_mono (F.run X.A X.stack s H ⟨us,[]⟩ (us++ds) (vs++dvs) Q E hr I.env0 (hb s us I.kIn hl) r2 h) fun r s' hq=>?_)
 cases r with
 | error e=>exact hx pins σ H s e s' I hq
 | ok fl =>
  cases fl with
  | ret u=>exact I.after hq
  | next=>exact False.elim hq
  | brk=>exact False.elim hq
  | cont=>exact False.elim hq
theorem bf7(F:FnOk X.prog X.w X.K X.mg X.base CX k f fd ps sp) (hr:Room k X.A) (hg:Gl X x) (hm:X.mg x=some (.ref f)) (hk:PySem.W.keepIn X.K (.ref f)=true) (hb:d8 X.K fd ps ds) (hd:B6 dvs ds) (hx:ap4 CX X E)
  (ha:PA X (e::es) t) (hdb:(x==("__debug__" : Str))=false:=by decide) (he:starEach (e::es) X.env=(false,eval e X.env)::starEach es X.env:=by rfl) (hpl:(backTo pos (starEach es X.env)).any (·.1)=false:=by rfl) :
  PE X (.Call (.Name x p) (e::es) [] pos) (bn1 sp dvs E t):=by
 intro pins s σ H Q I h
 refine wpAny_Call_Name_kw (an8 I hg hm ?_ hdb)
 refine PySem.W.callWith_K (h₀:=X.base) I.ok.mod.kin hk (thn (ha pos pins s σ H _ I h) fun us s1 ⟨vs,H1,I1,r,q⟩=>⟨I1.kIn,?_⟩) he hpl
 exact aQ0 F hr hb hd hx I1 r q
theorem aT2(F:FnOk X.prog X.w X.K X.mg X.base CX k f fd ps sp) (hr:Room k X.A) (hg:Gl X x) (hm:X.mg x=some (.ref f)) (hk:PySem.W.keepIn X.K (.ref f)=true) (hb:d8 X.K fd ps ds) (hd:B6 dvs ds) (hx:ap4 CX X E)
  (hdb:(x==("__debug__" : Str))=false:=by decide):PE X (.Call (.Name x p) [] [] pos) (bn1 sp dvs E bF8):=by
 intro pins s σ H Q I h
 refine wpAny_Call_Name_kw (an8 I hg hm ?_ hdb)
 exact PySem.W.callWith_K0 I.kIn hk (aQ0 (us:=[]) F hr hb hd hx I .nil h)
end
section
variable {X:Cx}{CX:CXT}{k:Nat}{f C:Addr}{fd:FuncData}{ps ks:List Str}{sp:Sp}{E:XK}{x m:Str}{p pos apos kpos:Pos}{e o:Expr}{es:List Expr}{kws:List Keyword}{te ta:TE}{t tk:TA}{nm:Option Str}
variable {g:List Value->List Value->List Value}{gV:List V->List V->List V}
end
structure FnScope (N P:List Str) (sc:Scope):Prop where
 kind:sc.kind=.function
 co:sc.isCoroutine=false
 gen:sc.isGenerator=false
 nd:N.Nodup
 pre:N.take P.length=P
 par:∀x∈P,sc.names.lookup x=some .local\/sc.names.lookup x=some .cell
 nofree:∀y∈sc.names,y.2≠.free
theorem aj6{kindOf:Str->Option NameKind}{x:Str}:∀{binds:List (Str×Value)}{m:Str->Option Value},(∀v,(x,v)∉binds)->bindL kindOf binds m x=m x
 | [],_,_=>rfl
 | (n,v)::r,m,h=>by
  unfold bindL
  rw[aj6 fun w hw=>h w (xmm _ hw)]
  split
  ·have:x≠n:=by rintro rfl;exact h v List.mem_cons_self
   simp[this]
  ·rfl
theorem aj8{kindOf:Str->Option NameKind}{x:Str}:∀{binds:List (Str×Value)}{m:Str->Option Value},(∀v,(x,v)∉binds)->bindC kindOf binds m x=m x
 | [],_,_=>rfl
 | (n,v)::r,m,h=>by
  unfold bindC
  rw[aj8 fun w hw=>h w (xmm _ hw)]
  split
  ·rfl
  ·have:x≠n:=by rintro rfl;exact h v List.mem_cons_self
   simp[this]
theorem aj7{kindOf:Str->Option NameKind}{x:Str}{v:Value}:∀{P:List Str}{vs:List Value}{i:Nat}{m:Str->Option Value},P.Nodup->P[i]? = some x->vs[i]? = some v->kindOf x=some .local ->
  bindL kindOf (P.zip vs) m x=some v
 | [],_,_,_,_,h,_,_=>by simp at h
 | _::_,[],_,_,_,_,h,_=>by simp at h
 | p::P,w::vs,0,m,nd,h1,h2,hk=>by
  simp at h1 h2;subst h1;subst h2
  show bindL kindOf ((p,w)::P.zip vs) m p=_
  unfold bindL
  rw[aj6 fun v hv=>(List.nodup_cons.mp nd).1 (List.of_mem_zip hv).1,if_pos hk]
  simp
 | p::P,w::vs,i+1,m,nd,h1,h2,hk=>by
  show bindL kindOf ((p,w)::P.zip vs) m x=_
  unfold bindL
  exact aj7 (i:=i) (List.nodup_cons.mp nd).2 (by simpa using h1) (by simpa using h2) hk
theorem aj9{kindOf:Str->Option NameKind}{x:Str}{v:Value}:∀{P:List Str}{vs:List Value}{i:Nat}{m:Str->Option Value},P.Nodup->P[i]? = some x->vs[i]? = some v->kindOf x≠some .local ->
  bindC kindOf (P.zip vs) m x=some v
 | [],_,_,_,_,h,_,_=>by simp at h
 | _::_,[],_,_,_,_,h,_=>by simp at h
 | p::P,w::vs,0,m,nd,h1,h2,hk=>by
  simp at h1 h2;subst h1;subst h2
  show bindC kindOf ((p,w)::P.zip vs) m p=_
  unfold bindC
  rw[aj8 fun v hv=>(List.nodup_cons.mp nd).1 (List.of_mem_zip hv).1,if_neg hk]
  simp
 | p::P,w::vs,i+1,m,nd,h1,h2,hk=>by
  show bindC kindOf ((p,w)::P.zip vs) m x=_
  unfold bindC
  exact aj9 (i:=i) (List.nodup_cons.mp nd).2 (by simpa using h1) (by simpa using h2) hk
noncomputable def Y5(N:List Str) (vs:List V):St:=vs.map some++List.replicate (N.length - vs.length) none
noncomputable def az2(CX:CXT) (P:Program) (w:World) (K:PySem.W.Frag) (mg:Str->Option Value) (base:Heap) (N:List Str) (qual:Str) (scope:Scope) (f:Addr) (cd:Value) (A:Around) (outer:List Env) (s:Shared) (H:Hp) (E:XK):Cx where
 prog:=P
 w:=w
 K:=K
 mg:=mg
 base:=base
 A:=A.deeper (envOfC qual scope s.heap.objs.size f cd)
 N:=N
 s₀:=s
 H₀:=H
 env:=envOfC qual scope s.heap.objs.size f cd
 outer:=outer
 stack:=envOfC qual scope s.heap.objs.size f cd::outer
 ex:=[]
 calm:=true
 fn:=fun _=>true
 pn:=[]
 xe:=fun e s'=>wpAny (model P w) (A.deeper (envOfC qual scope s.heap.objs.size f cd)) (leaving (envOfC qual scope s.heap.objs.size f cd) e) (fun _ s''=>CX outer H s E e s'') (fun e' s''=>CX outer H s E e' s'') s'
theorem au9{sc:Scope}{n:Nat}{x:Str}(h:sc.names.lookup x=some .cell):∃c,(cellsFrom n sc.names []).lookup x=some c:=by
 have q:=PySem.W.cellsFrom_some sc.names n [] (.inl h)
 exact Option.isSome_iff_exists.mp q
theorem aL3{CX:CXT}{P:Program}{w:World}{K:PySem.W.Frag}{mg:Str->Option Value}{base:Heap}{N ps:List Str}{qual:Str}{scope:Scope}{f:Addr}{cd:Value}{A:Around}{outer:List Env}{s s1:Shared}{H:Hp}{E:XK}{us:List Value}{vs:List V}
  (S:FnScope N ps scope) (hd:A.handled=none) (e0:Env0 P w K mg base A outer s H) (hl:vs.length=ps.length) (r:B6 vs us)
  (x:InCallC s s.heap.objs.size (bindL (envOfC qual scope s.heap.objs.size f cd).kindOf (ps.zip us) fun _=>none) (cellsFrom (s.heap.objs.size+1) scope.names []) (bindC (envOfC qual scope s.heap.objs.size f cd).kindOf (ps.zip us) fun _=>none) s1) :
  Inv (az2 CX P w K mg base N qual scope f cd A outer s H E) [] (Y5 N vs) H s1:=by
 have hpl:ps.length<=N.length:=by have:=congrArg List.length S.pre;rw[List.length_take]at this;omega
 obtain⟨h1,tk,rfl,hk⟩:=x.done
 have noA:∀b:Addr,b∉(az2 CX P w K mg base N qual scope f cd A outer s H E).ex:=fun b z=>absurd (show b∈([]:List Addr) from z) (by simp)
 refine⟨⟨e0.mod,S.kind,rfl,rfl,Nat.le_refl _,fun y z c h1 h2=>?_,fun y hy=>?_,fun y c _ h=>?_,fun _=>hd,Around.frames_deeper e0.frames,.inr ⟨rfl,rfl⟩,fun b z=>absurd z (noA b),e0.bs,e0.bsz,fun b _ _=>noA b,fun b z=>absurd z (noA b),e0.funs,e0.frf⟩,
  rfl,e0.bare,Un.kept hk,⟨_,x.toInCall.ns,fun i y v h1 h2 h3=>?_⟩,fun y c h=>⟨_,x.cell y c h⟩,e0.hok.fresh (Nat.le_refl _),fun y c h=>?_,fun p hp=>absurd (show p∈([]:List (Addr×Obj)) from hp) (by simp),e0.hok.kept hk,?_⟩
 ·exact name_of_addr x.apart (PySem.mem_of_lookup h1) (PySem.mem_of_lookup h2)
 ·have hy:scope.names.lookup y=some .cell\/scope.names.lookup y=some .free:=hy
  rcases hy with hy|hy
  ·exact au9 hy
  ·exact absurd rfl (S.nofree _ (PySem.mem_of_lookup hy))
 ·exact Nat.le_of_lt (x.above y c (PySem.mem_of_lookup h))
 ·have hi:i < vs.length:=by
   unfold Y5 at h2
   by_cases hi:i < vs.length
   ·exact hi
   ·rw[List.getElem?_append_right (by simpa using hi)]at h2
    rw[List.getElem?_replicate]at h2
    split at h2<;>cases h2
  have ha:vs[i]? = some v:=by
   unfold Y5 at h2
   rw[List.getElem?_append_left (by simpa using hi),List.getElem?_map]at h2
   cases e:vs[i]? with
   | none=>rw[e]at h2;cases h2
   | some a=>rw[e]at h2;cases h2;rfl
  obtain⟨u,hu,rv⟩:=r.get ha
  have hp:ps[i]? = some y:=by rw[← S.pre,List.getElem?_take_of_lt (by omega)];exact h1
  have ndP:ps.Nodup:=by rw[← S.pre];exact S.nd.sublist (List.take_sublist _ _)
  refine⟨u,rv,?_⟩
  rcases S.par y (List.mem_of_getElem? hp) with k|k
  ·exact .inl ⟨k,aj7 ndP hp hu k⟩
  ·obtain⟨c,e⟩:=au9 (n:=s.heap.objs.size+1) k
   refine .inr ⟨.inl k,c,e,?_⟩
   have q:=x.cell y c e
   rw[aj9 ndP hp hu (by show scope.names.lookup y≠_;rw[k];decide)]at q
   exact q
 ·exact e0.hok.fresh (Nat.le_of_lt (x.above y c (PySem.mem_of_lookup h)))
 ·unfold Y5
  show _=N.length
  rw[List.length_append,List.length_map,List.length_replicate]
  omega
theorem bL4{CX:CXT}{P:Program}{w:World}{K:PySem.W.Frag}{mg:Str->Option Value}{base:Heap}{k:Nat}{f:Addr}{name qual:Str}{params:Arguments}{body:List Stmt}{scope:Scope}{dV kV doc pm cdv ct oc:Value}{an od:Option Addr}
  {osl:Array (Option Value)}{N ps:List Str}{sp:Sp}(lk:K.lookup f=some ⟨oc,od,.func (PySem.W.fnOf name qual params body scope dV kV doc pm an cdv ct),osl⟩) (hcd:PySem.W.codeIn K cdv qual=true) (S:FnScope N ps scope)
  (len:∀vs H Q E,sp vs H Q E->vs.length=ps.length)
  (hbody:∀(A:Around) (outer:List Env) (s:Shared) (H:Hp) (vs:List V) (Q:VK) (E:XK),Room k (A.deeper (envOfC qual scope s.heap.objs.size f cdv))->sp vs H Q E ->
   ∃t,PSs (az2 CX P w K mg base N qual scope f cdv A outer s H E) body t/\t { nx:=fun _ H'=>Q .non H',rt:=Q } (Y5 N vs) H) :
  FnOk P w K mg base CX (k+1) f (PySem.W.fnOf name qual params body scope dV kV doc pm an cdv ct) ps sp:=by
 refine⟨len,fun A outer s H args us vs Q E hr e0 hb r hsp=>?_⟩
 have hl:=len _ _ _ _ hsp
 have KX:K.In s.heap:=e0.mod.kin.keeps fun b o e=>(e0.bs b o e).1
 have lim:s.heap.NoLimit:=e0.mod.nolimit.keeps fun b o e=>(e0.bs b o e).1
 have hkind:∀y∈ps.zip us,scope.names.lookup y.1=some .local\/(scope.names.lookup y.1=some .cell/\((cellsFrom (s.heap.objs.size+1) scope.names []).lookup y.1).isSome=true):=fun⟨n,v⟩ hy=>by
  rcases S.par n (List.of_mem_zip hy).1 with q|q
  ·exact .inl q
  ·exact .inr ⟨q,PySem.W.cellsFrom_some _ _ _ (.inl q)⟩
 refine codeAny_call_function hr.depth (KX _ _ lk) rfl S.co S.gen rfl (PySem.W.codeRec_of KX hcd) (hb _ _ _ _ ?_)
 refine wpAny_newFunctionEnv_cells S.kind hkind fun env he s1 x=>?_
 subst he
 refine⟨lim.keeps x.toInCall.keep,codeAny_func ?_⟩
 obtain⟨t,ht,hq⟩:=hbody A outer s H vs Q E (hr.deeper _) hsp
 have I:Inv (az2 CX P w K mg base N qual scope f cdv A outer s H E) [] (Y5 N vs) H s1:=aL3 S hr.hd e0 hl r x
 refine wpAny_mono (ht [] s1 (Y5 N vs) H _ I hq) (fun fl s' hs=>?_) fun e s' hs=>hs
 have fin:∀{σ':St}{H':Hp}{v:V}{u:Value},Inv (az2 CX P w K mg base N qual scope f cdv A outer s H E) [] σ' H' s'->C3 v u->Q v H'->CE outer P w H s Q u s' :=
  fun{σ' H' v u} J rv q=>⟨v,H',J.os,J.bare,J.base,J.hok,rv,q⟩
 cases fl with
 | ret u =>
  obtain⟨v,σ',H',J,rv,q⟩:=hs
  exact fin J rv q
 | next =>
  obtain⟨σ',H',J,q⟩:=hs
  exact fin (v:=V.non) (u:=Value.none) J rfl q
 | brk =>
  obtain⟨_,_,_,q⟩:=hs
  exact False.elim q
 | cont =>
  obtain⟨_,_,_,q⟩:=hs
  exact False.elim q
section
variable {X:Cx}{x:Str}{p pos:Pos}{e:Expr}{es:List Expr}{t:TA}{id T:String}{r:List V->Hp->VK->Prop}
noncomputable def tCB(r:List V->Hp->VK->Prop) (t:TA):TE:=fun σ H Q=>t σ H fun vs H1=>r vs H1 Q
theorem T5(hc:W8 X (.builtin id) r) (hg:Gl X x) (hm:X.mg x=none) (hv:bootBuiltins x=some (.builtin id)) (ha:PA X (e::es) t) (hn:x ≠ "__name__" := by decide) (hdb:(x==("__debug__" : Str))=false:=by decide)
  (he:starEach (e::es) X.env=(false,eval e X.env)::starEach es X.env:=by rfl) (hpl:(backTo pos (starEach es X.env)).any (·.1)=false:=by rfl):PE X (.Call (.Name x p) (e::es) [] pos) (tCB r t):=by
 intro pins s σ H Q I h
 refine wpAny_Call_Name_kw (ae0 I hg hm hv ?_ hn hdb)
 exact PyProof.Rows.callWith_builtin1 (thn (ha pos pins s σ H _ I h) fun us s1 ⟨vs,H1,I1,r1,q1⟩=>hc pins s1 σ H1 vs us Q I1 r1 q1) he hpl
theorem V6(hc:W8 X (.type T) r) (hg:Gl X x) (hm:X.mg x=none) (hv:bootBuiltins x=some (.type T)) (ha:PA X (e::es) t) (hn:x ≠ "__name__" := by decide) (hdb:(x==("__debug__" : Str))=false:=by decide)
  (he:starEach (e::es) X.env=(false,eval e X.env)::starEach es X.env:=by rfl) (hpl:(backTo pos (starEach es X.env)).any (·.1)=false:=by rfl):PE X (.Call (.Name x p) (e::es) [] pos) (tCB r t):=by
 intro pins s σ H Q I h
 refine wpAny_Call_Name_kw (ae0 I hg hm hv ?_ hn hdb)
 exact PyProof.Rows.callWith_type1 (thn (ha pos pins s σ H _ I h) fun us s1 ⟨vs,H1,I1,r1,q1⟩=>hc pins s1 σ H1 vs us Q I1 r1 q1) he hpl
end
end L2
namespace HT
open PySem PyProof.Rows
section
open PySem.SeqAt
open PySem.AutoSeq1 (wpAny_loadPart')
open PySem.MeetsSeq PySem.MeetsSeq2 PySem.MeetsSeq3
end
section
variable {prog:Program}{w:World}{A:Around}{E:Value->Shared->Prop}{s:Shared}
theorem cat_tup(ht:IsTup s.heap t vs.toArray) (hb:IsTup s.heap b ws.toArray) (hv:vs≠[])
  (h1:ws=[]->Q (.ref t) s) (h2:ws≠[]->Q (.ref s.heap.objs.size) { s with heap:=s.heap.push { cls:=.type "tuple", data:=.seq (vs++ws).toArray } })
  (hsz:vs.length+ws.length<=sizeLine):wpAny (model prog w) A (binaryOp .Add (.ref t) (.ref b)) Q E s:=by
 obtain⟨⟨cls,dd,data,sl⟩,ho,hc,n,hd⟩:=id ht
 obtain⟨⟨cls2,dd2,data2,sl2⟩,ho2,hc2,n2,hd2⟩:=id hb
 simp only at hc hd hc2 hd2
 subst hc hd hc2 hd2
 have e:vs.toArray++ws.toArray=(vs++ws).toArray:=by simp
 by_cases hw:ws=[]
 ·exact concat_meets ⟨_,ho,rfl⟩ ⟨_,ho2,rfl⟩ noFill_tuple_add seq_tuple_add PySem.F.slot_tuple_add PySem.F.entry_tuple_add (PySem.F.args_tuple_add_2 _ _)
   (tuple_addW1 t b vs.toArray ws.toArray n n2 dd dd2 sl sl2 (by simpa using hv) (by simp[hw])) ⟨ho,ho2,h1 hw⟩
 ·refine concat_meets ⟨_,ho,rfl⟩ ⟨_,ho2,rfl⟩ noFill_tuple_add seq_tuple_add PySem.F.slot_tuple_add PySem.F.entry_tuple_add (PySem.F.args_tuple_add_2 _ _)
   (tuple_addW2 t b vs.toArray ws.toArray n n2 dd dd2 sl sl2 (by simpa using hv) (by simpa using hw) (by rw[List.size_toArray,List.size_toArray];exact hsz)) ⟨ho,ho2,?_⟩
  rw[e]
  exact h2 hw
noncomputable def sIx(n d:Nat):Option Int->Nat
 | none=>d
 | some v=>if v < 0 then(v+(n:Int)).toNat else min v.toNat n
theorem bs4(n d:Nat) (hd:d<=n) (o:Option Int):sIx n d o<=n:=by
 cases o with
 | none=>exact hd
 | some v =>
  show(if v < 0 then(v+(n:Int)).toNat else min v.toNat n)<=n
  by_cases hv:v < 0
  ·rw[if_pos hv];omega
  ·rw[if_neg hv];exact Nat.min_le_right _ _
theorem aG5(v:Int) (n d:Nat):(if v < 0 then max (v+(n:Int)) 0 else min v (n:Int))=((sIx n d (some v):Nat):Int):=by
 show(if v < 0 then max (v+(n:Int)) 0 else min v (n:Int))=(((if v < 0 then(v+(n:Int)).toNat else min v.toNat n):Nat):Int)
 by_cases hv:v < 0
 ·simp only[if_pos hv];omega
 ·simp only[if_neg hv];omega
theorem aA7(lo hi:Option Int) (n:Nat):Builtin.Slice.sliceAdjust lo hi 1 (n:Int)=(((sIx n 0 lo:Nat):Int),((sIx n n hi:Nat):Int)):=by
 have h1:¬((1:Int) < 0):=by omega
 unfold Builtin.Slice.sliceAdjust
 simp only[h1,if_false]
 refine Prod.ext ?_ ?_
 ·cases lo with
  | none=>rfl
  | some v=>exact aG5 v n 0
 ·cases hi with
  | none=>rfl
  | some v=>exact aG5 v n n
theorem ax3(i j:Nat):Builtin.Slice.slicePlaces (i:Int) (j:Int) 1=j - i:=by
 unfold Builtin.Slice.slicePlaces
 have h1:(1:Int) > 0:=by omega
 simp only[h1,if_true,Int.ediv_one]
 split<;>omega
theorem ac5(p:IsPart v o) (h:Q o s):wpAny (model prog w) A (Builtin.Slice.slicePartIndex v) Q E s:=by
 cases p with
 | none=>exact slicePart_none h
 | int i t=>exact slicePart_int h
theorem sliceApplied_gen{sl:Addr}{vl vu:Value}{lo hi:Option Int}{n:Nat}{Q:Int×Int×Nat->Shared->Prop}(hs:s.heap.IsSliceOf sl vl vu .none) (pl:IsPart vl lo) (pu:IsPart vu hi)
  (h:Q (((sIx n 0 lo:Nat):Int),1,sIx n n hi - sIx n 0 lo) s):wpAny (model prog w) A (Builtin.Slice.sliceApplied (.ref sl) (pure (n:Int))) Q E s:=by
 obtain⟨os,hos,hcs,hds⟩:=id hs
 unfold Builtin.Slice.sliceApplied Builtin.Slice.sliceFields
 refine wpAny_bind (wpAny_bind (wpAny_field hos hds (x:=vl) rfl (wpAny_bind (wpAny_field hos hds (x:=vu) rfl (wpAny_bind (wpAny_field hos hds (x:=.none) rfl (wpAny_pure ?_)))))))
 refine wpAny_bind (slicePart_none ?_)
 show wpAny _ _ (if((1:Int)==0)=true then _ else _) _ _ s
 rw[if_neg (by decide)]
 refine wpAny_bind (ac5 pl (wpAny_bind (ac5 pu (wpAny_bind (wpAny_pure ?_)))))
 show wpAny _ _ (match Builtin.Slice.sliceAdjust lo hi 1 (n:Int) with|(lo,hi)=>pure (lo,(1:Int),Builtin.Slice.slicePlaces lo hi 1)) _ _ s
 rw[aA7 lo hi n]
 show wpAny _ _ (pure (((sIx n 0 lo:Nat):Int),(1:Int),Builtin.Slice.slicePlaces ((sIx n 0 lo:Nat):Int) ((sIx n n hi:Nat):Int) 1)) _ _ s
 rw[ax3]
 exact wpAny_pure h
theorem aS3(xs:Array Value) (i k:Nat):((List.range k).filterMap fun(m:Nat)=>xs[((i:Int)+(m:Int)*1).toNat]?).toArray=((xs.toList.drop i).take k).toArray:=by
 have e:(fun(m:Nat)=>xs[((i:Int)+(m:Int)*1).toNat]?)=fun m=>xs[i+m]?:=by
  funext m
  have:((i:Int)+(m:Int)*1).toNat=i+m:=by omega
  rw[this]
 rw[e]
 have:=pick_run xs i k
 rw[List.filterMap_map]at this
 have e2:((fun x=>xs[x]?) ∘ fun x=>i+x)=fun m=>xs[i+m]?:=rfl
 rw[e2]at this
 rw[this]
theorem getItem_tuple_cut{t sl:Addr}{items:Array Value}{vl vu:Value}{lo hi:Option Int}{Q:Value->Shared->Prop}(ht:IsTup s.heap t items) (hs:s.heap.IsSliceOf sl vl vu .none) (pl:IsPart vl lo) (pu:IsPart vu hi)
  (hw:¬(sIx items.size 0 lo=0/\sIx items.size items.size hi=items.size))
  (h:Q (.ref s.heap.objs.size) { s with heap:=s.heap.push { cls:=.type "tuple", data:=.seq ((items.toList.drop (sIx items.size 0 lo)).take (sIx items.size items.size hi - sIx items.size 0 lo)).toArray } })
  (hsz:items.size<=sizeLine):wpAny (model prog w) A (getItem (.ref t) (.ref sl)) Q E s:=by
 have htake:sizeOk (.seq ((items.toList.drop (sIx items.size 0 lo)).take (sIx items.size items.size hi - sIx items.size 0 lo)).toArray):=by
  show((items.toList.drop (sIx items.size 0 lo)).take (sIx items.size items.size hi - sIx items.size 0 lo)).toArray.size<=sizeLine
  rw[List.size_toArray,List.length_take,List.length_drop,Array.length_toList]
  omega
 have hj:sIx items.size items.size hi<=items.size:=bs4 _ _ (Nat.le_refl _) hi
 obtain⟨os,hos,hcs,hds⟩:=id hs
 have hTs:s.TypeIs (.ref sl) "slice" := ⟨os,hos,hcs⟩
 unfold getItem
 try with_reducible refine wpAny_holding ?_
 first|refine wpAny_bind (wpAny_pure ?_)|skip
 refine wpAny_bind (wpAny_sequenceKey ht.typeIs (by decide) ?_)
 refine wpAny_bind (wpAny_callSpecial?_slot (name:=Str.ofString "__getitem__") ht.typeIs PyProof.Rows.slot_tuple_getitem
  (wpAny_call_entry PyProof.Rows.slot_tuple_getitem ht.typeIs entry_tuple_getitem ?_ (args_tuple_getitem _ _)))
 show wpAny _ _ (Builtin.Tuple.tupleItemsOf (.ref t) >>= _) _ _ s
 refine wpAny_bind (tupleItemsOf_ ht ?_)
 refine wpAny_bind (wpAny_typeOf hTs ?_)
 rw[if_pos (by decide)]
 refine wpAny_bind (sliceApplied_gen hs pl pu ?_)
 have hno:¬((((sIx items.size 0 lo:Nat):Int)==0&&(1:Int)==1&&(sIx items.size items.size hi - sIx items.size 0 lo)==items.size)=true):=by
  intro q
  rw[Bool.and_eq_true,Bool.and_eq_true]at q
  have q1:((sIx items.size 0 lo:Nat):Int)=0:=eq_of_beq q.1.1
  have q2:sIx items.size items.size hi - sIx items.size 0 lo=items.size:=eq_of_beq q.2
  exact hw ⟨by omega,by omega⟩
 show wpAny _ _ (if(((sIx items.size 0 lo:Nat):Int)==0&&(1:Int)==1&&(sIx items.size items.size hi - sIx items.size 0 lo)==items.size)=true then _ else _) _ _ s
 rw[if_neg hno,aS3]
 first
  | exact wpAny_bind (m:=Builtin.Tuple.tupleExact _) (wpAny_newObj_type (wpAny_pure ⟨_,rfl,wpAny_pure h⟩) htake)
  | exact wpAny_bind (m:=Builtin.Tuple.tupleExact _) (wpAny_newObj_type (wpAny_bind (wpAny_pure (wpAny_pure ⟨_,rfl,wpAny_pure h⟩))) htake)
  | exact wpAny_bind (wpAny_bind (m:=Builtin.Tuple.tupleExact _) (wpAny_newObj_type (wpAny_pure (wpAny_pure ⟨_,rfl,wpAny_pure h⟩)) htake))
  | exact wpAny_bind (wpAny_bind (m:=Builtin.Tuple.tupleExact _) (wpAny_newObj_type (wpAny_pure ⟨_,rfl,wpAny_pure h⟩) htake))
end
end HT
namespace L2
open PySem PySem.Spec PyProof.Rows
noncomputable abbrev TO:=St->Hp->(Option Int->Hp->Prop)->Prop
noncomputable def PO(X:Cx) (e:Option Expr) (t:TO):Prop :=
 ∀(pins:List (Addr×Obj)) (s:Shared) (σ:St) (H:Hp) (Q:Option Int->Hp->Prop),Inv X pins σ H s->t σ H Q ->
  wpAny (model X.prog X.w) X.A (evalPart e X.env) (fun u s'=>∃o H',Inv X pins σ H' s'/\IsPart u o/\Q o H') X.xe s
noncomputable def bc8:TO:=fun _ H Q=>Q none H
noncomputable def bF6(t:TE):TO:=fun σ H Q=>t σ H fun x H1=>∃i,x=.int i/\Q (some i) H1
section
variable {X:Cx}{e:Expr}{te:TE}{lo hi:Option Expr}{tl th:TO}{pos p2:Pos}
theorem be9:PO X none bc8:=by
 intro pins s σ H Q I h
 rw[evalPart_none]
 exact wpAny_pure ⟨none,H,I,.none,h⟩
theorem be8(h:PE X e te):PO X (some e) (bF6 te):=by
 intro pins s σ H Q I hw
 rw[evalPart_some]
 refine thn (h pins s σ H _ I hw) fun u s1 ⟨x,H1,I1,r1,q1⟩=>?_
 obtain⟨i,rfl,q⟩:=q1
 obtain⟨t,rfl⟩:=r1
 exact⟨some i,H1,I1,.int i t,q⟩
noncomputable def SlR(X:Cx) (r:V->Option Int->Option Int->Hp->VK->Prop):Prop :=
 ∀(pins:List (Addr×Obj)) (s:Shared) (σ:St) (H:Hp) (x:V) (v vl vu:Value) (lo hi:Option Int) (sl:Addr) (Q:VK),Inv X pins σ H s->C3 x v->s.heap.IsSliceOf sl vl vu .none->IsPart vl lo->IsPart vu hi->r x lo hi H Q ->
  ∃T id,typeLookup (.type T) "__getitem__" = pure (some (.builtin id))/\s.TypeIs v T/\wpAny (model X.prog X.w) X.A (getItem v (.ref sl)) (EP X pins σ Q) X.xe s
theorem SlR.or(h:SlR X r) (h':SlR X r'):SlR X (fun x lo hi H Q=>r x lo hi H Q\/r' x lo hi H Q):=by
 intro pins s σ H x v vl vu lo hi sl Q I rx hs pl pu q
 rcases q with q|q
 ·exact h pins s σ H x v vl vu lo hi sl Q I rx hs pl pu q
 ·exact h' pins s σ H x v vl vu lo hi sl Q I rx hs pl pu q
noncomputable def tSl(r:V->Option Int->Option Int->Hp->VK->Prop) (te:TE) (tl th:TO):TE:=fun σ H Q=>te σ H fun x H1=>tl σ H1 fun l H2=>th σ H2 fun u H3=>r x l u H3 Q
theorem l4(hr:SlR X r) (he:PE X e te) (hl:PO X lo tl) (hu:PO X hi th):PE X (.Subscript e (.Slice lo hi none p2) pos) (tSl r te tl th):=by
 intro pins s σ H Q I h
 refine Subscript_ (thn (he pins s σ H _ I h) fun v s1 ⟨x,H1,I1,r1,q1⟩=>?_)
 refine wpAny_Slice (thn (hl pins s1 σ H1 _ I1 q1) fun vl s2 ⟨l,H2,I2,pl,q2⟩=>thn (hu pins s2 σ H2 _ I2 q2) fun vu s3 ⟨u,H3,I3,pu,q3⟩=>?_)
 rw[evalPart_none]
 refine wpAny_pure ?_
 have I4:Inv X pins σ H3 { s3 with heap:=s3.heap.push { cls:=.type "slice", data:=.fields #[vl,vu,.none] } }:=I3.kept (t':=s3.toks) fun b ob q=>Heap.get?_push_of_some _ q
 obtain⟨T,id,hT,ht,hg⟩:=hr pins { s3 with heap:=s3.heap.push { cls:=.type "slice", data:=.fields #[vl,vu,.none] } } σ H3 x v vl vu l u s3.heap.objs.size Q I4 r1 (Heap.IsSliceOf.new ..) pl pu q3
 show wpAny (model X.prog X.w) X.A (subscriptTail e (.Slice lo hi none p2) v (.ref s3.heap.objs.size)) (EP X pins σ Q) X.xe { s3 with heap:=s3.heap.push { cls:=.type "slice", data:=.fields #[vl,vu,.none] } }
 exact tail_any (ops:=[.ref s3.heap.objs.size,v]) ht hT hg (by with_unfolding_all rfl)
noncomputable def au7(xs:List V) (lo hi:Option Int):List V:=(xs.drop (HT.sIx xs.length 0 lo)).take (HT.sIx xs.length xs.length hi - HT.sIx xs.length 0 lo)
theorem z7(xs:List V) (lo hi:Option Int):(au7 xs lo hi).length<=xs.length:=by
 unfold au7
 rw[List.length_take,List.length_drop]
 omega
noncomputable def bO8(K:PySem.W.Frag):V->Option Int->Option Int->Hp->VK->Prop:=fun x lo hi H Q=>∃a xs,x=.ref a/\SqT K H a xs /\
 ¬(HT.sIx xs.length 0 lo=0/\HT.sIx xs.length xs.length hi=xs.length)/\∀p,H p=none->Q (.ref p) (upd H p (.tup (au7 xs lo hi)))
theorem bs3:SlR X (bO8 X.K):=by
 intro pins s σ H x v vl vu lo hi sl Q I rx hs pl pu h
 obtain⟨a,xs,rfl,hx,hw,q⟩:=h
 cases rx
 obtain⟨its,r,ht,hz⟩:=I.tuple hx
 have hlen:its.toArray.size=xs.length:=by rw[List.size_toArray];exact r.length.symm
 refine⟨"tuple", _,PyProof.Rows.slot_tuple_getitem.lookup,ht.typeIs,?_⟩
 refine HT.getItem_tuple_cut ht hs pl pu (by rw[hlen];exact hw) ?_ (by rw[hlen];exact hz)
 rw[hlen]
 refine⟨.ref s.heap.objs.size,_,I.laid (t':=s.toks) (o:=.tup (au7 xs lo hi)) (fun b ob q=>Heap.get?_push_of_some _ q) (Nat.le_refl _) ?_,rfl,q _ (I.hok.fresh (Nat.le_refl _))⟩
 exact⟨Nat.le_trans (z7 xs lo hi) hz,_,(r.drop (HT.sIx xs.length 0 lo)).take (HT.sIx xs.length xs.length hi - HT.sIx xs.length 0 lo),af7.new _ _⟩
noncomputable def bH6(K:PySem.W.Frag):R2:=fun x y H Q=>∃a b xs ys,x=.ref a/\y=.ref b/\SqT K H a xs/\SqT K H b ys/\xs≠[]/\xs.length+ys.length<=sizeLine /\
 (ys=[]->Q (.ref a) H)/\(ys≠[]->∀p,H p=none->Q (.ref p) (upd H p (.tup (xs++ys))))
theorem B6.nil_iff(r:B6 xs us):us=[]↔xs=[]:=by
 cases r with
 | nil=>simp
 | cons _ _=>simp
theorem bg3:OpR X (binaryOp .Add) (bH6 X.K):=by
 intro pins s σ H x y v u Q I rx ry h
 obtain⟨a,b,xs,ys,rfl,rfl,ha,hb,hx,hz,q1,q2⟩:=h
 cases rx
 cases ry
 obtain⟨its,r1,p1,_⟩:=I.tuple ha
 obtain⟨its2,r2,p2,_⟩:=I.tuple hb
 refine HT.cat_tup p1 p2 (fun z=>hx (r1.nil_iff.mp z)) (fun z=>⟨.ref a,H,I,rfl,q1 (r2.nil_iff.mp z)⟩) (fun z=>?_) (by rw[← r1.length,← r2.length];exact hz)
 refine⟨.ref s.heap.objs.size,_,I.laid (t':=s.toks) (o:=.tup (xs++ys)) (fun b ob q=>Heap.get?_push_of_some _ q) (Nat.le_refl _) ?_,rfl,q2 (fun w=>z (r2.nil_iff.mpr w)) _ (I.hok.fresh (Nat.le_refl _))⟩
 exact⟨by rw[List.length_append];exact hz,_,r1.append r2,af7.new _ _⟩
end
noncomputable def ixN(n:Nat) (i:Int):Option Nat:=if 0<=i then(if i < n then some i.toNat else none) else if -(n:Int)<=i then some (i+n).toNat else none
noncomputable def atI{α:Type}(xs:List α) (i:Int):Option α:=(ixN xs.length i).bind fun j=>xs[j]?
theorem bk2(h:ixN n i=some j):seqIndex? i n=some j/\j < n/\-(n:Int)<=i/\i < n:=by
 unfold ixN at h
 by_cases h0:0<=i
 ·rw[if_pos h0]at h
  by_cases h1:i < n
  ·rw[if_pos h1]at h
   have e:i.toNat=j:=Option.some.inj h
   exact⟨by rw[seqIndex_of h0 h1,e],by omega,by omega,h1⟩
  ·rw[if_neg h1]at h;cases h
 ·rw[if_neg h0]at h
  by_cases h1:-(n:Int)<=i
  ·rw[if_pos h1]at h
   have e:(i+n).toNat=j:=Option.some.inj h
   exact⟨by rw[seqIndex_neg (by omega) h1,e],by omega,h1,by omega⟩
  ·rw[if_neg h1]at h;cases h
theorem ap3{α:Type}{xs:List α}{i:Int}{v:α}(h:atI xs i=some v):∃j,seqIndex? i xs.length=some j/\xs[j]? = some v/\j < xs.length/\-(xs.length:Int)<=i/\i < xs.length:=by
 unfold atI at h
 cases e:ixN xs.length i with
 | none=>rw[e]at h;cases h
 | some j =>
  rw[e]at h
  obtain⟨h1,h2,h3,h4⟩:=bk2 e
  exact⟨j,h1,h,h2,h3,h4⟩
theorem bm6{α:Type}{xs:List α}{j:Nat}{v:α}(h:xs[j]? = some v):atI xs (j:Int)=some v:=by
 have hj:j < xs.length:=(List.getElem?_eq_some_iff.mp h).1
 have e:ixN xs.length (j:Int)=some j:=by
  unfold ixN
  rw[if_pos (by omega),if_pos (by omega)];simp
 unfold atI;rw[e];exact h
noncomputable def o6(b:Expr):Prop:=∀o i,subscripted b false o i=operate [o,i] (getItem o i)
noncomputable def IxR(X:Cx) (r:R2):Prop :=
 ∀(value slice:Expr) (pins:List (Addr×Obj)) (s:Shared) (σ:St) (H:Hp) (x y:V) (v u:Value) (Q:VK),Inv X pins σ H s->C3 x v->C3 y u->r x y H Q ->
  subscripted slice false v u=operate [v,u] (getItem v u)->wpAny (model X.prog X.w) X.A (subscriptTail value slice v u) (EP X pins σ Q) X.xe s
noncomputable def MtR(X:Cx) (id:String) (r:V->List V->Hp->VK->Prop):Prop :=
 ∀(pins:List (Addr×Obj)) (s:Shared) (σ:St) (H:Hp) (x:V) (xs:List V) (v:Value) (us:List Value) (Q:VK),Inv X pins σ H s->C3 x v->B6 xs us->r x xs H Q ->
  wpAny (model X.prog X.w) X.A (call (.builtin id) (v::us)) (EP X pins σ Q) X.xe s
section
variable {X:Cx}{a b:Expr}{ta tb:TE}{pos:Pos}
theorem IxR.or(h:IxR X r) (h':IxR X r'):IxR X (fun x y H Q=>r x y H Q\/r' x y H Q):=by
 intro value slice pins s σ H x y v u Q I rx ry q hs
 rcases q with q|q
 ·exact h value slice pins s σ H x y v u Q I rx ry q hs
 ·exact h' value slice pins s σ H x y v u Q I rx ry q hs
theorem bn8(hr:IxR X r) (ha:PE X a ta) (hb:PE X b tb) (hs:o6 b):PE X (.Subscript a b pos) (tOp r ta tb):=by
 intro pins s σ H Q I h
 exact Subscript_ (bC8 ha hb I h fun v u s2 x y H2 I2 rx ry q=>hr a b pins s2 σ H2 x y v u Q I2 rx ry q (hs _ _))
noncomputable def bH5(K:PySem.W.Frag):R2:=fun x y H Q=>∃p xs i v,x=.ref p/\y=.int i/\SqL K H p xs/\atI xs i=some v/\Q v H
noncomputable def bH3(K:PySem.W.Frag):R2:=fun x y H Q=>∃p xs i v,x=.ref p/\y=.int i/\SqT K H p xs/\atI xs i=some v/\Q v H
noncomputable def bH4:R2:=fun x y H Q=>∃z i c,x=.str z/\y=.int i/\z.length<=sizeLine/\atI z.cps.toList i=some c/\Q (.str ⟨#[c]⟩) H
theorem bk1:IxR X (bH5 X.K):=by
 intro value slice pins s σ H x y v u Q I rx ry h hs
 obtain⟨p,xs,i,z,rfl,rfl,hq,he,q⟩:=h
 cases rx
 obtain⟨t,rfl⟩:=ry
 obtain⟨its,r,pl,hz⟩:=I.list hq
 obtain⟨j,h1,h2,h3,h4,h5⟩:=ap3 he
 obtain⟨w,ew,rw'⟩:=r.get h2
 have hl:=r.length
 have hn:=ad9
 have fin:EP X pins σ Q w s:=⟨z,H,I,rw',q⟩
 by_cases h0:0<=i
 ·have hj:i.toNat=j:=by
   rw[seqIndex_of h0 h5]at h1
   exact Option.some.inj h1
  exact item_listR pl.isList h0 (by omega) (by rw[hj];simpa using ew) fin hs
 ·have hj:(i+(its.toArray.size:Int)).toNat=j:=by
   rw[seqIndex_neg (by omega) h4]at h1
   rw[List.size_toArray,← hl]
   exact Option.some.inj h1
  exact subscriptTail_builtinR (x:=w) pl.isList.typeIs slot_list_getitem.lookup
   (wpAny_getItem_list_neg (Q:=fun r s'=>r=w/\EP X pins σ Q r s') pl.isList (by omega) (by rw[List.size_toArray]<;>omega) (by omega) (by rw[hj];simpa using ew) ⟨rfl,fin⟩) hs
theorem bA9:IxR X (bH3 X.K):=by
 intro value slice pins s σ H x y v u Q I rx ry h hs
 obtain⟨p,xs,i,z,rfl,rfl,hq,he,q⟩:=h
 cases rx
 obtain⟨t,rfl⟩:=ry
 obtain⟨its,r,pl,hz⟩:=I.tuple hq
 obtain⟨j,h1,h2,h3,h4,h5⟩:=ap3 he
 obtain⟨w,ew,rw'⟩:=r.get h2
 have hl:=r.length
 have hn:=ad9
 have fin:EP X pins σ Q w s:=⟨z,H,I,rw',q⟩
 exact subscriptTail_builtinR (x:=w) pl.typeIs slot_tuple_getitem.lookup
  (getItem_tuple (j:=j) (Q:=fun r s'=>r=w/\EP X pins σ Q r s') pl (by omega) (by omega) (by rw[List.size_toArray,← hl];exact h1) (by simpa using ew) ⟨rfl,fin⟩) hs
theorem bB0:IxR X bH4:=by
 intro value slice pins s σ H x y v u Q I rx ry h hs
 obtain⟨z,i,c,rfl,rfl,hz,he,q⟩:=h
 obtain⟨t,rfl⟩:=rx
 obtain⟨t',rfl⟩:=ry
 obtain⟨j,h1,h2,h3,h4,h5⟩:=ap3 he
 have hl:z.cps.toList.length=z.length:=by simp[Str.length]
 rw[hl]at h1 h4 h5
 have hn:=ad9
 exact tail_any (typeIs_str s z t) slot_str_getitem.lookup (getItem_str (c:=c) (by
  have e1:decide (i < -(2 ^ 63:Int))=false:=decide_eq_false (by omega)
  have e2:decide (i ≥ 2 ^ 63)=false:=decide_eq_false (by omega)
  rw[e1,e2,Bool.or_false]) (by rw[h1];simpa using h2) ⟨.str ⟨#[c]⟩,H,I.tok _,⟨_,rfl⟩,q⟩) hs
noncomputable def rIx(K:PySem.W.Frag):R2:=fun x y H Q=>bH5 K x y H Q\/bH3 K x y H Q\/bH4 x y H Q
theorem aX2:IxR X (rIx X.K):=bk1.or (bA9.or bB0)
theorem k6(lo hi:Option Int) (n:Nat):(sliceBounds lo hi none n).1=((HT.sIx n 0 lo:Nat):Int)/\(sliceBounds lo hi none n).2.1=((HT.sIx n n hi:Nat):Int)/\(sliceBounds lo hi none n).2.2=1:=by
 refine⟨?_,?_,rfl⟩
 ·cases lo with
  | none=>simp[sliceBounds,HT.sIx]
  | some i =>
   simp only[sliceBounds,HT.sIx,Option.getD_none,show(1:Int) > 0 by decide,if_true]
   by_cases h:i < 0
   ·simp only[h,if_true]<;>omega
   ·simp only[h,if_false]<;>omega
 ·cases hi with
  | none=>simp[sliceBounds,HT.sIx]
  | some i =>
   simp only[sliceBounds,HT.sIx,Option.getD_none,show(1:Int) > 0 by decide,if_true]
   by_cases h:i < 0
   ·simp only[h,if_true]<;>omega
   ·simp only[h,if_false]<;>omega
theorem ag2(its:List Value) (lo hi:Option Int):slicePick its.toArray lo hi none=((its.drop (HT.sIx its.length 0 lo)).take (HT.sIx its.length its.length hi - HT.sIx its.length 0 lo)).toArray:=by
 obtain⟨h1,h2,h3⟩:=k6 lo hi its.toArray.size
 unfold slicePick
 rw[h1,h2,h3]
 simp only[sliceRange_one,pick_run,List.size_toArray]<;>rfl
noncomputable def bO9(K:PySem.W.Frag):V->Option Int->Option Int->Hp->VK->Prop:=fun x lo hi H Q=>∃a xs,x=.ref a/\SqL K H a xs/\∀p,H p=none->Q (.ref p) (upd H p (.lst (au7 xs lo hi)))
theorem aC3:SlR X (bO9 X.K):=by
 intro pins s σ H x v vl vu lo hi sl Q I rx hs pl pu h
 obtain⟨a,xs,rfl,hx,q⟩:=h
 cases rx
 obtain⟨its,r,ht,hz⟩:=I.list hx
 have hlen:=r.length
 refine⟨"list", _,slot_list_getitem.lookup,ht.isList.typeIs,?_⟩
 refine wpAny_getItem_list_slice ht.isList hs pl pu .none (by simp) ?_ (by rw[List.size_toArray]<;>omega)
 rw[ag2,← hlen]
 refine⟨.ref s.heap.objs.size,_,I.laid (t':=s.toks) (o:=.lst (au7 xs lo hi)) (fun b ob q=>Heap.get?_push_of_some _ q) (Nat.le_refl _) ?_,rfl,q _ (I.hok.fresh (Nat.le_refl _))⟩
 exact⟨Nat.le_trans (z7 xs lo hi) hz,_,0,(r.drop (HT.sIx xs.length 0 lo)).take (HT.sIx xs.length xs.length hi - HT.sIx xs.length 0 lo),Heap.get?_push_size _ rfl⟩
noncomputable def d7:V->Bool
 | .non=>true
 | .bl _=>true
 | .int _=>true
 | .str _=>true
 | _=>false
noncomputable def eqV:V->V->Bool
 | .non,.non=>true
 | .bl a,.bl b=>a==b
 | .bl a,.int b=>(if a then 1 else 0)==b
 | .int a,.bl b=>a==(if b then 1 else 0)
 | .int a,.int b=>a==b
 | .str a,.str b=>a==b
 | _,_=>false
theorem bC4(ry:C3 y u) (rx:C3 x v) (fy:d7 y=true) (fx:d7 x=true):SeqAt.EqAt A s u v (eqV y x):=by
 cases y with
 | non =>
  cases ry
  cases x with
  | non=>cases rx;exact SeqAt.EqAt.same _
  | bl b=>cases rx;exact SeqAt.EqAt.none_bool b
  | int b=>obtain⟨t,rfl⟩:=rx;exact SeqAt.EqAt.none_int b t
  | str b=>obtain⟨t,rfl⟩:=rx;exact SeqAt.EqAt.none_str b t
  | _=>exact absurd (show false=true from fx) Bool.false_ne_true
 | bl a =>
  cases ry
  cases x with
  | non=>cases rx;exact SeqAt.EqAt.bool_none a
  | bl b=>cases rx;exact SeqAt.EqAt.bool_bool a b
  | int b=>obtain⟨t,rfl⟩:=rx;exact SeqAt.EqAt.bool_int a b t
  | str b=>obtain⟨t,rfl⟩:=rx;exact SeqAt.EqAt.bool_str a b t
  | _=>exact absurd (show false=true from fx) Bool.false_ne_true
 | int a =>
  obtain⟨t',rfl⟩:=ry
  cases x with
  | non=>cases rx;exact SeqAt.EqAt.int_none a t'
  | bl b=>cases rx;exact SeqAt.EqAt.int_bool a t' b
  | int b=>obtain⟨t,rfl⟩:=rx;exact SeqAt.EqAt.int_int a t' b t
  | str b=>obtain⟨t,rfl⟩:=rx;exact SeqAt.EqAt.int_str a t' b t
  | _=>exact absurd (show false=true from fx) Bool.false_ne_true
 | str a =>
  obtain⟨t',rfl⟩:=ry
  cases x with
  | non=>cases rx;exact SeqAt.EqAt.str_none a t'
  | bl b=>cases rx;exact SeqAt.EqAt.str_bool a t' b
  | int b=>obtain⟨t,rfl⟩:=rx;exact SeqAt.EqAt.str_int a t' b t
  | str b=>obtain⟨t,rfl⟩:=rx;exact SeqAt.EqAt.str_str a t' b t
  | _=>exact absurd (show false=true from fx) Bool.false_ne_true
 | _=>exact absurd (show false=true from fy) Bool.false_ne_true
noncomputable def eqU(x:V) (u:Value):Bool:=match u with
 | .none=>eqV .non x
 | .bool b=>eqV (.bl b) x
 | .int i _=>eqV (.int i) x
 | .str z _=>eqV (.str z) x
 | _=>false
theorem aZ5(r:C3 y u) (f:d7 y=true):eqU x u=eqV y x:=by
 cases y with
 | non=>cases r;rfl
 | bl b=>cases r;rfl
 | int i=>obtain⟨t,rfl⟩:=r;rfl
 | str z=>obtain⟨t,rfl⟩:=r;rfl
 | _=>exact absurd (show false=true from f) Bool.false_ne_true
theorem o5:∀{xs:List V}{us:List Value},B6 xs us->xs.all d7=true->us.any (eqU x)=xs.any fun y=>eqV y x
 | _,_,.nil,_=>rfl
 | y::xs,u::us,.cons r t,f=>by
  rw[List.all_cons,Bool.and_eq_true]at f
  rw[List.any_cons,List.any_cons,aZ5 r f.1,o5 t f.2]
theorem Y9(rx:C3 x v) (fx:d7 x=true):∀{xs:List V}{us:List Value},B6 xs us->xs.all d7=true->∀u∈us,SeqAt.EqAt A s u v (eqU x u)
 | _,_,.nil,_=>fun u hu=>by cases hu
 | y::xs,u::us,.cons r t,f=>fun u' hu=>by
  rw[List.all_cons,Bool.and_eq_true]at f
  rcases List.mem_cons.mp hu with rfl|hu
  ·rw[aZ5 r f.1];exact bC4 r rx f.1 fx
  ·exact Y9 rx fx t f.2 u' hu
noncomputable def inV(x:V) (xs:List V):Bool:=xs.any fun y=>eqV y x
noncomputable def rIn(K:PySem.W.Frag) (neg:Bool):R2:=fun x y H Q=>∃p xs,y=.ref p/\(SqL K H p xs\/SqT K H p xs)/\d7 x=true/\xs.all d7=true/\Q (.bl (if neg then !inV x xs else inV x xs)) H
theorem aK0:OpR X (compareOp .In) (rIn X.K false):=by
 intro pins s σ H x y v u Q I rx ry h
 obtain⟨p,xs,rfl,hq,fx,fs,q⟩:=h
 cases ry
 rcases hq with hq|hq
 ·obtain⟨its,r,pl,hz⟩:=I.list hq
  refine SeqAt.in_listAt (eqU x) pl.isList (fun w hw=>Y9 rx fx r fs w (by simpa using hw)) ⟨.bl _,H,I,rfl,?_⟩
  rw[show its.toArray.any (eqU x)=its.any (eqU x) by simp,o5 r fs]
  exact q
 ·obtain⟨its,r,pl,hz⟩:=I.tuple hq
  refine SeqAt.in_tupleAt (eqU x) pl (fun w hw=>Y9 rx fx r fs w (by simpa using hw)) ⟨.bl _,H,I,rfl,?_⟩
  rw[show its.toArray.any (eqU x)=its.any (eqU x) by simp,o5 r fs]
  exact q
theorem am7:OpR X (compareOp .NotIn) (rIn X.K true):=by
 intro pins s σ H x y v u Q I rx ry h
 obtain⟨p,xs,rfl,hq,fx,fs,q⟩:=h
 cases ry
 rcases hq with hq|hq
 ·obtain⟨its,r,pl,hz⟩:=I.list hq
  refine SeqAt.notIn_listAt (eqU x) pl.isList (fun w hw=>Y9 rx fx r fs w (by simpa using hw)) ⟨.bl _,H,I,rfl,?_⟩
  rw[show its.toArray.any (eqU x)=its.any (eqU x) by simp,o5 r fs]
  exact q
 ·obtain⟨its,r,pl,hz⟩:=I.tuple hq
  refine SeqAt.notIn_tupleAt (eqU x) pl (fun w hw=>Y9 rx fx r fs w (by simpa using hw)) ⟨.bl _,H,I,rfl,?_⟩
  rw[show its.toArray.any (eqU x)=its.any (eqU x) by simp,o5 r fs]
  exact q
theorem ap2:W8 X (.builtin "len") (fun xs H Q=>∃p ys,xs=[.ref p]/\(SqL X.K H p ys\/SqT X.K H p ys)/\Q (.int ys.length) H):=by
 intro pins s σ H xs us Q I r h
 obtain⟨p,ys,rfl,hq,q⟩:=h
 obtain⟨u,rfl,rx⟩:=i9 r
 cases rx
 have hn:=ad9
 rcases hq with hq|hq
 ·obtain⟨its,r',pl,hz⟩:=I.list hq
  have hlen:=r'.length
  exact Calls.call_len_list pl.isList (by simp only[List.size_toArray]<;>omega) ⟨.int ys.length,H,I.tok _,⟨s.toks+1,by rw[List.size_toArray,hlen]⟩,q⟩
 ·obtain⟨its,r',pl,hz⟩:=I.tuple hq
  have hlen:=r'.length
  exact len_tuple pl (by simp only[List.size_toArray]<;>omega) ⟨.int ys.length,H,I.tok _,⟨s.toks+1,by rw[List.size_toArray,hlen]⟩,q⟩
theorem ap1:W8 X (.type "list") (fun xs H Q=>∃p ys,xs=[.ref p]/\(SqL X.K H p ys\/SqT X.K H p ys)/\∀l,H l=none->Q (.ref l) (upd H l (.lst ys))):=by
 intro pins s σ H xs us Q I r h
 obtain⟨p,ys,rfl,hq,q⟩:=h
 obtain⟨u,rfl,rx⟩:=i9 r
 cases rx
 have fin:∀(its:List Value),B6 ys its->ys.length<=sizeLine->∀(h':Heap) (c':Nat),(∀b o',s.heap.get? b=some o'->h'.get? b=some o') ->
   h'.get? s.heap.objs.size=some { cls:=.type "list", dict:=none,data:=.seq its.toArray c',slots:=#[] }->EP X pins σ Q (.ref s.heap.objs.size) { s with heap:=h' }:=fun its r' hz h' c' kp e =>
  ⟨.ref s.heap.objs.size,_,I.laid (t':=s.toks) kp (Nat.le_refl _) (show M8 X.prog X.w _ h' _ (.lst ys) from⟨hz,its,c',r',e⟩),rfl,q _ (I.hok.fresh (Nat.le_refl _))⟩
 rcases hq with hq|hq
 ·obtain⟨its,r',pl,hz⟩:=I.list hq
  have hlen:=r'.length
  obtain⟨o,ho,hc,n,hd⟩:=pl.isList
  exact call_list_seq p (.inl rfl) ho hc hd (fun h' c' kp e=>fin its r' hz h' c' kp e) (by simp only[List.size_toArray]<;>omega)
 ·obtain⟨its,r',pl,hz⟩:=I.tuple hq
  have hlen:=r'.length
  obtain⟨o,ho,hc,n,hd⟩:=pl
  exact call_list_seq p (.inr rfl) ho hc hd (fun h' c' kp e=>fin its r' hz h' c' kp e) (by simp only[List.size_toArray]<;>omega)
theorem ag9:W8 X (.type "tuple") (fun xs H Q=>∃p ys,xs=[.ref p]/\((SqL X.K H p ys/\∀l,H l=none->Q (.ref l) (upd H l (.tup ys)))\/(SqT X.K H p ys/\Q (.ref p) H))):=by
 intro pins s σ H xs us Q I r h
 obtain⟨p,ys,rfl,h⟩:=h
 obtain⟨u,rfl,rx⟩:=i9 r
 cases rx
 rcases h with⟨hq,q⟩|⟨hq,q⟩
 ·obtain⟨its,r',pl,hz⟩:=I.list hq
  have hlen:=r'.length
  refine call_tuple_list pl.isList (fun h' kp=>?_) (by simp only[List.size_toArray]<;>omega)
  have I1:Inv X pins σ H { s with heap:=h' }:=I.kept (t':=s.toks) kp
  have I2:Inv X pins σ (upd H h'.objs.size (.tup ys)) { s with heap:=h'.push { cls:=.type "tuple", data:=.seq its.toArray } } :=
   I1.laid (t':=s.toks) (fun b o e=>Heap.get?_push_of_some _ e) (Nat.le_refl _) (show M8 X.prog X.w _ _ _ (.tup ys) from⟨hz,its,r',af7.new _ _⟩)
  exact⟨.ref h'.objs.size,_,I2,rfl,q _ (I1.hok.fresh (Nat.le_refl _))⟩
 ·obtain⟨its,r',pl,hz⟩:=I.tuple hq
  exact call_tuple_same pl ⟨.ref p,H,I,rfl,q⟩
noncomputable def tyV(K:PySem.W.Frag) (T:String) (x:V) (H:Hp):Prop:=match x with
 | .str _=>T = "str"
 | .int _=>T = "int"
 | .ref p=>(T = "list" /\ ∃xs,SqL K H p xs)\/(T = "tuple" /\ ∃o,K.lookup p=some o/\o.cls=.type "tuple" /\ o.dict=none) \/
   (T = "dict" /\ ((∃kvs,H p=some (.dK kvs))\/∃kvs,H p=some (.dT kvs)))\/(T = "set" /\ ∃S n,H p=some (.set S n))
 | _=>False
theorem br3(I:Inv X pins σ H s) (r:C3 x v) (ty:tyV X.K T x H) :
  s.TypeIs v T/\∀a,v=.ref a->∃ob,s.heap.get? a=some ob/\ob.dict=none:=by
 cases x with
 | str z =>
  obtain⟨t,rfl⟩:=r
  cases(show T = "str" from ty)
  exact⟨typeIs_str s z t,fun _ e=>nomatch e⟩
 | int i =>
  obtain⟨t,rfl⟩:=r
  cases(show T = "int" from ty)
  exact⟨typeIs_int s i t,fun _ e=>nomatch e⟩
 | ref p =>
  cases r
  rcases ty with⟨rfl,xs,hq⟩|⟨rfl,o,hk,hc,hd⟩|⟨rfl,hk⟩|⟨rfl,S,n,hk⟩
  ·obtain⟨its,_,pl,_⟩:=I.list hq
   refine⟨pl.isList.typeIs,fun a e=>?_⟩
   cases e
   obtain⟨o,n,e,c,hd,_⟩:=pl
   exact⟨o,e,hd⟩
  ·refine⟨⟨o,I.kIn p o hk,hc⟩,fun a e=>?_⟩
   cases e
   exact⟨o,I.kIn _ o hk,hd⟩
  ·have z:∃o,s.heap.get? p=some o/\o.ExactDict:=by
    rcases hk with⟨kvs,hk⟩|⟨kvs,hk⟩
    ·obtain⟨_,_,_,_,o,_,_,e,ex,_⟩:=I.hok p _ hk
     exact⟨o,e,ex⟩
    ·obtain⟨_,_,_,_,o,_,_,e,ex,_⟩:=I.hok p _ hk
     exact⟨o,e,ex⟩
   obtain⟨o,e,ex⟩:=z
   refine⟨⟨o,e,ex.1⟩,fun a e2=>?_⟩
   cases e2
   exact⟨o,e,ex.2.1⟩
  ·obtain⟨o,_,_,_,e,ex,_⟩:=I.hok p _ hk
   refine⟨⟨o,e,ex.1⟩,fun a e2=>?_⟩
   cases e2
   exact⟨o,e,ex.2.1⟩
 | _=>exact False.elim ty
noncomputable def tBM(K:PySem.W.Frag) (T:String) (r:V->List V->Hp->VK->Prop) (to:TE) (t:TA):TE:=fun σ H Q=>to σ H fun x H1=>tyV K T x H1/\t σ H1 fun xs H2=>r x xs H2 Q
variable {o e:Expr}{es:List Expr}{to:TE}{t:TA}{name:Str}{apos cpos:Pos}{T id:String}{r:V->List V->Hp->VK->Prop}
theorem aD8(pa:PlainAttrs T) (slot:Slot T name id) (hty:typeOf (.builtin id)=pure (.type "method_descriptor")) (hm:MtR X id r) (ho:PE X o to) (ha:PA X (e::es) t)
  (hbase:attributeBase o name X.env (eval o X.env)=eval o X.env:=by rfl)
  (hfew:((backTo cpos (starEach (e::es) X.env)).all (fun x=>!x.1)&&(backToKw cpos (keywordEach [] X.env)).all (fun x=>x.1.isSome)
   && decide ((e::es).length+([]:List Keyword).length+(if([]:List Keyword).isEmpty then 0 else 1) < 30))=true:=by rfl)
  (hline:(apos.endLine==cpos.line)=true:=by rfl) (hs:starEach (e::es) X.env=(false,eval e X.env)::starEach es X.env:=by rfl) (hplain:(backTo cpos (starEach es X.env)).any (·.1)=false:=by rfl) :
  PE X (.Call (.Attribute o name apos) (e::es) [] cpos) (tBM X.K T r to t):=by
 intro pins s σ H Q I h
 refine wpAny_Call_method_late hbase hfew hline rfl (thn (ho pins s σ H _ I h) fun v s1 ⟨x,H1,I1,r1,ty,q1⟩=>?_)
 obtain⟨h1,h2⟩:=br3 I1 r1 ty
 refine⟨T,id,pa,slot,hty,h1,h2,?_⟩
 have hA:=ha cpos pins s1 σ H1 _ I1 q1
 rw[hs]at hA ⊢
 refine Calls.callWith_builtin (by show(false || (backTo cpos (starEach es X.env)).any (·.1))=false;rw[hplain]<;>rfl) (Calls.evalArgs_plain ?_)
 exact thn hA fun us s2 ⟨vs,H2,I2,r2,q2⟩=>hm pins s2 σ H2 x vs v us Q I2 r1 r2 q2
end
noncomputable def MtM(X:Cx) (id:String) (r:V->List V->Hp->VK->Prop):Prop :=
 ∀(pins:List (Addr×Obj)) (s:Shared) (σ:St) (H:Hp) (x:V) (xs:List V) (v:Value) (us:List Value) (Q:VK),Inv X pins σ H s->C3 x v->B6 xs us->r x xs H Q ->
  wpAny (model X.prog X.w) X.A (call (.builtin id) (v::us)) (EP X pins σ Q) X.xe s
theorem B6.one:∀{x:V}{us:List Value},B6 [x] us->∃u,us=[u]/\C3 x u
 | _,_,.cons r .nil=>⟨_,rfl,r⟩
theorem B6.rep(h:B6 xs us):∀k:Nat,B6 (List.replicate k xs).flatten (List.replicate k us).flatten
 | 0=>.nil
 | k+1=>by
  rw[List.replicate_succ,List.replicate_succ,List.flatten_cons,List.flatten_cons]
  exact B6.append h (B6.rep h k)
theorem ai9(its:List Value):∀(k:Nat) (acc:List Value),
  List.foldl (fun x1 x2=>x1++x2) acc.toArray (List.replicate k its.toArray)=(acc++(List.replicate k its).flatten).toArray
 | 0,acc=>by simp
 | k+1,acc=>by
  have e:acc.toArray++its.toArray=(acc++its).toArray:=by simp
  have e2:(acc++its)++(List.replicate k its).flatten=acc++(List.replicate (k+1) its).flatten:=by rw[List.replicate_succ,List.flatten_cons,List.append_assoc]
  rw[← e2,← ai9 its k (acc++its),← e,List.replicate_succ,List.foldl_cons]
section
variable {X:Cx}{pins:List (Addr×Obj)}{σ:St}{H:Hp}{s:Shared}{l b:Addr}{xs ys zs:List V}
theorem Inv.lset{its its':List Value}{n:Nat}{f:Array Value->Array Value}{t':Nat}(I:Inv X pins σ H s) (hH:H l=some (.lst xs))
  (e:s.heap.get? l=some { cls:=.type "list", data:=.seq its.toArray n }) (hf:f its.toArray=its'.toArray) (hv:B6 ys its') (hz:ys.length<=sizeLine) :
  Inv X pins σ (upd H l (.lst ys)) { s with heap:=s.heap.update l (Obj.mapSeq f),toks:=t' }:=by
 have q:=PySem.IsL.update e f
 rw[hf]at q
 refine I.write (x:=l) (e:=l) (by rw[hH];exact trivial) (.inl rfl) (fun b' u hb hu=>(Heap.get?_update_other s.heap (Obj.mapSeq f) (Ne.symm hb)).trans hu) ⟨_,q⟩ ?_
 exact⟨hz,its',_,hv,q⟩
theorem Inv.lnew(I:Inv X pins σ H s) (hv:B6 ys its) (hz:ys.length<=sizeLine) :
  Inv X pins σ (upd H s.heap.objs.size (.lst ys)) { s with heap:=s.heap.push { cls:=.type "list", data:=.seq its.toArray },toks:=t' } :=
 I.laid (fun _ _ q=>Heap.get?_push_of_some _ q) (Nat.le_refl _) ⟨hz,its,0,hv,Heap.get?_push_size _ rfl⟩
theorem Inv.fresh(I:Inv X pins σ H s):H s.heap.objs.size=none:=I.hok.fresh (Nat.le_refl _)
theorem Inv.lstM(I:Inv X pins σ H s) (hH:H l=some (.lst xs)):xs.length<=sizeLine/\∃(its:List Value) (n:Nat),B6 xs its/\xs.length=its.length/\s.heap.get? l=some { cls:=.type "list", data:=.seq its.toArray n }:=by
 obtain⟨z,its,n,r,e⟩:=I.hok l _ hH
 exact⟨z,its,n,r,r.length,e⟩
theorem Y7(h:n<=sizeLine):Builtin.List.listTooLong n=false:=by
 unfold Builtin.List.listTooLong
 exact decide_eq_false (by omega)
end
section
variable {X:Cx}
noncomputable def bd9:V->List V->Hp->VK->Prop:=fun x vs H Q=>∃l xs y,x=.ref l/\vs=[y]/\H l=some (.lst xs)/\xs.length < sizeLine/\Q .non (upd H l (.lst (xs++[y])))
theorem ah9:MtM X "list.append" bd9:=by
 intro pins s σ H x vs v us Q I rx rv h
 obtain⟨l,xs,y,rfl,rfl,hH,hz,q⟩:=h
 cases rx
 obtain⟨u,rfl,ru⟩:=rv.one
 obtain⟨z,its,n,r,hl,e⟩:=I.lstM hH
 refine call_meets F.slot_list_append ⟨_,e,rfl⟩ F.entry_list_append (F.args_list_append_2 _ _) (PySem.list_append l its.toArray n u (by rw[List.size_toArray];omega)) ⟨e,?_⟩
 refine⟨.non,_,I.lset (its':=its++[u]) hH e (by simp) (r.append (.cons ru .nil)) ?_,rfl,q⟩
 rw[List.length_append,List.length_singleton]
 omega
theorem an7{α:Type}(xs:List α) (k:Nat):(List.replicate k xs).flatten.length=k*xs.length:=by
 induction k with
 | zero=>simp
 | succ k ih=>rw[List.replicate_succ,List.flatten_cons,List.length_append,ih,Nat.succ_mul,Nat.add_comm]
end
section
variable {prog:Program}{w:World}{A:Around}{E:Value->Shared->Prop}{s:Shared}
theorem aJ1(its its2:List Value) (a c:Nat):its.toArray.extract 0 a++its2.toArray++its.toArray.extract c its.toArray.size=(its.take a++its2++its.drop c).toArray:=by
  apply Array.toList_inj.mp
  first
    | (simp
       exact List.take_of_length_le (by simp))
    | simp[List.take_of_length_le]
    | simp
set_option maxRecDepth 100000 in
end
section
variable {X:Cx}
end
end L2
namespace Att
open PySem PySem.W PySem.Calls PyProof.Rows
theorem aa3:∀(ns:List Int) (vs:List Value),WellAll P h vs (ns.map WData.int)->IntsAre vs ns:=by
 intro ns
 induction ns with
 | nil =>
  intro vs w
  rw[List.map_nil]at w
  cases w
  exact .nil
 | cons n ns ih =>
  intro vs w
  rw[List.map_cons]at w
  cases w with
  | cons a b =>
   cases a
   exact .cons _ _ (ih _ b)
theorem aJ3{l:OpenLaw}{n:Nat}(hn:l.most=some n) {P:Params}{h:Heap}{args:List WData}{vals:List Value}
  (hpre:l.row.toRowW.claim.pre args=true) (hwl:WellAll P h vals args) :
  ∃a vs ns,vals=[Value.ref a]/\args=[WData.list (ns.map WData.int)]/\h.get? a=some { cls:=.type "list", data:=.seq vs.toArray }/\IntsAre vs ns/\ns.length<=n:=by
 have hsh:WShape.hasAll [] args [.list .int]=true:=(pre_splitW hpre).1
 have hc:l.pre.holds [] { args:=args }=true:=(pre_splitW hpre).2
 obtain⟨d,r,rfl,h1,h2⟩:=hasAllW_cons hsh
 obtain rfl:=hasAllW_nil h2
 obtain⟨xs,rfl,h3⟩:=hasW_list h1
 obtain⟨ns,rfl⟩:=items_int h3
 have hlen:ns.length<=n:=by
  unfold OpenLaw.pre at hc
  have h4:(WTm.not (.lt (.lit (.int (n:Int))) (.len (.arg 0)))).holds [] { args:=[.list (ns.map .int)] }=true:=by
   have h4:=(holds_andW hc).1
   rw[hn]at h4
   exact h4
  have h5:=condW_of h4 (w_not (w_lt w_lit (w_len_list (w_arg rfl))))
  rw[List.length_map]at h5
  refine Nat.le_of_not_lt fun q=>?_
  have q':(n:Int) < ((ns.length:Nat):Int):=by omega
  first
   | (rw[decide_eq_true q']at h5;exact absurd h5 (by decide))
   | (simp at h5;omega)
 cases hwl with
 | cons w1 w2 =>
  cases w2
  cases w1 with
  | list ho hall=>exact⟨_,_,ns,rfl,rfl,ho,aa3 ns _ hall,hlen⟩
theorem aJ8(l:OpenLaw) (args:List WData):l.row.toRowW.claim.post args (.bool true) args=true :=
 postW_of (r:=l.row.toRowW) (X:=(true==true))
  (show WShape.has [] (.bool true) .bool=true by first|rfl|decide|simp[WShape.has,WShape.arms,WShape.armsAll])
  (show(WTm.eq .res (.lit (.bool true))).value [] { args:=args,res:=some (.bool true),after:=args }=some (.bool (true==true)) from w_eq_bool (w_res rfl) w_lit) rfl
theorem attach_call{l:OpenLaw}{n:Nat}{q:Program}{loose:List Str}{XP:(Str->Option Value)->Heap->Prop}{YP:World->Heap->Prop}{d:DefRec}
  (hn:l.most=some n) (hdf:d.params.defaults=[])
  (call:∀(w:World) (s₀ s₁:Shared) (mg mb:Str->Option Value) (fa:Addr) (o:Obj) (pm cd doc:Value) (a:Addr) (vs:List Value) (ns:List Int),
   Ground q loose [] XP w s₀ mg mb s₁.heap->YP w s₁.heap ->
   s₁.heap.get? fa=some o->o.data=.func (docDef d.name d.params d.body d.scope pm cd doc)->s₁.heap.CodeRec cd d.name->mg d.name=some (.ref fa) ->
   s₁.heap.get? a=some { cls:=.type "list", data:=.seq vs.toArray }->IntsAre vs ns->ns.length<=n->s₁.gens = #[] ->
   codeAny (model l.prog w) callerA (.call (.ref fa) ⟨[.ref a],[]⟩) (fun r s'=>r=.ok (.ret (.bool true))/\OldK s₁.heap s'.heap/\s'.os=s₁.os/\AllBare s'.gens) s₁) :
  WalkO q loose XP YP l.row.toRowW d [] (fun f vs=>PySem.call f vs):=by
 intro w s₀ s₁ mg mb G Y fa o pm cd doc dV kV ho hd hcd hD hmg hg args vals as hpre hlay hrd hwl hlo
 obtain rfl:dV=.none:=Dflts.none hD hdf
 obtain rfl:kV=.none:=Dflts.noKw hD
 obtain⟨a,vs,ns,rfl,rfl,hobj,hints,hlen⟩:=aJ3 hn hpre hwl
 refine enter_call (codeAny_mono (call w s₀ s₁ mg mb fa o pm cd doc a vs ns G Y ho (fd_plain hd) hcd hmg hobj hints hlen hg) fun r s' hq=>?_)
 obtain⟨rfl,h2,h3,h4⟩:=hq
 exact⟨.inl ⟨.bool true,.bool true,[],rfl,fun _=>rfl,.bool true,aJ8 l _,fun _=>⟨List.Pairwise.nil,fun _ hm=>(nomatch hm)⟩⟩,h2,h3,h4⟩
section
variable {prog:Program}{w:World}{A:Around}{E:Value->Shared->Prop}{s:Shared}{K:Frag}
end
end Att
namespace L2
open PySem PySem.Spec PyProof.Rows
theorem ah2:∀{vs:List Value}{ns:List Int},IntsAre vs ns->B6 (ns.map V.int) vs
 | _,_,.nil=>.nil
 | _,_,.cons n t h=>.cons ⟨t,rfl⟩ (ah2 h)
noncomputable def bE2(H:Hp):Prop:=∀b,H b=none\/∃o xs,H b=some (.frz o (.lst xs))
theorem aV1{P:Program}{w:World}{K:PySem.W.Frag}{mg mb:Str->Option Value}{CX:CXT}{k:Nat}{fa a:Addr}{fd:FuncData}{x:Str}{sp:Sp}{s₁:Shared}{vs:List Value}{ns:List Int}
  (KX:K.In s₁.heap) (hns:s₁.heap.Ns mainGlobals mg) (hb:s₁.heap.Ns builtinsNs mb) (hbb:∀x:Str,x ≠ "__name__" -> mb x=bootBuiltins x) (hlim:s₁.heap.NoLimit) (hg:s₁.gens = #[])
  (ha:s₁.heap.get? a=some { cls:=.type "list", data:=.seq vs.toArray }) (hi:IntsAre vs ns) (hl:ns.length<=sizeLine) (hr:Room k callerA)
  (F:∀base:Heap,K.In base->base.Ns mainGlobals mg->FnOk P w K mg base CX k fa fd [x] sp) (hbind:∀(s:Shared) (u:Value),BindsTo s fd ⟨[u],[]⟩ [(x,u)])
  (hsp:∀H:Hp,bE2 H->SqL K H a (ns.map V.int)->sp [.ref a] H (fun v _=>v=.bl true) fun _ _ _=>False)
  (hCX:∀H e s',CX [] H s₁ (fun _ _ _=>False) e s'->False) :
  codeAny (model P w) callerA (.call (.ref fa) ⟨[.ref a],[]⟩) (fun r s'=>r=.ok (.ret (.bool true))/\OldK s₁.heap s'.heap/\s'.os=s₁.os/\AllBare s'.gens) s₁:=by
 have rv:=ah2 hi
 have lenV:=hi.length
 have core:∀H:Hp,bE2 H->SqL K H a (ns.map V.int)->HOk P w H s₁.heap->(∀b,H b≠none->b=a)->(H a≠none->K.lookup a=none) ->
   codeAny (model P w) callerA (.call (.ref fa) ⟨[.ref a],[]⟩) (fun r s'=>r=.ok (.ret (.bool true))/\OldK s₁.heap s'.heap/\s'.os=s₁.os/\AllBare s'.gens) s₁:=by
  intro H hO hS hok hA hK
  have base_of:∀{b:Addr}{o:Obj},s₁.heap.get? b=some o->H b=none->(ao3 s₁.heap H).get? b=some o:=fun e n=>aX8 e n
  have noA:∀{b:Addr}{o:Obj}{es:Array DictEntry}{ep:Nat},s₁.heap.get? b=some o->o.data=.dict es ep->H b=none:=fun{b o es ep} e d=>by
   cases q:H b with
   | none=>rfl
   | some u =>
    have e':b=a:=hA b (by rw[q];simp)
    subst e'
    rw[ha]at e;cases e
    have d':Data.seq vs.toArray _=Data.dict es ep:=d
    cases d'
  have nsK:∀{b:Addr}{m:Str->Option Value},s₁.heap.Ns b m->(ao3 s₁.heap H).Ns b m:=fun{b m} ⟨o,es,ep,e,d,r⟩=>⟨o,es,ep,base_of e (noA e d),d,r⟩
  have hKb:K.In (ao3 s₁.heap H):=fun b o e=>base_of (KX b o e) (by
   cases q:H b with
   | none=>rfl
   | some u =>
    have e':b=a:=hA b (by rw[q];simp)
    subst e'
    rw[hK (by rw[q];simp)]at e;cases e)
  have hM:Mod K mg (ao3 s₁.heap H):=⟨hKb,nsK hns,⟨mb,nsK hb,hbb⟩,let⟨mc,h1,h2⟩:=hlim;⟨mc,nsK h1,h2⟩⟩
  have e0:Env0 P w K mg (ao3 s₁.heap H) callerA [] s₁ H:=⟨rfl,hM,fun b o e=>bg5 e,Nat.le_of_eq (aL4 _ _),trivial,fun b hb=>absurd (show b∈([]:List Addr) from hb) (by simp),hok,.of_eq hg⟩
  refine codeAny_mono ((F _ hKb (nsK hns)).run callerA [] s₁ H ⟨[.ref a],[]⟩ [.ref a] [.ref a] _ _ hr e0 (hbind s₁ (.ref a)) (.cons rfl .nil) (hsp H hO hS)) fun r s' h=>?_
  cases r with
  | error e=>exact(hCX H e s' h).elim
  | ok fl =>
   cases fl with
   | next=>exact False.elim h
   | brk=>exact False.elim h
   | cont=>exact False.elim h
   | ret u =>
    obtain⟨v,H',os,bare,un,hok',r',q⟩:=h
    have q':v=.bl true:=q
    subst q'
    obtain rfl:u=Value.bool true:=r'
    refine⟨rfl,OldK.of_keep fun b o e=>?_,os,bare⟩
    cases q:H b with
    | none=>exact un.keep b o e q (by intro z;exact absurd (show b∈([]:List Addr) from z) (by simp)) (by simp)
    | some u =>
     rcases hO b with z|⟨ob,xs,z⟩
     ·rw[q]at z;cases z
     ·have z2:=un.frzs b ob _ z
      obtain⟨e1,_⟩:=hok b _ z
      obtain⟨e2,_⟩:=hok' b _ z2
      rw[e]at e1;cases e1
      exact e2
 cases hk:K.lookup a with
 | some o =>
  have e:=KX a o hk
  rw[ha]at e
  cases e
  refine core (fun _=>none) (fun _=>.inl rfl) (.inr ⟨_,vs.toArray,_,hk,rfl,rfl,rfl,by rw[List.size_toArray,lenV];exact hl,by simpa using rv⟩) (fun b u z=>by have z':(none:Option HO)=some u:=z;cases z') (fun b z=>absurd rfl z) fun z=>absurd rfl z
 | none =>
  refine core (fun b=>if b=a then some (.frz { cls:=.type "list", data:=.seq vs.toArray } (.lst (ns.map V.int))) else none) (fun b=>?_) (.inl (.inr ⟨{ cls:=.type "list", data:=.seq vs.toArray },if_pos rfl⟩)) (fun b u z=>?_) (fun b z=>?_) fun _=>hk
  ·by_cases hb:b=a
   ·exact .inr ⟨_,_,if_pos hb⟩
   ·exact .inl (if_neg hb)
  ·by_cases hb:b=a
   ·have z':=(if_pos hb).symm.trans z
    cases z'
    subst hb
    exact⟨ha,by rw[List.length_map];exact hl,vs,_,rv,ha⟩
   ·have z':=(if_neg hb).symm.trans z
    cases z'
  ·by_cases hb:b=a
   ·exact hb
   ·exact absurd (if_neg hb) z
theorem bc5{l:PySem.W.OpenLaw}{n k:Nat}{q:Program}{loose:List Str}{XP:(Str->Option Value)->Heap->Prop}{YP:World->Heap->Prop}{d:DefRec}{K:Params->PySem.W.Frag}{CX:World->CXT}{sp:World->Sp}{x:Str}
  (hn:l.most=some n) (hn2:n<=sizeLine) (hdf:d.params.defaults=[]) (hr:Room k callerA)
  (hY:∀(w:World) (h:Heap),YP w h->(K w.params).In h)
  (F:∀(w:World) (mg:Str->Option Value) (fa:Addr) (h:Heap),(K w.params).In h->h.Ns mainGlobals mg->mg d.name=some (.ref fa) ->
   ∃fd:FuncData,(∀(s:Shared) (u:Value),BindsTo s fd ⟨[u],[]⟩ [(x,u)]) /\
    ∀base:Heap,(K w.params).In base->base.Ns mainGlobals mg->FnOk l.prog w (K w.params) mg base (CX w) k fa fd [x] (sp w))
  (hsp:∀(w:World) (H:Hp) (a:Addr) (ns:List Int),ns.length<=n->bE2 H->SqL (K w.params) H a (ns.map V.int)->sp w [.ref a] H (fun v _=>v=.bl true) fun _ _ _=>False)
  (hCX:∀(w:World) (H:Hp) (s:Shared) (e:Value) (s':Shared),CX w [] H s (fun _ _ _=>False) e s'->False) :
  PySem.W.WalkO q loose XP YP l.row.toRowW d [] (fun f vs=>PySem.call f vs):=by
 refine Att.attach_call hn hdf fun w s₀ s₁ mg mb fa o pm cd doc a vs ns G Y ho hd hcd hmg hobj hints hlen hg=>?_
 have KX:=hY w _ Y
 obtain⟨fd,hb,hF⟩:=F w mg fa _ KX G.T.g hmg
 exact aV1 KX G.T.g G.T.b G.T.builtins G.T.nolimit hg hobj hints (Nat.le_trans hlen hn2) hr hF hb (fun H hO hS=>hsp w H a ns hlen hO hS) fun H e s'=>hCX w H s₁ e s'
noncomputable def U1(s:Stmt):Arguments:=match s with
 | .FunctionDef _ a _ _ _ _ _ _ _ _=>a
 | _=>{ posonlyargs:=[],args:=[],vararg:=none,kwonlyargs:=[],kw_defaults:=[],kwarg:=none,defaults:=[] }
noncomputable def O3(s:Stmt):List Stmt:=match s with
 | .FunctionDef _ _ b _ _ _ _ _ _ _=>b
 | _=>[]
noncomputable def K1(s:Stmt):Scope:=match s with
 | .FunctionDef _ _ _ _ _ _ sc _ _ _=>sc
 | _=>{ kind:=.function,names:=[],isGenerator:=false,isCoroutine:=false }
noncomputable abbrev CX0:CXT:=fun _ _ _ _ _ _=>False
noncomputable abbrev E0:XK:=fun _ _ _=>False
theorem bn9:ap4 CX0 X E0:=fun _ _ _ _ _ _ _ h=>h.elim
structure Fun (K:PySem.W.Frag) (x qual:Str) (st:Stmt) (f:Addr) (fd:FuncData):Prop where
 ex:∃(oc:Value) (od:Option Addr) (kV doc pm:Value) (an:Option Addr) (cdv ct:Value) (osl:Array (Option Value)),
  fd=PySem.W.fnOf x qual (U1 st) (O3 st) (K1 st) .none kV doc pm an cdv ct/\K.lookup f=some ⟨oc,od,.func fd,osl⟩/\PySem.W.codeIn K cdv qual=true
 kp:PySem.W.keepIn K (.ref f)=true
section
variable {P:Program}{w:World}{K:PySem.W.Frag}{mg:Str->Option Value}{base:Heap}
theorem Fun.ok{x qual:Str}{st:Stmt}{f:Addr}{fd:FuncData}{N ps:List Str}{k:Nat}{sp:Sp}(F:Fun K x qual st f fd) (S:FnScope N ps (K1 st)) (len:∀vs H Q E,sp vs H Q E->vs.length=ps.length)
  (hbody:∀(cdv:Value) (A:Around) (outer:List Env) (s:Shared) (H:Hp) (vs:List V) (Q:VK) (E:XK),Room k (A.deeper (envOfC qual (K1 st) s.heap.objs.size f cdv))->sp vs H Q E ->
   ∃t,PSs (az2 CX0 P w K mg base N qual (K1 st) f cdv A outer s H E).nox (O3 st) t/\t { nx:=fun _ H'=>Q .non H',rt:=Q } (Y5 N vs) H):FnOk P w K mg base CX0 (k+1) f fd ps sp:=by
 obtain⟨oc,od,kV,doc,pm,an,cdv,ct,osl,rfl,lk,hcd⟩:=F.ex
 refine bL4 lk hcd S len fun A outer s H vs Q E hr hsp=>?_
 obtain⟨t,h,q⟩:=hbody cdv A outer s H vs Q E hr hsp
 exact⟨t,h.nox,q⟩
theorem bB7{x qual:Str}{st:Stmt}{f:Addr}{oc:Value}{od an:Option Addr}{osl:Array (Option Value)}{kV doc pm cdv ct:Value}(l:K.lookup f=some ⟨oc,od,.func (PySem.W.fnOf x qual (U1 st) (O3 st) (K1 st) .none kV doc pm an cdv ct),osl⟩)
  (c:PySem.W.codeIn K cdv qual=true) (k:PySem.W.keepIn K (.ref f)=true):Fun K x qual st f (PySem.W.fnOf x qual (U1 st) (O3 st) (K1 st) .none kV doc pm an cdv ct):=⟨⟨oc,od,kV,doc,pm,an,cdv,ct,osl,rfl,l,c⟩,k⟩
end
theorem r8(h:n<=1000):n < sizeLine:=Nat.lt_of_le_of_lt h (by decide)
section
variable {X:Cx}
theorem pv(i:Nat) (hN:X.N[i]? = some x:=by rfl) (hv:Vis X.env.scope x:=by first|exact Or.inl rfl|exact Or.inr (Or.inl rfl)|exact Or.inr (Or.inr rfl)) (hd:(x==("__debug__" : Str))=false:=by decide)
  (hcd:(x==("__classdict__" : Str))=false:=by decide):PE X (.Name x pos) (al0 i):=S3 hN hv hd hcd
end
theorem ae5{A B:Prop}(h:B):if false=true then A else B:=by
 rw[if_neg Bool.false_ne_true]
 exact h
theorem ae4{A B:Prop}(h:A):if true=true then A else B:=by
 rw[if_pos rfl]
 exact h
noncomputable def C0(H H':Hp):Prop:=∀b o,H b=some o->H' b=some o
theorem C0.refl(H:Hp):C0 H H:=fun _ _ h=>h
theorem C0.trans(a:C0 H H1) (b:C0 H1 H2):C0 H H2:=fun c o h=>b c o (a c o h)
theorem C0.free(e:C0 H H') (h:H' l=Option.none):H l=Option.none:=by
 cases q:H l with
 | none=>rfl
 | some o =>
  rw[e l o q]at h
  cases h
end L2
set_option maxHeartbeats 4000000
namespace G
theorem xbm{α β:Type}{o:Option α}{f:α->Option β}{b:β}(h:o.bind f=some b):∃a,o=some a/\f a=some b:=Option.bind_eq_some_iff.mp h
open PySem PySem.Spec PyProof.Rows L2
noncomputable abbrev D:=PyData
mutual
noncomputable def Rep(K:PySem.W.Frag) (H:Hp):D->V->Prop
 | .none,v=>v=.non
 | .bool b,v=>v=.bl b
 | .int i,v=>v=.int i
 | .str x,v=>v=.str x
 | .tuple ds,v=>∃a vs,v=.ref a/\SqT K H a vs/\Reps K H ds vs
 | .list ds,v=>∃a vs,v=.ref a/\SqL K H a vs/\Reps K H ds vs
 | .dict kvs,v=>∃a m,v=.ref a/\H a=some (.dK m)/\RepKs K H kvs m
noncomputable def Reps(K:PySem.W.Frag) (H:Hp):List D->List V->Prop
 | [],vs=>vs=[]
 | d::ds,vs=>∃v r,vs=v::r/\Rep K H d v/\Reps K H ds r
/-- a dict by texts -/
noncomputable def RepKs(K:PySem.W.Frag) (H:Hp):List (D×D)->List (Key×V)->Prop
 | [],m=>m=[]
 | (k,d)::r,m=>∃x v t,k=.str x/\m=(.inr x,v)::t/\Rep K H d v/\RepKs K H r t
end
section
variable {K:PySem.W.Frag}{H H' H0 H1 H2 Hf Hf' Hf1 Hf2:Hp}
theorem aC7(e:C0 H H') (h:Rd H a u):Rd H' a u:=by
 rcases h with h|⟨o,h⟩
 ·exact .inl (e _ _ h)
 ·exact .inr ⟨o,e _ _ h⟩
theorem B1(e:C0 H H') (h:SqT K H a xs):SqT K H' a xs:=h.imp (aC7 e) id
theorem J4(e:C0 H H') (h:SqL K H a xs):SqL K H' a xs:=h.imp (aC7 e) id
mutual
theorem Rep.mono(e:C0 H H'):∀{d:D}{v:V},Rep K H d v->Rep K H' d v
 | .none,_,h=>h
 | .bool _,_,h=>h
 | .int _,_,h=>h
 | .str _,_,h=>h
 | .tuple _,_,⟨a,vs,h1,h2,h3⟩=>⟨a,vs,h1,B1 e h2,Reps.mono e h3⟩
 | .list _,_,⟨a,vs,h1,h2,h3⟩=>⟨a,vs,h1,J4 e h2,Reps.mono e h3⟩
 | .dict _,_,⟨a,m,h1,h2,h3⟩=>⟨a,m,h1,e _ _ h2,RepKs.mono e h3⟩
theorem Reps.mono(e:C0 H H'):∀{ds:List D}{vs:List V},Reps K H ds vs->Reps K H' ds vs
 | [],_,h=>h
 | _::_,_,⟨v,r,h1,h2,h3⟩=>⟨v,r,h1,Rep.mono e h2,Reps.mono e h3⟩
theorem RepKs.mono(e:C0 H H'):∀{ds:List (D×D)}{vs:List (Key×V)},RepKs K H ds vs->RepKs K H' ds vs
 | [],_,h=>h
 | (_,_)::_,_,⟨x,v,t,h1,h2,h3,h4⟩=>⟨x,v,t,h1,h2,Rep.mono e h3,RepKs.mono e h4⟩
end
theorem Reps.length:∀{ds:List D}{vs:List V},Reps K H ds vs->vs.length=ds.length
 | [],_,h=>by cases h;rfl
 | _::_,_,⟨v,r,h1,h2,h3⟩=>by subst h1;simp[Reps.length h3]
theorem Reps.get:∀{ds:List D}{vs:List V}{i:Nat}{d:D},Reps K H ds vs->ds[i]? = some d->∃v,vs[i]? = some v/\Rep K H d v
 | [],_,_,_,_,e=>by simp at e
 | x::_,_,0,_,⟨v,r,h1,h2,h3⟩,e=>by subst h1;simp at e;subst e;exact⟨v,rfl,h2⟩
 | x::_,_,i+1,_,⟨v,r,h1,h2,h3⟩,e=>by
  subst h1
  obtain⟨u,q1,q2⟩:=Reps.get (i:=i) h3 (by simpa using e)
  exact⟨u,by simpa using q1,q2⟩
theorem Reps.get':∀{ds:List D}{vs:List V}{i:Nat}{v:V},Reps K H ds vs->vs[i]? = some v->∃d,ds[i]? = some d/\Rep K H d v
 | [],_,_,_,h,e=>by cases h;simp at e
 | x::_,_,0,_,⟨v,r,h1,h2,h3⟩,e=>by subst h1;simp at e;subst e;exact⟨x,rfl,h2⟩
 | x::_,_,i+1,_,⟨v,r,h1,h2,h3⟩,e=>by
  subst h1
  obtain⟨u,q1,q2⟩:=Reps.get' (i:=i) h3 (by simpa using e)
  exact⟨u,by simpa using q1,q2⟩
theorem Reps.append:∀{ds es:List D}{vs us:List V},Reps K H ds vs->Reps K H es us->Reps K H (ds++es) (vs++us)
 | [],_,_,_,h,q=>by cases h;exact q
 | _::_,_,_,_,⟨v,r,h1,h2,h3⟩,q=>by subst h1;exact⟨v,r++_,rfl,h2,Reps.append h3 q⟩
theorem Reps.take:∀{ds:List D}{vs:List V}(n:Nat),Reps K H ds vs->Reps K H (ds.take n) (vs.take n)
 | [],_,n,h=>by cases h;simp[Reps]
 | _::_,_,0,h=>by simp[Reps]
 | _::_,_,n+1,⟨v,r,h1,h2,h3⟩=>by subst h1;exact⟨v,r.take n,rfl,h2,Reps.take n h3⟩
theorem Reps.drop:∀{ds:List D}{vs:List V}(n:Nat),Reps K H ds vs->Reps K H (ds.drop n) (vs.drop n)
 | [],_,n,h=>by cases h;simp[Reps]
 | _::_,_,0,h=>h
 | _::_,_,n+1,⟨v,r,h1,h2,h3⟩=>by subst h1;exact Reps.drop n h3
theorem Reps.ints:∀(ns:List Int),Reps K H (ns.map PyData.int) (ns.map V.int)
 | []=>rfl
 | n::r=>⟨.int n,r.map V.int,rfl,rfl,Reps.ints r⟩
theorem Reps.flatten(h:Reps K H ds vs):∀k:Nat,Reps K H (List.replicate k ds).flatten (List.replicate k vs).flatten
 | 0=>rfl
 | k+1=>by simp only[List.replicate_succ,List.flatten_cons];exact h.append (Reps.flatten h k)
structure Grow (H Hf H' Hf':Hp):Prop where
 big:C0 H H'
 sub:C0 Hf' H'
 ext:C0 Hf Hf'
 new:∀b,Hf' b≠none->Hf b≠none\/H b=none
theorem Grow.refl(h:C0 Hf H):Grow H Hf H Hf:=⟨C0.refl _,h,C0.refl _,fun _ h=>.inl h⟩
theorem Grow.trans(a:Grow H Hf H1 Hf1) (b:Grow H1 Hf1 H2 Hf2):Grow H Hf H2 Hf2 :=
 ⟨a.big.trans b.big,b.sub,a.ext.trans b.ext,fun x h=>(b.new x h).elim (a.new x) fun z=>.inr (a.big.free z)⟩
theorem B8(h:H p=none):C0 H (upd H p o):=fun b u e=>by rw[A9 (A7 e h)];exact e
theorem Grow.laid(s:C0 Hf H) (h:H p=none):Grow H Hf (upd H p o) (upd Hf p o):=by
 refine⟨B8 h,fun b u e=>?_,B8 (s.free h),fun b e=>?_⟩
 ·by_cases q:b=p
  ·subst q;rw[A6]at e;rw[A6];exact e
  ·rw[A9 q]at e;rw[A9 q];exact s b u e
 ·by_cases q:b=p
  ·subst q;exact .inr h
  ·rw[A9 q]at e;exact .inl e
theorem Grow.made(s:C0 Hf H) (h:H p=none):Grow H Hf (upd H p o) Hf :=
 ⟨B8 h,s.trans (B8 h),C0.refl _,fun _ e=>.inl e⟩
theorem Grow.freeze(g:Grow H Hf H1 Hf1) (h:H1 p=some o) (n:Hf1 p=none) (f:H p=none):Grow H Hf H1 (upd Hf1 p o):=by
 refine⟨g.big,fun b u e=>?_,g.ext.trans (B8 n),fun b e=>?_⟩
 ·by_cases q:b=p
  ·subst q;rw[A6]at e;rw[h];exact e
  ·rw[A9 q]at e;exact g.sub b u e
 ·by_cases q:b=p
  ·subst q;exact .inr f
  ·rw[A9 q]at e;exact g.new b e
end
inductive B where
 | val (d:D)
 | own (ds:List D)
 | exc (x:Str)
noncomputable abbrev Rho:=List (Option B)
noncomputable def clA(K:PySem.W.Frag) (x:Str):Option Addr:=match PySem.W.nsIn K mainGlobals x with
 | some (some (.ref C))=>some C
 | _=>none
noncomputable def SB(K:PySem.W.Frag) (H0 H Hf:Hp):B->V->Prop
 | .val d,v=>Rep K Hf d v
 | .own ds,v=>∃a vs,v=.ref a/\H a=some (.lst vs)/\Hf a=none/\H0 a=none/\Reps K Hf ds vs
 | .exc x,v=>∃a o C,v=.ref a/\Hf a=some (.frz o (.own a))/\clA K x=some C/\o.cls=.ref C
structure Slots (K:PySem.W.Frag) (H0:Hp) (ρ:Rho) (σ:L2.St) (H Hf:Hp):Prop where
 len:ρ.length=σ.length
 is:∀(i:Nat) (b:B),ρ[i]? = some (some b)->∃v,σ[i]? = some (some v)/\SB K H0 H Hf b v
 apart:∀(i j:Nat) (ds es:List D) (a:Addr),ρ[i]? = some (some (.own ds))->ρ[j]? = some (some (.own es))->σ[i]? = some (some (V.ref a))->σ[j]? = some (some (V.ref a))->i=j
section
variable {K:PySem.W.Frag}{H H' H0 H1 H2 Hf Hf' Hf1 Hf2:Hp}{ρ:Rho}{σ:L2.St}
theorem SB.grow(h:SB K H0 H Hf b v) (g:Grow H Hf H' Hf'):SB K H0 H' Hf' b v:=by
 cases b with
 | val d=>exact Rep.mono g.ext h
 | exc C =>
  obtain⟨a,o,C,e,h1,h2⟩:=h
  exact⟨a,o,C,e,g.ext _ _ h1,h2⟩
 | own ds =>
  obtain⟨a,vs,e,h1,h2,h3,h4⟩:=h
  refine⟨a,vs,e,g.big _ _ h1,?_,h3,h4.mono g.ext⟩
  cases q:Hf' a with
  | none=>rfl
  | some u =>
   rcases g.new a (by rw[q];simp) with z|z
   ·exact absurd h2 z
   ·rw[h1]at z;cases z
theorem Slots.grow(s:Slots K H0 ρ σ H Hf) (g:Grow H Hf H' Hf'):Slots K H0 ρ σ H' Hf' :=
 ⟨s.len,fun i b e=>let⟨v,h1,h2⟩:=s.is i b e;⟨v,h1,h2.grow g⟩,s.apart⟩
end
noncomputable abbrev DE:=Rho->Option D
noncomputable def tJ(K:PySem.W.Frag) (ρ:Rho) (R:Hp->V->Hp->Hp->Prop):TE:=fun σ H Q=>∃H0 Hf,C0 Hf H/\Slots K H0 ρ σ H Hf/\∀v H' Hf',Grow H Hf H' Hf'->R H v H' Hf'->Q v H'
noncomputable def JE(X:Cx) (e:Expr) (f:DE):Prop:=∀ρ d,f ρ=some d->PE X e (tJ X.K ρ fun _ v _ Hf=>Rep X.K Hf d v)
noncomputable def Sq(K:PySem.W.Frag):Bool->Hp->Addr->List V->Prop
 | true=>SqT K
 | false=>SqL K
noncomputable def RQ(K:PySem.W.Frag) (t:Bool) (ds:List D) (v:V) (H Hf:Hp):Prop:=∃a vs,v=.ref a/\Sq K t H a vs/\Reps K Hf ds vs
noncomputable def JQ(X:Cx) (e:Expr) (f:Rho->Option (Bool×List D)):Prop:=∀ρ t ds,f ρ=some (t,ds)->PE X e (tJ X.K ρ fun _ v H Hf=>RQ X.K t ds v H Hf)
noncomputable def JN(X:Cx) (e:Expr) (f:Rho->Option (List D)):Prop:=∀ρ ds,f ρ=some ds->PE X e (tJ X.K ρ fun H v H' Hf'=>∃a vs,v=.ref a/\H a=none/\H' a=some (.lst vs)/\Hf' a=none/\Reps X.K Hf' ds vs)
noncomputable def tJA(K:PySem.W.Frag) (ρ:Rho) (ds:List D):TA:=fun σ H Q=>∃H0 Hf,C0 Hf H/\Slots K H0 ρ σ H Hf/\∀vs H' Hf',Grow H Hf H' Hf'->Reps K Hf' ds vs->Q vs H'
structure JA (X:Cx) (es:List Expr) (f:Rho->Option (List D)):Prop where
 len:∀ρ ds,f ρ=some ds->ds.length=es.length
 run:∀ρ ds,f ρ=some ds->PA X es (tJA X.K ρ ds)
noncomputable def JT(X:Cx) (e:Expr) (f:Rho->Option Bool):Prop:=∀ρ c,f ρ=some c->PT X e (fun σ H Q=>∃H0 Hf,C0 Hf H/\Slots X.K H0 ρ σ H Hf/\∀H' Hf',Grow H Hf H' Hf'->Q c H')
noncomputable def JW(X:Cx) (e:Expr) (f:Rho->Option Bool):Prop:=∀ρ c,f ρ=some c->PW X e (fun σ H Q=>∃H0 Hf,C0 Hf H/\Slots X.K H0 ρ σ H Hf/\∀H' Hf',Grow H Hf H' Hf'->Q c H')
section
variable {X:Cx}
theorem A8(h:PE X e t) (i:∀σ H Q,t' σ H Q->t σ H Q):PE X e t':=fun pins s σ H Q I q=>h pins s σ H Q I (i σ H Q q)
theorem am3(h:PT X e t) (i:∀σ H Q,t' σ H Q->t σ H Q):PT X e t':=fun pins s σ H Q I q=>h pins s σ H Q I (i σ H Q q)
noncomputable def dC(d:D):DE:=fun _=>some d
noncomputable def A1(i:Nat):DE:=fun ρ=>match ρ[i]? with
 | some (some (.val d))=>some d
 | _=>none
noncomputable def B0(i:Nat):Rho->Option (Bool×List D):=fun ρ=>match ρ[i]? with
 | some (some (.own ds))=>some (false,ds)
 | some (some (.val (.list ds)))=>some (false,ds)
 | some (some (.val (.tuple ds)))=>some (true,ds)
 | _=>none
noncomputable def aP8:D->Option (Bool×List D)
 | .list ds=>some (false,ds)
 | .tuple ds=>some (true,ds)
 | _=>none
theorem ay3:JE X (.Constant (.int i) j pos) (dC (.int i)):=fun ρ d h=>by
 cases h
 exact A8 am6 fun σ H Q ⟨H0,Hf,s,sl,k⟩=>k _ H Hf (Grow.refl s) rfl
theorem bK5:JE X (.Constant (.bool b) j pos) (dC (.bool b)):=fun ρ d h=>by
 cases h
 exact A8 bH9 fun σ H Q ⟨H0,Hf,s,sl,k⟩=>k _ H Hf (Grow.refl s) rfl
theorem bz8:JE X (.Constant .none j pos) (dC .none):=fun ρ d h=>by
 cases h
 exact A8 bu2 fun σ H Q ⟨H0,Hf,s,sl,k⟩=>k _ H Hf (Grow.refl s) rfl
theorem bz2:JE X (.Constant (.str x) j pos) (dC (.str x)):=fun ρ d h=>by
 cases h
 exact A8 aS6 fun σ H Q ⟨H0,Hf,s,sl,k⟩=>k _ H Hf (Grow.refl s) rfl
theorem bz0(i:Nat) (hN:X.N[i]? = some x:=by rfl) (hv:Vis X.env.scope x:=by first|exact Or.inl rfl|exact Or.inr (Or.inl rfl)|exact Or.inr (Or.inr rfl)) (hd:(x==("__debug__" : Str))=false:=by decide)
  (hcd:(x==("__classdict__" : Str))=false:=by decide):JE X (.Name x pos) (A1 i):=fun ρ d h=>by
 refine A8 (S3 hN hv hd hcd) fun σ H Q ⟨H0,Hf,s,sl,k⟩=>?_
 unfold A1 at h
 split at h
 ·rename_i d' e
  cases h
  obtain⟨v,h1,h2⟩:=sl.is i _ e
  exact⟨v,h1,k v H Hf (Grow.refl s) h2⟩
 ·cases h
theorem aW0(i:Nat) (hN:X.N[i]? = some x:=by rfl) (hv:Vis X.env.scope x:=by first|exact Or.inl rfl|exact Or.inr (Or.inl rfl)|exact Or.inr (Or.inr rfl)) (hd:(x==("__debug__" : Str))=false:=by decide)
  (hcd:(x==("__classdict__" : Str))=false:=by decide):JQ X (.Name x pos) (B0 i):=fun ρ t ds h=>by
 refine A8 (S3 hN hv hd hcd) fun σ H Q ⟨H0,Hf,s,sl,k⟩=>?_
 unfold B0 at h
 split at h
 ·rename_i d' e
  cases h
  obtain⟨v,h1,a,vs,rfl,h2,h3,h4,h5⟩:=sl.is i _ e
  exact⟨_,h1,k _ H Hf (Grow.refl s) ⟨a,vs,rfl,SqL.of h2,h5⟩⟩
 ·rename_i d' e
  cases h
  obtain⟨v,h1,a,vs,rfl,h2,h3⟩:=sl.is i _ e
  exact⟨_,h1,k _ H Hf (Grow.refl s) ⟨a,vs,rfl,J4 s h2,h3⟩⟩
 ·rename_i d' e
  cases h
  obtain⟨v,h1,a,vs,rfl,h2,h3⟩:=sl.is i _ e
  exact⟨_,h1,k _ H Hf (Grow.refl s) ⟨a,vs,rfl,B1 s h2,h3⟩⟩
 ·cases h
theorem Rep.seq{K:PySem.W.Frag}{H Hf:Hp}{d:D}{v:V}{t:Bool}{ds:List D}(h:Rep K Hf d v) (s:C0 Hf H) (e:aP8 d=some (t,ds)):RQ K t ds v H Hf:=by
 cases d with
 | list xs=>cases e;obtain⟨a,vs,e1,e2,e3⟩:=h;exact⟨a,vs,e1,J4 s e2,e3⟩
 | tuple xs=>cases e;obtain⟨a,vs,e1,e2,e3⟩:=h;exact⟨a,vs,e1,B1 s e2,e3⟩
 | _=>cases e
noncomputable def qE(f:DE):Rho->Option (Bool×List D):=fun ρ=>(f ρ).bind aP8
theorem aW2(h:JE X e f):JQ X e (qE f):=fun ρ t ds q=>by
 obtain⟨d,h1,h2⟩:=xbm q
 exact A8 (h ρ d h1) fun σ H Q ⟨H0,Hf,s,sl,k⟩=>⟨H0,Hf,s,sl,fun v H' Hf' g r=>k v H' Hf' g (r.seq g.sub h2)⟩
noncomputable def A3:Rho->Option (List D):=fun _=>some []
noncomputable def A0(f:DE) (g:Rho->Option (List D)):Rho->Option (List D):=fun ρ=>(f ρ).bind fun d=>(g ρ).map fun ds=>d::ds
theorem bA8:JA X [] A3:=⟨fun ρ ds h=>by cases h;rfl,fun ρ ds h pos pins s σ H Q I ⟨H0,Hf,ss,sl,k⟩=>by
 cases h
 exact N9 pos pins s σ H Q I (k [] H Hf (Grow.refl ss) rfl)⟩
theorem bk0(h:JE X e f) (r:JA X es g) (hs:starEach (e::es) X.env=(false,eval e X.env)::starEach es X.env:=by rfl):JA X (e::es) (A0 f g):=by
 refine⟨fun ρ ds q=>?_,fun ρ ds q=>?_⟩
 ·obtain⟨d,h1,h2⟩:=xbm q
  obtain⟨es',h3,h4⟩:=xmo h2
  subst h4
  simp[r.len ρ es' h3]
 ·obtain⟨d,h1,h2⟩:=xbm q
  obtain⟨es',h3,h4⟩:=xmo h2
  subst h4
  intro pos pins s σ H Q I ⟨H0,Hf,ss,sl,k⟩
  refine J8 (h ρ d h1) (r.run ρ es' h3) hs pos pins s σ H Q I ⟨H0,Hf,ss,sl,fun v H1 Hf1 g1 r1=>⟨H0,Hf1,g1.sub,sl.grow g1,fun vs H2 Hf2 g2 r2=>?_⟩⟩
  exact k (v::vs) H2 Hf2 (g1.trans g2) ⟨v,vs,rfl,r1.mono g2.ext,r2⟩
noncomputable def O7(f:Rho->Option (List D)):DE:=fun ρ=>(f ρ).map PyData.tuple
theorem bz1(h:JA X es f) (hn:es.length<=1000:=by decide):JE X (.Tuple es k pos) (O7 f):=fun ρ d q=>by
 obtain⟨ds,h1,h2⟩:=xmo q
 subst h2
 refine A8 (bt8 fun pos pins s σ H Q I t=>h.run ρ ds h1 pos pins s σ H Q I t) fun σ H Q ⟨H0,Hf,s,sl,k⟩=>?_
 refine⟨H0,Hf,s,sl,fun vs H1 Hf1 g r=>⟨?_,fun p hp=>?_⟩⟩
 ·rw[r.length,h.len ρ ds h1];exact Nat.le_of_lt (r8 hn)
 ·exact k _ _ _ (g.trans (Grow.laid g.sub hp)) ⟨p,vs,rfl,SqT.of A6,r.mono (Grow.laid (o:=.tup vs) g.sub hp).ext⟩
theorem by5(h:JA X es f) (hn:es.length<=1000:=by decide):JN X (.List es pos) f:=fun ρ ds h1=>by
 refine A8 (bu3 fun pos pins s σ H Q I t=>h.run ρ ds h1 pos pins s σ H Q I t) fun σ H Q ⟨H0,Hf,s,sl,k⟩=>?_
 refine⟨H0,Hf,s,sl,fun vs H1 Hf1 g r=>⟨?_,fun p hp=>?_⟩⟩
 ·rw[r.length,h.len ρ ds h1];exact Nat.le_of_lt (r8 hn)
 ·exact k _ _ _ (g.trans (Grow.made g.sub hp)) ⟨p,vs,rfl,g.big.free hp,A6,g.sub.free hp,r⟩
noncomputable def aa5(f:Rho->Option (List D)):DE:=fun ρ=>(f ρ).map PyData.list
theorem ae3(h:JN X e f):JE X e (aa5 f):=fun ρ d q=>by
 obtain⟨ds,h1,h2⟩:=xmo q
 subst h2
 refine A8 (h ρ ds h1) fun σ H Q ⟨H0,Hf,s,sl,k⟩=>⟨H0,Hf,s,sl,fun v H' Hf' g ⟨a,vs,e1,e2,e3,e4,e5⟩=>?_⟩
 subst e1
 exact k _ _ _ (g.freeze e3 e4 e2) ⟨a,vs,rfl,SqL.of A6,e5.mono (B8 e4)⟩
theorem aW1(h:JN X e f):JQ X e (fun ρ=>(f ρ).map fun ds=>(false,ds)):=fun ρ t ds q=>by
 obtain⟨ds',h1,h2⟩:=xmo q
 cases h2
 refine A8 (h ρ ds h1) fun σ H Q ⟨H0,Hf,s,sl,k⟩=>⟨H0,Hf,s,sl,fun v H' Hf' g ⟨a,vs,e1,e2,e3,e4,e5⟩=>?_⟩
 subst e1
 exact k _ _ _ g ⟨a,vs,rfl,SqL.of e3,e5⟩
noncomputable def OpD(X:Cx) (F:Value->Value->Sem Value) (h:D->D->Option D):Prop:=∀x y z,h x y=some z ->
 OpR X F fun vx vy H Q=>∃Hf,C0 Hf H/\Rep X.K Hf x vx/\Rep X.K Hf y vy/\∀v H' Hf',Grow H Hf H' Hf'->Rep X.K Hf' z v->Q v H'
noncomputable def A4(h:D->D->Option D) (f g:DE):DE:=fun ρ=>(f ρ).bind fun x=>(g ρ).bind fun y=>h x y
theorem X5(o:OpD X (binaryOp op) h) (ha:JE X a f) (hb:JE X b g):JE X (.BinOp a op b pos) (A4 h f g):=fun ρ d q=>by
 obtain⟨x,h1,q⟩:=xbm q
 obtain⟨y,h2,h3⟩:=xbm q
 refine A8 (aS8 (o x y d h3) (ha ρ x h1) (hb ρ y h2)) fun σ H Q ⟨H0,Hf,s,sl,k⟩=>?_
 refine⟨H0,Hf,s,sl,fun v H1 Hf1 g1 r1=>⟨H0,Hf1,g1.sub,sl.grow g1,fun u H2 Hf2 g2 r2=>?_⟩⟩
 exact⟨Hf2,g2.sub,r1.mono g2.ext,r2,fun w H3 Hf3 g3 r3=>k w H3 Hf3 ((g1.trans g2).trans g3) r3⟩
theorem bA4(o:OpD X (compareOp op) h) (ha:JE X a f) (hb:JE X b g) (hm:behindInMarks op b=false:=by first|exact aU0 _|rfl):JE X (.Compare a [op] [b] pos) (A4 h f g):=fun ρ d q=>by
 obtain⟨x,h1,q⟩:=xbm q
 obtain⟨y,h2,h3⟩:=xbm q
 refine A8 (bf6 (o x y d h3) (ha ρ x h1) (hb ρ y h2) hm) fun σ H Q ⟨H0,Hf,s,sl,k⟩=>?_
 refine⟨H0,Hf,s,sl,fun v H1 Hf1 g1 r1=>⟨H0,Hf1,g1.sub,sl.grow g1,fun u H2 Hf2 g2 r2=>?_⟩⟩
 exact⟨Hf2,g2.sub,r1.mono g2.ext,r2,fun w H3 Hf3 g3 r3=>k w H3 Hf3 ((g1.trans g2).trans g3) r3⟩
theorem OpR.imp(h:OpR X F r) (i:∀x y H Q,r' x y H Q->r x y H Q):OpR X F r':=fun pins s σ H x y v u Q I rx ry q=>h pins s σ H x y v u Q I rx ry (i x y H Q q)
end
section
variable {X:Cx}
noncomputable def D4(i:Int):Prop:=i.natAbs < 2 ^ 8000
instance:DecidablePred D4:=fun i=>inferInstanceAs (Decidable (i.natAbs < 2 ^ 8000))
theorem D4.log(h:D4 i) (h0:i.natAbs≠0):i.natAbs.log2 < 8000:=(Nat.log2_lt h0).mpr h
theorem D4.bits(h:D4 i):Builtin.Int.intBits i<=2 ^ 20:=by
 unfold Builtin.Int.intBits
 split
 ·exact Nat.zero_le _
 ·rename_i h0
  have:=h.log (by simpa using h0)
  grind
theorem bg2:OpR X (binaryOp .Mult) (rI (fun i j=>D4 i/\D4 j) fun i j=>.int (i*j)):=opI fun _ _ _ _ _ _ _ hc q=>mul_int q (PySem.IntMulOk.of_bits hc.1.bits hc.2.bits)
noncomputable def bM9(x y:D):Option D:=match x,y with
 | .int i,.int j=>some (.int (i+j))
 | _,_=>none
noncomputable def Y3(x y:D):Option D:=match x,y with
 | .int i,.int j=>some (.int (i - j))
 | .int i,.bool b=>some (.int (i - if b=true then 1 else 0))
 | .bool a,.int j=>some (.int ((if a=true then 1 else 0) - j))
 | _,_=>none
noncomputable def bv7(x y:D):Option D:=match x,y with
 | .int i,.int j=>if D4 i/\D4 j then some (.int (i*j)) else none
 | _,_=>none
noncomputable def W0(x y:D):Option D:=match x,y with
 | .int i,.int j=>if 0 < j/\D4 j then some (.int (i / j)) else none
 | _,_=>none
noncomputable def T8(x y:D):Option D:=match x,y with
 | .int i,.int j=>if 0 < j then some (.int (i % j)) else none
 | _,_=>none
theorem bP1:OpD X (binaryOp .Add) bM9:=fun x y z h=>by
 unfold bM9 at h
 split at h
 ·cases h
  exact OpR.imp ax7 fun vx vy H Q ⟨Hf,s,r1,r2,k⟩=>⟨_,_,r1,r2,k _ H Hf (Grow.refl s) rfl⟩
 ·cases h
theorem bu7:OpD X (binaryOp .Sub) Y3:=fun x y z h=>by
 unfold Y3 at h
 split at h
 ·cases h
  exact OpR.imp bu4 fun vx vy H Q ⟨Hf,s,r1,r2,k⟩=>⟨_,_,r1,r2,k _ H Hf (Grow.refl s) rfl⟩
 ·cases h
  intro pins s σ H vx vy v u Q I rx ry ⟨Hf,ss,r1,r2,k⟩
  cases r1;cases r2
  obtain⟨t,rfl⟩:=rx
  obtain rfl:u=Value.bool _:=ry
  exact PySem.IntBool.sub_int_bool ⟨.int _,H,I.tok _,⟨_,rfl⟩,k _ H Hf (Grow.refl ss) rfl⟩
 ·cases h
  intro pins s σ H vx vy v u Q I rx ry ⟨Hf,ss,r1,r2,k⟩
  cases r1;cases r2
  obtain⟨t,rfl⟩:=ry
  obtain rfl:v=Value.bool _:=rx
  exact PySem.IntBool.sub_bool_int ⟨.int _,H,I.tok _,⟨_,rfl⟩,k _ H Hf (Grow.refl ss) rfl⟩
 ·cases h
theorem bu8:OpD X (binaryOp .Mult) bv7:=fun x y z h=>by
 unfold bv7 at h
 split at h
 ·split at h
  ·rename_i c
   cases h
   exact OpR.imp bg2 fun vx vy H Q ⟨Hf,s,r1,r2,k⟩=>⟨_,_,r1,r2,c,k _ H Hf (Grow.refl s) rfl⟩
  ·cases h
 ·cases h
theorem aK1:OpR X (binaryOp .FloorDiv) (rI (fun _ j=>0 < j/\D4 j) fun i j=>.int (i / j)):=opI fun i j _ _ s Q E hc q=>by
 have e:i.fdiv j=i / j:=Int.fdiv_eq_ediv_of_nonneg i (Int.le_of_lt hc.1)
 refine floordiv_int (by grind) (by rw[e];exact q) (.inl (PyProof.noPylong_of_log2 ?_))
 have h2:=hc.2.log (by grind)
 grind
theorem bv2:OpD X (binaryOp .FloorDiv) W0:=fun x y z h=>by
 unfold W0 at h
 split at h
 ·split at h
  ·rename_i c
   cases h
   exact OpR.imp aK1 fun vx vy H Q ⟨Hf,s,r1,r2,k⟩=>⟨_,_,r1,r2,c,k _ H Hf (Grow.refl s) rfl⟩
  ·cases h
 ·cases h
theorem bu9:OpD X (binaryOp .Mod) T8:=fun x y z h=>by
 unfold T8 at h
 split at h
 ·split at h
  ·rename_i c
   cases h
   exact OpR.imp bu5 fun vx vy H Q ⟨Hf,s,r1,r2,k⟩=>⟨_,_,r1,r2,c,k _ H Hf (Grow.refl s) rfl⟩
  ·cases h
 ·cases h
theorem aT5:OpR X (binaryOp .Add) (fun x y H Q=>∃a b ys,x=.ref a/\y=.ref b/\SqT X.K H a []/\SqT X.K H b ys/\Q (.ref b) H):=by
 intro pins s σ H x y v u Q I rx ry h
 obtain⟨a,b,ys,rfl,rfl,ha,hb,q⟩:=h
 cases rx
 cases ry
 obtain⟨its,r1,p1,_⟩:=I.tuple ha
 obtain⟨its2,r2,p2,_⟩:=I.tuple hb
 cases r1
 obtain⟨⟨cls,dd,data,sl⟩,ho,hc,n,hd⟩:=id p1
 obtain⟨⟨cls2,dd2,data2,sl2⟩,ho2,hc2,n2,hd2⟩:=id p2
 simp only at hc hd hc2 hd2
 subst hc hd hc2 hd2
 exact concat_meets ⟨_,ho,rfl⟩ ⟨_,ho2,rfl⟩ noFill_tuple_add seq_tuple_add PySem.F.slot_tuple_add PySem.F.entry_tuple_add (PySem.F.args_tuple_add_2 _ _)
   (tuple_addW0 a b _ its2.toArray n n2 dd dd2 sl sl2 (by rfl)) ⟨ho,ho2,⟨.ref b,H,I,rfl,q⟩⟩
noncomputable def W2(x y:D):Option D:=match x,y with
 | .tuple xs,.tuple ys=>if xs.length+ys.length<=16777216 then some (.tuple (xs++ys)) else none
 | .str a,.str b=>if a.length+b.length<=16777216 then some (.str (a++b)) else none
 | .int i,.int j=>some (.int (i+j))
 | .bool a,.int j=>some (.int ((if a=true then 1 else 0)+j))
 | _,_=>none
theorem aT9:OpD X (binaryOp .Add) W2:=fun x y z h=>by
 unfold W2 at h
 split at h
 ·split at h
  ·rename_i xs ys c
   cases h
   cases xs with
   | nil =>
    refine OpR.imp aT5 fun vx vy H Q ⟨Hf,s,r1,r2,k⟩=>?_
    obtain⟨a,vs,rfl,h2,h3⟩:=r1
    obtain⟨b,us,rfl,h5,h6⟩:=r2
    cases h3
    exact⟨a,b,us,rfl,rfl,B1 s h2,B1 s h5,k _ H Hf (Grow.refl s) ⟨b,us,rfl,h5,h6⟩⟩
   | cons d0 ds0 =>
    refine OpR.imp bg3 fun vx vy H Q ⟨Hf,s,r1,r2,k⟩=>?_
    obtain⟨a,vs,rfl,h2,h3⟩:=r1
    obtain⟨b,us,rfl,h5,h6⟩:=r2
    have l1:=h3.length
    have l2:=h6.length
    refine⟨a,b,vs,us,rfl,rfl,B1 s h2,B1 s h5,?_,by rw[sizeLine_eq];grind,fun e=>?_,fun e p hp=>?_⟩
    ·intro e;subst e;simp at l1
    ·subst e
     have:ys=[]:=by cases ys<;>simp_all
     subst this
     exact k _ H Hf (Grow.refl s) ⟨a,vs,rfl,h2,by rw[List.append_nil];exact h3⟩
    ·exact k _ _ _ (Grow.laid s hp) ⟨p,vs++us,rfl,SqT.of A6,(h3.append h6).mono (B8 (s.free hp))⟩
  ·cases h
 ·split at h
  ·rename_i c
   cases h
   exact OpR.imp ax6 fun vx vy H Q ⟨Hf,s,r1,r2,k⟩=>⟨_,_,r1,r2,by rw[sizeLine_eq];exact c,k _ H Hf (Grow.refl s) rfl⟩
  ·cases h
 ·cases h
  exact OpR.imp ax7 fun vx vy H Q ⟨Hf,s,r1,r2,k⟩=>⟨_,_,r1,r2,k _ H Hf (Grow.refl s) rfl⟩
 ·cases h
  intro pins s σ H vx vy v u Q I rx ry ⟨Hf,ss,r1,r2,k⟩
  cases r1;cases r2
  obtain⟨t,rfl⟩:=ry
  obtain rfl:v=Value.bool _:=rx
  exact PySem.IntBool.add_bool_int ⟨.int _,H,I.tok _,⟨_,rfl⟩,k _ H Hf (Grow.refl ss) rfl⟩
 ·cases h
noncomputable def ltI(x y:D):Option D:=match x,y with
 | .int i,.int j=>some (.bool (decide (i < j)))
 | _,_=>none
noncomputable def leI(x y:D):Option D:=match x,y with
 | .int i,.int j=>some (.bool (decide (i<=j)))
 | _,_=>none
noncomputable def gtI(x y:D):Option D:=match x,y with
 | .int i,.int j=>some (.bool (decide (j < i)))
 | _,_=>none
noncomputable def geI(x y:D):Option D:=match x,y with
 | .int i,.int j=>some (.bool (decide (j<=i)))
 | _,_=>none
theorem bI7:OpD X (compareOp .Lt) ltI:=fun x y z h=>by
 unfold ltI at h
 split at h
 ·cases h
  exact OpR.imp bI1 fun vx vy H Q ⟨Hf,s,r1,r2,k⟩=>⟨_,_,r1,r2,k _ H Hf (Grow.refl s) rfl⟩
 ·cases h
theorem bI8:OpD X (compareOp .LtE) leI:=fun x y z h=>by
 unfold leI at h
 split at h
 ·cases h
  exact OpR.imp bI2 fun vx vy H Q ⟨Hf,s,r1,r2,k⟩=>⟨_,_,r1,r2,k _ H Hf (Grow.refl s) rfl⟩
 ·cases h
theorem bJ1:OpD X (compareOp .Gt) gtI:=fun x y z h=>by
 unfold gtI at h
 split at h
 ·cases h
  exact OpR.imp bI3 fun vx vy H Q ⟨Hf,s,r1,r2,k⟩=>⟨_,_,r1,r2,k _ H Hf (Grow.refl s) rfl⟩
 ·cases h
theorem bJ2:OpD X (compareOp .GtE) geI:=fun x y z h=>by
 unfold geI at h
 split at h
 ·cases h
  exact OpR.imp bI4 fun vx vy H Q ⟨Hf,s,r1,r2,k⟩=>⟨_,_,r1,r2,k _ H Hf (Grow.refl s) rfl⟩
 ·cases h
mutual
theorem Rep.reads(I:Inv X pins σ H s):∀{d:D}{v:V}{u:Value},Rep X.K H d v->C3 v u->∃as,Reads s.heap u d as
 | .none,_,_,h,r=>by cases h;cases r;exact⟨_,.none⟩
 | .bool b,_,_,h,r=>by cases h;cases r;exact⟨_,.bool b⟩
 | .int i,_,_,h,r=>by cases h;obtain⟨t,rfl⟩:=r;exact⟨_,.int i t⟩
 | .str x,_,_,h,r=>by cases h;obtain⟨t,rfl⟩:=r;exact⟨_,.str x t⟩
 | .tuple ds,_,_,⟨a,vs,h1,h2,h3⟩,r=>by
  subst h1;cases r
  obtain⟨its,rv,⟨o,ho,hc,n,hd⟩,_⟩:=I.tuple h2
  obtain⟨as,q⟩:=Reps.reads I h3 rv
  exact⟨_,.tuple ho hc hd (by simpa using q)⟩
 | .list ds,_,_,⟨a,vs,h1,h2,h3⟩,r=>by
  subst h1;cases r
  obtain⟨its,rv,pl,_⟩:=I.list h2
  obtain⟨o,ho,hc,n,hd⟩:=pl.isList
  obtain⟨as,q⟩:=Reps.reads I h3 rv
  exact⟨_,.list ho hc hd (by simpa using q)⟩
 | .dict kvs,_,_,⟨a,m,h1,h2,h3⟩,r=>by
  subst h1;cases r
  obtain⟨_,_,vs,rk,o,es,ep,ho,hx,hd,_,hp,_⟩:=(show M8 X.prog X.w H s.heap a (.dK m) from I.hok a _ h2)
  obtain⟨as,bs,q1,q2⟩:=RepKs.reads I h3 rk hp
  exact⟨_,.dict ho hx.1 hd q1 q2⟩
theorem RepKs.reads(I:Inv X pins σ H s):∀{kvs:List (D×D)}{m:List (Key×V)}{vs:List (Key×Value)}{es:List DictEntry},RepKs X.K H kvs m->KV m vs->Pairs (E8 X.prog X.w) es vs ->
  ∃as bs,ReadsAll s.heap (es.map (·.key)) (kvs.map (·.1)) as/\ReadsAll s.heap (es.map (·.val)) (kvs.map (·.2)) bs
 | [],_,_,_,h,r,p=>by cases h;cases r;cases p;exact⟨_,_,.nil,.nil⟩
 | (k,d)::kvs,_,_,_,⟨x,v,t,h1,h2,h3,h4⟩,r,p=>by
  subst h1 h2
  cases r with
  | @cons _ b _ bs r1 r2 =>
   cases p with
   | @cons e kv es _ p1 p2 p3 =>
    obtain⟨as,cs,q1,q2⟩:=RepKs.reads I h4 r2 p3
    obtain⟨r1,r3⟩:=r1
    rw[← p2]at r3
    obtain⟨ds,q3⟩:=Rep.reads I h3 r3
    rw[← r1]at p1
    have hk:∃t,e.key=.str x t:=Value.isStrOf_shape (x:=x) (v:=e.key) p1
    obtain⟨t,hk⟩:=hk
    refine⟨_,_,.cons (as:=[]) ?_ q1,.cons q3 q2⟩
    show Reads s.heap e.key (.str x) []
    rw[hk];exact .str x t
theorem Reps.reads(I:Inv X pins σ H s):∀{ds:List D}{vs:List V}{us:List Value},Reps X.K H ds vs->B6 vs us->∃as,ReadsAll s.heap us ds as
 | [],_,_,h,r=>by cases h;cases r;exact⟨_,.nil⟩
 | d::ds,_,_,⟨v,vr,h1,h2,h3⟩,r=>by
  subst h1
  cases r with
  | cons r1 r2 =>
   obtain⟨as,q1⟩:=Rep.reads I h2 r1
   obtain⟨bs,q2⟩:=Reps.reads I h3 r2
   exact⟨_,.cons q1 q2⟩
end
noncomputable def eqD(x y:D):Option D:=if SeqAt.shaped x=true/\SeqAt.shaped y=true then some (.bool (PyData.eqv x y)) else none
noncomputable def neD(x y:D):Option D:=if SeqAt.shaped x=true/\SeqAt.shaped y=true then some (.bool (!PyData.eqv x y)) else none
theorem bJ3(hu:X.A.units+64 < cLine):OpD X (compareOp .Eq) eqD:=fun x y z h=>by
 unfold eqD at h
 split at h
 ·rename_i c
  cases h
  intro pins s σ H vx vy v u Q I rx ry ⟨Hf,ss,r1,r2,k⟩
  obtain⟨as,q1⟩:=Rep.reads I (r1.mono ss) rx
  obtain⟨bs,q2⟩:=Rep.reads I (r2.mono ss) ry
  exact eq_dataH q1 q2 c.1 c.2 hu ⟨.bl _,H,I,rfl,k _ H Hf (Grow.refl ss) rfl⟩
 ·cases h
theorem bI6(hu:X.A.units+64 < cLine):OpD X (compareOp .NotEq) neD:=fun x y z h=>by
 unfold neD at h
 split at h
 ·rename_i c
  cases h
  intro pins s σ H vx vy v u Q I rx ry ⟨Hf,ss,r1,r2,k⟩
  obtain⟨as,q1⟩:=Rep.reads I (r1.mono ss) rx
  obtain⟨bs,q2⟩:=Rep.reads I (r2.mono ss) ry
  exact ne_dataH q1 q2 c.1 c.2 hu ⟨.bl _,H,I,rfl,k _ H Hf (Grow.refl ss) rfl⟩
 ·cases h
noncomputable def isN(x y:D):Option D:=match x,y with
 | .none,.none=>some (.bool true)
 | .dict _,_=>none
 | _,.none=>some (.bool false)
 | _,_=>none
theorem aC8{K:PySem.W.Frag}{H:Hp}{d:D}{v:V}(h:Rep K H d v):(decide (v=.non))=(match d with | .none=>true|_=>false):=by
 cases d with
 | none=>cases h;rfl
 | bool b=>cases h;rfl
 | int b=>cases h;rfl
 | str b=>cases h;rfl
 | tuple ds=>obtain⟨a,vs,rfl,_⟩:=h;rfl
 | list ds=>obtain⟨a,vs,rfl,_⟩:=h;rfl
 | dict ds=>obtain⟨a,m,rfl,_⟩:=h;rfl
theorem bv0:OpD X (compareOp .Is) isN:=fun x y z h=>by
 refine OpR.imp bu6 fun vx vy H Q ⟨Hf,s,r1,r2,k⟩=>?_
 have e:=aC8 r1
 cases y<;>cases x<;>simp only[isN,Option.some.injEq,reduceCtorEq]at h <;>
  (subst h;simp only at e;rw[e];exact⟨r2,k _ H Hf (Grow.refl s) rfl⟩)
noncomputable def bv3(x y:D):Option D:=match x,y with
 | .none,.none=>some (.bool false)
 | .dict _,_=>none
 | _,.none=>some (.bool true)
 | _,_=>none
theorem bg6:OpD X (compareOp .IsNot) bv3:=fun x y z h=>by
 refine OpR.imp bg1 fun vx vy H Q ⟨Hf,s,r1,r2,k⟩=>?_
 have e:=aC8 r1
 cases y<;>cases x<;>simp only[bv3,Option.some.injEq,reduceCtorEq]at h <;>
  (subst h;simp only at e;rw[e];exact⟨r2,k _ H Hf (Grow.refl s) rfl⟩)
noncomputable def Z5(h1 h2:D->D->Option D) (f g k:DE):DE:=fun ρ=>(f ρ).bind fun x=>(g ρ).bind fun y=>(h1 x y).bind fun z=>match z with
 | .bool true=>(k ρ).bind fun w=>h2 y w
 | .bool false=>some (.bool false)
 | _=>none
theorem aX0(o1:OpD X (compareOp op) h1) (o2:OpD X (compareOp op') h2) (ha:JE X a f) (hb:JE X b g) (hc:JE X c k)
  (hm:lastMarks [op,op'] [b,c]=false:=by with_unfolding_all rfl):JE X (.Compare a [op,op'] [b,c] pos) (Z5 h1 h2 f g k):=fun ρ d q=>by
 obtain⟨x,e1,q⟩:=xbm q
 obtain⟨y,e2,q⟩:=xbm q
 obtain⟨z,e3,q⟩:=xbm q
 split at q
 ·obtain⟨w,e4,e5⟩:=xbm q
  refine A8 (ar4 (o1 x y _ e3) (o2 y w d e5) (ha ρ x e1) (hb ρ y e2) (hc ρ w e4) hm) fun σ H Q ⟨H0,Hf,s,sl,kk⟩=>?_
  refine⟨H0,Hf,s,sl,fun v H1 Hf1 g1 r1=>⟨H0,Hf1,g1.sub,sl.grow g1,fun u H2 Hf2 g2 r2=>⟨Hf2,g2.sub,r1.mono g2.ext,r2,fun z' H3 Hf3 g3 r3=>?_⟩⟩⟩
  refine⟨true,r3,ae4 ⟨H0,Hf3,g3.sub,sl.grow ((g1.trans g2).trans g3),fun w' H4 Hf4 g4 r4=>⟨Hf4,g4.sub,r2.mono (g3.trans g4).ext,r4,fun z2 H5 Hf5 g5 r5=>?_⟩⟩⟩
  exact kk z2 H5 Hf5 ((((g1.trans g2).trans g3).trans g4).trans g5) r5
 ·cases q
  intro pins s σ H Q I ⟨H0,Hf,ss,sl,kk⟩
  refine ar4 (tc:=fun _ _ _=>False) (r':=fun _ _ _ _=>False) (o1 x y _ e3) (fun _ _ _ _ _ _ _ _ _ _ _ _ h=>h.elim) (ha ρ x e1) (hb ρ y e2) (fun _ _ _ _ _ _ h=>h.elim) hm pins s σ H Q I ?_
  refine⟨H0,Hf,ss,sl,fun v H1 Hf1 g1 r1=>⟨H0,Hf1,g1.sub,sl.grow g1,fun u H2 Hf2 g2 r2=>⟨Hf2,g2.sub,r1.mono g2.ext,r2,fun z' H3 Hf3 g3 r3=>?_⟩⟩⟩
  exact⟨false,r3,ae5 (kk _ H3 Hf3 ((g1.trans g2).trans g3) rfl)⟩
 ·cases q
theorem bz6(h:JE X a f):JE X (.BoolOp op [a] pos) f:=fun ρ d q=>bu0 (h ρ d q)
noncomputable def ba4(f g:DE):DE:=fun ρ=>(f ρ).bind fun x=>match x with
 | .bool true=>g ρ
 | .bool false=>some (.bool false)
 | _=>none
noncomputable def dOr(f g:DE):DE:=fun ρ=>(f ρ).bind fun x=>match x with
 | .bool true=>some (.bool true)
 | .bool false=>g ρ
 | .none=>g ρ
 | .tuple (y::r)=>some (.tuple (y::r))
 | _=>none
theorem aS7{a b:Expr}{N4:List Expr}{pos:Pos}{ta tb:TE}(ha:PE X a ta) (hb:PE X (.BoolOp .Or (b::N4) pos) tb):PE X (.BoolOp .Or (a::b::N4) pos) (fun σ H Q=>ta σ H fun x H1=>∃k,bE1 X.K x H1 k/\if k=true then Q x H1 else tb σ H1 Q):=by
 intro pins s σ H Q I h
 refine BoolOp_or (thn (ha pins s σ H _ I h) fun v s1 ⟨x,H1,I1,r1,k,tk,q1⟩=>?_)
 refine thn (aO1 pins s1 σ H1 x v (fun c H2=>c=k/\H2=H1) I1 r1 ⟨k,tk,rfl,rfl⟩) fun c s2 ⟨H2,I2,e1,e2⟩=>?_
 subst e1 e2
 cases c with
 | false=>exact hb pins s2 σ _ Q I2 q1
 | true=>exact⟨x,_,I2,r1,q1⟩
noncomputable def bl8(f:DE):DE:=fun ρ=>(f ρ).bind fun x=>match x with
 | .bool c=>some (.bool (!c))
 | _=>none
theorem bA6{a b:Expr}{N4:List Expr}{f g:DE}{pos:Pos}(ha:JE X a f) (hb:JE X (.BoolOp .And (b::N4) pos) g):JE X (.BoolOp .And (a::b::N4) pos) (ba4 f g):=fun ρ d q=>by
 obtain⟨x,e1,q⟩:=xbm q
 split at q
 ·refine A8 (aT3 (ha ρ _ e1) (hb ρ d q)) fun σ H Q ⟨H0,Hf,s,sl,k⟩=>⟨H0,Hf,s,sl,fun v H1 Hf1 g1 r1=>⟨true,r1,ae4 ⟨H0,Hf1,g1.sub,sl.grow g1,fun u H2 Hf2 g2 r2=>k u H2 Hf2 (g1.trans g2) r2⟩⟩⟩
 ·cases q
  refine A8 (aT3 (tb:=fun _ _ _=>False) (ha ρ _ e1) (fun _ _ _ _ _ _ h=>h.elim)) fun σ H Q ⟨H0,Hf,s,sl,k⟩=>⟨H0,Hf,s,sl,fun v H1 Hf1 g1 r1=>⟨false,r1,ae5 (k _ H1 Hf1 g1 rfl)⟩⟩
 ·cases q
theorem bK4{a b:Expr}{N4:List Expr}{f g:DE}{pos:Pos}(ha:JE X a f) (hb:JE X (.BoolOp .Or (b::N4) pos) g):JE X (.BoolOp .Or (a::b::N4) pos) (dOr f g):=fun ρ d q=>by
 obtain⟨x,e1,q⟩:=xbm q
 split at q
 ·cases q
  refine A8 (bn7 (tb:=fun _ _ _=>False) (ha ρ _ e1) (fun _ _ _ _ _ _ h=>h.elim)) fun σ H Q ⟨H0,Hf,s,sl,k⟩=>⟨H0,Hf,s,sl,fun v H1 Hf1 g1 r1=>⟨true,r1,ae4 (k _ H1 Hf1 g1 rfl)⟩⟩
 ·refine A8 (bn7 (ha ρ _ e1) (hb ρ d q)) fun σ H Q ⟨H0,Hf,s,sl,k⟩=>⟨H0,Hf,s,sl,fun v H1 Hf1 g1 r1=>⟨false,r1,ae5 ⟨H0,Hf1,g1.sub,sl.grow g1,fun u H2 Hf2 g2 r2=>k u H2 Hf2 (g1.trans g2) r2⟩⟩⟩
 ·refine A8 (aS7 (ha ρ _ e1) (hb ρ d q)) fun σ H Q ⟨H0,Hf,s,sl,k⟩=>⟨H0,Hf,s,sl,fun v H1 Hf1 g1 r1=>?_⟩
  cases r1
  exact⟨false,rfl,ae5 ⟨H0,Hf1,g1.sub,sl.grow g1,fun u H2 Hf2 g2 r2=>k u H2 Hf2 (g1.trans g2) r2⟩⟩
 ·cases q
  refine A8 (aS7 (tb:=fun _ _ _=>False) (ha ρ _ e1) (fun _ _ _ _ _ _ h=>h.elim)) fun σ H Q ⟨H0,Hf,s,sl,k⟩=>⟨H0,Hf,s,sl,fun v H1 Hf1 g1 r1=>?_⟩
  obtain⟨p,vs,e,h2,h3⟩:=id r1
  subst e
  refine⟨true,.inr (.inl ⟨vs,B1 g1.sub h2,?_⟩),ae4 (k _ H1 Hf1 g1 r1)⟩
  obtain⟨_,_,e,_⟩:=h3
  subst e;rfl
 ·cases q
theorem bz7(ha:JE X a f):JE X (.UnaryOp .Not a pos) (bl8 f):=fun ρ d q=>by
 obtain⟨x,e1,q⟩:=xbm q
 split at q
 ·cases q
  exact A8 (bu1 (ha ρ _ e1)) fun σ H Q ⟨H0,Hf,s,sl,k⟩=>⟨H0,Hf,s,sl,fun v H1 Hf1 g1 r1=>⟨_,r1,k _ H1 Hf1 g1 rfl⟩⟩
 ·cases q
noncomputable def aI5:D->Option Bool
 | .none=>some false
 | .bool b=>some b
 | .int i=>some (i != 0)
 | .str x=>if x.length<=16777216 then some ((x.length:Int) != 0) else none
 | .list ds=>some (!ds.isEmpty)
 | .tuple ds=>some (!ds.isEmpty)
 | .dict _=>none
noncomputable def aq1(f:DE):Rho->Option Bool:=fun ρ=>(f ρ).bind aI5
theorem bx2(ha:JE X a f) (he:∀whole,isTrue a X.env whole=(do let v ← whole;standAt a.pos;holding [v] (truthy v)):=by intro _;rfl):JT X a (aq1 f):=fun ρ c q=>by
 obtain⟨d,e1,e2⟩:=xbm q
 refine am3 (aR1 (ha ρ d e1) he) fun σ H Q ⟨H0,Hf,s,sl,k⟩=>⟨H0,Hf,s,sl,fun v H1 Hf1 g1 r1=>⟨c,?_,k H1 Hf1 g1⟩⟩
 cases d with
 | none=>cases e2;cases r1;rfl
 | bool b=>cases e2;cases r1;rfl
 | int i=>cases e2;cases r1;rfl
 | str x =>
  simp only[aI5]at e2
  split at e2
  ·rename_i hx;cases e2;cases r1;exact⟨by rw[sizeLine_eq];exact hx,rfl⟩
  ·cases e2
 | list ds =>
  cases e2
  obtain⟨a,vs,rfl,h2,h3⟩:=r1
  refine .inl ⟨vs,J4 g1.sub h2,?_⟩
  have:=h3.length
  cases ds<;>cases vs<;>simp_all
 | tuple ds =>
  cases e2
  obtain⟨a,vs,rfl,h2,h3⟩:=r1
  refine .inr (.inl ⟨vs,B1 g1.sub h2,?_⟩)
  have:=h3.length
  cases ds<;>cases vs<;>simp_all
 | dict _=>cases e2
noncomputable def S4:D->Option Bool
 | .bool b=>some b
 | _=>none
noncomputable def tB2(h:D->D->Option D) (f g:DE):Rho->Option Bool:=fun ρ=>(A4 h f g ρ).bind S4
theorem aG6(h:S4 d=some c):d=.bool c:=by
 cases d<;>simp[S4]at h
 subst h;rfl
theorem bx4(o:OpD X (compareOp op) h) (ha:JE X a f) (hb:JE X b g) (hm:behindInMarks op b=false:=by first|exact aU0 _|rfl):JT X (.Compare a [op] [b] pos) (tB2 h f g):=fun ρ c q=>by
 obtain⟨d,q,e⟩:=xbm q
 obtain⟨x,h1,q⟩:=xbm q
 obtain⟨y,h2,h3⟩:=xbm q
 have:=aG6 e
 subst this
 refine am3 (be4 (o x y _ h3) (ha ρ x h1) (hb ρ y h2) hm) fun σ H Q ⟨H0,Hf,s,sl,k⟩=>?_
 refine⟨H0,Hf,s,sl,fun v H1 Hf1 g1 r1=>⟨H0,Hf1,g1.sub,sl.grow g1,fun u H2 Hf2 g2 r2=>?_⟩⟩
 exact⟨Hf2,g2.sub,r1.mono g2.ext,r2,fun w H3 Hf3 g3 r3=>⟨c,r3,k H3 Hf3 ((g1.trans g2).trans g3)⟩⟩
noncomputable def aB4(f g:Rho->Option Bool):Rho->Option Bool:=fun ρ=>(f ρ).bind fun c=>if c then g ρ else some false
noncomputable def al2(f g:Rho->Option Bool):Rho->Option Bool:=fun ρ=>(f ρ).bind fun c=>if c then some true else g ρ
noncomputable def aq2(f:Rho->Option Bool):Rho->Option Bool:=fun ρ=>(f ρ).map fun c=>!c
theorem am2(h:PW X e t) (i:∀σ H Q,t' σ H Q->t σ H Q):PW X e t':=fun whole pins s σ H Q I q=>h whole pins s σ H Q I (i σ H Q q)
theorem aV4(h:JW X e f):JT X e f:=fun ρ c q=>(h ρ c q).pt
theorem bh7(h:JT X a f):JW X (.BoolOp .And [a] pos) f:=fun ρ c q=>be0 (h ρ c q)
theorem bw8(h:JT X a f):JW X (.BoolOp .Or [a] pos) f:=fun ρ c q=>bt1 (h ρ c q)
theorem bw9{a b:Expr}{N4:List Expr}{f g:Rho->Option Bool}{pos:Pos}(ha:JT X a f) (hb:JW X (.BoolOp .And (b::N4) pos) g):JW X (.BoolOp .And (a::b::N4) pos) (aB4 f g):=fun ρ c q=>by
 obtain⟨x,e1,q⟩:=xbm q
 cases x with
 | true=>exact am2 (aQ7 (ha ρ _ e1) (hb ρ c (by simpa using q))) fun σ H Q ⟨H0,Hf,s,sl,k⟩=>⟨H0,Hf,s,sl,fun H1 Hf1 g1=>ae4 ⟨H0,Hf1,g1.sub,sl.grow g1,fun H2 Hf2 g2=>k H2 Hf2 (g1.trans g2)⟩⟩
 | false =>
  have:c=false:=by simpa using q.symm
  subst this
  exact am2 (aQ7 (tB':=fun _ _ _=>False) (ha ρ _ e1) (fun _ _ _ _ _ _ _ h=>h.elim)) fun σ H Q ⟨H0,Hf,s,sl,k⟩=>⟨H0,Hf,s,sl,fun H1 Hf1 g1=>ae5 (k H1 Hf1 g1)⟩
theorem bK0{a b:Expr}{N4:List Expr}{f g:Rho->Option Bool}{pos:Pos}(ha:JT X a f) (hb:JW X (.BoolOp .Or (b::N4) pos) g):JW X (.BoolOp .Or (a::b::N4) pos) (al2 f g):=fun ρ c q=>by
 obtain⟨x,e1,q⟩:=xbm q
 cases x with
 | false=>exact am2 (bn5 (ha ρ _ e1) (hb ρ c (by simpa using q))) fun σ H Q ⟨H0,Hf,s,sl,k⟩=>⟨H0,Hf,s,sl,fun H1 Hf1 g1=>ae5 ⟨H0,Hf1,g1.sub,sl.grow g1,fun H2 Hf2 g2=>k H2 Hf2 (g1.trans g2)⟩⟩
 | true =>
  have:c=true:=by simpa using q.symm
  subst this
  exact am2 (bn5 (tB':=fun _ _ _=>False) (ha ρ _ e1) (fun _ _ _ _ _ _ _ h=>h.elim)) fun σ H Q ⟨H0,Hf,s,sl,k⟩=>⟨H0,Hf,s,sl,fun H1 Hf1 g1=>ae4 (k H1 Hf1 g1)⟩
theorem bx3(ha:JT X a f):JT X (.UnaryOp .Not a pos) (aq2 f):=fun ρ c q=>by
 obtain⟨x,e1,e2⟩:=xmo q
 subst e2
 exact am3 (bt2 (ha ρ x e1)) fun σ H Q ⟨H0,Hf,s,sl,k⟩=>⟨H0,Hf,s,sl,fun H1 Hf1 g1=>k H1 Hf1 g1⟩
noncomputable def af1(t:Rho->Option Bool) (f g:DE):DE:=fun ρ=>(t ρ).bind fun c=>if c then f ρ else g ρ
theorem bA2(hc:JT X c t) (ha:JE X a f) (hb:JE X b g):JE X (.IfExp c a b pos) (af1 t f g):=fun ρ d q=>by
 obtain⟨x,e1,q⟩:=xbm q
 cases x with
 | true=>exact A8 (ar3 (tb:=fun _ _ _=>False) (hc ρ _ e1) (ha ρ d (by simpa using q)) (fun _ _ _ _ _ _ h=>h.elim)) fun σ H Q ⟨H0,Hf,s,sl,k⟩=>⟨H0,Hf,s,sl,fun H1 Hf1 g1=>ae4 ⟨H0,Hf1,g1.sub,sl.grow g1,fun u H2 Hf2 g2 r2=>k u H2 Hf2 (g1.trans g2) r2⟩⟩
 | false=>exact A8 (ar3 (ta:=fun _ _ _=>False) (hc ρ _ e1) (fun _ _ _ _ _ _ h=>h.elim) (hb ρ d (by simpa using q))) fun σ H Q ⟨H0,Hf,s,sl,k⟩=>⟨H0,Hf,s,sl,fun H1 Hf1 g1=>ae5 ⟨H0,Hf1,g1.sub,sl.grow g1,fun u H2 Hf2 g2 r2=>k u H2 Hf2 (g1.trans g2) r2⟩⟩
noncomputable def dIx(f:Rho->Option (Bool×List D)) (g:DE):DE:=fun ρ=>(f ρ).bind fun q=>(g ρ).bind fun i=>match i with
 | .int i=>atI q.2 i
 | _=>none
theorem bd4{K:PySem.W.Frag}{H:Hp}{ds:List D}{vs:List V}{i:Int}{d:D}(h:Reps K H ds vs) (e:atI ds i=some d):∃v,atI vs i=some v/\Rep K H d v:=by
 unfold atI at e ⊢
 rw[h.length]
 obtain⟨j,h1,h2⟩:=xbm e
 obtain⟨v,h3,h4⟩:=h.get h2
 exact⟨v,by rw[h1];exact h3,h4⟩
theorem bo4{a b:Expr}{f:Rho->Option (Bool×List D)}{g:DE}{pos:Pos}(ha:JQ X a f) (hb:JE X b g) (hs:o6 b:=by intro _ _;rfl):JE X (.Subscript a b pos) (dIx f g):=fun ρ d q=>by
 obtain⟨⟨t,ds⟩,h1,q⟩:=xbm q
 obtain⟨y,h2,h3⟩:=xbm q
 split at h3
 ·refine A8 (bn8 aX2 (ha ρ t ds h1) (hb ρ _ h2) hs) fun σ H Q ⟨H0,Hf,s,sl,k⟩=>?_
  refine⟨H0,Hf,s,sl,fun v H1 Hf1 g1 ⟨p,vs,e1,e2,e3⟩=>⟨H0,Hf1,g1.sub,sl.grow g1,fun u H2 Hf2 g2 r2=>?_⟩⟩
  obtain⟨w,q1,q2⟩:=bd4 (e3.mono g2.ext) h3
  cases t with
  | true=>exact .inr (.inl ⟨p,vs,_,w,e1,r2,B1 g2.big e2,q1,k w H2 Hf2 (g1.trans g2) q2⟩)
  | false=>exact .inl ⟨p,vs,_,w,e1,r2,J4 g2.big e2,q1,k w H2 Hf2 (g1.trans g2) q2⟩
 ·cases h3
noncomputable def aa6(xs:List D) (lo hi:Option Int):List D:=(xs.drop (HT.sIx xs.length 0 lo)).take (HT.sIx xs.length xs.length hi - HT.sIx xs.length 0 lo)
theorem ac8{K:PySem.W.Frag}{H:Hp}{ds:List D}{vs:List V}(h:Reps K H ds vs) (lo hi:Option Int):Reps K H (aa6 ds lo hi) (au7 vs lo hi):=by
 unfold aa6 au7
 rw[h.length]
 exact(h.drop _).take _
noncomputable def JO(X:Cx) (e:Option Expr) (f:Rho->Option (Option Int)):Prop:=∀ρ o,f ρ=some o->PO X e (fun σ H Q=>∃H0 Hf,C0 Hf H/\Slots X.K H0 ρ σ H Hf/\∀H' Hf',Grow H Hf H' Hf'->Q o H')
noncomputable def l7:Rho->Option (Option Int):=fun _=>some none
noncomputable def aF2:D->Option Int
 | .int i=>some i
 | _=>none
noncomputable def l6(f:DE):Rho->Option (Option Int):=fun ρ=>(f ρ).bind fun d=>(aF2 d).map some
theorem bi7:JO X none l7:=fun ρ o q=>by
 cases q
 intro pins s σ H Q I ⟨H0,Hf,ss,sl,k⟩
 exact be9 pins s σ H Q I (k H Hf (Grow.refl ss))
theorem bi6(h:JE X e f):JO X (some e) (l6 f):=fun ρ o q=>by
 obtain⟨d,e1,e2⟩:=xbm q
 obtain⟨i,e3,e4⟩:=xmo e2
 subst e4
 cases d<;>simp[aF2]at e3
 subst e3
 intro pins s σ H Q I ⟨H0,Hf,ss,sl,k⟩
 exact be8 (h ρ _ e1) pins s σ H Q I ⟨H0,Hf,ss,sl,fun v H1 Hf1 g1 r1=>⟨_,r1,k H1 Hf1 g1⟩⟩
noncomputable def ap0(f:DE) (lo hi:Rho->Option (Option Int)):DE:=fun ρ=>(f ρ).bind fun d=>(lo ρ).bind fun l=>(hi ρ).bind fun h=>match d with
 | .tuple xs=>some (.tuple (aa6 xs l h))
 | _=>none
theorem c9{prog:Program}{w:World}{A:Around}{E:Value->Shared->Prop}{s:Shared}{t sl:Addr}{items:Array Value}{vl vu:Value}{lo hi:Option Int}{Q:Value->Shared->Prop}(ht:IsTup s.heap t items) (hs:s.heap.IsSliceOf sl vl vu .none) (pl:IsPart vl lo) (pu:IsPart vu hi)
  (hw:HT.sIx items.size 0 lo=0/\HT.sIx items.size items.size hi=items.size) (h:Q (.ref t) s):wpAny (model prog w) A (getItem (.ref t) (.ref sl)) Q E s:=by
 obtain⟨os,hos,hcs,hds⟩:=id hs
 have hTs:s.TypeIs (.ref sl) "slice" := ⟨os,hos,hcs⟩
 unfold getItem
 try with_reducible refine wpAny_holding ?_
 first|refine wpAny_bind (wpAny_pure ?_)|skip
 refine wpAny_bind (wpAny_sequenceKey ht.typeIs (by decide) ?_)
 refine wpAny_bind (wpAny_callSpecial?_slot (name:=Str.ofString "__getitem__") ht.typeIs PyProof.Rows.slot_tuple_getitem
  (wpAny_call_entry PyProof.Rows.slot_tuple_getitem ht.typeIs entry_tuple_getitem ?_ (args_tuple_getitem _ _)))
 show wpAny _ _ (Builtin.Tuple.tupleItemsOf (.ref t) >>= _) _ _ s
 refine wpAny_bind (tupleItemsOf_ ht ?_)
 refine wpAny_bind (wpAny_typeOf hTs ?_)
 rw[if_pos (by decide)]
 refine wpAny_bind (HT.sliceApplied_gen hs pl pu ?_)
 have hyes:((((HT.sIx items.size 0 lo:Nat):Int)==0&&(1:Int)==1&&(HT.sIx items.size items.size hi - HT.sIx items.size 0 lo)==items.size)=true):=by rw[hw.1,hw.2];simp
 show wpAny _ _ (if(((HT.sIx items.size 0 lo:Nat):Int)==0&&(1:Int)==1&&(HT.sIx items.size items.size hi - HT.sIx items.size 0 lo)==items.size)=true then _ else _) _ _ s
 rw[if_pos hyes]
 unfold Builtin.Tuple.tupleIsExact
 refine wpAny_bind (wpAny_bind (wpAny_typeOf ht.typeIs (wpAny_pure ?_)))
 rw[if_pos (by decide +kernel)]
 exact wpAny_bind (wpAny_rule (wpAny_pure ⟨_,rfl,wpAny_pure h⟩))
theorem al6:SlR X (fun x lo hi H Q=>∃a xs,x=.ref a/\SqT X.K H a xs/\(HT.sIx xs.length 0 lo=0/\HT.sIx xs.length xs.length hi=xs.length)/\Q (.ref a) H):=by
 intro pins s σ H x v vl vu lo hi sl Q I rx hs pl pu h
 obtain⟨a,xs,rfl,hx,hw,q⟩:=h
 cases rx
 obtain⟨its,r,ht,hz⟩:=I.tuple hx
 have hlen:its.toArray.size=xs.length:=by rw[List.size_toArray];exact r.length.symm
 refine⟨"tuple", _,PyProof.Rows.slot_tuple_getitem.lookup,ht.typeIs,?_⟩
 exact c9 ht hs pl pu (by rw[hlen];exact hw) ⟨.ref a,H,I,rfl,q⟩
theorem aW6{a:Expr}{lo hi:Option Expr}{f:DE}{l h:Rho->Option (Option Int)}{pos p2:Pos}(ha:JE X a f) (hl:JO X lo l) (hh:JO X hi h):JE X (.Subscript a (.Slice lo hi none p2) pos) (ap0 f l h):=fun ρ d q=>by
 obtain⟨x,e1,q⟩:=xbm q
 obtain⟨y,e2,q⟩:=xbm q
 obtain⟨z,e3,q⟩:=xbm q
 cases x with
 | tuple xs =>
  cases q
  refine A8 (l4 (bs3.or al6) (ha ρ _ e1) (hl ρ y e2) (hh ρ z e3)) fun σ H Q ⟨H0,Hf,s,sl,k⟩=>?_
  refine⟨H0,Hf,s,sl,fun v H1 Hf1 g1 ⟨p,vs,q1,q2,q3⟩=>⟨H0,Hf1,g1.sub,sl.grow g1,fun H2 Hf2 g2=>⟨H0,Hf2,g2.sub,sl.grow (g1.trans g2),fun H3 Hf3 g3=>?_⟩⟩⟩
  subst q1
  have q2':=B1 (g2.trans g3).ext q2
  have q3':=q3.mono (g2.trans g3).ext
  by_cases c:HT.sIx vs.length 0 y=0/\HT.sIx vs.length vs.length z=vs.length
  ·refine .inr ⟨p,vs,rfl,B1 g3.sub q2',c,k _ H3 Hf3 ((g1.trans g2).trans g3) ⟨p,vs,rfl,q2',?_⟩⟩
   have:aa6 xs y z=xs:=by
    unfold aa6
    rw[← q3.length,c.1,c.2]
    simp[q3.length]
   rw[this];exact q3'
  ·refine .inl ⟨p,vs,rfl,B1 g3.sub q2',c,fun p' hp=>?_⟩
   exact k _ _ _ (((g1.trans g2).trans g3).trans (Grow.laid g3.sub hp)) ⟨p',_,rfl,SqT.of A6,(ac8 q3' y z).mono (B8 (g3.sub.free hp))⟩
 | _=>cases q
end
section
variable {X:Cx}
theorem bD2:bootBuiltins "len" = some (.builtin "len"):=PySem.boot_len
theorem bD4:bootBuiltins "all" = some (.builtin "all"):=by decide +kernel
theorem bD3:bootBuiltins "isinstance" = some (.builtin "isinstance"):=by decide +kernel
theorem aA2:bootBuiltins "int" = some (.type "int"):=by decide +kernel
theorem bm5:bootBuiltins "bool" = some (.type "bool"):=by decide +kernel
theorem bD0:bootBuiltins "str" = some (.type "str"):=by decide +kernel
theorem aG8:bootBuiltins "list" = some (.type "list"):=by decide +kernel
theorem av1:bootBuiltins "tuple" = some (.type "tuple"):=by decide +kernel
theorem bC9:bootBuiltins "zip" = some (.type "zip"):=by decide +kernel
noncomputable def af0(f:Rho->Option (Bool×List D)):DE:=fun ρ=>(f ρ).map fun q=>.int q.2.length
theorem aW8(hg:Gl X "len") (hm:X.mg "len" = none) (h:JQ X e f) (he:starEach [e] X.env=[(false,eval e X.env)]:=by rfl):JE X (.Call (.Name "len" p) [e] [] pos) (af0 f):=fun ρ d q=>by
 obtain⟨⟨t,ds⟩,h1,h2⟩:=xmo q
 subst h2
 refine A8 (T5 ap2 hg hm bD2 (J8 (h ρ t ds h1) N9 he) (he:=he)) fun σ H Q ⟨H0,Hf,s,sl,k⟩=>?_
 refine⟨H0,Hf,s,sl,fun v H1 Hf1 g1 ⟨a,vs,e1,e2,e3⟩=>⟨a,vs,by rw[e1],?_,?_⟩⟩
 ·cases t with
  | true=>exact .inr e2
  | false=>exact .inl e2
 ·exact k _ H1 Hf1 g1 (by rw[e3.length];rfl)
theorem aW5(hg:Gl X "tuple") (hm:X.mg "tuple" = none) (h:JQ X e f) (hz:∀ρ ds,f ρ≠some (true,ds)\/True:=by intros;exact .inr trivial) (he:starEach [e] X.env=[(false,eval e X.env)]:=by rfl) :
  JE X (.Call (.Name "tuple" p) [e] [] pos) (fun ρ=>(f ρ).bind fun q=>if q.1=true then none else some (.tuple q.2)):=fun ρ d q=>by
 obtain⟨⟨t,ds⟩,h1,h2⟩:=xbm q
 cases t with
 | true=>simp at h2
 | false =>
  simp only[Bool.false_eq_true,if_false,Option.some.injEq]at h2
  subst h2
  refine A8 (V6 ag9 hg hm av1 (J8 (h ρ false ds h1) N9 he) (he:=he)) fun σ H Q ⟨H0,Hf,s,sl,k⟩=>?_
  refine⟨H0,Hf,s,sl,fun v H1 Hf1 g1 ⟨a,vs,e1,e2,e3⟩=>⟨a,vs,by rw[e1],.inl ⟨e2,fun l hl=>?_⟩⟩⟩
  exact k _ _ _ (g1.trans (Grow.laid g1.sub hl)) ⟨l,vs,rfl,SqT.of A6,e3.mono (B8 (g1.sub.free hl))⟩
theorem bi8(hg:Gl X "list") (hm:X.mg "list" = none) (h:JQ X e f) (he:starEach [e] X.env=[(false,eval e X.env)]:=by rfl):JN X (.Call (.Name "list" p) [e] [] pos) (fun ρ=>(f ρ).map fun q=>q.2):=fun ρ ds' q=>by
 obtain⟨⟨t,ds⟩,h1,h2⟩:=xmo q
 subst h2
 refine A8 (V6 ap1 hg hm aG8 (J8 (h ρ t ds h1) N9 he) (he:=he)) fun σ H Q ⟨H0,Hf,s,sl,k⟩=>?_
 refine⟨H0,Hf,s,sl,fun v H1 Hf1 g1 ⟨a,vs,e1,e2,e3⟩=>⟨a,vs,by rw[e1],?_,fun l hl=>?_⟩⟩
 ·cases t with
  | true=>exact .inr e2
  | false=>exact .inl e2
 ·exact k _ _ _ (g1.trans (Grow.made g1.sub hl)) ⟨l,vs,rfl,g1.big.free hl,A6,g1.sub.free hl,e3⟩
noncomputable def bm0(f:DE):DE:=fun ρ=>(f ρ).bind fun d=>match d with
 | .int i=>some (.int i)
 | .bool b=>some (.int (if b then 1 else 0))
 | _=>none
theorem aW9(hg:Gl X "int") (hm:X.mg "int" = none) (h:JE X e f) (he:starEach [e] X.env=[(false,eval e X.env)]:=by rfl):JE X (.Call (.Name "int" p) [e] [] pos) (bm0 f):=fun ρ d q=>by
 obtain⟨x,h1,h2⟩:=xbm q
 split at h2
 ·cases h2
  exact A8 (V6 aj5 hg hm aA2 (J8 (h ρ _ h1) N9 he) (he:=he)) fun σ H Q ⟨H0,Hf,s,sl,k⟩ =>⟨H0,Hf,s,sl,fun v H1 Hf1 g1 r=>.inl ⟨_,by rw[show v=_ from r],k _ H1 Hf1 g1 rfl⟩⟩
 ·cases h2
  exact A8 (V6 aj5 hg hm aA2 (J8 (h ρ _ h1) N9 he) (he:=he)) fun σ H Q ⟨H0,Hf,s,sl,k⟩ =>⟨H0,Hf,s,sl,fun v H1 Hf1 g1 r=>.inr ⟨_,by rw[show v=_ from r],k _ H1 Hf1 g1 rfl⟩⟩
 ·cases h2
noncomputable def bE0:List D->Option Bool
 | []=>some true
 | .bool b::r=>(bE0 r).map fun c=>b&&c
 | _::_=>none
theorem av3:∀{ds:List D}{c:Bool},bE0 ds=some c->∃bs:List Bool,ds=bs.map PyData.bool/\c=bs.all id
 | [],c,h=>by cases h;exact⟨[],rfl,rfl⟩
 | .bool b::r,c,h=>by
  obtain⟨c',h1,h2⟩:=xmo h
  obtain⟨bs,h3,h4⟩:=av3 h1
  exact⟨b::bs,by simp[h3],by simp[← h2,h4]⟩
theorem d9{K:PySem.W.Frag}{H:Hp}:∀{bs:List Bool}{vs:List V},Reps K H (bs.map PyData.bool) vs->vs=bs.map V.bl
 | [],_,h=>h
 | _::_,_,⟨v,r,h1,h2,h3⟩=>by subst h1;rw[show v=_ from h2,d9 h3];rfl
theorem aN3:W8 X (.builtin "all") (fun xs H Q=>X.calm=true/\∃(p:Addr) (bs:List Bool),xs=[.ref p]/\SqL X.K H p (bs.map V.bl)/\Q (.bl (bs.all id)) H):=by
 intro pins s σ H xs us Q I r h
 obtain⟨hc,p,bs,rfl,hq,q⟩:=h
 obtain⟨u,rfl,rx⟩:=i9 r
 cases rx
 obtain⟨its,rv,pl,hz⟩:=I.list hq
 have hlen:=rv.length
 have hh:X.A.in1.handled=none:=I.ok.hd hc
 have hlt:p < s.heap.objs.size:=by obtain⟨_,e,_⟩:=pl.isList;exact Heap.lt_size e
 refine call_all_walk (wpAny_pyIter_list pl.isList ?_)
 refine⟨s.heap.objs.size,_,_,_,_,_,fun i=>(bs[i]?).getD false,rfl,Walks.list hh _ p (Nat.ne_of_lt hlt) its.toArray,⟨⟨_,Heap.get?_push_size _ rfl,rfl,rfl⟩,pl.isList.at fun o e=>Heap.get?_push_of_some _ e⟩,?_,?_⟩
 ·intro i v s' Q' E' hv hQ
  have hv':its[i]? = some v:=by simpa using hv
  have:∃b,bs[i]? = some b:=by
   have:i < its.length:=(List.getElem?_eq_some_iff.mp hv').1
   have:i < bs.length:=by simpa using (by grind:i < (bs.map V.bl).length)
   exact⟨bs[i],by simp[this]⟩
  obtain⟨b,hb⟩:=this
  obtain⟨u,hu,ru⟩:=rv.get (i:=i) (x:=.bl b) (by simp[hb])
  rw[hv']at hu;cases hu
  cases ru
  exact wpAny_truthy_bool (by simpa [hb] using hQ)
 ·intro h' tk hk
  have e:((List.range its.toArray.size).all fun i=>(bs[i]?).getD false)=bs.all id:=by
   have hn:its.toArray.size=bs.length:=by simpa using hlen.symm
   rw[hn,Bool.eq_iff_iff]
   simp only[List.all_eq_true,List.mem_range,id]
   constructor
   ·intro h x hx
    obtain⟨i,hi,rfl⟩:=List.mem_iff_getElem.mp hx
    simpa [hi] using h i hi
   ·intro h i hi
    simpa [hi] using h bs[i] (List.getElem_mem hi)
  rw[e]
  have I1:Inv X pins σ H { s with heap:=h',toks:=tk }:=by
   have I0:Inv X pins σ H { s with heap:=s.heap.push { cls:=.type "list_iterator", data:=.fields #[.ref p,rawInt 0] } }:=I.kept (t':=s.toks) fun b o e=>Heap.get?_push_of_some _ e
   refine I.kept (t':=tk) fun b o e=>hk b o ?_ (Heap.get?_push_of_some _ e)
   intro hb
   have:b=s.heap.objs.size:=by simpa using hb
   subst this
   exact absurd (Heap.lt_size e) (Nat.lt_irrefl _)
  exact⟨.bl (bs.all id),H,I1,rfl,q⟩
noncomputable def bm1(f:Rho->Option (Bool×List D)):DE:=fun ρ=>(f ρ).bind fun q=>if q.1=true then none else(bE0 q.2).map PyData.bool
theorem bA7(hg:Gl X "all") (hm:X.mg "all" = none) (h:JQ X e f) (hc:X.calm=true:=by rfl) (he:starEach [e] X.env=[(false,eval e X.env)]:=by rfl):JE X (.Call (.Name "all" p) [e] [] pos) (bm1 f):=fun ρ d q=>by
 obtain⟨⟨t,ds⟩,h1,h2⟩:=xbm q
 cases t with
 | true=>simp at h2
 | false =>
  simp only[Bool.false_eq_true,if_false]at h2
  obtain⟨c,h3,h4⟩:=xmo h2
  subst h4
  obtain⟨bs,h5,h6⟩:=av3 h3
  subst h5 h6
  refine A8 (T5 aN3 hg hm bD4 (J8 (h ρ false _ h1) N9 he) (he:=he)) fun σ H Q ⟨H0,Hf,s,sl,k⟩=>?_
  refine⟨H0,Hf,s,sl,fun v H1 Hf1 g1 ⟨a,vs,e1,e2,e3⟩=>⟨hc,a,bs,by rw[e1],?_,k _ H1 Hf1 g1 rfl⟩⟩
  rw[d9 e3]at e2
  exact e2
noncomputable def ay4(T:String) (d:D):Option Bool:=match d with
 | .int _=>(match T with | "int" => some true | "bool" => some false | "str" => some false | "tuple" => some false | "list" => some false|_=>none)
 | .bool _=>(match T with | "int" => some true | "bool" => some true | "str" => some false | "tuple" => some false | "list" => some false|_=>none)
 | .none=>(match T with | "int" => some false | "bool" => some false | "str" => some false | "tuple" => some false | "list" => some false|_=>none)
 | .str _=>(match T with | "int" => some false | "bool" => some false | "str" => some true | "tuple" => some false | "list" => some false|_=>none)
 | .tuple _=>(match T with | "int" => some false | "bool" => some false | "str" => some false | "tuple" => some true | "list" => some false|_=>none)
 | .list _=>(match T with | "int" => some false | "bool" => some false | "str" => some false | "tuple" => some false | "list" => some true|_=>none)
 | _=>none
noncomputable def tyD:D->String
 | .int _ => "int"
 | .bool _ => "bool"
 | .none => "NoneType"
 | .str _ => "str"
 | .tuple _ => "tuple"
 | .list _ => "list"
 | .dict _ => "dict"
theorem bk4{K:PySem.W.Frag}{T:String}{d:D}{b:Bool}(h:ay4 T d=some b):PySem.W.kitOne K (.type (tyD d)) (.type T)=some b:=by
 unfold ay4 at h
 cases d<;>first
  | (dsimp only at h;split at h<;>first
   | (cases h;rfl)
   | cases h)
  | cases h
theorem bb0{T:String}:W8 X (.builtin "isinstance") (fun xs H Q=>∃d x b,xs=[x,.ty T]/\Rep X.K H d x/\ay4 T d=some b/\Q (.bl b) H):=by
 intro pins s σ H xs us Q I r h
 obtain⟨d,x,b,rfl,hd,hb,q⟩:=h
 obtain⟨u,c,rfl,rx,rc⟩:=aN9 r
 cases rc
 have e:=bk4 (K:=X.K) hb
 have fin:∀tk,EP X pins σ Q (.bool b) { s with toks:=tk }:=fun tk=>⟨.bl b,H,I.tok tk,rfl,q⟩
 cases d with
 | none=>cases hd;cases rx;exact PySem.W.kia_one PySem.W.kitx_none I.kIn True.intro e (fun z=>nomatch z) fin
 | bool y=>cases hd;cases rx;exact PySem.W.kia_one PySem.W.kitx_bool I.kIn True.intro e (fun z=>nomatch z) fin
 | int i=>cases hd;obtain⟨t,rfl⟩:=rx;exact PySem.W.kia_one PySem.W.kitx_int I.kIn True.intro e (fun z=>nomatch z) fin
 | str i=>cases hd;obtain⟨t,rfl⟩:=rx;exact PySem.W.kia_one PySem.W.kitx_str I.kIn True.intro e (fun z=>nomatch z) fin
 | tuple ds =>
  obtain⟨a,vs,rfl,h2,h3⟩:=hd
  cases rx
  obtain⟨its,rv,⟨o,ho,hc,_⟩,_⟩:=I.tuple h2
  exact PySem.W.kia_one PySem.W.kitx_tuple I.kIn ⟨o,ho,hc⟩ e (fun z=>nomatch z) fin
 | list ds =>
  obtain⟨a,vs,rfl,h2,h3⟩:=hd
  cases rx
  obtain⟨its,rv,pl,_⟩:=I.list h2
  obtain⟨o,ho,hc,_⟩:=pl.isList
  exact PySem.W.kia_one PySem.W.kitx_list I.kIn ⟨o,ho,hc⟩ e (fun z=>nomatch z) fin
 | dict ds=>simp[ay4]at hb
noncomputable def bl9(T:String) (f:DE):DE:=fun ρ=>(f ρ).bind fun d=>(ay4 T d).map PyData.bool
theorem bA1(hg:Gl X "isinstance") (hm:X.mg "isinstance" = none) (hgT:Gl X x) (hmT:X.mg x=none) (hvT:bootBuiltins x=some (.type T)) (h:JE X e f)
  (hn:x ≠ "__name__" := by decide) (hd:(x==("__debug__" : Str))=false:=by decide)
  (he:starEach [e,.Name x p2] X.env=(false,eval e X.env)::starEach [.Name x p2] X.env:=by rfl) (he2:starEach [.Name x p2] X.env=[(false,eval (.Name x p2) X.env)]:=by rfl) (hpl:(backTo pos (starEach [.Name x p2] X.env)).any (·.1)=false:=by rfl) :
  JE X (.Call (.Name "isinstance" p) [e,.Name x p2] [] pos) (bl9 T f):=fun ρ d q=>by
 obtain⟨y,h1,h2⟩:=xbm q
 obtain⟨b,h3,h4⟩:=xmo h2
 subst h4
 refine A8 (T5 (bb0 (T:=T)) hg hm bD3 (J8 (h ρ y h1) (J8 (bf8 (v:=.ty T) hgT hmT hvT rfl hn hd) N9 he2) he) (he:=he) (hpl:=hpl)) fun σ H Q ⟨H0,Hf,s,sl,k⟩=>?_
 exact⟨H0,Hf,s,sl,fun v H1 Hf1 g1 r=>⟨y,v,b,rfl,r.mono g1.sub,h3,k _ H1 Hf1 g1 rfl⟩⟩
noncomputable def spF(K:PySem.W.Frag) (n:Nat) (F:List D->Option D):Sp:=fun vs H Q _=>vs.length=n/\∃Hf ds d,C0 Hf H/\Reps K Hf ds vs/\F ds=some d/\∀v H' Hf',Grow H Hf H' Hf'->Rep K Hf' d v->Q v H'
noncomputable def A2(F:List D->Option D) (f:Rho->Option (List D)):DE:=fun ρ=>(f ρ).bind F
theorem bj9(Fk:FnOk X.prog X.w X.K X.mg X.base CX0 k f fd ps (spF X.K n F)) (hr:Room k X.A) (hg:Gl X x) (hm:X.mg x=some (.ref f)) (hk:PySem.W.keepIn X.K (.ref f)=true) (hb:d8 X.K fd ps [])
  (ha:JA X (e::es) g) (hn:(e::es).length=n:=by rfl) (hdb:(x==("__debug__" : Str))=false:=by decide) (he:starEach (e::es) X.env=(false,eval e X.env)::starEach es X.env:=by rfl) (hpl:(backTo pos (starEach es X.env)).any (·.1)=false:=by rfl) :
  JE X (.Call (.Name x p) (e::es) [] pos) (A2 F g):=fun ρ d q=>by
 obtain⟨ds,h1,h2⟩:=xbm q
 refine A8 (bf7 Fk hr hg hm hk hb .nil bn9 (fun pos pins s σ H Q I t=>ha.run ρ ds h1 pos pins s σ H Q I t) hdb he hpl) fun σ H Q ⟨H0,Hf,s,sl,kk⟩=>?_
 refine⟨H0,Hf,s,sl,fun vs H1 Hf1 g1 r1=>⟨?_,Hf1,ds,d,g1.sub,by rw[List.append_nil];exact r1,h2,fun v H2 Hf2 g2 r2=>kk v H2 Hf2 (g1.trans g2) r2⟩⟩
 rw[List.append_nil,r1.length,ha.len ρ ds h1,hn]
inductive Fl where
 | nx (ρ:Rho)
 | rt (d:D)
 | bk (ρ:Rho)
 | ct (ρ:Rho)
noncomputable abbrev DS:=Rho->Option Fl
structure At (K:PySem.W.Frag) (H0 Hf0:Hp) (ρ:Rho) (σ:L2.St) (H Hf:Hp):Prop where
 gr:Grow H0 Hf0 H Hf
 sl:Slots K H0 ρ σ H Hf
noncomputable def Fl.ends(K:PySem.W.Frag) (H0 Hf0 Hf:Hp) (En:Ends):Fl->Prop
 | .nx ρ=>∀σ' H' Hf',At K H0 Hf0 ρ σ' H' Hf'->C0 Hf Hf'->En.nx σ' H'
 | .bk ρ=>∀σ' H' Hf',At K H0 Hf0 ρ σ' H' Hf'->C0 Hf Hf'->En.bk σ' H'
 | .ct ρ=>∀σ' H' Hf',At K H0 Hf0 ρ σ' H' Hf'->C0 Hf Hf'->En.ct σ' H'
 | .rt d=>∀v H' Hf',Grow H0 Hf0 H' Hf'->Rep K Hf' d v->En.rt v H'
noncomputable def tJS(K:PySem.W.Frag) (H0 Hf0:Hp) (ρ:Rho) (fl:Fl):TS:=fun En σ H=>∃Hf,At K H0 Hf0 ρ σ H Hf/\fl.ends K H0 Hf0 Hf En
noncomputable def JS(X:Cx) (st:Stmt) (f:DS):Prop:=∀ρ fl,f ρ=some fl->∀H0 Hf0,PS X st (tJS X.K H0 Hf0 ρ fl)
noncomputable def JSs(X:Cx) (sts:List Stmt) (f:DS):Prop:=∀ρ fl,f ρ=some fl->∀H0 Hf0,PSs X sts (tJS X.K H0 Hf0 ρ fl)
theorem N8{st:Stmt}{t t':TS}(h:PS X st t) (i:∀En σ H,t' En σ H->t En σ H):PS X st t':=fun pins s σ H En I q=>h pins s σ H En I (i En σ H q)
theorem Z9{st:List Stmt}{t t':TS}(h:PSs X st t) (i:∀En σ H,t' En σ H->t En σ H):PSs X st t':=fun pins s σ H En I q=>h pins s σ H En I (i En σ H q)
theorem At.grow{K:PySem.W.Frag}{H0 Hf0 H Hf H' Hf':Hp}{ρ:Rho}{σ:L2.St}(a:At K H0 Hf0 ρ σ H Hf) (g:Grow H Hf H' Hf'):At K H0 Hf0 ρ σ H' Hf':=⟨a.gr.trans g,a.sl.grow g⟩
theorem Fl.ends_mono{K:PySem.W.Frag}{H0 Hf0 Hf Hf':Hp}{En:Ends}{fl:Fl}(h:fl.ends K H0 Hf0 Hf En) (e:C0 Hf Hf'):fl.ends K H0 Hf0 Hf' En:=by
 cases fl with
 | nx ρ=>exact fun σ' H' Hf'' a s=>h σ' H' Hf'' a (e.trans s)
 | bk ρ=>exact fun σ' H' Hf'' a s=>h σ' H' Hf'' a (e.trans s)
 | ct ρ=>exact fun σ' H' Hf'' a s=>h σ' H' Hf'' a (e.trans s)
 | rt d=>exact h
noncomputable def P0:DS:=fun ρ=>some (.nx ρ)
noncomputable def B4(f g:DS):DS:=fun ρ=>(f ρ).bind fun fl=>match fl with
 | .nx ρ'=>g ρ'
 | fl=>some fl
theorem bi1:JSs X [] P0:=fun ρ fl q H0 Hf0=>by
 cases q
 exact Z9 be5 fun En σ H ⟨Hf,a,e⟩=>e σ H Hf a (C0.refl _)
theorem aV6{st:Stmt}{sts:List Stmt}{f g:DS}(h1:JS X st f) (h2:JSs X sts g):JSs X (st::sts) (B4 f g):=fun ρ fl q H0 Hf0=>by
 obtain⟨fl1,e1,q⟩:=xbm q
 cases fl1 with
 | nx ρ' =>refine Z9 (V3 (h1 ρ _ e1 H0 Hf0) (h2 ρ' fl q H0 Hf0)) fun En σ H ⟨Hf,a,e⟩=>⟨Hf,a,fun σ' H' Hf' a' s'=>⟨Hf',a',Fl.ends_mono e s'⟩⟩
 | rt d=>cases q;exact Z9 (V3 (h1 ρ _ e1 H0 Hf0) V2) fun En σ H ⟨Hf,a,e⟩=>⟨Hf,a,e⟩
 | bk ρ'=>cases q;exact Z9 (V3 (h1 ρ _ e1 H0 Hf0) V2) fun En σ H ⟨Hf,a,e⟩=>⟨Hf,a,e⟩
 | ct ρ'=>cases q;exact Z9 (V3 (h1 ρ _ e1 H0 Hf0) V2) fun En σ H ⟨Hf,a,e⟩=>⟨Hf,a,e⟩
theorem bi0{st:Stmt}{f:DS}(h1:JS X st f):JSs X [st] f:=fun ρ fl q H0 Hf0=>am4 (h1 ρ fl q H0 Hf0)
noncomputable def B5(f:DE):DS:=fun ρ=>(f ρ).map Fl.rt
theorem bx6{e:Expr}{f:DE}{pos:Pos}(h:JE X e f):JS X (.Return (some e) pos) (B5 f):=fun ρ fl q H0 Hf0=>by
 obtain⟨d,e1,e2⟩:=xmo q
 subst e2
 exact N8 (aR4 (h ρ d e1)) fun En σ H ⟨Hf,a,e⟩=>⟨H0,Hf,a.gr.sub,a.sl,fun v H' Hf' g r=>e v H' Hf' (a.gr.trans g) r⟩
noncomputable def sIf(t:Rho->Option Bool) (f g:DS):DS:=fun ρ=>(t ρ).bind fun c=>if c then f ρ else g ρ
theorem bK2{c:Expr}{a b:List Stmt}{t:Rho->Option Bool}{f g:DS}{pos:Pos}(hc:JT X c t) (ha:JSs X a f) (hb:JSs X b g):JS X (.If c a b pos) (sIf t f g):=fun ρ fl q H0 Hf0=>by
 obtain⟨x,e1,q⟩:=xbm q
 cases x with
 | true =>refine N8 (bn6 (hc ρ _ e1) (ha ρ fl (by simpa using q) H0 Hf0) V2) fun En σ H ⟨Hf,a,e⟩=>⟨H0,Hf,a.gr.sub,a.sl,fun H' Hf' g=>ae4 ⟨Hf',a.grow g,Fl.ends_mono e g.ext⟩⟩
 | false =>refine N8 (bn6 (hc ρ _ e1) V2 (hb ρ fl (by simpa using q) H0 Hf0)) fun En σ H ⟨Hf,a,e⟩=>⟨H0,Hf,a.gr.sub,a.sl,fun H' Hf' g=>ae5 ⟨Hf',a.grow g,Fl.ends_mono e g.ext⟩⟩
theorem Slots.set{K:PySem.W.Frag}{H0 H Hf:Hp}{ρ:Rho}{σ:L2.St}{i:Nat}{d:D}{v:V}(s:Slots K H0 ρ σ H Hf) (r:Rep K Hf d v):Slots K H0 (ρ.set i (some (.val d))) (σ.set i (some v)) H Hf:=by
 refine⟨by simp[s.len],fun j b e=>?_,fun j k ds es a h1 h2 h3 h4=>?_⟩
 ·by_cases q:i=j
  ·subst q
   have hi:i < ρ.length:=by
    have:=(List.getElem?_eq_some_iff.mp e).1
    simpa using this
   have hi':i < σ.length:=by rw[← s.len];exact hi
   rw[List.getElem?_set_self hi]at e
   cases e
   exact⟨v,List.getElem?_set_self hi',r⟩
  ·rw[List.getElem?_set_ne q]at e
   obtain⟨u,h1,h2⟩:=s.is j b e
   exact⟨u,by rw[List.getElem?_set_ne q];exact h1,h2⟩
 ·have hj:i≠j:=by
   intro q;subst q
   have hi:i < ρ.length:=by
    have:=(List.getElem?_eq_some_iff.mp h1).1
    simpa using this
   rw[List.getElem?_set_self hi]at h1
   cases h1
  have hk:i≠k:=by
   intro q;subst q
   have hi:i < ρ.length:=by
    have:=(List.getElem?_eq_some_iff.mp h2).1
    simpa using this
   rw[List.getElem?_set_self hi]at h2
   cases h2
  rw[List.getElem?_set_ne hj]at h1 h3
  rw[List.getElem?_set_ne hk]at h2 h4
  exact s.apart j k ds es a h1 h2 h3 h4
noncomputable def K0(i:Nat) (f:DE):DS:=fun ρ=>(f ρ).map fun d=>.nx (ρ.set i (some (.val d)))
theorem aV8(i:Nat) {x:Str}{e:Expr}{f:DE}{pos pos':Pos}(hN:X.N.Nodup) (h:JE X e f) (hi:X.N[i]? = some x:=by rfl) (hx:Loc X.env.scope x:=by first|exact Or.inl rfl|exact Or.inr rfl)
  (hs:swapsWith e (some (.Name x pos')) pos.line X.env=pure false:=by rfl) (hf:X.fn x=true\/X.env.scope.names.lookup x=some .local:=by first|exact .inl rfl|exact .inr rfl):JS X (.Assign [.Name x pos'] e pos) (K0 i f):=fun ρ fl q H0 Hf0=>by
 obtain⟨d,e1,e2⟩:=xmo q
 subst e2
 exact N8 (ax1 hN hi hx (h ρ d e1) hs hf) fun En σ H ⟨Hf,a,e⟩=>⟨H0,Hf,a.gr.sub,a.sl,fun v H' Hf' g r=>e _ H' Hf' ⟨a.gr.trans g,(a.sl.grow g).set r⟩ g.ext⟩
noncomputable def al8(i j:Nat) (f:Rho->Option (List D)):DS:=fun ρ=>(f ρ).bind fun ds=>match ds with
 | [a,b]=>some (.nx ((ρ.set i (some (.val a))).set j (some (.val b))))
 | _=>none
end
theorem aM7(I:Nat->Shared->Prop)
  (turn:∀n s,I n s->wpAny (model prog w) A (pyNext it) (fun r s1=>match r with
   | none=>R (.ok .next) s1
   | some v=>wpAny (model prog w) A (letOwnedTupleGo target it v) (fun _ s1'=>wpAny (model prog w) A (assign target env v) (fun _ s2 =>
     wpAny (model prog w) A (forIn ifs true fun c r=>if r=true then do let ok ← isTrue c env (eval c env);pure (ForInStep.yield ok) else pure (ForInStep.yield r)) (fun ok s3 =>
      if ok=true then wpAny (model prog w) A (eval elt env) (fun x s4 =>wpAny (model prog w) A (call (.builtin "list.append") [acc,x]) (fun _ s5=>∃m,m < n/\I m s5) (fun _ _=>False) s4) (fun _ _=>False) s3
      else ∃m,m < n/\I m s3) (fun _ _=>False) s2) (fun _ _=>False) s1') (fun _ _=>False) s1) (fun _ _=>False) s)
  (n:Nat) (h:I n s) :
  codeAny (model prog w) A (.compLoop (.ListComp elt [⟨target,iter,ifs,0⟩] scope pos) 0 it acc env) R s:=by
 refine codeAny_loop rfl I (fun n s hI=>?_) n h
 show wpAny _ A ((compTurn (.ListComp elt [⟨target,iter,ifs,0⟩] scope pos) 0 it acc env).onRaise (fun x=>do noteFrame x env;theTreesLotGoes x)) _ _ s
 refine wpAny_noted ?_
 rw[compTurn_list]
 refine wpAny_bind (wpAny_standAt (wpAny_bind (wpAny_mono (turn n s hI) (fun r s1 h1=>?_) fun _ _ h'=>h'.elim)))
 cases r with
 | none=>exact wpAny_pure h1
 | some v =>
  refine wpAny_bind (wpAny_mono h1 (fun _ s1' h1'=>?_) fun _ _ h'=>h'.elim)
  refine wpAny_bind (wpAny_mono h1' (fun _ s2 h2=>wpAny_bind (wpAny_mono h2 (fun ok s3 h3=>?_) fun _ _ h'=>h'.elim)) fun _ _ h'=>h'.elim)
  cases ok with
  | false=>exact wpAny_pure ⟨rfl,h3⟩
  | true =>exact wpAny_bind (wpAny_bind (wpAny_mono h3 (fun x s4 h4=>wpAny_bind (wpAny_mono h4 (fun _ s5 h5=>wpAny_pure (wpAny_pure ⟨rfl,h5⟩)) fun _ _ h'=>h'.elim)) fun _ _ h'=>h'.elim))
noncomputable def O9(cells:List (Str×Addr)):List (Str×NameKind)->List (Str×Addr)->List (Str×Addr)
 | [],cs=>cs
 | (n,k)::r,cs=>if(k==NameKind.free)=true then O9 cells r ((n,(cells.lookup n).getD 0)::cs) else O9 cells r cs
theorem af2:∀(names:List (Str×NameKind)) (cs:List (Str×Addr)),(∀y∈names,y.2=.free->∃c,env.cells.lookup y.1=some c) ->
  (forIn names cs fun(x:Str×NameKind) (r:List (Str×Addr))=>if(x.2==NameKind.free)=true then do let a ← cellOf env x.1;pure (ForInStep.yield ((x.1,a)::r)) else pure (ForInStep.yield r):Sem (List (Str×Addr)))=pure (O9 env.cells names cs)
 | [],cs,_=>rfl
 | (n,k)::r,cs,h=>by
  rw[List.forIn_cons]
  have hr:∀y∈r,y.2=.free->∃c,env.cells.lookup y.1=some c:=fun y hy=>h y (xmm _ hy)
  by_cases hk:(k==NameKind.free)=true
  ·obtain⟨c,hc⟩:=h (n,k) List.mem_cons_self (by simpa using hk)
   have hc':env.cells.lookup n=some c:=hc
   simp only[hk,if_true]
   have e:cellOf env n=pure c:=by unfold cellOf;rw[hc']
   rw[e]
   show(forIn r ((n,c)::cs) _:Sem _)=_
   rw[af2 r _ hr]
   simp only[O9,hk,if_true,hc',Option.getD_some]
  ·have hk':(k==NameKind.free)=false:=by simpa using hk
   simp only[hk',Bool.false_eq_true,if_false]
   show(forIn r cs _:Sem _)=_
   rw[af2 r _ hr]
   simp only[O9,hk',Bool.false_eq_true,if_false]
theorem bm3(h:∀y∈scope.names,y.2=.free->∃c,env.cells.lookup y.1=some c):closureFor scope env=pure (O9 env.cells scope.names []):=by
 have:=af2 (env:=env) scope.names [] h
 unfold closureFor
 exact congrArg (fun z=>z >>= fun cs=>pure cs) this
theorem n8:∀{names:List (Str×NameKind)}{cs:List (Str×Addr)}{x:Str}{c:Addr},(x,c)∈O9 cells names cs->(x,c)∈cs\/((x,NameKind.free)∈names/\c=(cells.lookup x).getD 0)
 | [],cs,x,c,h=>.inl h
 | (n,k)::r,cs,x,c,h=>by
  unfold O9 at h
  split at h
  ·rename_i hk
   rcases n8 h with q|⟨q1,q2⟩
   ·rcases List.mem_cons.mp q with q|q
    ·cases q
     have:k=.free:=by simpa using hk
     subst this
     exact .inr ⟨List.mem_cons_self,rfl⟩
    ·exact .inl q
   ·exact .inr ⟨xmm _ q1,q2⟩
  ·rcases n8 h with q|⟨q1,q2⟩
   ·exact .inl q
   ·exact .inr ⟨xmm _ q1,q2⟩
theorem W1:∀{names:List (Str×NameKind)}{cs:List (Str×Addr)}{x:Str},((x,NameKind.free)∈names\/∃c,(x,c)∈cs)->∃c,(x,c)∈O9 cells names cs
 | [],cs,x,h=>by
  rcases h with h|h
  ·cases h
  ·exact h
 | (n,k)::r,cs,x,h=>by
  unfold O9
  rcases h with h|⟨c,h⟩
  ·rcases List.mem_cons.mp h with q|q
   ·cases q
    rw[if_pos (by rfl)]
    exact W1 (.inr ⟨_,List.mem_cons_self⟩)
   ·split
    ·exact W1 (.inl q)
    ·exact W1 (.inl q)
  ·split
   ·exact W1 (.inr ⟨c,xmm _ h⟩)
   ·exact W1 (.inr ⟨c,h⟩)
theorem g7{l:List (Str×Addr)}{x:Str}{c:Addr}(h:(x,c)∈l):∃c',l.lookup x=some c':=by
 induction l with
 | nil=>cases h
 | cons p r ih =>
  obtain⟨n,a⟩:=p
  rw[List.lookup_cons]
  cases e:x==n with
  | true=>exact⟨a,rfl⟩
  | false =>
   rcases List.mem_cons.mp h with q|q
   ·cases q;simp at e
   ·exact ih q
theorem k9:(relabel scope env).names.lookup x=some k->∃k0,scope.names.lookup x=some k0/\(k=k0\/k0=.free):=by
 unfold relabel
 simp only
 generalize scope.names=names
 induction names with
 | nil=>intro h;simp at h
 | cons p r ih =>
  obtain⟨n,k1⟩:=p
  intro h
  rw[List.map_cons]at h
  by_cases hc:(k1==NameKind.free&&env.scope.kind == .function&&env.kindOf n==some .cell)=true
  ·simp only[hc,if_true,List.lookup_cons]at h
   rw[List.lookup_cons]
   cases e:x==n with
   | true =>
    rw[e]at h
    rw[Bool.and_eq_true,Bool.and_eq_true]at hc
    exact⟨k1,rfl,.inr (by simpa using hc.1.1)⟩
   | false=>rw[e]at h;exact ih h
  ·have hc':(k1==NameKind.free&&env.scope.kind == .function&&env.kindOf n==some .cell)=false:=by simpa using hc
   simp only[hc',Bool.false_eq_true,if_false,List.lookup_cons]at h
   rw[List.lookup_cons]
   cases e:x==n with
   | true=>rw[e]at h;cases h;exact⟨_,rfl,.inl rfl⟩
   | false=>rw[e]at h;exact ih h
theorem am0:scope.names.lookup x=some .free->(relabel scope env).names.lookup x=some .cell\/(relabel scope env).names.lookup x=some .free:=by
 unfold relabel
 simp only
 generalize scope.names=names
 induction names with
 | nil=>intro h;simp at h
 | cons p r ih =>
  obtain⟨n,k1⟩:=p
  intro h
  rw[List.lookup_cons]at h
  rw[List.map_cons]
  cases e:x==n with
  | true =>
   rw[e]at h
   cases h
   have en:x=n:=by simpa using e
   subst en
   by_cases hc:(NameKind.free==NameKind.free&&env.scope.kind == .function&&env.kindOf x==some .cell)=true
   ·simp only[hc,if_true,List.lookup_cons,e];exact .inl trivial
   ·have hc':(NameKind.free==NameKind.free&&env.scope.kind == .function&&env.kindOf x==some .cell)=false:=by simpa using hc
    simp only[hc',Bool.false_eq_true,if_false,List.lookup_cons,e];exact .inr trivial
  | false =>
   rw[e]at h
   by_cases hc:(k1==NameKind.free&&env.scope.kind == .function&&env.kindOf n==some .cell)=true
   ·simp only[hc,if_true,List.lookup_cons,e];exact ih h
   ·have hc':(k1==NameKind.free&&env.scope.kind == .function&&env.kindOf n==some .cell)=false:=by simpa using hc
    simp only[hc',Bool.false_eq_true,if_false,List.lookup_cons,e];exact ih h
noncomputable def D6(X:Cx) (N':List Str) (scope:Scope) (C:Addr) (s₀:Shared) (H₀:Hp) (ex:List Addr):Cx where
 prog:=X.prog
 w:=X.w
 K:=X.K
 mg:=X.mg
 base:=X.base
 A:=X.A
 N:=N'
 s₀:=s₀
 H₀:=H₀
 env:=compEnvC scope (O9 X.env.cells scope.names []) C X.env
 outer:=X.stack
 stack:=X.stack
 ex:=ex
 fn:=fun _=>false
 calm:=X.calm
 pn:=[]
 xe:=fun _ _=>False
structure CompSc (X:Cx) (N':List Str) (n:Nat) (caps:List Nat) (scope:Scope):Prop where
 kind:scope.kind=.function
 cell:∀y∈scope.names,y.2≠.cell
 loc:∀y∈scope.names,y.2=.local->scope.names.lookup y.1=some .local
 free:∀y∈scope.names,y.2=.free->X.env.scope.names.lookup y.1=some .cell\/X.env.scope.names.lookup y.1=some .free
 len:N'.length=n+caps.length
 cap:∀(i j:Nat),caps[i]? = some j->∃x,X.N[j]? = some x/\N'[n+i]? = some x/\scope.names.lookup x=some .free
section
variable {X:Cx}{N':List Str}{n:Nat}{caps:List Nat}{scope:Scope}
theorem P4{l:List (Str×NameKind)}{x:Str}{k:NameKind}(h:l.lookup x=some k):(x,k)∈l:=PySem.mem_of_lookup h
noncomputable def ag8(n:Nat) (caps:List Nat) (σ:L2.St):L2.St:=List.replicate n none++caps.map fun j=>(σ[j]?).join
theorem az3(S:CompSc X N' n caps scope) (I:Inv X pins σ H s) (hf:∀b∈fp,W4 X pins H b) (hlt:∀b∈fp,b < s.heap.objs.size)
  (hns:h1.Ns s.heap.objs.size m) (hk:∀b o,s.heap.get? b=some o->h1.get? b=some o) :
  Inv (D6 X N' scope s.heap.objs.size s H fp) [] (ag8 n caps σ) H { s with heap:=h1,toks:=tk }:=by
 have cl_of:∀x c,(O9 X.env.cells scope.names []).lookup x=some c->X.env.cells.lookup x=some c:=fun x c h=>by
  have hm:=PySem.mem_of_lookup h
  rcases n8 hm with q|⟨q1,q2⟩
  ·cases q
  ·obtain⟨c',hc'⟩:=I.ok.has x (S.free _ q1 rfl)
   rw[hc']at q2
   rw[hc',q2];rfl
 have cl_has:∀x,(x,NameKind.free)∈scope.names->∃c,(O9 X.env.cells scope.names []).lookup x=some c:=fun x h=>by
  obtain⟨c,hc⟩:=W1 (cells:=X.env.cells) (cs:=[]) (.inl h)
  exact g7 hc
 have kind_free:∀x,((relabel scope X.env).names.lookup x=some .cell\/(relabel scope X.env).names.lookup x=some .free)->(x,NameKind.free)∈scope.names:=fun x h=>by
  rcases h with h|h
  ·obtain⟨k0,e1,e2⟩:=k9 h
   rcases e2 with e2|e2
   ·subst e2;exact absurd rfl (S.cell _ (P4 e1))
   ·subst e2;exact P4 e1
  ·obtain⟨k0,e1,e2⟩:=k9 h
   rcases e2 with e2|e2
   ·subst e2;exact P4 e1
   ·subst e2;exact P4 e1
 have cell_lt:∀x c,X.env.cells.lookup x=some c->c < s.heap.objs.size:=fun x c e=>by
  obtain⟨v,q⟩:=I.cell x c e
  exact q.lt
 have ok:(D6 X N' scope s.heap.objs.size s H fp).Ok:=by
  refine⟨I.ok.mod,S.kind,I.ok.glob,I.ok.blt,Nat.le_refl _,fun x y c e1 e2=>I.ok.inj x y c (cl_of x c e1) (cl_of y c e2),fun x hx=>cl_has x (kind_free x hx),fun x c e _=>(Bool.false_ne_true e).elim,I.ok.hd,I.ok.frames,.inl rfl,fun b hb=>⟨Nat.ne_of_lt (hlt b hb),fun x c e=>(hf b hb).2.2.2.2.1 x c (cl_of x c e)⟩,
   I.bs,Nat.le_trans I.ok.bsz I.sz,fun b o e hb=>?_,fun b hb hb2=>?_,I.stack,I.stkFree⟩
  ·rcases(hf b hb).2.2.2.1 with z|z
   ·exact I.ok.noex b o e z
   ·exact absurd (Nat.lt_of_lt_of_le (Heap.lt_size e) (Nat.le_trans I.ok.bsz z)) (Nat.lt_irrefl _)
  ·rcases List.mem_cons.mp (I.stkSub b hb2) with z|z
   ·exact(hf b hb).2.1 z
   ·exact(hf b hb).2.2.1 z
 refine⟨ok,rfl,I.bare,Un.kept hk,⟨m,hns,fun i x v e1 e2 e3=>?_⟩,fun x c e=>?_,I.hok.fresh (Nat.le_refl _),fun x c e=>I.freeC x c (cl_of x c e),fun p hp=>absurd (show p∈([]:List (Addr×Obj)) from hp) (by simp),I.hok.kept hk,?_⟩
 ·have hi:n<=i:=by
   rcases Nat.lt_or_ge i n with h|h
   ·unfold ag8 at e2
    rw[List.getElem?_append_left (by simpa using h),List.getElem?_replicate,if_pos h]at e2
    cases e2
   ·exact h
  unfold ag8 at e2
  rw[List.getElem?_append_right (by simpa using hi),List.getElem?_map]at e2
  simp only[List.length_replicate]at e2
  cases hj:caps[i - n]? with
  | none=>rw[hj]at e2;cases e2
  | some j =>
   rw[hj]at e2
   have e2':(σ[j]?).join=some v:=by simpa using e2
   have e2'':σ[j]? = some (some v):=by
    cases q:σ[j]? with
    | none=>rw[q]at e2';cases e2'
    | some o=>rw[q]at e2';simp at e2';rw[e2']
   obtain⟨y,q1,q2,q3⟩:=S.cap _ _ hj
   have:y=x:=by
    have e1':N'[i]? = some x:=e1
    rw[show n+(i - n)=i by grind,e1']at q2
    cases q2;rfl
   subst this
   obtain⟨m0,hn0,hl0⟩:=I.loc
   have hv:Vis X.env.scope y:=by
    rcases S.free _ (P4 q3) rfl with z|z
    ·exact .inr (.inl z)
    ·exact .inr (.inr z)
   obtain⟨u,ru,lk⟩:=hl0 j y v q1 e2'' hv
   refine⟨u,ru,.inr ⟨am0 q3,?_⟩⟩
   rcases lk with⟨lk,_⟩|⟨_,c,hc,hcell⟩
   ·rcases S.free _ (P4 q3) rfl with z|z
    ·have:X.env.scope.names.lookup y=some .local:=lk
     rw[z]at this;cases this
    ·have:X.env.scope.names.lookup y=some .local:=lk
     rw[z]at this;cases this
   ·obtain⟨c',hc'⟩:=cl_has y (P4 q3)
    have:=cl_of y c' hc'
    rw[hc]at this;cases this
    obtain⟨o,ho,hd⟩:=hcell
    exact⟨c,hc',o,hk c o ho,hd⟩
 ·obtain⟨v,o,ho,hd⟩:=I.cell x c (cl_of x c e)
  exact⟨v,o,hk c o ho,hd⟩
 ·show(ag8 n caps σ).length=N'.length
  unfold ag8
  rw[S.len];simp
theorem aj3(I:Inv X pins σ H s) (hf:∀b∈fp,W4 X pins H b)
  (I':Inv (D6 X N' scope s.heap.objs.size s H fp) [] σ' H' s') (sb:Heap.SameBut s.heap.objs.size s'.heap h'):Inv X pins σ H' { s' with heap:=h' }:=by
 have ne:∀b o,s.heap.get? b=some o->b≠s.heap.objs.size:=fun b o e=>Nat.ne_of_lt (Heap.lt_size e)
 refine I.call' (s':={ s' with heap:=h' }) (ch:=fp) I'.os ?_ ?_ I'.bare fun b hb=>⟨(hf b hb).2.2.2.1,(hf b hb).2.1,(hf b hb).2.2.2.2.1,(hf b hb).2.2.2.2.2⟩
 ·refine⟨fun b o e n hb hx=>sb.extBut b o (ne b o e) (I'.base.keep b o e n hb hx),fun b o e n hb hx=>?_,I'.base.free,fun b o e hx=>?_,I'.base.tups,I'.base.frzs,I'.base.tbls⟩
  ·obtain⟨sl,q⟩:=I'.base.slot b o e n hb hx
   exact⟨sl,sb.extBut b _ (ne b o e) q⟩
  ·obtain⟨o',q⟩:=I'.base.there b o e hx
   exact⟨o',sb.extBut b _ (ne b o e) q⟩
 ·intro b u e
  have nC:∀c v,H' c=some v->c≠s.heap.objs.size:=fun c v q z=>by
   have:=I'.free
   have z':H' c=none:=by rw[z];exact this
   rw[z']at q;cases q
  refine(I'.hok b u e).stay (fun c v hc q=>sb.extBut c v ?_ q) (fun _ q=>q) fun _ _ q=>q
  rcases hc with z|z
  ·rw[z];exact nC b u e
  ·exact nC c _ z
noncomputable def PTs(X:Cx) (ifs:List Expr) (t:TT):Prop :=
 ∀(pins:List (Addr×Obj)) (s:Shared) (σ:L2.St) (H:Hp) (Q:Bool->Hp->Prop),Inv X pins σ H s->t σ H Q ->
  wpAny (model X.prog X.w) X.A (forIn ifs true fun c r=>if r=true then do let ok ← isTrue c X.env (eval c X.env);pure (ForInStep.yield ok) else pure (ForInStep.yield r)) (TP X pins σ Q) X.xe s
theorem be3:PTs X [] (fun _ H Q=>Q true H):=fun pins s σ H Q I h=>wpAny_tests_nil ⟨H,I,h⟩
theorem be2(h:PT X c t):PTs X [c] t:=fun pins s σ H Q I q=>wpAny_tests_one (h pins s σ H Q I q)
noncomputable def aO2(n:Nat) (caps:List Nat) (wi:TI) (g:TG) (tc:TT) (te:TE):TE:=fun σ H Q=>wi σ H fun J H1=>∀Dd,H1 Dd=none->∃W:Nat->Nat->List V->L2.St->Hp->Prop,
 (∃m,W 0 m [] (ag8 n caps σ) (upd H1 Dd (.lst []))) /\
 ∀i m ys σ' H',W i m ys σ' H' ->
  (J.stop i H'/\Q (.ref Dd) H') \/
  (J.go i H'/\∀x H2,J.yld i H' x H2->g x σ' H2 fun σ3 H3=>tc σ3 H3 fun b H4 =>
   if b=true then te σ3 H4 fun y H5=>H5 Dd=some (.lst ys)/\ys.length < sizeLine/\∃m',m' < m/\W (i+1) m' (ys++[y]) σ3 (upd H5 Dd (.lst (ys++[y])))
   else ∃m',m' < m/\W (i+1) m' ys σ3 H4)
theorem au8{elt tgt iter:Expr}{ifs:List Expr}{pos:Pos}{wi:TI}{g:TG}{tc:TT}{te:TE}{RR:Value->Addr->Result->Shared->Prop}{E:Value->Shared->Prop}(S:CompSc X N' n caps scope) (hx:∀e s,X.xe e s->False) (hc:X.calm=true)
  (hi:PI X tgt iter wi) (hg:∀C s0 H0 ex,PG (D6 X N' scope C s0 H0 ex) tgt g) (ht:∀C s0 H0 ex,PTs (D6 X N' scope C s0 H0 ex) ifs tc) (he:∀C s0 H0 ex,PE (D6 X N' scope C s0 H0 ex) elt te)
  {pins:List (Addr×Obj)}{s:Shared}{σ:L2.St}{H:Hp}{Q:VK}(I:Inv X pins σ H s) (h:aO2 n caps wi g tc te σ H Q)
  (hRR:∀D C r s',r=.ok .next->(∃m,s'.heap.Ns C m/\∀h',Heap.SameBut C s'.heap h'->∃H',Inv X pins σ H' { s' with heap:=h' }/\Q (.ref D) H') ->
   (∃s2 fp σ' H2 H',s2.heap.objs.size=C/\Inv X pins σ H2 s2/\(∀b∈fp,W4 X pins H2 b)/\Inv (D6 X N' scope s2.heap.objs.size s2 H2 fp) [] σ' H' s'/\Q (.ref D) H')->RR (.ref D) C r s') :
  wpAny (model X.prog X.w) X.A (eval iter X.env) (fun x s₁=>wpAny (model X.prog X.w) X.A (pyIter x) (fun it s₂=>wpAny (model X.prog X.w) X.A (newList []) (fun acc s₃ =>
   wpAny (model X.prog X.w) X.A (newFunctionEnv scope X.env.globals (O9 X.env.cells scope.names []) [] X.env.qual none .none (some X.env)) (fun cenv s₄ =>
    codeAny (model X.prog X.w) X.A (.compStart (.ListComp elt [⟨tgt,iter,ifs,0⟩] scope pos) 0 it acc { cenv with scope:=relabel scope X.env }) (RR acc cenv.locals) s₄) E s₃) E s₂) E s₁) E s:=by
 refine wpAny_mono (hi pins s σ H _ I h) (fun v s1 h1=>wpAny_mono h1 (fun itv s2 h2=>?_) fun _ _ z=>(hx _ _ z).elim) fun _ _ z=>(hx _ _ z).elim
 obtain⟨it,fp,tn,J,H2,e,I2,T,st2,f2,R⟩:=h2
 subst e
 refine wpAny_newObj_type (wpAny_newFunctionEnv S.cell (by intro y hy;simp at hy) (fun h₁ hns₁ hsb₁=>?_) S.kind)
 dsimp only at hns₁ hsb₁ ⊢
 obtain⟨W,⟨m0,w0⟩,turn⟩:=R s2.heap.objs.size (I2.hok.fresh (Nat.le_refl _))
 have lt2:∀b∈fp,b < s2.heap.objs.size:=fun b hb=>by
  obtain⟨o,ho,_⟩:=T.obj _ _ st2 b hb
  exact Heap.lt_size ho
 have I3:Inv X pins σ (upd H2 s2.heap.objs.size (.lst [])) { s2 with heap:=s2.heap.push { cls:=.type "list", dict:=none,data:=.seq ([]:List Value).toArray } } :=
  I2.laid (t':=s2.toks) (fun b u e=>Heap.get?_push_of_some _ e) (Nat.le_refl _) ⟨Nat.zero_le _,[],0,.nil,Heap.get?_push_size _ rfl⟩
 generalize hs3:({ s2 with heap:=s2.heap.push { cls:=.type "list", dict:=none,data:=.seq ([]:List Value).toArray } }:Shared)=s3 at I3
 have es3:s3.heap=s2.heap.push { cls:=.type "list", dict:=none,data:=.seq ([]:List Value).toArray }:=by rw[← hs3]
 rw[← es3]at hns₁ hsb₁ ⊢
 have keep3:∀b o,s3.heap.get? b=some o->h₁.get? b=some o:=fun b o e=>hsb₁.extBut b o (Nat.ne_of_lt (Heap.lt_size e)) (Heap.get?_push_of_some _ e)
 have lt3:∀b∈fp,b < s3.heap.objs.size:=fun b hb=>by rw[es3,Heap.size_push];exact Nat.lt_succ_of_lt (lt2 b hb)
 have f3:∀b∈fp,W4 X pins (upd H2 s2.heap.objs.size (.lst [])) b:=fun b hb=>⟨by rw[A9 (Nat.ne_of_lt (lt2 b hb))];exact(f2 b hb).1,(f2 b hb).2⟩
 generalize hH3:upd H2 s2.heap.objs.size (HO.lst [])=H3 at I3 f3 w0
 have fin3:∀{σ':L2.St}{H':Hp}{pl:List (Addr×Obj)},(∀b∈fp,H' b=none)->(∀p∈pl,False)->∀b∈fp,W4 (D6 X N' scope s3.heap.objs.size s3 H3 fp) pl H' b:=fun{σ' H' pl} hn hp b hb=>by
  refine⟨hn b hb,Nat.ne_of_lt (lt3 b hb),fun z=>?_,.inl hb,fun x c e=>?_,fun p hp'=>?_⟩
  ·rcases List.mem_cons.mp (I3.stkSub b z) with z|z
   ·exact(f3 b hb).2.1 z
   ·exact(f3 b hb).2.2.1 z
  ·have hm:=PySem.mem_of_lookup e
   rcases n8 hm with q|⟨q1,q2⟩
   ·cases q
   ·obtain⟨c',hc'⟩:=I3.ok.has x (S.free _ q1 rfl)
    rw[hc']at q2
    have q2':c=c':=q2
    subst q2'
    exact(f3 b hb).2.2.2.2.1 x c hc'
  ·exact(hp p (by simpa [D6] using hp')).elim
 have toks:∃tk,({ s2 with heap:=h₁,toks:=s2.toks+([]:List (Str×Value)).length }:Shared)={ s3 with heap:=h₁,toks:=tk }:=⟨s2.toks,by rw[← hs3];rfl⟩
 obtain⟨tk,htk⟩:=toks
 have st4:tn 0 h₁:=T.keep 0 s2.heap h₁ st2 fun b hb o e=>keep3 b o (by rw[es3];exact Heap.get?_push_of_some _ e)
 have I4:Inv (D6 X N' scope s3.heap.objs.size s3 H3 fp) [] (ag8 n caps σ) H3 { s3 with heap:=h₁,toks:=tk }:=az3 S I3 f3 lt3 hns₁ keep3
 have loop:codeAny (model X.prog X.w) X.A (.compLoop (.ListComp elt [⟨tgt,iter,ifs,0⟩] scope pos) 0 (.ref it) (.ref s2.heap.objs.size) (compEnvC scope (O9 X.env.cells scope.names []) s3.heap.objs.size X.env)) (RR (.ref s2.heap.objs.size) s3.heap.objs.size) { s3 with heap:=h₁,toks:=tk }:=by
  refine aM7 (fun k s'=>∃i ys σ' H',Inv (D6 X N' scope s3.heap.objs.size s3 H3 fp) [] σ' H' s'/\tn i s'.heap/\(∀b∈fp,H' b=none)/\W i k ys σ' H') ?_ m0 ⟨0,[],_,H3,I4,st4,fun b hb=>(f3 b hb).1,w0⟩
  rintro k s5 ⟨i,ys,σ5,H5,I5,st5,fr5,w5⟩
  have pz:∀p∈([]:List (Addr×Obj)),False:=fun p hp=>by cases hp
  rcases turn i k ys σ5 H5 w5 with⟨stop,qn⟩|⟨go,step⟩
  ·refine wpAny_mono (T.done (D6 X N' scope s3.heap.objs.size s3 H3 fp) rfl rfl rfl hc i [] s5 σ5 H5 (fun _ _=>False) I5 (fin3 (σ':=σ5) fr5 pz) st5 stop) (fun r s6 ⟨hr,I6⟩=>?_) fun _ _ z=>z
   subst hr
   obtain⟨m6,hn6,_⟩:=I6.loc
   refine hRR _ _ _ s6 rfl ⟨m6,hn6,fun h' sb=>⟨H5,aj3 I3 f3 I6 sb,qn⟩⟩ ⟨s3,fp,σ5,H3,H5,rfl,I3,f3,I6,qn⟩
  ·refine wpAny_mono (T.item (D6 X N' scope s3.heap.objs.size s3 H3 fp) rfl rfl rfl hc i [] s5 σ5 H5 (fun _ _=>False) I5 (fin3 (σ':=σ5) fr5 pz) st5 go) (fun r s6 ⟨u,hr,h6⟩=>?_) fun _ _ z=>z
   subst hr
   refine wpAny_mono h6 (fun _ s7 ⟨x,H7,I7,r7,y7,st7,fr7⟩=>?_) fun _ _ z=>z
   have I7':=I7.pinned (fin3 (σ':=σ5) fr7 pz) (T.obj _ _ st7)
   refine wpAny_mono (hg _ _ _ _ _ s7 σ5 H7 x u _ I7' r7 (step x H7 y7)) (fun _ s8 ⟨σ8,H8,I8,q8⟩=>?_) fun _ _ z=>z
   refine wpAny_mono (ht _ _ _ _ _ s8 σ8 H8 _ I8 q8) (fun ok s9 ⟨H9,I9,q9⟩=>?_) fun _ _ z=>z
   have again:∀{σ':L2.St}{H':Hp}{s':Shared},Inv (D6 X N' scope s3.heap.objs.size s3 H3 fp) ([]++ad3 fp s7.heap) σ' H' s'->Inv (D6 X N' scope s3.heap.objs.size s3 H3 fp) [] σ' H' s'/\tn (i+1) s'.heap/\∀b∈fp,H' b=none:=fun{σ' H' s'} I'=>by
    refine⟨I'.unpinned,T.keep _ _ _ st7 fun b hb o e=>(I'.pin (b,o) (List.mem_append_right _ (List.mem_append_right _ (X4 hb e)))).1,fun b hb=>?_⟩
    obtain⟨o,e,d⟩:=T.obj _ _ st7 b hb
    exact(I'.pin (b,o) (List.mem_append_right _ (List.mem_append_right _ (X4 hb e)))).2.1
   cases ok with
   | false =>
    rw[if_neg Bool.false_ne_true]at q9 ⊢
    obtain⟨m',hm,w'⟩:=q9
    obtain⟨a1,a2,a3⟩:=again I9
    exact⟨m',hm,i+1,ys,σ8,H9,a1,a2,a3,w'⟩
   | true =>
    rw[if_pos rfl]at q9 ⊢
    refine wpAny_mono (he _ _ _ _ _ s9 σ8 H9 _ I9 q9) (fun y s10 ⟨vy,H10,I10,r10,q10,z10,m',hm,w'⟩=>?_) fun _ _ z=>z
    refine wpAny_mono (ah9 (X:=D6 X N' scope s3.heap.objs.size s3 H3 fp) _ s10 σ8 H10 (.ref s2.heap.objs.size) [vy] _ _ (fun v H'=>v=.non/\H'=upd H10 s2.heap.objs.size (.lst (ys++[vy]))) I10 rfl (.cons r10 .nil) ⟨_,ys,vy,rfl,rfl,q10,z10,rfl,rfl⟩) (fun _ s11 ⟨v11,H11,I11,r11,e11,e12⟩=>?_) fun _ _ z=>z
    subst e12
    obtain⟨a1,a2,a3⟩:=again I11
    exact⟨m',hm,i+1,ys++[vy],σ8,_,a1,a2,a3,w'⟩
 show codeAny (model X.prog X.w) X.A _ _ ({ s2 with heap:=h₁,toks:=s2.toks+([]:List (Str×Value)).length }:Shared)
 rw[htk]
 exact codeAny_compStart_list loop (T.self _ _ _ _ _ st4 loop)
end
section
variable {X:Cx}
noncomputable def tgJ(K:PySem.W.Frag) (f:D->Rho->Option Rho):TG:=fun v σ H Q=>∃d ρ ρ' H0 Hf,f d ρ=some ρ'/\C0 Hf H/\Slots K H0 ρ σ H Hf/\Rep K Hf d v/\∀σ',Slots K H0 ρ' σ' H Hf->Q σ' H
noncomputable def JG(X:Cx) (tg:Expr) (f:D->Rho->Option Rho):Prop:=PG X tg (tgJ X.K f)
noncomputable def bN6(K:PySem.W.Frag) (f:List D->Rho->Option Rho):TGs:=fun vs σ H Q=>∃ds ρ ρ' H0 Hf,f ds ρ=some ρ'/\C0 Hf H/\Slots K H0 ρ σ H Hf/\Reps K Hf ds vs/\∀σ',Slots K H0 ρ' σ' H Hf->Q σ' H
noncomputable def JGs(X:Cx) (tg:List Expr) (f:List D->Rho->Option Rho):Prop:=PGs X tg (bN6 X.K f)
noncomputable def J5(i:Nat):D->Rho->Option Rho:=fun d ρ=>some (ρ.set i (some (.val d)))
theorem bj1(i:Nat) (hN:X.N.Nodup) (hi:X.N[i]? = some x:=by rfl) (hx:Loc X.env.scope x:=by first|exact Or.inl rfl|exact Or.inr rfl) (hf:X.fn x=true\/X.env.scope.names.lookup x=some .local:=by first|exact .inl rfl|exact .inr rfl):JG X (.Name x pos) (J5 i):=by
 intro pins s σ H v u Q I r ⟨d,ρ,ρ',H0,Hf,e,ss,sl,rp,k⟩
 cases e
 exact aD7 hN hi hx hf pins s σ H v u Q I r (k _ (sl.set rp))
noncomputable def O6:List D->Rho->Option Rho:=fun ds ρ=>match ds with
 | []=>some ρ
 | _=>none
noncomputable def B2(f:D->Rho->Option Rho) (g:List D->Rho->Option Rho):List D->Rho->Option Rho:=fun ds ρ=>match ds with
 | d::r=>(f d ρ).bind fun ρ'=>g r ρ'
 | []=>none
theorem bj0:JGs X [] O6:=by
 intro pins s σ H vs us Q I r ⟨ds,ρ,ρ',H0,Hf,e,ss,sl,rp,k⟩
 cases ds with
 | nil=>cases e;exact bf2 pins s σ H vs us Q I r ⟨rp,k _ sl⟩
 | cons d ds=>cases e
theorem aW4(h1:JG X e f) (h2:JGs X es g) (hs:(assignEach (e::es) X.env).map (·.2)=assign e X.env::(assignEach es X.env).map (·.2):=by rfl):JGs X (e::es) (B2 f g):=by
 intro pins s σ H vs us Q I r ⟨ds,ρ,ρ',H0,Hf,e,ss,sl,rp,k⟩
 cases ds with
 | nil=>cases e
 | cons d ds =>
  obtain⟨ρ1,e1,e2⟩:=xbm e
  obtain⟨v,vr,rfl,q1,q2⟩:=rp
  exact aS5 h1 h2 hs pins s σ H _ us Q I r ⟨v,vr,rfl,d,ρ,ρ1,H0,Hf,e1,ss,sl,q1,fun σ' sl'=>⟨ds,ρ1,ρ',H0,Hf,e2,ss,sl',q2,k⟩⟩
noncomputable def O2(n:Nat) (g:List D->Rho->Option Rho):D->Rho->Option Rho:=fun d ρ=>match d with
 | .tuple ds=>if ds.length=n then g ds ρ else none
 | _=>none
theorem by9(h:JGs X es g) (hc:X.calm=true:=by rfl) (hn:(assignEach es X.env).length=n:=by rfl) (hst:(assignEach es X.env).findIdx? (·.1)=none:=by rfl):JG X (.Tuple es k pos) (O2 n g):=by
 intro pins s σ H v u Q I r ⟨d,ρ,ρ',H0,Hf,e,ss,sl,rp,kk⟩
 cases d with
 | tuple ds =>
  simp only[O2]at e
  split at e
  ·rename_i hl
   obtain⟨a,vs,rfl,q1,q2⟩:=rp
   exact bt7 hc h hn hst pins s σ H _ u Q I r ⟨a,vs,rfl,B1 ss q1,by rw[q2.length,hl],ds,ρ,ρ',H0,Hf,e,ss,sl,q2,kk⟩
  ·cases e
 | _=>cases e
noncomputable def aA8(K:PySem.W.Frag) (J:It) (ds:List D) (Hf1:Hp):Prop:=∀(i:Nat) (H Hf:Hp),C0 Hf1 Hf->C0 Hf H->(ds.length<=i->J.stop i H)/\∀d,ds[i]? = some d->J.go i H/\∀x H',J.yld i H x H'->∃Hf',Grow H Hf H' Hf'/\Rep K Hf' d x
noncomputable def tiJ(K:PySem.W.Frag) (ρ:Rho) (ds:List D):TI:=fun σ H R=>∃H0 Hf,C0 Hf H/\Slots K H0 ρ σ H Hf/\∀J H' Hf',Grow H Hf H' Hf'->aA8 K J ds Hf'->R J H'
noncomputable def JI(X:Cx) (tg iter:Expr) (f:Rho->Option (List D)):Prop:=∀ρ ds,f ρ=some ds->PI X tg iter (tiJ X.K ρ ds)
theorem ax4(h:PI X tg iter t) (i:∀σ H R,t' σ H R->t σ H R):PI X tg iter t':=fun pins s σ H R I q=>h pins s σ H R I (i σ H R q)
noncomputable def U6(f:DE):Rho->Option (List D):=fun ρ=>(f ρ).bind fun d=>match d with
 | .list ds=>some ds
 | .tuple ds=>some ds
 | _=>none
theorem ay2(h:JE X e f):JI X tg e (U6 f):=fun ρ ds q=>by
 obtain⟨d,e1,e2⟩:=xbm q
 cases d with
 | list xs =>
  cases e2
  refine ax4 (bf1 (h ρ _ e1)) fun σ H R ⟨H0,Hf,s,sl,k⟩=>⟨H0,Hf,s,sl,fun v H1 Hf1 g1 ⟨a,vs,h1,h2,h3⟩=>⟨a,h1,⟨vs,J4 g1.sub h2⟩,k _ H1 Hf1 g1 ?_⟩⟩
  intro i H' Hf' sa sb
  have q':SqL X.K H' a vs:=J4 (sa.trans sb) h2
  refine⟨fun hi=>⟨vs,q',by rw[h3.length];exact hi⟩,fun d hd=>?_⟩
  obtain⟨v,w1,w2⟩:=h3.get hd
  refine⟨⟨vs,v,q',w1⟩,fun x H'' hy=>?_⟩
  obtain⟨rfl,hy⟩:=hy
  have:=hy vs q'
  rw[w1]at this;cases this
  exact⟨Hf',Grow.refl sb,w2.mono sa⟩
 | tuple xs =>
  cases e2
  refine ax4 (aS4 (h ρ _ e1)) fun σ H R ⟨H0,Hf,s,sl,k⟩=>⟨H0,Hf,s,sl,fun v H1 Hf1 g1 ⟨a,vs,h1,h2,h3⟩=>⟨a,h1,⟨vs,B1 g1.sub h2⟩,k _ H1 Hf1 g1 ?_⟩⟩
  intro i H' Hf' sa sb
  have q':SqT X.K H' a vs:=B1 (sa.trans sb) h2
  refine⟨fun hi=>⟨vs,q',by rw[h3.length];exact hi⟩,fun d hd=>?_⟩
  obtain⟨v,w1,w2⟩:=h3.get hd
  refine⟨⟨vs,v,q',w1⟩,fun x H'' hy=>?_⟩
  obtain⟨rfl,hy⟩:=hy
  have:=hy vs q'
  rw[w1]at this;cases this
  exact⟨Hf',Grow.refl sb,w2.mono sa⟩
 | _=>cases e2
noncomputable def X3(lo hi:Int):List D:=(List.range (hi - lo).toNat).map fun(i:Nat)=>PyData.int (lo+i)
theorem ak8{K:PySem.W.Frag}{lo hi:Int}{Hf1:Hp}:aA8 K (Itr lo (hi - lo).toNat) (X3 lo hi) Hf1:=by
 intro i H Hf sa sb
 have hl:(X3 lo hi).length=(hi - lo).toNat:=by simp[X3]
 refine⟨fun h=>by rw[hl]at h;exact h,fun d hd=>?_⟩
 have hi':i < (hi - lo).toNat:=by
  have:=(List.getElem?_eq_some_iff.mp hd).1
  rw[hl]at this;exact this
 refine⟨hi',fun x H' hy=>?_⟩
 obtain⟨e1,e2⟩:=hy
 subst e1 e2
 have:d=.int (lo+i):=by
  have:(X3 lo hi)[i]? = some (.int (lo+i)):=by simp[X3,hi']
  rw[hd]at this;cases this;rfl
 subst this
 exact⟨Hf,Grow.refl sb,rfl⟩
noncomputable def U0(f:DE):Rho->Option (List D):=fun ρ=>(f ρ).bind fun d=>match d with
 | .int j=>if -(2 ^ 62)<=j/\j < 2 ^ 62 then some (X3 0 j) else none
 | _=>none
theorem aL2{tg e:Expr}{f:DE}{p pos:Pos}(hg:Gl X "range") (hm:X.mg "range" = none) (h:JE X e f) (hs:starEach [e] X.env=[(false,eval e X.env)]:=by rfl):JI X tg (.Call (.Name "range" p) [e] [] pos) (U0 f):=fun ρ ds q=>by
 obtain⟨d,e1,e2⟩:=xbm q
 split at e2
 ·split at e2
  ·rename_i j c
   cases e2
   refine ax4 (aJ9 hg hm (J8 (h ρ _ e1) N9 hs) hs) fun σ H R ⟨H0,Hf,s,sl,k⟩=>⟨H0,Hf,s,sl,fun v H1 Hf1 g1 r=>⟨j,by rw[show v=_ from r],c.1,c.2,k _ H1 Hf1 g1 ?_⟩⟩
   have:=ak8 (K:=X.K) (lo:=0) (hi:=j) (Hf1:=Hf1)
   rw[Int.sub_zero]at this
   exact this
  ·cases e2
 ·cases e2
theorem Grow.nofr(g:Grow H Hf H' Hf') (h:H a=some o) (n:Hf a=none):Hf' a=none:=by
 cases q:Hf' a with
 | none=>rfl
 | some u =>
  rcases g.new a (by rw[q];simp) with z|z
  ·exact absurd n z
  ·rw[h]at z;cases z
noncomputable def u7(n:Nat) (caps:List Nat) (ρ:Rho):Rho:=List.replicate n none++caps.map fun j=>match ρ[j]? with
 | some (some (.val d))=>some (.val d)
 | _=>none
noncomputable def Y2(g:D->Rho->Option Rho) (c:Rho->Option Bool) (e:DE):List D->Rho->Option (List D)
 | [],_=>some []
 | d::ds,ρ=>(g d ρ).bind fun ρ1=>(c ρ1).bind fun b=>if b then(e ρ1).bind fun y=>(Y2 g c e ds ρ1).map fun r=>y::r else Y2 g c e ds ρ1
noncomputable def J7(n:Nat) (caps:List Nat) (src:Rho->Option (List D)) (g:D->Rho->Option Rho) (c:Rho->Option Bool) (e:DE):Rho->Option (List D):=fun ρ=>(src ρ).bind fun ds=>if ds.length<=16777216 then Y2 g c e ds (u7 n caps ρ) else none
noncomputable def ah3(K:PySem.W.Frag) (c:Rho->Option Bool):TT:=fun σ H Q=>∃ρ b,c ρ=some b/\∃H0 Hf,C0 Hf H/\Slots K H0 ρ σ H Hf/\∀H' Hf',Grow H Hf H' Hf'->Q b H'
noncomputable def aB3(K:PySem.W.Frag) (e:DE):TE:=fun σ H Q=>∃ρ d,e ρ=some d/\tJ K ρ (fun _ v _ Hf=>Rep K Hf d v) σ H Q
noncomputable def JTs(X:Cx) (ifs:List Expr) (c:Rho->Option Bool):Prop:=PTs X ifs (ah3 X.K c)
noncomputable def L0:Rho->Option Bool:=fun _=>some true
theorem bh9:JTs X [] L0:=fun pins s σ H Q I ⟨ρ,b,e,H0,Hf,ss,sl,k⟩=>by
 cases e
 exact be3 pins s σ H Q I (k H Hf (Grow.refl ss))
theorem bh8(h:JT X e c):JTs X [e] c:=fun pins s σ H Q I ⟨ρ,b,e,H0,Hf,ss,sl,k⟩=>be2 (h ρ b e) pins s σ H Q I ⟨H0,Hf,ss,sl,k⟩
theorem az6{K:PySem.W.Frag}{n:Nat}{caps:List Nat}{H0 H H1 H' Hf:Hp}{ρ:Rho}{σ:L2.St}(sl:Slots K H0 ρ σ H Hf):Slots K H1 (u7 n caps ρ) (ag8 n caps σ) H' Hf:=by
 have noown:∀(i:Nat) (ds:List D),(u7 n caps ρ)[i]?≠some (some (.own ds)):=fun i ds h=>by
  unfold u7 at h
  rcases Nat.lt_or_ge i n with q|q
  ·rw[List.getElem?_append_left (by simpa using q),List.getElem?_replicate,if_pos q]at h;cases h
  ·rw[List.getElem?_append_right (by simpa using q),List.getElem?_map]at h
   cases hj:caps[i - (List.replicate n (none:Option B)).length]? with
   | none=>rw[hj]at h;cases h
   | some j =>
    rw[hj]at h
    simp only[Option.map_some,Option.some.injEq]at h
    split at h<;>cases h
 refine⟨by simp[u7,ag8],fun i b e=>?_,fun i j ds es a h1=>(noown i ds h1).elim⟩
 unfold u7 at e
 unfold ag8
 rcases Nat.lt_or_ge i n with q|q
 ·rw[List.getElem?_append_left (by simpa using q),List.getElem?_replicate,if_pos q]at e;cases e
 ·rw[List.getElem?_append_right (by simpa using q),List.getElem?_map]at e
  rw[List.getElem?_append_right (by simpa using q),List.getElem?_map]
  simp only[List.length_replicate]at e ⊢
  cases hj:caps[i - n]? with
  | none=>rw[hj]at e;cases e
  | some j =>
   rw[hj]at e
   simp only[Option.map_some,Option.some.injEq]at e ⊢
   split at e
   ·rename_i d hd
    cases e
    obtain⟨v,h1,h2⟩:=sl.is j _ hd
    exact⟨v,by rw[h1];rfl,h2⟩
   ·cases e
theorem h9{K:PySem.W.Frag}{n:Nat}{caps:List Nat}{ρ:Rho}{src:Rho->Option (List D)}{g:D->Rho->Option Rho}{c:Rho->Option Bool}{e:DE}{out:List D}(h:J7 n caps src g c e ρ=some out) :
  ∃ds,src ρ=some ds/\∀σ H Q,tJ K ρ (fun H v H' Hf'=>∃a vs,v=.ref a/\H a=none/\H' a=some (.lst vs)/\Hf' a=none/\Reps K Hf' out vs) σ H Q->aO2 n caps (tiJ K ρ ds) (tgJ K g) (ah3 K c) (aB3 K e) σ H Q:=by
 obtain⟨ds,e1,e2⟩:=xbm h
 split at e2
 ·rename_i hz
  refine⟨ds,e1,fun σ H Q ⟨H0,Hf,s,sl,k⟩=>⟨H0,Hf,s,sl,fun J H1 Hf1 g1 Y Dd hD=>?_⟩⟩
  refine⟨fun i m ys σ' H'=>m=ds.length - i/\i<=ds.length/\∃Hf' ρ' o1 o2,Grow H1 Hf1 H' Hf'/\H' Dd=some (.lst ys)/\Hf' Dd=none/\Slots K (upd H1 Dd (.lst [])) ρ' σ' H' Hf'/\Reps K Hf' o1 ys/\o1.length<=i/\Y2 g c e (ds.drop i) ρ'=some o2/\o1++o2=out,
   ⟨ds.length,by simp,Nat.zero_le _,Hf1,u7 n caps ρ,[],out,Grow.made g1.sub hD,A6,g1.sub.free hD,az6 (sl.grow g1),rfl,Nat.le_refl _,by simpa using e2,rfl⟩,?_⟩
  rintro i m ys σ' H' ⟨rfl,hi,Hf',ρ',o1,o2,gr,hd1,hd2,sl',rp,ho,ec,eo⟩
  obtain⟨Ys,Yg⟩:=Y i H' Hf' gr.ext gr.sub
  rcases Nat.lt_or_ge i ds.length with hlt|hge
  ·right
   obtain⟨go,yl⟩:=Yg ds[i] (by simp[hlt])
   refine⟨go,fun x H2 hy=>?_⟩
   obtain⟨Hf2,g2,r2⟩:=yl x H2 hy
   rw[List.drop_eq_getElem_cons hlt]at ec
   obtain⟨ρ1,c1,ec⟩:=xbm ec
   obtain⟨b,c2,ec⟩:=xbm ec
   refine⟨ds[i],ρ',ρ1,_,Hf2,c1,g2.sub,sl'.grow g2,r2,fun σ3 sl3=>⟨ρ1,b,c2,_,Hf2,g2.sub,sl3,fun H4 Hf4 g4=>?_⟩⟩
   have gr4:=(gr.trans g2).trans g4
   have hd4:H4 Dd=some (.lst ys):=g4.big _ _ (g2.big _ _ hd1)
   have hf4:Hf4 Dd=none:=(g2.trans g4).nofr hd1 hd2
   have rp4:=rp.mono (g2.trans g4).ext
   cases b with
   | false =>
    rw[if_neg Bool.false_ne_true]at ec
    refine ae5 ?_
    exact⟨ds.length - (i+1),by grind,rfl,hlt,Hf4,ρ1,o1,o2,gr4,hd4,hf4,sl3.grow g4,rp4,by grind,ec,eo⟩
   | true =>
    rw[if_pos rfl]at ec
    refine ae4 ?_
    obtain⟨y,c3,ec⟩:=xbm ec
    obtain⟨o3,c4,rfl⟩:=xmo ec
    refine⟨ρ1,y,c3,_,Hf4,g4.sub,sl3.grow g4,fun v H5 Hf5 g5 r5=>⟨g5.big _ _ hd4,?_,?_⟩⟩
    ·rw[rp.length,sizeLine_eq];grind
    ·have hf5:Hf5 Dd=none:=g5.nofr hd4 hf4
     have gr5:=gr4.trans g5
     refine⟨ds.length - (i+1),by grind,rfl,hlt,Hf5,ρ1,o1++[y],o3,⟨fun b u q=>?_,fun b u q=>?_,gr5.ext,gr5.new⟩,A6,hf5,?_,(rp4.mono g5.ext).append ⟨v,[],rfl,r5,rfl⟩,by simp;grind,c4,by simp[← eo]⟩
     ·rw[A9 (A7 q hD)];exact gr5.big b u q
     ·rw[A9 (A7 q hf5)];exact gr5.sub b u q
     ·have sl5:=(sl3.grow g4).grow g5
      refine⟨sl5.len,fun j bb q=>?_,sl5.apart⟩
      obtain⟨w,q1,q2⟩:=sl5.is j bb q
      refine⟨w,q1,?_⟩
      cases bb with
      | val d=>exact q2
      | exc C=>exact q2
      | own dd =>
       obtain⟨a,vs,z1,z2,z3,z4,z5⟩:=q2
       have ne:a≠Dd:=fun z=>by rw[z,A6]at z4;cases z4
       exact⟨a,vs,z1,by rw[A9 ne];exact z2,z3,z4,z5⟩
  ·left
   have:i=ds.length:=by grind
   subst this
   rw[List.drop_length]at ec
   cases ec
   rw[List.append_nil]at eo
   subst eo
   exact⟨Ys (Nat.le_refl _),k _ H' Hf' (g1.trans gr) ⟨Dd,ys,rfl,g1.big.free hD,hd1,hd2,rp⟩⟩
 ·cases e2
end
section
variable {X:Cx}
noncomputable def ab4(N N':List Str) (n:Nat) (caps:List Nat) (sc scope:Scope):Bool :=
 (match scope.kind with | .function=>true|_=>false) &&
 (scope.names.all fun y=>(match y.2 with | .cell=>false | .local=>scope.names.lookup y.1==some .local | .free=>sc.names.lookup y.1==some .cell || sc.names.lookup y.1==some .free|_=>true)) &&
 (N'.length==n+caps.length) &&
 ((List.range caps.length).all fun i=>match caps[i]? with
  | some j=>(match N[j]? with|some x=>N'[n+i]? == some x&&scope.names.lookup x==some .free|none=>false)
  | none=>true)
theorem aM8(h:ab4 N N' n caps sc scope=true) (hN:X.N=N) (hS:X.env.scope=sc):CompSc X N' n caps scope:=by
 subst hN hS
 unfold ab4 at h
 simp only[Bool.and_eq_true,List.all_eq_true]at h
 obtain⟨⟨⟨h1,h2⟩,h3⟩,h4⟩:=h
 refine⟨?_,fun y hy e=>?_,fun y hy e=>?_,fun y hy e=>?_,by simpa using h3,fun i j e=>?_⟩
 ·cases q:scope.kind<;>rw[q]at h1<;>first|rfl|cases h1
 ·have:=h2 y hy
  rw[e]at this;cases this
 ·have:=h2 y hy
  rw[e]at this;simpa using this
 ·have:=h2 y hy
  rw[e]at this;simpa using this
 ·have hi:i < caps.length:=(List.getElem?_eq_some_iff.mp e).1
  have:=h4 i (by simpa using hi)
  rw[e]at this
  simp only at this
  cases q:X.N[j]? with
  | none=>rw[q]at this;cases this
  | some x =>
   rw[q]at this
   simp only[Bool.and_eq_true]at this
   exact⟨x,rfl,by simpa using this.1,by simpa using this.2⟩
theorem aG4(S:CompSc X N' n caps scope) (I:Inv X pins σ H s):closureFor scope X.env=pure (O9 X.env.cells scope.names []) :=
 bm3 fun y hy e=>I.ok.has y.1 (S.free y hy e)
theorem bi9(S:CompSc X N' n caps scope) (hx:∀e s,X.xe e s->False)
  (hi:JI X tgt iter src) (hg:∀C s0 H0 ex,JG (D6 X N' scope C s0 H0 ex) tgt g) (ht:∀C s0 H0 ex,JTs (D6 X N' scope C s0 H0 ex) ifs c) (he:∀C s0 H0 ex,JE (D6 X N' scope C s0 H0 ex) elt e)
  (hc:X.calm=true:=by rfl) (hs:∀x,foldedSetIterable iter X.env x=pure x:=by intro _;rfl):JN X (.ListComp elt [⟨tgt,iter,ifs,0⟩] scope pos) (J7 n caps src g c e):=by
 intro ρ out h
 obtain⟨ds,e1,k⟩:=h9 (K:=X.K) h
 intro pins s σ H Q I t
 rw[eval_ListComp]
 refine wpAny_comprehension_free (use:=none) rfl hs (aG4 S I) S.kind S.loc (au8 (RR:=fun acc C=>compPost (model X.prog X.w) X.A X.xe none (EP X pins σ Q) acc C) S hx hc (hi ρ ds e1) (g:=tgJ X.K g) (tc:=ah3 X.K c) (te:=aB3 X.K e) hg ht (fun C s0 H0 ex pins s σ H Q I ⟨ρ,d,e,t⟩=>he C s0 H0 ex ρ d e pins s σ H Q I t) I (k σ H Q t) ?_)
 intro Dd C r s' hr ⟨m,hn,kk⟩ _
 subst hr
 exact⟨m,hn,fun h' sb=>let⟨H',I',q⟩:=kk h' sb;⟨.ref Dd,H',I',rfl,q⟩⟩
theorem ad1(S:CompSc X N' n caps scope) (hx:∀e s,X.xe e s->False) (hc:X.calm=true)
  (hN:X.N.Nodup) (hi:X.N[i]? = some x) (hl:X.env.scope.names.lookup x=some .local) (hsrc:PI X tgt iter wi) (hg:∀C s0 H0 ex,PG (D6 X N' scope C s0 H0 ex) tgt g) (ht:∀C s0 H0 ex,PTs (D6 X N' scope C s0 H0 ex) ifs tc) (he:∀C s0 H0 ex,PE (D6 X N' scope C s0 H0 ex) elt te)
  (hsw:swapsWith (.ListComp elt [⟨tgt,iter,ifs,0⟩] scope pos) (some (.Name x pos')) spos.line X.env=pure true) (hs:∀x,foldedSetIterable iter X.env x=pure x) :
  PS X (.Assign [.Name x pos'] (.ListComp elt [⟨tgt,iter,ifs,0⟩] scope pos) spos) (fun En σ H=>aO2 n caps wi g tc te σ H fun v H'=>En.nx (σ.set i (some v)) H'):=by
 intro pins s σ H En I h
 rw[exec_Assign_Name_used _ _ _ _ hsw]
 refine wpAny_bind (wpAny_standAt (wpAny_bind ?_))
 show wpAny _ X.A (do let _ ← comprehension (.ListComp elt [⟨tgt,iter,ifs,0⟩] scope pos) scope X.env _ (newList []) false (eval iter X.env) (some (assign (.Name x pos') X.env))) _ _ s
 refine wpAny_bind (wpAny_mono (wpAny_comprehension_free (use:=some (assign (.Name x pos') X.env)) (Q:=fun _ s'=>SP X pins En .next s') rfl hs (aG4 S I) S.kind S.loc
  (au8 (RR:=fun acc C=>compPost (model X.prog X.w) X.A X.xe (some (assign (.Name x pos') X.env)) (fun _ s'=>SP X pins En .next s') acc C) S hx hc hsrc hg ht he I h ?_)) (fun _ s' hq=>wpAny_pure (wpAny_pure hq)) fun _ _ z=>z)
 intro Dd C r s' hr _ ⟨s2,fp,σ',H2,H',eC,I2,f2,I',q⟩
 subst hr eC
 have IX:Inv X pins σ H' s':=aj3 (h':=s'.heap) I2 f2 I' (Heap.SameBut.refl ..)
 obtain⟨mC,hnC,_⟩:=I'.loc
 have hCL:s2.heap.objs.size≠X.env.locals:=fun z=>by
  have:=I2.lt
  rw[← z]at this
  exact Nat.lt_irrefl _ this
 show wpAny _ X.A (assign (.Name x pos') X.env (.ref Dd)) _ _ _
 refine wpAny_assign_Name (ah5 (v:=.ref Dd) IX hN hi (.inl hl) rfl (fun s3 I3 ⟨a,sb,ha⟩=>?_) (.inr hl))
 have hCa:s2.heap.objs.size≠a:=fun z=>by
  rcases ha with ha|ha
  ·exact hCL (z.trans ha)
  ·obtain⟨v,q'⟩:=I2.cell x a ha
   have:=q'.lt
   rw[← z]at this
   exact Nat.lt_irrefl _ this
 refine⟨mC,hnC.sameBut sb hCa,fun h' sb'=>?_⟩
 refine⟨_,H',I3.turned (t':=s3.toks) (it:=s2.heap.objs.size) (fun b o hb e=>sb'.extBut b o hb e) I'.free hCL (.inr I2.sz) (fun y c e z=>?_) (fun p hp z=>?_),q⟩
 ·obtain⟨v,q'⟩:=I2.cell y c e
  have:=q'.lt
  rw[z]at this
  exact Nat.lt_irrefl _ this
 ·have:=Heap.lt_size (I2.pin p hp).1
  rw[z]at this
  exact Nat.lt_irrefl _ this
noncomputable def d3(i:Nat) (f:Rho->Option (List D)):DS:=fun ρ=>(f ρ).map fun ds=>.nx (ρ.set i (some (.val (.list ds))))
theorem bi5(i:Nat) (hN:X.N.Nodup) (S:CompSc X N' n caps scope) (hx:∀e s,X.xe e s->False)
  (hi:JI X tgt iter src) (hg:∀C s0 H0 ex,JG (D6 X N' scope C s0 H0 ex) tgt g) (ht:∀C s0 H0 ex,JTs (D6 X N' scope C s0 H0 ex) ifs c) (he:∀C s0 H0 ex,JE (D6 X N' scope C s0 H0 ex) elt e)
  (hi2:X.N[i]? = some x:=by rfl) (hl:X.env.scope.names.lookup x=some .local:=by rfl) (hsw:swapsWith (.ListComp elt [⟨tgt,iter,ifs,0⟩] scope pos) (some (.Name x pos')) spos.line X.env=pure true:=by rfl)
  (hc:X.calm=true:=by rfl) (hs:∀x,foldedSetIterable iter X.env x=pure x:=by intro _;rfl):JS X (.Assign [.Name x pos'] (.ListComp elt [⟨tgt,iter,ifs,0⟩] scope pos) spos) (d3 i (J7 n caps src g c e)):=fun ρ fl q H0 Hf0=>by
 obtain⟨out,e1,e2⟩:=xmo q
 subst e2
 obtain⟨ds,e3,k⟩:=h9 (K:=X.K) e1
 refine N8 (ad1 S hx hc hN hi2 hl (hi ρ ds e3) (g:=tgJ X.K g) (tc:=ah3 X.K c) (te:=aB3 X.K e) hg ht (fun C s0 H0 ex pins s σ H Q I ⟨ρ,d,e,t⟩=>he C s0 H0 ex ρ d e pins s σ H Q I t) hsw hs) fun En σ H ⟨Hf,a,ee⟩=>k σ H _ ⟨H0,Hf,a.gr.sub,a.sl,fun v H' Hf' gg ⟨p,vs,z1,z2,z3,z4,z5⟩=>?_⟩
 subst z1
 have g2:=gg.freeze z3 z4 z2
 exact ee _ H' _ ⟨a.gr.trans g2,(a.sl.grow g2).set ⟨p,vs,rfl,SqL.of A6,z5.mono (B8 z4)⟩⟩ g2.ext
theorem bx7{kt k2 pt2} (hN:X.N.Nodup) (ha:JA X [a,b] f) (hw:swappedStores [.Tuple [.Name x px,.Name y py] kt pt] (.Tuple [a,b] k2 pt2) X.env=pure (some [x,y])) (hij:i≠j)
  (hi:X.N[i]? = some x:=by rfl) (hj:X.N[j]? = some y:=by rfl) (hx:X.env.scope.names.lookup x=some .local:=by rfl) (hy:X.env.scope.names.lookup y=some .local:=by rfl) (hc:X.calm=true:=by rfl)
  (hs:swapsWithSole [.Tuple [.Name x px,.Name y py] kt pt] (.Tuple [a,b] k2 pt2) pos.line X.env=pure false:=by rfl):JS X (.Assign [.Tuple [.Name x px,.Name y py] kt pt] (.Tuple [a,b] k2 pt2) pos) (al8 i j f):=fun ρ fl q H0 Hf0=>by
 obtain⟨ds,e1,e2⟩:=xbm q
 split at e2
 ·cases e2
  refine N8 (bt4 hc hN hi hj hij hx hy (fun pos pins s σ H Q I t=>ha.run ρ _ e1 pos pins s σ H Q I t) hw hs) fun En σ H ⟨Hf,at',e⟩=>⟨H0,Hf,at'.gr.sub,at'.sl,fun vs H' Hf' gg rp=>?_⟩
  obtain⟨v,r,rfl,r1,w,r',rfl,r2,r3⟩:=rp
  cases r3
  exact⟨v,w,rfl,e _ H' Hf' ⟨at'.gr.trans gg,((at'.sl.grow gg).set r1).set r2⟩ gg.ext⟩
 ·cases e2
noncomputable def aJ4(f:DE) (g:D->Rho->Option Rho):DS:=fun ρ=>(f ρ).bind fun d=>(g d ρ).map Fl.nx
theorem aV9(he:JE X e f) (hg:JG X tg g) (hs:swapsWithSole [tg] e pos.line X.env=pure false:=by rfl) (hw:swappedStores [tg] e X.env=pure none:=by rfl)
  (h1:(assignEach [tg] X.env).map (·.2)=[assign tg X.env]:=by rfl):JS X (.Assign [tg] e pos) (aJ4 f g):=fun ρ fl q H0 Hf0=>by
 obtain⟨d,e1,e2⟩:=xbm q
 obtain⟨ρ',e3,e4⟩:=xmo e2
 subst e4
 exact N8 (bt6 (he ρ d e1) hg hs hw h1) fun En σ H ⟨Hf,a,ee⟩=>⟨H0,Hf,a.gr.sub,a.sl,fun v H' Hf' gg r=>⟨d,ρ,ρ',H0,Hf',e3,gg.sub,a.sl.grow gg,r,fun σ' sl'=>ee σ' H' Hf' ⟨a.gr.trans gg,sl'⟩ gg.ext⟩⟩
noncomputable def aP9(i:Nat) (f:Rho->Option (List D)):DS:=fun ρ=>(f ρ).map fun ds=>.nx (ρ.set i (some (.own ds)))
theorem Slots.setOwn{K:PySem.W.Frag}{H0 H H' Hf Hf':Hp}{ρ:Rho}{σ:L2.St}{i:Nat}{ds:List D}{a:Addr}{vs:List V}(s:Slots K H0 ρ σ H Hf) (g:Grow H Hf H' Hf') (n0:H0 a=none) (n:H a=none) (h:H' a=some (.lst vs)) (nf:Hf' a=none) (r:Reps K Hf' ds vs) :
  Slots K H0 (ρ.set i (some (.own ds))) (σ.set i (some (.ref a))) H' Hf':=by
 have s':=s.grow g
 have old:∀(j:Nat) (es:List D),i≠j->ρ[j]? = some (some (.own es))->σ[j]?≠some (some (.ref a)):=fun j es hj e z=>by
  obtain⟨v,h1,b,us,e1,h2,_⟩:=s.is j _ e
  rw[z]at h1;cases h1;cases e1
  rw[n]at h2;cases h2
 refine⟨by simp[s.len],fun j b e=>?_,fun j k ds1 es b h1 h2 h3 h4=>?_⟩
 ·by_cases q:i=j
  ·subst q
   have hi:i < ρ.length:=by simpa using (List.getElem?_eq_some_iff.mp e).1
   have hi':i < σ.length:=by rw[← s.len];exact hi
   rw[List.getElem?_set_self hi]at e
   cases e
   exact⟨_,List.getElem?_set_self hi',a,vs,rfl,h,nf,n0,r⟩
  ·rw[List.getElem?_set_ne q]at e
   obtain⟨u,h1,h2⟩:=s'.is j b e
   exact⟨u,by rw[List.getElem?_set_ne q];exact h1,h2⟩
 ·by_cases qj:i=j
  ·by_cases qk:i=k
   ·rw[← qj,← qk]
   ·subst qj
    have hi:i < ρ.length:=by simpa using (List.getElem?_eq_some_iff.mp h1).1
    rw[List.getElem?_set_self (by rw[← s.len];exact hi)]at h3
    rw[List.getElem?_set_ne qk]at h2 h4
    cases h3
    exact(old k es qk h2 h4).elim
  ·rw[List.getElem?_set_ne qj]at h1 h3
   by_cases qk:i=k
   ·subst qk
    have hi:i < ρ.length:=by simpa using (List.getElem?_eq_some_iff.mp h2).1
    rw[List.getElem?_set_self (by rw[← s.len];exact hi)]at h4
    cases h4
    exact(old j ds1 qj h1 h3).elim
   ·rw[List.getElem?_set_ne qk]at h2 h4
    exact s.apart j k ds1 es b h1 h2 h3 h4
theorem bx8(i:Nat) (hN:X.N.Nodup) (h:JN X e f) (hi:X.N[i]? = some x:=by rfl) (hx:Loc X.env.scope x:=by first|exact Or.inl rfl|exact Or.inr rfl)
  (hs:swapsWith e (some (.Name x pos')) pos.line X.env=pure false:=by rfl) (hf:X.fn x=true\/X.env.scope.names.lookup x=some .local:=by first|exact .inl rfl|exact .inr rfl):JS X (.Assign [.Name x pos'] e pos) (aP9 i f):=fun ρ fl q H0 Hf0=>by
 obtain⟨ds,e1,e2⟩:=xmo q
 subst e2
 refine N8 (ax1 hN hi hx (h ρ ds e1) hs hf) fun En σ H ⟨Hf,a,e⟩=>⟨H0,Hf,a.gr.sub,a.sl,fun v H' Hf' g ⟨p,vs,z1,z2,z3,z4,z5⟩=>?_⟩
 subst z1
 exact e _ H' Hf' ⟨a.gr.trans g,a.sl.setOwn g (a.gr.big.free z2) z2 z3 z4 z5⟩ g.ext
noncomputable def bs8(i:Nat) (f:DE):DS:=fun ρ=>match ρ[i]? with
 | some (some (.own ds))=>if ds.length < 16777216 then(f ρ).map fun d=>.nx (ρ.set i (some (.own (ds++[d])))) else none
 | _=>none
theorem by3(i:Nat) (h:JE X e f) (hN:X.N[i]? = some x:=by rfl) (hv:Vis X.env.scope x:=by first|exact Or.inl rfl|exact Or.inr (Or.inl rfl)|exact Or.inr (Or.inr rfl)) (hd:(x==("__debug__" : Str))=false:=by decide)
  (hcd:(x==("__classdict__" : Str))=false:=by decide) (hbase:attributeBase (.Name x p) "append" X.env (eval (.Name x p) X.env)=eval (.Name x p) X.env:=by rfl)
  (hfew:((backTo cpos (starEach [e] X.env)).all (fun x=>!x.1)&&(backToKw cpos (keywordEach [] X.env)).all (fun x=>x.1.isSome)
   && decide (([e]:List Expr).length+([]:List Keyword).length+(if([]:List Keyword).isEmpty then 0 else 1) < 30))=true:=by rfl)
  (hline:(apos.endLine==cpos.line)=true:=by rfl) (hs:starEach [e] X.env=[(false,eval e X.env)]:=by rfl) (hsw:swapsWith (.Call (.Attribute (.Name x p) "append" apos) [e] [] cpos) none pos.line X.env=pure false:=by rfl) :
  JS X (.Expr (.Call (.Attribute (.Name x p) "append" apos) [e] [] cpos) pos) (bs8 i f):=fun ρ fl q H0 Hf0=>by
 unfold bs8 at q
 split at q
 ·rename_i ds eo
  split at q
  ·rename_i hz
   obtain⟨d,e1,e2⟩:=xmo q
   subst e2
   refine N8 (am5 (aD8 PySem.F.plainAttrs_list PySem.F.slot_list_append PySem.F.type_list_append ah9 (S3 hN hv hd hcd) (J8 (h ρ d e1) N9 hs) hbase hfew hline hs) hsw) fun En σ H ⟨Hf,a,ee⟩=>?_
   obtain⟨v,h1,b,vs,rfl,h2,h3,h4,h5⟩:=a.sl.is i _ eo
   refine⟨_,h1,.inl ⟨rfl,vs,SqL.of h2⟩,H0,Hf,a.gr.sub,a.sl,fun w H' Hf' gg r=>?_⟩
   have hb:H' b=some (.lst vs):=gg.big _ _ h2
   have hfb:Hf' b=none:=gg.nofr h2 h3
   have g2:=a.gr.trans gg
   have sl2:=a.sl.grow gg
   refine⟨b,vs,w,rfl,rfl,hb,by rw[h5.length,sizeLine_eq];exact hz,ee _ _ Hf' ⟨⟨fun c u z=>?_,fun c u z=>?_,g2.ext,g2.new⟩,?_⟩ gg.ext⟩
   ·rw[A9 (A7 z h4)];exact g2.big c u z
   ·rw[A9 (A7 z hfb)];exact g2.sub c u z
   ·refine⟨by simpa using sl2.len,fun j bb z=>?_,fun j k ds1 es c q1 q2 q3 q4=>?_⟩
    ·by_cases qj:i=j
     ·subst qj
      have hi:i < ρ.length:=(List.getElem?_eq_some_iff.mp eo).1
      rw[List.getElem?_set_self hi]at z
      cases z
      exact⟨_,h1,b,vs++[w],rfl,A6,hfb,h4,(h5.mono gg.ext).append ⟨w,[],rfl,r,rfl⟩⟩
     ·rw[List.getElem?_set_ne qj]at z
      obtain⟨u,z1,z2⟩:=sl2.is j bb z
      refine⟨u,z1,?_⟩
      cases bb with
      | val d=>exact z2
      | exc C=>exact z2
      | own dd =>
       obtain⟨a',vs',y1,y2,y3,y4,y5⟩:=z2
       have ne:a'≠b:=fun zz=>by
        subst zz y1
        exact qj (a.sl.apart i j ds dd a' eo z h1 z1)
       exact⟨a',vs',y1,by rw[A9 ne];exact y2,y3,y4,y5⟩
    ·have q1':∃dd,ρ[j]? = some (some (.own dd)):=by
      by_cases qj:i=j
      ·subst qj;exact⟨ds,eo⟩
      ·rw[List.getElem?_set_ne qj]at q1;exact⟨_,q1⟩
     have q2':∃dd,ρ[k]? = some (some (.own dd)):=by
      by_cases qj:i=k
      ·subst qj;exact⟨ds,eo⟩
      ·rw[List.getElem?_set_ne qj]at q2;exact⟨_,q2⟩
     obtain⟨d1,q1'⟩:=q1'
     obtain⟨d2,q2'⟩:=q2'
     exact a.sl.apart j k d1 d2 c q1' q2' q3 q4
  ·cases q
 ·cases q
noncomputable def frz(i:Nat) (ρ:Rho):Rho:=match ρ[i]? with
 | some (some (.own ds))=>ρ.set i (some (.val (.list ds)))
 | _=>ρ
theorem bB9{K:PySem.W.Frag}{H0 Hf0 H Hf:Hp}{ρ:Rho}{σ:L2.St}(i:Nat) (a:At K H0 Hf0 ρ σ H Hf):∃Hf',C0 Hf Hf'/\At K H0 Hf0 (frz i ρ) σ H Hf':=by
 unfold frz
 split
 ·rename_i ds eo
  obtain⟨v,h1,b,vs,rfl,h2,h3,h4,h5⟩:=a.sl.is i _ eo
  have g:Grow H0 Hf0 H (upd Hf b (.lst vs)):=a.gr.freeze h2 h3 h4
  refine⟨upd Hf b (.lst vs),B8 h3,g,⟨by simpa using a.sl.len,fun j bb z=>?_,fun j k ds1 es c q1 q2 q3 q4=>?_⟩⟩
  ·have hi:i < ρ.length:=(List.getElem?_eq_some_iff.mp eo).1
   by_cases qj:i=j
   ·subst qj
    rw[List.getElem?_set_self hi]at z
    cases z
    exact⟨_,h1,b,vs,rfl,SqL.of A6,h5.mono (B8 h3)⟩
   ·rw[List.getElem?_set_ne qj]at z
    obtain⟨u,z1,z2⟩:=a.sl.is j bb z
    refine⟨u,z1,?_⟩
    cases bb with
    | val d=>exact Rep.mono (B8 h3) z2
    | exc C =>
     obtain⟨a',o',C',y1,y2,y3⟩:=z2
     exact⟨a',o',C',y1,B8 h3 _ _ y2,y3⟩
    | own dd =>
     obtain⟨a',vs',y1,y2,y3,y4,y5⟩:=z2
     have ne:a'≠b:=fun zz=>by
      subst zz y1
      exact qj (a.sl.apart i j ds dd a' eo z h1 z1)
     exact⟨a',vs',y1,y2,by rw[A9 ne];exact y3,y4,y5.mono (B8 h3)⟩
  ·have hi:i < ρ.length:=(List.getElem?_eq_some_iff.mp eo).1
   have qj:i≠j:=fun z=>by subst z;rw[List.getElem?_set_self hi]at q1;cases q1
   have qk:i≠k:=fun z=>by subst z;rw[List.getElem?_set_self hi]at q2;cases q2
   rw[List.getElem?_set_ne qj]at q1
   rw[List.getElem?_set_ne qk]at q2
   exact a.sl.apart j k ds1 es c q1 q2 q3 q4
 ·exact⟨Hf,C0.refl _,a⟩
noncomputable def bs5(i:Nat) (f:DS):DS:=fun ρ=>f (frz i ρ)
theorem bx9(i:Nat) {st:Stmt}{f:DS}(h:JS X st f):JS X st (bs5 i f):=fun ρ fl q H0 Hf0=>N8 (h (frz i ρ) fl q H0 Hf0) fun En σ H ⟨Hf,a,e⟩=>by
 obtain⟨Hf',s,a'⟩:=bB9 i a
 exact⟨Hf',a',Fl.ends_mono e s⟩
noncomputable def bF5(K:PySem.W.Frag) (H0 Hf0:Hp) (f:DS):TS:=fun En σ H=>∃ρ fl,f ρ=some fl/\tJS K H0 Hf0 ρ fl En σ H
theorem aD4(h:JSs X sts f):PSs X sts (bF5 X.K H0 Hf0 f):=fun pins s σ H En I ⟨ρ,fl,e,t⟩=>h ρ fl e H0 Hf0 pins s σ H En I t
theorem bt3(h:JT X e c):PT X e (ah3 X.K c):=fun pins s σ H Q I ⟨ρ,b,e,t⟩=>h ρ b e pins s σ H Q I t
noncomputable def S0(t:Rho->Option Bool) (f:DS):Nat->DS
 | 0=>fun _=>none
 | n+1=>fun ρ=>(t ρ).bind fun c=>if c then(f ρ).bind fun fl=>match fl with
   | .nx ρ'=>S0 t f n ρ'
   | .ct ρ'=>S0 t f n ρ'
   | .bk ρ'=>some (.nx ρ')
   | .rt d=>some (.rt d)
  else some (.nx ρ)
theorem g9:∀{n:Nat}{ρ:Rho}{fl:Fl},S0 t f n ρ=some fl->S0 t f (n+1) ρ=some fl
 | 0,_,_,h=>by cases h
 | n+1,ρ,fl,h=>by
  obtain⟨c,e1,h⟩:=xbm h
  show(t ρ).bind _=_
  rw[e1]
  cases c with
  | false=>exact h
  | true =>
   obtain⟨fl1,e2,h⟩:=xbm h
   show(f ρ).bind _=_
   rw[e2]
   cases fl1 with
   | nx ρ'=>exact g9 (n:=n) h
   | ct ρ'=>exact g9 (n:=n) h
   | bk ρ'=>exact h
   | rt d=>exact h
theorem as8(h:S0 t f n ρ=some fl) (l:n<=m):S0 t f m ρ=some fl:=by
 induction l with
 | refl=>exact h
 | step _ ih=>exact g9 ih
open Classical in
noncomputable def W9(t:Rho->Option Bool) (f:DS):DS:=fun ρ=>if h:∃fl n,S0 t f n ρ=some fl then some h.choose else none
theorem ah6(h:S0 t f n ρ=some fl):W9 t f ρ=some fl:=by
 have hx:∃fl n,S0 t f n ρ=some fl:=⟨fl,n,h⟩
 unfold W9
 rw[dif_pos hx]
 obtain⟨m,hm⟩:=hx.choose_spec
 have h1:=as8 h (Nat.le_max_left n m)
 have h2:=as8 hm (Nat.le_max_right n m)
 rw[h1]at h2
 exact h2.symm
theorem aK2(h:W9 t f ρ=some fl):∃n,S0 t f n ρ=some fl:=by
 unfold W9 at h
 split at h
 ·rename_i hx
  cases h
  exact hx.choose_spec
 ·cases h
theorem aV7(hc:JT X c t) (hb:JSs X body f) (hp:PassesOwn (model X.prog X.w) X.A X.env X.xe:=by exact PassesOwn.never):JS X (.While c body [] pos) (W9 t f):=fun ρ fl q H0 Hf0=>by
 obtain⟨n,hn⟩:=aK2 q
 refine N8 (aR3 hp (bt3 hc) (aD4 (H0:=H0) (Hf0:=Hf0) hb)) fun En σ H ⟨Hf,a,e⟩=>?_
 refine⟨fun m σ H=>∃Hf' ρ',At X.K H0 Hf0 ρ' σ H Hf'/\C0 Hf Hf'/\S0 t f m ρ'=some fl,⟨n,Hf,ρ,a,C0.refl _,hn⟩,?_⟩
 rintro m σ' H' ⟨Hf',ρ',a',s',hm⟩
 cases m with
 | zero=>cases hm
 | succ m =>
  obtain⟨b,e1,hm⟩:=xbm hm
  refine⟨ρ',b,e1,H0,Hf',a'.gr.sub,a'.sl,fun H2 Hf2 g2=>?_⟩
  have a2:=a'.grow g2
  have s2:=s'.trans g2.ext
  cases b with
  | false =>
   have:fl=.nx ρ':=by simpa using hm.symm
   subst this
   exact ae5 (e σ' H2 Hf2 a2 s2)
  | true =>
   obtain⟨fl1,e2,hm⟩:=xbm (show(f ρ').bind _=some fl from hm)
   refine ae4 ⟨fun σ3 H3=>∃m',m' < m+1/\∃Hf' ρ',At X.K H0 Hf0 ρ' σ3 H3 Hf'/\C0 Hf Hf'/\S0 t f m' ρ'=some fl,fun σ3 H3 z=>z,ρ',fl1,e2,Hf2,a2,?_⟩
   cases fl1 with
   | nx ρ3=>exact fun σ3 H3 Hf3 a3 s3=>⟨m,Nat.lt_succ_self _,Hf3,ρ3,a3,s2.trans s3,hm⟩
   | ct ρ3=>exact fun σ3 H3 Hf3 a3 s3=>⟨m,Nat.lt_succ_self _,Hf3,ρ3,a3,s2.trans s3,hm⟩
   | bk ρ3 =>
    cases hm
    exact fun σ3 H3 Hf3 a3 s3=>e σ3 H3 Hf3 a3 (s2.trans s3)
   | rt d =>
    cases hm
    exact e
noncomputable def ay8(g:D->Rho->Option Rho) (f:DS):List D->DS
 | []=>fun ρ=>some (.nx ρ)
 | d::ds=>fun ρ=>(g d ρ).bind fun ρ1=>(f ρ1).bind fun fl=>match fl with
   | .nx ρ'=>ay8 g f ds ρ'
   | .ct ρ'=>ay8 g f ds ρ'
   | .bk ρ'=>some (.nx ρ')
   | .rt d=>some (.rt d)
noncomputable def bs6(src:Rho->Option (List D)) (g:D->Rho->Option Rho) (f:DS):DS:=fun ρ=>(src ρ).bind fun ds=>ay8 g f ds ρ
theorem by0(hi:JI X tg iter src) (hg:JG X tg g) (hb:JSs X body f) (hp:PassesOwn (model X.prog X.w) X.A X.env X.xe:=by exact PassesOwn.never) (hc:X.calm=true:=by rfl)
  (hs:∀x,foldedSetIterable iter X.env x=pure x:=by intro _;rfl):JS X (.For tg iter body [] pos) (bs6 src g f):=fun ρ fl q H0 Hf0=>by
 obtain⟨ds,e1,e2⟩:=xbm q
 refine N8 (aR5 hp hc (hi ρ ds e1) hg (aD4 (H0:=H0) (Hf0:=Hf0) hb) hs) fun En σ H ⟨Hf,a,e⟩=>⟨H0,Hf,a.gr.sub,a.sl,fun J H1 Hf1 g1 Y=>?_⟩
 refine⟨fun i m σ H=>m=ds.length - i/\i<=ds.length/\∃Hf' ρ',At X.K H0 Hf0 ρ' σ H Hf'/\C0 Hf1 Hf'/\ay8 g f (ds.drop i) ρ'=some fl,⟨ds.length,by simp,Nat.zero_le _,Hf1,ρ,a.grow g1,C0.refl _,by simpa using e2⟩,?_⟩
 rintro i m σ' H' ⟨rfl,hi,Hf',ρ',a',s',hm⟩
 obtain⟨Ys,Yg⟩:=Y i H' Hf' s' a'.gr.sub
 rcases Nat.lt_or_ge i ds.length with hlt|hge
 ·right
  obtain⟨go,yl⟩:=Yg ds[i] (by simp[hlt])
  rw[List.drop_eq_getElem_cons hlt]at hm
  obtain⟨ρ1,c1,hm⟩:=xbm hm
  obtain⟨fl1,c2,hm⟩:=xbm hm
  refine⟨go,fun σ3 H3=>∃m',m' < ds.length - i/\m'=ds.length - (i+1)/\i+1<=ds.length/\∃Hf' ρ',At X.K H0 Hf0 ρ' σ3 H3 Hf'/\C0 Hf1 Hf'/\ay8 g f (ds.drop (i+1)) ρ'=some fl,fun σ3 H3 ⟨m',z1,z2⟩=>⟨m',z1,z2⟩,fun x H2 hy=>?_⟩
  obtain⟨Hf2,g2,r2⟩:=yl x H2 hy
  have a2:=a'.grow g2
  refine⟨ds[i],ρ',ρ1,H0,Hf2,c1,g2.sub,a2.sl,r2,fun σ3 sl3=>⟨ρ1,fl1,c2,Hf2,⟨a2.gr,sl3⟩,?_⟩⟩
  have s2:=s'.trans g2.ext
  cases fl1 with
  | nx ρ3=>exact fun σ3 H3 Hf3 a3 s3=>⟨_,by omega,rfl,hlt,Hf3,ρ3,a3,s2.trans s3,hm⟩
  | ct ρ3=>exact fun σ3 H3 Hf3 a3 s3=>⟨_,by omega,rfl,hlt,Hf3,ρ3,a3,s2.trans s3,hm⟩
  | bk ρ3 =>
   cases hm
   exact fun σ3 H3 Hf3 a3 s3=>e σ3 H3 Hf3 a3 (g1.ext.trans (s2.trans s3))
  | rt d =>
   cases hm
   exact e
 ·left
  have:i=ds.length:=by omega
  subst this
  rw[List.drop_length]at hm
  cases hm
  exact⟨Ys (Nat.le_refl _),e σ' H' Hf' a' (g1.ext.trans s')⟩
theorem bi2:JS X (.Pass pos) P0:=fun ρ fl q H0 Hf0=>by
 cases q
 exact N8 be6 fun En σ H ⟨Hf,a,e⟩=>e σ H Hf a (C0.refl _)
theorem by2:JS X (.Break pos) (fun ρ=>some (.bk ρ)):=fun ρ fl q H0 Hf0=>by
 cases q
 exact N8 aR6 fun En σ H ⟨Hf,a,e⟩=>e σ H Hf a (C0.refl _)
end
noncomputable def r6(n:Nat) (ds:List D):Rho:=ds.map (fun d=>some (B.val d))++List.replicate (n - ds.length) none
noncomputable def N0(g:DS) (n:Nat):List D->Option D:=fun ds=>(g (r6 n ds)).bind fun fl=>match fl with
 | .rt d=>some d
 | .nx _=>some .none
 | _=>none
theorem aq3{K:PySem.W.Frag}{H0 H Hf:Hp}{N:List Str}{ds:List D}{vs:List V}(r:Reps K Hf ds vs):Slots K H0 (r6 N.length ds) (L2.Y5 N vs) H Hf:=by
 have hl:=r.length
 have noown:∀(i:Nat) (b:B),(r6 N.length ds)[i]? = some (some b)->∃d,ds[i]? = some d/\b=.val d:=fun i b h=>by
  unfold r6 at h
  rcases Nat.lt_or_ge i ds.length with q|q
  ·rw[List.getElem?_append_left (by simpa using q),List.getElem?_map]at h
   rw[List.getElem?_eq_getElem q]at h ⊢
   simp only[Option.map_some,Option.some.injEq]at h
   exact⟨ds[i],rfl,h.symm⟩
  ·rw[List.getElem?_append_right (by simpa using q),List.getElem?_replicate]at h
   split at h<;>cases h
 refine⟨by simp[r6,L2.Y5,hl],fun i b e=>?_,fun i j d1 d2 a e1 _ _ _=>?_⟩
 ·obtain⟨d,h1,h2⟩:=noown i b e
  subst h2
  obtain⟨v,h3,h4⟩:=r.get h1
  refine⟨v,?_,h4⟩
  have hi:i < vs.length:=(List.getElem?_eq_some_iff.mp h3).1
  unfold L2.Y5
  rw[List.getElem?_append_left (by simpa using hi),List.getElem?_map,h3];rfl
 ·obtain⟨d,_,h2⟩:=noown i _ e1
  cases h2
theorem aF4{P:Program}{w:World}{K:PySem.W.Frag}{mg:Str->Option Value}{base:Heap}{x qual:Str}{st:Stmt}{f:Addr}{fd:FuncData}{N ps:List Str}{k:Nat}{g:DS}(F:Fun K x qual st f fd) (S:FnScope N ps (K1 st))
  (hb:∀(cdv:Value) (A:Around) (outer:List Env) (s:Shared) (H:Hp) (E:XK),Room k (A.deeper (envOfC qual (K1 st) s.heap.objs.size f cdv))->JSs (az2 CX0 P w K mg base N qual (K1 st) f cdv A outer s H E).nox (O3 st) g) :
  FnOk P w K mg base CX0 (k+1) f fd ps (spF K ps.length (N0 g N.length)):=by
 refine F.ok S (fun vs H Q E h=>h.1) fun cdv A outer s H vs Q E hr hsp=>?_
 obtain⟨hlen,Hf,ds,d,ss,rp,e,kk⟩:=hsp
 obtain⟨fl,e1,e2⟩:=xbm e
 refine⟨_,hb cdv A outer s H E hr _ fl e1 H Hf,Hf,⟨Grow.refl ss,aq3 rp⟩,?_⟩
 cases fl with
 | rt d'=>cases e2;exact fun v H' Hf' g r=>kk v H' Hf' g r
 | nx ρ=>cases e2;exact fun σ' H' Hf' a _=>kk _ H' Hf' a.gr rfl
 | bk ρ=>cases e2
 | ct ρ=>cases e2
noncomputable def SIt:Bool->Heap->Addr->Addr->Nat->Prop
 | true=>Heap.IsTupleIter
 | false=>Heap.IsListIter
noncomputable def SSq:Bool->Heap->Addr->Array Value->Prop
 | true=>Heap.IsTuple
 | false=>Heap.IsList
section
variable {prog:Program}{w:World}{A:Around}{E:Value->Shared->Prop}{s:Shared}{t t1 t2:Bool}
theorem SIt.ext(x:SIt t h it l k) (e:∀o,h.get? it=some o->h'.get? it=some o):SIt t h' it l k:=by
 cases t with
 | true=>obtain⟨o,ho,r⟩:=x;exact⟨o,e o ho,r⟩
 | false=>obtain⟨o,ho,r⟩:=x;exact⟨o,e o ho,r⟩
theorem SSq.ext(x:SSq t h l xs) (e:∀o,h.get? l=some o->h'.get? l=some o):SSq t h' l xs:=by
 cases t with
 | true=>obtain⟨o,ho,r⟩:=x;exact⟨o,e o ho,r⟩
 | false=>obtain⟨o,ho,r⟩:=x;exact⟨o,e o ho,r⟩
theorem SIt.lt(x:SIt t h it l k):it < h.objs.size:=by
 cases t with
 | true=>obtain⟨o,ho,_⟩:=x;exact Heap.lt_size ho
 | false=>obtain⟨o,ho,_⟩:=x;exact Heap.lt_size ho
theorem aw4(hit:s.heap.IsTupleIter it l k) (hl:s.heap.IsTuple l xs) (hx:xs[k]? = some x)
  (hQ:∀h',h'.IsTupleIter it l (k+1)->Heap.SameBut it s.heap h'->Q x { s with heap:=h' }):wpAny (model prog w) A (Builtin.SmallTypes.nextOf (.ref it)) Q E s:=by
 obtain⟨o,ho,hc,hd⟩:=id hit;obtain⟨ol,hol,_,nl,hdl⟩:=hl;unfold Builtin.SmallTypes.nextOf
 refine wpAny_bind (wpAny_callSpecial?_slot (name:=Str.ofString "__next__") hit.typeIs F.slot_tuple_iterator_next (wpAny_call_entry F.slot_tuple_iterator_next hit.typeIs F.entry_tuple_iterator_next ?_ (F.args_tuple_iterator_next_1 _)))
 show wpAny _ _ (field (.ref it) 0 >>= _) _ _ s;refine wpAny_bind (wpAny_field ho hd (x:=.ref l) rfl ?_);show wpAny _ _ (if(Value.ref l==Value.none)=true then _ else _) _ _ s
 rw[if_neg (show ¬((Value.ref l==Value.none)=true) from Bool.false_ne_true)];show wpAny _ _ (field (.ref it) 1 >>= _) _ _ s
 refine wpAny_bind (wpAny_field ho hd (x:=.int k 0) rfl ?_);show wpAny _ _ (seqItems? (.ref l) >>= _) _ _ s;refine wpAny_bind (wpAny_seqItems hol hdl ?_);simp only[Int.toNat_natCast,hx]
 refine wpAny_bind (wpAny_setField ho hd (by simp) (wpAny_pure ⟨x,rfl,wpAny_pure (hQ _ ⟨_,Heap.get?_update_self _ ho (Obj.isFreed_of_fields (Obj.data_mapFields hd _)),(Obj.cls_mapFields ..).trans hc,?_⟩ (Heap.SameBut.update ..))⟩))
 rw[Obj.data_mapFields hd];simp[rawInt]
theorem aI4(hh:A.handled=none) (hit:s.heap.IsTupleIter it l k) (hl:s.heap.IsTuple l xs) (hx:xs[k]? = none)
  (hE:∀h' e,Heap.ExtBut it s.heap h'->(∃o,h'.get? e=some o/\o.cls=.type "StopIteration")->E (.ref e) { s with heap:=h' }):wpAny (model prog w) A (Builtin.SmallTypes.nextOf (.ref it)) Q E s:=by
 obtain⟨o,ho,hc,hd⟩:=id hit;obtain⟨ol,hol,_,nl,hdl⟩:=hl;unfold Builtin.SmallTypes.nextOf
 refine wpAny_bind (wpAny_callSpecial?_slot (name:=Str.ofString "__next__") hit.typeIs F.slot_tuple_iterator_next (wpAny_call_entry F.slot_tuple_iterator_next hit.typeIs F.entry_tuple_iterator_next ?_ (F.args_tuple_iterator_next_1 _)))
 show wpAny _ _ (field (.ref it) 0 >>= _) _ _ s;refine wpAny_bind (wpAny_field ho hd (x:=.ref l) rfl ?_);show wpAny _ _ (if(Value.ref l==Value.none)=true then _ else _) _ _ s
 rw[if_neg (show ¬((Value.ref l==Value.none)=true) from Bool.false_ne_true)];show wpAny _ _ (field (.ref it) 1 >>= _) _ _ s
 refine wpAny_bind (wpAny_field ho hd (x:=.int k 0) rfl ?_);show wpAny _ _ (seqItems? (.ref l) >>= _) _ _ s;refine wpAny_bind (wpAny_seqItems hol hdl ?_);simp only[Int.toNat_natCast,hx]
 refine wpAny_bind (wpAny_rule (wpAny_bind (wpAny_setField ho hd (by simp) ?_)));show wpAny _ _ (newExc (.type "StopIteration") [] >>= _) _ _ _;refine wpAny_bind ?_;simp only[newExc,newTuple]
 refine wpAny_bind (wpAny_newObj_type ?_ (by size_fits));refine wpAny_bind (m:=firstArgMember _ _) (wpAny_of_eq (a:=Value.none) (by first|rfl|(simp only[firstArgMember];rfl)) ?_);refine wpAny_newObj_type ?_ (by size_fits)
 simp only[raiseNew];refine wpAny_bind (wpAny_handled ?_);first|rw[show A.in1.handled=none from hh]|rw[hh]
 refine wpAny_bind (wpAny_pure (wpAny_throw ?_));exact hE _ _ (((Heap.SameBut.update ..).extBut.push _).push _) ⟨_,Heap.get?_push_size _ rfl,rfl⟩
theorem ac6(hit:SIt t s.heap it l k) (hl:SSq t s.heap l xs) (hx:xs[k]? = some x)
  (hQ:∀h',SIt t h' it l (k+1)->Heap.SameBut it s.heap h'->Q x { s with heap:=h' }):wpAny (model prog w) A (Builtin.SmallTypes.nextOf (.ref it)) Q E s:=by
 cases t with
 | true=>exact aw4 hit hl hx hQ
 | false=>exact wpAny_nextOf_list_item hit hl hx hQ
theorem aC5(hh:A.handled=none) (hit:SIt t s.heap it l k) (hl:SSq t s.heap l xs) (hx:xs[k]? = none)
  (hE:∀h' e,Heap.ExtBut it s.heap h'->(∃o,h'.get? e=some o/\o.cls=.type "StopIteration")->E (.ref e) { s with heap:=h' }):wpAny (model prog w) A (Builtin.SmallTypes.nextOf (.ref it)) Q E s:=by
 cases t with
 | true=>exact aI4 hh hit hl hx hE
 | false=>exact wpAny_nextOf_list_end hh hit hl hx hE
theorem aI6{z TI TO i1 i2 l1 l2:Addr}{k1 k2:Nat}{xs ys:Array Value}{x y a b:Value}{Q:Value->Shared->Prop}(Z:ZipApart z TI TO i1 i2 l1 l2)
  (hz:IsZip s.heap z TI TO .none) (hTI:IsPair s.heap TI (.ref i1) (.ref i2)) (hTO:IsPair s.heap TO a b) (h1:SIt t1 s.heap i1 l1 k1) (h2:SIt t2 s.heap i2 l2 k2) (hl1:SSq t1 s.heap l1 xs) (hl2:SSq t2 s.heap l2 ys) (hx:xs[k1]? = some x) (hy:ys[k2]? = some y)
  (hQ:∀h',IsZip h' z TI TO (rawInt s.heap.objs.size)->IsPair h' TO x y->SIt t1 h' i1 l1 (k1+1)->SIt t2 h' i2 l2 (k2+1)->IsPair h' s.heap.objs.size x y->h'.objs.size=s.heap.objs.size+1 ->
   (∀c o,c≠z->c≠TO->c≠i1->c≠i2->s.heap.get? c=some o->h'.get? c=some o)->Q (.ref s.heap.objs.size) { s with heap:=h' }) :
  wpAny (model prog w) A (Builtin.«zip.__next__» ⟨[.ref z],[]⟩) (fun fin s'=>∃v,fin=.done (.ret v)/\Q v s') E s:=by
 show wpAny _ _ (field (.ref z) 2 >>= _) _ _ _;refine wpAny_bind (wpAny_field hz rfl (x:=.bool false) rfl ?_);show wpAny _ _ (field (.ref z) 3 >>= _) _ _ _;refine wpAny_bind (wpAny_field hz rfl (x:=.ref TI) rfl ?_)
 refine wpAny_bind (wpAny_seqItems hTI rfl ?_);show wpAny _ _ (Builtin.SmallTypes.ownedTupleIsFree (.ref z) >>= _) _ _ _;refine wpAny_bind ?_;unfold Builtin.SmallTypes.ownedTupleIsFree
 refine wpAny_bind (wpAny_field hz rfl (x:=.none) rfl (wpAny_pure ?_));simp only[if_true];refine wpAny_bind (wpAny_rule ?_);refine wpAny_bind (wpAny_field hz rfl (x:=.ref TO) rfl ?_)
 refine wpAny_bind (wpAny_setField_rec hz (by simp) fun ha za sa=>?_);have za':IsZip ha z TI TO .ellipsis:=za
 refine wpAny_bind ?_;simp only[List.zipIdx_cons,List.zipIdx_nil,List.forIn_cons,List.forIn_nil];refine wpAny_bind (wpAny_bind (wpAny_onRaise ?_));show wpAny _ _ (Builtin.SmallTypes.nextOf (.ref i1) >>= _) _ _ _
 refine wpAny_bind (ac6 (h1.ext fun o e=>sa.extBut _ _ Z.i1z e) (hl1.ext fun o e=>sa.extBut _ _ Z.l1z e) hx fun hb h1b sb=>wpAny_pure ?_)
 have hTOb:IsPair hb TO a b:=sb.extBut _ _ Z.TOi1 (sa.extBut _ _ Z.TOz hTO)
 refine wpAny_bind (wpAny_seqItems hTOb rfl ?_);refine wpAny_bind (wpAny_updateSeq_pair hTOb fun hcc TOc sc=>?_);have TOc':IsPair hcc TO x b:=TOc
 refine wpAny_bind (wpAny_letGo (wpAny_pure ?_));refine wpAny_bind (wpAny_bind (wpAny_onRaise ?_));show wpAny _ _ (Builtin.SmallTypes.nextOf (.ref i2) >>= _) _ _ _
 refine wpAny_bind (ac6 (((h2.ext fun o e=>sa.extBut _ _ Z.i2z e).ext fun o e=>sb.extBut _ _ Z.i12.symm e).ext fun o e=>sc.extBut _ _ Z.TOi2.symm e) (((hl2.ext fun o e=>sa.extBut _ _ Z.l2z e).ext fun o e=>sb.extBut _ _ Z.l2i1 e).ext fun o e=>sc.extBut _ _ Z.l2TO e) hy fun hd h2d sd=>wpAny_pure ?_)
 have hTOd:IsPair hd TO x b:=sd.extBut _ _ Z.TOi2 TOc'
 refine wpAny_bind (wpAny_seqItems hTOd rfl ?_);refine wpAny_bind (wpAny_updateSeq_pair hTOd fun he TOe se=>?_);have TOe':IsPair he TO x y:=TOe
 refine wpAny_bind (wpAny_letGo (wpAny_pure (wpAny_pure ?_)));refine wpAny_bind (wpAny_seqItems TOe' rfl ?_);refine wpAny_bind (wpAny_newTuple ?_)
 have sz:he.objs.size=s.heap.objs.size:=by rw[se.1,sd.1,sc.1,sb.1,sa.1]
 have ze:IsZip he z TI TO .ellipsis:=se.extBut _ _ Z.TOz.symm (sd.extBut _ _ Z.i2z.symm (sc.extBut _ _ Z.TOz.symm (sb.extBut _ _ Z.i1z.symm za')))
 have ke:∀c o,c≠z->c≠TO->c≠i1->c≠i2->s.heap.get? c=some o->he.get? c=some o:=fun c o c1 c2 c3 c4 e=>se.extBut _ _ c2 (sd.extBut _ _ c4 (sc.extBut _ _ c2 (sb.extBut _ _ c3 (sa.extBut _ _ c1 e))))
 have h1e:SIt t1 he i1 l1 (k1+1):=((h1b.ext fun o e=>sc.extBut _ _ Z.TOi1.symm e).ext fun o e=>sd.extBut _ _ Z.i12 e).ext fun o e=>se.extBut _ _ Z.TOi1.symm e
 have h2e:SIt t2 he i2 l2 (k2+1):=h2d.ext fun o e=>se.extBut _ _ Z.TOi2.symm e
 have zlt:z < he.objs.size:=Heap.lt_size ze
 show wpAny _ _ (Builtin.SmallTypes.ownedTupleHandOut (.ref z) (.ref he.objs.size) >>= _) _ _ _;refine wpAny_bind ?_;unfold Builtin.SmallTypes.ownedTupleHandOut
 have zf:IsZip (he.push { cls:=.type "tuple", data:=.seq #[x,y] }) z TI TO .ellipsis:=Heap.get?_push_of_some _ ze
 refine wpAny_bind (wpAny_setField_rec zf (by simp) fun hg zg sg=>?_);have zg':IsZip hg z TI TO (rawInt he.objs.size):=zg
 refine wpAny_setField_rec zg' (by simp) fun hi zi si=>?_;have zi':IsZip hi z TI TO (rawInt he.objs.size):=zi
 have up:∀c o,c≠z->he.get? c=some o->hi.get? c=some o:=fun c o c1 e=>si.extBut _ _ c1 (sg.extBut _ _ c1 (Heap.get?_push_of_some _ e))
 have hT:IsPair hi he.objs.size x y:=si.extBut _ _ (Nat.ne_of_gt zlt) (sg.extBut _ _ (Nat.ne_of_gt zlt) (Heap.get?_push_size _ rfl))
 have szi:hi.objs.size=he.objs.size+1:=by rw[si.1,sg.1,Heap.size_push]
 rw[sz]at zi' hT szi
 refine wpAny_pure ⟨_,rfl,?_⟩;show Q (.ref he.objs.size) _;rw[sz]
 exact hQ hi zi' (up _ _ Z.TOz TOe') (h1e.ext fun o e=>up _ o Z.i1z e) (h2e.ext fun o e=>up _ o Z.i2z e) hT szi fun c o c1 c2 c3 c4 e=>up c o c1 (ke c o c1 c2 c3 c4 e)
theorem aO5{z TI TO i1 i2 l1 l2:Addr}{k1 k2:Nat}{xs ys:Array Value}{a b:Value}{Q:Fin->Shared->Prop}(hh:A.handled=none) (Z:ZipApart z TI TO i1 i2 l1 l2)
  (hz:IsZip s.heap z TI TO .none) (hTI:IsPair s.heap TI (.ref i1) (.ref i2)) (hTO:IsPair s.heap TO a b) (h1:SIt t1 s.heap i1 l1 k1) (h2:SIt t2 s.heap i2 l2 k2) (hl1:SSq t1 s.heap l1 xs) (hl2:SSq t2 s.heap l2 ys) (hend:xs[k1]? = none\/ys[k2]? = none)
  (hE:∀h' e,(∀c o,c≠z->c≠TO->c≠i1->c≠i2->s.heap.get? c=some o->h'.get? c=some o)->(∃o,h'.get? e=some o/\o.cls=.type "StopIteration")->E (.ref e) { s with heap:=h' }) :
  wpAny (model prog w) A (Builtin.«zip.__next__» ⟨[.ref z],[]⟩) Q E s:=by
 show wpAny _ _ (field (.ref z) 2 >>= _) _ _ _;refine wpAny_bind (wpAny_field hz rfl (x:=.bool false) rfl ?_);show wpAny _ _ (field (.ref z) 3 >>= _) _ _ _;refine wpAny_bind (wpAny_field hz rfl (x:=.ref TI) rfl ?_)
 refine wpAny_bind (wpAny_seqItems hTI rfl ?_);show wpAny _ _ (Builtin.SmallTypes.ownedTupleIsFree (.ref z) >>= _) _ _ _;refine wpAny_bind ?_;unfold Builtin.SmallTypes.ownedTupleIsFree
 refine wpAny_bind (wpAny_field hz rfl (x:=.none) rfl (wpAny_pure ?_));simp only[if_true];refine wpAny_bind (wpAny_rule ?_);refine wpAny_bind (wpAny_field hz rfl (x:=.ref TO) rfl ?_)
 refine wpAny_bind (wpAny_setField_rec hz (by simp) fun ha za sa=>?_);have za':IsZip ha z TI TO .ellipsis:=za
 refine wpAny_bind ?_;simp only[List.zipIdx_cons,List.zipIdx_nil,List.forIn_cons,List.forIn_nil];refine wpAny_bind (wpAny_bind (wpAny_onRaise ?_));show wpAny _ _ (Builtin.SmallTypes.nextOf (.ref i1) >>= _) _ _ _
 cases hx:xs[k1]? with
 | none =>
  refine wpAny_bind (aC5 hh (h1.ext fun o e=>sa.extBut _ _ Z.i1z e) (hl1.ext fun o e=>sa.extBut _ _ Z.l1z e) hx fun hb e sb he=>?_)
  obtain⟨oe,hoe,hce⟩:=he;have zb:IsZip hb z TI TO .ellipsis:=sb _ _ Z.i1z.symm za';have hez:e≠z:=fun q=>by subst q;rw[zb]at hoe;cases hoe;simp at hce
  exact wpAny_setField_rec zb (by simp) fun hcc _ sc=>hE hcc e (fun c o c1 _ c3 _ q=>sc.extBut _ _ c1 (sb _ _ c3 (sa.extBut _ _ c1 q))) ⟨oe,sc.extBut _ _ hez hoe,hce⟩
 | some x =>
  have hy:ys[k2]? = none:=by rcases hend with h|h;rw[hx]at h;cases h;exact h
  refine wpAny_bind (ac6 (h1.ext fun o e=>sa.extBut _ _ Z.i1z e) (hl1.ext fun o e=>sa.extBut _ _ Z.l1z e) hx fun hb h1b sb=>wpAny_pure ?_)
  have hTOb:IsPair hb TO a b:=sb.extBut _ _ Z.TOi1 (sa.extBut _ _ Z.TOz hTO)
  refine wpAny_bind (wpAny_seqItems hTOb rfl ?_);refine wpAny_bind (wpAny_updateSeq_pair hTOb fun hcc TOc sc=>?_)
  refine wpAny_bind (wpAny_letGo (wpAny_pure ?_));refine wpAny_bind (wpAny_bind (wpAny_onRaise ?_));show wpAny _ _ (Builtin.SmallTypes.nextOf (.ref i2) >>= _) _ _ _
  refine wpAny_bind (aC5 hh (((h2.ext fun o e=>sa.extBut _ _ Z.i2z e).ext fun o e=>sb.extBut _ _ Z.i12.symm e).ext fun o e=>sc.extBut _ _ Z.TOi2.symm e) (((hl2.ext fun o e=>sa.extBut _ _ Z.l2z e).ext fun o e=>sb.extBut _ _ Z.l2i1 e).ext fun o e=>sc.extBut _ _ Z.l2TO e) hy fun hd e sd he=>?_)
  obtain⟨oe,hoe,hce⟩:=he;have zd:IsZip hd z TI TO .ellipsis:=sd _ _ Z.i2z.symm (sc.extBut _ _ Z.TOz.symm (sb.extBut _ _ Z.i1z.symm za'));have hez:e≠z:=fun q=>by subst q;rw[zd]at hoe;cases hoe;simp at hce
  exact wpAny_setField_rec zd (by simp) fun hf _ sf=>hE hf e (fun c o c1 c2 c3 c4 q=>sf.extBut _ _ c1 (sd _ _ c4 (sc.extBut _ _ c2 (sb.extBut _ _ c3 (sa.extBut _ _ c1 q))))) ⟨oe,sf.extBut _ _ hez hoe,hce⟩
theorem aw7{z TI TO i1 i2 l1 l2:Addr}{k1 k2:Nat}{xs ys:Array Value}{x y a b:Value}{Q:Option Value->Shared->Prop}(Z:ZipApart z TI TO i1 i2 l1 l2)
  (hz:IsZip s.heap z TI TO .none) (hTI:IsPair s.heap TI (.ref i1) (.ref i2)) (hTO:IsPair s.heap TO a b) (h1:SIt t1 s.heap i1 l1 k1) (h2:SIt t2 s.heap i2 l2 k2) (hl1:SSq t1 s.heap l1 xs) (hl2:SSq t2 s.heap l2 ys) (hx:xs[k1]? = some x) (hy:ys[k2]? = some y)
  (hQ:∀h',IsZip h' z TI TO (rawInt s.heap.objs.size)->IsPair h' TO x y->SIt t1 h' i1 l1 (k1+1)->SIt t2 h' i2 l2 (k2+1)->IsPair h' s.heap.objs.size x y->h'.objs.size=s.heap.objs.size+1 ->
   (∀c o,c≠z->c≠TO->c≠i1->c≠i2->s.heap.get? c=some o->h'.get? c=some o)->Q (some (.ref s.heap.objs.size)) { s with heap:=h' }):wpAny (model prog w) A (pyNext (.ref z)) Q E s:=by
 have hT:s.TypeIs (.ref z) "zip" := ⟨_,hz,rfl⟩
 unfold pyNext
 refine wpAny_bind (wpAny_attempt (wpAny_callSpecial?_slot (name:=Str.ofString "__next__") hT F.slot_zip_next (wpAny_call_entry F.slot_zip_next hT F.entry_zip_next (aI6 Z hz hTI hTO h1 h2 hl1 hl2 hx hy ?_) (F.args_zip_next_1 _))))
 exact fun h' a1 a2 a3 a4 a5 a6 a7=>wpAny_pure (hQ h' a1 a2 a3 a4 a5 a6 a7)
theorem aJ2{z TI TO i1 i2 l1 l2:Addr}{k1 k2:Nat}{xs ys:Array Value}{a b:Value}{Q:Option Value->Shared->Prop}(hh:A.handled=none) (Z:ZipApart z TI TO i1 i2 l1 l2)
  (hz:IsZip s.heap z TI TO .none) (hTI:IsPair s.heap TI (.ref i1) (.ref i2)) (hTO:IsPair s.heap TO a b) (h1:SIt t1 s.heap i1 l1 k1) (h2:SIt t2 s.heap i2 l2 k2) (hl1:SSq t1 s.heap l1 xs) (hl2:SSq t2 s.heap l2 ys) (hend:xs[k1]? = none\/ys[k2]? = none)
  (hQ:∀h',(∀c o,c≠z->c≠TO->c≠i1->c≠i2->s.heap.get? c=some o->h'.get? c=some o)->Q none { s with heap:=h' }):wpAny (model prog w) A (pyNext (.ref z)) Q E s:=by
 have hT:s.TypeIs (.ref z) "zip" := ⟨_,hz,rfl⟩
 unfold pyNext
 refine wpAny_bind (wpAny_attempt (wpAny_callSpecial?_slot (name:=Str.ofString "__next__") hT F.slot_zip_next (wpAny_call_entry F.slot_zip_next hT F.entry_zip_next (aO5 hh Z hz hTI hTO h1 h2 hl1 hl2 hend fun h' e hk he=>?_) (F.args_zip_next_1 _))))
 obtain⟨o,ho,hc⟩:=he
 exact wpAny_bind (wpAny_isInstance (T := "StopIteration") (b:=true) ⟨o,ho,hc⟩ isSubtype_stop (wpAny_pure (hQ _ hk)))
noncomputable def at1(t:Bool) (l:Addr):Obj:={ cls:=.type (if t then "tuple_iterator" else "list_iterator"),data:=.fields #[.ref l,.int 0 0] }
theorem aC4{h:Heap}{l:Addr}(t:Bool):SIt t (h.push (at1 t l)) h.objs.size l 0:=by
 cases t with
 | true=>exact⟨_,Heap.get?_push_size _ rfl,rfl,rfl⟩
 | false=>exact⟨_,Heap.get?_push_size _ rfl,rfl,rfl⟩
theorem aq5(hl:SSq t s.heap l xs) (hQ:Q (.ref s.heap.objs.size) { s with heap:=s.heap.push (at1 t l) }):wpAny (model prog w) A (pyIter (.ref l)) Q E s:=by
 cases t with
 | true=>exact wpAny_pyIter_tuple hl hQ
 | false=>exact wpAny_pyIter_list hl hQ
end
noncomputable abbrev zp1(h:Heap) (t1:Bool) (l1:Addr):Heap:=h.push (at1 t1 l1)
noncomputable abbrev zp2(h:Heap) (t1 t2:Bool) (l1 l2:Addr):Heap:=(zp1 h t1 l1).push (at1 t2 l2)
noncomputable abbrev zp3(h:Heap) (t1 t2:Bool) (l1 l2:Addr):Heap:=(zp2 h t1 t2 l1 l2).push { cls:=.type "tuple", data:=.seq #[.ref h.objs.size,.ref (zp1 h t1 l1).objs.size] }
noncomputable abbrev zp4(h:Heap) (t1 t2:Bool) (l1 l2:Addr):Heap:=(zp3 h t1 t2 l1 l2).push { cls:=.type "tuple", data:=.seq #[.none,.none] }
noncomputable abbrev zp5(h:Heap) (t1 t2:Bool) (l1 l2:Addr):Heap:=(zp4 h t1 t2 l1 l2).push { cls:=.type "zip", data:=.fields #[.none,.bool false,.bool false,.ref (zp2 h t1 t2 l1 l2).objs.size,.ref (zp3 h t1 t2 l1 l2).objs.size] }
theorem aO4(l1 l2:Addr) (xs ys:Array Value) (t1 t2:Bool) :
  Meets (Builtin.«zip.__new__» ⟨[.type "zip", .ref l1,.ref l2],[]⟩) (fun _ R s=>SSq t1 s.heap l1 xs/\SSq t2 s.heap l2 ys/\∀h',IsZip h' (s.heap.objs.size+4) (s.heap.objs.size+2) (s.heap.objs.size+3) .none->IsPair h' (s.heap.objs.size+2) (.ref s.heap.objs.size) (.ref (s.heap.objs.size+1)) ->
   IsPair h' (s.heap.objs.size+3) .none .none->SIt t1 h' s.heap.objs.size l1 0->SIt t2 h' (s.heap.objs.size+1) l2 0->(∀c o,s.heap.get? c=some o->h'.get? c=some o)->R (.ok (.ret (.ref (s.heap.objs.size+4)))) { s with heap:=h' }) :=
 .of_wp fun prog w A R s h=>by
  obtain⟨hp,g,d,tk,os⟩:=s
  obtain⟨hl1,hl2,h⟩:=h
  have hsub:=sub_zip
  have q1:SSq t1 (Shared.heap ⟨hp,g,d,tk,os⟩) l1 xs:=hl1
  have q2:SSq t2 (Shared.heap ⟨hp.push (at1 t1 l1),g,d,tk,os⟩) l2 ys:=SSq.ext hl2 fun o e=>Heap.get?_push_of_some _ e
  wp_walk using aq5 q1,aq5 q2
  refine⟨_,rfl,?_⟩
  have z1:(zp1 hp t1 l1).objs.size=hp.objs.size+1:=Heap.size_push ..
  have z2:(zp2 hp t1 t2 l1 l2).objs.size=hp.objs.size+2:=by rw[Heap.size_push,z1]
  have z3:(zp3 hp t1 t2 l1 l2).objs.size=hp.objs.size+3:=by rw[Heap.size_push,z2]
  have z4:(zp4 hp t1 t2 l1 l2).objs.size=hp.objs.size+4:=by rw[Heap.size_push,z3]
  show R (.ok (.ret (.ref (zp4 hp t1 t2 l1 l2).objs.size))) ⟨zp5 hp t1 t2 l1 l2,g,d,tk,os⟩
  rw[z4]
  have g5:(zp5 hp t1 t2 l1 l2).get? (zp4 hp t1 t2 l1 l2).objs.size=some _:=Heap.get?_push_size _ rfl
  have g4:(zp5 hp t1 t2 l1 l2).get? (zp3 hp t1 t2 l1 l2).objs.size=some _:=Heap.get?_push_of_some _ (Heap.get?_push_size _ rfl)
  have g3:(zp5 hp t1 t2 l1 l2).get? (zp2 hp t1 t2 l1 l2).objs.size=some _:=Heap.get?_push_of_some _ (Heap.get?_push_of_some _ (Heap.get?_push_size _ rfl))
  rw[z4,z2,z3]at g5
  rw[z3]at g4
  rw[z2,z1]at g3
  have k1:∀c o,hp.get? c=some o->(zp5 hp t1 t2 l1 l2).get? c=some o:=fun c o e=>Heap.get?_push_of_some _ (Heap.get?_push_of_some _ (Heap.get?_push_of_some _ (Heap.get?_push_of_some _ (Heap.get?_push_of_some _ e))))
  have s1:SIt t1 (zp5 hp t1 t2 l1 l2) hp.objs.size l1 0:=(aC4 (h:=hp) (l:=l1) t1).ext fun o e=>Heap.get?_push_of_some _ (Heap.get?_push_of_some _ (Heap.get?_push_of_some _ (Heap.get?_push_of_some _ e)))
  have s2:SIt t2 (zp5 hp t1 t2 l1 l2) (zp1 hp t1 l1).objs.size l2 0:=(aC4 (h:=zp1 hp t1 l1) (l:=l2) t2).ext fun o e=>Heap.get?_push_of_some _ (Heap.get?_push_of_some _ (Heap.get?_push_of_some _ e))
  rw[z1]at s2
  exact h _ g5 g3 g4 s1 s2 k1
section
variable {prog:Program}{w:World}{A:Around}{E:Value->Shared->Prop}{s:Shared}{t1 t2:Bool}
theorem aI7(hl1:SSq t1 s.heap l1 xs) (hl2:SSq t2 s.heap l2 ys)
  (h:∀h',IsZip h' (s.heap.objs.size+4) (s.heap.objs.size+2) (s.heap.objs.size+3) .none->IsPair h' (s.heap.objs.size+2) (.ref s.heap.objs.size) (.ref (s.heap.objs.size+1)) ->
   IsPair h' (s.heap.objs.size+3) .none .none->SIt t1 h' s.heap.objs.size l1 0->SIt t2 h' (s.heap.objs.size+1) l2 0->(∀c o,s.heap.get? c=some o->h'.get? c=some o)->Q (.ref (s.heap.objs.size+4)) { s with heap:=h' }) :
  wpAny (model prog w) A (call (.type "zip") [.ref l1,.ref l2]) Q E s:=by
 refine callType_new F.called_zip (by decide) (F.typeCall_zip_2 _ _) (F.newCall_zip_2 _ _) (fun obj=>F.args_object_init_3 obj _ _) F.entry_zip_new (aO4 l1 l2 xs ys t1 t2) ⟨hl1,hl2,fun h' a1 a2 a3 a4 a5 a6=>?_⟩
 exact⟨⟨_,a1,rfl⟩,h h' a1 a2 a3 a4 a5 a6⟩
end
noncomputable def Itz(K:PySem.W.Frag) (t1 t2:Bool) (a1 a2:Addr):It :=
  ⟨fun i H=>∃xs ys x y,Sq K t1 H a1 xs/\Sq K t2 H a2 ys/\xs[i]? = some x/\ys[i]? = some y,
   fun i H v H'=>∃T x y,v=.ref T/\H T=none/\H'=upd H T (.tup [x,y])/\(∀xs,Sq K t1 H a1 xs->xs[i]? = some x)/\∀ys,Sq K t2 H a2 ys->ys[i]? = some y,
   fun i H=>∃xs ys,Sq K t1 H a1 xs/\Sq K t2 H a2 ys/\(xs.length<=i\/ys.length<=i)⟩
theorem aP6(I:Inv X pins σ H s) (h:Sq X.K t H a xs) (h':Sq X.K t H a ys):xs=ys:=by
 cases t with
 | true=>exact I.tuple_inj h h'
 | false=>exact I.list_inj h h'
theorem Z8(I:Inv X pins σ H s) (h:Sq X.K t H a xs):∃its:List Value,B6 xs its/\SSq t s.heap a its.toArray/\a < s.heap.objs.size:=by
 cases t with
 | true =>
  obtain⟨its,r,p,_⟩:=I.tuple h
  exact⟨its,r,p,by obtain⟨o,ho,_⟩:=p;exact Heap.lt_size ho⟩
 | false =>
  obtain⟨its,r,p,_⟩:=I.list h
  exact⟨its,r,p.isList,by obtain⟨o,ho,_⟩:=p.isList;exact Heap.lt_size ho⟩
theorem Y0{X:Cx}{pins:List (Addr×Obj)}{σ:L2.St}{H:Hp}{s:Shared}{h':Heap}{t':Nat}{ch:List Addr}{T:Addr}{o:HO}(I:Inv X pins σ H s) (hf:∀b∈ch,W4 X pins H b) (hT:s.heap.objs.size<=T)
  (k:∀b u,b∉ch->s.heap.get? b=some u->h'.get? b=some u) (new:M8 X.prog X.w (upd H T o) h' T o):Inv X pins σ (upd H T o) { s with heap:=h',toks:=t' }:=by
 have hn:H T=none:=I.hok.fresh hT
 have neT:∀b u,s.heap.get? b=some u->b≠T:=fun b u e=>Nat.ne_of_lt (Nat.lt_of_lt_of_le (Heap.lt_size e) hT)
 have nch:∀b u,H b=some u->b∉ch:=fun b u e z=>by rw[(hf b z).1]at e;cases e
 refine I.step (g':=s.gens) (d':=s.drawn) (ch:=ch) (fun b hb=>⟨(hf b hb).2.2.2.1,(hf b hb).2.1,(hf b hb).2.2.2.2.1,(hf b hb).2.2.2.2.2⟩) (fun b u _ _ hc e _=>k b u hc e) (fun b u _ _ hc e _=>⟨u.slots,k b u hc e⟩)
  (fun b u _ e n=>by rw[A9 (neT b u e)];exact n) (fun b u hc e=>⟨u,k b u hc e⟩) (fun b xs e=>by rw[A9 (A7 e hn)];exact e) (fun b ob u e=>by rw[A9 (A7 e hn)];exact e)
  (fun b ps e=>⟨#[],by rw[A9 (A7 e hn),e];simp⟩) (fun m hm=>?_) (fun b u e=>?_) I.bare
 ·obtain⟨ob,es,ep,ho,r⟩:=hm
  exact⟨ob,es,ep,k _ ob (fun z=>(hf _ z).2.1 rfl) ho,r⟩
 ·by_cases hb:b=T
  ·subst hb;rw[A6]at e;cases e;exact new
  ·rw[A9 hb]at e
   refine(I.hok b u e).stay (fun c v hc q=>k c v ?_ q) (fun c q=>by rw[A9 (A7 q hn)];exact q) fun c xs q=>by rw[A9 (A7 q hn)];exact q
   rcases hc with z|z
   ·rw[z];exact nch b u e
   ·exact nch c _ z
theorem X6{X:Cx}{pins:List (Addr×Obj)}{σ:L2.St}{H:Hp}{s:Shared}{h':Heap}{t':Nat}{ch:List Addr}(I:Inv X pins σ H s) (hf:∀b∈ch,W4 X pins H b)
  (k:∀b u,b∉ch->s.heap.get? b=some u->h'.get? b=some u):Inv X pins σ H { s with heap:=h',toks:=t' }:=by
 have nch:∀b u,H b=some u->b∉ch:=fun b u e z=>by rw[(hf b z).1]at e;cases e
 refine I.step (g':=s.gens) (d':=s.drawn) (ch:=ch) (fun b hb=>⟨(hf b hb).2.2.2.1,(hf b hb).2.1,(hf b hb).2.2.2.2.1,(hf b hb).2.2.2.2.2⟩) (fun b u _ _ hc e _=>k b u hc e) (fun b u _ _ hc e _=>⟨u.slots,k b u hc e⟩)
  (fun b u _ e n=>n) (fun b u hc e=>⟨u,k b u hc e⟩) (fun b xs e=>e) (fun b ob u e=>e) (fun b ps e=>⟨#[],by rw[e];simp⟩) (fun m hm=>?_) (fun b u e=>?_) I.bare
 ·obtain⟨ob,es,ep,ho,r⟩:=hm
  exact⟨ob,es,ep,k _ ob (fun z=>(hf _ z).2.1 rfl) ho,r⟩
 ·refine(I.hok b u e).stay (fun c v hc q=>k c v ?_ q) (fun c q=>q) fun c xs q=>q
  rcases hc with z|z
  ·rw[z];exact nch b u e
  ·exact nch c _ z
theorem aO0{P:Program}{w:World}{K:PySem.W.Frag}{elts:List Expr}{k0:Nat}{pos:Pos}{t1 t2:Bool}{z TI TO i1 i2 a1 a2:Addr}(Z:ZipApart z TI TO i1 i2 a1 a2) :
  Turn P w K (.Tuple elts k0 pos) (Itz K t1 t2 a1 a2) [z,TI,TO,i1,i2] z (fun i h=>IsZip h z TI TO .none/\IsPair h TI (.ref i1) (.ref i2)/\(∃a b,IsPair h TO a b)/\SIt t1 h i1 a1 i/\SIt t2 h i2 a2 i) where
 mem:=by simp
 obj:=fun i h ⟨hz,hTI,⟨a,b,hTO⟩,h1,h2⟩ c hc=>by
  simp only[List.mem_cons,List.not_mem_nil,or_false]at hc
  rcases hc with rfl|rfl|rfl|rfl|rfl
  ·exact⟨_,hz,fun v q=>by cases q⟩
  ·exact⟨_,hTI,fun v q=>by cases q⟩
  ·exact⟨_,hTO,fun v q=>by cases q⟩
  ·cases t1 with
   | true=>obtain⟨o,ho,_,hd⟩:=h1;exact⟨o,ho,fun v q=>by rw[hd]at q;cases q⟩
   | false=>obtain⟨o,ho,_,hd⟩:=h1;exact⟨o,ho,fun v q=>by rw[hd]at q;cases q⟩
  ·cases t2 with
   | true=>obtain⟨o,ho,_,hd⟩:=h2;exact⟨o,ho,fun v q=>by rw[hd]at q;cases q⟩
   | false=>obtain⟨o,ho,_,hd⟩:=h2;exact⟨o,ho,fun v q=>by rw[hd]at q;cases q⟩
 keep:=fun i h h' ⟨hz,hTI,⟨a,b,hTO⟩,h1,h2⟩ hk=>⟨hk z (by simp) _ hz,hk TI (by simp) _ hTI,⟨a,b,hk TO (by simp) _ hTO⟩,h1.ext fun o e=>hk i1 (by simp) o e,h2.ext fun o e=>hk i2 (by simp) o e⟩
 item:=by
  intro X hP hw hK hc i pins s σ H E I hf ⟨hz,hTI,⟨a,b,hTO⟩,h1,h2⟩ hg
  subst hP hw hK
  obtain⟨xs,ys,x,y,q1,q2,ex,ey⟩:=hg
  obtain⟨us,r1,p1,lt1⟩:=Z8 I q1
  obtain⟨ws,r2,p2,lt2⟩:=Z8 I q2
  obtain⟨ux,eux,rx⟩:=r1.get ex
  obtain⟨uy,euy,ry⟩:=r2.get ey
  refine aw7 Z hz hTI hTO h1 h2 p1 p2 (x:=ux) (y:=uy) (by simpa using eux) (by simpa using euy) fun h' b1 b2 b3 b4 b5 b6 b7=>⟨_,rfl,wpAny_letOwnedTupleGo_zip b1 fun h'' c1 c2=>?_⟩
  have neT:∀c o,s.heap.get? c=some o->c≠s.heap.objs.size:=fun c o e=>Nat.ne_of_lt (Heap.lt_size e)
  have up:∀c o,c≠z->h'.get? c=some o->h''.get? c=some o:=fun c o n e=>c2.extBut c o n e
  refine⟨.ref s.heap.objs.size,upd H s.heap.objs.size (.tup [x,y]),Y0 (s:=s) (h':=h'') (t':=s.toks) (ch:=[z,TI,TO,i1,i2]) I hf (Nat.le_refl _) (fun c u hc e=>?_) ?_,rfl,⟨_,x,y,rfl,I.hok.fresh (Nat.le_refl _),rfl,fun zs hz'=>by rw[aP6 I hz' q1];exact ex,fun zs hz'=>by rw[aP6 I hz' q2];exact ey⟩,⟨c1,?_,⟨_,_,up TO _ Z.TOz b2⟩,b3.ext fun o e=>up i1 o Z.i1z e,b4.ext fun o e=>up i2 o Z.i2z e⟩,fun c hc=>?_⟩
  ·simp only[List.mem_cons,List.not_mem_nil,or_false,not_or]at hc
   exact up c u hc.1 (b7 c u hc.1 hc.2.2.1 hc.2.2.2.1 hc.2.2.2.2 e)
  ·refine⟨by show 2<=sizeLine;decide,[ux,uy],.cons rx (.cons ry .nil),_,up _ _ ?_ b5,rfl,⟨_,rfl⟩,rfl⟩
   exact fun q=>neT z _ hz q.symm
  ·exact up TI _ Z.TIz (b7 TI _ Z.TIz Z.TITO Z.TIi1 Z.TIi2 hTI)
  ·have e:c < s.heap.objs.size:=by
    simp only[List.mem_cons,List.not_mem_nil,or_false]at hc
    rcases hc with rfl|rfl|rfl|rfl|rfl
    ·exact Heap.lt_size hz
    ·exact Heap.lt_size hTI
    ·exact Heap.lt_size hTO
    ·exact h1.lt
    ·exact h2.lt
   rw[A9 (Nat.ne_of_lt e)]
   exact(hf c hc).1
 done:=by
  intro X hP hw hK hc i pins s σ H E I hf ⟨hz,hTI,⟨a,b,hTO⟩,h1,h2⟩ hg
  subst hP hw hK
  obtain⟨xs,ys,q1,q2,hl⟩:=hg
  obtain⟨us,r1,p1,lt1⟩:=Z8 I q1
  obtain⟨ws,r2,p2,lt2⟩:=Z8 I q2
  have l1:=r1.length
  have l2:=r2.length
  refine aJ2 (I.ok.hd hc) Z hz hTI hTO h1 h2 p1 p2 ?_ fun h' hk=>⟨rfl,X6 (t':=s.toks) (ch:=[z,TI,TO,i1,i2]) I hf fun c u hc e=>?_⟩
  ·rcases hl with h|h
   ·left;simp;grind
   ·right;simp;grind
  ·simp only[List.mem_cons,List.not_mem_nil,or_false,not_or]at hc
   exact hk c u hc.1 hc.2.2.1 hc.2.2.2.1 hc.2.2.2.2 e
 self:=fun _ _ _ _ _ st h=>wpAny_pyIter_zip st.1 h
section
variable {X:Cx}
noncomputable def ag3(f g:Rho->Option (Bool×List D)):Rho->Option (List D):=fun ρ=>(f ρ).bind fun p=>(g ρ).bind fun q=>some ((p.2.zip q.2).map fun(x,y)=>PyData.tuple [x,y])
theorem av8{K:PySem.W.Frag}{t1 t2:Bool}{a1 a2:Addr}{vs us:List V}{ds es:List D}{Hf1:Hp}(h1:Sq K t1 Hf1 a1 vs) (h2:Sq K t2 Hf1 a2 us) (r1:Reps K Hf1 ds vs) (r2:Reps K Hf1 es us) :
  aA8 K (Itz K t1 t2 a1 a2) ((ds.zip es).map fun(x,y)=>PyData.tuple [x,y]) Hf1:=by
 have mono:∀{t:Bool}{a:Addr}{xs:List V}{H H':Hp},C0 H H'->Sq K t H a xs->Sq K t H' a xs:=fun{t a xs H H'} e h=>by
  cases t with
  | true=>exact B1 e h
  | false=>exact J4 e h
 intro i H Hf sa sb
 have m1:=mono (sa.trans sb) h1
 have m2:=mono (sa.trans sb) h2
 have l1:=r1.length
 have l2:=r2.length
 refine⟨fun hi=>⟨vs,us,m1,m2,?_⟩,fun d hd=>?_⟩
 ·simp at hi;grind
 ·rw[List.getElem?_map]at hd
  obtain⟨⟨x,y⟩,q1,q2⟩:=xmo hd
  subst q2
  obtain⟨q1,q2⟩:=List.getElem?_zip_eq_some.mp q1
  obtain⟨vx,e1,e2⟩:=r1.get q1
  obtain⟨vy,e3,e4⟩:=r2.get q2
  refine⟨⟨vs,us,vx,vy,m1,m2,e1,e3⟩,fun v H' ⟨T,x',y',z1,z2,z3,z4,z5⟩=>?_⟩
  subst z1 z3
  have w1:=z4 vs m1
  have w2:=z5 us m2
  rw[e1]at w1
  rw[e3]at w2
  cases w1
  cases w2
  have nf:Hf T=none:=sb.free z2
  refine⟨upd Hf T (.tup [vx,vy]),Grow.laid sb z2,T,[vx,vy],rfl,SqT.of A6,vx,[vy],rfl,(e2.mono sa).mono (B8 nf),vy,[],rfl,(e4.mono sa).mono (B8 nf),rfl⟩
theorem by7{elts:List Expr}{k0:Nat}{tpos:Pos}{a b:Expr}{f g:DE}{p pos:Pos}(hg:Gl X "zip") (hm:X.mg "zip" = none) (ha:JE X a f) (hb:JE X b g) (hs:starEach [a,b] X.env=[(false,eval a X.env),(false,eval b X.env)]:=by rfl) (hs2:starEach [b] X.env=[(false,eval b X.env)]:=by rfl) :
  JI X (.Tuple elts k0 tpos) (.Call (.Name "zip" p) [a,b] [] pos) (ag3 (qE f) (qE g)):=fun ρ out q=>by
 obtain⟨⟨t1,ds⟩,e1,q⟩:=xbm q
 obtain⟨⟨t2,es⟩,e2,q⟩:=xbm q
 cases q
 obtain⟨d1,e1,e1'⟩:=xbm e1
 obtain⟨d2,e2,e2'⟩:=xbm e2
 intro pins s σ H R I ⟨H0,Hf,ss,sl,k⟩
 refine Call_ (ae0 I hg hm bC9 (PyProof.Rows.callWith_type1 (thn (J8 (ha ρ d1 e1) (J8 (hb ρ d2 e2) N9 hs2) (by rw[hs,hs2]) pos pins s σ H
  (fun vs H'=>∃v u Hf',vs=[v,u]/\Grow H Hf H' Hf'/\Rep X.K Hf' d1 v/\Rep X.K Hf' d2 u) I ⟨H0,Hf,ss,sl,fun v H1 Hf1 g1 r1=>⟨H0,Hf1,g1.sub,sl.grow g1,fun u H2 Hf2 g2 r2=>⟨v,u,Hf2,rfl,g1.trans g2,r1.mono g2.ext,r2⟩⟩⟩) fun us s1 ⟨vs,H1,I1,r1,v,u,Hf1,ev,gr,p1,p2⟩=>?_) (by rw[hs,hs2]) (by rw[hs2];rfl)))
 subst ev
 obtain⟨uv,uu,rfl,rv,ru⟩:=aN9 r1
 obtain⟨a1,vs1,rfl,w1,w2⟩:=p1.seq (C0.refl Hf1) e1'
 obtain⟨a2,vs2,rfl,w3,w4⟩:=p2.seq (C0.refl Hf1) e2'
 cases rv
 cases ru
 have mono:∀{t:Bool}{a:Addr}{xs:List V}{H H':Hp},C0 H H'->Sq X.K t H a xs->Sq X.K t H' a xs:=fun{t a xs H H'} e h=>by
  cases t with
  | true=>exact B1 e h
  | false=>exact J4 e h
 obtain⟨us1,rr1,hp1,lt1⟩:=Z8 I1 (mono gr.sub w1)
 obtain⟨us2,rr2,hp2,lt2⟩:=Z8 I1 (mono gr.sub w3)
 refine aI7 hp1 hp2 fun h' b1 b2 b3 b4 b5 b6=>?_
 have I2:Inv X pins σ H1 { s1 with heap:=h' }:=I1.kept (t':=s1.toks) b6
 refine wpAny_pyIter_zip b1 ⟨_,_,_,_,H1,rfl,I2,aO0 (zipApart_new lt1 lt2),⟨b1,b2,⟨_,_,b3⟩,b4,b5⟩,fun b hb=>?_,k _ H1 Hf1 gr (av8 w1 w3 w2 w4)⟩
 have hb':s1.heap.objs.size<=b:=by
  simp only[List.mem_cons,List.not_mem_nil,or_false]at hb
  rcases hb with rfl|rfl|rfl|rfl|rfl
  ·exact Nat.le_add_right _ _
  ·exact Nat.le_add_right _ _
  ·exact Nat.le_add_right _ _
  ·exact Nat.le_refl _
  ·exact Nat.le_add_right _ _
 exact I1.fpOk hb' (I1.hok.fresh hb')
end
theorem x8:fillsNumberSlot (.type "tuple") "mul" = pure false:=PySem.fillsNumberSlot_seq (id := "tuple.__mul__") (r:=some (.builtin "tuple.__rmul__")) F.slot_tuple_mul.lookup (by decide +kernel) F.slot_tuple_rmul.lookup (by decide +kernel)
theorem ah8:seqRepeat? (.type "tuple")=pure (some (.builtin "tuple.__mul__")):=by
 unfold seqRepeat?
 rw[PySem.seqSlot_of (T := "tuple") (name := "__mul__") (id := "tuple.__mul__") F.slot_tuple_mul.lookup (by decide +kernel),PySem.seqSlot_of (T := "tuple") (name := "__rmul__") (id := "tuple.__rmul__") F.slot_tuple_rmul.lookup (by decide +kernel)];rfl
theorem k7(a:Int) (t:Tok) (l:Addr) (items:Array Value) (n:Nat) (dd:Option Addr) (sl:Array (Option Value)) :
  Meets (Builtin.«int.__rmul__» ⟨[.int a t,.ref l],[]⟩) (fun _ R s=>s.heap.get? l=some ⟨.type "tuple", dd,.seq items n,sl⟩/\R (.ok (.ret Value.notImplemented)) s) :=
 .of_wp fun prog w A R s h=>by obtain⟨hp,g,d,tk,os⟩:=s;obtain⟨hl,h⟩:=h;wp_walk;exact⟨_,rfl,h⟩
theorem aw9(items:Array Value) (k:Nat):List.foldl (fun x1 x2=>x1++x2) #[] (List.replicate k items)=(List.replicate k items.toList).flatten.toArray:=by
 have:=ai9 items.toList k []
 rw[List.nil_append]at this
 simpa using this
theorem ar7(l:Addr) (items:Array Value) (n:Nat) (dd:Option Addr) (sl:Array (Option Value)) (x:Int) (u:Tok) (h2:2<=x) (h3:x < 1000000) (he:items.isEmpty=false) (hz:items.size*x.toNat<=sizeLine) :
  Meets (Builtin.«tuple.__mul__» ⟨[.ref l,.int x u],[]⟩) (fun _ R s=>s.heap.get? l=some ⟨.type "tuple", dd,.seq items n,sl⟩/\R (.ok (.ret (Value.ref s.heap.objs.size))) { s with heap:=s.heap.push { cls:=Value.type "tuple", data:=Data.seq (List.foldl (fun x1 x2=>x1++x2) #[] (List.replicate x.toNat items)) } }) :=
 .of_wp fun prog w A R s h=>by
  obtain⟨hp,g,d,tk,os⟩:=s
  obtain⟨hl,h⟩:=h
  have hm:(items.size:Int)*x<=16777216:=by
   have e:((items.size*x.toNat:Nat):Int)=(items.size:Int)*x:=by rw[Int.natCast_mul,Int.toNat_of_nonneg (by omega)]
   have:items.size*x.toNat<=16777216:=by rw[← sizeLine_eq];exact hz
   omega
  wp_walk
  refine wpAny_ite_false (by simp;omega) ?_
  have ht:Heap.IsTuple (Shared.heap ⟨hp,g,d,tk,os⟩) l items:=⟨_,hl,rfl,n,rfl⟩
  refine wpAny_bind (tupleItemsOf_ ht ?_)
  refine wpAny_ite_false (by rw[he];simp;omega) ?_
  show wpAny _ _ (if(decide (x<=0) || items.isEmpty)=true then _ else _) _ _ _
  refine wpAny_ite_false (by rw[he];simp;omega) ?_
  show wpAny _ _ (if(items.size:Int)*x > (2 ^ 63 - 1) / 8 then _ else _) _ _ _
  rw[if_neg (by omega)]
  show wpAny _ _ (if Builtin.Tuple.tupleTooMany ((items.size:Int)*x)=true then _ else _) _ _ _
  rw[if_neg (by unfold Builtin.Tuple.tupleTooMany;rw[sizeLine_eq];simp;omega)]
  refine wpAny_bind (m:=Builtin.Tuple.tupleExact _) (wpAny_newObj_type (wpAny_pure ⟨_,rfl,h⟩) ?_)
  show(List.foldl (fun x1 x2=>x1++x2) #[] (List.replicate x.toNat items)).size<=sizeLine
  rw[aw9 items x.toNat,List.size_toArray,an7,Array.length_toList,Nat.mul_comm]
  exact hz
section
variable {X:Cx}
theorem bf9:OpR X (binaryOp .Mult) (fun x y H Q=>∃l k xs,x=.ref l/\y=.int k/\SqT X.K H l xs/\xs≠[]/\2<=k/\k < 1000000/\xs.length*k.toNat<=sizeLine/\∀p,H p=none->Q (.ref p) (upd H p (.tup (List.replicate k.toNat xs).flatten))):=by
 intro pins s σ H x y v u Q I rx ry h
 obtain⟨l,k,xs,rfl,rfl,hq,hx,h2,h3,hz,q⟩:=h
 cases rx
 obtain⟨t,rfl⟩:=ry
 obtain⟨its,r,p1,_⟩:=I.tuple hq
 obtain⟨⟨cls,dd,data,sl⟩,ho,hc,n,hd⟩:=id p1
 simp only at hc hd
 subst hc hd
 have hl:=r.length
 have he:its.toArray.isEmpty=false:=by
  cases its with
  | nil=>exact absurd (r.nil_iff.mp rfl) hx
  | cons a b=>rfl
 refine wpAny_binaryOp_repeat_ref (T := "tuple") (U := "int") (by decide) ⟨_,ho,rfl⟩ (fun s'=>typeIs_int s' k t) x8 F.fills_int_mul F.slot_int_rmul ah8 F.slot_int_index.lookup
  (call_meets F.slot_int_rmul (typeIs_int s k t) F.entry_int_rmul (F.args_int_rmul_2 _ _) (k7 k t l its.toArray n dd sl) ⟨ho,rfl,⟨_,ho,rfl⟩,
   call_meets F.slot_tuple_mul ⟨_,ho,rfl⟩ F.entry_tuple_mul (F.args_tuple_mul_2 _ _) (ar7 l its.toArray n dd sl k t h2 h3 he (by rw[List.size_toArray,← hl];exact hz)) ⟨ho,?_⟩⟩)
 rw[aw9]
 refine⟨.ref _,_,I.laid (t':=s.toks) (o:=.tup (List.replicate k.toNat xs).flatten) (fun b ob q=>Heap.get?_push_of_some _ q) (Nat.le_refl _) ⟨?_,_,r.rep k.toNat,af7.new _ _⟩,rfl,q _ (I.hok.fresh (Nat.le_refl _))⟩
 rw[an7,Nat.mul_comm];exact hz
noncomputable def Q8(x y:D):Option D:=match x,y with
 | .int i,.int j=>if D4 i/\D4 j then some (.int (i*j)) else none
 | .tuple xs,.int k=>if xs.isEmpty=false/\2<=k/\k < 1000000/\xs.length*k.toNat<=16777216 then some (.tuple (List.replicate k.toNat xs).flatten) else none
 | _,_=>none
theorem am9:OpD X (binaryOp .Mult) Q8:=fun x y z h=>by
 unfold Q8 at h
 split at h
 ·exact bu8 _ _ z (by unfold bv7;exact h)
 ·split at h
  ·rename_i xs k c
   cases h
   refine OpR.imp bf9 fun vx vy H Q ⟨Hf,s,r1,r2,kk⟩=>?_
   obtain⟨a,vs,rfl,h2,h3⟩:=r1
   refine⟨a,k,vs,rfl,r2,B1 s h2,?_,c.2.1,c.2.2.1,by rw[h3.length,sizeLine_eq];exact c.2.2.2,fun p hp=>?_⟩
   ·intro e
    subst e
    have:=h3.length
    cases xs with
    | nil=>exact absurd c.1 (by simp)
    | cons a b=>simp at this
   ·exact kk _ _ _ (Grow.laid s hp) ⟨p,_,rfl,SqT.of A6,(h3.flatten k.toNat).mono (B8 (s.free hp))⟩
  ·cases h
 ·cases h
noncomputable def bC6(f:DE):DE:=fun ρ=>(f ρ).bind fun d=>match d with
 | .int i=>some (.int (-i))
 | _=>none
theorem aW7(h:JE X a f):JE X (.UnaryOp .USub a pos) (bC6 f):=fun ρ d q=>by
 obtain⟨x,e1,e2⟩:=xbm q
 cases x with
 | int i =>
  cases e2
  exact A8 (bH7 br2 (h ρ _ e1)) fun σ H Q ⟨H0,Hf,s,sl,k⟩=>⟨H0,Hf,s,sl,fun v H1 Hf1 g1 r1=>⟨_,r1,k _ H1 Hf1 g1 rfl⟩⟩
 | _=>cases e2
noncomputable def isB(x y:D):Option D:=match y with
 | .bool b=>(match x with
  | .bool c=>some (.bool (c==b))
  | .dict _=>none
  | _=>some (.bool false))
 | .none=>isN x .none
 | _=>none
noncomputable def bJ4(x y:D):Option D:=match y with
 | .bool b=>(match x with
  | .bool c=>some (.bool (!(c==b)))
  | .dict _=>none
  | _=>some (.bool true))
 | .none=>bv3 x .none
 | _=>none
theorem bI9:OpD X (compareOp .Is) isB:=fun x y z h=>by
 cases y with
 | none=>exact bv0 x .none z h
 | bool b =>
  intro pins s σ H vx vy v u Q I rx ry ⟨Hf,ss,r1,r2,k⟩
  cases r2
  cases ry
  have fin:∀c,z=.bool c->(v==Value.bool b)=c->EP X pins σ Q (.bool (v==Value.bool b)) s:=fun c e1 e2=>by rw[e2];subst e1;exact⟨.bl c,H,I,rfl,k _ H Hf (Grow.refl ss) rfl⟩
  cases x with
  | none=>cases r1;cases rx;cases h;exact wpAny_is_plain rfl (fin _ rfl rfl)
  | bool c=>cases r1;cases rx;cases h;exact wpAny_is_plain rfl (fin _ rfl (by cases c<;>cases b<;>rfl))
  | int i=>cases r1;obtain⟨t,rfl⟩:=rx;cases h;exact wpAny_is_plain rfl (fin _ rfl rfl)
  | str i=>cases r1;obtain⟨t,rfl⟩:=rx;cases h;exact wpAny_is_plain rfl (fin _ rfl rfl)
  | tuple ds=>obtain⟨a,vs,rfl,_⟩:=r1;cases rx;cases h;exact wpAny_is_plain rfl (fin _ rfl rfl)
  | list ds=>obtain⟨a,vs,rfl,_⟩:=r1;cases rx;cases h;exact wpAny_is_plain rfl (fin _ rfl rfl)
  | dict ds=>cases h
 | _=>cases h
theorem aT8:OpD X (compareOp .IsNot) bJ4:=fun x y z h=>by
 cases y with
 | none=>exact bg6 x .none z h
 | bool b =>
  intro pins s σ H vx vy v u Q I rx ry ⟨Hf,ss,r1,r2,k⟩
  cases r2
  cases ry
  have fin:∀c,z=.bool c->(!(v==Value.bool b))=c->EP X pins σ Q (.bool (!(v==Value.bool b))) s:=fun c e1 e2=>by rw[e2];subst e1;exact⟨.bl c,H,I,rfl,k _ H Hf (Grow.refl ss) rfl⟩
  cases x with
  | none=>cases r1;cases rx;cases h;exact wpAny_isNot_plain rfl (fin _ rfl rfl)
  | bool c=>cases r1;cases rx;cases h;exact wpAny_isNot_plain rfl (fin _ rfl (by cases c<;>cases b<;>rfl))
  | int i=>cases r1;obtain⟨t,rfl⟩:=rx;cases h;exact wpAny_isNot_plain rfl (fin _ rfl rfl)
  | str i=>cases r1;obtain⟨t,rfl⟩:=rx;cases h;exact wpAny_isNot_plain rfl (fin _ rfl rfl)
  | tuple ds=>obtain⟨a,vs,rfl,_⟩:=r1;cases rx;cases h;exact wpAny_isNot_plain rfl (fin _ rfl rfl)
  | list ds=>obtain⟨a,vs,rfl,_⟩:=r1;cases rx;cases h;exact wpAny_isNot_plain rfl (fin _ rfl rfl)
  | dict ds=>cases h
 | _=>cases h
noncomputable def aB0(K:PySem.W.Frag) (d:D) (u:Value):Prop:=∃v,C3 v u/\∀H:Hp,Rep K H d v
theorem bA3(r:aB0 X.K d u) (hg:Gl X x) (hm:X.mg x=some u) (hd:(x==("__debug__" : Str))=false:=by decide):JE X (.Name x pos) (dC d):=fun ρ d' q=>by
 cases q
 obtain⟨v,rv,rp⟩:=r
 exact A8 (bf3 hg hm rv hd) fun σ H Q ⟨H0,Hf,s,sl,k⟩=>k _ H Hf (Grow.refl s) (rp Hf)
noncomputable def qN(f:Rho->Option (List D)):Rho->Option (Bool×List D):=fun ρ=>(f ρ).map fun ds=>(false,ds)
theorem by4(h:JN X e f):JQ X e (qN f):=aW1 h
noncomputable def P8(f:Rho->Option (Bool×List D)):DE:=fun ρ=>(f ρ).bind fun q=>if q.1=true then none else some (.tuple q.2)
theorem bj2(hg:Gl X "tuple") (hm:X.mg "tuple" = none) (h:JQ X e f) (he:starEach [e] X.env=[(false,eval e X.env)]:=by rfl):JE X (.Call (.Name "tuple" p) [e] [] pos) (P8 f):=aW5 hg hm h (he:=he)
end
theorem aN5(l b:Addr) (items items2:Array Value) (n n2:Nat) (dd dd2:Option Addr) (sl sl2:Array (Option Value)) (hz:items.size+items2.size<=sizeLine) :
  Meets (Builtin.«list.__add__» ⟨[.ref l,.ref b],[]⟩) (fun _ R s=>s.heap.get? l=some ⟨.type "list", dd,.seq items n,sl⟩/\s.heap.get? b=some ⟨.type "list", dd2,.seq items2 n2,sl2⟩/\R (.ok (.ret (Value.ref s.heap.objs.size))) { s with heap:=s.heap.push { cls:=Value.type "list", data:=Data.seq (items++items2) } }) :=
 .of_wp fun prog w A R s h=>by
  obtain⟨hp,g,d,tk,os⟩:=s
  obtain⟨hl,hb,h⟩:=h
  have hsub:isSubtype (.type "list") (.type "list")=pure true:=by rw[isSubtype_type];kernel_rfl
  have hsz:=hz
  wp_walk
  exact⟨_,rfl,h⟩
section
variable {X:Cx}
theorem aD9:OpR X (binaryOp .Add) (fun x y H Q=>∃a b xs ys,x=.ref a/\y=.ref b/\SqL X.K H a xs/\SqL X.K H b ys/\xs.length+ys.length<=sizeLine/\∀p,H p=none->Q (.ref p) (upd H p (.lst (xs++ys)))):=by
 intro pins s σ H x y v u Q I rx ry h
 obtain⟨a,b,xs,ys,rfl,rfl,ha,hb,hz,q⟩:=h
 cases rx
 cases ry
 obtain⟨its,r1,p1,_⟩:=I.list ha
 obtain⟨its2,r2,p2,_⟩:=I.list hb
 obtain⟨⟨cls,dd,data,sl⟩,ho,hc,n,hd⟩:=p1.isList
 obtain⟨⟨cls2,dd2,data2,sl2⟩,ho2,hc2,n2,hd2⟩:=p2.isList
 simp only at hc hd hc2 hd2
 subst hc hd hc2 hd2
 have l1:=r1.length
 have l2:=r2.length
 refine concat_meets ⟨_,ho,rfl⟩ ⟨_,ho2,rfl⟩ noFill_list_add seq_list_add PySem.F.slot_list_add PySem.F.entry_list_add (PySem.F.args_list_add_2 _ _) (aN5 a b its.toArray its2.toArray n n2 dd dd2 sl sl2 (by simp only[List.size_toArray];grind)) ⟨ho,ho2,?_⟩
 have ea:its.toArray++its2.toArray=(its++its2).toArray:=by simp
 rw[ea]
 exact⟨.ref _,_,I.lnew (t':=s.toks) (r1.append r2) (by rw[List.length_append];grind),rfl,q _ I.fresh⟩
noncomputable def T6(x y:D):Option D:=match x,y with
 | .list xs,.list ys=>if xs.length+ys.length<=16777216 then some (.list (xs++ys)) else none
 | x,y=>W2 x y
theorem bg8:OpD X (binaryOp .Add) T6:=fun x y z h=>by
 unfold T6 at h
 split at h
 ·split at h
  ·rename_i c
   cases h
   refine OpR.imp aD9 fun vx vy H Q ⟨Hf,s,r1,r2,k⟩=>?_
   obtain⟨a,vs,rfl,h2,h3⟩:=r1
   obtain⟨b,us,rfl,h5,h6⟩:=r2
   refine⟨a,b,vs,us,rfl,rfl,J4 s h2,J4 s h5,by rw[h3.length,h6.length,sizeLine_eq];exact c,fun p hp=>?_⟩
   exact k _ _ _ (Grow.laid s hp) ⟨p,vs++us,rfl,SqL.of A6,(h3.append h6).mono (B8 (s.free hp))⟩
  ·cases h
 ·exact aT9 _ _ z h
noncomputable def bp0(f:DE):DE:=fun ρ=>(f ρ).bind fun d=>match d with
 | .tuple xs=>some (.tuple xs.reverse)
 | _=>none
end
section
variable {prog:Program}{w:World}{A:Around}{E:Value->Shared->Prop}{s:Shared}
theorem aA6(n:Nat):Builtin.Slice.sliceAdjust none none (-1) (n:Int)=((n:Int) - 1,-1):=by
 unfold Builtin.Slice.sliceAdjust
 have h1:(-1:Int) < 0:=by omega
 simp only[h1,if_true]
theorem ax2(n:Nat):Builtin.Slice.slicePlaces ((n:Int) - 1) (-1) (-1)=n:=by
 unfold Builtin.Slice.slicePlaces
 have h1:¬(-1:Int) > 0:=by grind
 have h2:-(-1:Int)=1:=by grind
 simp only[h1,if_false,h2,Int.ediv_one]
 split<;>grind
theorem r9{sl:Addr}{t:Tok}{n:Nat}{Q:Int×Int×Nat->Shared->Prop}(hs:s.heap.IsSliceOf sl .none .none (.int (-1) t))
  (h:Q ((n:Int) - 1,-1,n) s):wpAny (model prog w) A (Builtin.Slice.sliceApplied (.ref sl) (pure (n:Int))) Q E s:=by
 obtain⟨os,hos,hcs,hds⟩:=id hs
 unfold Builtin.Slice.sliceApplied Builtin.Slice.sliceFields
 refine wpAny_bind (wpAny_bind (wpAny_field hos hds (x:=.none) rfl (wpAny_bind (wpAny_field hos hds (x:=.none) rfl (wpAny_bind (wpAny_field hos hds (x:=.int (-1) t) rfl (wpAny_pure ?_)))))))
 refine wpAny_bind (slicePart_int ?_)
 show wpAny _ _ (if((-1:Int)==0)=true then _ else _) _ _ s
 rw[if_neg (by decide)]
 refine wpAny_bind (slicePart_none (wpAny_bind (slicePart_none (wpAny_bind (wpAny_pure ?_)))))
 show wpAny _ _ (match Builtin.Slice.sliceAdjust none none (-1) (n:Int) with|(lo,hi)=>pure (lo,(-1:Int),Builtin.Slice.slicePlaces lo hi (-1))) _ _ s
 rw[aA6 n]
 show wpAny _ _ (pure ((n:Int) - 1,(-1:Int),Builtin.Slice.slicePlaces ((n:Int) - 1) (-1) (-1))) _ _ s
 rw[ax2]
 exact wpAny_pure h
theorem ar2{α:Type}:∀l:List α,(List.range l.length).filterMap (fun k=>l[k]?)=l
 | []=>rfl
 | a::l=>by
  rw[List.length_cons,List.range_succ_eq_map,List.filterMap_cons,List.filterMap_map]
  simp only[List.getElem?_cons_zero]
  congr 1
  exact ar2 l
theorem at5{α β:Type}{f g:α->Option β}:∀{l:List α},(∀x∈l,f x=g x)->l.filterMap f=l.filterMap g
 | [],_=>rfl
 | a::l,h=>by rw[List.filterMap_cons,List.filterMap_cons,h a (List.mem_cons_self ..),at5 fun x hx=>h x (xmm _ hx)]
theorem aS2(xs:Array Value):((List.range xs.size).filterMap fun(k:Nat)=>xs[(((xs.size:Int) - 1)+(k:Int) * -1).toNat]?).toArray=xs.toList.reverse.toArray:=by
 congr 1
 have e:∀k∈List.range xs.size,xs[(((xs.size:Int) - 1)+(k:Int) * -1).toNat]? = xs.toList.reverse[k]?:=by
  intro k hk
  have hk:=List.mem_range.mp hk
  have:(((xs.size:Int) - 1)+(k:Int) * -1).toNat=xs.size - 1 - k:=by grind
  rw[this,List.getElem?_reverse (by rw[Array.length_toList];exact hk),Array.length_toList,Array.getElem?_toList]
 rw[at5 e]
 have:=ar2 xs.toList.reverse
 rw[List.length_reverse,Array.length_toList]at this
 exact this
theorem m8(ht:IsTup s.heap t items) (hs:s.heap.IsSliceOf sl .none .none (.int (-1) k))
  (h:Q (.ref s.heap.objs.size) { s with heap:=s.heap.push { cls:=.type "tuple", data:=.seq items.toList.reverse.toArray } })
  (hsz:items.size<=sizeLine):wpAny (model prog w) A (getItem (.ref t) (.ref sl)) Q E s:=by
 have htake:sizeOk (.seq items.toList.reverse.toArray):=by
  show items.toList.reverse.toArray.size<=sizeLine
  rw[List.size_toArray,List.length_reverse,Array.length_toList]
  omega
 obtain⟨os,hos,hcs,hds⟩:=id hs
 have hTs:s.TypeIs (.ref sl) "slice" := ⟨os,hos,hcs⟩
 unfold getItem
 try with_reducible refine wpAny_holding ?_
 first|refine wpAny_bind (wpAny_pure ?_)|skip
 refine wpAny_bind (wpAny_sequenceKey ht.typeIs (by decide) ?_)
 refine wpAny_bind (wpAny_callSpecial?_slot (name:=Str.ofString "__getitem__") ht.typeIs PyProof.Rows.slot_tuple_getitem
  (wpAny_call_entry PyProof.Rows.slot_tuple_getitem ht.typeIs entry_tuple_getitem ?_ (args_tuple_getitem _ _)))
 show wpAny _ _ (Builtin.Tuple.tupleItemsOf (.ref t) >>= _) _ _ s
 refine wpAny_bind (tupleItemsOf_ ht ?_)
 refine wpAny_bind (wpAny_typeOf hTs ?_)
 rw[if_pos (by decide)]
 refine wpAny_bind (r9 hs ?_)
 have hno:¬((((items.size:Int) - 1)==0&&(-1:Int)==1&&items.size==items.size)=true):=by
  have:((-1:Int)==1)=false:=rfl
  rw[this];simp
 show wpAny _ _ (if(((items.size:Int) - 1)==0&&(-1:Int)==1&&items.size==items.size)=true then _ else _) _ _ s
 rw[if_neg hno,aS2]
 first
  | exact wpAny_bind (m:=Builtin.Tuple.tupleExact _) (wpAny_newObj_type (wpAny_pure ⟨_,rfl,wpAny_pure h⟩) htake)
  | exact wpAny_bind (m:=Builtin.Tuple.tupleExact _) (wpAny_newObj_type (wpAny_bind (wpAny_pure (wpAny_pure ⟨_,rfl,wpAny_pure h⟩))) htake)
  | exact wpAny_bind (wpAny_bind (m:=Builtin.Tuple.tupleExact _) (wpAny_newObj_type (wpAny_pure (wpAny_pure ⟨_,rfl,wpAny_pure h⟩)) htake))
  | exact wpAny_bind (wpAny_bind (m:=Builtin.Tuple.tupleExact _) (wpAny_newObj_type (wpAny_pure ⟨_,rfl,wpAny_pure h⟩) htake))
end
section
variable {X:Cx}{e st:Expr}{te ts:TE}{p2 pos:Pos}
theorem ap9:∀{xs:List V}{us:List Value},B6 xs us->B6 xs.reverse us.reverse
 | [],[],h=>h
 | x::xs,u::us,h=>by
  cases h with
  | cons a b=>rw[List.reverse_cons,List.reverse_cons];exact(ap9 b).append (.cons a .nil)
theorem bt9(he:PE X e te) (hs:PE X st ts):PE X (.Subscript e (.Slice none none (some st) p2) pos)
  (fun σ H Q=>te σ H fun x H1=>ts σ H1 fun y H2=>∃a xs,x=.ref a/\y=.int (-1)/\SqT X.K H2 a xs/\∀p,H2 p=none->Q (.ref p) (upd H2 p (.tup xs.reverse))):=by
 intro pins s σ H Q I h
 refine Subscript_ (thn (he pins s σ H _ I h) fun v s1 ⟨x,H1,I1,r1,q1⟩=>?_)
 refine wpAny_Slice ?_
 rw[evalPart_none]
 refine wpAny_pure (wpAny_pure ?_)
 rw[evalPart_some]
 refine thn (hs pins s1 σ H1 _ I1 q1) fun vs s3 ⟨y,H3,I3,r3,a,xs,e1,e2,hx,q⟩=>?_
 subst e1 e2
 cases r1
 obtain⟨tk,rfl⟩:=r3
 have I4:Inv X pins σ H3 { s3 with heap:=s3.heap.push { cls:=.type "slice", data:=.fields #[.none,.none,.int (-1) tk] } }:=I3.kept (t':=s3.toks) fun b ob q=>Heap.get?_push_of_some _ q
 obtain⟨its,r,ht,hz⟩:=I4.tuple hx
 have hlen:its.toArray.size=xs.length:=by rw[List.size_toArray];exact r.length.symm
 show wpAny (model X.prog X.w) X.A (subscriptTail e (.Slice none none (some st) p2) (.ref a) (.ref s3.heap.objs.size)) (EP X pins σ Q) X.xe { s3 with heap:=s3.heap.push { cls:=.type "slice", data:=.fields #[.none,.none,.int (-1) tk] } }
 refine tail_any (ops:=[.ref a,.ref s3.heap.objs.size]) ht.typeIs PyProof.Rows.slot_tuple_getitem.lookup ?_ (by with_unfolding_all rfl)
 refine m8 ht (Heap.IsSliceOf.new ..) ?_ (by rw[hlen];exact hz)
 refine⟨.ref _,_,I4.laid (t':=s3.toks) (o:=.tup xs.reverse) (fun b ob q=>Heap.get?_push_of_some _ q) (Nat.le_refl _) ?_,rfl,q _ (I4.hok.fresh (Nat.le_refl _))⟩
 exact⟨by rw[List.length_reverse];exact hz,_,ap9 r,af7.new _ _⟩
theorem aQ2{K:PySem.W.Frag}{H:Hp}{ds:List D}{vs:List V}(h:Reps K H ds vs):Reps K H ds.reverse vs.reverse:=by
 induction ds generalizing vs with
 | nil=>cases vs with
  | nil=>exact h
  | cons _ _=>exact absurd h.length (by simp)
 | cons d ds ih=>cases vs with
  | nil=>exact absurd h.length (by simp)
  | cons v vs =>
   obtain⟨v',r',e,h1,h2⟩:=h
   cases e
   rw[List.reverse_cons,List.reverse_cons]
   exact(ih h2).append ⟨_,_,rfl,h1,rfl⟩
theorem bj3(ha:JE X a f) (hs:JE X st (bC6 (dC (.int 1)))):JE X (.Subscript a (.Slice none none (some st) p2) pos) (bp0 f):=fun ρ d q=>by
 obtain⟨x,e1,q⟩:=xbm q
 cases x with
 | tuple xs =>
  cases q
  refine A8 (bt9 (ha ρ _ e1) (hs ρ (.int (-1)) rfl)) fun σ H Q ⟨H0,Hf,s,sl,k⟩=>?_
  refine⟨H0,Hf,s,sl,fun v H1 Hf1 g1 ⟨p,vs,q1,q2,q3⟩=>⟨H0,Hf1,g1.sub,sl.grow g1,fun u H2 Hf2 g2 r2=>?_⟩⟩
  subst q1
  cases r2
  have q2':=B1 g2.ext q2
  have q3':=q3.mono g2.ext
  refine⟨p,vs,rfl,rfl,B1 g2.sub q2',fun p' hp=>?_⟩
  exact k _ _ _ ((g1.trans g2).trans (Grow.laid g2.sub hp)) ⟨p',_,rfl,SqT.of A6,(aQ2 q3').mono (B8 (g2.sub.free hp))⟩
 | _=>cases q
end
section
variable {X:Cx}
noncomputable def atS(x:Str) (i:Int):Option D:=if x.length<=16777216 then(atI x.cps.toList i).map fun c=>.str ⟨#[c]⟩ else none
noncomputable def bL9(f g:DE):DE:=fun ρ=>(f ρ).bind fun x=>(g ρ).bind fun i=>match x,i with
 | .str x,.int i=>atS x i
 | _,_=>none
theorem bz9(ha:JE X a f) (hb:JE X b g) (hs:o6 b:=by intro _ _;rfl):JE X (.Subscript a b pos) (bL9 f g):=fun ρ d q=>by
 obtain⟨x,h1,q⟩:=xbm q
 obtain⟨y,h2,h3⟩:=xbm q
 split at h3
 ·rename_i x i
  unfold atS at h3
  split at h3
  ·rename_i hz
   obtain⟨c,e1,e2⟩:=xmo h3
   subst e2
   refine A8 (bn8 aX2 (ha ρ _ h1) (hb ρ _ h2) hs) fun σ H Q ⟨H0,Hf,s,sl,k⟩=>?_
   refine⟨H0,Hf,s,sl,fun v H1 Hf1 g1 r1=>⟨H0,Hf1,g1.sub,sl.grow g1,fun u H2 Hf2 g2 r2=>?_⟩⟩
   exact .inr (.inr ⟨x,i,c,r1,r2,by rw[sizeLine_eq];exact hz,e1,k _ H2 Hf2 (g1.trans g2) rfl⟩)
  ·cases h3
 ·cases h3
noncomputable def ba3(f:DE) (lo hi:Rho->Option (Option Int)):DE:=fun ρ=>(f ρ).bind fun d=>(lo ρ).bind fun l=>(hi ρ).bind fun h=>match d with
 | .tuple xs=>some (.tuple (aa6 xs l h))
 | .list xs=>some (.list (aa6 xs l h))
 | _=>none
theorem bz5{a:Expr}{lo hi:Option Expr}{f:DE}{l h:Rho->Option (Option Int)}{pos p2:Pos}(ha:JE X a f) (hl:JO X lo l) (hh:JO X hi h):JE X (.Subscript a (.Slice lo hi none p2) pos) (ba3 f l h):=fun ρ d q=>by
 obtain⟨x,e1,q⟩:=xbm q
 obtain⟨y,e2,q⟩:=xbm q
 obtain⟨z,e3,q⟩:=xbm q
 cases x with
 | tuple xs =>
  cases q
  refine aW6 ha hl hh ρ _ ?_
  unfold ap0
  rw[e1,Option.bind_some,e2,Option.bind_some,e3,Option.bind_some]
 | list xs =>
  cases q
  refine A8 (l4 aC3 (ha ρ _ e1) (hl ρ y e2) (hh ρ z e3)) fun σ H Q ⟨H0,Hf,s,sl,k⟩=>?_
  refine⟨H0,Hf,s,sl,fun v H1 Hf1 g1 ⟨p,vs,q1,q2,q3⟩=>⟨H0,Hf1,g1.sub,sl.grow g1,fun H2 Hf2 g2=>⟨H0,Hf2,g2.sub,sl.grow (g1.trans g2),fun H3 Hf3 g3=>?_⟩⟩⟩
  subst q1
  have q2':=J4 (g2.trans g3).ext q2
  have q3':=q3.mono (g2.trans g3).ext
  refine⟨p,vs,rfl,J4 g3.sub q2',fun p' hp=>?_⟩
  exact k _ _ _ (((g1.trans g2).trans g3).trans (Grow.laid g3.sub hp)) ⟨p',_,rfl,SqL.of A6,(ac8 q3' y z).mono (B8 (g3.sub.free hp))⟩
 | _=>cases q
end
section
variable {X:Cx}
theorem aB6:∀{ys:List Str}{us:List Value},B6 (ys.map V.str) us->∃l:List (Str×Tok),us=strValues l/\l.map (·.1)=ys
 | [],[],_=>⟨[],rfl,rfl⟩
 | y::ys,u::us,h=>by
  cases h with
  | cons a b =>
   obtain⟨t,rfl⟩:=a
   obtain⟨l,rfl,rfl⟩:=aB6 b
   exact⟨(y,t)::l,rfl,rfl⟩
noncomputable def ao1(sep:Str) (ys:List Str):Nat:=ys.toArray.foldl (fun n y=>n+y.length+sep.length) 0
noncomputable def bH2(K:PySem.W.Frag):V->List V->Hp->VK->Prop:=fun x vs H Q=>∃sep p ys,x=.str sep/\vs=[.ref p]/\SqL K H p (ys.map V.str)/\ao1 sep ys<=sizeLine/\(Builtin.Str.glued sep ys).length<=sizeLine/\Q (.str (Builtin.Str.glued sep ys)) H
theorem bg9:MtR X "str.join" (bH2 X.K):=by
 intro pins s σ H x vs v us Q I rx rv h
 obtain⟨sep,p,ys,rfl,rfl,hq,hz,hg,q⟩:=h
 obtain⟨t,rfl⟩:=rx
 obtain⟨u,rfl,ru⟩:=rv.one
 cases ru
 obtain⟨its,r,pl,_⟩:=I.list hq
 obtain⟨l,rfl,rfl⟩:=aB6 r
 refine call_meets F.slot_str_join (typeIs_str s sep t) F.entry_str_join (F.args_str_join_2 _ _) (meets_str_join_list sep t p l ?_) ⟨pl.isList,?_⟩
 ·show decide (ao1 sep (l.map (·.1)) > sizeLine)=false
  exact decide_eq_false (by grind)
 ·match l,q,hg with
  | [],q,hg=>exact⟨hg,.str _,H,I.tok _,⟨_,rfl⟩,q⟩
  | [a],q,_=>exact⟨.str _,H,I,⟨_,rfl⟩,q⟩
  | a::b::r,q,hg=>exact⟨hg,.str _,H,I.tok _,⟨_,rfl⟩,q⟩
noncomputable def aO7:List D->Option (List Str)
 | []=>some []
 | .str x::r=>(aO7 r).map fun ys=>x::ys
 | _::_=>none
theorem ah7{K:PySem.W.Frag}{H:Hp}:∀{ds:List D}{ys:List Str}{vs:List V},aO7 ds=some ys->Reps K H ds vs->vs=ys.map V.str
 | [],ys,vs,h,r=>by cases h;exact r
 | .str x::ds,ys,vs,h,r=>by
  obtain⟨zs,e1,e2⟩:=xmo h
  subst e2
  obtain⟨v,r',e,h1,h2⟩:=r
  subst e
  rw[ah7 e1 h2]
  cases h1
  rfl
noncomputable def bp3(f:DE) (g:Rho->Option (Bool×List D)):DE:=fun ρ=>(f ρ).bind fun s=>(g ρ).bind fun q=>match s with
 | .str sep=>if q.1=true then none else(aO7 q.2).bind fun ys=>if ao1 sep ys<=16777216/\(Builtin.Str.glued sep ys).length<=16777216 then some (.str (Builtin.Str.glued sep ys)) else none
 | _=>none
theorem bj5(ho:JE X o f) (h:JQ X e g)
  (hbase:attributeBase o "join" X.env (eval o X.env)=eval o X.env:=by rfl)
  (hfew:((backTo cpos (starEach [e] X.env)).all (fun x=>!x.1)&&(backToKw cpos (keywordEach [] X.env)).all (fun x=>x.1.isSome)
   && decide (([e]:List Expr).length+([]:List Keyword).length+(if([]:List Keyword).isEmpty then 0 else 1) < 30))=true:=by rfl)
  (hline:(apos.endLine==cpos.line)=true:=by rfl) (hs:starEach [e] X.env=[(false,eval e X.env)]:=by rfl) :
  JE X (.Call (.Attribute o "join" apos) [e] [] cpos) (bp3 f g):=fun ρ d q=>by
 obtain⟨s,e1,q⟩:=xbm q
 obtain⟨⟨t,ds⟩,e2,q⟩:=xbm q
 cases s with
 | str sep =>
  cases t with
  | true=>simp at q
  | false =>
   simp only[Bool.false_eq_true,if_false]at q
   obtain⟨ys,e3,q⟩:=xbm q
   split at q
   ·rename_i hz
    cases q
    refine A8 (aD8 F.plainAttrs_str F.slot_str_join F.type_str_join bg9 (ho ρ _ e1) (J8 (h ρ false ds e2) N9 hs) hbase hfew hline hs) fun σ H Q ⟨H0,Hf,s,sl,k⟩=>?_
    refine⟨H0,Hf,s,sl,fun v H1 Hf1 g1 r1=>?_⟩
    cases r1
    refine⟨rfl,H0,Hf1,g1.sub,sl.grow g1,fun w H2 Hf2 g2 ⟨p,vs,z1,z2,z3⟩=>?_⟩
    subst z1
    rw[ah7 e3 z3]at z2
    exact⟨sep,p,ys,rfl,rfl,z2,by rw[sizeLine_eq];exact hz.1,by rw[sizeLine_eq];exact hz.2,k _ H2 Hf2 (g1.trans g2) rfl⟩
   ·cases q
 | _=>cases q
end
section
open PySem.SeqAt PySem.MeetsSeq PySem.MeetsSeq2 PySem.MeetsSeq3 PySem.SeqRoads2
open PySem.AutoSeq1 (wpAny_loadPart')
theorem ac2(l:Addr) (items:Array Value) (n:Nat) (dd:Option Addr) (sl:Array (Option Value)) (x:Value) (e:Nat->Bool) :
  Meets (Builtin.«tuple.__contains__» ⟨[.ref l,x],[]⟩)
   (fun A R s=>s.heap.get? l=some { cls:=.type "tuple", dict:=dd,data:=.seq items n,slots:=sl }/\(∀j (h:j < items.size),EqAt A.in1 s items[j] x (e j))/\R (.ok (.ret (.bool ((List.range items.size).any e)))) s) :=
 .of_wp fun prog w A R s h=>by
  obtain⟨hp,g,d,tk,os⟩:=s;obtain⟨hl,he,h⟩:=h
  wp_walk using wpAny_loadPart' hl,wpAny_forIn_array _ (fun N4 b s'=>b.1=none/\s'=⟨hp,g,d,tk,os⟩/\∃i,N4=items.toList.drop i/\R (.ok (.ret (.bool (((List.range items.size).drop i).any e)))) ⟨hp,g,d,tk,os⟩) _
  case turn =>
   rintro y N4 b s' ⟨hb,rfl,i,hz,hR⟩
   have hlt:i < items.toList.length:=by
    rcases Nat.lt_or_ge i items.toList.length with h'|h'
    ·exact h'
    ·rw[List.drop_of_length_le h']at hz;cases hz
   have hi:i < items.size:=by simpa using hlt
   rw[List.drop_eq_getElem_cons hlt]at hz
   injection hz with hy hrest
   have hy:y=items[i]:=by simpa using hy
   subst hy
   have hd:(List.range items.size).drop i=i::(List.range items.size).drop (i+1):=by simp[List.drop_eq_getElem_cons,hi]
   rw[hd,List.any_cons]at hR
   refine wpAny_bind (he i hi prog w _ _ ?_)
   cases hy:e i with
   | true =>
    rw[hy]at hR
    wp_walk
    exact⟨_,rfl,by simpa using hR⟩
   | false =>
    rw[hy]at hR
    wp_walk
    exact⟨rfl,rfl,i+1,hrest,by simpa using hR⟩
  case fin =>
   rintro⟨b1,b2⟩ s' ⟨hb,rfl,i,hz,hR⟩
   simp only at hb
   subst hb
   have hge:items.size<=i:=by
    rcases Nat.lt_or_ge i items.toList.length with h'|h'
    ·rw[List.drop_eq_getElem_cons h']at hz;cases hz
    ·simpa using h'
   rw[List.drop_of_length_le (by simpa using hge)]at hR
   wp_walk
   exact⟨_,rfl,by simpa using hR⟩
  case h =>exact⟨rfl,rfl,0,by simp,by simpa using h⟩
end
section
variable {X:Cx}
noncomputable def Z4:D->Bool
 | .none=>true
 | .bool _=>true
 | .int _=>true
 | .str _=>true
 | _=>false
noncomputable def toV:D->V
 | .none=>.non
 | .bool b=>.bl b
 | .int i=>.int i
 | .str x=>.str x
 | _=>.non
theorem V1{K:PySem.W.Frag}{H:Hp}{d:D}{v:V}(f:Z4 d=true) (r:Rep K H d v):v=toV d/\d7 v=true:=by
 cases d with
 | none=>cases r;exact⟨rfl,rfl⟩
 | bool b=>cases r;exact⟨rfl,rfl⟩
 | int i=>cases r;exact⟨rfl,rfl⟩
 | str x=>cases r;exact⟨rfl,rfl⟩
 | tuple _=>cases f
 | list _=>cases f
 | dict _=>cases f
theorem t5{K:PySem.W.Frag}{H:Hp}:∀{ds:List D}{vs:List V},ds.all Z4=true->Reps K H ds vs->vs=ds.map toV/\vs.all d7=true
 | [],vs,_,r=>by cases(show vs=[] from r);exact⟨rfl,rfl⟩
 | d::ds,vs,f,r=>by
  rw[List.all_cons,Bool.and_eq_true]at f
  obtain⟨v,r',e,h1,h2⟩:=r
  subst e
  obtain⟨e1,e2⟩:=V1 f.1 h1
  obtain⟨e3,e4⟩:=t5 f.2 h2
  subst e1 e3
  exact⟨rfl,by rw[List.all_cons,e2,e4];rfl⟩
noncomputable def isS:D->Bool
 | .str _=>true
 | _=>false
noncomputable def inD(neg:Bool) (x y:D):Option D:=match y with
 | .list ds=>if Z4 x=true/\ds.all Z4=true then some (.bool (if neg then !inV (toV x) (ds.map toV) else inV (toV x) (ds.map toV))) else none
 | .tuple ds=>if Z4 x=true/\ds.all Z4=true then some (.bool (if neg then !inV (toV x) (ds.map toV) else inV (toV x) (ds.map toV))) else if Z4 x=false/\SeqAt.shaped x=true/\ds.all isS=true then some (.bool neg) else if SeqAt.shaped x=true/\x.depth<=60/\ds.all SeqAt.shaped=true then some (.bool (if neg then !(ds.any fun y=>PyData.eqv y x) else ds.any fun y=>PyData.eqv y x)) else none
 | _=>none
theorem bk9(f:Z4 x=false) (sh:SeqAt.shaped x=true) (r:Reads s.heap v x as) (hu:A.units < cLine) (a:Str) (t:Tok):SeqAt.EqAt A s (.str a t) v false:=by
 cases r with
 | none=>cases f
 | bool _=>cases f
 | int _ _=>cases f
 | str _ _=>cases f
 | list h1 h2 h3 _=>exact SeqAt.EqAt.str_list a t ⟨_,h1,h2,_,h3⟩ hu
 | tuple h1 h2 h3 _=>exact SeqAt.EqAt.str_tuple a t ⟨_,h1,h2,_,h3⟩ hu
 | dict _ _ _ _ _=>exact absurd (SeqAt.canLay_of_shaped sh) (by simp[PyData.canLay0])
theorem at6{K:PySem.W.Frag}{H:Hp}:∀{ds:List D}{vs:List V}{us:List Value},ds.all isS=true->Reps K H ds vs->B6 vs us->∀y∈us,∃a t,y=Value.str a t
 | [],_,_,_,r,w=>by cases(show _=[] from r);cases w;intro y hy;cases hy
 | d::ds,_,_,f,r,w=>by
  rw[List.all_cons,Bool.and_eq_true]at f
  obtain⟨v,r',rfl,h1,h2⟩:=r
  cases w with
  | cons w1 w2 =>
   intro y hy
   rcases List.mem_cons.mp hy with rfl|hy
   ·cases d with
    | str a =>
     cases(show v=.str a from h1)
     obtain⟨t,e⟩:=w1
     exact⟨a,t,e⟩
    | _=>cases f.1
   ·exact at6 f.2 h2 w2 y hy
theorem aX5{x:D}{ds:List D}{vx vy:V}{v u:Value}{pins:List (Addr×Obj)}{s:Shared}{σ:L2.St}{H Hf:Hp}{Q:Value->Shared->Prop}(hu:X.A.units+64 < cLine) (f:Z4 x=false) (sh:SeqAt.shaped x=true) (a:ds.all isS=true) (I:L2.Inv X pins σ H s) (rx:C3 vx v) (ry:C3 vy u) (ss:C0 Hf H) (r1:Rep X.K Hf x vx) (r2:Rep X.K Hf (.tuple ds) vy) :
  (Q (.bool false) s->wpAny (model X.prog X.w) X.A (compareOp .In v u) Q X.xe s)/\(Q (.bool true) s->wpAny (model X.prog X.w) X.A (compareOp .NotIn v u) Q X.xe s):=by
 obtain⟨p,vs,rfl,h2,h3⟩:=r2
 obtain rfl:u=Value.ref p:=ry
 obtain⟨its,rv,pl,_⟩:=I.tuple (B1 ss h2)
 obtain⟨as,rd⟩:=Rep.reads I (r1.mono ss) rx
 have st:=at6 a h3 rv
 have he:∀y,y∈its.toArray->SeqAt.EqAt X.A.in1 s y v ((fun _=>false) y):=fun y hy=>by
  obtain⟨b,t,rfl⟩:=st y (by simpa using hy)
  exact bk9 f sh rd (by show X.A.units+1 < _;grind) b t
 have no:its.toArray.any (fun _=>false)=false:=by simp
 refine⟨fun q=>SeqAt.in_tupleAt (fun _=>false) pl he (by rw[no];exact q),fun q=>SeqAt.notIn_tupleAt (fun _=>false) pl he (by rw[no];exact q)⟩
theorem bH1:∀{vs:List Value}{ds:List D}{as:List Addr},ReadsAll h vs ds as->vs.length=ds.length/\∀(j:Nat) (hj:j < vs.length),∃bs,Reads h vs[j] (ds.getD j .none) bs
 | [],_,_,r=>by cases r;exact⟨rfl,fun j hj=>absurd hj (Nat.not_lt_zero _)⟩
 | v::vs,_,_,r=>by
  cases r with
  | cons r1 r2 =>
   obtain⟨h1,h2⟩:=bH1 r2
   refine⟨by rw[List.length_cons,List.length_cons,h1],fun j hj=>?_⟩
   cases j with
   | zero=>exact⟨_,r1⟩
   | succ j=>exact h2 j (by simpa using hj)
theorem aN4{α:Type}(p:α->Bool) (z:α) (l:List α):(List.range l.length).any (fun j=>p (l.getD j z))=l.any p:=by
 rw[Bool.eq_iff_iff,List.any_eq_true,List.any_eq_true]
 constructor
 ·rintro⟨j,hj,h⟩
  have hj:=List.mem_range.mp hj
  exact⟨l[j],List.getElem_mem hj,by simpa [hj] using h⟩
 ·rintro⟨x,hx,h⟩
  obtain⟨j,hj,rfl⟩:=List.getElem_of_mem hx
  exact⟨j,List.mem_range.mpr hj,by simpa [hj] using h⟩
theorem bc7(hu:X.A.units+64 < cLine) (sx:SeqAt.shaped x=true) (dx:x.depth<=60) (sd:ds.all SeqAt.shaped=true) (I:L2.Inv X pins σ H s) (rx:C3 vx v) (ss:C0 Hf H) (r1:Rep X.K Hf x vx) (h2:SqT X.K Hf p vs) (h3:Reps X.K Hf ds vs) :
  ∃its:List Value,IsTup s.heap p its.toArray/\its.length=ds.length/\∀j (h:j < its.toArray.size),SeqAt.EqAt X.A.in1 s its.toArray[j] v (PyData.eqv (ds.getD j .none) x):=by
 obtain⟨its,rv,pl,_⟩:=I.tuple (B1 ss h2)
 obtain⟨as,rd⟩:=Rep.reads I (r1.mono ss) rx
 obtain⟨bs,ra⟩:=Reps.reads I (h3.mono ss) rv
 obtain⟨e1,e2⟩:=bH1 ra
 refine⟨its,pl,e1,fun j hj=>?_⟩
 have hj':j < its.length:=by simpa using hj
 obtain⟨cs,q⟩:=e2 j hj'
 have hd:j < ds.length:=by grind
 have sj:=List.all_eq_true.mp sd _ (List.getElem_mem hd)
 have ej:ds.getD j .none=ds[j]:=by simp[hd]
 rw[ej]at q ⊢
 have:=SeqAt.eqAt_reads ds[j] x X.A.in1 s _ _ _ _ q rd (SeqAt.canLay_of_shaped sj) (SeqAt.canLay_of_shaped sx) (by show X.A.units+1+_ < _;have:=Nat.min_le_right ds[j].depth x.depth;grind)
 simpa using this
theorem aX4(hu:X.A.units+64 < cLine) (sx:SeqAt.shaped x=true) (dx:x.depth<=60) (sd:ds.all SeqAt.shaped=true) (I:L2.Inv X pins σ H s) (rx:C3 vx v) (ry:C3 vy u) (ss:C0 Hf H) (r1:Rep X.K Hf x vx) (r2:Rep X.K Hf (.tuple ds) vy) :
  (Q (.bool (ds.any fun y=>PyData.eqv y x)) s->wpAny (model X.prog X.w) X.A (compareOp .In v u) Q X.xe s)/\(Q (.bool (!(ds.any fun y=>PyData.eqv y x))) s->wpAny (model X.prog X.w) X.A (compareOp .NotIn v u) Q X.xe s):=by
 obtain⟨p,vs,rfl,h2,h3⟩:=r2
 obtain rfl:u=Value.ref p:=ry
 obtain⟨its,pl,ln,he⟩:=bc7 hu sx dx sd I rx ss r1 h2 h3
 obtain⟨⟨cls,dd,data,sl⟩,ho,hc,n,hd⟩:=id pl
 simp only at hc hd
 subst hc hd
 have ea:(List.range its.toArray.size).any (fun j=>PyData.eqv (ds.getD j .none) x)=ds.any fun y=>PyData.eqv y x:=by
  rw[List.size_toArray,ln]
  exact aN4 (fun y=>PyData.eqv y x) .none ds
 refine⟨fun q=>SeqRoads2.in_meets ⟨_,ho,rfl⟩ F.slot_tuple_contains F.entry_tuple_contains (F.args_tuple_contains_2 _ _) (ac2 p its.toArray n dd sl v _) ⟨ho,he,_,rfl,by rw[ea];exact q⟩,
  fun q=>SeqRoads2.notIn_meets ⟨_,ho,rfl⟩ F.slot_tuple_contains F.entry_tuple_contains (F.args_tuple_contains_2 _ _) (ac2 p its.toArray n dd sl v _) ⟨ho,he,_,rfl,by rw[ea];exact q⟩⟩
theorem aX6{op:CmpOp}{neg:Bool}(o:OpR X (compareOp op) (rIn X.K neg)) (o2:∀x ds,Z4 x=false->SeqAt.shaped x=true->ds.all isS=true->OpR X (compareOp op) (fun vx vy H Q=>∃Hf,C0 Hf H/\Rep X.K Hf x vx/\Rep X.K Hf (.tuple ds) vy/\∀v H' Hf',Grow H Hf H' Hf'->Rep X.K Hf' (.bool neg) v->Q v H'))
  (o3:∀x ds,SeqAt.shaped x=true->x.depth<=60->ds.all SeqAt.shaped=true->OpR X (compareOp op) (fun vx vy H Q=>∃Hf,C0 Hf H/\Rep X.K Hf x vx/\Rep X.K Hf (.tuple ds) vy/\∀v H' Hf',Grow H Hf H' Hf'->Rep X.K Hf' (.bool (if neg then !(ds.any fun y=>PyData.eqv y x) else ds.any fun y=>PyData.eqv y x)) v->Q v H')):OpD X (compareOp op) (inD neg):=fun x y z h=>by
 unfold inD at h
 split at h
 ·split at h
  ·rename_i c
   cases h
   refine OpR.imp o fun vx vy H Q ⟨Hf,s,r1,r2,k⟩=>?_
   obtain⟨p,vs,rfl,h2,h3⟩:=r2
   obtain⟨e1,e2⟩:=V1 c.1 r1
   obtain⟨e3,e4⟩:=t5 c.2 h3
   subst e1 e3
   exact⟨p,_,rfl,.inl (J4 s h2),e2,e4,k _ H Hf (Grow.refl s) rfl⟩
  ·cases h
 ·split at h
  ·rename_i c
   cases h
   refine OpR.imp o fun vx vy H Q ⟨Hf,s,r1,r2,k⟩=>?_
   obtain⟨p,vs,rfl,h2,h3⟩:=r2
   obtain⟨e1,e2⟩:=V1 c.1 r1
   obtain⟨e3,e4⟩:=t5 c.2 h3
   subst e1 e3
   exact⟨p,_,rfl,.inr (B1 s h2),e2,e4,k _ H Hf (Grow.refl s) rfl⟩
  ·split at h
   ·rename_i c
    cases h
    exact o2 _ _ c.1 c.2.1 c.2.2
   ·split at h
    ·rename_i c
     cases h
     exact o3 _ _ c.1 c.2.1 c.2.2
    ·cases h
 ·cases h
theorem bJ0(hu:X.A.units+64 < cLine):OpD X (compareOp .In) (inD false):=aX6 aK0 (fun x ds f sh a pins s σ H vx vy v u Q I rx ry ⟨Hf,ss,r1,r2,k⟩=>(aX5 hu f sh a I rx ry ss r1 r2).1 ⟨.bl false,H,I,rfl,k _ H Hf (Grow.refl ss) rfl⟩)
 fun x ds sx dx sd pins s σ H vx vy v u Q I rx ry ⟨Hf,ss,r1,r2,k⟩=>(aX4 hu sx dx sd I rx ry ss r1 r2).1 ⟨.bl _,H,I,rfl,k _ H Hf (Grow.refl ss) rfl⟩
theorem aT7(hu:X.A.units+64 < cLine):OpD X (compareOp .NotIn) (inD true):=aX6 am7 (fun x ds f sh a pins s σ H vx vy v u Q I rx ry ⟨Hf,ss,r1,r2,k⟩=>(aX5 hu f sh a I rx ry ss r1 r2).2 ⟨.bl true,H,I,rfl,k _ H Hf (Grow.refl ss) rfl⟩)
 fun x ds sx dx sd pins s σ H vx vy v u Q I rx ry ⟨Hf,ss,r1,r2,k⟩=>(aX4 hu sx dx sd I rx ry ss r1 r2).2 ⟨.bl _,H,I,rfl,k _ H Hf (Grow.refl ss) rfl⟩
end
section
variable {X:Cx}
theorem bD1:bootBuiltins "min" = some (.builtin "min"):=by decide +kernel
noncomputable def au6(f g:DE):DE:=fun ρ=>(f ρ).bind fun x=>(g ρ).bind fun y=>match x,y with
 | .int i,.int j=>some (.int (if j < i then j else i))
 | _,_=>none
theorem bj4(hg:Gl X "min") (hm:X.mg "min" = none) (h:JE X e f) (h':JE X e' g) (hc:X.calm=true:=by rfl) (he:starEach [e,e'] X.env=(false,eval e X.env)::starEach [e'] X.env:=by rfl) (he':starEach [e'] X.env=[(false,eval e' X.env)]:=by rfl)
  (hpl:(backTo pos (starEach [e'] X.env)).any (·.1)=false:=by rfl):JE X (.Call (.Name "min" p) [e,e'] [] pos) (au6 f g):=fun ρ d q=>by
 obtain⟨x,h1,q⟩:=xbm q
 obtain⟨y,h2,h3⟩:=xbm q
 split at h3
 ·cases h3
  exact A8 (T5 (aN1 hc) hg hm bD1 (J8 (h ρ _ h1) (J8 (h' ρ _ h2) N9 he') he) (he:=he) (hpl:=hpl)) fun σ H Q ⟨H0,Hf,s,sl,k⟩ =>⟨H0,Hf,s,sl,fun v H1 Hf1 g1 r=>⟨H0,Hf1,g1.sub,sl.grow g1,fun w H2 Hf2 g2 r2=>⟨_,_,by rw[show v=_ from r,show w=_ from r2],k _ H2 Hf2 (g1.trans g2) rfl⟩⟩⟩
 ·cases h3
theorem aX1(Fk:FnOk X.prog X.w X.K X.mg X.base CX0 k f fd ps (spF X.K 0 F)) (hr:Room k X.A) (hg:Gl X x) (hm:X.mg x=some (.ref f)) (hk:PySem.W.keepIn X.K (.ref f)=true) (hb:d8 X.K fd ps [])
  (hdb:(x==("__debug__" : Str))=false:=by decide):JE X (.Call (.Name x p) [] [] pos) (A2 F A3):=fun ρ d q=>by
 have h2:F []=some d:=q
 refine A8 (aT2 Fk hr hg hm hk hb .nil bn9 hdb) fun σ H Q ⟨H0,Hf,s,sl,kk⟩=>?_
 exact⟨rfl,Hf,[],d,s,rfl,h2,fun v H2 Hf2 g2 r2=>kk v H2 Hf2 g2 r2⟩
end
noncomputable def ak0(K:PySem.W.Frag):List D->List Value->Prop
 | [],us=>us=[]
 | d::ds,us=>∃u r,us=u::r/\aB0 K d u/\ak0 K ds r
section
variable {K:PySem.W.Frag}
theorem T3:ak0 K [] []:=rfl
theorem F1(h:aB0 K d u) (t:ak0 K ds us):ak0 K (d::ds) (u::us):=⟨u,us,rfl,h,t⟩
theorem ai3:∀{ds:List D}{us:List Value},ak0 K ds us->∃vs,B6 vs us/\∀H:Hp,Reps K H ds vs
 | [],_,h=>by cases h;exact⟨[],.nil,fun _=>rfl⟩
 | d::ds,_,⟨u,r,e,⟨v,h1,h2⟩,h3⟩=>by
  subst e
  obtain⟨vs,q1,q2⟩:=ai3 h3
  exact⟨v::vs,.cons h1 q1,fun H=>⟨v,vs,rfl,h2 H,q2 H⟩⟩
theorem O5(i:Int) (t:Tok):aB0 K (.int i) (.int i t):=⟨.int i,⟨t,rfl⟩,fun _=>rfl⟩
theorem V8(h:K.lookup a=some o) (hc:o.cls=.type "tuple") (hn:o.dict=none) (hd:o.data=.seq its n) (hz:its.size<=1000) (hi:ak0 K ds its.toList):aB0 K (.tuple ds) (.ref a):=by
 obtain⟨vs,q1,q2⟩:=ai3 hi
 exact⟨.ref a,rfl,fun H=>⟨a,vs,rfl,.inr ⟨o,its,n,h,hc,hn,hd,Nat.le_of_lt (r8 hz),q1⟩,q2 H⟩⟩
end
theorem ar6(l:Addr) (items:Array Value) (n:Nat) (dd:Option Addr) (sl:Array (Option Value)) (u:Tok) :
  Meets (Builtin.«tuple.__mul__» ⟨[.ref l,.int 1 u],[]⟩) (fun _ R s=>s.heap.get? l=some ⟨.type "tuple", dd,.seq items n,sl⟩/\R (.ok (.ret (Value.ref l))) s) :=
 .of_wp fun prog w A R s h=>by
  obtain⟨hp,g,d,tk,os⟩:=s
  obtain⟨hl,h⟩:=h
  wp_walk
  exact⟨_,rfl,h⟩
section
variable {X:Cx}
theorem aT4:OpR X (binaryOp .Mult) (fun x y H Q=>∃l xs,x=.ref l/\y=.int 1/\SqT X.K H l xs/\Q (.ref l) H):=by
 intro pins s σ H x y v u Q I rx ry h
 obtain⟨l,xs,rfl,rfl,hq,q⟩:=h
 cases rx
 obtain⟨t,rfl⟩:=ry
 obtain⟨its,r,p1,_⟩:=I.tuple hq
 obtain⟨⟨cls,dd,data,sl⟩,ho,hc,n,hd⟩:=id p1
 simp only at hc hd
 subst hc hd
 exact wpAny_binaryOp_repeat_ref (T := "tuple") (U := "int") (by decide) ⟨_,ho,rfl⟩ (fun s'=>typeIs_int s' 1 t) x8 F.fills_int_mul F.slot_int_rmul ah8 F.slot_int_index.lookup
  (call_meets F.slot_int_rmul (typeIs_int s 1 t) F.entry_int_rmul (F.args_int_rmul_2 _ _) (k7 1 t l its.toArray n dd sl) ⟨ho,rfl,⟨_,ho,rfl⟩,
   call_meets F.slot_tuple_mul ⟨_,ho,rfl⟩ F.entry_tuple_mul (F.args_tuple_mul_2 _ _) (ar6 l its.toArray n dd sl t) ⟨ho,⟨.ref l,H,I,rfl,q⟩⟩⟩)
theorem al9(a:Int) (t:Tok) (l:Addr) (items:Array Value) (n:Nat) (dd:Option Addr) (sl:Array (Option Value)) :
  Meets (Builtin.«int.__rmul__» ⟨[.int a t,.ref l],[]⟩) (fun _ R s=>s.heap.get? l=some ⟨.type "list", dd,.seq items n,sl⟩/\R (.ok (.ret Value.notImplemented)) s):=Meets.of_wp fun prog w A R s h=>by
 obtain⟨hp,g,d,tk,os⟩:=s
 obtain⟨hl,h⟩:=h
 wp_walk
 exact⟨_,rfl,h⟩
theorem ar8(l:Addr) (items:Array Value) (n:Nat) (dd:Option Addr) (sl:Array (Option Value)) (x:Int) (u:Tok) (c0:¬(!Builtin.List.listFitsIndex x)=true) (c1:¬items.size*x.toNat > (2 ^ 63 - 1) / 8) (c2:¬Builtin.List.listTooLong (items.size*x.toNat)=true) :
  Meets (Builtin.«list.__mul__» ⟨[.ref l,.int x u],[]⟩) (fun _ R s=>s.heap.get? l=some ⟨.type "list", dd,.seq items n,sl⟩/\R (.ok (.ret (Value.ref s.heap.objs.size))) { s with heap:=s.heap.push { cls:=Value.type "list", data:=Data.seq (List.foldl (fun x1 x2=>x1++x2) #[] (List.replicate (if items.isEmpty=true then 0 else x.toNat) items)) } }):=Meets.of_wp fun prog w A R s h=>by
 obtain⟨hp,g,d,tk,os⟩:=s
 obtain⟨hl,h⟩:=h
 have hsz:=AutoListH.joined_fits c2
 wp_walk
 refine wpAny_ite_false (decide_eq_false (Nat.not_lt.mpr hsz)) ?_
 wp_walk
 exact⟨_,rfl,h⟩
theorem bg0:OpR X (binaryOp .Mult) (fun x y H Q=>∃l k xs,x=.ref l/\y=.int k/\SqL X.K H l xs/\0<=k/\k < 1000000/\xs.length*k.toNat<=sizeLine/\∀p,H p=none->Q (.ref p) (upd H p (.lst (List.replicate k.toNat xs).flatten))):=by
 intro pins s σ H x y v u Q I rx ry h
 obtain⟨l,k,xs,rfl,rfl,hq,h1,h2,hz,q⟩:=h
 cases rx
 obtain⟨t,rfl⟩:=ry
 obtain⟨its,r,p1,_⟩:=I.list hq
 obtain⟨⟨cls,dd,data,sl⟩,ho,hc,n,hd⟩:=p1.isList
 simp only at hc hd
 subst hc hd
 have hl:=r.length
 have hlen:its.toArray.size*k.toNat<=sizeLine:=by rw[List.size_toArray,← hl];exact hz
 have hcap:¬its.toArray.size*k.toNat > (2 ^ 63 - 1) / 8:=by
  have:(sizeLine:Nat)<=(2 ^ 63 - 1) / 8:=by decide
  grind
 have hfit:¬(!Builtin.List.listFitsIndex k)=true:=by rw[fitsIndex_both (by grind) (by grind)];exact Bool.false_ne_true
 have hlong:¬Builtin.List.listTooLong (its.toArray.size*k.toNat)=true:=by rw[Y7 hlen];exact Bool.false_ne_true
 have hnew:List.foldl (fun x1 x2=>x1++x2) #[] (List.replicate (if its.toArray.isEmpty=true then 0 else k.toNat) its.toArray)=(List.replicate k.toNat its).flatten.toArray:=by
  rw[aw9]
  cases its with
  | nil=>simp
  | cons a r'=>rw[if_neg (by simp)]
 refine wpAny_binaryOp_repeat_ref (T := "list") (U := "int") (by decide) ⟨_,ho,rfl⟩ (fun s'=>typeIs_int s' k t) noFill_list_mul F.fills_int_mul F.slot_int_rmul repeat_list F.slot_int_index.lookup
  (call_meets F.slot_int_rmul (typeIs_int s k t) F.entry_int_rmul (F.args_int_rmul_2 _ _) (al9 k t l its.toArray n dd sl) ⟨ho,rfl,⟨_,ho,rfl⟩,
   call_meets F.slot_list_mul ⟨_,ho,rfl⟩ F.entry_list_mul (F.args_list_mul_2 _ _) (ar8 l its.toArray n dd sl k t hfit hcap hlong) ⟨ho,?_⟩⟩)
 rw[hnew]
 exact⟨.ref _,_,I.lnew (t':=s.toks) (r.rep k.toNat) (by rw[an7,Nat.mul_comm];exact hz),rfl,q _ I.fresh⟩
noncomputable def R9(x y:D):Option D:=match x,y with
 | .tuple xs,.int k=>if k=1 then some (.tuple xs) else Q8 (.tuple xs) (.int k)
 | .list xs,.int k=>if 0<=k/\k < 1000000/\xs.length*k.toNat<=16777216 then some (.list (List.replicate k.toNat xs).flatten) else none
 | x,y=>Q8 x y
theorem aE0:OpD X (binaryOp .Mult) R9:=fun x y z h=>by
 unfold R9 at h
 split at h
 ·split at h
  ·rename_i xs k c
   subst c
   cases h
   refine OpR.imp aT4 fun vx vy H Q ⟨Hf,s,r1,r2,kk⟩=>?_
   obtain⟨a,vs,rfl,h2,h3⟩:=r1
   exact⟨a,vs,rfl,r2,B1 s h2,kk _ _ _ (Grow.refl s) ⟨a,vs,rfl,h2,h3⟩⟩
  ·exact am9 _ _ z h
 ·split at h
  ·rename_i xs k c
   cases h
   refine OpR.imp bg0 fun vx vy H Q ⟨Hf,s,r1,r2,kk⟩=>?_
   obtain⟨a,vs,rfl,h2,h3⟩:=r1
   refine⟨a,k,vs,rfl,r2,J4 s h2,c.1,c.2.1,by rw[h3.length,sizeLine_eq];exact c.2.2,fun p hp=>?_⟩
   exact kk _ _ _ (Grow.laid s hp) ⟨p,_,rfl,SqL.of A6,(h3.flatten k.toNat).mono (B8 (s.free hp))⟩
  ·cases h
 ·exact am9 _ _ z h
theorem u6(i j:Int):T6 (.int i) (.int j)=some (.int (i+j)):=rfl
noncomputable def bL7(f:Rho->Option (Bool×List D)) (lo hi:Rho->Option (Option Int)):DE:=fun ρ=>(f ρ).bind fun q=>(lo ρ).bind fun l=>(hi ρ).bind fun h=>if q.1=true then none else some (.list (aa6 q.2 l h))
theorem bz4{a:Expr}{lo hi:Option Expr}{f:Rho->Option (Bool×List D)}{l h:Rho->Option (Option Int)}{pos p2:Pos}(ha:JQ X a f) (hl:JO X lo l) (hh:JO X hi h):JE X (.Subscript a (.Slice lo hi none p2) pos) (bL7 f l h):=fun ρ d q=>by
 obtain⟨⟨t,xs⟩,e1,q⟩:=xbm q
 obtain⟨y,e2,q⟩:=xbm q
 obtain⟨z,e3,q⟩:=xbm q
 cases t with
 | true=>simp at q
 | false =>
  simp only[Bool.false_eq_true,if_false]at q
  cases q
  refine A8 (l4 aC3 (ha ρ _ _ e1) (hl ρ y e2) (hh ρ z e3)) fun σ H Q ⟨H0,Hf,s,sl,k⟩=>?_
  refine⟨H0,Hf,s,sl,fun v H1 Hf1 g1 ⟨p,vs,q1,q2,q3⟩=>⟨H0,Hf1,g1.sub,sl.grow g1,fun H2 Hf2 g2=>⟨H0,Hf2,g2.sub,sl.grow (g1.trans g2),fun H3 Hf3 g3=>?_⟩⟩⟩
  subst q1
  have q3':=q3.mono (g2.trans g3).ext
  refine⟨p,vs,rfl,J4 (g2.trans g3).big q2,fun p' hp=>?_⟩
  exact k _ _ _ (((g1.trans g2).trans g3).trans (Grow.laid g3.sub hp)) ⟨p',_,rfl,SqL.of A6,(ac8 q3' y z).mono (B8 (g3.sub.free hp))⟩
noncomputable def E9:DS:=fun _=>none
theorem B9{st:Stmt}:JS X st E9:=fun ρ fl q=>by cases q
noncomputable def aw5(f:DE):Rho->Option Bool:=fun ρ=>(f ρ).bind S4
theorem aV5(o1:OpD X (compareOp op) h1) (o2:OpD X (compareOp op') h2) (ha:JE X a f) (hb:JE X b g) (hc:JE X c k)
  (hm:lastMarks [op,op'] [b,c]=false:=by with_unfolding_all rfl):JT X (.Compare a [op,op'] [b,c] pos) (aw5 (Z5 h1 h2 f g k)):=fun ρ d q=>by
 obtain⟨dd,q,ed⟩:=xbm q
 have ed:=aG6 ed
 subst ed
 obtain⟨x,e1,q⟩:=xbm q
 obtain⟨y,e2,q⟩:=xbm q
 obtain⟨z,e3,q⟩:=xbm q
 split at q
 ·obtain⟨w,e4,e5⟩:=xbm q
  refine am3 (aq6 (o1 x y _ e3) (o2 y w _ e5) (ha ρ x e1) (hb ρ y e2) (hc ρ w e4) hm) fun σ H Q ⟨H0,Hf,s,sl,kk⟩=>?_
  refine⟨H0,Hf,s,sl,fun v H1 Hf1 g1 r1=>⟨H0,Hf1,g1.sub,sl.grow g1,fun u H2 Hf2 g2 r2=>⟨Hf2,g2.sub,r1.mono g2.ext,r2,fun z' H3 Hf3 g3 r3=>?_⟩⟩⟩
  refine⟨true,r3,ae4 ⟨H0,Hf3,g3.sub,sl.grow ((g1.trans g2).trans g3),fun w' H4 Hf4 g4 r4=>⟨Hf4,g4.sub,r2.mono (g3.trans g4).ext,r4,fun z2 H5 Hf5 g5 r5=>?_⟩⟩⟩
  exact⟨d,r5,kk H5 Hf5 ((((g1.trans g2).trans g3).trans g4).trans g5)⟩
 ·cases q
  intro pins s σ H Q I ⟨H0,Hf,ss,sl,kk⟩
  refine aq6 (tc:=fun _ _ _=>False) (r':=fun _ _ _ _=>False) (o1 x y _ e3) (fun _ _ _ _ _ _ _ _ _ _ _ _ h=>h.elim) (ha ρ x e1) (hb ρ y e2) (fun _ _ _ _ _ _ h=>h.elim) hm pins s σ H Q I ?_
  refine⟨H0,Hf,ss,sl,fun v H1 Hf1 g1 r1=>⟨H0,Hf1,g1.sub,sl.grow g1,fun u H2 Hf2 g2 r2=>⟨Hf2,g2.sub,r1.mono g2.ext,r2,fun z' H3 Hf3 g3 r3=>?_⟩⟩⟩
  exact⟨false,r3,ae5 ⟨false,rfl,kk H3 Hf3 ((g1.trans g2).trans g3)⟩⟩
 ·cases q
end
section
variable {prog:Program}{w:World}{A:Around}{E:Value->Shared->Prop}{s:Shared}{t:Bool}
end
section
variable {X:Cx}
end
section
variable {prog:Program}{w:World}{A:Around}{E:Value->Shared->Prop}{s:Shared}
theorem ac7{l b sl:Addr}{items new:Array Value}{n n2:Nat}{vl vu:Value}{lo hi:Option Int}{Q:Unit->Shared->Prop}
    (e:s.heap.get? l=some { cls:=.type "list", data:=.seq items n }) (e2:s.heap.get? b=some { cls:=.type "list", data:=.seq new n2 }) (hne:l≠b)
    (hs:s.heap.IsSliceOf sl vl vu .none) (pl:IsPart vl lo) (pu:IsPart vu hi) (hsz:items.size+new.size<=sizeLine)
    (h:Q () { s with heap:=s.heap.update l (Obj.mapSeq fun xs=>xs.extract 0 (HT.sIx items.size 0 lo)++new++xs.extract (max (HT.sIx items.size 0 lo) (HT.sIx items.size items.size hi)) xs.size) }) :
    wpAny (model prog w) A (setItem (.ref l) (.ref sl) (.ref b)) Q E s:=by
  have hl:s.heap.IsList l items:=PySem.IsL.isList e
  have hb:s.heap.IsList b new:=PySem.IsL.isList e2
  obtain⟨os,hos,hcs,hds⟩:=id hs
  have hTs:s.TypeIs (.ref sl) "slice" := ⟨os,hos,hcs⟩
  have hstep:¬((rawPart none==rawInt 0)=true):=Bool.false_ne_true
  have hsame:Builtin.List.listSameRef (.ref l) (.ref b)=false:=by
    unfold Builtin.List.listSameRef
    exact beq_eq_false_iff_ne.mpr hne
  have hbd:sliceBounds lo hi none items.size=(((HT.sIx items.size 0 lo:Nat):Int),((HT.sIx items.size items.size hi:Nat):Int),1):=by
    obtain⟨h1,h2,h3⟩:=k6 lo hi items.size
    exact Prod.ext h1 (Prod.ext h2 h3)
  have hmax:(max ((HT.sIx items.size 0 lo:Nat):Int) ((HT.sIx items.size items.size hi:Nat):Int)).toNat=max (HT.sIx items.size 0 lo) (HT.sIx items.size items.size hi):=by grind
  have hz':((fun xs:Array Value=>xs.extract 0 (HT.sIx items.size 0 lo)++new++xs.extract (max (HT.sIx items.size 0 lo) (HT.sIx items.size items.size hi)) xs.size) items).size<=sizeLine+1:=by
    simp only[Array.size_append,Array.size_extract]
    grind
  unfold setItem
  try with_reducible refine wpAny_holding ?_
  first|refine wpAny_bind (wpAny_pure ?_)|skip
  refine wpAny_bind (wpAny_sequenceKey hl.typeIs (by decide) ?_)
  refine wpAny_bind (wpAny_callSpecial?_slot (name:=Str.ofString "__setitem__") hl.typeIs slot_list_setitem (wpAny_call_entry slot_list_setitem hl.typeIs entry_list_setitem ?_ (args_list_setitem _ _ _)))
  show wpAny _ _ (Builtin.List.listSubscript? (.ref sl) >>= _) _ _ s
  refine wpAny_bind ?_
  unfold Builtin.List.listSubscript?
  refine wpAny_bind (wpAny_specialOf hTs slice_no_index ?_)
  simp only[Option.isNone_none,if_true]
  refine wpAny_pure ?_
  show wpAny _ _ (typeOf (.ref sl) >>= _) _ _ s
  refine wpAny_bind (wpAny_typeOf hTs ?_)
  first
    | rw[if_neg (by decide)]
    | refine PySem.W.KFB.if_not (by decide) ?_
  rw[listSliceParts_eq]
  refine wpAny_bind (wpAny_bind (wpAny_field hos hds (x:=.none) rfl (wpAny_bind (wpAny_listPart .none ?_))))
  rw[if_neg hstep]
  refine wpAny_bind (wpAny_field hos hds (x:=vl) rfl (wpAny_bind (wpAny_listPart pl ?_)))
  refine wpAny_bind (wpAny_field hos hds (x:=vu) rfl (wpAny_bind (wpAny_listPart pu (wpAny_pure ?_))))
  first
    | simp only[hsame,Bool.false_eq_true,if_false]
    | refine PySem.W.KFB.if_not hsame ?_
    | (dsimp only
       rw[if_neg (by rw[hsame];exact Bool.false_ne_true)])
  refine wpAny_bind (m:=Builtin.List.listAllItems (.ref b) "must assign iterable to extended slice") ?_
  unfold Builtin.List.listAllItems
  refine wpAny_bind (wpAny_typeOf hb.typeIs ?_)
  first
    | refine PySem.W.KFB.if_so (by decide) ?_
    | rw[if_pos (by decide)]
    | simp only[beq_self_eq_true,Bool.true_or,if_true]
  unfold Builtin.List.listItems
  refine wpAny_bind (wpAny_seqItems e2 rfl (wpAny_pure ?_))
  refine wpAny_bind (wpAny_bind (wpAny_seqItems e rfl (wpAny_pure ?_)))
  refine wpAny_bind (wpAny_of_eq ((sliceIndices_raw lo hi none items.size (by simp)).trans (congrArg (pure:Int×Int×Int->Sem (Int×Int×Int)) hbd)) ?_)
  show wpAny _ _ (if((1:Int)==1)=true then _ else _) _ _ s
  rw[if_pos (by decide)]
  refine wpAny_bind (wpAny_rule ?_)
  first
    | simp only[Y7 hsz,Bool.false_eq_true,if_false]
    | refine PySem.W.KFB.if_not (Y7 hsz) ?_
  first|refine wpAny_bind (wpAny_pure ?_)|skip
  show wpAny _ _ (updateSeq l (fun xs=>xs.extract 0 (((HT.sIx items.size 0 lo:Nat):Int)).toNat++new++xs.extract (max ((HT.sIx items.size 0 lo:Nat):Int) ((HT.sIx items.size items.size hi:Nat):Int)).toNat xs.size) >>= _) _ _ s
  rw[hmax,Int.toNat_natCast]
  refine wpAny_bind (wpAny_updateSeq (hz:=Nat.le_trans (Nat.le_add_right _ _) hsz) (_hz':=hz') e rfl ?_)
  refine wpAny_bind (wpAny_letGo ?_)
  first
    | exact wpAny_bind (wpAny_pure (wpAny_pure ⟨.none,rfl,wpAny_pure h⟩))
    | exact wpAny_pure ⟨.none,rfl,wpAny_pure h⟩
end
section
variable {X:Cx}
noncomputable def aq4{α:Type}(xs:List α) (lo hi:Option Int) (ys:List α):List α:=xs.take (HT.sIx xs.length 0 lo)++ys++xs.drop (max (HT.sIx xs.length 0 lo) (HT.sIx xs.length xs.length hi))
theorem aw8{pins:List (Addr×Obj)}{s:Shared}{σ:L2.St}{H:Hp}{l b sl:Addr}{xs ys:List V}{lo hi:Option Int}{vl vu:Value}{Q:Unit->Shared->Prop}(I:Inv X pins σ H s)
  (hH:H l=some (.lst xs)) (hB:H b=some (.lst ys)) (hne:l≠b) (hs:s.heap.IsSliceOf sl vl vu .none) (pl:IsPart vl lo) (pu:IsPart vu hi)
  (hz:xs.length+ys.length<=sizeLine) (h:∀s',Inv X pins σ (upd H l (.lst (aq4 xs lo hi ys))) s'->Q () s') :
  wpAny (model X.prog X.w) X.A (setItem (.ref l) (.ref sl) (.ref b)) Q X.xe s:=by
 obtain⟨z,its,n,r,hl,e⟩:=I.lstM hH
 obtain⟨z2,its2,n2,r2,hl2,e2⟩:=I.lstM hB
 refine ac7 e e2 hne hs pl pu (by rw[List.size_toArray,List.size_toArray];grind) (h _ ?_)
 have hz0:its.toArray.size=xs.length:=by rw[List.size_toArray];exact hl.symm
 refine I.lset (its':=its.take (HT.sIx xs.length 0 lo)++its2++its.drop (max (HT.sIx xs.length 0 lo) (HT.sIx xs.length xs.length hi))) (t':=s.toks) hH e ?_ (B6.append (B6.append (r.take _) r2) (r.drop _)) ?_
 ·have e0:=aJ1 its its2 (HT.sIx xs.length 0 lo) (max (HT.sIx xs.length 0 lo) (HT.sIx xs.length xs.length hi))
  rw[hz0]at e0 ⊢
  exact e0
 ·unfold aq4
  rw[List.length_append,List.length_append,List.length_take,List.length_drop]
  grind
theorem aQ1{K:PySem.W.Frag}{H:Hp}{ds es:List D}{vs us:List V}(h:Reps K H ds vs) (g:Reps K H es us) (lo hi:Option Int):Reps K H (aq4 ds lo hi es) (aq4 vs lo hi us):=by
 unfold aq4
 rw[h.length]
 exact((h.take _).append g).append (h.drop _)
theorem Slots.reOwn{K:PySem.W.Frag}{H0 H Hf:Hp}{ρ:Rho}{σ:L2.St}{i:Nat}{ds ds':List D}{b:Addr}{vs':List V}(sl:Slots K H0 ρ σ H Hf) (eo:ρ[i]? = some (some (.own ds))) (h1:σ[i]? = some (some (.ref b))) (hf:Hf b=none) (h0:H0 b=none) (r:Reps K Hf ds' vs') :
  Slots K H0 (ρ.set i (some (.own ds'))) σ (upd H b (.lst vs')) Hf:=by
 refine⟨by simpa using sl.len,fun j bb z=>?_,fun j k ds1 es c q1 q2 q3 q4=>?_⟩
 ·by_cases qj:i=j
  ·subst qj
   have hi:i < ρ.length:=(List.getElem?_eq_some_iff.mp eo).1
   rw[List.getElem?_set_self hi]at z
   cases z
   exact⟨_,h1,b,vs',rfl,A6,hf,h0,r⟩
  ·rw[List.getElem?_set_ne qj]at z
   obtain⟨u,z1,z2⟩:=sl.is j bb z
   refine⟨u,z1,?_⟩
   cases bb with
   | val d=>exact z2
   | exc C=>exact z2
   | own dd =>
    obtain⟨a',us',y1,y2,y3,y4,y5⟩:=z2
    have ne:a'≠b:=fun zz=>by
     subst zz y1
     exact qj (sl.apart i j ds dd a' eo z h1 z1)
    exact⟨a',us',y1,by rw[A9 ne];exact y2,y3,y4,y5⟩
 ·have f:∀(j:Nat) (es:List D),(ρ.set i (some (B.own ds')))[j]? = some (some (B.own es))->∃dd:List D,ρ[j]? = some (some (B.own dd)):=fun j es q=>by
   by_cases qj:i=j
   ·subst qj;exact⟨ds,eo⟩
   ·rw[List.getElem?_set_ne qj]at q;exact⟨_,q⟩
  obtain⟨d1,q1'⟩:=f j _ q1
  obtain⟨d2,q2'⟩:=f k _ q2
  exact sl.apart j k d1 d2 c q1' q2' q3 q4
noncomputable def bG9(i:Nat) (lo hi:Rho->Option (Option Int)) (f:Rho->Option (List D)):DS:=fun ρ=>(f ρ).bind fun es=>(lo ρ).bind fun l=>(hi ρ).bind fun h=>match ρ[i]? with
 | some (some (.own ds))=>if ds.length+es.length<=16777216 then some (.nx (ρ.set i (some (.own (aq4 ds l h es))))) else none
 | _=>none
theorem bx5(i:Nat) {x:Str}{e:Expr}{lo hi:Option Expr}{f:Rho->Option (List D)}{l h:Rho->Option (Option Int)}{p p2 pos' pos:Pos}(he:JN X e f) (hl:JO X lo l) (hh:JO X hi h) (hN:X.N[i]? = some x:=by rfl)
  (hv:Vis X.env.scope x:=by first|exact Or.inl rfl|exact Or.inr (Or.inl rfl)|exact Or.inr (Or.inr rfl)) (hd:(x==("__debug__" : Str))=false:=by decide) (hcd:(x==("__classdict__" : Str))=false:=by decide)
  (hsw:swapsWith e (some (.Subscript (.Name x p) (.Slice lo hi none p2) pos')) pos.line X.env=pure false:=by rfl):JS X (.Assign [.Subscript (.Name x p) (.Slice lo hi none p2) pos'] e pos) (bG9 i l h f):=fun ρ fl q H0 Hf0=>by
 obtain⟨es,e1,q⟩:=xbm q
 obtain⟨y,e2,q⟩:=xbm q
 obtain⟨z,e3,q⟩:=xbm q
 split at q
 ·rename_i ds eo
  split at q
  ·rename_i hz
   cases q
   intro pins s σ H En I ⟨Hf,a,ee⟩
   refine wpAny_Assign_Subscript (thn (he ρ es e1 pins s σ H (fun v H'=>∃Hf',Grow H Hf H' Hf'/\∃b us,v=.ref b/\H b=none/\H' b=some (.lst us)/\Hf' b=none/\Reps X.K Hf' es us) I ⟨H0,Hf,a.gr.sub,a.sl,fun v H' Hf' g r=>⟨Hf',g,r⟩⟩) fun v s1 ⟨x1,H1,I1,r1,Hf1,g1,b,us,ev,b1,b2,b3,b4⟩=>?_) hsw
   subst ev
   cases r1
   obtain⟨vl0,h1,c,vs,ev,h2,h3,h4,h5⟩:=a.sl.is i _ eo
   subst ev
   refine thn (S3 hN hv hd hcd pins s1 σ H1 (fun v H'=>v=.ref c/\H'=H1) I1 ⟨_,h1,rfl,rfl⟩) fun ov s2 ⟨x2,H2,I2,r2,ex,eH⟩=>?_
   subst ex eH
   cases r2
   have sl1:=a.sl.grow g1
   refine wpAny_Slice (thn (hl ρ y e2 pins s2 σ H2 (fun o H'=>o=y/\∃Hf',Grow H2 Hf1 H' Hf') I2 ⟨H0,Hf1,g1.sub,sl1,fun H' Hf' g=>⟨rfl,Hf',g⟩⟩) fun wl s3 ⟨o3,H3,I3,pl,eo3,Hf3,g3⟩=>?_)
   subst eo3
   have sl3:=sl1.grow g3
   refine thn (hh ρ z e3 pins s3 σ H3 (fun o H'=>o=z/\∃Hf',Grow H3 Hf3 H' Hf') I3 ⟨H0,Hf3,g3.sub,sl3,fun H' Hf' g=>⟨rfl,Hf',g⟩⟩) fun wu s4 ⟨o4,H4,I4,pu,eo4,Hf4,g4⟩=>?_
   subst eo4
   have sl4:=sl3.grow g4
   have gg:Grow H Hf H4 Hf4:=(g1.trans g3).trans g4
   rw[evalPart_none]
   refine wpAny_pure ?_
   have I5:Inv X pins σ H4 { s4 with heap:=s4.heap.push { cls:=.type "slice", data:=.fields #[wl,wu,.none] } }:=I4.kept (t':=s4.toks) fun b ob q=>Heap.get?_push_of_some _ q
   have hc:H4 c=some (.lst vs):=gg.big _ _ h2
   have hb:H4 b=some (.lst us):=(g3.trans g4).big _ _ b2
   have hcb:c≠b:=fun zz=>by subst zz;rw[h2]at b1;cases b1
   have hfc:Hf4 c=none:=gg.nofr h2 h3
   have rd:Reps X.K Hf4 (aq4 ds o3 o4 es) (aq4 vs o3 o4 us):=aQ1 (h5.mono gg.ext) (b4.mono (g3.trans g4).ext) _ _
   refine aw8 I5 hc hb hcb (Heap.IsSliceOf.new ..) pl pu (by rw[h5.length,b4.length,sizeLine_eq];exact hz) fun s' I'=>?_
   have ga:=a.gr.trans gg
   refine⟨σ,_,I',ee σ _ Hf4 ⟨⟨fun d u zz=>?_,fun d u zz=>?_,ga.ext,ga.new⟩,sl4.reOwn eo h1 hfc h4 rd⟩ gg.ext⟩
   ·rw[A9 (A7 zz h4)];exact ga.big d u zz
   ·rw[A9 (A7 zz hfc)];exact ga.sub d u zz
  ·cases q
 ·cases q
theorem bi3(i:Nat) (hN:X.N.Nodup) (S:CompSc X N' n caps scope) (hx:∀e s,X.xe e s->False)
  (hi:JI X tgt iter src) (hg:∀C s0 H0 ex,JG (D6 X N' scope C s0 H0 ex) tgt g) (ht:∀C s0 H0 ex,JTs (D6 X N' scope C s0 H0 ex) ifs c) (he:∀C s0 H0 ex,JE (D6 X N' scope C s0 H0 ex) elt e)
  (hi2:X.N[i]? = some x:=by rfl) (hl:X.env.scope.names.lookup x=some .local:=by rfl) (hsw:swapsWith (.ListComp elt [⟨tgt,iter,ifs,0⟩] scope pos) (some (.Name x pos')) spos.line X.env=pure true:=by rfl)
  (hc:X.calm=true:=by rfl) (hs:∀x,foldedSetIterable iter X.env x=pure x:=by intro _;rfl):JS X (.Assign [.Name x pos'] (.ListComp elt [⟨tgt,iter,ifs,0⟩] scope pos) spos) (aP9 i (J7 n caps src g c e)):=fun ρ fl q H0 Hf0=>by
 obtain⟨out,e1,e2⟩:=xmo q
 subst e2
 obtain⟨ds,e3,k⟩:=h9 (K:=X.K) e1
 refine N8 (ad1 S hx hc hN hi2 hl (hi ρ ds e3) (g:=tgJ X.K g) (tc:=ah3 X.K c) (te:=aB3 X.K e) hg ht (fun C s0 H0 ex pins s σ H Q I ⟨ρ,d,e,t⟩=>he C s0 H0 ex ρ d e pins s σ H Q I t) hsw hs) fun En σ H ⟨Hf,a,ee⟩=>k σ H _ ⟨H0,Hf,a.gr.sub,a.sl,fun v H' Hf' gg ⟨p,vs,z1,z2,z3,z4,z5⟩=>?_⟩
 subst z1
 exact ee _ H' Hf' ⟨a.gr.trans gg,a.sl.setOwn gg (a.gr.big.free z2) z2 z3 z4 z5⟩ gg.ext
noncomputable def bn2:DS:=fun ρ=>some (.ct ρ)
theorem bi4:JS X (.Continue pos) bn2:=fun ρ fl q H0 Hf0=>by
 cases q
 exact N8 aq7 fun En σ H ⟨Hf,a,e⟩=>e σ H Hf a (C0.refl _)
end
section
variable {X:Cx}
noncomputable def bd5(x:Str) (k:Int):Str:=if(k==1 || x.length==0)=true then x else⟨(List.replicate k.toNat x.cps).foldl (·++·) #[]⟩
noncomputable def bv6(x y:D):Option D:=match x,y with
 | .str x,.int k=>if 1<=k/\k<=2/\x.length<=1000/\(bd5 x k).length<=16777216 then some (.str (bd5 x k)) else none
 | _,_=>none
theorem bg7:OpD X (binaryOp .Mult) bv6:=fun x y z h=>by
 unfold bv6 at h
 split at h
 ·split at h
  ·rename_i x k c
   cases h
   intro pins s σ H vx vy v u Q I rx ry ⟨Hf,ss,r1,r2,kk⟩
   cases r1
   cases r2
   obtain⟨t,rfl⟩:=rx
   obtain⟨t2,rfl⟩:=ry
   have w:=kk (.str (bd5 x k)) H Hf (Grow.refl ss) rfl
   have k12:k=1\/k=2:=by grind
   refine P.mul_str (by rw[decide_eq_false (by grind),decide_eq_false (by grind)];rfl) (fun _ _=>by rcases k12 with rfl|rfl<;>grind) (fun _ _=>?_) ?_
   ·unfold Builtin.Str.tooLong
    rw[sizeLine_eq]
    refine decide_eq_false ?_
    rcases k12 with rfl|rfl<;>simp<;>grind
   ·rw[if_neg (by grind)]
    unfold bd5 at w c
    split
    ·rename_i e
     rw[if_pos e]at w
     exact⟨.str x,H,I,⟨_,rfl⟩,w⟩
    ·rename_i e
     rw[if_neg e]at w c
     exact⟨by rw[sizeLine_eq];exact c.2.2.2,.str _,H,I.tok _,⟨_,rfl⟩,w⟩
  ·cases h
 ·cases h
noncomputable def slS(x:Str) (lo hi:Option Int):Str:=if((1:Int)==1&&(Builtin.Str.strSliceIndices lo hi 1 x.length).length==x.length)=true then x else⟨((Builtin.Str.strSliceIndices lo hi 1 x.length).filterMap (x.cps[·]?)).toArray⟩
noncomputable def bL6(f:DE) (lo hi:Rho->Option (Option Int)):DE:=fun ρ=>(f ρ).bind fun d=>(lo ρ).bind fun l=>(hi ρ).bind fun h=>match d with
 | .str x=>if x.length<=1000/\(slS x l h).length<=16777216 then some (.str (slS x l h)) else none
 | _=>none
theorem part_of(h:IsPart u o):∃p:Option (Int×Tok),u=partValue p/\p.map (·.1)=o:=by
 cases h with
 | none=>exact⟨none,rfl,rfl⟩
 | int i t=>exact⟨some (i,t),rfl,rfl⟩
theorem bd3:SlR X (fun x lo hi H Q=>∃z,x=.str z/\(slS z lo hi).length<=16777216/\Q (.str (slS z lo hi)) H):=by
 intro pins s σ H x v vl vu lo hi sl Q I rx hs pl pu h
 obtain⟨z,rfl,hz,q⟩:=h
 obtain⟨t,rfl⟩:=rx
 obtain⟨pl',rfl,rfl⟩:=part_of pl
 obtain⟨pu',rfl,rfl⟩:=part_of pu
 refine⟨"str", _,F.slot_str_getitem.lookup,typeIs_str s z t,wpAny_getItem_str_slice (l:=pl') (u:=pu') (st:=none) hs rfl ?_⟩
 show(if((1:Int)==1&&(Builtin.Str.strSliceIndices (pl'.map (·.1)) (pu'.map (·.1)) 1 z.length).length==z.length)=true then Made.val (.str z t) else Made.str ⟨((Builtin.Str.strSliceIndices (pl'.map (·.1)) (pu'.map (·.1)) 1 z.length).filterMap (z.cps[·]?)).toArray⟩).post _ _
 unfold slS at q hz
 by_cases e:((1:Int)==1&&(Builtin.Str.strSliceIndices (pl'.map (·.1)) (pu'.map (·.1)) 1 z.length).length==z.length)=true
 ·rw[if_pos e]at q ⊢
  exact⟨.str z,H,I,⟨_,rfl⟩,q⟩
 ·rw[if_neg e]at q hz ⊢
  exact⟨by rw[sizeLine_eq];exact hz,.str _,H,I.tok _,⟨_,rfl⟩,q⟩
theorem bz3{a:Expr}{lo hi:Option Expr}{f:DE}{l h:Rho->Option (Option Int)}{pos p2:Pos}(ha:JE X a f) (hl:JO X lo l) (hh:JO X hi h):JE X (.Subscript a (.Slice lo hi none p2) pos) (bL6 f l h):=fun ρ d q=>by
 obtain⟨x,e1,q⟩:=xbm q
 obtain⟨y,e2,q⟩:=xbm q
 obtain⟨z,e3,q⟩:=xbm q
 cases x with
 | str x =>
  simp only at q
  split at q
  ·rename_i c
   cases q
   refine A8 (l4 bd3 (ha ρ _ e1) (hl ρ y e2) (hh ρ z e3)) fun σ H Q ⟨H0,Hf,s,sl,k⟩=>?_
   refine⟨H0,Hf,s,sl,fun v H1 Hf1 g1 r1=>⟨H0,Hf1,g1.sub,sl.grow g1,fun H2 Hf2 g2=>⟨H0,Hf2,g2.sub,sl.grow (g1.trans g2),fun H3 Hf3 g3=>?_⟩⟩⟩
   exact⟨x,r1,c.2,k _ H3 Hf3 ((g1.trans g2).trans g3) rfl⟩
  ·cases q
 | _=>cases q
noncomputable def bs7(i:Nat) (f:DE):DS:=fun ρ=>match ρ[i]? with
 | some (some (.own ds))=>(f ρ).bind fun d=>match d with
  | .list es=>if ds.length+es.length<=16777216 then some (.nx (ρ.set i (some (.own (ds++es))))) else none
  | .tuple es=>if ds.length+es.length<=16777216 then some (.nx (ρ.set i (some (.own (ds++es))))) else none
  | _=>none
 | _=>none
end
section
variable {X:Cx}
noncomputable def bJ5(f g:Rho->Option (Bool×List D)):Rho->Option (List D):=fun ρ=>(f ρ).bind fun p=>(g ρ).bind fun q=>if p.1=false/\q.1=false/\p.2.length+q.2.length<=16777216 then some (p.2++q.2) else none
theorem by6(ha:JQ X a f) (hb:JQ X b g):JN X (.BinOp a .Add b pos) (bJ5 f g):=fun ρ out q=>by
 obtain⟨⟨t1,xs⟩,e1,q⟩:=xbm q
 obtain⟨⟨t2,ys⟩,e2,q⟩:=xbm q
 split at q
 ·rename_i c
  obtain⟨c1,c2,c3⟩:=c
  simp only at c1 c2 c3
  subst c1 c2
  cases q
  refine A8 (aS8 aD9 (ha ρ _ _ e1) (hb ρ _ _ e2)) fun σ H Q ⟨H0,Hf,s,sl,k⟩=>?_
  refine⟨H0,Hf,s,sl,fun v H1 Hf1 g1 ⟨p,vs,z1,z2,z3⟩=>⟨H0,Hf1,g1.sub,sl.grow g1,fun u H2 Hf2 g2 ⟨p',us,z1',z2',z3'⟩=>?_⟩⟩
  subst z1 z1'
  refine⟨p,p',vs,us,rfl,rfl,J4 g2.big z2,z2',by rw[z3.length,z3'.length,sizeLine_eq];exact c3,fun n hn=>?_⟩
  exact k _ _ _ ((g1.trans g2).trans (Grow.made g2.sub hn)) ⟨n,vs++us,rfl,(g1.trans g2).big.free hn,A6,g2.sub.free hn,(z3.mono g2.ext).append z3'⟩
 ·cases q
end
section
variable {X:Cx}
theorem bl1(l b:Addr) (xs ys:Array Value) (n m:Nat) (dd:Option Addr) (sl:Array (Option Value)) (h0:¬(!xs.isEmpty&&Builtin.List.listTooLong (xs.size+ys.size))=true) (h1:xs.size<=sizeLine) (h2:xs.size+ys.size<=sizeLine+1) :
  Meets (Builtin.«list.extend» ⟨[.ref l,.ref b],[]⟩) (fun _ R s=>s.heap.get? l=some { cls:=.type "list", data:=.seq xs n }/\s.heap.get? b=some ⟨.type "list", dd,.seq ys m,sl⟩ /\
   R (.ok (.ret Value.none)) { s with heap:=s.heap.update l (Obj.mapSeq fun x=>x++ys),toks:=s.toks }) :=
 .of_wp fun prog w A R s h=>by
  obtain⟨hp,g,d,tk,os⟩:=s
  obtain⟨hl,hb,h⟩:=h
  have f1:=AutoSeq1.idx_int
  have f2:=AutoSeq1.sub_tuple_tuple
  have f3:=AutoSeq1.sub_list_list
  have f4:=AutoSeq1.sub_tuple_list
  have f5:=AutoSeq1.sub_list_tuple
  have hz':(xs++ys).size<=sizeLine+1:=by rw[Array.size_append];exact h2
  wp_walk using (wpAny_updateSeq hl rfl (hz:=h1) (_hz':=hz')),AutoSeq1.wpAny_loadPart' hl,AutoSeq1.wpAny_loadPart' hb
  exact⟨_,rfl,h⟩
theorem bl0(l b:Addr) (xs ys:Array Value) (n m:Nat) (dd:Option Addr) (sl:Array (Option Value)) (h0:¬(!xs.isEmpty&&Builtin.List.listTooLong (xs.size+ys.size))=true) (h1:xs.size<=sizeLine) (h2:xs.size+ys.size<=sizeLine+1) :
  Meets (Builtin.«list.extend» ⟨[.ref l,.ref b],[]⟩) (fun _ R s=>s.heap.get? l=some { cls:=.type "list", data:=.seq xs n }/\s.heap.get? b=some ⟨.type "tuple", dd,.seq ys m,sl⟩ /\
   R (.ok (.ret Value.none)) { s with heap:=s.heap.update l (Obj.mapSeq fun x=>x++ys),toks:=s.toks }) :=
 .of_wp fun prog w A R s h=>by
  obtain⟨hp,g,d,tk,os⟩:=s
  obtain⟨hl,hb,h⟩:=h
  have f1:=AutoSeq1.idx_int
  have f2:=AutoSeq1.sub_tuple_tuple
  have f3:=AutoSeq1.sub_list_list
  have f4:=AutoSeq1.sub_tuple_list
  have f5:=AutoSeq1.sub_list_tuple
  have hz':(xs++ys).size<=sizeLine+1:=by rw[Array.size_append];exact h2
  wp_walk using (wpAny_updateSeq hl rfl (hz:=h1) (_hz':=hz')),AutoSeq1.wpAny_loadPart' hl,AutoSeq1.wpAny_loadPart' hb
  exact⟨_,rfl,h⟩
noncomputable def bP0(K:PySem.W.Frag):V->List V->Hp->VK->Prop:=fun x vs H Q=>∃l b xs zs,x=.ref l/\vs=[.ref b]/\H l=some (.lst xs)/\(SqL K H b zs\/SqT K H b zs)/\xs.length+zs.length<=sizeLine/\Q .non (upd H l (.lst (xs++zs)))
theorem aU2:MtM X "list.extend" (bP0 X.K):=by
 intro pins s σ H x vs v us Q I rx rv h
 obtain⟨l,b,xs,zs,rfl,rfl,hH,hB,hz,q⟩:=h
 cases rx
 obtain⟨u,rfl,ru⟩:=rv.one
 cases ru
 obtain⟨z,its,n,r,hl,e⟩:=I.lstM hH
 rcases hB with hB|hB
 ·obtain⟨its2,r2,pl,_⟩:=I.list hB
  obtain⟨⟨cls,dd,data,sl⟩,ho,hc,m,hd⟩:=pl.isList
  simp only at hc hd
  subst hc hd
  have hl2:=r2.length
  have hsz:its.toArray.size+its2.toArray.size<=sizeLine:=by rw[List.size_toArray,List.size_toArray];grind
  have hlong:¬(!its.toArray.isEmpty&&Builtin.List.listTooLong (its.toArray.size+its2.toArray.size))=true:=by rw[Y7 hsz,Bool.and_false];exact Bool.false_ne_true
  refine call_meets F.slot_list_extend ⟨_,e,rfl⟩ F.entry_list_extend (F.args_list_extend_2 _ _) (bl1 l b its.toArray its2.toArray n m dd sl hlong (by rw[List.size_toArray];grind) (by grind)) ⟨e,ho,?_⟩
  refine⟨.non,_,I.lset (its':=its++its2) hH e (by simp) (r.append r2) ?_,rfl,q⟩
  rw[List.length_append];grind
 ·obtain⟨its2,r2,pl,_⟩:=I.tuple hB
  obtain⟨⟨cls,dd,data,sl⟩,ho,hc,m,hd⟩:=pl
  simp only at hc hd
  subst hc hd
  have hl2:=r2.length
  have hsz:its.toArray.size+its2.toArray.size<=sizeLine:=by rw[List.size_toArray,List.size_toArray];grind
  have hlong:¬(!its.toArray.isEmpty&&Builtin.List.listTooLong (its.toArray.size+its2.toArray.size))=true:=by rw[Y7 hsz,Bool.and_false];exact Bool.false_ne_true
  refine call_meets F.slot_list_extend ⟨_,e,rfl⟩ F.entry_list_extend (F.args_list_extend_2 _ _) (bl0 l b its.toArray its2.toArray n m dd sl hlong (by rw[List.size_toArray];grind) (by grind)) ⟨e,ho,?_⟩
  refine⟨.non,_,I.lset (its':=its++its2) hH e (by simp) (r.append r2) ?_,rfl,q⟩
  rw[List.length_append];grind
theorem by1(i:Nat) (h:JE X e f) (hN:X.N[i]? = some x) (hv:Vis X.env.scope x) (hd:(x==("__debug__" : Str))=false)
  (hcd:(x==("__classdict__" : Str))=false) (hline:(apos.endLine==cpos.line)=true) (hs:starEach [e] X.env=[(false,eval e X.env)]) :
  JS X (.Expr (.Call (.Attribute (.Name x p) "extend" apos) [e] [] cpos) pos) (bs7 i f):=fun ρ fl q H0 Hf0=>by
 unfold bs7 at q
 split at q
 ·rename_i ds eo
  obtain⟨d,e1,q⟩:=xbm q
  split at q
  ·rename_i es
   split at q
   ·rename_i hz
    cases q
    refine N8 (am5 (aD8 PySem.F.plainAttrs_list PySem.F.slot_list_extend PySem.F.type_list_extend aU2 (S3 hN hv hd hcd) (J8 (h ρ _ e1) N9 hs) rfl (by rw[hs];rfl) hline hs) rfl) fun En σ H ⟨Hf,a,ee⟩=>?_
    obtain⟨v,h1,b,vs,rfl,h2,h3,h4,h5⟩:=a.sl.is i _ eo
    refine⟨_,h1,.inl ⟨rfl,vs,SqL.of h2⟩,H0,Hf,a.gr.sub,a.sl,fun w H' Hf' gg r=>?_⟩
    obtain⟨b2,us,rfl,r1,r2⟩:=r
    have hb:H' b=some (.lst vs):=gg.big _ _ h2
    have hfb:Hf' b=none:=gg.nofr h2 h3
    have g2:=a.gr.trans gg
    have sl2:=a.sl.grow gg
    refine⟨b,b2,vs,us,rfl,rfl,hb,.inl (J4 gg.sub r1),by rw[h5.length,r2.length,sizeLine_eq];exact hz,ee _ _ Hf' ⟨⟨fun c u z=>?_,fun c u z=>?_,g2.ext,g2.new⟩,?_⟩ gg.ext⟩
    ·rw[A9 (A7 z h4)];exact g2.big c u z
    ·rw[A9 (A7 z hfb)];exact g2.sub c u z
    ·exact sl2.reOwn eo h1 hfb h4 ((h5.mono gg.ext).append r2)
   ·cases q
  ·rename_i es
   split at q
   ·rename_i hz
    cases q
    refine N8 (am5 (aD8 PySem.F.plainAttrs_list PySem.F.slot_list_extend PySem.F.type_list_extend aU2 (S3 hN hv hd hcd) (J8 (h ρ _ e1) N9 hs) rfl (by rw[hs];rfl) hline hs) rfl) fun En σ H ⟨Hf,a,ee⟩=>?_
    obtain⟨v,h1,b,vs,rfl,h2,h3,h4,h5⟩:=a.sl.is i _ eo
    refine⟨_,h1,.inl ⟨rfl,vs,SqL.of h2⟩,H0,Hf,a.gr.sub,a.sl,fun w H' Hf' gg r=>?_⟩
    obtain⟨b2,us,rfl,r1,r2⟩:=r
    have hb:H' b=some (.lst vs):=gg.big _ _ h2
    have hfb:Hf' b=none:=gg.nofr h2 h3
    have g2:=a.gr.trans gg
    have sl2:=a.sl.grow gg
    refine⟨b,b2,vs,us,rfl,rfl,hb,.inr (B1 gg.sub r1),by rw[h5.length,r2.length,sizeLine_eq];exact hz,ee _ _ Hf' ⟨⟨fun c u z=>?_,fun c u z=>?_,g2.ext,g2.new⟩,?_⟩ gg.ext⟩
    ·rw[A9 (A7 z h4)];exact g2.big c u z
    ·rw[A9 (A7 z hfb)];exact g2.sub c u z
    ·exact sl2.reOwn eo h1 hfb h4 ((h5.mono gg.ext).append r2)
   ·cases q
  ·cases q
 ·cases q
end
section
variable {prog:Program}{w:World}{A:Around}{R:Result->Shared->Prop}{J:Addr}{fp wr:List Addr}{Gn:Array GenState->Array GenState->Prop}{n:Nat}{P:Nat->Value->Prop}{St:Nat->Shared->Prop}
end
section
variable {prog:Program}{w:World}{A:Around}{E:Value->Shared->Prop}{s:Shared}
end
section
variable {X:Cx}
end
section
variable {X:Cx}
end
end G
namespace G
open PySem PySem.Spec PyProof PyProof.Rows L2
section
variable {X:Cx}
end
end G
namespace G
open PySem PySem.Spec PyProof.Rows L2
section
variable {prog:Program}{w:World}{A:Around}{E:Value->Shared->Prop}{s:Shared}{t:Bool}
theorem ap7(h:Q (s.heap.get? a) s):wpAny M A (loadIfAlive a) Q E s:=fun Γ p _=>by
 show Sem.wp M Γ (.loadIfAlive a .pure) _ _ p s
 rw[Sem.wp_loadIfAlive]
 exact(Sem.wp_pure ..).mpr h
end
noncomputable abbrev ai2(Ts:List Addr) (c:Nat):Obj:={ cls:=.type "list", dict:=none,data:=.seq (Ts.map Value.ref).toArray c,slots:=#[] }
section
variable {X:Cx}{pins:List (Addr×Obj)}{σ:L2.St}{A:Around}{t:Bool}{S e it a:Addr}{ws:List V}
theorem aY7(h:W4 X pins H b) (n:b≠T):W4 X pins (upd H T o) b:=⟨by rw[A9 n];exact h.1,h.2⟩
end
section
variable {X:Cx}
end
end G
namespace G
open PySem PySem.Spec PyProof.Rows L2 PySem.SeqAt PySem.MeetsSeq PySem.MeetsSeq2 PySem.MeetsSeq3 PySem.SeqRoads2
open PySem.AutoSeq1 (wpAny_loadPart')
noncomputable def aA9(A:Around) (s:Shared) (y x:Value) (b:Bool):Prop :=
 ∀(prog:Program) (w:World) (E:Value->Shared->Prop) (Q:Value->Shared->Prop),Q (.bool b) s->wpAny (model prog w) A (richCompare .Lt y x) Q E s
noncomputable def Lx(e:Nat->Bool) (P:Nat->Prop) (m:Nat) (fin:Prop):Prop:=(∃j,j < m/\(∀i,i < j->e i=true)/\e j=false/\P j)\/((∀i,i < m->e i=true)/\fin)
theorem aw3(l b:Addr) (items items2:Array Value) (n n2:Nat) (dd dd2:Option Addr) (sl sl2:Array (Option Value)) (e:Nat->Bool) (c:Bool) :
  Meets (Builtin.«tuple.__lt__» ⟨[.ref l,.ref b],[]⟩)
   (fun A R s=>s.heap.get? l=some { cls:=.type "tuple", dict:=dd,data:=.seq items n,slots:=sl }/\s.heap.get? b=some { cls:=.type "tuple", dict:=dd2,data:=.seq items2 n2,slots:=sl2 } /\
    (∀j (h1:j < items.size) (h2:j < items2.size),EqAt A.in1 s items[j] items2[j] (e j)) /\
    Lx e (fun j=>∀(h1:j < items.size) (h2:j < items2.size),aA9 A.in1 s items[j] items2[j] c) (min items.size items2.size) (c=decide (items.size < items2.size)) /\
    R (.ok (.ret (.bool c))) s) :=
 .of_wp fun prog w A R s h=>by
  obtain⟨hp,g,d,tk,os⟩:=s;obtain⟨hl,hb,he,hx,h⟩:=h
  have f2:=AutoSeq1.sub_tuple_tuple
  have hZ:(items.toList.zip items2.toList).length=min items.size items2.size:=by simp
  wp_walk using wpAny_loadPart' hl,wpAny_loadPart' hb,wpAny_forIn_list _ (fun N4 b s'=>b.1=none/\s'=⟨hp,g,d,tk,os⟩/\∃i,N4=(items.toList.zip items2.toList).drop i/\∀k,k < i->e k=true) _
  case turn =>
   rintro⟨y,x⟩ N4 b s' ⟨hb',rfl,i,hz,hR⟩
   have hlt:i < (items.toList.zip items2.toList).length:=by
    rcases Nat.lt_or_ge i (items.toList.zip items2.toList).length with h'|h'
    ·exact h'
    ·rw[List.drop_of_length_le h']at hz;cases hz
   have hm:i < min items.size items2.size:=hZ ▸ hlt
   have h1:i < items.size:=Nat.lt_of_lt_of_le hm (Nat.min_le_left _ _)
   have h2:i < items2.size:=Nat.lt_of_lt_of_le hm (Nat.min_le_right _ _)
   rw[List.drop_eq_getElem_cons hlt]at hz
   injection hz with hyx hrest
   have hy:y=items[i]:=by have:=congrArg Prod.fst hyx;simpa using this
   have hx':x=items2[i]:=by have:=congrArg Prod.snd hyx;simpa using this
   subst hy hx'
   refine wpAny_bind (he i h1 h2 prog w _ _ ?_)
   cases hy:e i with
   | true =>
    wp_walk
    refine⟨rfl,rfl,i+1,hrest,fun k hk=>?_⟩
    rcases Nat.lt_or_ge k i with q|q
    ·exact hR k q
    ·rw[show k=i by omega];exact hy
   | false =>
    have hc:aA9 A.in1 ⟨hp,g,d,tk,os⟩ items[i] items2[i] c:=by
     rcases hx with⟨j,j1,j2,j3,j4⟩|⟨j1,_⟩
     ·have:j=i:=by
       rcases Nat.lt_trichotomy j i with q|q|q
       ·rw[hR j q]at j3;cases j3
       ·exact q
       ·rw[j2 i q]at hy;cases hy
      subst this
      exact j4 h1 h2
     ·rw[j1 i hm]at hy;cases hy
    simp only[Bool.not_false,if_true]
    refine wpAny_bind (wpAny_rule ?_)
    refine wpAny_bind (hc prog w _ _ ?_)
    wp_walk
    exact⟨_,rfl,h⟩
  case fin =>
   rintro⟨b1,b2⟩ s' ⟨hb',rfl,i,hz,hR⟩
   simp only at hb'
   subst hb'
   have hge:min items.size items2.size<=i:=by
    rcases Nat.lt_or_ge i (items.toList.zip items2.toList).length with h'|h'
    ·rw[List.drop_eq_getElem_cons h']at hz;cases hz
    ·exact hZ ▸ h'
   have hc:c=decide (items.size < items2.size):=by
    rcases hx with⟨j,j1,j2,j3,j4⟩|⟨_,q⟩
    ·rw[hR j (by omega)]at j3;cases j3
    ·exact q
   wp_walk
   refine⟨_,rfl,?_⟩
   rw[hc]at h
   simpa [Builtin.Tuple.tupleCompareSizes] using h
  case h =>exact⟨rfl,rfl,0,rfl,fun k hk=>absurd hk (Nat.not_lt_zero _)⟩
theorem aA9.tuples(hl:s.heap.IsTuple l items) (hb:s.heap.IsTuple b items2) (hu:A.units < cLine)
  (he:∀j (h1:j < items.size) (h2:j < items2.size),EqAt A.in1 s items[j] items2[j] (e j))
  (hx:Lx e (fun j=>∀(h1:j < items.size) (h2:j < items2.size),aA9 A.in1 s items[j] items2[j] c) (min items.size items2.size) (c=decide (items.size < items2.size))):aA9 A s (.ref l) (.ref b) c:=fun prog w E Q h=>by
 obtain⟨⟨cls,dd,data,sl⟩,ho,hc,n,hd⟩:=id hl
 obtain⟨⟨cls2,dd2,data2,sl2⟩,ho2,hc2,n2,hd2⟩:=id hb
 simp only at hc hd hc2 hd2
 subst hc hd hc2 hd2
 exact richCompare_meets_room (op:=.Lt) ⟨_,ho,rfl⟩ ⟨_,ho2,rfl⟩ F.slot_tuple_lt F.entry_tuple_lt (F.args_tuple_lt_2 _ _) (aw3 l b items items2 n n2 dd dd2 sl sl2 e c)
  ⟨ho,ho2,he,hx,show Value.bool c≠Value.notImplemented/\Q (.bool c) s from⟨(fun x=>nomatch x),h⟩⟩ hu
mutual
noncomputable def ltD:D->D->Option Bool
 | .int i,.int j=>some (decide (i < j))
 | .tuple xs,.tuple ys=>ltDs xs ys
 | _,_=>none
noncomputable def ltDs:List D->List D->Option Bool
 | [],[]=>some false
 | [],_::_=>some true
 | _::_,[]=>some false
 | x::xs,y::ys=>if PyData.eqv x y=true then ltDs xs ys else ltD x y
end
theorem aE5:∀{xs ys:List D}{c:Bool},ltDs xs ys=some c->Lx (pairEq xs ys) (fun j=>ltD (xs.getD j .none) (ys.getD j .none)=some c) (min xs.length ys.length) (c=decide (xs.length < ys.length))
 | [],[],c,h=>.inr ⟨fun i hi=>by simp at hi,by rw[ltDs]at h;cases h;rfl⟩
 | [],y::ys,c,h=>.inr ⟨fun i hi=>by simp at hi,by rw[ltDs]at h;cases h;simp⟩
 | x::xs,[],c,h=>.inr ⟨fun i hi=>by simp at hi,by rw[ltDs]at h;cases h;simp⟩
 | x::xs,y::ys,c,h=>by
  rw[ltDs]at h
  split at h
  ·rename_i e
   rcases aE5 h with⟨j,j1,j2,j3,j4⟩|⟨j1,j2⟩
   ·refine .inl ⟨j+1,by simp only[List.length_cons];omega,fun i hi=>?_,j3,j4⟩
    cases i with
    | zero=>exact e
    | succ i=>exact j2 i (by omega)
   ·refine .inr ⟨fun i hi=>?_,by rw[j2];simp⟩
    cases i with
    | zero=>exact e
    | succ i=>exact j1 i (by simp only[List.length_cons]at hi;omega)
  ·rename_i e
   exact .inl ⟨0,by simp only[List.length_cons];omega,fun i hi=>absurd hi (Nat.not_lt_zero _),by simpa [pairEq] using e,h⟩
theorem ReadsAll.len:∀{vs:List Value}{ds:List D}{as:List Addr},ReadsAll h vs ds as->vs.length=ds.length
 | [],_,_,r=>by cases r;rfl
 | v::vs,_,_,r=>by cases r with|cons r1 r2=>rw[List.length_cons,List.length_cons,ReadsAll.len r2]
theorem ReadsAll.at:∀{vs:List Value}{ds:List D}{as:List Addr},ReadsAll h vs ds as->∀(j:Nat) (hj:j < vs.length),∃bs,Reads h vs[j] (ds.getD j .none) bs
 | [],_,_,r,j,hj=>absurd hj (Nat.not_lt_zero _)
 | v::vs,_,_,r,j,hj=>by
  cases r with
  | cons r1 r2 =>
   cases j with
   | zero=>exact⟨_,r1⟩
   | succ j=>exact ReadsAll.at r2 j (by simpa using hj)
theorem aj2:∀{xs:List D}{j:Nat},j < xs.length->(xs.getD j .none).depth<=PyData.depthAll xs
 | [],j,h=>absurd h (Nat.not_lt_zero _)
 | x::xs,0,h=>by simp only[List.getD_cons_zero,PyData.depthAll];omega
 | x::xs,j+1,h=>by
  have:=aj2 (xs:=xs) (j:=j) (by simpa using h)
  simp only[List.getD_cons_succ,PyData.depthAll];omega
theorem an9:∀{xs:List D}{j:Nat},PyData.canLayAll0 xs=true->(xs.getD j .none).canLay0=true
 | [],j,h=>by simp[PyData.canLay0]
 | x::xs,0,h=>by simp[PyData.canLayAll0]at h;exact h.1
 | x::xs,j+1,h=>by simp[PyData.canLayAll0]at h;simpa using an9 (j:=j) h.2
theorem ad8:∀(n:Nat) (da db:D) (A:Around) (s:Shared) (a b:Value) (as bs:List Addr) (c:Bool),da.depth<=n->Reads s.heap a da as->Reads s.heap b db bs->da.canLay0=true->db.canLay0=true->A.units+n < cLine->ltD da db=some c->aA9 A s a b c
 | n,.int i,.int j,A,s,_,_,_,_,c,hn,ra,rb,_,_,hu,h=>by
  rw[ltD]at h;cases h
  cases ra;cases rb
  exact fun prog w E Q q=>lt_int q
 | 0,.tuple xs,.tuple ys,A,s,_,_,_,_,c,hn,ra,rb,ha,hb,hu,h=>by simp[PyData.depth]at hn
 | n+1,.tuple xs,.tuple ys,A,s,_,_,_,_,c,hn,ra,rb,ha,hb,hu,h=>by
  rw[ltD]at h
  have hd:PyData.depthAll xs<=n:=by simp[PyData.depth]at hn;omega
  cases ra with
  | tuple h1 h2 h3 h4 =>
   cases rb with
   | tuple k1 k2 k3 k4 =>
    rename_i vs m1 a' o' vs' m2
    have n1:=ReadsAll.len h4
    have n2:=ReadsAll.len k4
    have z1:vs.size=xs.length:=by simpa using n1
    have z2:vs'.size=ys.length:=by simpa using n2
    refine aA9.tuples (e:=pairEq xs ys) ⟨_,h1,h2,_,h3⟩ ⟨_,k1,k2,_,k3⟩ (by omega) (fun j j1 j2=>?_) ?_
    ·have:=eqAt_readsAll xs ys A.in1 s vs.toList vs'.toList _ _ h4 k4 ha hb (by show A.units+1+_ < _;have:=Nat.min_le_left (PyData.depthAll xs) (PyData.depthAll ys);omega) j (by simpa using j1) (by simpa using j2)
     simpa using this
    ·rcases aE5 h with⟨j,j1,j2,j3,j4⟩|q
     ·refine .inl ⟨j,by rw[z1,z2];exact j1,j2,j3,fun i1 i2=>?_⟩
      obtain⟨as',r1⟩:=ReadsAll.at h4 j (by simpa using i1)
      obtain⟨bs',r2⟩:=ReadsAll.at k4 j (by simpa using i2)
      have:=ad8 n (xs.getD j .none) (ys.getD j .none) A.in1 s _ _ _ _ c (Nat.le_trans (aj2 (by omega)) hd) r1 r2 (an9 ha) (an9 hb) (by show A.units+1+n < _;omega) j4
      simpa using this
     ·exact .inr ⟨fun i hi=>q.1 i (by rw[z1,z2]at hi;exact hi),by rw[q.2,z1,z2]⟩
 | _,.none,_,_,_,_,_,_,_,_,_,_,_,_,_,_,h=>by simp[ltD]at h
 | _,.bool _,_,_,_,_,_,_,_,_,_,_,_,_,_,_,h=>by simp[ltD]at h
 | _,.str _,_,_,_,_,_,_,_,_,_,_,_,_,_,_,h=>by simp[ltD]at h
 | _,.list _,_,_,_,_,_,_,_,_,_,_,_,_,_,_,h=>by simp[ltD]at h
 | _,.dict _,_,_,_,_,_,_,_,_,_,_,_,_,_,_,h=>by simp[ltD]at h
 | _,.int _,.none,_,_,_,_,_,_,_,_,_,_,_,_,_,h=>by simp[ltD]at h
 | _,.int _,.bool _,_,_,_,_,_,_,_,_,_,_,_,_,_,h=>by simp[ltD]at h
 | _,.int _,.str _,_,_,_,_,_,_,_,_,_,_,_,_,_,h=>by simp[ltD]at h
 | _,.int _,.list _,_,_,_,_,_,_,_,_,_,_,_,_,_,h=>by simp[ltD]at h
 | _,.int _,.tuple _,_,_,_,_,_,_,_,_,_,_,_,_,_,h=>by simp[ltD]at h
 | _,.int _,.dict _,_,_,_,_,_,_,_,_,_,_,_,_,_,h=>by simp[ltD]at h
 | _,.tuple _,.none,_,_,_,_,_,_,_,_,_,_,_,_,_,h=>by simp[ltD]at h
 | _,.tuple _,.bool _,_,_,_,_,_,_,_,_,_,_,_,_,_,h=>by simp[ltD]at h
 | _,.tuple _,.int _,_,_,_,_,_,_,_,_,_,_,_,_,_,h=>by simp[ltD]at h
 | _,.tuple _,.str _,_,_,_,_,_,_,_,_,_,_,_,_,_,h=>by simp[ltD]at h
 | _,.tuple _,.list _,_,_,_,_,_,_,_,_,_,_,_,_,_,h=>by simp[ltD]at h
 | _,.tuple _,.dict _,_,_,_,_,_,_,_,_,_,_,_,_,_,h=>by simp[ltD]at h
end G
namespace G
open PySem PySem.Spec PyProof.Rows L2
section
open PySem.SeqAt PySem.MeetsSeq PySem.MeetsSeq2 PySem.MeetsSeq3 PySem.SeqRoads2
open PySem.AutoSeq1 (wpAny_loadPart')
end
section
variable {X:Cx}
end
section
variable {X:Cx}
noncomputable def lsB(x:D) (ds:List D):Prop:=SeqAt.shaped x=true/\x.depth<=60/\ds.all SeqAt.shaped=true/\ds.all Z4=true
instance (x:D) (ds:List D):Decidable (lsB x ds):=by unfold lsB;exact inferInstance
end
end G
namespace L2
open PySem PySem.Spec PyProof.Rows
section
variable {κ:Type} [DecidableEq κ]
noncomputable def j8(kvs:List (κ×V)) (k:κ):Option V:=(kvs.find? fun kv=>decide (kv.1=k)).map (·.2)
noncomputable def c8(kvs:List (κ×V)) (k:κ) (v:V):List (κ×V) :=
 if(kvs.any fun kv=>decide (kv.1=k))=true then kvs.map (fun kv=>if kv.1=k then(kv.1,v) else kv) else kvs++[(k,v)]
theorem ac0{p:κ×V}{r:List (κ×V)}{k:κ}(e:p.1=k):j8 (p::r) k=some p.2:=by simp[j8,List.find?_cons,e]
theorem ac1{p:κ×V}{r:List (κ×V)}{k:κ}(e:¬p.1=k):j8 (p::r) k=j8 r k:=by simp[j8,List.find?_cons,e]
theorem y8(kvs:List (κ×V)) (k:κ) (v:V):(c8 kvs k v).length<=kvs.length+1:=by
 unfold c8
 split
 ·rw[List.length_map];omega
 ·rw[List.length_append,List.length_cons,List.length_nil];omega
theorem aa7.isSome_eq{o:Option V}{u:Option Value}(r:aa7 o u):o.isSome=u.isSome:=by
 cases o with
 | none=>cases u with
  | none=>rfl
  | some _=>exact(show False from r).elim
 | some _=>cases u with
  | none=>exact(show False from r).elim
  | some _=>rfl
theorem aa7.getD{o:Option V}{u:Option Value}{d:V}{d':Value}(r:aa7 o u) (rd:C3 d d'):C3 (o.getD d) (u.getD d'):=by
 cases o with
 | none=>cases u with
  | none=>exact rd
  | some _=>exact(show False from r).elim
 | some _=>cases u with
  | none=>exact(show False from r).elim
  | some _=>exact r
theorem KV.val{kvs:List (κ×V)}{vs:List (κ×Value)}(r:KV kvs vs) (k:κ):aa7 (j8 kvs k) (valueAt vs k):=by
 unfold KV at r
 induction r with
 | nil=>exact True.intro
 | @cons p q ps qs h t ih =>
  obtain⟨h1,h2⟩:=h
  by_cases e:p.1=k
  ·have e':q.1=k:=h1.symm.trans e
   have b:valueAt (q::qs) k=some q.2:=by simp[valueAt,List.find?_cons,e']
   rw[ac0 e,b];exact h2
  ·have e':¬q.1=k:=fun z=>e (h1.trans z)
   have b:valueAt (q::qs) k=valueAt qs k:=by simp[valueAt,List.find?_cons,e']
   rw[ac1 e,b];exact ih
theorem KV.any{kvs:List (κ×V)}{vs:List (κ×Value)}(r:KV kvs vs) (k:κ):(kvs.any fun kv=>decide (kv.1=k))=vs.any fun kv=>decide (kv.1=k):=by
 unfold KV at r
 induction r with
 | nil=>rfl
 | cons h t ih=>rw[List.any_cons,List.any_cons,ih,h.1]
theorem KV.repl{kvs:List (κ×V)}{vs:List (κ×Value)}(r:KV kvs vs) (k:κ) {y:V}{u:Value}(ry:C3 y u) :
  KV (kvs.map fun kv=>if kv.1=k then(kv.1,y) else kv) (vs.map fun kv=>if kv.1=k then(kv.1,u) else kv):=by
 unfold KV at r ⊢
 induction r with
 | nil=>exact .nil
 | @cons p q ps qs h t ih =>
  rw[List.map_cons,List.map_cons]
  refine .cons ?_ ih
  obtain⟨h1,h2⟩:=h
  by_cases e:p.1=k
  ·rw[if_pos e,if_pos (h1.symm.trans e)];exact⟨h1,ry⟩
  ·rw[if_neg e,if_neg (fun z=>e (h1.trans z))];exact⟨h1,h2⟩
theorem KV.put{kvs:List (κ×V)}{vs:List (κ×Value)}(r:KV kvs vs) (k:κ) {y:V}{u:Value}(ry:C3 y u):KV (c8 kvs k y) (stored vs k u):=by
 unfold c8 stored
 rw[r.any k]
 by_cases e:(vs.any fun kv=>decide (kv.1=k))=true
 ·rw[if_pos e,if_pos e];exact r.repl k ry
 ·rw[if_neg e,if_neg e];exact Paired.snoc r ⟨rfl,ry⟩
end
theorem ai5{P:Program}{w:World}{k:Key}{u:Value}(r:C3 (kV k) u):(E8 P w).is k u=true:=by
 cases k with
 | inl i=>obtain⟨t,e⟩:=(show ∃t,u=Value.int i t from r);subst e;exact as0 P w i t
 | inr x=>obtain⟨t,e⟩:=(show ∃t,u=Value.str x t from r);subst e;exact y6 P w x t
theorem ai8{P:Program}{w:World}:∀{ks:List Key}{us:List Value},B6 (ks.map kV) us->ItemsAre (E8 P w) ks us
 | [],_,r=>by rw[List.map_nil]at r;cases r;exact .nil
 | k::ks,_,r=>by
  rw[List.map_cons]at r
  cases r with
  | cons h t=>exact .cons (ai5 h) (ai8 t)
noncomputable abbrev KT(H:Hp):List (List Key×V)->List (List Key×Addr×Value)->Prop:=Paired fun p q=>p.1=q.1/\H q.2.1=some (.tup (p.1.map kV))/\C3 p.2 q.2.2
theorem KT.val{H:Hp}{kvs:List (List Key×V)}{xs:List (List Key×Addr×Value)}(r:KT H kvs xs) (k:List Key):aa7 (j8 kvs k) ((atKey xs k).map (·.2)):=by
 induction r with
 | nil=>exact True.intro
 | @cons p q ps qs h t ih =>
  obtain⟨h1,_,h2⟩:=h
  by_cases e:p.1=k
  ·have e':q.1=k:=h1.symm.trans e
   have b:atKey (q::qs) k=some q.2:=by simp[atKey,List.find?_cons,e']
   rw[ac0 e,b];exact h2
  ·have e':¬q.1=k:=fun z=>e (h1.trans z)
   have b:atKey (q::qs) k=atKey qs k:=by simp[atKey,List.find?_cons,e']
   rw[ac1 e,b];exact ih
section
variable {P:Program}{w:World}{H:Hp}{h:Heap}{a:Addr}
theorem bn3{u:HO}(ok:HOk P w H h) (e:Rd H a u):M8 P w H h a u:=e.ok ok
theorem ae9{kvs:List (Key×V)}(ok:HOk P w H h) (e:Rd H a (.dK kvs)):kvs.length<=sizeLine/\(a==sysModules)=false/\∃vs,KV kvs vs/\h.DictOf (E8 P w) a vs :=
 show M8 P w H h a (.dK kvs) from bn3 ok e
theorem bL5{kvs:List (Key×V)}(ok:HOk P w H h) (e:H a=some (.dK kvs)):kvs.length<=sizeLine/\(a==sysModules)=false/\∃vs,KV kvs vs/\h.DictOf (E8 P w) a vs:=ae9 ok (.inl e)
theorem ae2{ks:List Key}(ok:HOk P w H h) (e:H a=some (.tup (ks.map kV))):(tupleKind (E8 P w)).is h ks a:=by
 obtain⟨_,its,r,o,h1,h2,⟨n,h3⟩,_⟩:=(show M8 P w H h a (.tup (ks.map kV)) from ok a _ e)
 exact⟨o,its.toArray,n,h1,h2,h3,by simpa using ai8 r⟩
theorem aj0{kvs:List (List Key×V)}(ok:HOk P w H h) (e:Rd H a (.dT kvs)):kvs.length<=sizeLine/\(a==sysModules)=false /\
  ∃xs,KT H kvs xs/\h.DictOfH (tupleKind (E8 P w)) a xs:=by
 obtain⟨z,y,xs,r,o,es,ep,h1,h2,h3,h4,h5⟩:=(show M8 P w H h a (.dT kvs) from bn3 ok e)
 refine⟨z,y,xs,r,o,es,ep,h1,h2,h3,h4,fun x hx=>?_,h5⟩
 have all:∀{l:List (List Key×V)}{m:List (List Key×Addr×Value)},KT H l m->∀x∈m,(tupleKind (E8 P w)).is h x.1 x.2.1:=by
  intro l m q
  induction q with
  | nil=>intro x hx;exact nomatch hx
  | @cons p q ps qs hq t ih =>
   intro x hx
   rcases List.mem_cons.mp hx with e|hx
   ·subst e
    exact ae2 ok (by rw[← hq.1];exact hq.2.1)
   ·exact ih x hx
 exact all r x hx
end
noncomputable def w6(H:Hp) (a:Addr) (y:V) (r:Option V):Prop :=
 (∃kvs k,Rd H a (.dK kvs)/\y=kV k/\r=j8 kvs k)\/∃kvs k b,Rd H a (.dT kvs)/\y=.ref b/\H b=some (.tup (k.map kV))/\r=j8 kvs k
theorem w6.k{H:Hp}{a:Addr}{kvs:List (Key×V)}{k:Key}(e:H a=some (.dK kvs)):w6 H a (kV k) (j8 kvs k):=.inl ⟨kvs,k,.inl e,rfl,rfl⟩
section
variable {X:Cx}{pins:List (Addr×Obj)}{σ:St}{H:Hp}{s:Shared}{a:Addr}{y v:V}{u r:Value}{o:Option V}{A:Around}{E:Value->Shared->Prop}
theorem Inv.big(I:Inv X pins σ H s):sysModules < s.heap.objs.size:=by
 have h:mainGlobals < s.heap.objs.size:=(I.mod.glob.keeps I.bk).lt
 exact Nat.lt_trans (by decide) h
theorem aM4{Q:Value->Shared->Prop}(hu:A.units+1 < cLine) (I:Inv X pins σ H s) (g:w6 H a y (some v)) (ry:C3 y u) (h:∀w' s',Inv X pins σ H s'->C3 v w'->Q w' s') :
  wpAny (model X.prog X.w) A (getItem (.ref a) u) Q E s:=by
 rcases g with⟨kvs,k,e,ey,l⟩|⟨kvs,k,b,e,ey,eb,l⟩
 ·subst ey
  obtain⟨z,hd,vs,rel,dd⟩:=ae9 I.hok e
  obtain⟨w',hw,rw'⟩:=aa7.some_of (v:=v) (o:=valueAt vs k) (by rw[l];exact rel.val k)
  exact wpAny_getItem_of (ai5 ry) dd.mapOf hw (h w' _ (I.tok _) rw')
 ·subst ey
  cases(show u=Value.ref b from ry)
  obtain⟨z,hd,xs,rel,dd⟩:=aj0 I.hok e
  obtain⟨w',hw,rw'⟩:=aa7.some_of (v:=v) (o:=(atKey xs k).map (·.2)) (by rw[l];exact rel.val k)
  obtain⟨p,hp,hp2⟩:=xmo hw
  refine wpAny_getItem_heap (tupleKind_room_in1 hu) (ae2 I.hok eb) dd hp ?_
  rw[hp2]
  exact h w' _ (I.tok _) rw'
theorem bP7{Q:Value->Shared->Prop}(hu:A.units+1 < cLine) (I:Inv X pins σ H s) (g:w6 H a y o) (ry:C3 y u) (h:∀s',Inv X pins σ H s'->Q (.bool o.isSome) s') :
  wpAny (model X.prog X.w) A (compareOp .In u (.ref a)) Q E s:=by
 rcases g with⟨kvs,k,e,ey,l⟩|⟨kvs,k,b,e,ey,eb,l⟩
 ·subst ey
  obtain⟨z,hd,vs,rel,dd⟩:=ae9 I.hok e
  refine wpAny_in_of (ai5 ry) hd dd.mapOf ?_
  rw[← (rel.val k).isSome_eq,← l]
  exact h _ (I.tok _)
 ·subst ey
  cases(show u=Value.ref b from ry)
  obtain⟨z,hd,xs,rel,dd⟩:=aj0 I.hok e
  refine wpAny_in_heap (tupleKind_room_in1 hu) (ae2 I.hok eb) hd dd ?_
  have q:=(rel.val k).isSome_eq
  rw[Option.isSome_map]at q
  rw[← q,← l]
  exact h _ (I.tok _)
theorem bl4{Q:Value->Shared->Prop}(hu:A.units+1 < cLine) (I:Inv X pins σ H s) (g:w6 H a y o) (ry:C3 y u) (h:∀s',Inv X pins σ H s'->Q (.bool (!o.isSome)) s') :
  wpAny (model X.prog X.w) A (compareOp .NotIn u (.ref a)) Q E s:=by
 rcases g with⟨kvs,k,e,ey,l⟩|⟨kvs,k,b,e,ey,eb,l⟩
 ·subst ey
  obtain⟨z,hd,vs,rel,dd⟩:=ae9 I.hok e
  refine wpAny_notIn_of (ai5 ry) hd dd.mapOf ?_
  rw[← (rel.val k).isSome_eq,← l]
  exact h _ (I.tok _)
 ·subst ey
  cases(show u=Value.ref b from ry)
  obtain⟨z,hd,xs,rel,dd⟩:=aj0 I.hok e
  refine wpAny_notIn_heap (tupleKind_room_in1 hu) (ae2 I.hok eb) hd dd ?_
  have q:=(rel.val k).isSome_eq
  rw[Option.isSome_map]at q
  rw[← q,← l]
  exact h _ (I.tok _)
theorem aF8{h':Heap}{t':Nat}{ob:HO}(I:Inv X pins σ H s) (mu:Mut (H a)) (hs:Heap.SameBut a s.heap h') (he:∃q,h'.get? a=some q) (new:M8 X.prog X.w (upd H a ob) h' a ob) :
  Inv X pins σ (upd H a ob) { s with heap:=h',toks:=t' } :=
 I.write (x:=a) (e:=a) mu (.inl rfl) (fun b q hb z=>(hs.2 b hb).trans z) he new
theorem aZ7{P:Program}{w:World}{H':Hp}{h':Heap}{kvs:List (Key×V)}{vs:List (Key×Value)}(z:kvs.length<=sizeLine) (hd:(a==sysModules)=false) (rel:KV kvs vs) (dd:h'.DictOf (E8 P w) a vs) :
  M8 P w H' h' a (.dK kvs):=⟨z,hd,vs,rel,dd⟩
end
section
variable {X:Cx}{pins:List (Addr×Obj)}{σ:St}{H:Hp}{s:Shared}{a:Addr}{kvs:List (Key×V)}{k:Key}{u:Value}{A:Around}{E:Value->Shared->Prop}
end
noncomputable def bN0(i:Expr):Prop:=∀ov iv,subscripted i false ov iv=operate [ov,iv] (getItem ov iv)
theorem bc9{prog:Program}{w:World}{A:Around}{E:Value->Shared->Prop}{s:Shared}{env:Env}{value slice:Expr}{pos:Pos}{T id:String}{Q:Value->Shared->Prop}
  (hl:typeLookup (.type T) "__getitem__" = pure (some (.builtin id))) (hs:bN0 slice)
  (h:wpAny (model prog w) A (eval value env) (fun o s₁=>wpAny (model prog w) A (eval slice env) (fun i s₂=>s₂.TypeIs o T/\wpAny (model prog w) A (getItem o i) Q E s₂) E s₁) E s) :
  wpAny (model prog w) A (eval (.Subscript value slice pos) env) Q E s:=by
 refine Subscript_ (wpAny_mono h (fun o s₁ h₁=>wpAny_mono h₁ (fun i s₂ h₂=>?_) fun _ _ x=>x) fun _ _ x=>x)
 obtain⟨hT,h₂⟩:=h₂
 unfold subscriptTail
 refine wpAny_bind ?_
 rw[getitemInPython_of_ne hT.not_modules]
 refine wpAny_bind (wpAny_specialOf hT hl ?_)
 have fin:wpAny (model prog w) A (subscripted slice false o i) (fun r s₃=>wpAny (model prog w) A (letTemporaryGo value o r >>= fun _=>pure r) Q E s₃) E s₂:=by
  rw[hs o i]
  exact wpAny_operating (wpAny_mono h₂ (fun r s₃ h₃=>wpAny_bind (wpAny_letTemporaryGo (wpAny_pure h₃))) fun _ _ x=>x)
 first
  | exact wpAny_pure (wpAny_bind fin)
  | exact wpAny_bind (wpAny_pure (wpAny_bind fin))
  | exact wpAny_bind fin
theorem at9{X:Cx}{pins:List (Addr×Obj)}{σ:St}{H:Hp}{s:Shared}{a:Addr}{y:V}{o:Option V}(I:Inv X pins σ H s) (g:w6 H a y o):s.TypeIs (.ref a) "dict" := by
 rcases g with⟨kvs,k,e,_,_⟩|⟨kvs,k,b,e,_,_,_⟩
 ·obtain⟨_,_,vs,_,dd⟩:=ae9 I.hok e
  exact dd.typeIs
 ·obtain⟨_,_,xs,_,dd⟩:=aj0 I.hok e
  exact dd.typeIs
noncomputable def bG1(td ty:TE):TE:=fun σ H Q=>td σ H fun x H1=>ty σ H1 fun y H2=>∃a v,x=.ref a/\w6 H2 a y (some v)/\Q v H2
section
variable {X:Cx}{o i e value:Expr}{pos pos' tpos:Pos}{td ty tv:TE}
theorem bf5(hu:X.A.units+1 < cLine) (ho:PE X o td) (hi:PE X i ty) (hs:bN0 i):PE X (.Subscript o i pos) (bG1 td ty):=by
 intro pins s σ H Q I h
 refine bc9 PySem.F.slot_dict_getitem.lookup hs (thn (ho pins s σ H _ I h) fun u s1 ⟨x,H1,I1,rx,q1⟩=>thn (hi pins s1 σ H1 _ I1 q1) fun iv s2 ⟨y,H2,I2,ry,a,v,ex,g,q2⟩=>?_)
 subst ex
 obtain rfl:u=Value.ref a:=rx
 exact⟨at9 I2 g,aM4 hu I2 g ry fun w' s3 I3 rw'=>⟨v,H2,I3,rw',q2⟩⟩
end
theorem aZ8{P:Program}{w:World}{H:Hp}(h:Heap) (hb:sysModules < h.objs.size):M8 P w H (h.push { cls:=.type "dict", data:=.dict #[] }) h.objs.size (.dK []) :=
 ⟨Nat.zero_le _,beq_eq_false_iff_ne.mpr (Ne.symm (Nat.ne_of_lt hb)),[],.nil,Heap.DictOf.new h⟩
section
variable {X:Cx}{pos:Pos}
end
noncomputable def al1:List (TE×TE)->St->Hp->(List (V×V)->Hp->Prop)->Prop
 | [],_,H,Q=>Q [] H
 | (tk,tv)::r,σ,H,Q=>tk σ H fun x H1=>tv σ H1 fun y H2=>al1 r σ H2 fun ps H3=>Q ((x,y)::ps) H3
noncomputable abbrev VV:List (V×V)->List (Value×Value)->Prop:=Paired fun p q=>C3 p.1 q.1/\C3 p.2 q.2
noncomputable def PPs(X:Cx) (pos:Pos) (keys:List (Option Expr)) (values:List Expr) (trs:List (TE×TE)):Prop :=
 ∀(pins:List (Addr×Obj)) (s:Shared) (σ:St) (H:Hp) (Q:List (V×V)->Hp->Prop),Inv X pins σ H s->al1 trs σ H Q ->
  wpAny (model X.prog X.w) X.A (evalPairs (pairTrees keys values X.env pos)) (fun vs s'=>∃ps H',Inv X pins σ H' s'/\VV ps vs/\Q ps H') X.xe s
theorem be7{X:Cx}{pos:Pos}:PPs X pos [] [] []:=fun pins s σ H Q I h=>pairTrees_nil_walk ⟨[],H,I,.nil,h⟩
theorem aR9{X:Cx}{pos:Pos}{k v:Expr}{ks:List (Option Expr)}{vs:List Expr}{tk tv:TE}{trs:List (TE×TE)}(hk:PE X k tk) (hv:PE X v tv) (hr:PPs X pos ks vs trs) :
  PPs X pos (some k::ks) (v::vs) ((tk,tv)::trs):=fun pins s σ H Q I h =>
 pairTrees_cons_walk (thn (hk pins s σ H _ I h) fun u s1 ⟨x,H1,I1,rx,q1⟩=>thn (hv pins s1 σ H1 _ I1 q1) fun w2 s2 ⟨y,H2,I2,ry,q2⟩ =>thn (hr pins s2 σ H2 _ I2 q2) fun ws s3 ⟨ps,H3,I3,rel,q3⟩=>⟨(x,y)::ps,H3,I3,.cons ⟨rx,ry⟩ rel,q3⟩)
noncomputable def f9(kvs more:List (Key×V)):List (Key×V):=more.foldl (fun acc kv=>c8 acc kv.1 kv.2) kvs
theorem KV.merge:∀{more:List (Key×V)}{rs:List (Key×Value)}{kvs:List (Key×V)}{vs:List (Key×Value)},KV more rs->KV kvs vs->KV (f9 kvs more) (merged vs rs):=by
 intro more rs kvs vs r
 unfold KV at r
 induction r generalizing kvs vs with
 | nil=>intro q;exact q
 | @cons p q ps qs h t ih =>
  intro r0
  have e:KV (c8 kvs p.1 p.2) (stored vs q.1 q.2):=by
   have:=r0.put p.1 h.2
   rw[← h.1];exact this
  exact ih e
theorem d5:∀(more kvs:List (Key×V)),(f9 kvs more).length<=kvs.length+more.length
 | [],kvs=>by show kvs.length<=kvs.length+0;omega
 | p::r,kvs=>by
  have h1:=d5 r (c8 kvs p.1 p.2)
  have h2:=y8 kvs p.1 p.2
  show(f9 (c8 kvs p.1 p.2) r).length<=_
  rw[List.length_cons];omega
theorem af3{P:Program}{w:World}:∀{kvs:List (Key×V)}{ws:List (Value×Value)},VV (kvs.map fun kv=>(kV kv.1,kv.2)) ws->∃rs,Carries (E8 P w) ws rs/\KV kvs rs
 | [],_,r=>by rw[List.map_nil]at r;cases r;exact⟨[],True.intro,.nil⟩
 | p::kvs,_,r=>by
  rw[List.map_cons]at r
  cases r with
  | @cons a b as bs h t =>
   obtain⟨rs,c,q⟩:=af3 (P:=P) (w:=w) t
   obtain⟨b1,b2⟩:=b
   exact⟨(p.1,b2)::rs,⟨ai5 h.1,rfl,c⟩,.cons ⟨rfl,h.2⟩ q⟩
noncomputable def bG0(trs:List (TE×TE)):TE:=fun σ H Q=>∀p,H p=none->al1 trs σ (upd H p (.dK [])) fun ps H2=>H2 p=some (.dK [])/\∃kvs:List (Key×V),ps=kvs.map (fun kv=>(kV kv.1,kv.2))/\kvs.length<=15/\Q (.ref p) (upd H2 p (.dK (f9 [] kvs)))
theorem bf4{X:Cx}{pos:Pos}{keys:List (Option Expr)}{values:List Expr}{trs:List (TE×TE)}(h:PPs X pos keys values trs) (hall:keys.all (·.isSome)=true) (hl:keys.length=values.length) (h0:keys≠[])
  (h15:keys.length<=15):PE X (.Dict keys values pos) (bG0 trs):=by
 intro pins s σ H Q I q
 have hn:=I.hok.fresh (Nat.le_refl s.heap.objs.size)
 have I1:=I.laid (a:=s.heap.objs.size) (o:=.dK []) (h':=s.heap.push { cls:=.type "dict", data:=.dict #[] }) (t':=s.toks) (fun _ _ q=>Heap.get?_push_of_some _ q) (Nat.le_refl _) (aZ8 s.heap I.big)
 refine wpAny_Dict_walk (knd:=E8 X.prog X.w) hall hl h0 h15 (thn (h pins _ σ _ _ I1 (q _ hn)) fun ws s2 ⟨ps,H2,I2,rel,e,kvs,ep,lk,q2⟩=>?_)
 subst ep
 obtain⟨rs,c,rk⟩:=af3 (P:=X.prog) (w:=X.w) rel
 obtain⟨z,hd,vs0,r0,dd⟩:=bL5 I2.hok e
 cases r0
 refine⟨rs,c,dd,fun h' dd' hs=>⟨.ref s.heap.objs.size,_,?_,rfl,q2⟩⟩
 have hz:(f9 [] kvs).length<=sizeLine:=by
  have h1:=d5 kvs []
  rw[List.length_nil]at h1
  rw[sizeLine_eq];omega
 have he:∃q,h'.get? s.heap.objs.size=some q:=let⟨q,_,_,hq,_⟩:=dd';⟨q,hq⟩
 exact aF8 I2 (by rw[e];exact True.intro) hs he (aZ7 hz hd (rk.merge .nil) dd')
structure M1 (X:Cx) (o:Expr) (m:Str) (apos:Pos) (e:Expr) (cpos:Pos):Prop where
 base:attributeBase o m X.env (eval o X.env)=eval o X.env
 few:((backTo cpos (starEach [e] X.env)).all (fun x=>!x.1)&&(backToKw cpos (keywordEach [] X.env)).all (fun x=>x.1.isSome)
  && decide (([e]:List Expr).length+([]:List Keyword).length+(if([]:List Keyword).isEmpty then 0 else 1) < 30))=true
 line:(apos.endLine==cpos.line)=true
 trees:backTo cpos (starEach [e] X.env)=[(false,eval e X.env)]
structure M2 (X:Cx) (o:Expr) (m:Str) (apos:Pos) (e f:Expr) (cpos:Pos):Prop where
 base:attributeBase o m X.env (eval o X.env)=eval o X.env
 few:((backTo cpos (starEach [e,f] X.env)).all (fun x=>!x.1)&&(backToKw cpos (keywordEach [] X.env)).all (fun x=>x.1.isSome)
  && decide (([e,f]:List Expr).length+([]:List Keyword).length+(if([]:List Keyword).isEmpty then 0 else 1) < 30))=true
 line:(apos.endLine==cpos.line)=true
 trees:backTo cpos (starEach [e,f] X.env)=[(false,eval e X.env),(false,eval f X.env)]
noncomputable def IsD(H:Hp) (a:Addr):Prop:=(∃kvs,Rd H a (.dK kvs))\/∃kvs,Rd H a (.dT kvs)
theorem bB4{X:Cx}{pins:List (Addr×Obj)}{σ:St}{H:Hp}{s:Shared}{a:Addr}(I:Inv X pins σ H s) (d:IsD H a) :
  s.TypeIs (.ref a) "dict" /\ (∀b,Value.ref a=.ref b->∃ob,s.heap.get? b=some ob/\ob.dict=none)/\(a==sysModules)=false:=by
 rcases d with⟨kvs,e⟩|⟨kvs,e⟩
 ·obtain⟨_,hd,vs,_,dd⟩:=ae9 I.hok e
  refine⟨dd.typeIs,fun b q=>?_,hd⟩
  cases q
  obtain⟨ob,_,_,h1,h2,_⟩:=dd
  exact⟨ob,h1,h2.2.1⟩
 ·obtain⟨_,hd,xs,_,dd⟩:=aj0 I.hok e
  refine⟨dd.typeIs,fun b q=>?_,hd⟩
  cases q
  obtain⟨ob,_,_,h1,h2,_⟩:=dd
  exact⟨ob,h1,h2.2.1⟩
section
variable {X:Cx}{pins:List (Addr×Obj)}{σ:St}{H:Hp}{s:Shared}{a:Addr}{y d:V}{u r:Value}{o:Option V}{A:Around}{E:Value->Shared->Prop}
theorem bC5{Q:Value->Shared->Prop}(hu:A.units+1 < cLine) (I:Inv X pins σ H s) (g:w6 H a y o) (ry:C3 y u) (rd:C3 d r) (h:∀w' s',Inv X pins σ H s'->C3 (o.getD d) w'->Q w' s') :
  wpAny (model X.prog X.w) A (call (.builtin "dict.get") [.ref a,u,r]) Q E s:=by
 rcases g with⟨kvs,k,e,ey,l⟩|⟨kvs,k,b,e,ey,eb,l⟩
 ·subst ey
  obtain⟨z,hd,vs,rel,dd⟩:=ae9 I.hok e
  refine call_meetsIn PySem.F.slot_dict_get dd.typeIs PySem.F.entry_dict_get (PySem.F.args_dict_get_3 _ _ _) (meets_dict_get_default (E8 X.prog X.w) a (ai5 ry) hd r) ⟨_,dd.mapOf,h _ _ (I.tok _) ?_⟩
  rw[l]
  exact(rel.val k).getD rd
 ·subst ey
  cases(show u=Value.ref b from ry)
  obtain⟨z,hd,xs,rel,dd⟩:=aj0 I.hok e
  refine call_meetsIn PySem.F.slot_dict_get dd.typeIs PySem.F.entry_dict_get (PySem.F.args_dict_get_3 _ _ _) (meetsH_dict_get_default (tupleKind (E8 X.prog X.w)) a b hd r) ⟨tupleKind_room_in1 hu,k,xs,ae2 I.hok eb,dd,h _ _ (I.tok _) ?_⟩
  rw[l]
  exact(rel.val k).getD rd
end
noncomputable def br7(td ty tx:TE):TE:=fun σ H Q=>td σ H fun x H1=>∃a,x=.ref a/\IsD H1 a/\ty σ H1 fun y H2=>tx σ H2 fun z H3=>∃o,w6 H3 a y o/\Q (o.getD z) H3
section
variable {X:Cx}{o e f:Expr}{apos cpos:Pos}{td ty tx:TE}
theorem aT1(hu:X.A.units+1 < cLine) (ho:PE X o td) (he:PE X e ty) (hf:PE X f tx) (m:M2 X o "get" apos e f cpos):PE X (.Call (.Attribute o "get" apos) [e,f] [] cpos) (br7 td ty tx):=by
 intro pins s σ H Q I h
 refine wpAny_Call_method m.base m.few m.line PySem.F.plainAttrs_dict PySem.F.slot_dict_get PySem.F.type_dict_get (thn (ho pins s σ H _ I h) fun u s1 ⟨x,H1,I1,rx,a,ex,d,q1⟩=>?_)
 subst ex
 obtain rfl:u=Value.ref a:=rx
 obtain⟨t1,t2,_⟩:=bB4 I1 d
 refine⟨t1,t2,?_⟩
 rw[m.trees]
 refine Calls.callWith_builtin rfl (Calls.evalArgs_plain (Calls.spliced_cons (thn (he pins s1 σ H1 _ I1 q1) fun iv s2 ⟨y,H2,I2,ry,q2⟩ =>Calls.spliced_cons (thn (hf pins s2 σ H2 _ I2 q2) fun fv s3 ⟨z,H3,I3,rz,ov,g,q3⟩=>Calls.spliced_nil ?_))))
 exact bC5 hu I3 g ry rz fun w' s4 I4 rw'=>⟨_,H3,I4,rw',q3⟩
end
section
variable {X:Cx}{pins:List (Addr×Obj)}{σ:St}{H:Hp}{s:Shared}{a:Addr}{kvs:List (Key×V)}{A:Around}{E:Value->Shared->Prop}
end
section
variable {X:Cx}{pins:List (Addr×Obj)}{σ:St}{H:Hp}{s:Shared}{a:Addr}{y:V}{u:Value}{A:Around}{E:Value->Shared->Prop}
end
end L2
namespace G
open PySem PySem.Spec PyProof.Rows L2
theorem y9:entryFor table "dict.update.loop" = some Builtin.«dict.update.loop»:=entryFor_of_tree (by kernel_rfl)
theorem T9:plainId "dict.update.loop" = true:=by decide +kernel
theorem an6:typeLookup (.type "list") "keys" = pure none:=by rw[typeLookup_type,builtinLookup_eq_fast];kernel_rfl
noncomputable def mgL(l:List (Str×Value)):List (Key×Value):=l.foldl (fun a p=>stored a (Sum.inr p.1) p.2) []
theorem aI9(a:List (Key×Value)) (k:Key) (v:Value):(stored a k v).length<=a.length+1:=by
 unfold stored
 split
 ·rw[List.length_map];grind
 ·rw[List.length_append,List.length_singleton];grind
theorem as1(l:List (Str×Value)) (p:Str×Value):mgL (l++[p])=stored (mgL l) (Sum.inr p.1) p.2:=by unfold mgL;rw[List.foldl_append];rfl
theorem aE3:∀(l:List (Str×Value)) (n:Nat),l.length=n->(mgL l).length<=n
 | l,0,h=>by rw[List.length_eq_zero_iff]at h;subst h;exact Nat.le_refl 0
 | l,n+1,h=>by
  obtain⟨a,p,rfl⟩:∃a p,l=a++[p]:=by
   rcases List.eq_nil_or_concat l with e|⟨a,p,e⟩
   ·subst e;cases h
   ·exact⟨a,p,by rw[e,List.concat_eq_append]⟩
  rw[List.length_append,List.length_singleton]at h
  rw[as1]
  have:=aE3 a n (by grind)
  have:=aI9 (mgL a) (Sum.inr p.1) p.2
  grind
section
variable {prog:Program}{w:World}{A:Around}{E:Value->Shared->Prop}{s:Shared}
theorem aK9(hx:s.heap.get? a=some o) (hc:o.cls=.type "list") (hdat:o.data=.seq xs k) (hd:o.dict=none) (hA:A.handled=none)
  (h:∀h' tk,(∀b o,s.heap.get? b=some o->h'.get? b=some o)->Q none { s with heap:=h',toks:=tk }):wpAny (model prog w) A (getAttr? (.ref a) "keys") Q E s:=by
 obtain⟨c,dct,dat,sl⟩:=o
 simp only at hc hdat hd
 subst hc hdat hd
 obtain⟨hp,g,d,tk,os⟩:=s
 have hT:∀tk',(⟨hp,g,d,tk',os⟩:Shared).TypeIs (.ref a) "list" := fun _=>⟨_,hx,rfl⟩
 have f1:=sub_AttributeError
 have f3:=F.slot_list_getattribute.lookup
 have f4:=F.slot_list_getattribute.bind (.ref a)
 have f5:=am_list_getattr_none
 unfold getAttr? getAttrBy? getAttrBy
 repeat (any_goals (first|assumption|exact hT _|((with_reducible show wpAny _ _ (call (Value.builtin "list.__getattribute__") _ _) _ _ _);refine call_meets F.slot_list_getattribute (hT _) am_entry_list_getattribute (F.args_list_getattribute_2 _ _) (meets_getattribute_miss_list a xs k sl "keys" _ an6 (by decide) (by size_fits)) ⟨hx,hA,fun h' tk' e hx'=>?_⟩)|wp_step))
 obtain⟨t',u',he⟩:=hx'.there
 show wpAny _ _ (getattributeRaised _ _ _ _ _ _ _) _ _ _
 unfold getattributeRaised
 repeat (any_goals (first|assumption|wp_step))
 exact h _ _ hx'.keeps
variable {R:Result->Shared->Prop}{J S:Addr}{fp wr:List Addr}{Gn:Array GenState->Array GenState->Prop}{P:Nat->Value->Prop}{St:Nat->Shared->Prop}{ps:List (Str×Value)}
theorem aL5(W:WalksS prog w A.in1 J fp wr Gn ps.length P St) (hS1:S∉fp) (T:Nat->Addr) (hT:∀j,j < ps.length->T j∉S::wr) (hP:∀i u,P i u->u=.ref (T i)) (hb:ps.length<=1000) :
  ∀(k i:Nat) (s:Shared) (ii:Int),ps.length - i=k->i<=ps.length->St i s->(∀j p,ps[j]? = some p->∃t,IsTup s.heap (T j) #[.str p.1 t,p.2])->s.heap.DictOf (E8 prog w) S (mgL (ps.take i)) ->
   (∀s',Moved (S::wr) Gn s s'->s'.heap.DictOf (E8 prog w) S (mgL ps)->R (.ok (.ret .none)) s') ->
   codeAny (model prog w) A (.builtin "dict.update.loop" ⟨[.ref S,.ref J,rawInt ii,.none],[]⟩) R s:=by
 have hS2:S∉wr:=fun z=>hS1 (W.sub _ z)
 have more:∀b∈wr,b∈S::wr:=fun b z=>xmm _ z
 intro k
 induction k with
 | zero =>
  intro i s ii e1 e2 q1 q0 q2 q3
  obtain rfl:i=ps.length:=by grind
  refine codeAny_builtin y9 ?_
  rw[Around.under_plainId T9 _]
  show wpAny _ _ (pyNext (.ref J) >>= _) _ _ _
  refine wpAny_bind (W.done s _ _ q1 fun s' mv=>?_)
  show wpAny _ _ (Builtin.Dict.addKeywords S [] >>= fun _=>ret Value.none) _ _ _
  refine wpAny_bind (wpAny_pure (wpAny_pure (q3 s' (mv.mono more) ?_)))
  rw[List.take_length]at q2
  obtain⟨o,es,ep,ho,more'⟩:=q2
  exact⟨o,es,ep,mv.heap S _ hS2 ho,more'⟩
 | succ k ih =>
  intro i s ii e1 e2 q1 q0 q2 q3
  have lt:i < ps.length:=by grind
  refine codeAny_builtin y9 ?_
  rw[Around.under_plainId T9 _]
  show wpAny _ _ (pyNext (.ref J) >>= _) _ _ _
  refine wpAny_bind (W.item i s _ _ lt q1 fun u s' hP' q1' mv=>?_)
  obtain rfl:=hP i u hP'
  have q2':s'.heap.DictOf (E8 prog w) S (mgL (ps.take i)):=by
   obtain⟨o,es,ep,ho,more'⟩:=q2
   exact⟨o,es,ep,mv.heap S _ hS2 ho,more'⟩
  have q0':∀j p,ps[j]? = some p->∃t,IsTup s'.heap (T j) #[.str p.1 t,p.2]:=fun j p e=>by
   obtain⟨t,o,ho,r⟩:=q0 j p e
   have hj:j < ps.length:=by
    rcases Nat.lt_or_ge j ps.length with z|z
    ·exact z
    ·rw[List.getElem?_eq_none z]at e;cases e
   exact⟨t,o,mv.heap (T j) _ (fun z=>hT j hj (xmm _ z)) ho,r⟩
  obtain⟨t,⟨c0,d0,dt0,sl0⟩,ho,hc,n,hd⟩:=q0' i ps[i] (List.getElem?_eq_getElem lt)
  simp only at hc hd
  subst hc hd
  obtain⟨hp,g,d,tk,os⟩:=s'
  simp only at ho
  have hTy:(⟨hp,g,d,tk,os⟩:Shared).TypeIs (.ref (T i)) "tuple" := ⟨_,ho,rfl⟩
  show wpAny _ _ (holding [Value.ref (T i)] _ >>= _) _ _ _
  refine wpAny_bind (wpAny_holding (wpAny_bind (wpAny_tryCatch ?_)))
  unfold Builtin.Dict.pairItems
  refine wpAny_bind (wpAny_typeOf hTy ?_)
  rw[if_pos (by decide)]
  generalize hDS:dictSet=DS
  repeat (any_goals (first|assumption|wp_step))
  subst hDS
  refine wpAny_dictSet_pairs (knd:=E8 prog w) (k:=Sum.inr ps[i].1) (y6 _ _ _ _) q2' (fun h' dd hs=>?_) (by
   have:=aE3 (ps.take i) i (by rw[List.length_take];grind)
   have:(1000:Nat) < sizeLine:=by decide
   grind)
  have tk1:ps.take (i+1)=ps.take i++[ps[i]]:=by rw[List.take_succ_eq_append_getElem lt]
  rw[← as1,← tk1]at dd
  refine wpAny_pure ⟨plainId_quiet T9 _,ih (i+1) _ (ii+1) (by grind) lt (W.frame _ _ _ _ q1' (Nat.le_succ _) fun b z o e=>?_) (fun j p e=>?_) dd fun s2 mv2 q6=>?_⟩
  ·rw[hs.2 b (fun y:b=S=>hS1 (by rw[← y];exact z))];exact e
  ·obtain⟨t,o,ho,r⟩:=q0' j p e
   have hj:j < ps.length:=by
    rcases Nat.lt_or_ge j ps.length with z|z
    ·exact z
    ·rw[List.getElem?_eq_none z]at e;cases e
   exact⟨t,o,(hs.2 (T j) (fun z=>hT j hj (by rw[z];exact List.mem_cons_self))).trans ho,r⟩
  ·refine q3 s2 (Moved.trans W.gtrans ((mv.mono more).then_heap (Nat.le_succ _) fun b o z e=>?_) mv2) q6
   rw[hs.2 b (fun y:b=S=>z (by rw[y];exact List.mem_cons_self))];exact e
theorem ag4(hh:A.handled=none) (hl:PlainL s.heap l its) (T:Nat->Addr) (hn:its.size=ps.length) (hi:∀(i:Nat) (u:Value),its[i]? = some u->u=.ref (T i)) (ht:∀j p,ps[j]? = some p->∃t,IsTup s.heap (T j) #[.str p.1 t,p.2]) (hb:ps.length<=1000)
  (h:∀(h':Heap) (tk:Nat),h'.DictOf (E8 prog w) s.heap.objs.size (mgL ps)->(∀b o,b < s.heap.objs.size->s.heap.get? b=some o->h'.get? b=some o)->Q (.ref s.heap.objs.size) { s with heap:=h',toks:=tk }) :
  wpAny (model prog w) A (call (.type "dict") [.ref l]) Q E s:=by
 have hT:∀j,j < ps.length->T j < s.heap.objs.size:=fun j hj=>by
  obtain⟨t,o,ho,_⟩:=ht j _ (List.getElem?_eq_getElem hj)
  exact Heap.lt_size ho
 refine callType_codes (Q₁:=fun obj s₁=>obj=.ref s.heap.objs.size/\s₁={ s with heap:=s.heap.push { cls:=.type "dict", data:=.dict #[] } }) F.kt_called_dict (F.kt_typeCall_dict_1 _) F.entry_dict_init (kt_code_dict_new _ ⟨rfl,rfl⟩) ?_
 rintro obj s₁ ⟨rfl,rfl⟩
 have hnew:(s.heap.push { cls:=.type "dict", data:=.dict #[] }).DictOf (E8 prog w) s.heap.objs.size []:=Heap.DictOf.new s.heap
 refine⟨hnew.typeIs,F.args_dict_init_2 _ _,?_⟩
 unfold Builtin.«dict.__init__»
 refine wpAny_bind ?_
 unfold Builtin.Dict.selfAndRest
 refine wpAny_bind (wpAny_notOrdered_dict hnew.typeIs ?_)
 show wpAny _ _ (pure (s.heap.objs.size,[Value.ref l])) _ _ _
 refine wpAny_pure ?_
 show wpAny _ _ (Builtin.Dict.updateFrom "dict.__init__" s.heap.objs.size (.ref l) [] .none) _ _ _
 unfold Builtin.Dict.updateFrom
 obtain⟨o,n,ho,hc,hdd,hd⟩:=hl
 have ho1:=Heap.get?_push_of_some { cls:=.type "dict", data:=.dict #[] } ho
 refine wpAny_bind (wpAny_typeOf ⟨_,ho1,hc⟩ ?_)
 rw[if_pos (by decide)]
 refine wpAny_bind (aK9 ho1 hc hd hdd (by simpa using hh) fun h₁ tk₁ kp=>?_)
 rw[if_pos (by rfl)]
 refine wpAny_bind (wpAny_rule ?_)
 have hl1:h₁.IsList l its:=⟨o,kp _ _ ho1,hc,n,hd⟩
 refine wpAny_bind (wpAny_pyIter_list hl1 ?_)
 have sz:s.heap.objs.size < h₁.objs.size:=Heap.lt_size (kp _ _ (Heap.get?_push_size s.heap (o:={ cls:=.type "dict", data:=.dict #[] }) rfl))
 have lS:l < s.heap.objs.size:=Heap.lt_size ho
 have keep:∀b o,s.heap.get? b=some o->(h₁.push { cls:=.type "list_iterator", data:=.fields #[.ref l,.int 0 0] }).get? b=some o:=fun b o e=>Heap.get?_push_of_some _ (kp _ _ (Heap.get?_push_of_some _ e))
 have nf:s.heap.objs.size∉[h₁.objs.size,l]:=by
  simp only[List.mem_cons,List.not_mem_nil,or_false,not_or]
  exact⟨Nat.ne_of_lt sz,Nat.ne_of_gt lS⟩
 refine wpAny_pure ⟨plainId_quiet T9 _,aL5 (A:=A.in1) (ps:=ps) (S:=s.heap.objs.size) (hn ▸ (Walks.list (by simpa using hh) _ l (Nat.ne_of_lt (Nat.lt_trans lS sz)) its).toS) nf T (fun j hj=>?_) hi hb ps.length 0 _ 0 (by grind) (Nat.zero_le _) ⟨⟨_,Heap.get?_push_size _ rfl,rfl,rfl⟩,(hl1.push _)⟩ (fun j p e=>?_) ?_ fun s' mv dd=>?_⟩
 ·have hj':=hT j hj
  simp only[List.mem_cons,List.not_mem_nil,or_false,not_or]
  exact⟨Nat.ne_of_lt hj',Nat.ne_of_lt (Nat.lt_trans hj' sz)⟩
 ·obtain⟨t,o,ho,r⟩:=ht j p e
  exact⟨t,o,keep _ _ ho,r⟩
 ·obtain⟨o,es,ep,ho,r⟩:=hnew
  exact⟨o,es,ep,Heap.get?_push_of_some _ (kp _ _ ho),r⟩
 ·obtain⟨h',g',d',tk',os'⟩:=s'
  have eg:g'=s.gens:=mv.gens
  have ed:d'=s.drawn:=mv.drawn
  have eo:os'=s.os:=mv.os
  subst eg ed eo
  refine⟨rfl,h h' tk' dd fun b o hb e=>mv.heap b o ?_ (keep b o e)⟩
  simp only[List.mem_cons,List.not_mem_nil,or_false,not_or]
  exact⟨Nat.ne_of_lt hb,Nat.ne_of_lt (Nat.lt_trans hb sz)⟩
end
noncomputable def Z0(x:Str) (kv:D×D):Bool:=match kv.1 with
 | .str y=>y==x
 | _=>false
noncomputable def d4(kvs:List (D×D)) (x:Str):Option D:=(kvs.find? (Z0 x)).map (·.2)
noncomputable def be1(kvs:List (D×D)) (x:Str) (d:D):List (D×D):=if kvs.any (Z0 x) then kvs.map (fun kv=>if Z0 x kv then(kv.1,d) else kv) else kvs++[(.str x,d)]
noncomputable def mgD(ps:List (Str×D)):List (D×D):=ps.foldl (fun a p=>be1 a p.1 p.2) []
noncomputable def bo0:D->Option (Str×D)
 | .tuple [.str x,d]=>some (x,d)
 | _=>none
noncomputable def ax5:List D->Option (List (Str×D))
 | []=>some []
 | d::r=>(bo0 d).bind fun p=>(ax5 r).map fun q=>p::q
section
variable {K:PySem.W.Frag}{H:Hp}
theorem bh6(x y:Str):decide ((Sum.inr y:Key)=Sum.inr x)=(y==x):=by rw[aV3];rfl
theorem RepKs.look:∀{kvs:List (D×D)}{m:List (Key×V)}(x:Str),RepKs K H kvs m->(d4 kvs x=none/\j8 m (.inr x)=none)\/∃d v,d4 kvs x=some d/\j8 m (.inr x)=some v/\Rep K H d v
 | [],_,x,h=>by cases h;exact .inl ⟨rfl,rfl⟩
 | (k,d)::r,_,x,⟨y,v,t,h1,h2,h3,h4⟩=>by
  subst h1 h2
  by_cases e:y=x
  ·subst e
   exact .inr ⟨d,v,by simp[d4,Z0],by rw[ac0 rfl],h3⟩
  ·have e1:d4 ((.str y,d)::r) x=d4 r x:=by simp[d4,Z0,e]
   have e2:j8 ((Sum.inr y,v)::t) (Sum.inr x)=j8 t (.inr x):=ac1 (by intro z;exact e (Sum.inr.inj z))
   rw[e1,e2]
   exact RepKs.look x h4
theorem RepKs.any(x:Str):∀{kvs:List (D×D)}{m:List (Key×V)},RepKs K H kvs m->kvs.any (Z0 x)=m.any fun kv=>decide (kv.1=Sum.inr x)
 | [],_,h=>by cases h;rfl
 | (k,d)::r,_,⟨y,v,t,h1,h2,h3,h4⟩=>by
  subst h1 h2
  rw[List.any_cons,List.any_cons,RepKs.any x h4,bh6];rfl
theorem RepKs.snoc(q:Rep K H d v):∀{kvs:List (D×D)}{m:List (Key×V)},RepKs K H kvs m->RepKs K H (kvs++[(.str x,d)]) (m++[(.inr x,v)])
 | [],_,h=>by cases h;exact⟨x,v,[],rfl,rfl,q,rfl⟩
 | (k,_)::r,_,⟨y,w,t,h1,h2,h3,h4⟩=>by subst h2;exact⟨y,w,_,h1,rfl,h3,RepKs.snoc q h4⟩
theorem RepKs.repl(q:Rep K H d v):∀{kvs:List (D×D)}{m:List (Key×V)},RepKs K H kvs m->RepKs K H (kvs.map fun kv=>if Z0 x kv then(kv.1,d) else kv) (m.map fun kv=>if kv.1=Sum.inr x then(kv.1,v) else kv)
 | [],_,h=>by cases h;rfl
 | (k,e)::r,_,⟨y,w,t,h1,h2,h3,h4⟩=>by
  subst h1 h2
  rw[List.map_cons,List.map_cons]
  by_cases e:y=x
  ·subst e
   rw[if_pos (show Z0 y (.str y,_)=true by simp[Z0]),if_pos rfl]
   exact⟨y,v,_,rfl,rfl,q,RepKs.repl q h4⟩
  ·rw[if_neg (show ¬Z0 x (.str y,_)=true by simp[Z0,e]),if_neg (by intro z;exact e (Sum.inr.inj z))]
   exact⟨y,w,_,rfl,rfl,h3,RepKs.repl q h4⟩
theorem RepKs.put(q:Rep K H d v) (h:RepKs K H kvs m):RepKs K H (be1 kvs x d) (c8 m (.inr x) v):=by
 unfold be1 c8
 rw[h.any x]
 split
 ·exact h.repl q
 ·exact h.snoc q
noncomputable abbrev mgV(a:List (Str×V)):List (Key×V):=a.foldl (fun acc p=>c8 acc (.inr p.1) p.2) []
theorem f6:∀{ps:List (Str×D)}{a:List (Str×V)}{kvs:List (D×D)}{m:List (Key×V)},Paired (fun(p:Str×D) (q:Str×V)=>p.1=q.1/\Rep K H p.2 q.2) ps a->RepKs K H kvs m->RepKs K H (ps.foldl (fun a p=>be1 a p.1 p.2) kvs) (a.foldl (fun acc p=>c8 acc (.inr p.1) p.2) m)
 | _,_,_,_,.nil,h=>h
 | _,_,_,_,.cons ⟨e,r⟩ t,h=>by
  rw[List.foldl_cons,List.foldl_cons]
  refine f6 t ?_
  rw[← e]
  exact h.put r
theorem aE7:∀{a:List (Str×V)}{b:List (Str×Value)}{k1:List (Key×V)}{k2:List (Key×Value)},Paired (fun(p:Str×V) (q:Str×Value)=>p.1=q.1/\C3 p.2 q.2) a b->KV k1 k2->KV (a.foldl (fun acc p=>c8 acc (.inr p.1) p.2) k1) (b.foldl (fun acc p=>stored acc (.inr p.1) p.2) k2)
 | _,_,_,_,.nil,h=>h
 | _,_,_,_,.cons ⟨e,r⟩ t,h=>by
  rw[List.foldl_cons,List.foldl_cons]
  refine aE7 t ?_
  rw[← e]
  exact h.put _ r
theorem aE2:∀(a:List (Str×V)) (m:List (Key×V)),(a.foldl (fun acc p=>c8 acc (Sum.inr p.1) p.2) m).length<=m.length+a.length
 | [],m=>Nat.le_refl _
 | p::r,m=>by
  have h1:=aE2 r (c8 m (.inr p.1) p.2)
  have h2:=y8 m (Sum.inr p.1:Key) p.2
  rw[List.foldl_cons,List.length_cons]
  grind
end
section
variable {X:Cx}
theorem bm4:bootBuiltins "dict" = some (.type "dict"):=by decide +kernel
noncomputable def PrV(K:PySem.W.Frag) (H:Hp):List V->List (Str×V)->Prop:=Paired fun v p=>∃b,v=.ref b/\SqT K H b [.str p.1,p.2]
theorem PrV.length{K:PySem.W.Frag}{H:Hp}{vs:List V}{a:List (Str×V)}(h:PrV K H vs a):vs.length=a.length:=Paired.length h
theorem aR8{K:PySem.W.Frag}{H:Hp}:∀{ds:List D}{vs:List V}{ps:List (Str×D)},ax5 ds=some ps->Reps K H ds vs->∃a,PrV K H vs a/\Paired (fun(p:Str×D) (q:Str×V)=>p.1=q.1/\Rep K H p.2 q.2) ps a
 | [],_,_,e,h=>by cases e;cases h;exact⟨[],.nil,.nil⟩
 | d::ds,_,_,e,⟨v,r,h1,h2,h3⟩=>by
  subst h1
  obtain⟨p,e1,e⟩:=xbm e
  obtain⟨q,e2,e⟩:=xmo e
  subst e
  obtain⟨a,q1,q2⟩:=aR8 e2 h3
  unfold bo0 at e1
  split at e1
  ·cases e1
   obtain⟨b,us,z1,z2,z3⟩:=h2
   obtain⟨u1,r1,y1,y2,y3⟩:=z3
   obtain⟨u2,r2,x1,x2,x3⟩:=y3
   cases y2;cases x3;subst x1 y1
   exact⟨(_,u2)::a,.cons ⟨b,z1,z2⟩ q1,.cons ⟨rfl,x2⟩ q2⟩
  ·cases e1
theorem aq9(I:Inv X pins σ H s):∀{vs:List V}{a:List (Str×V)}{us:List Value},PrV X.K H vs a->B6 vs us ->
  ∃(T:List Addr) (b:List (Str×Value)),us=T.map Value.ref/\b.length=us.length/\Paired (fun(p:Str×V) (q:Str×Value)=>p.1=q.1/\C3 p.2 q.2) a b/\∀(j:Nat) (p:Str×Value),b[j]? = some p->∃t,IsTup s.heap (T.getD j 0) #[.str p.1 t,p.2]
 | _,_,_,.nil,.nil=>⟨[],[],rfl,rfl,.nil,fun j p e=>by simp at e⟩
 | _,_,_,.cons (b:=p) ⟨b,e,h⟩ t,.cons r rs=>by
  subst e;cases r
  obtain⟨T,c,e1,e2,e3,e4⟩:=aq9 I t rs
  obtain⟨its,rv,tp,_⟩:=I.tuple h
  cases rv with
  | cons r1 rv =>
   cases rv with
   | cons r2 rv =>
    cases rv
    rename_i u2
    obtain⟨t1,rfl⟩:=r1
    refine⟨b::T,(p.1,u2)::c,by rw[e1];rfl,by simp[e2],.cons ⟨rfl,r2⟩ e3,fun j q e=>?_⟩
    cases j with
    | zero=>simp at e;subst e;exact⟨t1,tp⟩
    | succ j=>exact e4 j q (by simpa using e)
theorem az7:W8 X (.type "dict") (fun xs H Q=>X.calm=true/\∃p vs a,xs=[.ref p]/\SqL X.K H p vs/\PrV X.K H vs a/\vs.length<=1000/\∀l,H l=none->Q (.ref l) (upd H l (.dK (mgV a)))):=by
 intro pins s σ H xs us Q I r h
 obtain⟨hc,p,vs,a,rfl,hs,hp,hz,q⟩:=h
 obtain⟨u,rfl,rx⟩:=i9 r
 cases rx
 obtain⟨its,rv,pl,_⟩:=I.list hs
 obtain⟨T,b,e1,e2,e3,e4⟩:=aq9 I hp rv
 have ln:b.length=vs.length:=by rw[e2,rv.length]
 refine ag4 (ps:=b) (I.ok.hd hc) pl (fun j=>T.getD j 0) (by simp[e2]) (fun i u hu=>?_) e4 (by grind) fun h' tk dd kp=>?_
 ·subst e1
  simp only[List.getElem?_toArray,List.getElem?_map,Option.map_eq_some_iff]at hu
  obtain⟨t,ht,rfl⟩:=hu
  simp[List.getD,ht]
 ·have hn:=I.hok.fresh (Nat.le_refl s.heap.objs.size)
  have z:(mgV a).length<=sizeLine:=by
   have h1:=aE2 a []
   have h2:=hp.length
   have:(1000:Nat) < sizeLine:=by decide
   simp only[List.length_nil]at h1
   show(List.foldl (fun acc p=>c8 acc (Sum.inr p.1) p.2) [] a).length<=sizeLine
   grind
  exact⟨.ref s.heap.objs.size,_,I.laid (a:=s.heap.objs.size) (o:=.dK (mgV a)) (h':=h') (t':=tk) (fun b u e=>kp b u (Heap.lt_size e) e) (Nat.le_refl _) (aZ7 z (beq_eq_false_iff_ne.mpr (Ne.symm (Nat.ne_of_lt I.big))) (aE7 e3 .nil) dd),rfl,q _ hn⟩
noncomputable def bp6(f:Rho->Option (Bool×List D)):DE:=fun ρ=>(f ρ).bind fun q=>if q.1=false/\q.2.length<=1000 then(ax5 q.2).map fun ps=>.dict (mgD ps) else none
theorem bj8(hc:X.calm=true) (hg:Gl X "dict") (hm:X.mg "dict" = none) (h:JQ X e f) (he:starEach [e] X.env=[(false,eval e X.env)]:=by rfl) :
  JE X (.Call (.Name "dict" p) [e] [] pos) (bp6 f):=fun ρ d q=>by
 obtain⟨⟨t,ds⟩,h1,h2⟩:=xbm q
 simp only at h2
 split at h2
 ·rename_i c
  obtain⟨rfl,c2⟩:=c
  obtain⟨ps,e1,e2⟩:=xmo h2
  subst e2
  refine A8 (V6 az7 hg hm bm4 (J8 (h ρ false ds h1) N9 he) (he:=he)) fun σ H Q ⟨H0,Hf,s,sl,k⟩=>?_
  refine⟨H0,Hf,s,sl,fun v H1 Hf1 g1 ⟨a,vs,z1,z2,z3⟩=>?_⟩
  obtain⟨m,m1,m2⟩:=aR8 e1 z3
  refine⟨hc,a,vs,m,by rw[z1],z2,Paired.mapP m1 (fun _ _ z=>let⟨b,y1,y2⟩:=z;⟨b,y1,B1 g1.sub y2⟩),by rw[z3.length];exact c2,fun l hl=>?_⟩
  have hs:=B8 (o:=.dK (mgV m)) (g1.sub.free hl)
  refine k _ _ _ (g1.trans (Grow.laid g1.sub hl)) ⟨l,_,rfl,A6,(f6 (Paired.mapP m2 fun _ _ z=>⟨z.1,z.2.mono hs⟩) (show RepKs X.K _ [] [] from rfl))⟩
 ·cases h2
noncomputable def bM0(f g:DE):DE:=fun ρ=>(f ρ).bind fun d=>(g ρ).bind fun k=>match d,k with
 | .dict kvs,.str x=>d4 kvs x
 | _,_=>none
theorem bA0(hu:X.A.units+64 < cLine) (ha:JE X a f) (hb:JE X b g) (hs:o6 b:=by intro _ _;rfl):JE X (.Subscript a b pos) (bM0 f g):=fun ρ d q=>by
 obtain⟨x,e1,q⟩:=xbm q
 obtain⟨y,e2,q⟩:=xbm q
 split at q
 ·rename_i kvs x _
  refine A8 (bf5 (by omega) (ha ρ _ e1) (hb ρ _ e2) hs) fun σ H Q ⟨H0,Hf,s,sl,k⟩=>?_
  refine⟨H0,Hf,s,sl,fun v H1 Hf1 g1 ⟨p,m,z1,z2,z3⟩=>⟨H0,Hf1,g1.sub,sl.grow g1,fun u H2 Hf2 g2 r2=>?_⟩⟩
  subst z1;cases r2
  rcases(z3.mono g2.ext).look x with⟨l1,_⟩|⟨d',w,l1,l2,l3⟩
  ·rw[l1]at q;cases q
  ·rw[l1]at q;cases q
   refine⟨p,w,rfl,?_,k w H2 Hf2 (g1.trans g2) l3⟩
   have:=w6.k (k:=Sum.inr x) (g2.sub _ _ (g2.ext _ _ z2))
   rw[l2]at this
   exact this
 ·cases q
noncomputable def inK(neg:Bool) (x y:D):Option D:=match x,y with
 | .str x,.dict kvs=>some (.bool (if neg then !(d4 kvs x).isSome else(d4 kvs x).isSome))
 | _,_=>none
theorem bv1(hu:X.A.units+64 < cLine):OpD X (compareOp .In) (inK false):=fun x y z h=>by
 unfold inK at h
 split at h
 ·rename_i x kvs
  cases h
  intro pins s σ H vx vy v u Q I rx ry ⟨Hf,ss,r1,r2,k⟩
  cases r1
  obtain⟨p,m,z1,z2,z3⟩:=r2
  subst z1;cases ry
  refine bP7 (by omega) I (w6.k (k:=Sum.inr x) (ss _ _ z2)) rx fun s' I'=>⟨.bl _,H,I',rfl,k _ H Hf (Grow.refl ss) ?_⟩
  rcases z3.look x with⟨l1,l2⟩|⟨d',w,l1,l2,l3⟩<;>rw[l1,l2]<;>rfl
 ·cases h
theorem aK4(hu:X.A.units+64 < cLine):OpD X (compareOp .NotIn) (inK true):=fun x y z h=>by
 unfold inK at h
 split at h
 ·rename_i x kvs
  cases h
  intro pins s σ H vx vy v u Q I rx ry ⟨Hf,ss,r1,r2,k⟩
  cases r1
  obtain⟨p,m,z1,z2,z3⟩:=r2
  subst z1;cases ry
  refine bl4 (by omega) I (w6.k (k:=Sum.inr x) (ss _ _ z2)) rx fun s' I'=>⟨.bl _,H,I',rfl,k _ H Hf (Grow.refl ss) ?_⟩
  rcases z3.look x with⟨l1,l2⟩|⟨d',w,l1,l2,l3⟩<;>rw[l1,l2]<;>rfl
 ·cases h
noncomputable def bp5(f g h:DE):DE:=fun ρ=>(f ρ).bind fun d=>(g ρ).bind fun k=>(h ρ).bind fun e=>match d,k with
 | .dict kvs,.str x=>some ((d4 kvs x).getD e)
 | _,_=>none
theorem bj6(hu:X.A.units+64 < cLine) (ho:JE X o f) (he:JE X e g) (hf:JE X e2 h) (m:M2 X o "get" apos e e2 cpos):JE X (.Call (.Attribute o "get" apos) [e,e2] [] cpos) (bp5 f g h):=fun ρ d q=>by
 obtain⟨x,e1,q⟩:=xbm q
 obtain⟨y,e2,q⟩:=xbm q
 obtain⟨z,e3,q⟩:=xbm q
 split at q
 ·cases q
  refine A8 (aT1 (by omega) (ho ρ _ e1) (he ρ _ e2) (hf ρ _ e3) m) fun σ H Q ⟨H0,Hf,s,sl,k⟩=>?_
  refine⟨H0,Hf,s,sl,fun v H1 Hf1 g1 ⟨p,m,z1,z2,z3⟩=>⟨p,z1,.inl ⟨m,.inl (g1.sub _ _ z2)⟩,H0,Hf1,g1.sub,sl.grow g1,fun u H2 Hf2 g2 r2=>⟨H0,Hf2,g2.sub,sl.grow (g1.trans g2),fun u3 H3 Hf3 g3 r3=>?_⟩⟩⟩
  cases r2
  refine⟨_,w6.k (k:=Sum.inr _) (g3.sub _ _ (g3.ext _ _ (g2.ext _ _ z2))),k _ H3 Hf3 ((g1.trans g2).trans g3) ?_⟩
  rcases(z3.mono (g2.trans g3).ext).look _ with⟨l1,l2⟩|⟨d',w,l1,l2,l3⟩
  ·rw[l1,l2];exact r3
  ·rw[l1,l2];exact l3
 ·cases q
theorem x6{K:PySem.W.Frag}{H:Hp}:∀(ps:List (Str×Int)),Paired (fun(p:Str×D) (q:Str×V)=>p.1=q.1/\Rep K H p.2 q.2) (ps.map fun p=>(p.1,.int p.2)) (ps.map fun p=>(p.1,V.int p.2))
 | []=>.nil
 | p::r=>.cons ⟨rfl,rfl⟩ (x6 r)
noncomputable def bG7:Expr->Option Str
 | .Constant (.str x) _ _=>some x
 | _=>none
noncomputable def bK8:Expr->Option Int
 | .Constant (.int i) _ _=>some i
 | _=>none
theorem bd0(h:bG7 e=some x):∃p q,e=.Constant (.str x) p q:=by
 cases e with
 | Constant c p q =>
  cases c with
  | str y=>cases h;exact⟨p,q,rfl⟩
  | _=>cases h
 | _=>cases h
theorem bk5(h:bK8 e=some i):∃p q,e=.Constant (.int i) p q:=by
 cases e with
 | Constant c p q =>
  cases c with
  | int y=>cases h;exact⟨p,q,rfl⟩
  | _=>cases h
 | _=>cases h
noncomputable def at8:List (Option Expr)->List Expr->Option (List (Str×Int))
 | [],[]=>some []
 | k::ks,v::vs=>k.bind fun k=>(bG7 k).bind fun x=>(bK8 v).bind fun i=>(at8 ks vs).map fun r=>(x,i)::r
 | [],_::_=>none
 | _::_,[]=>none
theorem ar0:∀{ks:List (Option Expr)}{vs:List Expr}{ps:List (Str×Int)},at8 ks vs=some ps->PPs X pos ks vs (ps.map fun p=>((fun σ H Q=>Q (.str p.1) H:TE),(fun σ H Q=>Q (.int p.2) H:TE)))/\ks.length=ps.length/\vs.length=ps.length/\ks.all (·.isSome)=true
 | [],[],ps,h=>by cases h;exact⟨be7,rfl,rfl,rfl⟩
 | [],_::_,ps,h=>by cases h
 | _::_,[],ps,h=>by cases h
 | k::ks,v::vs,ps,h=>by
  rw[at8]at h
  obtain⟨k',e0,h1⟩:=xbm h
  obtain⟨x,e1,h2⟩:=xbm h1
  obtain⟨i,e2,h3⟩:=xbm h2
  obtain⟨r,e3,e4⟩:=xmo h3
  subst e0
  obtain⟨p1,p2,rfl⟩:=bd0 e1
  obtain⟨p3,p4,rfl⟩:=bk5 e2
  subst e4
  obtain⟨q1,q2,q3,q4⟩:=ar0 (pos:=pos) e3
  exact⟨aR9 aS6 am6 q1,by simp[q2],by simp[q3],by simpa using q4⟩
theorem x4:∀{ps:List (Str×Int)}{Q:List (V×V)->Hp->Prop},Q (ps.map fun p=>(.str p.1,.int p.2)) H->al1 (ps.map fun p=>((fun σ H Q=>Q (.str p.1) H:TE),(fun σ H Q=>Q (.int p.2) H:TE))) σ H Q
 | [],Q,h=>h
 | p::r,Q,h=>x4 (ps:=r) (Q:=fun ps H3=>Q ((.str p.1,.int p.2)::ps) H3) h
theorem bj7(h:at8 ks vs=some ps) (h0:ps≠[]) (h15:ps.length<=15):JE X (.Dict ks vs pos) (dC (.dict (mgD (ps.map fun p=>(p.1,.int p.2))))):=fun ρ d q=>by
 cases q
 obtain⟨q1,q2,q3,q4⟩:=ar0 (X:=X) (pos:=pos) h
 refine A8 (bf4 q1 q4 (q2.trans q3.symm) (by intro z;rw[z]at q2;exact h0 (List.length_eq_zero_iff.mp q2.symm)) (by grind)) fun σ H Q ⟨H0,Hf,s,sl,k⟩ p hp=>x4 ?_
 refine⟨A6,ps.map fun p=>(Sum.inr p.1,.int p.2),by rw[List.map_map];rfl,by simpa using h15,?_⟩
 rw[bc6]
 refine k _ _ (upd Hf p _) (Grow.laid s hp) ⟨p,_,rfl,A6,?_⟩
 have e:f9 [] (ps.map fun p=>((Sum.inr p.1:Key),V.int p.2))=mgV (ps.map fun p=>(p.1,V.int p.2)):=by
  unfold f9 mgV
  rw[List.foldl_map,List.foldl_map]
 rw[e]
 exact f6 (x6 ps) (show RepKs X.K _ [] [] from rfl)
end
section
variable {X:Cx}
noncomputable def bD9:List D->Option Bool
 | []=>some false
 | .bool b::r=>(bD9 r).map fun c=>b || c
 | _::_=>none
theorem av2:∀{ds:List D}{c:Bool},bD9 ds=some c->∃bs:List Bool,ds=bs.map PyData.bool/\c=bs.any id
 | [],c,h=>by cases h;exact⟨[],rfl,rfl⟩
 | .bool b::r,c,h=>by
  obtain⟨c',h1,h2⟩:=xmo h
  obtain⟨bs,h3,h4⟩:=av2 h1
  exact⟨b::bs,by simp[h3],by simp[← h2,h4]⟩
theorem aN2:W8 X (.builtin "any") (fun xs H Q=>X.calm=true/\∃(p:Addr) (bs:List Bool),xs=[.ref p]/\SqL X.K H p (bs.map V.bl)/\Q (.bl (bs.any id)) H):=by
 intro pins s σ H xs us Q I r h
 obtain⟨hc,p,bs,rfl,hq,q⟩:=h
 obtain⟨u,rfl,rx⟩:=i9 r
 cases rx
 obtain⟨its,rv,pl,hz⟩:=I.list hq
 have hlen:=rv.length
 have hh:X.A.in1.handled=none:=I.ok.hd hc
 have hlt:p < s.heap.objs.size:=by obtain⟨_,e,_⟩:=pl.isList;exact Heap.lt_size e
 refine call_any_walk (wpAny_pyIter_list pl.isList ?_)
 refine⟨s.heap.objs.size,_,_,_,_,_,fun i=>(bs[i]?).getD false,rfl,Walks.list hh _ p (Nat.ne_of_lt hlt) its.toArray,⟨⟨_,Heap.get?_push_size _ rfl,rfl,rfl⟩,pl.isList.at fun o e=>Heap.get?_push_of_some _ e⟩,?_,?_⟩
 ·intro i v s' Q' E' hv hQ
  have hv':its[i]? = some v:=by simpa using hv
  have:∃b,bs[i]? = some b:=by
   have:i < its.length:=(List.getElem?_eq_some_iff.mp hv').1
   have:i < bs.length:=by simpa using (by grind:i < (bs.map V.bl).length)
   exact⟨bs[i],by simp[this]⟩
  obtain⟨b,hb⟩:=this
  obtain⟨u,hu,ru⟩:=rv.get (i:=i) (x:=.bl b) (by simp[hb])
  rw[hv']at hu;cases hu
  cases ru
  exact wpAny_truthy_bool (by simpa [hb] using hQ)
 ·intro h' tk hk
  have e:((List.range its.toArray.size).any fun i=>(bs[i]?).getD false)=bs.any id:=by
   have hn:its.toArray.size=bs.length:=by simpa using hlen.symm
   rw[hn,Bool.eq_iff_iff]
   simp only[List.any_eq_true,List.mem_range,id]
   constructor
   ·rintro⟨i,hi,h⟩
    exact⟨bs[i],List.getElem_mem hi,by simpa [hi] using h⟩
   ·rintro⟨x,hx,h⟩
    obtain⟨i,hi,rfl⟩:=List.mem_iff_getElem.mp hx
    exact⟨i,hi,by simpa [hi] using h⟩
  rw[e]
  have I1:Inv X pins σ H { s with heap:=h',toks:=tk }:=by
   have I0:Inv X pins σ H { s with heap:=s.heap.push { cls:=.type "list_iterator", data:=.fields #[.ref p,rawInt 0] } }:=I.kept (t':=s.toks) fun b o e=>Heap.get?_push_of_some _ e
   refine I.kept (t':=tk) fun b o e=>hk b o ?_ (Heap.get?_push_of_some _ e)
   intro hb
   have:b=s.heap.objs.size:=by simpa using hb
   subst this
   exact absurd (Heap.lt_size e) (Nat.lt_irrefl _)
  exact⟨.bl (bs.any id),H,I1,rfl,q⟩
noncomputable def bM1(f:Rho->Option (Bool×List D)):DE:=fun ρ=>(f ρ).bind fun q=>if q.1=true then none else(bD9 q.2).map PyData.bool
theorem bA5(hg:Gl X "any") (hm:X.mg "any" = none) (h:JQ X e f) (hc:X.calm=true:=by rfl) (he:starEach [e] X.env=[(false,eval e X.env)]:=by rfl):JE X (.Call (.Name "any" p) [e] [] pos) (bM1 f):=fun ρ d q=>by
 obtain⟨⟨t,ds⟩,h1,h2⟩:=xbm q
 cases t with
 | true=>simp at h2
 | false =>
  simp only[Bool.false_eq_true,if_false]at h2
  obtain⟨c,h3,h4⟩:=xmo h2
  subst h4
  obtain⟨bs,h5,h6⟩:=av2 h3
  subst h5 h6
  refine A8 (T5 aN2 hg hm boot_any (J8 (h ρ false _ h1) N9 he) (he:=he)) fun σ H Q ⟨H0,Hf,s,sl,k⟩=>?_
  refine⟨H0,Hf,s,sl,fun v H1 Hf1 g1 ⟨a,vs,e1,e2,e3⟩=>⟨hc,a,bs,by rw[e1],?_,k _ H1 Hf1 g1 rfl⟩⟩
  rw[d9 e3]at e2
  exact e2
end
section
variable {X:Cx}{pins:List (Addr×Obj)}{σ:L2.St}{H H':Hp}{s s':Shared}{g B:Heap}
end
section
variable {P:Program}{w:World}{K:PySem.W.Frag}{mg:Str->Option Value}{base:Heap}{N:List Str}{qual:Str}{scope:Scope}{f:Addr}{cd:Value}{A:Around}{outer:List Env}{s:Shared}{H H1:Hp}{E:XK}
 {pins:List (Addr×Obj)}{σ:L2.St}{s1 s':Shared}{h2:Heap}{a C:Addr}{vs:List Value}
end
section
variable {X:Cx}{m:Bool}(hx:∀e s,X.xe e s->False)
include hx
end
section
variable {M:Model}{A:Around}{E:Value->Shared->Prop}{h:Heap}{g:Array GenState}{d:Drawn}{t:Nat}{os:OsState}
variable {nm qn nm2 qn2:Str}{C N D N2:Addr}{bs bm bs2 bm2:List Value}{hd hd2:Bool}{sn sn2:List Str}{sub sub2:List Value}{ab ab2:Bool}{col col2:Option Bool}{dd dd2:Option Addr}{k0 k1 k2 k3 k5 j0 j1 j2 j3 j5:Option Value}{nid nid2:String}
end
section
variable {X:Cx}{pins:List (Addr×Obj)}{σ:L2.St}{H:Hp}{s:Shared}
end
section
variable {X:Cx}{pins:List (Addr×Obj)}{σ:L2.St}{H:Hp}{s:Shared}{a:Addr}{oe:Obj}
noncomputable abbrev fz(oe:Obj) (a:Addr):HO:=.frz oe (.own a)
theorem Slots.hide{K:PySem.W.Frag}{H0 H Hf:Hp}{ρ:Rho}{σ:L2.St}(s:Slots K H0 ρ σ H Hf) (i:Nat) (v:Option V):Slots K H0 (ρ.set i none) (σ.set i v) H Hf:=by
 have ne:∀(j:Nat) (b:B),(ρ.set i none)[j]? = some (some b)->i≠j/\ρ[j]? = some (some b):=fun j b h=>by
  rw[List.getElem?_set]at h
  split at h
  ·split at h<;>cases h
  ·rename_i n;exact⟨n,h⟩
 have gt:∀j,i≠j->(σ.set i v)[j]? = σ[j]?:=fun j n=>by rw[List.getElem?_set,if_neg n]
 refine⟨by rw[List.length_set,List.length_set];exact s.len,fun j b h=>?_,fun j k ds es c h1 h2 h3 h4=>?_⟩
 ·obtain⟨n,h⟩:=ne j b h
  rw[gt j n];exact s.is j b h
 ·obtain⟨n1,h1⟩:=ne j _ h1
  obtain⟨n2,h2⟩:=ne k _ h2
  rw[gt j n1]at h3
  rw[gt k n2]at h4
  exact s.apart j k ds es c h1 h2 h3 h4
end
section
variable {X:Cx}
end
section
variable {prog:Program}{w:World}{A:Around}{E:Value->Shared->Prop}{h:Heap}{g:Array GenState}{d:Drawn}{t:Nat}{os:OsState}{a C:Addr}{o:Obj}{K:PySem.W.Frag}
end
section
variable {X:Cx}
end
section
variable {X:Cx}
end
section
variable {X:Cx}
end
section
variable {X:Cx}
end
section
variable {X:Cx}
end
section
variable {X:Cx}
end
end G
namespace G
open PySem PySem.Spec PySem.W PyProof.Rows L2 PySem.SeqAt
noncomputable def e1(x:List Int):D:=.tuple (x.map .int)
noncomputable def e2(k:List (List Int)):D:=.tuple (k.map e1)
theorem X0{h:Heap}{v:Value}{ds:List D}{as:List Addr}(r:Reads h v (.tuple ds) as):∃a o vs n,v=.ref a/\h.get? a=some o/\o.cls=.type "tuple" /\ o.data=.seq vs n/\ReadsAll h vs.toList ds as:=by
 cases r with
 | tuple k1 k2 k3 k4=>exact⟨_,_,_,_,rfl,k1,k2,k3,k4⟩
section
variable {P:Program}{w:World}{A:Around}{E:Value->Shared->Prop}{s:Shared}
theorem aD0{h:Heap}:∀{x:List Int}{vs:List Value}{as:List Addr},ReadsAll h vs (x.map .int) as->ItemsAre (intKind P w) x vs
 | [],_,_,r=>by cases r;exact .nil
 | i::x,_,_,r=>by
  cases r with
  | cons r1 r2=>cases r1;exact .cons (by simp[intKind,Value.isInt]) (aD0 r2)
theorem bs9{h:Heap}{x:List Int}{v:Value}{as:List Addr}(r:Reads h v (e1 x) as):∃b,v=.ref b/\(tupleKind (intKind P w)).is h x b:=by
 obtain⟨a,o,vs,n,e,h1,h2,h3,h4⟩:=X0 r
 exact⟨a,e,o,vs,n,h1,h2,h3,aD0 h4⟩
noncomputable def hs2(P:Program) (w:World) (k:List (List Int)):Int:=reduceHash (Builtin.Tuple.tupleHashOf (k.map (tupleKeyHash (intKind P w))))
noncomputable def dr2:List (List Int)->Nat
 | []=>0
 | x::k=>x.length+1+dr2 k
theorem aX7{Q:Array Int->Shared->Prop}(hu:A.units < cLine):∀(k:List (List Int)) (vs:List Value) (as:List Addr) (b:Array Int) (s:Shared),ReadsAll s.heap vs (k.map e1) as ->
  (∀b',b'.toList=b.toList++k.map (tupleKeyHash (intKind P w))->Q b' { s with toks:=s.toks+dr2 k }) ->
  wpAny (model P w) A (forIn vs b fun x r=>do let h ← pyHash x;pure PUnit.unit;pure (ForInStep.yield (r.push h))) Q E s
 | [],_,_,b,s,r,h=>by cases r;exact wpAny_pure (h b (by simp))
 | x::k,_,_,b,s,r,h=>by
  cases r with
  | cons r1 r2 =>
   obtain⟨c,rfl,q⟩:=bs9 (P:=P) (w:=w) r1
   rw[List.forIn_cons]
   refine wpAny_bind (wpAny_bind (wpAny_pyHash_tuple hu q ?_))
   refine wpAny_bind (wpAny_pure (wpAny_pure ?_))
   refine aX7 hu k _ _ _ _ r2 fun b' e=>?_
   have:=h b' (by simp[e])
   simpa [dr2,Nat.add_assoc] using this
theorem bL1{k:List (List Int)}{a:Addr}{as:List Addr}{Q:Int->Shared->Prop}(hu:A.units+2 < cLine) (r:Reads s.heap (.ref a) (e2 k) as) (h:Q (hs2 P w k) { s with toks:=s.toks+(dr2 k+1) }):wpAny (model P w) A (pyHash (.ref a)) Q E s:=by
 obtain⟨a',o,vs,n,e,h1,h2,h3,h4⟩:=X0 r
 cases e
 refine pyHash_slot (T := "tuple") ⟨o,h1,h2⟩ F.slot_tuple_hash F.entry_tuple_hash (F.args_tuple_hash_1 _) (beq_builtin_none _) (.inr (by omega)) ?_
 show wpAny _ _ (Builtin.Tuple.tupleItemsOf (.ref a) >>= _) _ _ s
 refine wpAny_bind (wpAny_tupleItemsOf h1 h3 (wpAny_bind ?_))
 rw[← Array.forIn_toList]
 refine aX7 (by simp only[Around.in1_units];omega) k _ _ _ _ h4 fun b e=>?_
 show wpAny _ _ (retInt (Builtin.Tuple.tupleHashOf b.toList)) _ _ _
 rw[e,List.nil_append]
 exact wpAny_bind (wpAny_mkInt (wpAny_pure ⟨_,_,rfl,h⟩))
theorem aQ5{n:Nat}{a:Addr}{o:Obj}{vs:Array Value}{m:Nat}{Q:Bool->Shared->Prop}(h1:s.heap.get? a=some o) (h2:o.cls=.type "tuple") (h3:o.data=.seq vs m)
  (hv:∀v∈vs.toList,∀{A:Around}{E:Value->Shared->Prop}{Q:Bool->Shared->Prop},Q true s->wpAny (model P w) A (eqIsQuiet n v) Q E s) (h:Q true s):wpAny (model P w) A (eqIsQuiet (n+1) (.ref a)) Q E s:=by
 have hT:s.TypeIs (.ref a) "tuple" := ⟨o,h1,h2⟩
 unfold eqIsQuiet
 refine wpAny_bind (wpAny_specialOf hT F.slot_tuple_eq.lookup ?_)
 show wpAny _ _ (isInstance (.ref a) (.type "tuple") >>= _) _ _ s
 refine wpAny_bind (wpAny_isInstance hT isSubtype_tuple_tuple ?_)
 simp only[Bool.not_true,Bool.false_eq_true,if_false]
 refine wpAny_bind (wpAny_seqItems h1 h3 (wpAny_bind ?_))
 show wpAny _ _ (forIn vs _ _) _ _ s
 rw[← Array.forIn_toList]
 refine wpAny_forIn_list _ (fun N4 r s'=>r.1=none/\s'=s/\∀v∈N4,v∈vs.toList) _ ?_ ?_ _ _ ⟨rfl,rfl,fun _ q=>q⟩
 ·rintro v N4 r s' ⟨hr,rfl,q⟩
  refine wpAny_bind (hv v (q v (.head _)) ?_)
  simp only[Bool.not_true,Bool.false_eq_true,if_false]
  exact wpAny_pure ⟨rfl,rfl,fun u z=>q u (.tail _ z)⟩
 ·rintro⟨r1,r2⟩ s' ⟨hr,rfl,_⟩
  cases hr
  exact wpAny_pure h
theorem ax0{h:Heap}:∀{ds:List D}{vs:List Value}{as:List Addr},ReadsAll h vs ds as->∀v∈vs,∃d∈ds,∃bs,Reads h v d bs
 | _,_,_,.nil,v,q=>nomatch q
 | _,_,_,.cons r1 r2,v,q=>by
  rcases List.mem_cons.mp q with rfl|q
  ·exact⟨_,.head _,_,r1⟩
  ·obtain⟨d,m,bs,r⟩:=ax0 r2 v q
   exact⟨d,.tail _ m,bs,r⟩
theorem bt0{k:List (List Int)}{a:Addr}{as:List Addr}{Q:Bool->Shared->Prop}(r:Reads s.heap (.ref a) (e2 k) as) (h:Q true s):wpAny (model P w) A (eqIsQuiet 8 (.ref a)) Q E s:=by
 obtain⟨a',o,vs,n,e,h1,h2,h3,h4⟩:=X0 r
 cases e
 refine aQ5 h1 h2 h3 (fun v hv A E Q q=>?_) h
 obtain⟨d,hd,bs,r'⟩:=ax0 h4 v hv
 obtain⟨x,_,rfl⟩:=List.mem_map.mp hd
 obtain⟨b,o',us,m,rfl,g1,g2,g3,g4⟩:=X0 r'
 refine aQ5 g1 g2 g3 (fun u hu A E Q q=>?_) q
 obtain⟨d',hd',bs',r''⟩:=ax0 g4 u hu
 obtain⟨i,_,rfl⟩:=List.mem_map.mp hd'
 cases r''
 rw[eqIsQuiet_byValue _ rfl]
 exact wpAny_pure q
theorem x5{h:Heap}:∀{x y:List Int}{vs:List Value}{as bs:List Addr},ReadsAll h vs (x.map .int) as->ReadsAll h vs (y.map .int) bs->x=y
 | [],[],_,_,_,_,_=>rfl
 | [],_::_,_,_,_,r,q=>by cases r;cases q
 | _::_,[],_,_,_,r,q=>by cases q;cases r
 | i::x,j::y,_,_,_,r,q=>by
  cases r with
  | cons r1 r2 =>
   cases q with
   | cons q1 q2=>cases r1;cases q1;rw[x5 r2 q2]
theorem aJ6{h:Heap}{x y:List Int}{v:Value}{as bs:List Addr}(r:Reads h v (e1 x) as) (q:Reads h v (e1 y) bs):x=y:=by
 obtain⟨a,o,vs,n,e,h1,h2,h3,h4⟩:=X0 r
 obtain⟨a',o',vs',n',e',g1,g2,g3,g4⟩:=X0 q
 cases e.symm.trans e';cases h1.symm.trans g1;cases h3.symm.trans g3
 exact x5 h4 g4
theorem ac9{h:Heap}:∀{x y:List (List Int)}{vs:List Value}{as bs:List Addr},ReadsAll h vs (x.map e1) as->ReadsAll h vs (y.map e1) bs->x=y
 | [],[],_,_,_,_,_=>rfl
 | [],_::_,_,_,_,r,q=>by cases r;cases q
 | _::_,[],_,_,_,r,q=>by cases q;cases r
 | i::x,j::y,_,_,_,r,q=>by
  cases r with
  | cons r1 r2 =>
   cases q with
   | cons q1 q2=>rw[aJ6 r1 q1,ac9 r2 q2]
theorem aJ5{h:Heap}{x y:List (List Int)}{v:Value}{as bs:List Addr}(r:Reads h v (e2 x) as) (q:Reads h v (e2 y) bs):x=y:=by
 obtain⟨a,o,vs,n,e,h1,h2,h3,h4⟩:=X0 r
 obtain⟨a',o',vs',n',e',g1,g2,g3,g4⟩:=X0 q
 cases e.symm.trans e';cases h1.symm.trans g1;cases h3.symm.trans g3
 exact ac9 h4 g4
theorem aQ3{h h':Heap}{f:α->D}(hf:∀x v as,Reads h v (f x) as->Reads h' v (f x) as):∀{x:List α}{vs:List Value}{as:List Addr},ReadsAll h vs (x.map f) as->ReadsAll h' vs (x.map f) as
 | [],_,_,r=>by cases r;exact .nil
 | i::x,_,_,r=>by
  cases r with
  | cons r1 r2=>exact .cons (hf _ _ _ r1) (aQ3 hf r2)
theorem aC9{h h':Heap}{f:α->D}{d:Addr}{o:Obj}{es:Array DictEntry}{ep:Nat}(ho:h.get? d=some o) (hd:o.data=.dict es ep) (hs:Heap.SameBut d h h') (hf:∀x v as,Reads h v (f x) as->Reads h' v (f x) as)
  {x:List α}{v:Value}{as:List Addr}(r:Reads h v (.tuple (x.map f)) as):Reads h' v (.tuple (x.map f)) as:=by
 obtain⟨a,o',vs,n,rfl,h1,h2,h3,h4⟩:=X0 r
 have ne:a≠d:=by rintro rfl;cases ho.symm.trans h1;rw[hd]at h3;cases h3
 exact .tuple ((hs.2 a ne).trans h1) h2 h3 (aQ3 hf h4)
theorem at7:∀x y:List Int,PyData.eqvAll (x.map .int) (y.map .int)=decide (x=y)
 | [],[]=>by rfl
 | [],_::_=>by rfl
 | _::_,[]=>by rfl
 | i::x,j::y=>by simp only[List.map_cons,PyData.eqvAll,at7 x y,PyData.eqv];by_cases h:i=j<;>by_cases g:x=y<;>simp[h,g]
theorem bC2(x y:List Int):PyData.eqv (e1 x) (e1 y)=decide (x=y):=by simp only[e1,PyData.eqv];exact at7 x y
theorem aF6:∀x y:List (List Int),PyData.eqvAll (x.map e1) (y.map e1)=decide (x=y)
 | [],[]=>by rfl
 | [],_::_=>by rfl
 | _::_,[]=>by rfl
 | i::x,j::y=>by simp only[List.map_cons,PyData.eqvAll,aF6 x y,bC2];by_cases h:i=j<;>by_cases g:x=y<;>simp[h,g]
theorem aZ3(x y:List (List Int)):PyData.eqv (e2 x) (e2 y)=decide (x=y):=by simp only[e2,PyData.eqv];exact aF6 x y
theorem m4:∀x:List Int,PyData.canLayAll0 (x.map .int)=true/\PyData.depthAll (x.map .int)<=1
 | []=>⟨rfl,by simp[PyData.depthAll]⟩
 | i::x=>⟨by simp[PyData.canLayAll0,PyData.canLay0,(m4 x).1],by have:=(m4 x).2;simp only[List.map_cons,PyData.depthAll,PyData.depth];omega⟩
theorem ab0:∀x:List (List Int),PyData.canLayAll0 (x.map e1)=true/\PyData.depthAll (x.map e1)<=2
 | []=>⟨rfl,by simp[PyData.depthAll]⟩
 | i::x=>⟨by simp[PyData.canLayAll0,e1,PyData.canLay0,(m4 i).1];exact(ab0 x).1,by have:=(ab0 x).2;have:=(m4 i).2;simp only[List.map_cons,PyData.depthAll,PyData.depth,e1]at *;omega⟩
theorem ae1(x:List (List Int)):(e2 x).canLay0=true/\(e2 x).depth<=3:=⟨by simp[e2,PyData.canLay0];exact(ab0 x).1,by have:=(ab0 x).2;simp only[e2,PyData.depth];omega⟩
end
noncomputable def k2(P:Program) (w:World):HeapKind P w (List (List Int)) where
 is h k a:=∃as,Reads h (.ref a) (e2 k) as
 hash:=hs2 P w
 draws k:=dr2 k+1
 room A:=A.units+9 < cLine
 inj:=fun⟨_,r⟩ ⟨_,q⟩=>aJ5 r q
 keeps:=fun⟨_,r⟩ ho hd hs=>⟨_,aC9 ho hd hs (fun x v as r=>aC9 ho hd hs (fun i v as r=>by cases r;exact .int _ _) r) r⟩
 pyHash:=fun hu ⟨_,r⟩ h=>bL1 (by omega) r h
 eqBool:=fun{A E s x y a b Q} hu ⟨_,r⟩ ⟨_,q⟩ h=>eqAt_reads (e2 x) (e2 y) A s _ _ _ _ r q (ae1 x).1 (ae1 y).1 (by have:=(ae1 x).2;have:=Nat.min_le_left (e2 x).depth (e2 y).depth;omega) _ _ _ _ (by rw[aZ3];exact h)
 quiet:=fun⟨_,r⟩ h=>bt0 r h
noncomputable abbrev itO(x0:Value) (b:Bool) (d:Addr) (i:Int) (n ep:Nat) (y z:Value):Obj:={ cls:=.type "dict_itemiterator", dict:=none,data:=.fields #[x0,.bool b,.ref d,.int i 0,.int n 0,.int ep 0,y,z],slots:=#[] }
noncomputable def ItR(h:Heap) (it d:Addr) (i n ep:Nat):Prop:=∃x0 b y z,h.get? it=some (itO x0 b d i n ep y z)/\(x0=.none\/∃(a:Addr) (o:Obj),x0=rawInt a/\a≠it/\h.get? a=some o)
section
variable {prog:Program}{w:World}{A:Around}{E:Value->Shared->Prop}{s:Shared}
theorem as9{it d:Addr}{i ep n:Nat}{es:Array DictEntry}{od:Obj}{x0 y z:Value}{b:Bool}{P:PySem.Fin->Shared->Prop}{id:String}(hit:s.heap.get? it=some (itO x0 b d i n ep y z)) (ho:s.heap.get? d=some od) (hd:od.data=.dict es ep) (hn:es.size=n)
  {f:Option (Array DictEntry×Int)->Sem PySem.Fin}(h:wpAny (model prog w) A (f (some (es,(i:Int)))) P E s) :
  wpAny (model prog w) A ((do
   let b ← (do return if Builtin.Dict_items.ownsTuple (← typeNameOfWhole (.ref it)) then 2 else 0)
   let [d,.int i _,.int size _,.int epoch _]:=((← fieldsOf (.ref it)).toList.drop b).take 4|unsupported "internal:dict-iterator"
   if d == .none then rule s!"{id}.exhausted-before";return none
   let es ← dictEntries (← Builtin.Dict_items.addrOf d)
   if(es.size:Int) != size then
    rule s!"{id}.size-changed"
    if true then setField (.ref it) (b+2) (rawInt (-1))
    raiseError "RuntimeError" "dictionary changed size during iteration"
   if((← dictEpoch (← Builtin.Dict_items.addrOf d):Nat):Int) != epoch then unsupported s!"{id}:keys-changed"
   return some (es,i)) >>= f) P E s:=by
 have hT:s.TypeIs (.ref it) "dict_itemiterator" := ⟨_,hit,rfl⟩
 refine wpAny_bind (wpAny_bind (wpAny_bind (wpAny_typeNameOfWhole_itemiter hT (wpAny_pure ?_))))
 refine wpAny_bind (wpAny_fieldsOf hit rfl ?_)
 have ow:Builtin.Dict_items.ownsTuple "dict_itemiterator" = true:=by decide
 simp only[ow,if_true]
 show wpAny _ _ (if(Value.ref d==Value.none)=true then _ else _) _ _ _
 rw[if_neg (show ¬((Value.ref d==Value.none)=true) from Bool.false_ne_true)]
 refine wpAny_bind (wpAny_pure (wpAny_bind (wpAny_dictEntries ho hd ?_)))
 rw[if_neg (by rw[hn];simp)]
 refine wpAny_bind (wpAny_pure (wpAny_bind (wpAny_dictEpoch ho hd ?_)))
 rw[if_neg (by simp)]
 exact wpAny_pure h
theorem bk3{it d:Addr}{i ep:Nat}{es:Array DictEntry}{e:DictEntry}{od:Obj}{Q:Option Value->Shared->Prop}(hit:ItR s.heap it d i es.size ep) (ho:s.heap.get? d=some od) (hd:od.data=.dict es ep) (hx:es[i]? = some e)
  (hQ:∀h',ItR h' it d (i+1) es.size ep->h'.get? s.heap.objs.size=some { cls:=.type "tuple", data:=.seq #[e.key,e.val] }->h'.objs.size=s.heap.objs.size+1->(∀b o,b≠it->s.heap.get? b=some o->h'.get? b=some o)->Q (some (.ref s.heap.objs.size)) { s with heap:=h' }) :
  wpAny (model prog w) A (pyNext (.ref it)) Q E s:=by
 obtain⟨hp,g,dr,tk,os⟩:=s
 obtain⟨x0,b,y,z,hit,own⟩:=hit
 have il:it < hp.objs.size:=Heap.lt_size hit
 have hT:Shared.TypeIs ⟨hp,g,dr,tk,os⟩ (.ref it) "dict_itemiterator" := ⟨_,hit,rfl⟩
 unfold pyNext
 refine wpAny_bind (wpAny_attempt (wpAny_callSpecial?_slot (name:=Str.ofString "__next__") hT PySem.F.slot_dict_itemiterator_next (wpAny_call_entry PySem.F.slot_dict_itemiterator_next hT PySem.F.entry_dict_itemiterator_next (wpAny_bind (wpAny_pure (as9 (id := "dict_itemiterator.__next__") hit ho hd rfl ?_))) (PySem.F.args_dict_itemiterator_next_1 _))))
 dsimp only
 rw[if_neg (show ¬((i:Int) < 0) by omega),Int.toNat_natCast,hx]
 refine wpAny_bind (wpAny_bind (wpAny_typeNameOfWhole_itemiter hT (wpAny_pure ?_)))
 refine wpAny_bind (wpAny_isOneOf_itemiter hT ?_)
 show wpAny _ _ (setField (.ref it) 3 (rawInt ((i:Int)+1)) >>= _) _ _ ⟨hp,g,dr,tk,os⟩
 refine wpAny_bind (wpAny_setField_rec hit (by simp) fun h1 it1 s1=>?_)
 replace s1:Heap.SameBut it hp h1:=s1
 replace it1:h1.get? it=some (itO x0 b d ((i+1:Nat):Int) es.size ep y z):=by rw[show((i+1:Nat):Int)=(i:Int)+1 by omega];simpa [rawInt] using it1
 have hT1:Shared.TypeIs ⟨h1,g,dr,tk,os⟩ (.ref it) "dict_itemiterator" := ⟨_,it1,rfl⟩
 refine wpAny_bind (wpAny_holding (wpAny_bind (wpAny_isOneOf_itemiter hT1 (wpAny_bind (wpAny_isOneOf_itemiter hT1 ?_)))))
 show wpAny _ _ (Builtin.Dict_items.pairFromOwner (.ref it) 6 e.key e.val) _ _ ⟨h1,g,dr,tk,os⟩
 unfold Builtin.Dict_items.pairFromOwner
 refine wpAny_bind (wpAny_newTuple ?_)
 have z1:h1.objs.size=hp.objs.size:=s1.1
 have it2:=Heap.get?_push_of_some { cls:=.type "tuple", data:=.seq #[e.key,e.val] } it1
 have t2:(h1.push { cls:=.type "tuple", data:=.seq #[e.key,e.val] }).get? hp.objs.size=some { cls:=.type "tuple", data:=.seq #[e.key,e.val] }:=by rw[← z1];exact Heap.get?_push_size _ rfl
 have z2:(h1.push { cls:=.type "tuple", data:=.seq #[e.key,e.val] }).objs.size=hp.objs.size+1:=by rw[Heap.size_push,z1]
 have k2:∀b o,b≠it->hp.get? b=some o->(h1.push { cls:=.type "tuple", data:=.seq #[e.key,e.val] }).get? b=some o:=fun b o hb q=>Heap.get?_push_of_some _ (s1.extBut b o hb q)
 show wpAny _ _ (Builtin.Dict_items.ownedTupleIsFree (.ref it) >>= _) _ _ ⟨h1.push { cls:=.type "tuple", data:=.seq #[e.key,e.val] },g,dr,tk,os⟩
 rw[z1]
 generalize h1.push { cls:=.type "tuple", data:=.seq #[e.key,e.val] }=h2 at it2 t2 z2 k2
 have fin:∀(h3:Heap) (x0:Value) (b:Bool) (y z:Value),h3.get? it=some (itO x0 b d ((i+1:Nat):Int) es.size ep y z)->Heap.SameBut it h2 h3->(x0=.none\/∃(a:Addr) (o:Obj),x0=rawInt a/\a≠it/\h2.get? a=some o)->Q (some (.ref hp.objs.size)) ⟨h3,g,dr,tk,os⟩:=fun h3 x0 b y z e3 s3 w3 =>hQ h3 ⟨x0,b,y,z,e3,w3.imp id fun⟨a,o,q1,q2,q3⟩=>⟨a,o,q1,q2,s3.extBut a o q2 q3⟩⟩ (s3.extBut _ _ (Nat.ne_of_gt il) t2) (by show h3.objs.size=hp.objs.size+1;rw[s3.1,z2]) fun c o hc q=>s3.extBut c o hc (k2 c o hc q)
 unfold Builtin.Dict_items.ownedTupleIsFree
 rcases own with rfl|⟨a,o,rfl,ne,ha⟩
 ·refine wpAny_bind (wpAny_bind (wpAny_field it2 rfl (x:=.none) rfl (wpAny_pure ?_)))
  simp only[if_true]
  refine wpAny_bind (wpAny_field it2 rfl (x:=y) rfl (wpAny_bind (wpAny_field it2 rfl (x:=z) rfl ?_)))
  refine wpAny_bind (wpAny_setField_rec it2 (by simp) fun h3 it3 s3=>?_)
  refine wpAny_bind (wpAny_setField_rec it3 (by simp) fun h4 it4 s4=>?_)
  refine wpAny_bind (wpAny_setField_rec it4 (by simp) fun h5 it5 s5=>?_)
  refine wpAny_bind (wpAny_setField_rec it5 (by simp) fun h6 it6 s6=>?_)
  replace s3:Heap.SameBut it h2 h3:=s3
  replace s4:Heap.SameBut it h3 h4:=s4
  replace s5:Heap.SameBut it h4 h5:=s5
  replace s6:Heap.SameBut it h5 h6:=s6
  refine wpAny_bind (wpAny_letGo (wpAny_pure (wpAny_pure ⟨_,rfl,wpAny_pure (fin h6 _ _ _ _ it6 (s3.trans (s4.trans (s5.trans s6))) (.inr ⟨_,_,rfl,Nat.ne_of_gt il,t2⟩))⟩)))
 ·refine wpAny_bind (wpAny_bind (wpAny_field it2 rfl (x:=rawInt a) rfl ?_))
  show wpAny _ _ (loadIfAlive ((a:Int).toNat) >>= _) _ _ _
  rw[Int.toNat_natCast]
  refine wpAny_bind (ap7 ?_)
  rw[show(Shared.heap ⟨h2,g,dr,tk,os⟩).get? a=some o from k2 a o ne ha]
  simp only[Option.isNone_some,Bool.false_eq_true,if_false]
  refine wpAny_bind (wpAny_field it2 rfl (x:=.bool b) rfl ?_)
  have w2:rawInt (a:Int)=.none\/∃(c:Addr) (o:Obj),rawInt (a:Int)=rawInt c/\c≠it/\h2.get? c=some o:=.inr ⟨a,o,rfl,ne,k2 a o ne ha⟩
  cases b with
  | true=>exact wpAny_pure (wpAny_pure (wpAny_pure ⟨_,rfl,wpAny_pure (fin h2 _ _ _ _ it2 (Heap.SameBut.refl _ _) w2)⟩))
  | false =>
   rw[if_pos (show(Value.bool false != Value.bool true)=true from rfl)]
   refine wpAny_bind (wpAny_setField_rec it2 (by simp) fun h3 it3 s3=>?_)
   exact wpAny_pure (wpAny_pure (wpAny_pure ⟨_,rfl,wpAny_pure (fin h3 _ _ _ _ it3 s3 w2)⟩))
theorem bB2{it d:Addr}{i ep:Nat}{es:Array DictEntry}{od:Obj}{Q:Option Value->Shared->Prop}(hh:A.handled=none) (hit:ItR s.heap it d i es.size ep) (ho:s.heap.get? d=some od) (hd:od.data=.dict es ep) (hx:es[i]? = none)
  (hQ:∀h',Heap.ExtBut it s.heap h'->Q none { s with heap:=h' }):wpAny (model prog w) A (pyNext (.ref it)) Q E s:=by
 obtain⟨x0,b,y,z,hit,_⟩:=hit
 have hT:s.TypeIs (.ref it) "dict_itemiterator" := ⟨_,hit,rfl⟩
 unfold pyNext
 refine wpAny_bind (wpAny_attempt (wpAny_callSpecial?_slot (name:=Str.ofString "__next__") hT PySem.F.slot_dict_itemiterator_next (wpAny_call_entry PySem.F.slot_dict_itemiterator_next hT PySem.F.entry_dict_itemiterator_next (wpAny_bind (wpAny_pure (as9 (id := "dict_itemiterator.__next__") hit ho hd rfl ?_))) (PySem.F.args_dict_itemiterator_next_1 _))))
 dsimp only
 rw[if_neg (show ¬((i:Int) < 0) by omega),Int.toNat_natCast,hx]
 refine wpAny_bind (wpAny_bind (wpAny_typeNameOfWhole_itemiter hT (wpAny_pure ?_)))
 show wpAny _ _ (setField (.ref it) 2 .none >>= _) _ _ s
 refine wpAny_bind (wpAny_setField hit rfl (by simp) ?_)
 show wpAny _ _ (newExc (.type "StopIteration") [] >>= _) _ _ _
 refine wpAny_bind ?_
 simp only[newExc,newTuple]
 refine wpAny_bind (wpAny_newObj_type ?_ (by size_fits))
 refine wpAny_bind (m:=firstArgMember _ _) (wpAny_of_eq (a:=Value.none) (by first|rfl|(simp only[firstArgMember];rfl)) ?_)
 refine wpAny_newObj_type ?_ (by size_fits)
 simp only[raiseNew]
 refine wpAny_bind (wpAny_handled ?_)
 rw[show A.in1.handled=none from hh]
 refine wpAny_bind (wpAny_pure (wpAny_throw ?_))
 refine wpAny_bind (wpAny_isInstance (T := "StopIteration") (b:=true) ⟨_,Heap.get?_push_size _ rfl,rfl⟩ isSubtype_stop ?_)
 exact wpAny_pure (hQ _ (((Heap.SameBut.update ..).extBut.push _).push _))
end
theorem ItR.ext(x:ItR h it d i n ep) (hS:h.get? S=some o) (hS':∃o',h'.get? S=some o') (hne:S≠it) (k:∀b o,b≠S->h.get? b=some o->h'.get? b=some o):ItR h' it d i n ep:=by
 obtain⟨x0,b,y,z,q,w⟩:=x
 refine⟨x0,b,y,z,k _ _ hne.symm q,w.imp id fun⟨a,u,r1,r2,r3⟩=>?_⟩
 by_cases e:a=S
 ·subst e;obtain⟨o',q'⟩:=hS';exact⟨a,o',r1,r2,q'⟩
 ·exact⟨a,u,r1,r2,k _ _ e r3⟩
noncomputable abbrev Ent:List (Addr×Int)->List DictEntry->Prop:=Paired fun p e=>e.key=.ref p.1/\∃t,e.val=.int p.2 t
theorem Ent.get:∀{ws:List (Addr×Int)}{es:List DictEntry}{i:Nat}{p:Addr×Int},Ent ws es->ws[i]? = some p->∃e,es[i]? = some e/\e.key=.ref p.1/\∃t,e.val=.int p.2 t
 | _,_,_,_,.nil,e=>by simp at e
 | _,_,0,_,.cons r _,e=>by simp at e;subst e;exact⟨_,rfl,r⟩
 | _,_,i+1,_,.cons _ t,e=>by simpa using Ent.get (i:=i) t (by simpa using e)
noncomputable def TsI(Hf:Hp) (ws:List (Addr×Int)) (Ts:List Addr) (i:Nat):Prop:=Ts.length=i/\∀(j:Nat) (T:Addr),Ts[j]? = some T->∃p,ws[j]? = some p/\Hf T=some (.tup [.ref p.1,.int p.2])
theorem aG7:(1000:Nat) < sizeLine:=by decide
section
variable {X:Cx}{pins:List (Addr×Obj)}{σ:L2.St}{A:Around}{S it d:Addr}{ws:List (Addr×Int)}{es:Array DictEntry}{ep:Nat}{od:Obj}
theorem ax9{R:Result->Shared->Prop}{res:Value}(hc:A.handled=none) (h2:d≠it) (h4:S≠it) (h5:S≠d) (hz:ws.length<=1000) (pr:Ent ws es.toList) (hd:od.data=.dict es ep) {H0 Hf0:Hp} :
  ∀(k i:Nat) (s:Shared) (H Hf:Hp) (Ts:List Addr) (c:Nat),ws.length - i=k->i<=ws.length->Inv X pins σ H s->(∀b∈[it,S],W4 X pins H b)->ItR s.heap it d i es.size ep->s.heap.get? d=some od->Grow H0 Hf0 H Hf->s.heap.get? S=some (ai2 Ts c)->TsI Hf ws Ts i ->
  (∀s' H' Hf' Ts' c',Inv X pins σ H' s'->(∀b∈[it,S],W4 X pins H' b)->Grow H0 Hf0 H' Hf'->s'.heap.get? S=some (ai2 Ts' c')->TsI Hf' ws Ts' ws.length->R (.ok (.ret res)) s') ->
  codeAny (model X.prog X.w) A (.builtin "list.extend.loop" ⟨[.ref S,.ref it,res],[]⟩) R s:=by
 have lz:es.size=ws.length:=by rw[← Array.length_toList,Paired.length pr]
 intro k
 induction k with
 | zero =>
  intro i s H Hf Ts c hk hi I hf hit hod g hS ht hR
  have hin:i=ws.length:=by omega
  refine codeAny_builtin F.entry_extend_loop ?_
  rw[Around.under_plainId F.plain_extend_loop _]
  show wpAny _ A.in1 (pyNext (.ref it) >>= _) _ _ s
  refine wpAny_bind (bB2 hc hit hod hd (Array.getElem?_eq_none (by omega)) fun h' hk'=>?_)
  have I':Inv X pins σ H { s with heap:=h',toks:=s.toks }:=X6 (ch:=[it]) I (fun b hb=>hf b (by simp at hb;simp[hb])) fun b u hb q=>hk' b u (fun z=>hb (by simp[z])) q
  exact wpAny_pure (hR _ H Hf Ts c I' hf g (hk' S _ h4 hS) (by rw[← hin];exact ht))
 | succ k ih =>
  intro i s H Hf Ts c hk hi I hf hit hod g hS ht hR
  have hlt:i < ws.length:=by omega
  obtain⟨e,ee,ek,tv,ev⟩:=Ent.get pr (List.getElem?_eq_getElem hlt)
  refine codeAny_builtin F.entry_extend_loop ?_
  rw[Around.under_plainId F.plain_extend_loop _]
  show wpAny _ A.in1 (pyNext (.ref it) >>= _) _ _ s
  refine wpAny_bind (bk3 hit hod hd (by rw[← Array.getElem?_toList];exact ee) fun h' hit' hT hsz hkp=>?_)
  rw[ek,ev]at hT
  have hn:H s.heap.objs.size=none:=I.hok.fresh (Nat.le_refl _)
  have neT:∀c o,s.heap.get? c=some o->c≠s.heap.objs.size:=fun c o q=>Nat.ne_of_lt (Heap.lt_size q)
  have hio:∃o,s.heap.get? it=some o:=let⟨_,_,_,_,q,_⟩:=hit;⟨_,q⟩
  obtain⟨oi,hio⟩:=hio
  have I1:Inv X pins σ (upd H s.heap.objs.size (.tup [.ref ws[i].1,.int ws[i].2])) { s with heap:=h',toks:=s.toks }:=Y0 (s:=s) (h':=h') (t':=s.toks) (ch:=[it]) I (fun b hb=>hf b (by simp at hb;simp[hb])) (Nat.le_refl _) (fun b u hb q=>hkp b u (fun z=>hb (by simp[z])) q)
   ⟨by show 2<=sizeLine;decide,[.ref ws[i].1,.int ws[i].2 tv],.cons rfl (.cons ⟨tv,rfl⟩ .nil),_,hT,rfl,⟨_,rfl⟩,rfl⟩
  have hS':=hkp S _ h4 hS
  show wpAny _ A.in1 (updateSeq S (·.push (.ref s.heap.objs.size)) >>= _) _ _ _
  have b0:=aG7
  refine wpAny_bind (wpAny_updateSeq hS' rfl ?_ (by simp[ht.1];omega) (by simp[ht.1];omega))
  have hf1:∀b∈[it,S],W4 X pins (upd H s.heap.objs.size (.tup [.ref ws[i].1,.int ws[i].2])) b:=fun b hb=>aY7 (hf b hb) (by
   simp at hb
   rcases hb with rfl|rfl
   ·exact neT _ _ hio
   ·exact neT _ _ hS)
  have oth:∀b o,b≠S->h'.get? b=some o->(h'.update S (Obj.mapSeq (·.push (.ref s.heap.objs.size)))).get? b=some o:=fun b o hb q=>(Heap.get?_update_other _ _ (Ne.symm hb)).trans q
  have hSn:=Heap.get?_update_self (Obj.mapSeq (·.push (Value.ref s.heap.objs.size))) hS' rfl
  have I2:=X6 (t':=s.toks) (h':=h'.update S (Obj.mapSeq (·.push (.ref s.heap.objs.size)))) (ch:=[S]) I1 (fun b hb=>hf1 b (by simp at hb;simp[hb])) fun b u hb q=>oth b u (fun z=>hb (by simp[z])) q
  have hnf:Hf s.heap.objs.size=none:=g.sub.free hn
  refine wpAny_pure ⟨plainId_quiet F.plain_extend_loop _,ih (i+1) _ _ (upd Hf s.heap.objs.size (.tup [.ref ws[i].1,.int ws[i].2])) (Ts++[s.heap.objs.size]) (c+1) (by omega) (by omega) I2 hf1 (hit'.ext hS' ⟨_,hSn⟩ h4 oth) (oth d _ h5.symm (hkp d _ h2 hod)) (g.trans (Grow.laid g.sub hn)) ?_ ?_ hR⟩
  ·simpa [ai2,Obj.mapSeq] using hSn
  ·refine⟨by rw[List.length_append,ht.1];rfl,fun j T hj=>?_⟩
   rcases Nat.lt_or_ge j Ts.length with q|q
   ·rw[List.getElem?_append_left q]at hj
    obtain⟨x,ex,hx⟩:=ht.2 j T hj
    exact⟨x,ex,by rw[A9 (A7 hx hnf)];exact hx⟩
   ·rw[List.getElem?_append_right q]at hj
    have hj0:j - Ts.length=0:=by
     rcases Nat.eq_zero_or_pos (j - Ts.length) with z|z
     ·exact z
     ·rw[List.getElem?_eq_none (by simp;omega)]at hj;cases hj
    rw[hj0]at hj
    cases hj
    have:j=i:=by have:=ht.1;omega
    subst this
    exact⟨_,List.getElem?_eq_getElem hlt,A6⟩
theorem aI1{prog:Program}{w:World}{E:Value->Shared->Prop}{s:Shared}{r:Addr}{Q:Value->Shared->Prop}(hv:s.heap.IsItemsView r d) (ho:s.heap.get? d=some od) (hd:od.data=.dict es ep)
  (hQ:Q (.ref s.heap.objs.size) { s with heap:=s.heap.push (itO .none false d 0 es.size ep .none .none) }):wpAny (model prog w) A (pyIter (.ref r)) Q E s:=by
 obtain⟨ov,hov,hcv,hdv⟩:=id hv
 refine wpAny_pyIter_slot hv.typeIs F.slot_dict_items_iter (wpAny_call_entry F.slot_dict_items_iter hv.typeIs F.entry_dict_items_iter (wpAny_bind (wpAny_pure (wpAny_bind ?_))) (F.args_dict_items_iter_1 _))
 unfold Builtin.Dict_items.dictOf
 refine wpAny_bind (wpAny_field hov hdv (x:=.ref d) rfl (wpAny_pure (wpAny_bind ?_)))
 unfold Builtin.Dict_items.newIterator
 refine wpAny_bind (wpAny_dictEntries ho hd (wpAny_bind (wpAny_dictEpoch ho hd ?_)))
 have ow:Builtin.Dict_items.ownsTuple "dict_itemiterator" = true:=by decide
 simp only[ow,if_true]
 refine wpAny_newObj_type (wpAny_pure ⟨_,rfl, "dict_itemiterator", _,⟨_,Heap.get?_push_size _ rfl,rfl⟩,F.slot_dict_itemiterator_next.lookup,?_⟩)
  (by simp only[sizeOk,Builtin.Dict_items.ownedTupleFields,List.size_toArray,List.length_append,List.length_cons,List.length_nil,sizeLine_eq];omega)
 simpa [rawInt,Builtin.Dict_items.ownedTupleFields] using hQ
theorem ag7{E:Value->Shared->Prop}{s:Shared}{H Hf:Hp}{r:Addr}{Q:List Value->Shared->Prop}(hc:A.handled=none) (hz:ws.length<=1000) (pr:Ent ws es.toList) (hd:od.data=.dict es ep) (I:Inv X pins σ H s) (ss:C0 Hf H) (hv:s.heap.IsItemsView r d) (ho:s.heap.get? d=some od)
  (h:∀s' H' Hf' Ts,Inv X pins σ H' s'->Grow H Hf H' Hf'->TsI Hf' ws Ts ws.length->Q (Ts.map Value.ref) s'):wpAny (model X.prog X.w) A (collect (.ref r)) Q E s:=by
 have hr:r < s.heap.objs.size:=let⟨_,q,_⟩:=hv;Heap.lt_size q
 have dl:d < s.heap.objs.size:=Heap.lt_size ho
 obtain⟨S,eS⟩:∃S,S=s.heap.objs.size:=⟨_,rfl⟩
 have fS:W4 X pins H S:=I.fpOk (by omega) (I.hok.fresh (by omega))
 have n1:S≠r:=by rw[eS];exact Nat.ne_of_gt hr
 have n2:S≠d:=by rw[eS];exact Nat.ne_of_gt dl
 have n3:S+1≠S:=Nat.succ_ne_self S
 have n4:d≠S+1:=by rw[eS];exact Nat.ne_of_lt (Nat.lt_succ_of_lt dl)
 unfold collect
 refine wpAny_bind (wpAny_runValue (codeAny_builtin entry_proto_collect' ?_))
 rw[Around.under_plainId PySem.F.plain_proto_collect _]
 show wpAny _ A.in1 (newList [] >>= fun l=>again (.builtin "list.__iadd__" ⟨[l,.ref r],[]⟩)) _ _ s
 refine wpAny_bind (wpAny_newObj_type (wpAny_pure ⟨plainId_quiet PySem.F.plain_list_iadd _,codeAny_builtin entry_list_iadd' ?_⟩))
 rw[Around.under_plainId PySem.F.plain_list_iadd _,← eS]
 show wpAny _ A.in1 (Builtin.List.listExtendWith (.ref S) (.ref r) (.ref S)) _ _ { s with heap:=s.heap.push { cls:=.type "list", data:=.seq #[] } }
 have hS:(s.heap.push { cls:=.type "list", data:=.seq #[] }).get? S=some { cls:=.type "list", data:=.seq #[] }:=by rw[eS];exact Heap.get?_push_size _ rfl
 have k1:∀b o,s.heap.get? b=some o->(s.heap.push { cls:=.type "list", data:=.seq #[] }).get? b=some o:=fun b o q=>Heap.get?_push_of_some _ q
 have z1:(s.heap.push { cls:=.type "list", data:=.seq #[] }).objs.size=S+1:=by rw[Heap.size_push,eS]
 generalize s.heap.push { cls:=.type "list", data:=.seq #[] }=h1 at hS k1 z1
 have hv1:h1.IsItemsView r d:=let⟨o,q,x⟩:=hv;⟨o,k1 _ _ q,x⟩
 unfold Builtin.List.listExtendWith
 refine wpAny_bind (wpAny_typeOf (T := "dict_items") hv1.typeIs ?_)
 have q1:Builtin.List.listSameRef (.ref S) (.ref r)=false:=by simp[Builtin.List.listSameRef,n1]
 have q2:(Value.type "dict_items" == Value.type "list")=false:=by decide
 have q3:(Value.type "dict_items" == Value.type "tuple")=false:=by decide
 simp only[q1,q2,q3,Bool.or_false,Bool.false_eq_true,if_false]
 refine wpAny_bind (aI1 hv1 (k1 _ _ ho) hd ?_)
 have hI:(h1.push (itO .none false d 0 es.size ep .none .none)).get? (S+1)=some (itO .none false d 0 es.size ep .none .none):=by rw[← z1];exact Heap.get?_push_size _ rfl
 have k2:∀b o,h1.get? b=some o->(h1.push (itO .none false d 0 es.size ep .none .none)).get? b=some o:=fun b o q=>Heap.get?_push_of_some _ q
 show wpAny _ _ _ _ _ { s with heap:=h1.push (itO .none false d 0 es.size ep .none .none) }
 rw[z1]
 generalize h1.push (itO .none false d 0 es.size ep .none .none)=h2 at hI k2
 have hS2:=k2 _ _ hS
 have loop:∀(h3:Heap) (c:Nat),(∀b o,b≠S->h2.get? b=some o->h3.get? b=some o)->h3.get? S=some (ai2 [] c)->codeAny (model X.prog X.w) A (.builtin "list.extend.loop" ⟨[.ref S,.ref (S+1),.ref S],[]⟩) (fun q s'=>∃H' Hf' Ts c,q=.ok (.ret (.ref S))/\Inv X pins σ H' s'/\Grow H Hf H' Hf'/\s'.heap.get? S=some (ai2 Ts c)/\TsI Hf' ws Ts ws.length) { s with heap:=h3 }:=fun h3 c k3 hS3=>by
  have fI:W4 X pins H (S+1):=I.fpOk (by omega) (I.hok.fresh (by omega))
  have I3:Inv X pins σ H { s with heap:=h3,toks:=s.toks }:=X6 (ch:=[S]) I (fun b hb=>by simp at hb;rw[hb];exact fS) fun b u hb q=>k3 b u (by simpa using hb) (k2 _ _ (k1 _ _ q))
  exact ax9 (ws:=ws) (es:=es) (ep:=ep) (od:=od) hc n4 n3.symm n2 hz pr hd ws.length 0 _ H Hf [] c (by omega) (by omega) I3 (fun b hb=>by
   simp at hb
   rcases hb with rfl|rfl
   ·exact fI
   ·exact fS) ⟨_,_,_,_,k3 _ _ n3 hI,.inl rfl⟩ (k3 _ _ n2.symm (k2 _ _ (k1 _ _ ho))) (Grow.refl ss) hS3 ⟨rfl,fun j T hj=>by simp at hj⟩ fun s' H' Hf' Ts c I' f' g' hS' t'=>⟨H',Hf',Ts,c,rfl,I',g',hS',t'⟩
 have done:∀{q:Result}{s':Shared},(∃H' Hf' Ts c,q=.ok (.ret (.ref S))/\Inv X pins σ H' s'/\Grow H Hf H' Hf'/\s'.heap.get? S=some (ai2 Ts c)/\TsI Hf' ws Ts ws.length)->wpAny (model X.prog X.w) A (load S >>= fun o=>match o.data with | .seq xs _=>pure xs.toList|_=>unsupported "internal:collect") Q E s':=fun⟨H',Hf',Ts,c,_,I',g',hS',t'⟩=>by
  refine wpAny_bind (wpAny_load hS' (wpAny_pure ?_))
  show Q (Ts.map Value.ref).toArray.toList _
  rw[List.toList_toArray]
  exact h _ H' Hf' Ts I' g' t'
 refine wpAny_bind (wpAny_holding (kdx_hint (let⟨o,q,x,_⟩:=hv1;⟨o,k2 _ _ q,x⟩) ?_))
 refine wpAny_ite_split (fun _=>?_) (fun _=>wpAny_pure ⟨plainId_quiet PySem.F.plain_extend_loop _,codeAny_mono (loop h2 _ (fun _ _ _ q=>q) hS2) fun q s' x=>?_⟩)
 ·refine wpAny_bind (wpAny_rule (wpAny_bind ?_))
  show wpAny _ _ (updateSeq S (·.push .none) >>= fun _=>updateSeq S (·.pop)) _ _ _
  refine wpAny_bind (wpAny_updateSeq hS2 rfl ?_)
  have hS3:=Heap.get?_update_self (Obj.mapSeq (·.push Value.none)) hS2 rfl
  refine wpAny_updateSeq (hz:=by seq_fits) hS3 rfl ?_
  have hS4:=Heap.get?_update_self (Obj.mapSeq (·.pop)) hS3 rfl
  refine wpAny_pure ⟨plainId_quiet PySem.F.plain_extend_loop _,codeAny_mono (loop _ _ (fun b o hb q=>?_) hS4) fun q s' x=>?_⟩
  ·exact(Heap.get?_update_other _ _ (Ne.symm hb)).trans ((Heap.get?_update_other _ _ (Ne.symm hb)).trans q)
  ·obtain⟨_,_,_,_,e,_⟩:=id x;subst e;exact done x
 ·obtain⟨_,_,_,_,e,_⟩:=id x;subst e;exact done x
end
end G
namespace G
theorem xg0{α:Type}{a:α}{l:List α}:(a::l)[0]? = some a:=rfl
theorem xg1{α:Type}{a:α}{i:Nat}{l:List α}:(a::l)[i+1]? = l[i]?:=rfl
theorem xw0{α:Type}{a b:α}{l:List α}:(a::l).set 0 b=b::l:=rfl
theorem xw1{α:Type}{a b:α}{i:Nat}{l:List α}:(a::l).set (i+1) b=a::l.set i b:=rfl
theorem xbs{α β:Type}{a:α}{f:α->Option β}:(some a).bind f=f a:=rfl
theorem xms{α β:Type}{a:α}{f:α->β}:(some a).map f=some (f a):=rfl
theorem xca{α:Type}{a:α}{l m:List α}:(a::l)++m=a::(l++m):=rfl
theorem xna{α:Type}{l:List α}:[]++l=l:=rfl
theorem xmc{α β:Type}{f:α->β}{a:α}{l:List α}:(a::l).map f=f a::l.map f:=rfl
theorem xmn{α β:Type}{f:α->β}:[].map f=[]:=rfl
theorem xnf:(!false)=true:=rfl
theorem xnt:(!true)=false:=rfl
theorem xft:(false=true)=False:=by simp
end G
noncomputable section
namespace Sh
open PySem PySem.Spec PyProof.Rows L2 G
def v6:DS:=(B4 (W9 (tB2 neD (A1 1) (dC (.int 0))) (B4 (K0 2 (A4 T8 (A1 0) (A1 1))) (B4 (K0 0 (A1 1)) (K0 1 (A1 2))))) (B5 (A1 0)))
def R3:List D->Option D:=N0 v6 3
def S7:DS:=(B4 (K0 2 (A2 R3 (A0 (A1 0) (A0 (A1 1) A3)))) (B5 (O7 (A0 (A4 W0 (A1 0) (A1 2)) (A0 (A4 W0 (A1 1) (A1 2)) A3)))))
def O8:List D->Option D:=N0 S7 3
def S8:DS:=(B5 (A4 leI (A4 Q8 (dIx (B0 0) (dC (.int 0))) (dIx (B0 1) (dC (.int 1)))) (A4 Q8 (dIx (B0 1) (dC (.int 0))) (dIx (B0 0) (dC (.int 1))))))
def X9:List D->Option D:=N0 S8 2
def ab6:DS:=(B5 (A2 O8 (A0 (A4 W2 (A4 Q8 (dIx (B0 0) (dC (.int 0))) (dIx (B0 1) (dC (.int 1)))) (A4 Q8 (dIx (B0 1) (dC (.int 0))) (dIx (B0 0) (dC (.int 1))))) (A0 (A4 Q8 (dIx (B0 0) (dC (.int 1))) (dIx (B0 1) (dC (.int 1)))) A3))))
def O4:List D->Option D:=N0 ab6 2
def X8:DS:=(B5 (A2 O8 (A0 (A4 Y3 (A4 Q8 (dIx (B0 0) (dC (.int 0))) (dIx (B0 1) (dC (.int 1)))) (A4 Q8 (dIx (B0 1) (dC (.int 0))) (dIx (B0 0) (dC (.int 1))))) (A0 (A4 Q8 (dIx (B0 0) (dC (.int 1))) (dIx (B0 1) (dC (.int 1)))) A3))))
def T7:List D->Option D:=N0 X8 2
def ab5:DS:=(B5 (A2 O8 (A0 (A4 Q8 (dIx (B0 0) (dC (.int 0))) (dIx (B0 1) (dC (.int 0)))) (A0 (A4 Q8 (dIx (B0 0) (dC (.int 1))) (dIx (B0 1) (dC (.int 1)))) A3))))
def S9:List D->Option D:=N0 ab5 2
def c5:DS:=(B5 (A2 T7 (A0 (dC (.tuple [(.int 1),(.int 1)])) (A0 (A1 0) A3))))
def W5:List D->Option D:=N0 c5 1
def R6:DS:=(B5 (af1 (aq1 (A2 X9 (A0 (A1 0) (A0 (dC (.tuple [(.int 1),(.int 1)])) A3)))) (A1 0) (dC (.tuple [(.int 1),(.int 1)]))))
def R8:List D->Option D:=N0 R6 1
def K9:DS:=(B4 (sIf (tB2 eqD (A1 0) (dC (.str "plus"))) (B5 (A2 R8 (A0 (A2 O4 (A0 (A1 1) (A0 (A1 2) A3))) A3))) P0) (B4 (sIf (tB2 eqD (A1 0) (dC (.str "atop"))) (B5 (A1 2)) P0) (B4 (sIf (tB2 eqD (A1 0) (dC (.str "cut"))) (B5 (A2 S9 (A0 (A1 2) (A0 (A2 W5 (A0 (A1 1) A3)) A3)))) P0) (B5 (A2 T7 (A0 (A2 O4 (A0 (A1 1) (A0 (A1 2) A3))) (A0 (A2 S9 (A0 (A1 1) (A0 (A1 2) A3))) A3)))))))
def S5:List D->Option D:=N0 K9 3
def J6:DS:=(B4 (sIf (tB2 eqD (A1 0) (dC (.str "plus"))) (B5 (A2 R8 (A0 (A2 O4 (A0 (A1 3) (A0 (A1 4) A3))) A3))) P0) (B4 (sIf (tB2 eqD (A1 0) (dC (.str "screen"))) (B5 (A2 T7 (A0 (A2 O4 (A0 (A1 3) (A0 (A1 4) A3))) (A0 (A2 S9 (A0 (A1 3) (A0 (A1 4) A3))) A3)))) P0) (B4 (K0 5 (A2 S9 (A0 (A1 4) (A0 (A2 W5 (A0 (A1 1) A3)) A3)))) (B4 (sIf (tB2 eqD (A1 0) (dC (.str "over"))) (B5 (A2 O4 (A0 (A1 3) (A0 (A1 5) A3)))) P0) (B4 (sIf (tB2 eqD (A1 0) (dC (.str "multiply"))) (B5 (A2 O4 (A0 (A2 O4 (A0 (A2 S9 (A0 (A1 3) (A0 (A1 4) A3))) (A0 (A2 S9 (A0 (A1 3) (A0 (A2 W5 (A0 (A1 2) A3)) A3))) A3))) (A0 (A1 5) A3)))) P0) (B4 (sIf (tB2 eqD (A1 0) (dC (.str "atop"))) (B5 (A2 O4 (A0 (A2 S9 (A0 (A1 3) (A0 (A1 2) A3))) (A0 (A1 5) A3)))) P0) (B5 (A1 5))))))))
def R4:List D->Option D:=N0 J6 6
def ak7:DS:=(B4 (K0 3 (dIx (B0 1) (dC (.int 0)))) (B4 (K0 4 (dIx (B0 2) (dC (.int 0)))) (B4 (d3 5 (J7 2 [0,3,4] (ag3 (qE (ap0 (A1 1) (l6 (dC (.int 1))) l7)) (qE (ap0 (A1 2) (l6 (dC (.int 1))) l7))) (O2 2 (B2 (J5 0) (B2 (J5 1) O6))) L0 (A2 R4 (A0 (A1 2) (A0 (A1 3) (A0 (A1 4) (A0 (A1 0) (A0 (A1 1) A3)))))))) (B5 (O7 (A0 (A2 S5 (A0 (A1 0) (A0 (A1 3) (A0 (A1 4) A3)))) (A0 (dIx (B0 5) (dC (.int 0))) (A0 (dIx (B0 5) (dC (.int 1))) (A0 (dIx (B0 5) (dC (.int 2))) A3)))))))))
def W7:List D->Option D:=N0 ak7 6
def af9:DS:=(B4 (sIf (tB2 eqD (A1 0) (aa5 A3)) (B5 (A4 Q8 (dC (.int 7)) (A1 1))) P0) (B5 (A4 W2 (dIx (B0 0) (A4 T8 (A1 1) (af0 (B0 0)))) (A4 Q8 (dC (.int 6553)) (A4 W0 (A1 1) (af0 (B0 0)))))))
def ag0:List D->Option D:=N0 af9 2
def ak5:DS:=(B4 (K0 3 (A4 T8 (A4 W2 (A4 Q8 (A4 T8 (A2 ag0 (A0 (A1 0) (A0 (A1 1) A3))) (dC (.int 2147483563))) (dC (.int 69069))) (A4 Q8 (dC (.int 104723)) (A4 W2 (A1 1) (dC (.int 1))))) (dC (.int 2147483563)))) (B4 (K0 3 (A4 T8 (A4 W2 (A4 Q8 (A1 3) (A1 3)) (A4 W0 (A1 3) (dC (.int 3)))) (dC (.int 2147483399)))) (B5 (A4 T8 (A4 W0 (A4 T8 (A4 W2 (A4 Q8 (A1 3) (A1 3)) (A4 W0 (A1 3) (dC (.int 7)))) (dC (.int 2147483647))) (dC (.int 11))) (A1 2)))))
def D3:List D->Option D:=N0 ak5 4
def o8:DS:=(B4 (K0 2 (A1 0)) (B4 (K0 3 (A1 1)) (B4 (W9 (tB2 gtI (A1 2) (dC (.int 0))) (al8 2 3 (A0 (A4 T8 (A1 3) (A1 2)) (A0 (A1 2) A3)))) (B5 (O7 (A0 (A4 W0 (A1 0) (A1 3)) (A0 (A4 W0 (A1 1) (A1 3)) A3)))))))
def o9:List D->Option D:=N0 o8 4
def ak3:DS:=(B5 (A2 o9 (A0 (A4 Q8 (dIx (B0 0) (dC (.int 0))) (dIx (B0 1) (dC (.int 0)))) (A0 (A4 Q8 (dIx (B0 0) (dC (.int 1))) (dIx (B0 1) (dC (.int 1)))) A3))))
def v9:List D->Option D:=N0 ak3 2
def ak4:DS:=(B4 (K0 2 (A4 W2 (dC (.int 1)) (A2 D3 (A0 (A1 0) (A0 (A1 1) (A0 (dC (.int 12)) A3)))))) (B4 (K0 3 (A2 o9 (A0 (A2 D3 (A0 (A1 0) (A0 (A4 W2 (A1 1) (dC (.int 1))) (A0 (A4 W2 (A1 2) (dC (.int 1))) A3)))) (A0 (A1 2) A3)))) (B5 (dIx (qN (A0 (A1 3) (A0 (A1 3) (A0 (A1 3) (A0 (O7 (A0 (dC (.int 0)) (A0 (dC (.int 1)) A3))) (A0 (O7 (A0 (dC (.int 1)) (A0 (dC (.int 1)) A3))) A3)))))) (A2 D3 (A0 (A1 0) (A0 (A4 W2 (A1 1) (dC (.int 2))) (A0 (dC (.int 5)) A3))))))))
def c6:List D->Option D:=N0 ak4 4
def av5:DS:=(B4 (K0 2 (A2 c6 (A0 (A1 0) (A0 (A1 1) A3)))) (B5 (A4 W2 (O7 (A0 (A1 2) A3)) (P8 (qN (J7 1 [2,0,1] (U0 (dC (.int 3))) (J5 0) L0 (A2 v9 (A0 (A1 1) (A0 (A2 c6 (A0 (A1 2) (A0 (A4 W2 (A4 W2 (A1 3) (dC (.int 3))) (A4 Q8 (dC (.int 3)) (A1 0))) A3))) A3)))))))))
def W6:List D->Option D:=N0 av5 3
def ak6:DS:=(B5 (A2 O8 (A0 (A4 Q8 (dIx (B0 0) (dC (.int 0))) (dIx (B0 1) (dC (.int 1)))) (A0 (A4 Q8 (dIx (B0 0) (dC (.int 1))) (dIx (B0 1) (dC (.int 0)))) A3))))
def c7:List D->Option D:=N0 ak6 2
end Sh
namespace Sh
open PySem G
theorem bv4(i j:Int):neD (.int i) (.int j)=some (.bool (!(i==j))):=rfl
theorem bC3(i j:Int):eqD (.int i) (.int j)=some (.bool (i==j)):=rfl
theorem aF1{t:Rho->Option Bool}{f:DS}{n:Nat}{ρ ρ':Rho}(h1:t ρ=some true) (h2:f ρ=some (.nx ρ')):S0 t f (n+1) ρ=S0 t f n ρ':=by simp only[S0,h1,h2,xbs,if_true]
theorem aY1:∀(b a:Nat) (x:Option B),∃n x',S0 (tB2 neD (A1 1) (dC (.int 0))) (B4 (K0 2 (A4 T8 (A1 0) (A1 1))) (B4 (K0 0 (A1 1)) (K0 1 (A1 2)))) n [some (.val (.int a)),some (.val (.int b)),x]
  = some (.nx [some (.val (.int (Nat.gcd a b))),some (.val (.int 0)),x']):=by
 intro b
 induction b using Nat.strongRecOn with
 | _ b ih =>
  intro a x
  by_cases hb:b=0
  ·subst hb
   refine⟨1,x,?_⟩
   rw[Nat.gcd_zero_right]
   rfl
  ·obtain⟨n,x',h⟩:=ih (a % b) (Nat.mod_lt _ (Nat.pos_of_ne_zero hb)) b (some (.val (.int ((a % b:Nat):Int))))
   refine⟨n+1,x',?_⟩
   have e1:tB2 neD (A1 1) (dC (.int 0)) [some (.val (.int a)),some (.val (.int b)),x]=some true:=by
    show(neD (.int b) (.int 0)).bind S4=some true
    rw[bv4]
    have:((b:Int)==0)=false:=by simp;omega
    rw[this];rfl
   have e2:T8 (.int a) (.int b)=some (.int ((a % b:Nat):Int)):=by
    show(if(0:Int) < (b:Int) then some (PyData.int ((a:Int) % (b:Int))) else none)=_
    rw[if_pos (by omega)]
    simp
   have e3:B4 (K0 2 (A4 T8 (A1 0) (A1 1))) (B4 (K0 0 (A1 1)) (K0 1 (A1 2))) [some (.val (.int a)),some (.val (.int b)),x]=some (.nx [some (.val (.int b)),some (.val (.int ((a % b:Nat):Int))),some (.val (.int ((a % b:Nat):Int)))]):=by
    show((((T8 (.int a) (.int b))).map fun d=>Fl.nx [some (.val (.int a)),some (.val (.int b)),some (.val d)]).bind _)=_
    rw[e2]
    rfl
   rw[aF1 e1 e3,h,Nat.gcd_comm b,Nat.gcd_comm a b,← Nat.gcd_rec]
theorem bN1(a b:Nat):R3 [.int a,.int b]=some (.int (Nat.gcd a b)):=by
 obtain⟨n,x',h⟩:=aY1 b a none
 show((W9 _ _ [some (.val (.int a)),some (.val (.int b)),none]).bind _).bind _=_
 rw[ah6 h]
 rfl
theorem aK7:∀(a b:Nat) (t u:D),∃n,S0 (tB2 gtI (A1 2) (dC (.int 0))) (al8 2 3 (A0 (A4 T8 (A1 3) (A1 2)) (A0 (A1 2) A3))) n [some (.val t),some (.val u),some (.val (.int a)),some (.val (.int b))]
  = some (.nx [some (.val t),some (.val u),some (.val (.int 0)),some (.val (.int (Nat.gcd a b)))]):=by
 intro a
 induction a using Nat.strongRecOn with
 | _ a ih =>
  intro b t u
  by_cases ha:a=0
  ·subst ha
   refine⟨1,?_⟩
   rw[Nat.gcd_zero_left]
   rfl
  ·obtain⟨n,h⟩:=ih (b % a) (Nat.mod_lt _ (Nat.pos_of_ne_zero ha)) a t u
   refine⟨n+1,?_⟩
   have e1:tB2 gtI (A1 2) (dC (.int 0)) [some (.val t),some (.val u),some (.val (.int a)),some (.val (.int b))]=some true:=by
    show some (decide ((0:Int) < (a:Int)))=some true
    rw[decide_eq_true (by omega)]
   have e2:T8 (.int b) (.int a)=some (.int ((b % a:Nat):Int)):=by
    show(if(0:Int) < (a:Int) then some (PyData.int ((b:Int) % (a:Int))) else none)=_
    rw[if_pos (by omega)]
    simp
   have e3:al8 2 3 (A0 (A4 T8 (A1 3) (A1 2)) (A0 (A1 2) A3)) [some (.val t),some (.val u),some (.val (.int a)),some (.val (.int b))]=some (.nx [some (.val t),some (.val u),some (.val (.int ((b % a:Nat):Int))),some (.val (.int a))]):=by
    show((T8 (.int b) (.int a)).bind fun d=>(some [PyData.int (a:Int)]).map fun ds=>d::ds).bind _=_
    rw[e2]
    rfl
   rw[aF1 e1 e3,h,← Nat.gcd_rec]
def fr(r:Rat):D:=.tuple [.int r.num,.int r.den]
theorem J9{i:Int}{k:Nat}(h:i.natAbs < 2 ^ k) (hk:k<=8000):D4 i:=Nat.lt_of_lt_of_le h (Nat.pow_le_pow_right (by decide) hk)
theorem ar9(a b:Nat) (hb:0 < b):fr (mkRat a b)=.tuple [.int ((a / Nat.gcd a b:Nat):Int),.int ((b / Nat.gcd a b:Nat):Int)]:=by
 unfold fr
 rw[Rat.num_mkRat,Rat.den_mkRat,if_neg (by omega),if_neg (by omega)]
 have e:b.gcd (a:Int).natAbs=Nat.gcd a b:=by rw[Int.natAbs_natCast,Nat.gcd_comm]
 rw[e]
 simp
theorem aF7(a b x k:Nat) (hb:0 < b) (hk:b < 2 ^ k) (hk8:k<=8000):W0 (.int x) (.int (Nat.gcd a b))=some (.int ((x / Nat.gcd a b:Nat):Int)):=by
 have g0:0 < Nat.gcd a b:=Nat.gcd_pos_of_pos_right _ hb
 have gs:D4 (Nat.gcd a b:Nat):=J9 (k:=k) (by rw[Int.natAbs_natCast];exact Nat.lt_of_le_of_lt (Nat.le_of_dvd hb (Nat.gcd_dvd_right a b)) hk) hk8
 show(if(0:Int) < ((Nat.gcd a b:Nat):Int)/\D4 (Nat.gcd a b:Nat) then some (PyData.int ((x:Int) / ((Nat.gcd a b:Nat):Int))) else none)=_
 rw[if_pos ⟨by omega,gs⟩]
 simp
theorem ab8(a b k:Nat) (hb:0 < b) (hk:b < 2 ^ k) (hk8:k<=8000):O8 [.int a,.int b]=some (fr (mkRat a b)):=by
 have d:=fun x=>aF7 a b x k hb hk hk8
 have e:S7 [some (.val (.int a)),some (.val (.int b)),none]=some (.rt (fr (mkRat a b))):=by
  rw[ar9 a b hb]
  simp only[S7,B4,K0,A2,A0,A3,A1,xg0,xg1,xbs,xms,bN1,xw1,xw0,B5,O7,A4,d]
 show(S7 [some (.val (.int a)),some (.val (.int b)),none]).bind _=_
 rw[e];rfl
theorem bb7(a b k:Nat) (hb:0 < b) (hk:b < 2 ^ k) (hk8:k<=8000):o9 [.int a,.int b]=some (fr (mkRat a b)):=by
 have d:=fun x=>aF7 a b x k hb hk hk8
 obtain⟨n,h⟩:=aK7 a b (.int a) (.int b)
 have e:o8 [some (.val (.int a)),some (.val (.int b)),none,none]=some (.rt (fr (mkRat a b))):=by
  rw[ar9 a b hb]
  simp only[o8,B4,K0,A2,A0,A3,A1,xg0,xg1,xbs,xms,xw1,xw0,B5,O7,A4,d,ah6 h]
 show(o8 [some (.val (.int a)),some (.val (.int b)),none,none]).bind _=_
 rw[e];rfl
structure Bd (k:Nat) (r:Rat):Prop where
 nn:0<=r
 num:r.num.natAbs < 2 ^ k
 den:r.den < 2 ^ k
theorem Bd.mono{j k:Nat}{r:Rat}(h:Bd j r) (l:j<=k):Bd k r:=⟨h.nn,Nat.lt_of_lt_of_le h.num (Nat.pow_le_pow_right (by decide) l),Nat.lt_of_lt_of_le h.den (Nat.pow_le_pow_right (by decide) l)⟩
theorem Bd.nat{k:Nat}{r:Rat}(h:Bd k r):r.num=(r.num.natAbs:Int):=by
 have:=Rat.num_nonneg.mpr h.nn
 omega
theorem aU4(a b:Nat):0<=mkRat (a:Int) b:=by
 rw[← Rat.num_nonneg,Rat.num_mkRat]
 split
 ·exact Int.le_refl _
 ·exact Int.ediv_nonneg (by omega) (by omega)
theorem Bd.of{a b k:Nat}(hb:0 < b) (h1:a < 2 ^ k) (h2:b < 2 ^ k):Bd k (mkRat a b):=by
 refine⟨aU4 a b,?_,?_⟩
 ·rw[Rat.num_mkRat,if_neg (by omega)]
  rw[show((a:Int) / ((b.gcd (a:Int).natAbs:Nat):Int))=((a / b.gcd (a:Int).natAbs:Nat):Int) by simp,Int.natAbs_natCast]
  exact Nat.lt_of_le_of_lt (Nat.div_le_self _ _) h1
 ·rw[Rat.den_mkRat,if_neg (by omega)]
  exact Nat.lt_of_le_of_lt (Nat.div_le_self _ _) h2
theorem K2{a b j k:Nat}(h1:a < 2 ^ j) (h2:b < 2 ^ k):a*b < 2 ^ (j+k):=by
 rw[Nat.pow_add]
 exact Nat.mul_lt_mul'' h1 h2
theorem am1{j k:Nat}{r s:Rat}(hr:Bd j r) (hs:Bd k s):r*s=mkRat ((r.num.natAbs*s.num.natAbs:Nat):Int) (r.den*s.den):=by rw[Rat.mul_def,Rat.normalize_eq_mkRat,Int.natCast_mul,← hr.nat,← hs.nat]
theorem aD2{j k:Nat}{r s:Rat}(hr:Bd j r) (hs:Bd k s):r+s=mkRat ((r.num.natAbs*s.den+s.num.natAbs*r.den:Nat):Int) (r.den*s.den):=by rw[Rat.add_def,Rat.normalize_eq_mkRat,Int.natCast_add,Int.natCast_mul,Int.natCast_mul,← hr.nat,← hs.nat]
theorem aO6{j k:Nat}{r s:Rat}(hr:Bd j r) (hs:Bd k s) (l:s<=r):s.num.natAbs*r.den<=r.num.natAbs*s.den:=by
 have:=(Rat.le_iff s r).mp l
 rw[hr.nat,hs.nat]at this
 exact_mod_cast this
theorem aD1{j k:Nat}{r s:Rat}(hr:Bd j r) (hs:Bd k s) (l:s<=r):r - s=mkRat ((r.num.natAbs*s.den - s.num.natAbs*r.den:Nat):Int) (r.den*s.den):=by rw[Rat.sub_def,Rat.normalize_eq_mkRat,Int.ofNat_sub (aO6 hr hs l),Int.natCast_mul,Int.natCast_mul,← hr.nat,← hs.nat]
theorem L5(r:Rat):0 < r.den:=Nat.pos_of_ne_zero r.den_nz
theorem Bd.mul{j k:Nat}{r s:Rat}(hr:Bd j r) (hs:Bd k s):Bd (j+k) (r*s):=by
 rw[am1 hr hs]
 exact Bd.of (Nat.mul_pos (L5 r) (L5 s)) (K2 hr.num hs.num) (K2 hr.den hs.den)
theorem Bd.add{j k:Nat}{r s:Rat}(hr:Bd j r) (hs:Bd k s):Bd (j+k+1) (r+s):=by
 rw[aD2 hr hs]
 have h1:=K2 hr.num hs.den
 have h2:=K2 hs.num hr.den
 have h3:=K2 hr.den hs.den
 rw[Nat.add_comm k j]at h2
 exact Bd.of (Nat.mul_pos (L5 r) (L5 s)) (by rw[Nat.pow_succ];omega) (by rw[Nat.pow_succ];omega)
theorem Bd.sub{j k:Nat}{r s:Rat}(hr:Bd j r) (hs:Bd k s) (l:s<=r):Bd (j+k) (r - s):=by
 rw[aD1 hr hs l]
 have h1:=K2 hr.num hs.den
 have h3:=K2 hr.den hs.den
 exact Bd.of (Nat.mul_pos (L5 r) (L5 s)) (by omega) (by omega)
theorem Bd.one:Bd 1 1:=⟨by decide,by decide,by decide⟩
theorem Bd.zero:Bd 1 0:=⟨by decide,by decide,by decide⟩
theorem aY6:fr 1=.tuple [.int 1,.int 1]:=rfl
theorem Bd.sn{k:Nat}{r:Rat}(h:Bd k r) (hk:k<=8000):D4 r.num:=J9 h.num hk
theorem Bd.sd{k:Nat}{r:Rat}(h:Bd k r) (hk:k<=8000):D4 r.den:=J9 (k:=k) (by rw[Int.natAbs_natCast];exact h.den) hk
theorem O0{i j:Int}(h1:D4 i) (h2:D4 j):Q8 (.int i) (.int j)=some (.int (i*j)):=by
 show(if D4 i/\D4 j then some (PyData.int (i*j)) else none)=_
 rw[if_pos ⟨h1,h2⟩]
theorem ba8(i j:Int):W2 (.int i) (.int j)=some (.int (i+j)):=rfl
theorem aB5(i j:Int):Y3 (.int i) (.int j)=some (.int (i - j)):=rfl
theorem bw0(i j:Int):leI (.int i) (.int j)=some (.bool (decide (i<=j))):=rfl
theorem bD7(a b:D):L2.atI [a,b] 0=some a:=rfl
theorem bD6(a b:D):L2.atI [a,b] 1=some b:=rfl
theorem ix0{ρ:Rho}{i:Nat}{r:Rat}(h:ρ[i]? = some (some (.val (fr r)))):dIx (B0 i) (dC (.int 0)) ρ=some (.int r.num):=by simp only[dIx,B0,h,fr,dC,xbs,bD7]
theorem ix1{ρ:Rho}{i:Nat}{r:Rat}(h:ρ[i]? = some (some (.val (fr r)))):dIx (B0 i) (dC (.int 1)) ρ=some (.int r.den):=by simp only[dIx,B0,h,fr,dC,xbs,bD6]
theorem v0(x:Option B) (l:Rho):(x::l)[0]? = some x:=rfl
theorem v1(y x:Option B) (l:Rho):(y::x::l)[1]? = some x:=rfl
theorem Q9{j k:Nat}{r s:Rat}(hr:Bd j r) (hs:Bd k s) (l:j+k<=8000):S9 [fr r,fr s]=some (fr (r*s)):=by
 have e:ab5 [some (.val (fr r)),some (.val (fr s))]=some (.rt (fr (r*s))):=by
  simp only[ab5,B5,A2,A0,A3,A4,ix0 (v0 _ _),ix1 (v0 _ _),ix0 (v1 _ _ _),ix1 (v1 _ _ _),xbs,xms,O0 (hr.sn (by omega)) (hs.sn (by omega)),O0 (hr.sd (by omega)) (hs.sd (by omega))]
  have:=ab8 (r.num.natAbs*s.num.natAbs) (r.den*s.den) (j+k) (Nat.mul_pos (L5 r) (L5 s)) (K2 hr.den hs.den) l
  rw[← am1 hr hs,Int.natCast_mul,Int.natCast_mul,← hr.nat,← hs.nat]at this
  rw[this];rfl
 show(ab5 [some (.val (fr r)),some (.val (fr s))]).bind _=_
 rw[e];rfl
theorem P7{j k:Nat}{r s:Rat}(hr:Bd j r) (hs:Bd k s) (l:j+k<=8000):O4 [fr r,fr s]=some (fr (r+s)):=by
 have e:ab6 [some (.val (fr r)),some (.val (fr s))]=some (.rt (fr (r+s))):=by
  simp only[ab6,B5,A2,A0,A3,A4,ix0 (v0 _ _),ix1 (v0 _ _),ix0 (v1 _ _ _),ix1 (v1 _ _ _),xbs,xms,O0 (hr.sn (by omega)) (hs.sd (by omega)),O0 (hs.sn (by omega)) (hr.sd (by omega)),O0 (hr.sd (by omega)) (hs.sd (by omega)),ba8]
  have:=ab8 (r.num.natAbs*s.den+s.num.natAbs*r.den) (r.den*s.den) (j+k) (Nat.mul_pos (L5 r) (L5 s)) (K2 hr.den hs.den) l
  rw[← aD2 hr hs,Int.natCast_add,Int.natCast_mul,Int.natCast_mul,Int.natCast_mul,← hr.nat,← hs.nat]at this
  rw[this];rfl
 show(ab6 [some (.val (fr r)),some (.val (fr s))]).bind _=_
 rw[e];rfl
theorem U9{j k:Nat}{r s:Rat}(hr:Bd j r) (hs:Bd k s) (l:j+k<=8000) (hl:s<=r):T7 [fr r,fr s]=some (fr (r - s)):=by
 have e:X8 [some (.val (fr r)),some (.val (fr s))]=some (.rt (fr (r - s))):=by
  simp only[X8,B5,A2,A0,A3,A4,ix0 (v0 _ _),ix1 (v0 _ _),ix0 (v1 _ _ _),ix1 (v1 _ _ _),xbs,xms,O0 (hr.sn (by omega)) (hs.sd (by omega)),O0 (hs.sn (by omega)) (hr.sd (by omega)),O0 (hr.sd (by omega)) (hs.sd (by omega)),aB5]
  have:=ab8 (r.num.natAbs*s.den - s.num.natAbs*r.den) (r.den*s.den) (j+k) (Nat.mul_pos (L5 r) (L5 s)) (K2 hr.den hs.den) l
  rw[← aD1 hr hs hl,Int.ofNat_sub (aO6 hr hs hl),Int.natCast_mul,Int.natCast_mul,Int.natCast_mul,← hr.nat,← hs.nat]at this
  rw[this];rfl
 show(X8 [some (.val (fr r)),some (.val (fr s))]).bind _=_
 rw[e];rfl
theorem v7{k:Nat}{s:Rat}(hs:Bd k s) (l:k+1<=8000) (hl:s<=1):W5 [fr s]=some (fr (1 - s)):=by
 have e:c5 [some (.val (fr s))]=some (.rt (fr (1 - s))):=by
  simp only[c5,B5,A2,A0,A3,dC,A1,xg0,xbs,xms]
  rw[← aY6,U9 Bd.one hs (by omega) hl];rfl
 show(c5 [some (.val (fr s))]).bind _=_
 rw[e];rfl
theorem av6{j k:Nat}{r s:Rat}(hr:Bd j r) (hs:Bd k s) (l:j+k<=8000):X9 [fr r,fr s]=some (.bool (decide (r<=s))):=by
 have e:S8 [some (.val (fr r)),some (.val (fr s))]=some (.rt (.bool (decide (r<=s)))):=by
  simp only[S8,B5,A2,A0,A3,A4,ix0 (v0 _ _),ix1 (v0 _ _),ix0 (v1 _ _ _),ix1 (v1 _ _ _),xbs,xms,O0 (hr.sn (by omega)) (hs.sd (by omega)),O0 (hs.sn (by omega)) (hr.sd (by omega)),bw0]
  simp only[← Rat.le_iff]
 show(S8 [some (.val (fr r)),some (.val (fr s))]).bind _=_
 rw[e];rfl
theorem av7{k:Nat}{r:Rat}(hr:Bd k r) (l:k+1<=8000):R8 [fr r]=some (fr (if r<=1 then r else 1)):=by
 have e:R6 [some (.val (fr r))]=some (.rt (fr (if r<=1 then r else 1))):=by
  simp only[R6,B5,af1,aq1,A2,A0,A3,dC,A1,xg0,xbs,xms]
  rw[← aY6,av6 hr Bd.one l]
  by_cases h:r<=1
  ·simp[h,aI5]
  ·simp[h,aI5]
 show(R6 [some (.val (fr r))]).bind _=_
 rw[e];rfl
end Sh
set_option exponentiation.threshold 9000
namespace Sh
open PySem G L2
theorem bh1(i j:Int):ltI (.int i) (.int j)=some (.bool (decide (i < j))):=rfl
theorem bk6(i j:Int):gtI (.int i) (.int j)=some (.bool (decide (j < i))):=rfl
theorem bd8{α:Type}(x:α):List.replicate 0 x=[]:=rfl
theorem bd7{α:Type}(x:α):List.replicate 1 x=[x]:=rfl
theorem bd6{α:Type}(x:α):List.replicate 2 x=[x,x]:=rfl
theorem aG0(a b c d:D):aa6 [a,b,c,d] (some 1) none=[b,c,d]:=rfl
theorem bM5(a b c d:D):L2.atI [a,b,c,d] 0=some a:=rfl
theorem bM4(a b c d:D):L2.atI [a,b,c,d] 1=some b:=rfl
theorem bM3(a b c d:D):L2.atI [a,b,c,d] 2=some c:=rfl
theorem bM2(a b c d:D):L2.atI [a,b,c,d] 3=some d:=rfl
theorem bM8(a b c:D):L2.atI [a,b,c] 0=some a:=rfl
theorem bM7(a b c:D):L2.atI [a,b,c] 1=some b:=rfl
theorem bM6(a b c:D):L2.atI [a,b,c] 2=some c:=rfl
theorem V0{n k:Nat}(h:n < 2 ^ k) (hk:k<=8000):D4 (n:Int):=J9 (k:=k) (by rw[Int.natAbs_natCast];exact h) hk
theorem ai0{i j:Int}(h:0 < j):T8 (.int i) (.int j)=some (.int (i % j)):=by
 show(if(0:Int) < j then some (PyData.int (i % j)) else none)=_
 rw[if_pos h]
theorem aj1{i j:Int}(h:0 < j) (s:D4 j):W0 (.int i) (.int j)=some (.int (i / j)):=by
 show(if(0:Int) < j/\D4 j then some (PyData.int (i / j)) else none)=_
 rw[if_pos ⟨h,s⟩]
theorem B7{g:DS}{n:Nat}{ds:List D}{ρ:Rho}{d:D}(h:r6 n ds=ρ) (e:g ρ=some (.rt d)):N0 g n ds=some d:=by
 unfold N0
 rw[h,e];rfl
theorem i8{j k:Nat}{r s:Rat}(hr:Bd j r) (hs:Bd k s) (l:j+k<=8000):v9 [fr r,fr s]=some (fr (r*s)):=by
 refine B7 (ρ:=[some (.val (fr r)),some (.val (fr s))]) rfl ?_
 simp only[ak3,B5,A2,A0,A3,A4,ix0 (v0 _ _),ix1 (v0 _ _),ix0 (v1 _ _ _),ix1 (v1 _ _ _),xbs,xms,O0 (hr.sn (by grind)) (hs.sn (by grind)),O0 (hr.sd (by grind)) (hs.sd (by grind))]
 have:=bb7 (r.num.natAbs*s.num.natAbs) (r.den*s.den) (j+k) (Nat.mul_pos (L5 r) (L5 s)) (K2 hr.den hs.den) l
 rw[← am1 hr hs,Int.natCast_mul,Int.natCast_mul,← hr.nat,← hs.nat]at this
 rw[this];rfl
def aj4(ns:List Int) (k:Nat):Int:=if ns.length=0 then 7*(k:Int) else ns.getD (k % ns.length) 0+6553*((k / ns.length:Nat):Int)
theorem aZ4(ns:List Int):eqD (.list (ns.map PyData.int)) (.list [])=some (.bool (decide (ns.length=0))):=by
 have h1:SeqAt.shaped (.list (ns.map PyData.int))=true:=by
  have c:∀l:List Int,PyData.canLayAll0 (l.map PyData.int)=true:=fun l=>by
   induction l with
   | nil=>rfl
   | cons a r ih=>simp only[xmc,PyData.canLayAll0,PyData.canLay0,ih];rfl
  have d:∀l:List Int,PyData.depthAll (l.map PyData.int)=0:=fun l=>by
   induction l with
   | nil=>rfl
   | cons a r ih=>simp only[xmc,PyData.depthAll,PyData.depth,ih];rfl
  unfold SeqAt.shaped
  simp only[PyData.canLay0,c,PyData.depth,d]
  rfl
 unfold eqD
 rw[if_pos ⟨h1,rfl⟩]
 cases ns with
 | nil=>rfl
 | cons a r=>simp[PyData.eqv,PyData.eqvAll]
end Sh
local macro_rules
  | `(tactic| wp_walk using evP, $ts,*) => `(tactic| simp only [G.B4, G.K0, G.B5, G.sIf, G.P0, G.d3, G.aJ4, G.A1, G.dC, G.O7, G.aa5, G.A4, G.A2, G.ba4, G.dOr, G.bl8, G.Z5, G.P8, G.bm1, G.bm0, G.bl9, G.l7, G.l6, G.aF2, G.A3, G.A0, G.aq1, G.tB2, G.aB4, G.al2, G.aq2, G.aI5, G.S4, G.L0, G.J5, G.O2, G.B2, G.O6, G.U6, G.ay4, G.xg0, G.xg1, G.xw0, G.xw1, G.xbs, G.xms, G.xmc, G.xmn, G.xna, G.xca, Sh.ba8, Sh.aB5, Sh.bw0, Sh.bv4, Sh.bC3, Sh.bh1, Sh.bk6, Sh.bM5, Sh.bM4, Sh.bM3, Sh.bM2, Sh.bM8, Sh.bM7, Sh.bM6, Sh.bD7, Sh.bD6, G.xnt, G.xnf, G.xft, if_true, if_false, $[$ts:term],*])
local macro_rules
  | `(tactic| wp_walk using evB) => `(tactic| wp_walk using evP, G.dIx, G.af0, G.B0, G.qE, G.qN, G.aP8)
  | `(tactic| wp_walk using evB, $ts,*) => `(tactic| wp_walk using evP, G.dIx, G.af0, G.B0, G.qE, G.qN, G.aP8, $ts,*)
local macro_rules
  | `(tactic| wp_walk using evA) => `(tactic| wp_walk using evB, G.af1, G.ap0, G.J7, G.Y2, G.u7, G.U0, G.ag3, Sh.bd8, Sh.bd7, Sh.bd6, Sh.aG0, ite_true, ite_false)
  | `(tactic| wp_walk using evA, $ts,*) => `(tactic| wp_walk using evB, G.af1, G.ap0, G.J7, G.Y2, G.u7, G.U0, G.ag3, Sh.bd8, Sh.bd7, Sh.bd6, Sh.aG0, ite_true, ite_false, $ts,*)
local macro_rules
  | `(tactic| wp_walk using evD) => `(tactic| wp_walk using evB, G.u6, G.aw5)
  | `(tactic| wp_walk using evD, $ts,*) => `(tactic| wp_walk using evB, G.u6, G.aw5, $ts,*)
local macro_rules
  | `(tactic| wp_walk using evC) => `(tactic| wp_walk using evD, G.af1, G.ap0, G.J7, G.Y2, G.u7, G.U0, G.ag3, Sh.bd8, Sh.bd7, Sh.bd6, Sh.aG0, ite_true, ite_false)
  | `(tactic| wp_walk using evC, $ts,*) => `(tactic| wp_walk using evD, G.af1, G.ap0, G.J7, G.Y2, G.u7, G.U0, G.ag3, Sh.bd8, Sh.bd7, Sh.bd6, Sh.aG0, ite_true, ite_false, $ts,*)
local macro_rules
  | `(tactic| wp_walk using evQ) => `(tactic| wp_walk using evP, G.u6, G.aw5)
  | `(tactic| wp_walk using evQ, $ts,*) => `(tactic| wp_walk using evP, G.u6, G.aw5, $ts,*)
namespace Sh
open PySem G L2
theorem bE4(ns:List Int) (k:Nat) (hn:ns.length<=63) (hk:k < 2 ^ 60):ag0 [.list (ns.map PyData.int),.int k]=some (.int (aj4 ns k)):=by
 refine B7 (ρ:=[some (.val (.list (ns.map PyData.int))),some (.val (.int k))]) rfl ?_
 have sk:D4 (k:Int):=V0 hk (by decide)
 by_cases h:ns.length=0
 ·have e:aj4 ns k=7*(k:Int):=by unfold aj4;rw[if_pos h]
  wp_walk using evA,af9,aZ4,h,decide_true,O0 (i:=7) (J9 (k:=3) (by decide) (by decide)) sk,e
 ·have e:aj4 ns k=ns.getD (k % ns.length) 0+6553*((k / ns.length:Nat):Int):=by unfold aj4;rw[if_neg h]
  have hl:(List.map PyData.int ns).length=ns.length:=List.length_map ..
  have hp:0 < ns.length:=Nat.pos_of_ne_zero h
  have m1:T8 (.int k) (.int ns.length)=some (.int ((k % ns.length:Nat):Int)):=by rw[ai0 (by grind)];simp
  have m2:W0 (.int k) (.int ns.length)=some (.int ((k / ns.length:Nat):Int)):=by rw[aj1 (by grind) (V0 (k:=6) (by grind) (by decide))];simp
  have m3:L2.atI (List.map PyData.int ns) ((k % ns.length:Nat):Int)=some (.int (ns.getD (k % ns.length) 0)):=by
   refine L2.bm6 ?_
   have hlt:k % ns.length < ns.length:=Nat.mod_lt _ hp
   rw[List.getElem?_map,List.getElem?_eq_getElem hlt]
   simp[List.getD,hlt]
  have sq:D4 ((k / ns.length:Nat):Int):=V0 (k:=60) (Nat.lt_of_le_of_lt (Nat.div_le_self _ _) hk) (by decide)
  wp_walk using evA,af9,aZ4,h,decide_false,hl,m1,m2,m3,O0 (i:=6553) (J9 (k:=13) (by decide) (by decide)) sq,e
def n5(ns:List Int) (k:Nat) (m:Int):Int :=
 let c:=(aj4 ns k % 2147483563*69069+104723*((k:Int)+1)) % 2147483563
 let c:=(c*c+c / 3) % 2147483399
 (c*c+c / 7) % 2147483647 / 11 % m
theorem ac4{i:Int}(h0:0<=i) (h:i < 4294967296):D4 i:=J9 (k:=32) (by omega) (by decide)
theorem ab9(ns:List Int) (k:Nat) (m:Int) (hn:ns.length<=63) (hk:k < 2 ^ 60) (hm:0 < m):D3 [.list (ns.map PyData.int),.int k,.int m]=some (.int (n5 ns k m)):=by
 refine B7 (ρ:=[some (.val (.list (ns.map PyData.int))),some (.val (.int k)),some (.val (.int m)),none]) rfl ?_
 have c0:∀x:Int,D4 (x % 2147483563):=fun x=>ac4 (by grind) (by grind)
 have c1:∀x:Int,D4 (x % 2147483399):=fun x=>ac4 (by grind) (by grind)
 have sk:D4 ((k:Int)+1):=J9 (k:=61) (by grind) (by decide)
 have s1:D4 69069:=J9 (k:=17) (by decide) (by decide)
 have s2:D4 104723:=J9 (k:=17) (by decide) (by decide)
 have s3:D4 3:=J9 (k:=2) (by decide) (by decide)
 have s7:D4 7:=J9 (k:=3) (by decide) (by decide)
 have s11:D4 11:=J9 (k:=4) (by decide) (by decide)
 wp_walk using evA,ak5,bE4 ns k hn hk,ai0 (show(0:Int) < 2147483563 by decide),ai0 (show(0:Int) < 2147483399 by decide),ai0 (show(0:Int) < 2147483647 by decide),ai0 hm,O0 (c0 _) s1,O0 s2 sk,O0 (c0 _) (c0 _),O0 (c1 _) (c1 _),aj1 (show(0:Int) < 3 by decide) s3,aj1 (show(0:Int) < 7 by decide) s7,aj1 (show(0:Int) < 11 by decide) s11
 rfl
theorem ab1(ns:List Int) (k:Nat) (m:Int) (hm:0 < m):0<=n5 ns k m/\n5 ns k m < m:=by
 unfold n5
 exact⟨Int.emod_nonneg _ (by omega),Int.emod_lt_of_pos _ hm⟩
structure IsSh (k:Nat) (r:Rat):Prop where
 bd:Bd k r
 le:r<=1
theorem aK8{a b:Nat}(hb:0 < b) (h:a<=b):mkRat (a:Int) b<=1:=by
 rw[Rat.le_iff,Rat.num_mkRat,Rat.den_mkRat,if_neg (by omega),if_neg (by omega)]
 have e0:(1:Rat).num=1:=rfl
 have e1:(1:Rat).den=1:=rfl
 rw[e0,e1]
 have:a / b.gcd a<=b / b.gcd a:=Nat.div_le_div_right h
 simp
 exact_mod_cast this
theorem ab7(ns:List Int) (at':Nat) (hn:ns.length<=63) (hk:at' < 2 ^ 40):∃r,c6 [.list (ns.map PyData.int),.int at']=some (fr r)/\IsSh 4 r:=by
 obtain⟨u0,u1⟩:=ab1 ns at' 12 (by decide)
 obtain⟨u,hu⟩:∃u:Nat,(1:Int)+n5 ns at' 12=u/\0 < u/\u<=12:=⟨(1+n5 ns at' 12).toNat,by grind,by grind,by grind⟩
 obtain⟨t0,t1⟩:=ab1 ns (at'+1) ((u:Int)+1) (by grind)
 obtain⟨t,ht⟩:∃t:Nat,n5 ns (at'+1) ((u:Int)+1)=t/\t<=u:=⟨(n5 ns (at'+1) ((u:Int)+1)).toNat,by grind,by grind⟩
 obtain⟨p0,p1⟩:=ab1 ns (at'+2) 5 (by decide)
 have hs:IsSh 4 (mkRat (t:Int) u):=⟨Bd.of (by grind) (by grind) (by grind),aK8 (by grind) (by grind)⟩
 have e1:=ab9 ns at' 12 hn (by grind) (by decide)
 have e2:=ab9 ns (at'+1) ((u:Int)+1) hn (by grind) (by grind)
 have e3:=ab9 ns (at'+2) 5 hn (by grind) (by decide)
 have e4:=bb7 t u 4 (by grind) (by grind) (by decide)
 have c1:((at':Int)+1)=((at'+1:Nat):Int):=by grind
 have c2:((at':Int)+2)=((at'+2:Nat):Int):=by grind
 rw[ht.1]at e2
 have pick:∀(j:Int),0<=j->j < 5->∃r,L2.atI [fr (mkRat (t:Int) u),fr (mkRat (t:Int) u),fr (mkRat (t:Int) u),.tuple [.int 0,.int 1],.tuple [.int 1,.int 1]] j=some (fr r)/\IsSh 4 r:=fun j h0 h5=>by
  have:j=0\/j=1\/j=2\/j=3\/j=4:=by grind
  rcases this with rfl|rfl|rfl|rfl|rfl
  ·exact⟨_,rfl,hs⟩
  ·exact⟨_,rfl,hs⟩
  ·exact⟨_,rfl,hs⟩
  ·exact⟨0,rfl,Bd.zero.mono (by decide),by decide⟩
  ·exact⟨1,rfl,Bd.one.mono (by decide),by decide⟩
 obtain⟨r,hr1,hr2⟩:=pick _ p0 p1
 refine⟨r,B7 (ρ:=[some (.val (.list (ns.map PyData.int))),some (.val (.int at')),none,none]) rfl ?_,hr2⟩
 wp_walk using evA,ak4,e1,hu.1,c1,c2,e2,e3,e4,hr1
def sp(c x y z:Rat):D:=.tuple [fr c,fr x,fr y,fr z]
structure Spot (k:Nat) (c x y z:Rat):Prop where
 hc:IsSh k c
 hx:Bd k x
 hy:Bd k y
 hz:Bd k z
 xc:x<=c
 yc:y<=c
 zc:z<=c
theorem IsSh.mono{j k:Nat}{r:Rat}(h:IsSh j r) (l:j<=k):IsSh k r:=⟨h.bd.mono l,h.le⟩
theorem Y8{c r:Rat}(hc:0<=c) (hr:r<=1):c*r<=c:=by
 have:=Rat.mul_le_mul_of_nonneg_right hr hc
 grind
theorem bO7:X3 0 3=[.int 0,.int 1,.int 2]:=rfl
theorem bE3(ns:List Int) (k:Nat) (hn:ns.length<=63) (hk:k < 2 ^ 30):∃c x y z,W6 [.list (ns.map PyData.int),.int k]=some (sp c x y z)/\Spot 8 c x y z:=by
 obtain⟨c,ec,hc⟩:=ab7 ns k hn (by grind)
 obtain⟨a0,e0,h0⟩:=ab7 ns (k+3) hn (by grind)
 obtain⟨a1,e1,h1⟩:=ab7 ns (k+6) hn (by grind)
 obtain⟨a2,e2,h2⟩:=ab7 ns (k+9) hn (by grind)
 refine⟨c,c*a0,c*a1,c*a2,?_,⟨hc.mono (by decide),hc.bd.mul h0.bd,hc.bd.mul h1.bd,hc.bd.mul h2.bd,Y8 hc.bd.nn h0.le,Y8 hc.bd.nn h1.le,Y8 hc.bd.nn h2.le⟩⟩
 refine B7 (ρ:=[some (.val (.list (ns.map PyData.int))),some (.val (.int k)),none]) rfl ?_
 have i0:(k:Int)+3+3*0=((k+3:Nat):Int):=by grind
 have i1:(k:Int)+3+3*1=((k+6:Nat):Int):=by grind
 have i2:(k:Int)+3+3*2=((k+9:Nat):Int):=by grind
 have s0:D4 0:=J9 (k:=2) (by decide) (by decide)
 have s1:D4 1:=J9 (k:=2) (by decide) (by decide)
 have s2:D4 2:=J9 (k:=2) (by decide) (by decide)
 have s3:D4 3:=J9 (k:=2) (by decide) (by decide)
 have m0:=O0 s3 s0
 have m1:=O0 s3 s1
 have m2:=O0 s3 s2
 have r3:((-(2 ^ 62):Int)<=3/\(3:Int) < 2 ^ 62):=by decide
 have l3:([PyData.int 0,.int 1,.int 2]:List D).length<=16777216:=by decide
 have ct:∀a b c d:D,W2 (.tuple [a]) (.tuple [b,c,d])=some (.tuple [a,b,c,d]):=fun a b c d=>rfl
 wp_walk using evA,av5,ec,r3,and_self,bO7,l3,m0,m1,m2,i0,i1,i2,e0,e1,e2,i8 hc.bd h0.bd (by decide),i8 hc.bd h1.bd (by decide),i8 hc.bd h2.bd (by decide),ct,sp
theorem A5{x y:Str}{b:Bool}(hx:PyData.canLay0 (.str x)=true) (hy:PyData.canLay0 (.str y)=true) (e:(x==y)=b):eqD (.str x) (.str y)=some (.bool b):=by
 unfold eqD
 have s:∀z:Str,PyData.canLay0 (.str z)=true->SeqAt.shaped (.str z)=true:=fun z h=>by unfold SeqAt.shaped;rw[h];rfl
 rw[if_pos ⟨s x hx,s y hy⟩]
 show some (PyData.bool (x==y))=_
 rw[e]
theorem A5z{x y:Str}{b:Bool}(hx:PyData.canLay0 (.str x)=true:=by decide +kernel)(hy:PyData.canLay0 (.str y)=true:=by decide +kernel)(e:(x==y)=b:=by decide +kernel):eqD (.str x) (.str y)=some (.bool b):=A5 hx hy e
theorem S6{x y:Str}{b:Bool}(hx:PyData.canLay0 (.str x)=true) (hy:PyData.canLay0 (.str y)=true) (e:(!(x==y))=b):neD (.str x) (.str y)=some (.bool b):=by
 unfold neD
 have s:∀z:Str,PyData.canLay0 (.str z)=true->SeqAt.shaped (.str z)=true:=fun z h=>by unfold SeqAt.shaped;rw[h];rfl
 rw[if_pos ⟨s x hx,s y hy⟩]
 show some (PyData.bool (!(x==y)))=_
 rw[e]
theorem S6z{x y:Str}{b:Bool}(hx:PyData.canLay0 (.str x)=true:=by decide +kernel)(hy:PyData.canLay0 (.str y)=true:=by decide +kernel)(e:(!(x==y))=b:=by decide +kernel):neD (.str x) (.str y)=some (.bool b):=S6 hx hy e
theorem G5:eqD (.str "over") (.str "over")=some (.bool true):=A5z
theorem L7:eqD (.str "over") (.str "multiply")=some (.bool false):=A5z
theorem D1:eqD (.str "over") (.str "screen")=some (.bool false):=A5z
theorem G4:eqD (.str "over") (.str "plus")=some (.bool false):=A5z
theorem G6:eqD (.str "over") (.str "atop")=some (.bool false):=A5z
theorem K4:eqD (.str "over") (.str "cut")=some (.bool false):=A5z
theorem L9:eqD (.str "multiply") (.str "over")=some (.bool false):=A5z
theorem P3:eqD (.str "multiply") (.str "multiply")=some (.bool true):=A5z
theorem G7:eqD (.str "multiply") (.str "screen")=some (.bool false):=A5z
theorem L8:eqD (.str "multiply") (.str "plus")=some (.bool false):=A5z
theorem M3:eqD (.str "multiply") (.str "atop")=some (.bool false):=A5z
theorem N5:eqD (.str "multiply") (.str "cut")=some (.bool false):=A5z
theorem C7:eqD (.str "screen") (.str "over")=some (.bool false):=A5z
theorem F8:eqD (.str "screen") (.str "multiply")=some (.bool false):=A5z
theorem B3:eqD (.str "screen") (.str "screen")=some (.bool true):=A5z
theorem C6:eqD (.str "screen") (.str "plus")=some (.bool false):=A5z
theorem C8:eqD (.str "screen") (.str "atop")=some (.bool false):=A5z
theorem E3:eqD (.str "screen") (.str "cut")=some (.bool false):=A5z
theorem G0:eqD (.str "plus") (.str "over")=some (.bool false):=A5z
theorem L6:eqD (.str "plus") (.str "multiply")=some (.bool false):=A5z
theorem D0:eqD (.str "plus") (.str "screen")=some (.bool false):=A5z
theorem F9:eqD (.str "plus") (.str "plus")=some (.bool true):=A5z
theorem G3:eqD (.str "plus") (.str "atop")=some (.bool false):=A5z
theorem K3:eqD (.str "plus") (.str "cut")=some (.bool false):=A5z
theorem J1:eqD (.str "atop") (.str "over")=some (.bool false):=A5z
theorem M5:eqD (.str "atop") (.str "multiply")=some (.bool false):=A5z
theorem D2:eqD (.str "atop") (.str "screen")=some (.bool false):=A5z
theorem J0:eqD (.str "atop") (.str "plus")=some (.bool false):=A5z
theorem J2:eqD (.str "atop") (.str "atop")=some (.bool true):=A5z
theorem K8:eqD (.str "atop") (.str "cut")=some (.bool false):=A5z
theorem K6:eqD (.str "cut") (.str "over")=some (.bool false):=A5z
theorem N6:eqD (.str "cut") (.str "multiply")=some (.bool false):=A5z
theorem E7:eqD (.str "cut") (.str "screen")=some (.bool false):=A5z
theorem K5:eqD (.str "cut") (.str "plus")=some (.bool false):=A5z
theorem K7:eqD (.str "cut") (.str "atop")=some (.bool false):=A5z
theorem M4:eqD (.str "cut") (.str "cut")=some (.bool true):=A5z
theorem F6:eqD (.str "turn") (.str "turn")=some (.bool true):=A5z
theorem F7:eqD (.str "turn") (.str "grey")=some (.bool false):=A5z
theorem E2:eqD (.str "turn") (.str "round")=some (.bool false):=A5z
theorem G8:eqD (.str "grey") (.str "turn")=some (.bool false):=A5z
theorem G9:eqD (.str "grey") (.str "grey")=some (.bool true):=A5z
theorem E6:eqD (.str "grey") (.str "round")=some (.bool false):=A5z
theorem E4:eqD (.str "round") (.str "turn")=some (.bool false):=A5z
theorem E5:eqD (.str "round") (.str "grey")=some (.bool false):=A5z
theorem C9:eqD (.str "round") (.str "round")=some (.bool true):=A5z
theorem F2:neD (.str "turn") (.str "turn")=some (.bool false):=S6z
theorem F3:neD (.str "turn") (.str "grey")=some (.bool true):=S6z
theorem D7:neD (.str "turn") (.str "round")=some (.bool true):=S6z
theorem F4:neD (.str "grey") (.str "turn")=some (.bool true):=S6z
theorem F5:neD (.str "grey") (.str "grey")=some (.bool false):=S6z
theorem E1:neD (.str "grey") (.str "round")=some (.bool true):=S6z
theorem D8:neD (.str "round") (.str "turn")=some (.bool true):=S6z
theorem D9:neD (.str "round") (.str "grey")=some (.bool true):=S6z
theorem C5:neD (.str "round") (.str "round")=some (.bool false):=S6z
inductive Man where
 | over|mult|screen|plus|atop|cut
def Man.s:Man->Str
 | .over => "over"
 | .mult => "multiply"
 | .screen => "screen"
 | .plus => "plus"
 | .atop => "atop"
 | .cut => "cut"
def av0(r:Rat):Rat:=if r<=1 then r else 1
def Man.cov:Man->Rat->Rat->Rat
 | .plus,c,d=>av0 (c+d)
 | .atop,c,d=>d
 | .cut,c,d=>d*(1 - c)
 | _,c,d=>c+d - c*d
def Man.col:Man->Rat->Rat->Rat->Rat->Rat
 | .over,c,d,x,y=>x+y*(1 - c)
 | .mult,c,d,x,y=>x*y+x*(1 - d)+y*(1 - c)
 | .screen,c,d,x,y=>x+y - x*y
 | .plus,c,d,x,y=>av0 (x+y)
 | .atop,c,d,x,y=>x*d+y*(1 - c)
 | .cut,c,d,x,y=>y*(1 - c)
theorem am8{k:Nat}{c:Rat}(h:IsSh k c):IsSh (k+1) (1 - c):=by
 have b:=Bd.one.sub h.bd h.le
 rw[Nat.add_comm]at b
 exact⟨b,by have:=h.bd.nn;grind⟩
theorem ad6{a b:Rat}(ha:0<=a) (hb:0<=b) (ha1:a<=1) (hb1:b<=1):a*b<=a+b:=by
 have:=Rat.mul_le_mul_of_nonneg_right ha1 hb
 grind
theorem ba9{k:Nat}{r:Rat}(h:Bd k r) (hk:1<=k):IsSh k (av0 r):=by
 unfold av0
 split
 ·rename_i l;exact⟨h,l⟩
 ·exact⟨Bd.one.mono hk,Rat.le_refl⟩
local macro_rules
  | `(tactic| wp_walk using evS, $ts,*) => `(tactic| wp_walk using evA, G5, L7, D1, G4, G6, K4, L9, P3, G7, L8, M3, N5, C7, F8, B3, C6, C8, E3, G0, L6, D0, F9, G3, K3, J1, M5, D2, J0, J2, K8, K6, N6, E7, K5, K7, M4, F6, F7, E2, G8, G9, E6, E4, E5, C9, F2, F3, D7, F4, F5, E1, D8, D9, C5, $ts,*)
theorem bb8(m:Man) {k:Nat}{c d:Rat}(hc:IsSh k c) (hd:IsSh k d) (l:6*k+4<=8000):S5 [.str m.s,fr c,fr d]=some (fr (m.cov c d))/\Bd (6*k+4) (m.cov c d):=by
 have r1:=v7 hc.bd (by grind) hc.le
 have h1:=(am8 hc)
 have ml:=ad6 hc.bd.nn hd.bd.nn hc.le hd.le
 have e1:=P7 hc.bd hd.bd (by grind)
 have e2:=Q9 hc.bd hd.bd (by grind)
 have b1:=hc.bd.add hd.bd
 have b2:=hc.bd.mul hd.bd
 have e3:=U9 b1 b2 (by grind) ml
 have e4:=av7 b1 (by grind)
 have e5:=Q9 hd.bd h1.bd (by grind)
 cases m with
 | plus=>exact⟨B7 (ρ:=[some (.val (.str "plus")),some (.val (fr c)),some (.val (fr d))]) rfl (by wp_walk using evS,K9,e1,e4;rfl),(ba9 b1 (by grind)).bd.mono (by grind)⟩
 | atop=>exact⟨B7 (ρ:=[some (.val (.str "atop")),some (.val (fr c)),some (.val (fr d))]) rfl (by wp_walk using evS,K9;rfl),hd.bd.mono (by grind)⟩
 | cut=>exact⟨B7 (ρ:=[some (.val (.str "cut")),some (.val (fr c)),some (.val (fr d))]) rfl (by wp_walk using evS,K9,r1,e5;rfl),(hd.bd.mul h1.bd).mono (by grind)⟩
 | over=>exact⟨B7 (ρ:=[some (.val (.str "over")),some (.val (fr c)),some (.val (fr d))]) rfl (by wp_walk using evS,K9,e1,e2,e3;rfl),(b1.sub b2 ml).mono (by grind)⟩
 | mult=>exact⟨B7 (ρ:=[some (.val (.str "multiply")),some (.val (fr c)),some (.val (fr d))]) rfl (by wp_walk using evS,K9,e1,e2,e3;rfl),(b1.sub b2 ml).mono (by grind)⟩
 | screen=>exact⟨B7 (ρ:=[some (.val (.str "screen")),some (.val (fr c)),some (.val (fr d))]) rfl (by wp_walk using evS,K9,e1,e2,e3;rfl),(b1.sub b2 ml).mono (by grind)⟩
theorem ag1(m:Man) {k:Nat}{c d x y:Rat}(hc:IsSh k c) (hd:IsSh k d) (hx:IsSh k x) (hy:IsSh k y) (l:6*k+4<=8000):R4 [.str m.s,fr c,fr d,fr x,fr y]=some (fr (m.col c d x y))/\Bd (6*k+4) (m.col c d x y):=by
 have r1:=v7 hc.bd (by grind) hc.le
 have r2:=v7 hd.bd (by grind) hd.le
 have h1:=am8 hc
 have h2:=am8 hd
 have ml:=ad6 hx.bd.nn hy.bd.nn hx.le hy.le
 have e1:=P7 hx.bd hy.bd (by grind)
 have e2:=Q9 hx.bd hy.bd (by grind)
 have b1:=hx.bd.add hy.bd
 have b2:=hx.bd.mul hy.bd
 have e3:=U9 b1 b2 (by grind) ml
 have e4:=av7 b1 (by grind)
 have bt:=hy.bd.mul h1.bd
 have et:=Q9 hy.bd h1.bd (by grind)
 have e6:=P7 hx.bd bt (by grind)
 have bd:=hx.bd.mul h2.bd
 have e7:=Q9 hx.bd h2.bd (by grind)
 have b8:=b2.add bd
 have e8:=P7 b2 bd (by grind)
 have e9:=P7 b8 bt (by grind)
 have b10:=hx.bd.mul hd.bd
 have e10:=Q9 hx.bd hd.bd (by grind)
 have e11:=P7 b10 bt (by grind)
 cases m with
 | plus=>exact⟨B7 (ρ:=[some (.val (.str "plus")),some (.val (fr c)),some (.val (fr d)),some (.val (fr x)),some (.val (fr y)),none]) rfl (by wp_walk using evS,J6,e1,e4;rfl),(ba9 b1 (by grind)).bd.mono (by grind)⟩
 | screen=>exact⟨B7 (ρ:=[some (.val (.str "screen")),some (.val (fr c)),some (.val (fr d)),some (.val (fr x)),some (.val (fr y)),none]) rfl (by wp_walk using evS,J6,e1,e2,e3;rfl),(b1.sub b2 ml).mono (by grind)⟩
 | over=>exact⟨B7 (ρ:=[some (.val (.str "over")),some (.val (fr c)),some (.val (fr d)),some (.val (fr x)),some (.val (fr y)),none]) rfl (by wp_walk using evS,J6,r1,et,e6;rfl),(hx.bd.add bt).mono (by grind)⟩
 | mult=>exact⟨B7 (ρ:=[some (.val (.str "multiply")),some (.val (fr c)),some (.val (fr d)),some (.val (fr x)),some (.val (fr y)),none]) rfl (by wp_walk using evS,J6,r1,r2,et,e2,e7,e8,e9;rfl),(b8.add bt).mono (by grind)⟩
 | atop=>exact⟨B7 (ρ:=[some (.val (.str "atop")),some (.val (fr c)),some (.val (fr d)),some (.val (fr x)),some (.val (fr y)),none]) rfl (by wp_walk using evS,J6,r1,et,e10,e11;rfl),(b10.add bt).mono (by grind)⟩
 | cut=>exact⟨B7 (ρ:=[some (.val (.str "cut")),some (.val (fr c)),some (.val (fr d)),some (.val (fr x)),some (.val (fr y)),none]) rfl (by wp_walk using evS,J6,r1,et;rfl),bt.mono (by grind)⟩
theorem bC7(m:Man) {c d:Rat}(hc:0<=c) (hd:0<=d) (hc1:c<=1) (hd1:d<=1):m.cov c d<=1:=by
 have p:0<=(1 - c)*(1 - d):=Rat.mul_nonneg (by grind) (by grind)
 have q:d*(1 - c)<=1*(1 - c):=Rat.mul_le_mul_of_nonneg_right hd1 (by grind)
 cases m<;>simp only[Man.cov,av0]<;>grind
theorem az4(m:Man) {c d x y:Rat}(hc:0<=c) (hd:0<=d) (hc1:c<=1) (hd1:d<=1) (hx:0<=x) (hy:0<=y) (xc:x<=c) (yd:y<=d):m.col c d x y<=m.cov c d:=by
 have q1:y*(1 - c)<=d*(1 - c):=Rat.mul_le_mul_of_nonneg_right yd (by grind)
 have q2:x*(y+1 - d)<=c*(y+1 - d):=Rat.mul_le_mul_of_nonneg_right xc (by grind)
 have q3:x*d<=c*d:=Rat.mul_le_mul_of_nonneg_right xc hd
 have q4:(1 - c)*(1 - d)<=(1 - x)*(1 - d):=Rat.mul_le_mul_of_nonneg_right (by grind) (by grind)
 have q5:(1 - d)*(1 - x)<=(1 - y)*(1 - x):=Rat.mul_le_mul_of_nonneg_right (by grind) (by grind)
 cases m<;>simp only[Man.cov,Man.col,av0]<;>grind
theorem bN2(a b c d e f:D):(List.zip [a,b,c] [d,e,f])=[(a,d),(b,e),(c,f)]:=rfl
theorem ln2(a b:D):([a,b]:List D).length=2:=rfl
theorem az8(m:Man) {k:Nat}{c x1 x2 x3 d y1 y2 y3:Rat}(S:Spot k c x1 x2 x3) (T:Spot k d y1 y2 y3) (l:6*k+4<=8000) :
  W7 [.str m.s,sp c x1 x2 x3,sp d y1 y2 y3]=some (sp (m.cov c d) (m.col c d x1 y1) (m.col c d x2 y2) (m.col c d x3 y3))/\Spot (6*k+4) (m.cov c d) (m.col c d x1 y1) (m.col c d x2 y2) (m.col c d x3 y3):=by
 have s1:IsSh k x1:=⟨S.hx,Rat.le_trans S.xc S.hc.le⟩
 have s2:IsSh k x2:=⟨S.hy,Rat.le_trans S.yc S.hc.le⟩
 have s3:IsSh k x3:=⟨S.hz,Rat.le_trans S.zc S.hc.le⟩
 have t1:IsSh k y1:=⟨T.hx,Rat.le_trans T.xc T.hc.le⟩
 have t2:IsSh k y2:=⟨T.hy,Rat.le_trans T.yc T.hc.le⟩
 have t3:IsSh k y3:=⟨T.hz,Rat.le_trans T.zc T.hc.le⟩
 have a0:=bb8 m S.hc T.hc l
 have a1:=ag1 m S.hc T.hc s1 t1 l
 have a2:=ag1 m S.hc T.hc s2 t2 l
 have a3:=ag1 m S.hc T.hc s3 t3 l
 refine⟨?_,⟨⟨a0.2,bC7 m S.hc.bd.nn T.hc.bd.nn S.hc.le T.hc.le⟩,a1.2,a2.2,a3.2,az4 m S.hc.bd.nn T.hc.bd.nn S.hc.le T.hc.le S.hx.nn T.hx.nn S.xc T.xc,az4 m S.hc.bd.nn T.hc.bd.nn S.hc.le T.hc.le S.hy.nn T.hy.nn S.yc T.yc,az4 m S.hc.bd.nn T.hc.bd.nn S.hc.le T.hc.le S.hz.nn T.hz.nn S.zc T.zc⟩⟩
 refine B7 (ρ:=[some (.val (.str m.s)),some (.val (sp c x1 x2 x3)),some (.val (sp d y1 y2 y3)),none,none,none]) rfl ?_
 have f3:∀a b c:D,([a,b,c]:List D).length<=16777216:=fun a b c=>by show 3<=16777216;decide
 wp_walk using evA,ak7,sp,bN2,f3,ln2,a0.1,a1.1,a2.1,a3.1
inductive Rul where
 | turn|grey|round
end Sh
namespace Sh
open PySem PySem.Spec PyProof.Rows L2 G
end Sh
namespace Sh
open PySem G L2
theorem cat_tup{xs ys:List D}(h:xs.length+ys.length<=16777216):W2 (.tuple xs) (.tuple ys)=some (.tuple (xs++ys)):=if_pos h
theorem z3(a b c d e f:D):(List.zip [a,b,c] [d,e,f]).map (fun(x,y)=>PyData.tuple [x,y])=[.tuple [a,d],.tuple [b,e],.tuple [c,f]]:=rfl
end Sh
namespace Sh
open PySem PySem.Spec PyProof.Rows L2 G
def z9:DS:=(B5 (aa5 (J7 1 [0] (U0 (A4 R9 (A1 0) (A1 1))) (J5 0) L0 (O7 (A0 (A4 T8 (A1 0) (A1 1)) (A0 (A4 W0 (A1 0) (A1 1)) A3))))))
def J3:List D->Option D:=N0 z9 2
def aa2:DS:=(B5 (ba4 (Z5 leI ltI (dC (.int 0)) (A1 1) (dIx (B0 0) (dC (.int 0)))) (Z5 leI ltI (dC (.int 0)) (A1 2) (dIx (B0 0) (dC (.int 1))))))
def Z7:List D->Option D:=N0 aa2 3
def U2:DS:=(B5 (A4 T6 (A4 R9 (A1 2) (dIx (B0 0) (dC (.int 0)))) (A1 1)))
def Q6:List D->Option D:=N0 U2 3
def v4:DS:=(B4 (sIf (aq2 (aq1 (A2 Z7 (A0 (A1 0) (A0 (A1 1) (A0 (A1 2) A3)))))) (B5 (dC (.tuple [(.tuple [(.int 0),(.int 1)]),(.tuple [(.int 0),(.int 1)]),(.tuple [(.int 0),(.int 1)]),(.tuple [(.int 0),(.int 1)])]))) P0) (B5 (dIx (qE (dIx (B0 0) (dC (.int 2)))) (A2 Q6 (A0 (A1 0) (A0 (A1 1) (A0 (A1 2) A3)))))))
def M6:List D->Option D:=N0 v4 3
def ak1:DS:=(B5 (O7 (A0 (A1 3) (A0 (A1 4) (A0 (P8 (qN (J7 2 [0,1,2] (U6 (A2 J3 (A0 (A1 3) (A0 (A1 4) A3)))) (O2 2 (B2 (J5 0) (B2 (J5 1) O6))) L0 (A2 M6 (A0 (A1 2) (A0 (A4 T6 (A1 3) (A1 0)) (A0 (A4 T6 (A1 4) (A1 1)) A3))))))) A3)))))
def P9:List D->Option D:=N0 ak1 5
def af8:DS:=(B4 (K0 1 (dIx (B0 0) (dC (.int 0)))) (B4 (K0 2 (dIx (B0 0) (dC (.int 1)))) (B5 (O7 (A0 (A1 1) (A0 (A1 2) (A0 (P8 (qN (J7 2 [0,1] (U6 (A2 J3 (A0 (A1 1) (A0 (A1 2) A3)))) (O2 2 (B2 (J5 0) (B2 (J5 1) O6))) L0 (A2 M6 (A0 (A1 2) (A0 (A4 Y3 (A4 Y3 (A1 3) (dC (.int 1))) (A1 0)) (A0 (A1 1) A3))))))) A3)))))))
def P6:List D->Option D:=N0 af8 3
def av4:DS:=(B4 (K0 1 (dIx (B0 0) (dC (.int 0)))) (B4 (K0 2 (dIx (B0 0) (dC (.int 1)))) (B5 (O7 (A0 (A1 2) (A0 (A1 1) (A0 (P8 (qN (J7 2 [0,2] (U6 (A2 J3 (A0 (A1 2) (A0 (A1 1) A3)))) (O2 2 (B2 (J5 0) (B2 (J5 1) O6))) L0 (A2 M6 (A0 (A1 2) (A0 (A1 1) (A0 (A4 Y3 (A4 Y3 (A1 3) (dC (.int 1))) (A1 0)) A3))))))) A3)))))))
def P2:List D->Option D:=N0 av4 3
def W3:DS:=(B4 (d3 3 (J7 2 [0] (ag3 (qE (dIx (B0 1) (dC (.int 2)))) (qE (dIx (B0 2) (dC (.int 2))))) (O2 2 (B2 (J5 0) (B2 (J5 1) O6))) L0 (A2 W7 (A0 (A1 2) (A0 (A1 0) (A0 (A1 1) A3)))))) (B5 (O7 (A0 (dIx (B0 1) (dC (.int 0))) (A0 (dIx (B0 1) (dC (.int 1))) (A0 (P8 (B0 3)) A3))))))
def N3:List D->Option D:=N0 W3 4
def v5:DS:=(B4 (d3 4 (J7 1 [0,1] (U0 (A4 R9 (A1 2) (A1 3))) (J5 0) L0 (A2 W6 (A0 (A1 1) (A0 (A4 T6 (A1 2) (A4 R9 (dC (.int 12)) (A1 0))) A3))))) (B4 (sIf (tB2 eqD (A2 D3 (A0 (A1 0) (A0 (A4 T6 (A1 1) (dC (.int 7))) (A0 (dC (.int 3)) A3)))) (dC (.int 0))) (K0 4 (A4 R9 (ba3 (A1 4) l7 (l6 (dC (.int 1)))) (A4 R9 (A1 2) (A1 3)))) P0) (B5 (O7 (A0 (A1 2) (A0 (A1 3) (A0 (P8 (B0 4)) A3)))))))
def T4:List D->Option D:=N0 v5 5
end Sh
namespace Sh
open PySem G L2
structure Q4 where
 c:Rat
 x:Rat
 y:Rat
 z:Rat
def Q4.d(q:Q4):D:=sp q.c q.x q.y q.z
def Q4.ok(k:Nat) (q:Q4):Prop:=Spot k q.c q.x q.y q.z
def q0:Q4:=⟨0,0,0,0⟩
theorem bn4{k:Nat}(hk:1<=k):q0.ok k:=by
 have z:IsSh k 0:=⟨Bd.zero.mono hk,by decide⟩
 exact⟨z,z.bd,z.bd,z.bd,Rat.le_refl,Rat.le_refl,Rat.le_refl⟩
def Ly(n:Nat) (d:D):Prop:=PyData.canLay0 d=true/\PyData.depth d<=n
theorem af6{n:Nat}:∀xs:List D,(∀x∈xs,Ly n x)->PyData.canLayAll0 xs=true/\PyData.depthAll xs<=n
 | [],_=>⟨rfl,Nat.zero_le _⟩
 | x::xs,g=>by
  have a:=g x (List.mem_cons_self ..)
  have b:=af6 xs fun y hy=>g y (xmm _ hy)
  refine⟨?_,?_⟩
  ·show(PyData.canLay0 x&&PyData.canLayAll0 xs)=true
   rw[a.1,b.1];rfl
  ·show max (PyData.depth x) (PyData.depthAll xs)<=n
   have:=a.2;have:=b.2;grind
theorem Ly.tup{n:Nat}{xs:List D}(h:∀x∈xs,Ly n x):Ly (n+1) (.tuple xs):=⟨(af6 xs h).1,Nat.succ_le_succ (af6 xs h).2⟩
theorem Ly.lst{n:Nat}{xs:List D}(h:∀x∈xs,Ly n x):Ly (n+1) (.list xs):=⟨(af6 xs h).1,Nat.succ_le_succ (af6 xs h).2⟩
theorem Ly.int(n:Nat) (i:Int):Ly n (.int i):=⟨rfl,Nat.zero_le _⟩
theorem Ly.shaped{n:Nat}{d:D}(g:Ly n d) (hn:n<=64):SeqAt.shaped d=true:=by
 unfold SeqAt.shaped
 rw[g.1,Bool.true_and]
 exact decide_eq_true (by have:=g.2;grind)
theorem Ly.q4(q:Q4) (n:Nat):Ly (n+2) q.d:=⟨rfl,by show 2<=n+2;grind⟩
theorem Ly.spots(l:List Q4) (n:Nat):Ly (n+3) (.tuple (l.map Q4.d)):=Ly.tup fun x hx=>by
 obtain⟨q,_,rfl⟩:=List.mem_map.mp hx
 exact Ly.q4 q n
theorem an1{n:Nat}{d:D}(g:Ly n d) (hn:n<=64):neD d d=some (.bool false):=by
 unfold neD
 rw[if_pos ⟨g.shaped hn,g.shaped hn⟩,SeqAt.eqv_refl d g.1];rfl
theorem bl2{n:Nat}{d:D}(g:Ly n d) (hn:n<=64):eqD d d=some (.bool true):=by
 unfold eqD
 rw[if_pos ⟨g.shaped hn,g.shaped hn⟩,SeqAt.eqv_refl d g.1]
def shD(w h:Nat) (l:List Q4):D:=.tuple [.int w,.int h,.tuple (l.map Q4.d)]
theorem Ly.sheet(w h:Nat) (l:List Q4):Ly 4 (shD w h l):=Ly.tup fun x hx=>by
 simp only[List.mem_cons,List.not_mem_nil,or_false]at hx
 rcases hx with rfl|rfl|rfl
 ·exact Ly.int _ _
 ·exact Ly.int _ _
 ·exact Ly.spots l 0
def atQ(w h:Nat) (l:List Q4) (x y:Int):Q4:=if 0<=x/\x < w/\0<=y/\y < h then l.getD (y*w+x).toNat q0 else q0
structure ShOk (k:Nat) (w h:Nat) (l:List Q4):Prop where
 w1:1<=w
 w8:w<=8
 h1:1<=h
 h8:h<=8
 len:l.length=w*h
 ok:∀q∈l,q.ok k
theorem bk7{k:Nat}{l:List Q4}(h:∀q∈l,q.ok k) (hk:1<=k) (i:Nat):(l.getD i q0).ok k:=by
 rw[List.getD_eq_getElem?_getD]
 cases e:l[i]? with
 | none=>exact bn4 hk
 | some q=>exact h q (List.mem_of_getElem? e)
theorem v3{k w h:Nat}{l:List Q4}(S:ShOk k w h l) (hk:1<=k) (x y:Int):(atQ w h l x y).ok k:=by
 unfold atQ
 split
 ·exact bk7 S.ok hk _
 ·exact bn4 hk
theorem bp8{α:Type}{e:DE}{r:Rho}{h f:α->D}:∀(l:List α) (x:Option B),(∀a∈l,e (some (.val (h a))::r)=some (f a))->Y2 (J5 0) L0 e (l.map h) (x::r)=some (l.map f)
 | [],_,_=>rfl
 | a::l,x,H=>by simp only[xmc,Y2,J5,xw0,xbs,L0,if_true,H a (List.mem_cons_self ..),bp8 l _ (fun b hb=>H b (xmm _ hb)),xms]
theorem bp7{α:Type}{e:DE}{r:Rho}{h1 h2 f:α->D}:∀(l:List α) (x y:Option B),(∀a∈l,e (some (.val (h1 a))::some (.val (h2 a))::r)=some (f a))->Y2 (O2 2 (B2 (J5 0) (B2 (J5 1) O6))) L0 e (l.map fun a=>.tuple [h1 a,h2 a]) (x::y::r)=some (l.map f)
 | [],_,_,_=>rfl
 | a::l,x,y,H=>by
  have hl:([h1 a,h2 a]:List D).length=2:=rfl
  simp only[xmc,Y2,O2,B2,O6,J5,hl,if_true,xw0,xw1,xbs,L0,if_true,H a (List.mem_cons_self ..),bp7 l _ _ (fun b hb=>H b (xmm _ hb)),xms]
theorem an2{α:Type}{caps:List Nat}{src:Rho->Option (List D)}{e:DE}{ρ r:Rho}{l:List α}{h f:α->D}(hr:u7 1 caps ρ=none::r) (hs:src ρ=some (l.map h)) (hl:l.length<=1000) (H:∀a∈l,e (some (.val (h a))::r)=some (f a)) :
  J7 1 caps src (J5 0) L0 e ρ=some (l.map f):=by
 unfold J7
 rw[hs,xbs,if_pos (by rw[List.length_map];grind),hr,bp8 l _ H]
theorem f8{α:Type}{caps:List Nat}{src:Rho->Option (List D)}{e:DE}{ρ r:Rho}{l:List α}{h1 h2 f:α->D}(hr:u7 2 caps ρ=none::none::r) (hs:src ρ=some (l.map fun a=>.tuple [h1 a,h2 a])) (hl:l.length<=1000) (H:∀a∈l,e (some (.val (h1 a))::some (.val (h2 a))::r)=some (f a)) :
  J7 2 caps src (O2 2 (B2 (J5 0) (B2 (J5 1) O6))) L0 e ρ=some (l.map f):=by
 unfold J7
 rw[hs,xbs,if_pos (by rw[List.length_map];omega),hr,bp7 l _ _ H]
theorem aD3{f:DE}{ρ:Rho}{n:Nat}(h:f ρ=some (.int n)) (hn:n<=1000):U0 f ρ=some ((List.range n).map fun k:Nat=>PyData.int k):=by
 unfold U0
 rw[h,xbs]
 show(if -(2 ^ 62)<=(n:Int)/\(n:Int) < 2 ^ 62 then some (X3 0 n) else none)=_
 rw[if_pos ⟨by grind,by grind⟩]
 unfold X3
 congr 1
 have e:((n:Int) - 0).toNat=n:=by grind
 rw[e]
 apply List.map_congr_left
 intro k _
 congr 1
 grind
theorem ax8{i j:Int}(h1:D4 i) (h2:D4 j):R9 (.int i) (.int j)=some (.int (i*j)):=O0 h1 h2
theorem l8{i j:Nat}(h1:i<=1000) (h2:j<=1000):R9 (.int i) (.int j)=some (.int ((i*j:Nat):Int)):=by rw[ax8 (V0 (k:=10) (by grind) (by decide)) (V0 (k:=10) (by grind) (by decide)),Int.natCast_mul]
theorem sm8{i:Int}(h0:0<=i) (h:i<=1000):D4 i:=ac4 h0 (by omega)
def plc(w n:Nat):List (Int×Int):=(List.range n).map fun k=>(((k % w:Nat):Int),((k / w:Nat):Int))
theorem V4{w h:Nat}(w1:1<=w) (w8:w<=8) (h8:h<=8):J3 [.int w,.int h]=some (.list ((plc w (w*h)).map fun p=>.tuple [.int p.1,.int p.2])):=by
 refine B7 (ρ:=[some (.val (.int w)),some (.val (.int h))]) rfl ?_
 have hm:(A4 R9 (A1 0) (A1 1)) [some (.val (.int w)),some (.val (.int h))]=some (.int ((w*h:Nat):Int)):=l8 (by grind) (by grind)
 have wh:w*h<=64:=Nat.mul_le_mul w8 h8
 unfold z9 B5 aa5
 rw[an2 (l:=List.range (w*h)) (h:=fun k:Nat=>PyData.int k) (f:=fun k=>.tuple [.int ((k % w:Nat):Int),.int ((k / w:Nat):Int)]) (r:=[some (.val (.int w))]) rfl (aD3 hm (by grind)) (by rw[List.length_range];grind) ?_]
 ·unfold plc
  rw[List.map_map];rfl
 ·intro k _
  have wp:(0:Int) < (w:Int):=by grind
  simp only[O7,A0,A3,A4,A1,xg0,xg1,xbs,xms,ai0 wp,aj1 wp (sm8 (by grind) (by grind))]
  rfl
theorem aD5{w h:Nat}{p:Int×Int}(hp:p∈plc w (w*h)) (w1:1<=w):0<=p.1/\p.1 < w/\0<=p.2/\p.2 < h:=by
 obtain⟨k,hk,rfl⟩:=List.mem_map.mp hp
 have hk:=List.mem_range.mp hk
 have a:=Nat.mod_lt k (show w > 0 by omega)
 have b:=Nat.div_lt_of_lt_mul hk
 exact⟨Int.natCast_nonneg _,Int.ofNat_lt.mpr a,Int.natCast_nonneg _,Int.ofNat_lt.mpr b⟩
theorem Q5(w n:Nat):(plc w n).length=n:=by unfold plc;rw[List.length_map,List.length_range]
theorem ao4(w h:Int) (s:D) (x y:Int):Z7 [.tuple [.int w,.int h,s],.int x,.int y]=some (.bool (decide (0<=x/\x < w/\0<=y/\y < h))):=by
 refine B7 (ρ:=[some (.val (.tuple [.int w,.int h,s])),some (.val (.int x)),some (.val (.int y))]) rfl ?_
 by_cases a:0<=x<;>by_cases b:x < w<;>by_cases c:0<=y<;>by_cases e:y < h<;>simp[aa2,B4,K0,B5,sIf,P0,d3,aJ4,A1,dC,O7,aa5,A4,A2,ba4,dOr,bl8,Z5,dIx,af0,P8,bm1,bm0,bl9,B0,qE,qN,aP8,l7,l6,aF2,A3,A0,aq1,tB2,aB4,al2,aq2,aI5,S4,L0,J5,O2,B2,O6,U6,ay4,xg0,xg1,xw0,xw1,xbs,xms,xmc,xmn,xna,xca,ba8,aB5,bw0,bv4,bC3,bh1,bk6,bM5,bM4,bM3,bM2,bM8,bM7,bM6,bD7,bD6,xnt,xnf,xft,if_true,if_false,u6,aw5,a,b,c,e]
theorem bB1{n:Nat}{i:Int}(h0:0<=i) (h1:i < n):ixN n i=some i.toNat:=by unfold ixN;rw[if_pos h0,if_pos h1]
theorem atD(l:List Q4) {i:Int}(h0:0<=i) (h1:i < l.length):L2.atI (l.map Q4.d) i=some (l.getD i.toNat q0).d:=by
 unfold L2.atI
 rw[List.length_map,bB1 h0 h1,xbs,List.getElem?_map,List.getD_eq_getElem?_getD]
 have:i.toNat < l.length:=by omega
 rw[List.getElem?_eq_getElem this];rfl
theorem V5{w h:Nat}{x y:Int}(b:0<=x/\x < w/\0<=y/\y < h):0<=y*w+x/\y*w+x < ((w*h:Nat):Int):=by
 obtain⟨a,b,c,e⟩:=b
 have p:0<=y*(w:Int):=Int.mul_nonneg c (by grind)
 refine⟨by grind,?_⟩
 have:(y+1)*(w:Int)<=h*(w:Int):=Int.mul_le_mul_of_nonneg_right (by grind) (by grind)
 have e2:(y+1)*(w:Int)=y*w+w:=by rw[Int.add_mul,Int.one_mul]
 have e3:((w*h:Nat):Int)=h*w:=by rw[Int.natCast_mul,Int.mul_comm]
 grind
theorem aK5{w h:Nat}{x y:Int}(s:D) (w8:w<=8) (h8:h<=8) (b:0<=x/\x < w/\0<=y/\y < h):Q6 [.tuple [.int w,.int h,s],.int x,.int y]=some (.int (y*w+x)):=by
 refine B7 (ρ:=[some (.val (.tuple [.int w,.int h,s])),some (.val (.int x)),some (.val (.int y))]) rfl ?_
 wp_walk using evD,U2,ax8 (sm8 b.2.2.1 (by grind)) (sm8 (show(0:Int)<=w by grind) (by grind))
theorem Q7{k w h:Nat}{l:List Q4}(S:ShOk k w h l) (x y:Int):M6 [shD w h l,.int x,.int y]=some (atQ w h l x y).d:=by
 refine B7 (ρ:=[some (.val (shD w h l)),some (.val (.int x)),some (.val (.int y))]) rfl ?_
 have hp:=ao4 w h (.tuple (l.map Q4.d)) x y
 unfold atQ
 by_cases b:0<=x/\x < w/\0<=y/\y < h
 ·rw[if_pos b]
  rw[decide_eq_true b]at hp
  have nm:=aK5 (.tuple (l.map Q4.d)) S.w8 S.h8 b
  have pn:=V5 b
  have e:=atD l pn.1 (by rw[S.len];exact pn.2)
  wp_walk using evD,v4,shD,hp,nm,e
 ·rw[if_neg b]
  rw[decide_eq_false b]at hp
  wp_walk using evD,v4,shD,hp
  rfl
def V7(w h:Nat) (l:List Q4) (left top:Int) (wide high:Nat):List Q4:=(plc wide (wide*high)).map fun p=>atQ w h l (left+p.1) (top+p.2)
theorem l5{k w h:Nat}{l:List Q4}(S:ShOk k w h l) (hk:1<=k) (left top:Int) {wide high:Nat}(w1:1<=wide) (w8:wide<=8) (h1:1<=high) (h8:high<=8) :
  P9 [shD w h l,.int left,.int top,.int wide,.int high]=some (shD wide high (V7 w h l left top wide high))/\ShOk k wide high (V7 w h l left top wide high):=by
 have wh:wide*high<=64:=Nat.mul_le_mul w8 h8
 refine⟨?_,w1,w8,h1,h8,by unfold V7;rw[List.length_map,Q5],fun q hq=>?_⟩
 ·refine B7 (ρ:=[some (.val (shD w h l)),some (.val (.int left)),some (.val (.int top)),some (.val (.int wide)),some (.val (.int high))]) rfl ?_
  have c:J7 2 [0,1,2] (U6 (A2 J3 (A0 (A1 3) (A0 (A1 4) A3)))) (O2 2 (B2 (J5 0) (B2 (J5 1) O6))) L0 (A2 M6 (A0 (A1 2) (A0 (A4 T6 (A1 3) (A1 0)) (A0 (A4 T6 (A1 4) (A1 1)) A3)))) [some (.val (shD w h l)),some (.val (.int left)),some (.val (.int top)),some (.val (.int wide)),some (.val (.int high))]=some ((V7 w h l left top wide high).map Q4.d):=by
   rw[f8 (l:=plc wide (wide*high)) (h1:=fun p=>.int p.1) (h2:=fun p=>.int p.2) (f:=fun p=>(atQ w h l (left+p.1) (top+p.2)).d) (r:=[some (.val (shD w h l)),some (.val (.int left)),some (.val (.int top))]) rfl ?_ (by rw[Q5];grind) ?_]
   ·unfold V7;rw[List.map_map];rfl
   ·wp_walk using evD,V4 w1 w8 h8
   ·intro p _
    wp_walk using evD,Q7 S
  wp_walk using evD,ak1,c
  rfl
 ·obtain⟨p,_,rfl⟩:=List.mem_map.mp hq
  exact v3 S hk _ _
def an4(w h:Nat) (l:List Q4):List Q4:=(plc w (w*h)).map fun p=>atQ w h l ((w:Int) - 1 - p.1) p.2
theorem ad7{k w h:Nat}{l:List Q4}(S:ShOk k w h l) (hk:1<=k):P6 [shD w h l]=some (shD w h (an4 w h l))/\ShOk k w h (an4 w h l):=by
 have wh:w*h<=64:=Nat.mul_le_mul S.w8 S.h8
 refine⟨?_,S.w1,S.w8,S.h1,S.h8,by unfold an4;rw[List.length_map,Q5],fun q hq=>?_⟩
 ·refine B7 (ρ:=[some (.val (shD w h l)),none,none]) rfl ?_
  have c:J7 2 [0,1] (U6 (A2 J3 (A0 (A1 1) (A0 (A1 2) A3)))) (O2 2 (B2 (J5 0) (B2 (J5 1) O6))) L0 (A2 M6 (A0 (A1 2) (A0 (A4 Y3 (A4 Y3 (A1 3) (dC (.int 1))) (A1 0)) (A0 (A1 1) A3)))) [some (.val (shD w h l)),some (.val (.int w)),some (.val (.int h))]=some ((an4 w h l).map Q4.d):=by
   rw[f8 (l:=plc w (w*h)) (h1:=fun p=>.int p.1) (h2:=fun p=>.int p.2) (f:=fun p=>(atQ w h l ((w:Int) - 1 - p.1) p.2).d) (r:=[some (.val (shD w h l)),some (.val (.int w))]) rfl ?_ (by rw[Q5];omega) ?_]
   ·unfold an4;rw[List.map_map];rfl
   ·wp_walk using evD,V4 S.w1 S.w8 S.h8
   ·intro p _
    wp_walk using evD,Q7 S
  have g0:dIx (B0 0) (dC (.int 0)) [some (.val (shD w h l)),none,none]=some (.int w):=rfl
  have g1:dIx (B0 0) (dC (.int 1)) [some (.val (shD w h l)),some (.val (.int w)),none]=some (.int h):=rfl
  simp only[af8,B4,K0,g0,g1,B5,O7,A0,A3,A1,P8,qN,c,xw0,xw1,xms,xbs,xg0,xg1]
  rfl
 ·obtain⟨p,_,rfl⟩:=List.mem_map.mp hq
  exact v3 S hk _ _
def ak9(w h:Nat) (l:List Q4):List Q4:=(plc h (h*w)).map fun p=>atQ w h l p.2 ((h:Int) - 1 - p.1)
theorem Y4{k w h:Nat}{l:List Q4}(S:ShOk k w h l) (hk:1<=k):P2 [shD w h l]=some (shD h w (ak9 w h l))/\ShOk k h w (ak9 w h l):=by
 have wh:h*w<=64:=Nat.mul_le_mul S.h8 S.w8
 refine⟨?_,S.h1,S.h8,S.w1,S.w8,by unfold ak9;rw[List.length_map,Q5],fun q hq=>?_⟩
 ·refine B7 (ρ:=[some (.val (shD w h l)),none,none]) rfl ?_
  have c:J7 2 [0,2] (U6 (A2 J3 (A0 (A1 2) (A0 (A1 1) A3)))) (O2 2 (B2 (J5 0) (B2 (J5 1) O6))) L0 (A2 M6 (A0 (A1 2) (A0 (A1 1) (A0 (A4 Y3 (A4 Y3 (A1 3) (dC (.int 1))) (A1 0)) A3)))) [some (.val (shD w h l)),some (.val (.int w)),some (.val (.int h))]=some ((ak9 w h l).map Q4.d):=by
   rw[f8 (l:=plc h (h*w)) (h1:=fun p=>.int p.1) (h2:=fun p=>.int p.2) (f:=fun p=>(atQ w h l p.2 ((h:Int) - 1 - p.1)).d) (r:=[some (.val (shD w h l)),some (.val (.int h))]) rfl ?_ (by rw[Q5];omega) ?_]
   ·unfold ak9;rw[List.map_map];rfl
   ·wp_walk using evD,V4 S.h1 S.h8 S.w8
   ·intro p _
    wp_walk using evD,Q7 S
  have g0:dIx (B0 0) (dC (.int 0)) [some (.val (shD w h l)),none,none]=some (.int w):=rfl
  have g1:dIx (B0 0) (dC (.int 1)) [some (.val (shD w h l)),some (.val (.int w)),none]=some (.int h):=rfl
  simp only[av4,B4,K0,g0,g1,B5,O7,A0,A3,A1,P8,qN,c,xw0,xw1,xms,xbs,xg0,xg1]
  rfl
 ·obtain⟨p,_,rfl⟩:=List.mem_map.mp hq
  exact v3 S hk _ _
def Man.bl(m:Man) (a b:Q4):Q4:=⟨m.cov a.c b.c,m.col a.c b.c a.x b.x,m.col a.c b.c a.y b.y,m.col a.c b.c a.z b.z⟩
theorem bp9(m:Man) {k:Nat}{a b:Q4}(S:a.ok k) (T:b.ok k) (l:6*k+4<=8000):W7 [.str m.s,a.d,b.d]=some (m.bl a b).d/\(m.bl a b).ok (6*k+4):=az8 m S T l
def blL(m:Man) (a b:List Q4):List Q4:=(a.zip b).map fun p=>m.bl p.1 p.2
theorem bE7(a b:List Q4):((a.map Q4.d).zip (b.map Q4.d)).map (fun(x,y)=>PyData.tuple [x,y])=(a.zip b).map fun p=>.tuple [p.1.d,p.2.d]:=by rw[List.zip_map,List.map_map];rfl
theorem az9(m:Man) {k w h:Nat}{a b:List Q4}(S:ShOk k w h a) (T:ShOk k w h b) (l:6*k+4<=8000):N3 [.str m.s,shD w h a,shD w h b]=some (shD w h (blL m a b))/\ShOk (6*k+4) w h (blL m a b):=by
 have wh:w*h<=64:=Nat.mul_le_mul S.w8 S.h8
 have hz:(a.zip b).length=w*h:=by rw[List.length_zip,S.len,T.len,Nat.min_self]
 refine⟨?_,S.w1,S.w8,S.h1,S.h8,by unfold blL;rw[List.length_map,hz],fun q hq=>?_⟩
 ·refine B7 (ρ:=[some (.val (.str m.s)),some (.val (shD w h a)),some (.val (shD w h b)),none]) rfl ?_
  have g:ag3 (qE (dIx (B0 1) (dC (.int 2)))) (qE (dIx (B0 2) (dC (.int 2)))) [some (.val (.str m.s)),some (.val (shD w h a)),some (.val (shD w h b)),none]=some (((a.map Q4.d).zip (b.map Q4.d)).map (fun(x,y)=>PyData.tuple [x,y])):=rfl
  have c:J7 2 [0] (ag3 (qE (dIx (B0 1) (dC (.int 2)))) (qE (dIx (B0 2) (dC (.int 2))))) (O2 2 (B2 (J5 0) (B2 (J5 1) O6))) L0 (A2 W7 (A0 (A1 2) (A0 (A1 0) (A0 (A1 1) A3)))) [some (.val (.str m.s)),some (.val (shD w h a)),some (.val (shD w h b)),none]=some ((blL m a b).map Q4.d):=by
   rw[f8 (l:=a.zip b) (h1:=fun p=>p.1.d) (h2:=fun p=>p.2.d) (f:=fun p=>(m.bl p.1 p.2).d) (r:=[some (.val (.str m.s))]) rfl (by rw[g,bE7]) (by omega) ?_]
   ·unfold blL;rw[List.map_map];rfl
   ·intro p hp
    have pa:=S.ok p.1 (List.of_mem_zip hp).1
    have pb:=T.ok p.2 (List.of_mem_zip hp).2
    wp_walk using evD,(bp9 m pa pb l).1
  have g0:∀v:Option B,dIx (B0 1) (dC (.int 0)) [some (.val (.str m.s)),some (.val (shD w h a)),some (.val (shD w h b)),v]=some (.int w):=fun _=>rfl
  have g1:∀v:Option B,dIx (B0 1) (dC (.int 1)) [some (.val (.str m.s)),some (.val (shD w h a)),some (.val (shD w h b)),v]=some (.int h):=fun _=>rfl
  simp only[W3,B4,d3,c,g0,g1,B5,O7,A0,A3,P8,B0,xw0,xw1,xms,xbs,xg0,xg1]
  rfl
 ·obtain⟨p,hp,rfl⟩:=List.mem_map.mp hq
  exact(bp9 m (S.ok p.1 (List.of_mem_zip hp).1) (T.ok p.2 (List.of_mem_zip hp).2) l).2
end Sh
namespace G
open PySem PySem.Spec PySem.W PyProof.Rows L2
def evT(lt:Nat->Nat->Bool) {α:Type}:KasT α->α
 | .ret a=>a
 | .ask i j k=>evT lt (k (lt i j))
section
variable {lt:Nat->Nat->Bool}
theorem Y6(p:Array Nat) (s e:Nat):(kas_rev p s e).Perm p:=mirror_perm ..
end
end G
namespace G
open PySem PySem.Spec PyProof.Rows L2
abbrev FnD:=List D->Option D
structure Sg where
 fn:List (Str×FnD×Nat)
 cs:List (Str×D)
 bl:List Str
structure Kx where
 N:List Str
 sc:Scope
 df:Bool
 own:List Nat
 cpt:List Nat
 tx:List Nat
 dx:List Nat
 old:Bool
 fz:List (Nat×List Nat)
 hc:List ((Nat×Nat)×List Nat)
def biS(K:PySem.W.Frag) (n:Nat) (F:List D->Option D):List V->Hp->VK->Prop:=fun vs H Q=>vs.length=n/\∃Hf ds d,C0 Hf H/\Reps K Hf ds vs/\F ds=some d/\∀v H' Hf',Grow H Hf H' Hf'->Rep K Hf' d v->Q v H'
def bE5(x:Str) (F:FnD) (n:Nat):Prop:=0 < n/\x ≠ "__name__" /\ ∃nm,bootBuiltins x=some (.builtin nm)/\∀X:Cx,X.A.units+64 < cLine->W8 X (.builtin nm) (biS X.K n F)
theorem bK6(hb:bE5 x F n) (hu:X.A.units+64 < cLine) (hg:Gl X x) (hm:X.mg x=none) (ha:JA X (e::es) g) (hn:(e::es).length=n) (hdb:(x==("__debug__" : Str))=false)
  (he:starEach (e::es) X.env=(false,eval e X.env)::starEach es X.env) (hpl:(backTo pos (starEach es X.env)).any (·.1)=false):JE X (.Call (.Name x p) (e::es) [] pos) (A2 F g):=fun ρ d q=>by
 obtain⟨ds,h1,h2⟩:=Option.bind_eq_some_iff.mp q
 obtain⟨_,hnn,nm,hv,hc⟩:=hb
 refine A8 (T5 (hc X hu) hg hm hv (ha.run ρ ds h1) hnn hdb he hpl) fun σ H Q ⟨H0,Hf,s,sl,kk⟩=>?_
 exact⟨H0,Hf,s,sl,fun vs H1 Hf1 g1 r1=>⟨by rw[r1.length,ha.len ρ ds h1,hn],Hf1,ds,d,g1.sub,r1,h2,fun v H2 Hf2 g2 r2=>kk v H2 Hf2 (g1.trans g2) r2⟩⟩
def bQ4(X:Cx) (x:Str) (F:FnD) (n:Nat):Prop:=(∃(k:Nat) (f:Addr) (fd:FuncData) (ps:List Str),FnOk X.prog X.w X.K X.mg X.base CX0 k f fd ps (spF X.K n F)/\Room k X.A/\X.mg x=some (.ref f)/\PySem.W.keepIn X.K (.ref f)=true/\d8 X.K fd ps [])\/(X.mg x=none/\bE5 x F n)
structure Fit (S:Sg) (c:Kx) (X:Cx):Prop where
 N:X.N=c.N
 sc:X.env.scope=c.sc
 nd:c.N.Nodup
 calm:X.calm=true
 xe:X.xe=fun _ _=>False
 units:X.A.units+64 < cLine
 df:c.df=true->(∀x,X.fn x=true)/\c.sc.kind=.function
 fns:∀x F n,S.fn.lookup x=some (F,n)->bQ4 X x F n
 css:∀x d,S.cs.lookup x=some d->∃u,aB0 X.K d u/\X.mg x=some u
 bls:∀x,S.bl.contains x=true->X.mg x=none
def pl:Expr->Bool
 | .Starred ..=>false
 | .Slice ..=>false
 | .Set ..=>false
 | _=>true
def an0:Expr->Bool
 | .Call ..=>false
 | _=>true
def isC:Expr->Bool
 | .ListComp ..=>true
 | .SetComp ..=>true
 | .DictComp ..=>true
 | _=>false
def plT:Expr->Bool
 | .UnaryOp ..=>false
 | .BoolOp ..=>false
 | .IfExp ..=>false
 | .Compare ..=>false
 | _=>true
def g8(x:Str):List Str->Option Nat
 | []=>none
 | y::r=>if y==x then some 0 else(g8 x r).map (·+1)
theorem as7:∀{l:List Str}{i:Nat},g8 x l=some i->l[i]? = some x
 | [],i,h=>by cases h
 | y::r,i,h=>by
  unfold g8 at h
  split at h
  ·rename_i e
   cases h
   simp only[beq_iff_eq]at e
   subst e;rfl
  ·obtain⟨j,h1,h2⟩:=xmo h
   subst h2
   simpa using as7 h1
def t7:List Str->Bool
 | []=>true
 | x::r=>!(r.contains x)&&t7 r
theorem t6:∀{l:List Str},t7 l=true->l.Nodup
 | [],_=>List.nodup_nil
 | x::r,h=>by
  unfold t7 at h
  simp only[Bool.and_eq_true,Bool.not_eq_true']at h
  refine List.nodup_cons.mpr ⟨fun z=>?_,t6 h.2⟩
  have:=h.1
  rw[List.contains_iff_mem.mpr z]at this
  cases this
def aI0(sc:Scope) (x:Str):Bool:=(match sc.names.lookup x with|some .local=>true|some .cell=>true|some .free=>true|_=>false) && !(x==("__debug__" : Str)) && !(x==("__classdict__" : Str))
def aV0(c:Kx) (x:Str):Bool:=(match c.sc.names.lookup x with|some .local=>true|some .cell=>c.df|_=>false)
def aY0(sc:Scope) (x:Str):Bool:=(match sc.names.lookup x with|some .globalImplicit=>true|_=>false) && !(x==("__debug__" : Str))
def biB(S:Sg) (c:Kx) (w x:Str):Bool:=x==w&&S.bl.contains w&&aY0 c.sc w
section
variable {X:Cx}{S:Sg}{c:Kx}
theorem aa8(F:Fit S c X) (h:aI0 c.sc x=true):Vis X.env.scope x/\(x==("__debug__" : Str))=false/\(x==("__classdict__" : Str))=false:=by
 unfold aI0 at h
 simp only[Bool.and_eq_true,Bool.not_eq_true']at h
 obtain⟨⟨h1,h2⟩,h3⟩:=h
 refine⟨?_,h2,h3⟩
 rw[F.sc]
 unfold Vis
 split at h1
 ·rename_i e;exact .inl e
 ·rename_i e;exact .inr (.inl e)
 ·rename_i e;exact .inr (.inr e)
 ·cases h1
theorem aE6(F:Fit S c X) (h:aV0 c x=true):L2.Loc X.env.scope x/\(X.fn x=true\/X.env.scope.names.lookup x=some .local):=by
 unfold aV0 at h
 rw[F.sc]
 unfold L2.Loc
 split at h
 ·rename_i e;exact⟨.inl e,.inr e⟩
 ·rename_i e;exact⟨.inr e,.inl ((F.df h).1 x)⟩
 ·cases h
theorem ao5(F:Fit S c X) (h:aY0 c.sc x=true):Gl X x/\(x==("__debug__" : Str))=false:=by
 unfold aY0 at h
 simp only[Bool.and_eq_true,Bool.not_eq_true']at h
 refine⟨?_,h.2⟩
 unfold Gl Env.kindOf
 rw[F.sc]
 have h1:=h.1
 split at h1
 ·rename_i e;exact e
 ·cases h1
theorem L4(F:Fit S c X) (h:biB S c w x=true):x=w/\Gl X w/\X.mg w=none:=by
 unfold biB at h
 simp only[Bool.and_eq_true,beq_iff_eq]at h
 exact⟨h.1.1,(ao5 F h.2).1,F.bls _ h.1.2⟩
theorem L3(h:pl e=true) (es:List Expr) (env:Env):starEach (e::es) env=(false,eval e env)::starEach es env:=by cases e<;>first|rfl|cases h
theorem aS0(h:pl e=true):o6 e:=by
 intro o i
 cases e<;>first|rfl|cases h
theorem aa9(h:pl e=true) (op:CmpOp):behindInMarks op e=false:=by cases e<;>first|rfl|cases h
theorem aD6(h:pl e=true) (env:Env) (x:Value):foldedSetIterable e env x=pure x:=by cases e<;>first|rfl|cases h
theorem x9(h:an0 o=true) (attr:Str) (env:Env) (t:Sem Value):attributeBase o attr env t=t:=by cases o<;>first|rfl|cases h
theorem ad4(h:isC e=false) (t:Option Expr) (l:Nat) (env:Env):swapsWith e t l env=pure false:=by cases e<;>first|rfl|cases h
theorem aS1(h:plT e=true) (env:Env) (whole:Sem Value):isTrue e env whole=(do let v ← whole;standAt e.pos;holding [v] (truthy v)):=by cases e<;>first|rfl|cases h
end
end G
namespace G
open PySem PySem.Spec PySem.W PyProof.Rows L2 PySem.SeqAt
def Ask(n:Nat) {α:Type}(P:α->Prop):KasT α->Prop
 | .ret a=>P a
 | .ask i j k=>i < n/\j < n/\∀b,Ask n P (k b)
theorem Ask.bind{n:Nat}{α β:Type}{P:α->Prop}{P':β->Prop}{f:α->KasT β}(hf:∀a,P a->Ask n P' (f a)):∀{t:KasT α},Ask n P t->Ask n P' (t.bind f)
 | .ret a,h=>hf a h
 | .ask i j k,h=>⟨h.1,h.2.1,fun b=>Ask.bind hf (h.2.2 b)⟩
theorem Ask.ite{n:Nat}{α:Type}{P:α->Prop}{c:Prop} [Decidable c] {s t:KasT α}(h1:Ask n P s) (h2:Ask n P t):Ask n P (if c then s else t):=by split<;>assumption
def LoP(n:Nat) (p:Array Nat):Prop:=p.size=n/\∀x∈p,x < n
section
variable {n:Nat}(hn:0 < n)
include hn
theorem LoP.get{p:Array Nat}(h:LoP n p) (k:Nat):p.getD k 0 < n:=by
 rw[Array.getD_eq_getD_getElem?]
 rcases Nat.lt_or_ge k p.size with q|q
 ·rw[Array.getElem?_eq_getElem q];exact h.2 _ (Array.getElem_mem q)
 ·rw[Array.getElem?_eq_none q];exact hn
omit hn in
theorem LoP.perm{p q:Array Nat}(h:LoP n p) (e:q.Perm p):LoP n q:=⟨e.size_eq.trans h.1,fun x hx=>h.2 x (e.mem_iff.mp hx)⟩
theorem aA5{p:Array Nat}(h:LoP n p):∀(f m:Nat),Ask n (fun _=>True) (kas_asc p f m)
 | 0,_=>trivial
 | f+1,m=>⟨h.get hn _,h.get hn _,fun b=>.ite (c:=b=true) trivial (aA5 h f (m+1))⟩
theorem ab3:∀(f:Nat) (p:Array Nat) (m q:Nat),LoP n p->Ask n (fun r:Array Nat×Nat×Nat=>LoP n r.1) (kas_desc f p m q)
 | 0,_,_,_,h=>h
 | f+1,p,m,q,h=>⟨h.get hn _,h.get hn _,fun b=>.ite (c:=b=true) (.ite (ab3 f _ _ _ (h.perm (Y6 ..))) (ab3 f _ _ _ h)) ⟨h.get hn _,h.get hn _,fun d=>.ite (c:=d=true) h (ab3 f _ _ _ h)⟩⟩
theorem aq0{p:Array Nat}(m r:Nat) (h:LoP n p):Ask n (fun r:Nat×Array Nat=>LoP n r.2) (kas_tail3 m r p):=by
 unfold kas_tail3
 refine Ask.bind (P:=fun _=>True) (fun m _=>?_) (aA5 hn (h.perm (Y6 ..)) _ _)
 exact h.perm (Y6 ..)
theorem z6{p:Array Nat}(m r:Nat) (h:LoP n p):Ask n (fun r:Nat×Array Nat=>LoP n r.2) (kas_descPart m r p):=by
 unfold kas_descPart
 exact Ask.bind (fun x hx=>Ask.ite (aq0 hn _ _ (LoP.perm hx (Y6 ..))) (aq0 hn _ _ hx)) (ab3 hn _ _ _ _ h)
theorem ba5{p:Array Nat}(r:Nat) (h:LoP n p):Ask n (fun r:Nat×Array Nat=>LoP n r.2) (kas_count r p):=by
 unfold kas_count
 refine Ask.bind (fun m _=>?_) (aA5 hn h _ _)
 refine Ask.ite h (Ask.ite ⟨h.get hn _,h.get hn _,fun b=>?_⟩ (z6 hn _ _ h))
 exact Ask.ite (c:=b=true) h (z6 hn _ _ (h.perm (Y6 ..)))
theorem ad2{p:Array Nat}(h:LoP n p) (k:Nat):∀(f l r:Nat),Ask n (fun _=>True) (kas_place p k f l r)
 | 0,_,_=>trivial
 | f+1,l,r=>.ite (c:=l ≥ r) trivial ⟨h.get hn _,h.get hn _,fun b=>.ite (c:=b=true) (ad2 h k f _ _) (ad2 h k f _ _)⟩
theorem bb3:∀(f:Nat) (p:Array Nat) (k:Nat),LoP n p->Ask n (LoP n) (kas_bin f p k)
 | 0,_,_,h=>h
 | f+1,p,k,h=>by
  unfold kas_bin
  exact Ask.bind (fun l _=>bb3 f _ _ (h.perm (bubble_perm ..))) (ad2 hn h k _ _ _)
theorem aC2:Ask n (LoP n) (kas_sort n):=by
 unfold kas_sort
 refine Ask.bind (fun r hr=>?_) (ba5 hn n (show LoP n (List.toArray (List.range n)) from⟨by simp,fun x hx=>by simpa using hx⟩))
 exact Ask.ite (bb3 hn _ _ _ hr) hr
end
theorem aH2{n:Nat}{α:Type}{P:α->Prop}{cmp:Nat->Nat->(Bool->Shared->Prop)->Shared->Prop}{lt:Nat->Nat->Bool}{Q:α->Shared->Prop}{s:Shared}(hc:∀i j C,i < n->j < n->C (lt i j) s->cmp i j C s):∀{t:KasT α},Ask n P t->(P (evT lt t)->Q (evT lt t) s)->t.kasWp cmp Q s
 | .ret a,h,q=>q h
 | .ask i j k,h,q=>hc i j _ h.1 h.2.1 (aH2 hc (h.2.2 _) q)
section
variable {prog:Program}{w:World}{A:Around}{E:Value->Shared->Prop}{s:Shared}
theorem aU9{a:Addr}{vs out:List Value}{n:Nat}{P:PySem.Fin->Shared->Prop}(ho:s.heap.get? a=some (seqObj "list" vs.toArray n)) (h64:vs.length < 64) (h1:vs.length < 2->out=vs)
  (hk:2<=vs.length->∀h':Heap,(∀b o,b≠a->s.heap.get? b=some o->h'.get? b=some o) ->
   wpAny (model prog w) A (keyKind' vs.toArray) (fun κ s'=>(kas_sort vs.length).kasWp (kas_ask prog w A κ vs) (fun p s''=>s''={ s with heap:=h' }/\(p.toList.map fun i=>vs.getD i Value.none)=out) s') (fun _ _=>False) { s with heap:=h' })
  (h:∀h' c,(∀b o,b≠a->s.heap.get? b=some o->h'.get? b=some o)->h'.get? a=some (seqObj "list" out.toArray c)->P (.done (.ret .none)) { s with heap:=h' }) :
  wpAny (model prog w) A (Builtin.«list.sort» ⟨[.ref a],[]⟩) P E s:=by
 have ha:a < s.heap.objs.size:=Heap.lt_size ho
 have hsz:vs.toArray.size=vs.length:=by simp
 obtain⟨e1,ho1⟩:∃e1,(s.heap.update a (Obj.mapSeq fun _=>(#[]:Array Value))).get? a=some (seqObj "list" #[] e1):=⟨_,get?_update_seq ho fun _=>#[]⟩
 have s1:=Heap.SameBut.update s.heap a (Obj.mapSeq fun _=>(#[]:Array Value))
 rw[list_sort_plain]
 refine wpAny_bind (listItems_at ho rfl ?_)
 refine wpAny_bind (listUpdate_at ho rfl ?_ (by rw[List.size_toArray,sizeLine_eq];omega) (Nat.zero_le _))
 refine wpAny_bind (seqEpoch_at ho1 rfl ?_)
 refine wpAny_bind (wpAny_newTuple ?_ (by show vs.length<=_;rw[sizeLine_eq];omega))
 refine wpAny_bind (wpAny_newList ?_ (Nat.zero_le _))
 refine wpAny_holding ?_
 have keep:∀b o,b≠a->s.heap.get? b=some o->(((s.heap.update a (Obj.mapSeq fun _=>(#[]:Array Value))).push (seqObj "tuple" vs.toArray 0)).push (seqObj "list" #[] 0)).get? b=some o:=fun b o hb q =>Heap.get?_push_of_some _ (Heap.get?_push_of_some _ (s1.extBut b o hb q))
 have ho3:(((s.heap.update a (Obj.mapSeq fun _=>(#[]:Array Value))).push (seqObj "tuple" vs.toArray 0)).push (seqObj "list" #[] 0)).get? a=some (seqObj "list" #[] e1):=Heap.get?_push_of_some _ (Heap.get?_push_of_some _ ho1)
 show wpAny _ _ _ _ _ { s with heap:=((s.heap.update a (Obj.mapSeq fun _=>(#[]:Array Value))).push (seqObj "tuple" vs.toArray 0)).push (seqObj "list" #[] 0) }
 generalize ((s.heap.update a (Obj.mapSeq fun _=>(#[]:Array Value))).push (seqObj "tuple" vs.toArray 0)).push (seqObj "list" #[] 0)=h3 at keep ho3
 have fin:∃c,(h3.update a (Obj.mapSeq fun _=>out.toArray)).get? a=some (seqObj "list" out.toArray c):=⟨_,get?_update_seq ho3 fun _=>out.toArray⟩
 obtain⟨c,hc⟩:=fin
 have keep':∀b o,b≠a->s.heap.get? b=some o->(h3.update a (Obj.mapSeq fun _=>out.toArray)).get? b=some o:=fun b o hb q=>(Heap.SameBut.update h3 a _).extBut b o hb (keep b o hb q)
 by_cases h2:vs.toArray.size < 2
 ·rw[if_pos h2,if_pos h2]
  refine wpAny_bind (wpAny_pure ?_)
  dsimp only
  rw[StateT.run_pure]
  refine wpAny_bind (wpAny_pure ?_)
  dsimp only
  have ez:(arrOf (SortSt.mk' general' (vs.toArray.zip vs.toArray) #[] 7 none)).map (·.2)=out.toArray:=by
   rw[h1 (by omega)]
   show(vs.toArray.zip vs.toArray).map (·.2)=vs.toArray
   apply Array.toList_inj.mp
   simp[List.map_snd_zip]
  rw[ez]
  refine wpAny_bind (seqEpoch_at ho3 rfl ?_)
  refine wpAny_bind (listUpdate_at ho3 rfl ?_ (Nat.zero_le _) (by rw[List.size_toArray,sizeLine_eq,h1 (by omega)];omega))
  show wpAny _ _ _ _ _ _
  simp only[bne_self_eq_false,xft,if_false]
  exact wpAny_pure (h _ c keep' hc)
 ·rw[if_neg h2,if_neg h2]
  refine wpAny_bind (wpAny_mono (hk (by omega) h3 keep) (fun κ s' hκ=>?_) fun _ _ x=>x.elim)
  refine wpAny_bind (wpAny_mono (kat_run (E:=E) (Q:=fun st' s''=>∃p:Array Nat,p.size=vs.length/\arrOf st'=p.map (kas_item (vs.toArray.zip vs.toArray))/\failedOf st'=none/\s''={ s with heap:=h3 }/\(p.toList.map fun i=>vs.getD i Value.none)=out) rfl (by omega) h64
   (fun p st' s'' a1 a2 a3 a4=>⟨p,a1,a2,a3,a4⟩) hκ) ?_ fun _ _ e=>e)
  rintro⟨⟨⟩,st'⟩ s'' ⟨p,hp,har,hf,rfl,e⟩
  dsimp only
  have ez:=kat_snds rfl har
  have hol:out.length=vs.length:=by rw[← e,List.length_map,Array.length_toList,hp]
  rw[e]at ez
  rw[ez]
  refine wpAny_bind (seqEpoch_at ho3 rfl ?_)
  refine wpAny_bind (listUpdate_at ho3 rfl ?_ (Nat.zero_le _) (by rw[List.size_toArray,sizeLine_eq];omega))
  rw[hf]
  simp only[bne_self_eq_false,xft,if_false]
  exact wpAny_pure (h _ c keep' hc)
end
def tt:D->Bool
 | .tuple (.tuple _::_)=>true
 | _=>false
def ltN(ds:List D) (i j:Nat):Bool:=(ltD (ds.getD i (ds.headD .none)) (ds.getD j (ds.headD .none))).getD false
def al5(ds:List D):Option (List D) :=
 if ds.length < 2 then some ds
 else if ds.length < 64/\(ds.all fun d=>tt d&&(d.canLay0&&decide (d.depth<=60)))=true/\(ds.all fun x=>ds.all fun y=>(ltD x y).isSome)=true then
  some ((evT (ltN ds) (kas_sort ds.length)).toList.map fun i=>ds.getD i .none)
 else none
theorem aA4{n:Nat}{α:Type}{P:α->Prop}(lt:Nat->Nat->Bool):∀{t:KasT α},Ask n P t->P (evT lt t)
 | .ret _,h=>h
 | .ask i j k,h=>aA4 (n:=n) (P:=P) lt (t:=k (lt i j)) (h.2.2 (lt i j))
theorem as5{prog:Program}{w:World}{A:Around}{s:Shared}{Q:Bool->Shared->Prop}{m:Nat}{fin:Bool}(hu:A.units+m < cLine):∀(xs ys:List D) (vs ws:List Value) (as bs:List Addr) (i:Nat) (c:Bool),ReadsAll s.heap vs xs as->ReadsAll s.heap ws ys bs->PyData.canLayAll0 xs=true->PyData.canLayAll0 ys=true->PyData.depthAll xs<=m ->
  ltDs xs ys=some c->fin=decide (xs.length < ys.length)->Q c s->KatLex prog w A false fin Q (vs.zip ws) i s
 | [],[],_,_,_,_,i,c,ra,rb,_,_,_,h,hf,q=>by cases ra;cases rb;rw[ltDs]at h;cases h;rw[hf];exact q
 | [],y::ys,_,_,_,_,i,c,ra,rb,_,_,_,h,hf,q=>by cases ra;rw[ltDs]at h;cases h;rw[hf];simpa using kat_nil (by simpa using q)
 | x::xs,[],_,_,_,_,i,c,ra,rb,_,_,_,h,hf,q=>by cases rb;rw[ltDs]at h;cases h;rw[hf];simpa using kat_nil (by simpa using q)
 | x::xs,y::ys,_,_,_,_,i,c,ra,rb,ha,hb,hd,h,hf,q=>by
  have ha':x.canLay0=true/\PyData.canLayAll0 xs=true:=by simpa [PyData.canLayAll0] using ha
  have hb':y.canLay0=true/\PyData.canLayAll0 ys=true:=by simpa [PyData.canLayAll0] using hb
  have hd':x.depth<=m/\PyData.depthAll xs<=m:=by simp only[PyData.depthAll]at hd;omega
  rw[ltDs]at h
  cases ra with
  | cons r rs =>
   cases rb with
   | cons r' rs' =>
    rw[List.zip_cons_cons]
    refine kat_cons (eqAt_reads x y A s _ _ _ _ r r' ha'.1 hb'.1 (by have:=Nat.min_le_left x.depth y.depth;omega) prog w _ _ ?_)
    cases e:PyData.eqv x y with
    | true =>
     rw[if_pos e]at h
     exact kat_yes (as5 hu xs ys _ _ _ _ (i+1) c rs rs' ha'.2 hb'.2 hd'.2 h (by rw[hf];simp) q)
    | false =>
     rw[if_neg (by rw[e];exact Bool.false_ne_true)]at h
     refine kat_no ?_
     rw[Bool.false_and]
     exact kat_one _ _ (ad8 m x y A s _ _ _ _ c hd'.1 r r' ha'.1 hb'.1 hu h prog w _ _ q)
theorem aB2{M:Model}{h:Heap}:∀{vs:List Value}{ds:List D}{as:List Addr},ReadsAll h vs ds as->(ds.all fun d=>tt d&&(d.canLay0&&decide (d.depth<=60)))=true->∃fs,KatTups h vs fs/\fs.length=vs.length/\∀v∈fs,Looks M h (typeOf v) (.type "tuple")
 | [],_,_,r,_=>⟨[],.nil,rfl,fun v hv=>nomatch hv⟩
 | v::vs,_,_,r,ha=>by
  cases r with
  | cons r1 r2 =>
   rename_i d ds _ _
   rw[List.all_cons,Bool.and_eq_true,Bool.and_eq_true]at ha
   obtain⟨fs,h1,h2,h3⟩:=aB2 (M:=M) r2 ha.2
   have h0:=ha.1.1
   unfold tt at h0
   split at h0
   ·cases r1 with
    | tuple k1 k2 k3 k4 =>
     rename_i its _
     obtain⟨f,fr,e⟩:∃f fr,its.toList=f::fr:=by
      cases e:its.toList with
      | nil=>rw[e]at k4;cases k4
      | cons f fr=>exact⟨f,fr,rfl⟩
     rw[e]at k4
     cases k4 with
     | cons q1 q2 =>
      cases q1 with
      | tuple j1 j2 j3 j4 =>
       refine⟨_::fs,.cons k1 k2 k3 (by rw[← Array.getElem?_toList,e];rfl) h1,by rw[List.length_cons,List.length_cons,h2],fun v hv=>?_⟩
       rcases List.mem_cons.mp hv with rfl|hv
       ·rw[← j2];exact(Looks.ld j1).andThen .now
       ·exact h3 v hv
   ·cases h0
theorem Reps.pick{K:PySem.W.Frag}{H:Hp}{ds:List D}{vs:List V}(h:Reps K H ds vs):∀{p:List Nat},(∀i∈p,i < ds.length)->Reps K H (p.map fun i=>ds.getD i .none) (p.map fun i=>vs.getD i .non)
 | [],_=>rfl
 | i::p,hp=>by
  have hi:=hp i (.head _)
  obtain⟨v,e,r⟩:=h.get (i:=i) (List.getElem?_eq_getElem hi)
  refine⟨_,_,rfl,?_,Reps.pick h fun j hj=>hp j (.tail _ hj)⟩
  show Rep K H (ds.getD i .none) (vs.getD i .non)
  rw[List.getD_eq_getElem?_getD,List.getD_eq_getElem?_getD,e,List.getElem?_eq_getElem hi]
  exact r
theorem B6.at{vs:List V}{us:List Value}(h:B6 vs us):∀{i:Nat},i < vs.length->C3 (vs.getD i .non) (us.getD i .none):=by
 induction h with
 | nil=>exact fun hi=>absurd hi (Nat.not_lt_zero _)
 | cons r _ ih =>
  intro i hi
  cases i with
  | zero=>exact r
  | succ i=>simpa using ih (by simpa using hi)
theorem B6.pick{vs:List V}{us:List Value}(h:B6 vs us):∀{p:List Nat},(∀i∈p,i < vs.length)->B6 (p.map fun i=>vs.getD i .non) (p.map fun i=>us.getD i .none)
 | [],_=>.nil
 | i::p,hp=>.cons (B6.at h (hp i (.head _))) (B6.pick h fun j hj=>hp j (.tail _ hj))
end G
namespace Sh
open PySem PySem.W G L2
theorem o0{w h:Nat}(w1:1<=w) (f:Int->Int->Q4) (x y:Int):atQ w h ((plc w (w*h)).map fun p=>f p.1 p.2) x y=if 0<=x/\x < w/\0<=y/\y < h then f x y else q0:=by
 unfold atQ
 split
 ·rename_i b
  obtain⟨n1,n2⟩:=V5 b
  obtain⟨a1,a2,a3,a4⟩:=b
  obtain⟨i,rfl⟩:=Int.eq_ofNat_of_zero_le a1
  obtain⟨j,rfl⟩:=Int.eq_ofNat_of_zero_le a3
  have e:((j:Int)*w+i).toNat=j*w+i:=by rw[← Int.natCast_mul,← Int.natCast_add,Int.toNat_natCast]
  have lt:j*w+i < w*h:=by omega
  rw[e,List.getD_eq_getElem?_getD,List.getElem?_map]
  unfold plc
  rw[List.getElem?_map,List.getElem?_range lt]
  have m1:(j*w+i) % w=i:=by rw[Nat.mul_comm,Nat.mul_add_mod];exact Nat.mod_eq_of_lt (by omega)
  have m2:(j*w+i) / w=j:=by rw[Nat.mul_comm,Nat.mul_add_div (by omega),Nat.div_eq_of_lt (by omega)];rfl
  show f (((j*w+i) % w:Nat):Int) (((j*w+i) / w:Nat):Int)=_
  rw[m1,m2]
 ·rfl
theorem al7{k w h:Nat}{l:List Q4}(S:ShOk k w h l):l=(plc w (w*h)).map fun p=>atQ w h l p.1 p.2:=by
 apply List.ext_getElem
 ·rw[List.length_map,Q5,S.len]
 ·intro i i1 i2
  have hi:i < w*h:=by rw[← S.len];exact i1
  have wp:0 < w:=S.w1
  have hy:=Nat.div_lt_of_lt_mul hi
  have hx:=Nat.mod_lt i wp
  rw[List.getElem_map]
  unfold plc
  rw[List.getElem_map,List.getElem_range]
  unfold atQ
  rw[if_pos ⟨Int.natCast_nonneg _,Int.ofNat_lt.mpr hx,Int.natCast_nonneg _,Int.ofNat_lt.mpr hy⟩]
  have e:(((i / w:Nat):Int)*w+((i % w:Nat):Int)).toNat=i:=by rw[← Int.natCast_mul,← Int.natCast_add,Int.toNat_natCast,Nat.mul_comm];exact Nat.div_add_mod i w
  rw[e]
  simp[i1]
theorem U5{k k' w h:Nat}{l l':List Q4}(S:ShOk k w h l) (S':ShOk k' w h l') (H:∀x y:Int,0<=x/\x < w/\0<=y/\y < h->atQ w h l x y=atQ w h l' x y):l=l':=by
 rw[al7 S,al7 S']
 apply List.map_congr_left
 intro p hp
 exact H _ _ (aD5 hp S.w1)
theorem n9{w h:Nat}{l:List Q4}{x y:Int}(n:¬(0<=x/\x < w/\0<=y/\y < h)):atQ w h l x y=q0:=by unfold atQ;rw[if_neg n]
theorem U7{w h:Nat}{l:List Q4}(h1:1<=h) (x y:Int):atQ h w (ak9 w h l) x y=atQ w h l y ((h:Int) - 1 - x):=by
 unfold ak9
 rw[o0 h1 (fun a b=>atQ w h l b ((h:Int) - 1 - a))]
 split
 ·rfl
 ·rename_i n;rw[n9 (by omega)]
theorem u9{w h:Nat}{l:List Q4}(w1:1<=w) (x y:Int):atQ w h (an4 w h l) x y=atQ w h l ((w:Int) - 1 - x) y:=by
 unfold an4
 rw[o0 w1 (fun a b=>atQ w h l ((w:Int) - 1 - a) b)]
 split
 ·rfl
 ·rename_i n;rw[n9 (by omega)]
theorem R5{w h:Nat}{l:List Q4}{left top:Int}{wide high:Nat}(w1:1<=wide) (x y:Int):atQ wide high (V7 w h l left top wide high) x y=if 0<=x/\x < wide/\0<=y/\y < high then atQ w h l (left+x) (top+y) else q0:=by
 unfold V7
 exact o0 w1 (fun a b=>atQ w h l (left+a) (top+b)) x y
theorem bb1(m:Man):m.bl q0 q0=q0:=by
 have z1:(0:Rat)+0=0:=Rat.add_zero 0
 have z2:(0:Rat) - 0=0:=by rw[Rat.sub_eq_add_neg,Rat.add_neg_cancel]
 have z3:(0:Rat)<=1:=by decide
 have e:∀m:Man,m.cov 0 0=0/\m.col 0 0 0 0=0:=fun m=>by cases m<;>exact⟨by simp[Man.cov,av0,z1,z2,z3],by simp[Man.col,av0,z1,z2,z3]⟩
 show Q4.mk (m.cov 0 0) (m.col 0 0 0 0) (m.col 0 0 0 0) (m.col 0 0 0 0)=Q4.mk 0 0 0 0
 rw[(e m).1,(e m).2]
theorem bb5(m:Man) {k k' w h:Nat}{a b:List Q4}(S:ShOk k w h a) (T:ShOk k' w h b) (x y:Int):atQ w h (blL m a b) x y=m.bl (atQ w h a x y) (atQ w h b x y):=by
 unfold atQ
 split
 ·rename_i c
  obtain⟨n1,n2⟩:=V5 c
  unfold blL
  have i1:(y*w+x).toNat < a.length:=by rw[S.len];omega
  have i2:(y*w+x).toNat < b.length:=by rw[T.len];omega
  rw[List.getD_eq_getElem?_getD,List.getD_eq_getElem?_getD,List.getD_eq_getElem?_getD,List.getElem?_map,(List.getElem?_zip_eq_some (z:=(a[(y*w+x).toNat],b[(y*w+x).toNat]))).mpr ⟨List.getElem?_eq_getElem i1,List.getElem?_eq_getElem i2⟩,List.getElem?_eq_getElem i1,List.getElem?_eq_getElem i2]
  rfl
 ·exact(bb1 m).symm
end Sh
namespace Sh
open PySem PySem.Spec PyProof.Rows L2 G
end Sh
namespace G
open PySem PySem.Spec PyProof.Rows L2
abbrev DA:=Rho->Option (List D)
abbrev DQ:=Rho->Option (Bool×List D)
abbrev DT:=Rho->Option Bool
abbrev DG:=D->Rho->Option Rho
def dNo:DE:=fun _=>none
def aNo:DA:=fun _=>none
def qNo:DQ:=fun _=>none
def tNo:DT:=fun _=>none
def gNo:DG:=fun _ _=>none
structure Ev where
 e:Kx->Expr->DE
 q:Kx->Expr->DQ
 n:Kx->Expr->DA
 t:Kx->Expr->DT
 g:Kx->Expr->DG
 b:Kx->List Stmt->DS
def az5:CmpOp->D->D->Option D
 | .Lt=>ltI | .LtE=>leI | .Gt=>gtI | .GtE=>geI | .Eq=>eqD | .NotEq=>neD | .Is=>isB | .IsNot=>bJ4 | .In=>inD false | .NotIn=>inD true
def evA(f:Expr->DE):List Expr->DA
 | []=>A3
 | e::es=>if pl e then A0 (f e) (evA f es) else aNo
def aZ2(f:Expr->DE) (op:BoolOp):List Expr->DE
 | []=>dNo
 | [a]=>f a
 | a::b::r=>match op with
  | .And=>ba4 (f a) (aZ2 f op (b::r))
  | .Or=>dOr (f a) (aZ2 f op (b::r))
def aZ1(f:Expr->DT) (op:BoolOp):List Expr->DT
 | []=>tNo
 | [a]=>f a
 | a::b::r=>match op with
  | .And=>aB4 (f a) (aZ1 f op (b::r))
  | .Or=>al2 (f a) (aZ1 f op (b::r))
def evO(f:Expr->DE):Option Expr->Rho->Option (Option Int)
 | none=>l7
 | some e=>l6 (f e)
def bC1(f:Expr->DG):List Expr->List D->Rho->Option Rho
 | []=>O6
 | e::es=>B2 (f e) (bC1 f es)
def aY9(f:Expr->DT):List Expr->DT
 | []=>L0
 | [t]=>f t
 | _=>tNo
def S2:Expr->List Str
 | .Name x _=>[x]
 | .Tuple es _ _=>es.filterMap fun | .Name x _=>some x|_=>none
 | _=>[]
def rl(scope sc:Scope):Scope:={ scope with names:=scope.names.map fun(n,k)=>if(k == .free&&sc.kind == .function&&sc.names.lookup n==some .cell) then(n,.cell) else(n,k) }
def ay6(n:Nat) (caps l:List Nat):List Nat:=(List.range caps.length).filterMap fun i=>match caps[i]? with|some j=>if l.contains j then some (n+i) else none|none=>none
def bG8(c:Kx) (j:Nat):Str:=(c.N[j]?).getD ""
def inner(c:Kx) (tn:List Str) (caps:List Nat) (scope:Scope):Kx :=
 { N:=tn++caps.map (bG8 c),sc:=rl scope c.sc,df:=false,own:=ay6 tn.length caps c.own,cpt:=[],tx:=ay6 tn.length caps c.tx,dx:=ay6 tn.length caps c.dx,old:=c.old,fz:=[],hc:=c.hc }
def isList:Expr->Bool
 | .List ..=>true
 | .ListComp ..=>true
 | _=>false
def X7(c:Kx) (l:List Nat):Expr->Bool
 | .Name x _=>(match g8 x c.N with|some i=>l.contains i|none=>false)
 | _=>false
def bB3:Expr->Bool
 | .Constant (.str _) _ _=>true
 | _=>false
def bQ5(S:Sg) (c:Kx):Expr->Bool
 | .Constant (.str _) _ _=>true
 | .Name x _=>(match g8 x c.N with|some _=>false|none=>(match S.cs.lookup x with|some (.str _)=>true|_=>false))
 | _=>false
def opW(S:Sg) (c:Kx) (op:CmpOp) (b:Expr):D->D->Option D:=if X7 c c.dx b then(match op with
 | .In=>inK false
 | .NotIn=>inK true
 | _=>az5 op) else az5 op
def at2:Expr->Bool
 | .Tuple ..=>true
 | _=>false
def br4(x:Str):Option String:=if x == "int" then some "int" else if x == "bool" then some "bool" else if x == "str" then some "str" else if x == "tuple" then some "tuple" else if x == "list" then some "list" else none
section
variable (S:Sg) (r:Ev)
def evR(c:Kx) (tg:Expr) (a:Expr):DA:=match a with
 | .Call f as kw _=>(match f,as,kw with
  | .Name y _,[e],[]=>(match e with
   | .Call f2 as2 kw2 _=>(match f2,as2,kw2 with
    | .Name z _,[b],[]=>if biB S c "list" y&&biB S c "enumerate" z&&at2 tg&&pl b then fun _=>none else fun _=>none
    | _,_,_=>fun _=>none)
   | _=>fun _=>none)
  | _,_,_=>fun _=>none)
 | _=>fun _=>none
def evI(c:Kx) (tg it:Expr):DA:=match it with
 | .Call (.Name x _) [a] [] _=>if biB S c "reversed" x then evR S c tg a else if biB S c "range" x&&pl a then U0 (r.e c a) else if biB S c "enumerate" x&&at2 tg&&pl a then(fun _=>none) else U6 (r.e c it)
 | .Call (.Name x _) [a,b] [] _=>if biB S c "range" x&&pl a&&pl b then(fun _=>none) else if biB S c "zip" x&&at2 tg&&pl a&&pl b then ag3 (qE (r.e c a)) (qE (r.e c b)) else U6 (r.e c it)
 | _=>if X7 c c.tx it then(fun _=>none) else U6 (r.e c it)
def evC(c:Kx) (ex:Expr):DA:=match ex with
 | .ListComp elt [⟨tgt,iter,ifs,0⟩] scope pos =>
  let tn:=S2 tgt
  let caps:=(c.hc.lookup (pos.line,pos.col)).getD []
  let c':=inner c tn caps scope
  if ab4 c.N c'.N tn.length caps c.sc scope&&t7 c'.N&&pl iter then J7 tn.length caps (evI S r c tgt iter) (r.g c' tgt) (aY9 (r.t c') ifs) (r.e c' elt) else aNo
 | _=>aNo
def aw0(c:Kx) (x:Str) (a:Expr):DE :=
 if !(pl a) then dNo
 else if biB S c "len" x then(match a with
  | .Call (.Name y _) [e] [] _=>if biB S c "set" y&&pl e then dNo else af0 (r.q c a)
  | _=>if X7 c c.tx a then dNo else af0 (r.q c a))
 else if biB S c "tuple" x then P8 (r.q c a)
 else if biB S c "all" x then bm1 (r.q c a)
 else if biB S c "any" x then bM1 (r.q c a)
 else if biB S c "dict" x then bp6 (r.q c a)
 else if biB S c "int" x then bm0 (r.e c a)
 else if biB S c "str" x then dNo
 else if biB S c "abs" x then dNo
 else if biB S c "min" x then dNo
 else if biB S c "max" x then dNo
 else dNo
def av9(c:Kx) (x:Str) (a b:Expr):DE :=
 if !(pl a) then dNo
 else if biB S c "isinstance" x then(match b with
  | .Name y _=>(match br4 y with
   | some T=>if biB S c y y then bl9 T (r.e c a) else dNo
   | none=>dNo)
  | _=>dNo)
 else if !(pl b) then dNo
 else if biB S c "min" x then au6 (r.e c a) (r.e c b)
 else if biB S c "max" x then dNo
 else dNo
def aN8(c:Kx) (x:Str) (args:List Expr) (ex:Expr):DE:=match S.fn.lookup x with
 | some (F,n)=>if aY0 c.sc x&&args.length==n&&args.all pl then A2 F (evA (r.e c) args) else dNo
 | none=>match args with
  | [a]=>if biB S c "list" x then aa5 (r.n c ex) else aw0 S r c x a
  | [a,b]=>av9 S r c x a b
  | _=>dNo
def bq2(c:Kx) (a i:Expr):DE:=match i with
 | .Slice lo hi none _ =>
  if c.old then ap0 (r.e c a) (evO (r.e c) lo) (evO (r.e c) hi)
  else if X7 c c.tx a then bL6 (r.e c a) (evO (r.e c) lo) (evO (r.e c) hi)
  else if X7 c c.own a then bL7 (r.q c a) (evO (r.e c) lo) (evO (r.e c) hi)
  else ba3 (r.e c a) (evO (r.e c) lo) (evO (r.e c) hi)
 | .Slice none none (some (.UnaryOp .USub (.Constant (.int 1) _ _) _)) _=>bp0 (r.e c a)
 | _=>if pl i then(if bB3 a then bL9 (r.e c a) (r.e c i) else if X7 c c.dx a then bM0 (r.e c a) (r.e c i) else dIx (r.q c a) (r.e c i)) else dNo
def xCn(k:Const):DE:=match k with
 | .none=>dC .none
 | .bool b=>dC (.bool b)
 | .int i=>dC (.int i)
 | .str x=>dC (.str x)
 | _=>dNo
def br0(c:Kx) (a:Expr) (op:Operator) (b:Expr):DE:=match op with
 | .Add=>if c.old && !(isList a || isList b) then A4 W2 (r.e c a) (r.e c b) else A4 T6 (r.e c a) (r.e c b)
 | .Sub=>A4 Y3 (r.e c a) (r.e c b)
 | .Mult=>if c.old then A4 Q8 (r.e c a) (r.e c b) else(match a with
  | .Subscript v _ _=>if X7 c c.tx v then A4 bv6 (r.e c a) (r.e c b) else A4 R9 (r.e c a) (r.e c b)
  | _=>A4 R9 (r.e c a) (r.e c b))
 | .FloorDiv=>A4 W0 (r.e c a) (r.e c b)
 | .Mod=>A4 T8 (r.e c a) (r.e c b)
 | .Pow=>dNo
 | _=>dNo
def xUn(c:Kx) (op:UnaryOp) (a:Expr):DE:=match op with
 | .USub=>bC6 (r.e c a)
 | .Not=>bl8 (r.e c a)
 | _=>dNo
def bq8(c:Kx) (a:Expr) (ops:List CmpOp) (bs:List Expr):DE:=match ops,bs with
 | [op],[b]=>if pl b then A4 (opW S c op b) (r.e c a) (r.e c b) else dNo
 | [op,op'],[b,d]=>if pl d then Z5 (az5 op) (az5 op') (r.e c a) (r.e c b) (r.e c d) else dNo
 | _,_=>dNo
def bq4(c:Kx) (o:Expr) (m:Str) (apos cpos:Pos) (args:List Expr):DE:=match args with
 | [a]=>if m == "join" && an0 o&&apos.endLine==cpos.line&&pl a then bp3 (r.e c o) (r.q c a) else if m == "index" && an0 o&&apos.endLine==cpos.line&&pl a then dNo else dNo
 | [a,b]=>if m == "get" && an0 o&&apos.endLine==cpos.line&&pl a&&pl b then bp5 (r.e c o) (r.e c a) (r.e c b) else dNo
 | _=>dNo
def xCl(c:Kx) (f:Expr) (args:List Expr) (kw:List Keyword) (pos:Pos):DE:=match kw with
 | []=>(match f with
  | .Name x p=>aN8 S r c x args (.Call (.Name x p) args [] pos)
  | .Attribute o m apos=>bq4 r c o m apos pos args
  | _=>dNo)
 | _=>dNo
def xDs(ks:List (Option Expr)) (vs:List Expr):DE:=match at8 ks vs with
 | some ps=>if !ps.isEmpty&&ps.length<=15 then dC (.dict (mgD (ps.map fun p=>(p.1,.int p.2)))) else dNo
 | none=>dNo
def xE(c:Kx) (ex:Expr):DE:=match ex with
 | .Constant k _ _=>xCn k
 | .Name x _=>(match g8 x c.N with
  | some i=>if aI0 c.sc x then A1 i else dNo
  | none=>(match S.cs.lookup x with
   | some d=>if aY0 c.sc x then dC d else dNo
   | none=>dNo))
 | .Tuple es _ _=>if es.length<=1000 then O7 (evA (r.e c) es) else dNo
 | .List _ _=>aa5 (r.n c ex)
 | .ListComp _ _ _ _=>aa5 (r.n c ex)
 | .BinOp a op b _=>br0 r c a op b
 | .UnaryOp op a _=>xUn r c op a
 | .Compare a ops bs _=>bq8 S r c a ops bs
 | .BoolOp op vs _=>aZ2 (r.e c) op vs
 | .IfExp t a b _=>af1 (r.t c t) (r.e c a) (r.e c b)
 | .Subscript a i _=>bq2 r c a i
 | .Call f args kw pos=>xCl S r c f args kw pos
 | .Dict ks vs _=>xDs ks vs
 | _=>dNo
def bP3(c:Kx) (f:Expr) (as:List Expr) (kw:List Keyword):Bool:=match f with
 | .Name x _=>as.length==1&&kw.isEmpty&&biB S c "list" x
 | _=>false
def xQ(c:Kx) (ex:Expr):DQ:=match ex with
 | .Name x _=>(match g8 x c.N with
  | some i=>if aI0 c.sc x then B0 i else qNo
  | none=>qE (r.e c ex))
 | .List _ _=>qN (r.n c ex)
 | .ListComp _ _ _ _=>qN (r.n c ex)
 | .Call f as kw _=>if bP3 S c f as kw then qN (r.n c ex) else qE (r.e c ex)
 | _=>qE (r.e c ex)
def xNl(c:Kx) (f:Expr) (as:List Expr) (kw:List Keyword):DA:=match f with
 | .Name x _=>(match as,kw with
  | [a],[]=>if biB S c "list" x&&pl a then(fun ρ=>(r.q c a ρ).map fun q=>q.2) else aNo
  | _,_=>aNo)
 | _=>aNo
def xN(c:Kx) (ex:Expr):DA:=match ex with
 | .List es _=>if es.length<=1000 then evA (r.e c) es else aNo
 | .ListComp _ _ _ _=>evC S r c ex
 | .Call f as kw _=>xNl S r c f as kw
 | .BinOp a op b _=>(match op with
  | .Add=>bJ5 (r.q c a) (r.q c b)
  | _=>aNo)
 | _=>aNo
def bm8(c:Kx) (a:Expr) (ops:List CmpOp) (bs:List Expr):DT:=match ops,bs with
 | [op],[b]=>if pl b then tB2 (opW S c op b) (r.e c a) (r.e c b) else tNo
 | [op,op'],[b,d]=>if pl d then aw5 (Z5 (az5 op) (az5 op') (r.e c a) (r.e c b) (r.e c d)) else tNo
 | _,_=>tNo
def bN4(c:Kx) (op:UnaryOp) (a:Expr):DT:=match op with
 | .Not=>aq2 (r.t c a)
 | _=>tNo
def xT(c:Kx) (ex:Expr):DT:=match ex with
 | .Compare a ops bs _=>bm8 S r c a ops bs
 | .BoolOp op vs _=>aZ1 (r.t c) op vs
 | .UnaryOp op a _=>bN4 r c op a
 | _=>if plT ex then aq1 (r.e c ex) else tNo
def xG(c:Kx) (ex:Expr):DG:=match ex with
 | .Name x _=>(match g8 x c.N with
  | some i=>if aV0 c x then J5 i else gNo
  | none=>gNo)
 | .Tuple es _ _=>if es.all pl then O2 es.length (bC1 (r.g c) es) else gNo
 | _=>gNo
def bI0(c:Kx) (x y:Str) (px py:Pos) (a b:Expr):Bool :=
 c.df&&pl a&&pl b && !(x==y)&&px.line==py.line&&c.sc.names.lookup x==some .local&&c.sc.names.lookup y==some .local && !(([a,b]:List Expr).all (foldedForSure 8)) && !(([a,b]:List Expr).all (constantsAlone 8))
def br1(c:Kx) (tg v:Expr) (p:Pos):DS:=match tg with
 | .Name x p'=>(match g8 x c.N with
  | none=>E9
  | some i=>if !(aV0 c x) then E9 else(match v with
   | .ListComp _ _ sc pv=>if c.sc.names.lookup x==some .local then
     (if c.df&&p'.line==pv.line && !(sc.names.any fun(n,k)=>n==x&&(k == .local || k == .cell)) then(if c.own.contains i then aP9 i (evC S r c v) else d3 i (evC S r c v)) else E9)
    else K0 i (r.e c v)
   | _=>if isC v then E9 else if c.own.contains i then aP9 i (r.n c v) else K0 i (r.e c v)))
 | .Subscript (.Name x _) (.Slice lo hi none _) _=>(match g8 x c.N with
  | none=>E9
  | some i=>if aI0 c.sc x && !(isC v) then bG9 i (evO (r.e c) lo) (evO (r.e c) hi) (r.n c v) else E9)
 | .Tuple [.Name x px,.Name y py] _ _=>(match v with
  | .Tuple [a,b] _ _=>(match g8 x c.N,g8 y c.N with
   | some i,some j=>if bI0 c x y px py a b then al8 i j (evA (r.e c) [a,b]) else E9
   | _,_=>E9)
  | .Tuple _ _ _=>E9
  | _=>aJ4 (r.e c v) (r.g c tg))
 | .Tuple es _ _=>if at2 v&&(es.length==2 || es.length==3) then E9 else aJ4 (r.e c v) (r.g c tg)
 | _=>E9
def bq3(c:Kx) (x m:Str) (e:Expr):DS:=match g8 x c.N with
 | none=>E9
 | some i=>if aI0 c.sc x&&pl e then(if m == "append" then bs8 i (r.e c e) else if m == "extend" then bs7 i (r.e c e) else E9) else E9
def xEx(c:Kx) (e:Expr):DS:=match e with
 | .Call f args kw cpos=>(match f with
  | .Attribute o m apos=>(match o with
   | .Name x _=>(match args,kw with
    | [e],[]=>if apos.endLine==cpos.line then bq3 r c x m e else E9
    | _,_=>E9)
   | _=>E9)
  | _=>E9)
 | _=>E9
def bN5(c:Kx):Option Expr->DS
 | some e=>B5 (r.e c e)
 | none=>E9
def xWh(c:Kx) (t:Expr) (a:List Stmt):List Stmt->DS
 | []=>W9 (r.t c t) (r.b c a)
 | _=>E9
def xFo(c:Kx) (tg it:Expr) (a:List Stmt):List Stmt->DS
 | []=>if pl it then bs6 (evI S r c tg it) (r.g c tg) (r.b c a) else E9
 | _=>E9
def xAs(c:Kx) (v:Expr) (p:Pos):List Expr->DS
 | [tg]=>br1 S r c tg v p
 | _=>E9
def xS0(c:Kx) (st:Stmt):DS:=match st with
 | .Return o _=>bN5 r c o
 | .If t a b _=>sIf (r.t c t) (r.b c a) (r.b c b)
 | .While t a o _=>xWh r c t a o
 | .For tg it a o _=>xFo S r c tg it a o
 | .Assign ts v p=>xAs S r c v p ts
 | .Expr e _=>xEx r c e
 | .Continue _=>bn2
 | .Break _=>fun ρ=>some (.bk ρ)
 | .Pass _=>P0
 | _=>E9
def bv9:Stmt->Nat
 | .Return _ p=>p.line
 | .If _ _ _ p=>p.line
 | .While _ _ _ p=>p.line
 | .For _ _ _ _ p=>p.line
 | .Assign _ _ p=>p.line
 | .Expr _ p=>p.line
 | _=>0
def fzW(g:DS):Option (List Nat)->DS
 | none=>g
 | some l=>l.foldl (fun g i=>bs5 i g) g
def xS(c:Kx) (st:Stmt):DS:=fzW (xS0 S r c st) (c.fz.lookup (bv9 st))
def evB(f:Stmt->DS):List Stmt->DS
 | []=>P0
 | [s]=>f s
 | s::t::N4=>B4 (f s) (evB f (t::N4))
def step:Ev:=⟨xE S r,xQ S r,xN S r,xT S r,xG r,fun c=>evB (xS S r c)⟩
end
def ev(S:Sg):Nat->Ev
 | 0=>⟨fun _ _=>dNo,fun _ _=>qNo,fun _ _=>aNo,fun _ _=>tNo,fun _ _=>gNo,fun _ _=>E9⟩
 | n+1=>step S (ev S n)
end G
namespace Sh
open PySem PySem.Spec PyProof.Rows L2 G
end Sh
namespace G
open PySem PySem.Spec PyProof.Rows L2
section
variable {X:Cx}{S:Sg}{c:Kx}
theorem F0{e:Expr}:JE X e dNo:=fun ρ d h=>by cases h
theorem bo2{e:Expr}:JQ X e qNo:=fun ρ t d h=>by cases h
theorem m7{e:Expr}:JN X e aNo:=fun ρ d h=>by cases h
theorem ai6{e:Expr}:JT X e tNo:=fun ρ d h=>by cases h
theorem bK1{e:Expr}:JW X e tNo:=fun ρ d h=>by cases h
theorem as6{e:Expr}:JG X e gNo:=by
 unfold JG PG
 intros
 rename_i h
 obtain⟨d,ρ,ρ',H0,Hf,z,_⟩:=h
 cases z
theorem bK7{es:List Expr}:JA X es aNo:=⟨fun ρ d h=>(nomatch h),fun ρ d h=>(nomatch h)⟩
theorem bx0{es:List Expr}:JTs X es tNo:=fun pins s σ H Q I ⟨ρ,b,h,_⟩=>by cases h
theorem b9(hu:X.A.units+64 < cLine):∀op:CmpOp,OpD X (compareOp op) (az5 op)
 | .Lt=>bI7 | .LtE=>bI8 | .Gt=>bJ1 | .GtE=>bJ2 | .Eq=>bJ3 hu | .NotEq=>bI6 hu | .Is=>bI9 | .IsNot=>aT8 | .In=>bJ0 hu | .NotIn=>aT7 hu
theorem aT6(hu:X.A.units+64 < cLine) (S:Sg) (c:Kx) (op:CmpOp) (b:Expr):OpD X (compareOp op) (opW S c op b):=by
 unfold opW
 split
 ·split
  ·exact bv1 hu
  ·exact aK4 hu
  ·exact b9 hu _
 ·exact b9 hu op
theorem ai7{f:Expr->DE}(h:∀e,JE X e (f e)):∀es,JA X es (evA f es)
 | []=>bA8
 | e::es=>by
  unfold evA
  split
  ·rename_i p;exact bk0 (h e) (ai7 h es) (L3 p es _)
  ·exact bK7
theorem ao2{f:Expr->DE}(h:∀e,JE X e (f e)) (op:BoolOp) (pos:Pos):∀vs,JE X (.BoolOp op vs pos) (aZ2 f op vs)
 | []=>F0
 | [a]=>bz6 (h a)
 | a::b::r=>by
  unfold aZ2
  cases op
  ·exact bA6 (h a) (ao2 h .And pos (b::r))
  ·exact bK4 (h a) (ao2 h .Or pos (b::r))
theorem ao0{f:Expr->DT}(h:∀e,JT X e (f e)) (op:BoolOp) (pos:Pos):∀vs,JW X (.BoolOp op vs pos) (aZ1 f op vs)
 | []=>bK1
 | [a]=>by cases op;exact bh7 (h a);exact bw8 (h a)
 | a::b::r=>by
  unfold aZ1
  cases op
  ·exact bw9 (h a) (ao0 h .And pos (b::r))
  ·exact bK0 (h a) (ao0 h .Or pos (b::r))
theorem d6{f:Expr->DE}(h:∀e,JE X e (f e)):∀o,JO X o (evO f o)
 | none=>bi7
 | some e=>bi6 (h e)
theorem bx1{f:Expr->DT}(h:∀e,JT X e (f e)):∀l,JTs X l (aY9 f l)
 | []=>bh9
 | [t]=>bh8 (h t)
 | _::_::_=>bx0
theorem aW3{f:Expr->DG}(h:∀e,JG X e (f e)):∀es,es.all pl=true->JGs X es (bC1 f es)
 | [],_=>bj0
 | e::es,p=>by
  simp only[List.all_cons,Bool.and_eq_true]at p
  refine aW4 (h e) (aW3 h es p.2) ?_
  have p1:=p.1
  cases e<;>first|rfl|cases p1
theorem aH3{env:Env}:∀{es:List Expr},es.all pl=true->(assignEach es env).length=es.length/\(assignEach es env).findIdx? (·.1)=none
 | [],_=>⟨rfl,rfl⟩
 | e::es,p=>by
  simp only[List.all_cons,Bool.and_eq_true]at p
  obtain⟨h1,h2⟩:=aH3 (env:=env) p.2
  have p1:=p.1
  have q:assignEach (e::es) env=(false,assign e env)::assignEach es env:=by cases e<;>first|rfl|cases p1
  rw[q]
  refine⟨by simp[h1],?_⟩
  simp[List.findIdx?_cons,h2]
structure Sound (S:Sg) (r:Ev):Prop where
 e:∀{c X},Fit S c X->∀ex,JE X ex (r.e c ex)
 q:∀{c X},Fit S c X->∀ex,JQ X ex (r.q c ex)
 n:∀{c X},Fit S c X->∀ex,JN X ex (r.n c ex)
 t:∀{c X},Fit S c X->∀ex,JT X ex (r.t c ex)
 g:∀{c X},Fit S c X->∀ex,JG X ex (r.g c ex)
 b:∀{c X},Fit S c X->∀sts,JSs X sts (r.b c sts)
theorem Fit.hx(F:Fit S c X):∀e s,X.xe e s->False:=fun e s h=>by rw[F.xe]at h;exact h
theorem Fit.po(F:Fit S c X):PassesOwn (model X.prog X.w) X.A X.env X.xe:=by rw[F.xe];exact PassesOwn.never
theorem Fit.slot(F:Fit S c X) {x:Str}{i:Nat}(h:g8 x c.N=some i):X.N[i]? = some x:=by rw[F.N];exact as7 h
theorem Fit.inner{tn:List Str}{caps:List Nat}{scope:Scope}{C:Addr}{s0:Shared}{H0:Hp}{ex:List Addr}(F:Fit S c X) (hn:(G.inner c tn caps scope).N.Nodup):Fit S (G.inner c tn caps scope) (D6 X (G.inner c tn caps scope).N scope C s0 H0 ex) :=
 ⟨rfl,by show relabel scope X.env=rl scope c.sc;rw[← F.sc];rfl,hn,F.calm,rfl,F.units,(fun h=>by cases h),F.fns,F.css,F.bls⟩
variable {r:Ev}
theorem by8(R:Sound S r) (F:Fit S c X) (tg a:Expr) {p pos:Pos}(hg:Gl X "reversed") (hm:X.mg "reversed" = none):JI X tg (.Call (.Name "reversed" p) [a] [] pos) (evR S c tg a):=by
 have no:∀e:Expr,JI X tg e fun _=>none:=fun e ρ ds q=>nomatch q
 unfold evR
 split
 ·split
  ·split
   ·split
    ·split
     ·rename_i h
      simp only[Bool.and_eq_true]at h
      obtain⟨rfl,h1,h2⟩:=L4 F h.1.1.1
      obtain⟨rfl,h3,h4⟩:=L4 F h.1.1.2
      have ht:=h.1.2
      exact no _
     ·exact no _
    ·exact no _
   ·exact no _
  ·exact no _
 ·exact no _
theorem bo3(R:Sound S r) (F:Fit S c X) (tg it:Expr):JI X tg it (evI S r c tg it):=by
 unfold evI
 split
 ·rename_i x p a pos
  split
  ·rename_i h
   obtain⟨rfl,h1,h2⟩:=L4 F h
   exact by8 R F tg a h1 h2
  ·split
   ·rename_i h
    simp only[Bool.and_eq_true]at h
    obtain⟨rfl,h1,h2⟩:=L4 F h.1
    exact aL2 h1 h2 (R.e F a) (L3 h.2 _ _)
   ·split
    ·rename_i h
     simp only[Bool.and_eq_true]at h
     obtain⟨rfl,h1,h2⟩:=L4 F h.1.1
     have ht:=h.1.2
     exact fun ρ ds q=>nomatch q
    ·exact ay2 (R.e F _)
 ·rename_i x p a b pos
  split
  ·rename_i h
   simp only[Bool.and_eq_true]at h
   obtain⟨rfl,h1,h2⟩:=L4 F h.1.1
   exact fun ρ ds q=>nomatch q
  ·split
   ·rename_i h
    simp only[Bool.and_eq_true]at h
    obtain⟨rfl,h1,h2⟩:=L4 F h.1.1.1
    have ht:=h.1.1.2
    cases tg<;>first|(exact by7 h1 h2 (R.e F a) (R.e F b) (by rw[L3 h.1.2,L3 h.2];rfl) (L3 h.2 _ _))|(exact nomatch ht)
   ·exact ay2 (R.e F _)
 ·split
  ·exact fun ρ ds q=>nomatch q
  ·exact ay2 (R.e F _)
theorem aG1(R:Sound S r) (F:Fit S c X) {elt tgt iter:Expr}{ifs:List Expr}{scope:Scope}{caps:List Nat}
  (h:(ab4 c.N (G.inner c (S2 tgt) caps scope).N (S2 tgt).length caps c.sc scope&&t7 (G.inner c (S2 tgt) caps scope).N&&pl iter)=true) :
  CompSc X (G.inner c (S2 tgt) caps scope).N (S2 tgt).length caps scope/\JI X tgt iter (evI S r c tgt iter)/\(∀C s0 H0 ex,JG (D6 X (G.inner c (S2 tgt) caps scope).N scope C s0 H0 ex) tgt (r.g (G.inner c (S2 tgt) caps scope) tgt)) /\
  (∀C s0 H0 ex,JTs (D6 X (G.inner c (S2 tgt) caps scope).N scope C s0 H0 ex) ifs (aY9 (r.t (G.inner c (S2 tgt) caps scope)) ifs))/\(∀C s0 H0 ex,JE (D6 X (G.inner c (S2 tgt) caps scope).N scope C s0 H0 ex) elt (r.e (G.inner c (S2 tgt) caps scope) elt)) /\
  ∀x,foldedSetIterable iter X.env x=pure x:=by
 simp only[Bool.and_eq_true]at h
 obtain⟨⟨h1,h2⟩,h3⟩:=h
 have hn:=t6 h2
 exact⟨aM8 h1 F.N F.sc,bo3 R F tgt iter,fun C s0 H0 ex=>R.g (F.inner hn) tgt,fun C s0 H0 ex=>bx1 (R.t (F.inner hn)) ifs,fun C s0 H0 ex=>R.e (F.inner hn) elt,aD6 h3 _⟩
theorem bK3(R:Sound S r) (F:Fit S c X) (ex:Expr):JN X ex (evC S r c ex):=by
 unfold evC
 split
 ·rename_i elt tgt iter ifs scope pos
  dsimp only
  split
  ·rename_i h
   obtain⟨h1,h2,h3,h4,h5,h6⟩:=aG1 (ifs:=ifs) (elt:=elt) R F h
   exact bi9 h1 F.hx h2 h3 h4 h5 F.calm h6
  ·exact m7
 ·exact m7
theorem aI2{x:Str}{T:String}(h:br4 x=some T):bootBuiltins x=some (.type T)/\x ≠ "__name__" /\ (x==("__debug__" : Str))=false:=by
 unfold br4 at h
 split at h
 ·rename_i e;cases h;simp only[beq_iff_eq]at e;subst e;exact⟨aA2,by decide,by decide⟩
 ·split at h
  ·rename_i e;cases h;simp only[beq_iff_eq]at e;subst e;exact⟨bm5,by decide,by decide⟩
  ·split at h
   ·rename_i e;cases h;simp only[beq_iff_eq]at e;subst e;exact⟨bD0,by decide,by decide⟩
   ·split at h
    ·rename_i e;cases h;simp only[beq_iff_eq]at e;subst e;exact⟨av1,by decide,by decide⟩
    ·split at h
     ·rename_i e;cases h;simp only[beq_iff_eq]at e;subst e;exact⟨aG8,by decide,by decide⟩
     ·cases h
theorem bf0{e:Expr}(h:pl e=true) (pos:Pos) (env:Env):(backTo pos (starEach [e] env)).any (·.1)=false:=by rw[L3 h];rfl
theorem f7(pos:Pos) (env:Env):∀{es:List Expr},es.all pl=true->(starEach es env).any (·.1)=false
 | [],_=>rfl
 | e::es,h=>by
  simp only[List.all_cons,Bool.and_eq_true]at h
  rw[L3 h.1,List.any_cons,f7 pos env h.2];rfl
end
section
variable {X:Cx}{S:Sg}{c:Kx}{r:Ev}
theorem bb9(R:Sound S r) (F:Fit S c X) (a i:Expr) (pos:Pos):JE X (.Subscript a i pos) (bq2 r c a i):=by
 unfold bq2
 split
 ·split
  ·exact aW6 (R.e F _) (d6 (R.e F) _) (d6 (R.e F) _)
  ·split
   ·exact bz3 (R.e F _) (d6 (R.e F) _) (d6 (R.e F) _)
   ·split
    ·exact bz4 (R.q F _) (d6 (R.e F) _) (d6 (R.e F) _)
    ·exact bz5 (R.e F _) (d6 (R.e F) _) (d6 (R.e F) _)
 ·exact bj3 (R.e F _) (aW7 ay3)
 ·split
  ·rename_i h
   split
   ·exact bz9 (R.e F _) (R.e F _) (aS0 h)
   ·split
    ·exact bA0 F.units (R.e F _) (R.e F _) (aS0 h)
    ·exact bo4 (R.q F _) (R.e F _) (aS0 h)
  ·exact F0
theorem aH9(R:Sound S r) (F:Fit S c X) (x:Str) (a:Expr) (p pos:Pos):JE X (.Call (.Name x p) [a] [] pos) (aw0 S r c x a):=by
 unfold aw0
 split
 ·exact F0
 rename_i hp
 have hp:pl a=true:=by simpa using hp
 have hs:=L3 hp [] X.env
 split
 ·rename_i h
  obtain⟨rfl,h1,h2⟩:=L4 F h
  split
  ·rename_i y py e ppos
   split
   ·rename_i hy
    simp only[Bool.and_eq_true]at hy
    obtain⟨rfl,g1,g2⟩:=L4 F hy.1
    exact F0
   ·exact aW8 h1 h2 (R.q F _) hs
  ·split
   ·exact F0
   ·exact aW8 h1 h2 (R.q F a) hs
 split
 ·rename_i h;obtain⟨rfl,h1,h2⟩:=L4 F h;exact bj2 h1 h2 (R.q F a) hs
 split
 ·rename_i h;obtain⟨rfl,h1,h2⟩:=L4 F h;exact bA7 h1 h2 (R.q F a) F.calm hs
 split
 ·rename_i h;obtain⟨rfl,h1,h2⟩:=L4 F h;exact bA5 h1 h2 (R.q F a) F.calm hs
 split
 ·rename_i h;obtain⟨rfl,h1,h2⟩:=L4 F h;exact bj8 F.calm h1 h2 (R.q F a) hs
 split
 ·rename_i h;obtain⟨rfl,h1,h2⟩:=L4 F h;exact aW9 h1 h2 (R.e F a) hs
 split
 ·rename_i h;obtain⟨rfl,h1,h2⟩:=L4 F h;exact F0
 split
 ·rename_i h;obtain⟨rfl,h1,h2⟩:=L4 F h;exact F0
 split
 ·rename_i h;obtain⟨rfl,h1,h2⟩:=L4 F h;exact F0
 split
 ·rename_i h;obtain⟨rfl,h1,h2⟩:=L4 F h;exact F0
 exact F0
theorem aH8(R:Sound S r) (F:Fit S c X) (x:Str) (a b:Expr) (p pos:Pos):JE X (.Call (.Name x p) [a,b] [] pos) (av9 S r c x a b):=by
 unfold av9
 split
 ·exact F0
 rename_i hp
 have hp:pl a=true:=by simpa using hp
 split
 ·rename_i h
  obtain⟨rfl,h1,h2⟩:=L4 F h
  split
  ·rename_i y py
   split
   ·rename_i T hT
    split
    ·rename_i hy
     obtain⟨_,g1,g2⟩:=L4 F hy
     obtain⟨t1,t2,t3⟩:=aI2 hT
     exact bA1 h1 h2 g1 g2 t1 (R.e F a) t2 t3 (L3 hp _ _) rfl rfl
    ·exact F0
   ·exact F0
  ·exact F0
 split
 ·exact F0
 rename_i hb
 have hb:pl b=true:=by simpa using hb
 split
 ·rename_i h;obtain⟨rfl,h1,h2⟩:=L4 F h;exact bj4 h1 h2 (R.e F a) (R.e F b) F.calm (L3 hp _ _) (L3 hb _ _) (bf0 hb pos _)
 split
 ·rename_i h;obtain⟨rfl,h1,h2⟩:=L4 F h;exact F0
 exact F0
theorem af5(pos:Pos):∀l:List (Bool×Sem Value),(backTo pos l).any (·.1)=l.any (·.1)
 | []=>rfl
 | (b,t)::r=>by
  have ih:=af5 pos r
  unfold backTo at ih ⊢
  rw[xmc,List.any_cons,List.any_cons,ih]
theorem aN7(R:Sound S r) (F:Fit S c X) (x:Str) (args:List Expr) (p pos:Pos):JE X (.Call (.Name x p) args [] pos) (aN8 S r c x args (.Call (.Name x p) args [] pos)):=by
 unfold aN8
 split
 ·rename_i Fn n hl
  split
  ·rename_i h
   simp only[Bool.and_eq_true,beq_iff_eq]at h
   obtain⟨⟨hg,hn⟩,hp⟩:=h
   obtain⟨g1,g2⟩:=ao5 F hg
   rcases F.fns _ _ _ hl with⟨k,f,fd,ps,hk,hr,hm,hkp,hb⟩|⟨hm,hb⟩
   case inr =>
    cases args with
    | nil=>cases hn;exact absurd hb.1 (Nat.lt_irrefl _)
    | cons e es =>
     simp only[List.all_cons,Bool.and_eq_true]at hp
     exact bK6 hb F.units g1 hm (ai7 (R.e F) (e::es)) hn g2 (L3 hp.1 _ _) ((af5 pos _).trans (f7 pos _ hp.2))
   cases args with
   | nil=>cases hn;exact aX1 hk hr g1 hm hkp hb g2
   | cons e es =>
    simp only[List.all_cons,Bool.and_eq_true]at hp
    exact bj9 hk hr g1 hm hkp hb (ai7 (R.e F) (e::es)) hn g2 (L3 hp.1 _ _) ((af5 pos _).trans (f7 pos _ hp.2))
  ·exact F0
 ·split
  ·split
   ·exact ae3 (R.n F _)
   ·exact aH9 R F _ _ _ _
  ·exact aH8 R F _ _ _ _ _
  ·exact F0
theorem bq7(k:Const) (u:Nat) (pos:Pos):JE X (.Constant k u pos) (xCn k):=by
 unfold xCn
 split
 ·exact bz8
 ·exact bK5
 ·exact ay3
 ·exact bz2
 ·exact F0
theorem bc3(R:Sound S r) (F:Fit S c X) (a:Expr) (op:Operator) (b:Expr) (pos:Pos):JE X (.BinOp a op b pos) (br0 r c a op b):=by
 unfold br0
 split
 ·split
  ·exact X5 aT9 (R.e F _) (R.e F _)
  ·exact X5 bg8 (R.e F _) (R.e F _)
 ·exact X5 bu7 (R.e F _) (R.e F _)
 ·split
  ·exact X5 am9 (R.e F _) (R.e F _)
  ·split
   ·split
    ·exact X5 bg7 (R.e F _) (R.e F _)
    ·exact X5 aE0 (R.e F _) (R.e F _)
   ·exact X5 aE0 (R.e F _) (R.e F _)
 ·exact X5 bv2 (R.e F _) (R.e F _)
 ·exact X5 bu9 (R.e F _) (R.e F _)
 ·exact F0
 ·exact F0
theorem bq1(R:Sound S r) (F:Fit S c X) (op:UnaryOp) (a:Expr) (pos:Pos):JE X (.UnaryOp op a pos) (xUn r c op a):=by
 unfold xUn
 split
 ·exact aW7 (R.e F _)
 ·exact bz7 (R.e F _)
 ·exact F0
theorem bc2(R:Sound S r) (F:Fit S c X) (a:Expr) (ops:List CmpOp) (bs:List Expr) (pos:Pos):JE X (.Compare a ops bs pos) (bq8 S r c a ops bs):=by
 have hu:=F.units
 unfold bq8
 split
 ·split
  ·rename_i h;exact bA4 (aT6 hu S c _ _) (R.e F _) (R.e F _) (aa9 h _)
  ·exact F0
 ·split
  ·rename_i h;exact aX0 (b9 hu _) (b9 hu _) (R.e F _) (R.e F _) (R.e F _) (aa9 h _)
  ·exact F0
 ·exact F0
theorem bc1(R:Sound S r) (F:Fit S c X) (o:Expr) (m:Str) (apos cpos:Pos) (args:List Expr):JE X (.Call (.Attribute o m apos) args [] cpos) (bq4 r c o m apos cpos args):=by
 have hu:=F.units
 unfold bq4
 split
 ·split
  ·rename_i h
   simp only[Bool.and_eq_true,beq_iff_eq]at h
   obtain⟨⟨⟨hm,hn⟩,hl⟩,hp⟩:=h
   subst hm
   have hs:=L3 hp [] X.env
   exact bj5 (R.e F _) (R.q F _) (x9 hn _ _ _) (by rw[hs];rfl) (by simpa using hl) hs
  ·split
   ·rename_i h
    simp only[Bool.and_eq_true,beq_iff_eq]at h
    obtain⟨⟨⟨hm,hn⟩,hl⟩,hp⟩:=h
    subst hm
    have hs:=L3 hp [] X.env
    exact F0
   ·exact F0
 ·rename_i a1 b1
  split
  ·rename_i h
   simp only[Bool.and_eq_true,beq_iff_eq]at h
   obtain⟨⟨⟨⟨hm,hn⟩,hl⟩,hp⟩,hq⟩:=h
   subst hm
   have hs:=L3 hp [b1] X.env
   rw[L3 hq [] X.env]at hs
   exact bj6 hu (R.e F _) (R.e F _) (R.e F _) ⟨x9 hn _ _ _,by rw[hs];rfl,by simpa using hl,by rw[hs];rfl⟩
  ·exact F0
 ·exact F0
theorem bq9(R:Sound S r) (F:Fit S c X) (f:Expr) (args:List Expr) (kw:List Keyword) (pos:Pos):JE X (.Call f args kw pos) (xCl S r c f args kw pos):=by
 unfold xCl
 split
 ·split
  ·exact aN7 R F _ _ _ _
  ·exact bc1 R F _ _ _ _ _
  ·exact F0
 ·exact F0
theorem bq6(ks:List (Option Expr)) (vs:List Expr) (pos:Pos):JE X (.Dict ks vs pos) (xDs ks vs):=by
 unfold xDs
 split
 ·rename_i ps h
  split
  ·rename_i q
   simp only[Bool.and_eq_true,decide_eq_true_eq]at q
   exact bj7 h (by intro z;rw[z]at q;exact absurd q.1 (by decide)) q.2
  ·exact F0
 ·exact F0
theorem bF3(R:Sound S r) (F:Fit S c X) (ex:Expr):JE X ex (xE S r c ex):=by
 cases ex
 case Constant=>exact bq7 _ _ _
 case Dict ks vs p=>exact bq6 ks vs p
 case Name x p =>
  unfold xE
  dsimp only
  split
  ·rename_i i h
   split
   ·rename_i v;obtain⟨h1,h2,h3⟩:=aa8 F v;exact bz0 i (F.slot h) h1 h2 h3
   ·exact F0
  ·split
   ·rename_i d hd
    split
    ·rename_i g;obtain⟨u,k1,k2⟩:=F.css _ _ hd;obtain⟨g1,g2⟩:=ao5 F g;exact bA3 k1 g1 k2 g2
    ·exact F0
   ·exact F0
 case Tuple es _ _ =>
  unfold xE
  dsimp only
  split
  ·rename_i h;exact bz1 (ai7 (R.e F) _) h
  ·exact F0
 case List=>exact ae3 (R.n F _)
 case ListComp=>exact ae3 (R.n F _)
 case BinOp=>exact bc3 R F _ _ _ _
 case UnaryOp=>exact bq1 R F _ _ _
 case Compare=>exact bc2 R F _ _ _ _
 case BoolOp=>exact ao2 (R.e F) _ _ _
 case IfExp=>exact bA2 (R.t F _) (R.e F _) (R.e F _)
 case Subscript=>exact bb9 R F _ _ _
 case Call=>exact bq9 R F _ _ _ _
 all_goals exact F0
theorem bF0(R:Sound S r) (F:Fit S c X) (ex:Expr):JQ X ex (xQ S r c ex):=by
 cases ex
 case Name x p =>
  unfold xQ
  dsimp only
  split
  ·rename_i i h
   split
   ·rename_i v;obtain⟨h1,h2,h3⟩:=aa8 F v;exact aW0 i (F.slot h) h1 h2 h3
   ·exact bo2
  ·exact aW2 (R.e F _)
 case List=>exact by4 (R.n F _)
 case ListComp=>exact by4 (R.n F _)
 case Call f as kw p =>
  unfold xQ
  dsimp only
  split
  ·exact by4 (R.n F _)
  ·exact aW2 (R.e F _)
 all_goals exact aW2 (R.e F _)
theorem bF1(R:Sound S r) (F:Fit S c X) (ex:Expr):JN X ex (xN S r c ex):=by
 cases ex
 case List es p =>
  unfold xN
  dsimp only
  split
  ·rename_i h;exact by5 (ai7 (R.e F) _) h
  ·exact m7
 case ListComp=>exact bK3 R F _
 case Call f as kw p =>
  unfold xN
  dsimp only
  unfold xNl
  split
  ·split
   ·split
    ·rename_i h
     simp only[Bool.and_eq_true]at h
     obtain⟨rfl,h1,h2⟩:=L4 F h.1
     exact bi8 h1 h2 (R.q F _) (L3 h.2 _ _)
    ·exact m7
   ·exact m7
  ·exact m7
 case BinOp a op b p =>
  cases op
  case Add=>exact by6 (R.q F _) (R.q F _)
  all_goals exact m7
 all_goals exact m7
theorem bE8(R:Sound S r) (F:Fit S c X) (ex:Expr):JT X ex (xT S r c ex):=by
 have hu:=F.units
 have oth:∀e:Expr,JT X e (if plT e then aq1 (r.e c e) else tNo):=fun e=>by
  split
  ·rename_i h;exact bx2 (R.e F _) (aS1 h _)
  ·exact ai6
 cases ex
 case Compare a ops bs p =>
  unfold xT bm8
  dsimp only
  split
  ·split
   ·rename_i h;exact bx4 (aT6 hu S c _ _) (R.e F _) (R.e F _) (aa9 h _)
   ·exact ai6
  ·split
   ·rename_i h;exact aV5 (b9 hu _) (b9 hu _) (R.e F _) (R.e F _) (R.e F _) (aa9 h _)
   ·exact ai6
  ·exact ai6
 case BoolOp=>exact aV4 (ao0 (R.t F) _ _ _)
 case UnaryOp op a p =>
  cases op
  case Not=>exact bx3 (R.t F _)
  all_goals exact ai6
 all_goals exact oth _
theorem bF2(R:Sound S r) (F:Fit S c X) (ex:Expr):JG X ex (xG r c ex):=by
 unfold xG
 split
 ·split
  ·rename_i i h
   split
   ·rename_i v;obtain⟨h1,h2⟩:=aE6 F v;exact bj1 i (by rw[F.N];exact F.nd) (F.slot h) h1 h2
   ·exact as6
  ·exact as6
 ·split
  ·rename_i h
   obtain⟨h1,h2⟩:=aH3 (env:=X.env) h
   exact by9 (aW3 (R.g F) _ h) F.calm h1 h2
  ·exact as6
 ·exact as6
theorem aE9{st:Stmt}{f:DS}(h:∀ρ,f ρ=none):JS X st f:=fun ρ fl q=>by rw[h ρ]at q;cases q
theorem bb2(F:Fit S c X) (h:c.df=true):X.env.blockKind=.function:=by
 unfold Env.blockKind
 rw[F.sc,(F.df h).2];rfl
theorem ah4(elt:Expr) (gens:List Comprehension) (sc:Scope) (pv p':Pos) (x:Str) (l:Nat) (env:Env):swapsWith (.ListComp elt gens sc pv) (some (.Name x p')) l env =
  pure (env.blockKind == .function&&env.kindOf x==some .local&&p'.line==pv.line && !(sc.names.any fun(n,k)=>n==x&&(k == .local || k == .cell))):=rfl
theorem aF0(R:Sound S r) (F:Fit S c X) {x:Str}{p' pv p:Pos}{elt:Expr}{gens:List Comprehension}{sc:Scope}{i:Nat}(hi:g8 x c.N=some i) (hl:(c.sc.names.lookup x==some .local)=true)
  (h:(c.df&&p'.line==pv.line && !(sc.names.any fun(n,k)=>n==x&&(k == .local || k == .cell)))=true) :
  JS X (.Assign [.Name x p'] (.ListComp elt gens sc pv) p) (aP9 i (evC S r c (.ListComp elt gens sc pv)))/\JS X (.Assign [.Name x p'] (.ListComp elt gens sc pv) p) (d3 i (evC S r c (.ListComp elt gens sc pv))):=by
 unfold evC
 simp only[Bool.and_eq_true]at h
 have hl':X.env.scope.names.lookup x=some .local:=by rw[F.sc];simpa using hl
 have hsw:swapsWith (.ListComp elt gens sc pv) (some (.Name x p')) p.line X.env=pure true:=by
  rw[ah4,bb2 F h.1.1,h.1.2,h.2]
  unfold Env.kindOf
  rw[hl'];rfl
 split
 ·rename_i elt tgt iter ifs scope pos he
  cases he
  dsimp only
  split
  ·rename_i hc
   obtain⟨h1,h2,h3,h4,h5,h6⟩:=aG1 (ifs:=ifs) (elt:=elt) R F hc
   exact⟨bi3 i (by rw[F.N];exact F.nd) h1 F.hx h2 h3 h4 h5 (F.slot hi) hl' hsw F.calm h6,bi5 i (by rw[F.N];exact F.nd) h1 F.hx h2 h3 h4 h5 (F.slot hi) hl' hsw F.calm h6⟩
  ·exact⟨aE9 fun ρ=>rfl,aE9 fun ρ=>rfl⟩
 ·exact⟨aE9 fun ρ=>rfl,aE9 fun ρ=>rfl⟩
theorem bc4(R:Sound S r) (F:Fit S c X) (tg v:Expr) (p:Pos):JS X (.Assign [tg] v p) (br1 S r c tg v p):=by
 have nd:X.N.Nodup:=by rw[F.N];exact F.nd
 unfold br1
 split
 ·rename_i x p'
  split
  ·exact B9
  ·rename_i i hi
   split
   ·exact B9
   ·rename_i hlo
    have hlo:aV0 c x=true:=by simpa using hlo
    obtain⟨l1,l2⟩:=aE6 F hlo
    split
    ·rename_i elt gens sc pv
     split
     ·rename_i hl
      split
      ·rename_i h
       split
       ·exact(aF0 R F hi hl h).1
       ·exact(aF0 R F hi hl h).2
      ·exact B9
     ·rename_i hl
      refine aV8 i nd (R.e F _) (F.slot hi) l1 ?_ l2
      rw[ah4]
      have:(X.env.kindOf x==some .local)=false:=by
       unfold Env.kindOf
       rw[F.sc];simpa using hl
      rw[this,Bool.and_false];rfl
    ·split
     ·exact B9
     ·rename_i hc
      have hc:isC v=false:=by simpa using hc
      split
      ·exact bx8 i nd (R.n F _) (F.slot hi) l1 (ad4 hc _ _ _) l2
      ·exact aV8 i nd (R.e F _) (F.slot hi) l1 (ad4 hc _ _ _) l2
 ·split
  ·exact B9
  ·rename_i i hi
   split
   ·rename_i h
    simp only[Bool.and_eq_true,Bool.not_eq_true']at h
    obtain⟨h1,h2,h3⟩:=aa8 F h.1
    exact bx5 i (R.n F _) (d6 (R.e F) _) (d6 (R.e F) _) (F.slot hi) h1 h2 h3 (ad4 h.2 _ _ _)
   ·exact B9
 ·rename_i x px y py kt pt
  split
  ·rename_i a b k2 p2
   split
   ·rename_i i j hi hj
    split
    ·rename_i h
     unfold bI0 at h
     simp only[Bool.and_eq_true,Bool.not_eq_true',beq_iff_eq]at h
     obtain⟨⟨⟨⟨⟨⟨⟨⟨hd,ha⟩,hb⟩,hxy⟩,hl⟩,hx⟩,hy⟩,hf⟩,hcs⟩:=h
     have hx':X.env.scope.names.lookup x=some .local:=by rw[F.sc];exact hx
     have hy':X.env.scope.names.lookup y=some .local:=by rw[F.sc];exact hy
     have hne:i≠j:=fun z=>by
      subst z
      have:=(F.slot hi).symm.trans (F.slot hj)
      cases this
      simp at hxy
     refine bx7 nd (ai7 (R.e F) [a,b]) ?_ hne (F.slot hi) (F.slot hj) hx' hy' F.calm rfl
     have kx:X.env.kindOf x=some .local:=hx'
     have ky:X.env.kindOf y=some .local:=hy'
     have st:∀e:Expr,pl e=true->(match e with | .Starred ..=>true|_=>false)=false:=fun e he=>by cases e<;>first|rfl|cases he
     have sa:=st a ha
     have sb:=st b hb
     have hyx:(y==x)=false:=by
      cases q:(y==x) with
      | false=>rfl
      | true=>simp only[beq_iff_eq]at q;subst q;simp at hxy
     simp only[swappedStores,List.length_cons,List.length_nil,List.head?_cons,xms,Option.getD_some,Expr.pos,List.filterMap_cons,List.filterMap_nil,kx,ky,bb2 F hd,hf,hcs,hl,sa,sb,List.any_cons,List.any_nil]
     simp[List.eraseDups,List.eraseDupsBy,List.eraseDupsBy.loop,hxy,hyx]
     intro z
     rcases z with z|z
     ·cases a<;>first|exact absurd (show false=true from z) Bool.false_ne_true|exact nomatch ha
     ·cases b<;>first|exact absurd (show false=true from z) Bool.false_ne_true|exact nomatch hb
    ·exact B9
   ·exact B9
  ·exact B9
  ·rename_i h1 h2
   refine aV9 (R.e F _) (R.g F _) ?_ ?_ rfl
   ·cases v<;>rfl
   ·cases v<;>first|rfl|exact(h2 _ _ _ rfl).elim
 ·rename_i es kt pt _
  split
  ·exact B9
  ·rename_i h
   refine aV9 (R.e F _) (R.g F _) ?_ ?_ rfl
   ·cases v<;>rfl
   ·cases v<;>first|rfl|skip
    rename_i vs k3 p3
    have h:(es.length==2 || es.length==3)=false:=by simpa [at2] using h
    unfold swappedStores
    simp only[h,xnf,Bool.true_or,if_true]
 ·exact B9
end
section
variable {X:Cx}{S:Sg}{c:Kx}{r:Ev}
theorem bc0(R:Sound S r) (F:Fit S c X) (x m:Str) (e:Expr) (p apos cpos pos:Pos) (hl:(apos.endLine==cpos.line)=true):JS X (.Expr (.Call (.Attribute (.Name x p) m apos) [e] [] cpos) pos) (bq3 r c x m e):=by
 unfold bq3
 split
 ·exact B9
 ·rename_i i hi
  split
  ·rename_i h
   simp only[Bool.and_eq_true]at h
   obtain⟨h1,h2,h3⟩:=aa8 F h.1
   have hs:=L3 h.2 [] X.env
   split
   ·rename_i hm
    simp only[beq_iff_eq]at hm
    subst hm
    exact by3 i (R.e F e) (F.slot hi) h1 h2 h3 rfl (by rw[hs];rfl) hl hs rfl
   ·split
    ·rename_i hm
     simp only[beq_iff_eq]at hm
     subst hm
     exact by1 i (R.e F e) (F.slot hi) h1 h2 h3 hl hs
    ·exact B9
  ·exact B9
theorem bq5(R:Sound S r) (F:Fit S c X) (e:Expr) (pos:Pos):JS X (.Expr e pos) (xEx r c e):=by
 unfold xEx
 split
 ·split
  ·split
   ·split
    ·split
     ·rename_i h;exact bc0 R F _ _ _ _ _ _ _ h
     ·exact B9
    ·exact B9
   ·exact B9
  ·exact B9
 ·exact B9
theorem aN6(R:Sound S r) (F:Fit S c X) (st:Stmt):JS X st (xS0 S r c st):=by
 cases st
 case Return o p =>
  cases o
  ·exact B9
  ·exact bx6 (R.e F _)
 case If=>exact bK2 (R.t F _) (R.b F _) (R.b F _)
 case While t a o p =>
  cases o
  ·exact aV7 (R.t F _) (R.b F _) F.po
  ·exact B9
 case For tg it a o p =>
  cases o
  ·unfold xS0 xFo
   dsimp only
   split
   ·rename_i h;exact by0 (bo3 R F _ _) (R.g F _) (R.b F _) F.po F.calm (aD6 h _)
   ·exact B9
  ·exact B9
 case Assign ts v p =>
  unfold xS0 xAs
  dsimp only
  split
  ·exact bc4 R F _ _ _
  ·exact B9
 case Expr=>exact bq5 R F _ _
 case Continue=>exact bi4
 case Break=>exact by2
 case Pass=>exact bi2
 all_goals exact B9
theorem aY3{st:Stmt}:∀(l:List Nat) {g:DS},JS X st g->JS X st (l.foldl (fun g i=>bs5 i g) g)
 | [],_,h=>h
 | i::l,_,h=>aY3 l (bx9 i h)
theorem bE9(R:Sound S r) (F:Fit S c X) (st:Stmt):JS X st (xS S r c st):=by
 unfold xS fzW
 split
 ·exact aN6 R F st
 ·exact aY3 _ (aN6 R F st)
theorem aZ0(h:∀st,JS X st (f st)):∀sts,JSs X sts (evB f sts)
 | []=>bi1
 | [s]=>bi0 (h s)
 | s::t::N4=>aV6 (h s) (aZ0 h (t::N4))
theorem bd1(R:Sound S r):Sound S (step S r) :=
 ⟨fun F=>bF3 R F,fun F=>bF0 R F,fun F=>bF1 R F,fun F=>bE8 R F,fun F=>bF2 R F,fun F=>aZ0 (bE9 R F)⟩
theorem bo7(S:Sg):∀n,Sound S (ev S n)
 | 0=>⟨fun _ _=>F0,fun _ _=>bo2,fun _ _=>m7,fun _ _=>ai6,fun _ _=>as6,fun _ _ ρ fl q=>by cases q⟩
 | n+1=>bd1 (bo7 S n)
end
structure Fd where
 x:Str
 st:Stmt
 ps:List Str
 N:List Str
 own:List Nat:=[]
 tx:List Nat:=[]
 dx:List Nat:=[]
 old:Bool:=false
 fz:List (Nat×List Nat):=[]
 hc:List ((Nat×Nat)×List Nat):=[]
def fdm(x:Str) (st:Stmt) (n:Nat) (N:List Str) (old:Bool:=false):Fd:={ x,st,ps:=N.take n,N,old }
def Fd.c(d:Fd):Kx:={ N:=d.N,sc:=K1 d.st,df:=true,own:=d.own,cpt:=[],tx:=d.tx,dx:=d.dx,old:=d.old,fz:=d.fz,hc:=d.hc }
def Fd.okB(d:Fd):Bool:=let sc:=K1 d.st
 sc.kind == .function && !sc.isCoroutine && !sc.isGenerator&&t7 d.N&&d.N.take d.ps.length==d.ps&&(d.ps.all fun x=>match sc.names.lookup x with|some .local=>true|some .cell=>true|_=>false)&&sc.names.all fun y=>match y.2 with | .free=>false|_=>true
theorem Fd.sc{d:Fd}(h:d.okB=true):FnScope d.N d.ps (K1 d.st):=by
 unfold Fd.okB at h
 simp only[Bool.and_eq_true,Bool.not_eq_true',beq_iff_eq,List.all_eq_true]at h
 obtain⟨⟨⟨⟨⟨⟨h1,h2⟩,h3⟩,h4⟩,h5⟩,h6⟩,h7⟩:=h
 refine⟨h1,h2,h3,t6 h4,h5,fun x hx=>?_,fun y hy e=>?_⟩
 ·have:=h6 x hx
  split at this
  ·rename_i q;exact .inl q
  ·rename_i q;exact .inr q
  ·cases this
 ·have:=h7 y hy
  rw[e]at this
  cases this
def KF(K:PySem.W.Frag) (x:Str) (st:Stmt):Prop:=∃(f:Addr) (oc:Value) (od:Option Addr) (sl:Array (Option Value)) (kV dc pm:Value) (an:Option Addr) (cd ct:Value),
 PySem.W.nsIn K mainGlobals x=some (some (.ref f))/\K.lookup f=some ⟨oc,od,.func (PySem.W.fnOf x x (U1 st) (O3 st) (K1 st) .none kV dc pm an cd ct),sl⟩/\PySem.W.codeIn K cd x=true/\PySem.W.keepIn K (.ref f)=true
theorem bJ9{K:PySem.W.Frag}{x:Str}{st:Stmt}{f:Addr}{oc:Value}{od:Option Addr}{sl:Array (Option Value)}{kV dc pm:Value}{an:Option Addr}{cd ct:Value}(a:PySem.W.nsIn K mainGlobals x=some (some (.ref f)))
  (l:K.lookup f=some ⟨oc,od,.func (PySem.W.fnOf x x (U1 st) (O3 st) (K1 st) .none kV dc pm an cd ct),sl⟩) (c:PySem.W.codeIn K cd x=true) (k:PySem.W.keepIn K (.ref f)=true):KF K x st:=⟨f,oc,od,sl,kV,dc,pm,an,cd,ct,a,l,c,k⟩
abbrev Tab:=List (Str×FnD×Nat)
section
variable {P:Program}{w:World}{K:PySem.W.Frag}{mg:Str->Option Value}{base:Heap}{cs:List (Str×D)}{bl:List Str}
structure Md (K:PySem.W.Frag) (mg:Str->Option Value) (cs:List (Str×D)) (bl:List Str):Prop where
 ns:∀x v,PySem.W.nsIn K mainGlobals x=some (some v)->mg x=some v
 css:∀x d,cs.lookup x=some d->∃u,aB0 K d u/\mg x=some u
 bls:∀x,bl.contains x=true->mg x=none
def TOk(P:Program) (w:World) (K:PySem.W.Frag) (mg:Str->Option Value) (base:Heap) (k:Nat) (tab:Tab):Prop:=∀x F n,tab.lookup x=some (F,n)->(∃(f:Addr) (fd:FuncData) (ps:List Str),
 FnOk P w K mg base CX0 k f fd ps (spF K n F)/\mg x=some (.ref f)/\PySem.W.keepIn K (.ref f)=true/\d8 K fd ps [])\/(mg x=none/\bE5 x F n)
theorem TOk.nil:TOk P w K mg base 0 []:=fun x F n h=>by cases h
theorem TOk.mono(T:TOk P w K mg base j tab) (h:j<=k):TOk P w K mg base k tab:=fun x F n e =>(T x F n e).imp (fun⟨f,fd,ps,h1,h2,h3,h4⟩=>⟨f,fd,ps,h1.mono h,h2,h3,h4⟩) id
def UA:Nat->(List Value->Prop)->Prop
 | 0,P=>P []
 | n+1,P=>∀a,UA n fun us=>P (a::us)
theorem ua:∀{n:Nat}{P:List Value->Prop},UA n P->∀us:List Value,us.length=n->P us
 | 0,_,h,[],_=>h
 | _+1,P,h,a::us,e=>ua (P:=fun us=>P (a::us)) (h a) us (Nat.succ.inj e)
def Bd(d:Fd):Prop:=∀(kV doc pm:Value) (an:Option Addr) (cdv ct:Value),UA d.ps.length fun us=>bindArgs (PySem.W.fnOf d.x d.x (U1 d.st) (O3 d.st) (K1 d.st) .none kV doc pm an cdv ct) ⟨us,[]⟩=pure (d.ps.zip us)
def rd(tab:Tab) (cs:List (Str×D)) (bl:List Str) (d:Fd):FnD:=N0 ((ev ⟨tab,cs,bl⟩ 99).b d.c (O3 d.st)) d.N.length
theorem bo6(M:Md K mg cs bl) (T:TOk P w K mg base k tab) (ok:d.okB=true) (Fn:Fun K d.x d.x d.st f fd):FnOk P w K mg base CX0 (k+1) f fd d.ps (spF K d.ps.length (rd tab cs bl d)):=by
 have Sc:=Fd.sc ok
 refine aF4 (N:=d.N) Fn Sc fun cdv A outer s H E hr=>(bo7 ⟨tab,cs,bl⟩ 99).b (c:=d.c) ?_ _
 refine⟨rfl,rfl,Sc.nd,rfl,rfl,hr.units,fun _=>⟨fun _=>rfl,Sc.kind⟩,fun x F n h=>?_,M.css,M.bls⟩
 exact(T x F n h).imp (fun⟨f',fd',ps,h1,h2,h3,h4⟩=>⟨k,f',fd',ps,h1,hr,h2,h3,h4⟩) id
theorem ay1{x:Str}{st:Stmt}(h:KF K x st) (M:Md K mg cs bl):∃(f:Addr) (kV dc pm:Value) (an:Option Addr) (cd ct:Value),Fun K x x st f (PySem.W.fnOf x x (U1 st) (O3 st) (K1 st) .none kV dc pm an cd ct)/\mg x=some (.ref f):=by
 obtain⟨f,oc,od,sl,kV,dc,pm,an,cd,ct,a,l,cc,kk⟩:=h
 exact⟨f,kV,dc,pm,an,cd,ct,bB7 l cc kk,M.ns _ _ a⟩
theorem TOk.cons{k:Nat}{tab:Tab}{x:Str}{F:FnD}{n:Nat}(T:TOk P w K mg base k tab) (h:∃(f:Addr) (fd:FuncData) (ps:List Str),FnOk P w K mg base CX0 k f fd ps (spF K n F)/\mg x=some (.ref f)/\PySem.W.keepIn K (.ref f)=true/\d8 K fd ps []) :
  TOk P w K mg base k ((x,F,n)::tab):=fun y G m e=>by
 rw[List.lookup_cons]at e
 split at e
 ·rename_i q
  cases e
  simp only[beq_iff_eq]at q
  subst q
  exact .inl h
 ·exact T y G m e
theorem TOk.add(T:TOk P w K mg base k tab) (M:Md K mg cs bl) (d:Fd) (h:KF K d.x d.st) (F:FnD) (e:rd tab cs bl d=F:=by kernel_rfl) (ok:d.okB=true:=by kernel_rfl) (bd:Bd d:=by repeat (first|exact rfl|intro _)):TOk P w K mg base (k+1) ((d.x,F,d.ps.length)::tab):=by
 subst e
 obtain⟨f,kV,dc,pm,an,cd,ct,Fn,hm⟩:=ay1 h M
 exact(T.mono (Nat.le_succ k)).cons ⟨f,_,d.ps,bo6 M T ok Fn,hm,Fn.kp,.all (ua (bd kV dc pm an cd ct))⟩
theorem bh3(M:Md K mg cs bl) (T:∀base:Heap,TOk P w K mg base k tab) (d:Fd) (h:KF K d.x d.st) (e:rd tab cs bl d=F) (hm:mg d.x=some (.ref fa)) (hp:d.ps=[x]:=by rfl) (ok:d.okB=true:=by kernel_rfl) (bd:Bd d:=by repeat (first|exact rfl|intro _)) :
  ∃fd:FuncData,(∀(s:Shared) (u:Value),BindsTo s fd ⟨[u],[]⟩ [(x,u)])/\∀base:Heap,FnOk P w K mg base CX0 (k+1) fa fd [x] (spF K 1 F):=by
 subst e
 obtain⟨f,kV,dc,pm,an,cd,ct,Fn,hm'⟩:=ay1 h M
 cases hm.symm.trans hm'
 refine⟨PySem.W.fnOf d.x d.x (U1 d.st) (O3 d.st) (K1 d.st) .none kV dc pm an cd ct,fun s u=>.of_eq ?_,fun base=>?_⟩
 ·have:=ua (bd kV dc pm an cd ct) [u] (by rw[hp];rfl)
  rw[hp]at this
  exact this
 ·have:=bo6 M (T base) ok Fn
  rw[hp]at this
  exact this
end
abbrev bQ0:=List (Str×(Str->Option D))
abbrev bQ2:=List (Str×(List D->Option Str)×Nat)
structure Rg where
 rf:bQ2
 cl:List Str
 tb:List (Str×List (Str×Bool))
 sb:List (Str×List Str)
 nb:List (Str×List Str)
 xf:bQ0
section
variable (S:Sg) (T:Rg)
end
section
variable {S:Sg}{T:Rg}{c:Kx}{X:Cx}
end
section
variable {P:Program}{w:World}{K:PySem.W.Frag}{mg:Str->Option Value}{base:Heap}{cs:List (Str×D)}{bl:List Str}
end
section
variable {P:Program}{w:World}{K:PySem.W.Frag}{mg:Str->Option Value}{base:Heap}{cs:List (Str×D)}{bl:List Str}
end
end G
namespace Sh
open PySem PySem.Spec PyProof.Rows L2 G
end Sh
namespace G
open PySem PySem.Spec PySem.W PyProof.Rows L2 PySem.SeqAt
theorem aw6{prog:Program}{w:World}{A:Around}{E:Value->Shared->Prop}{s:Shared}{l:Addr}{Q:Value->Shared->Prop}
  (hcol:∀{E:Value->Shared->Prop}{R:List Value->Shared->Prop},(∀(vs out:List Value) (s1:Shared),vs.length < 64->(vs.length < 2->out=vs) ->
   (2<=vs.length->∀h':Heap,(∀b o,s1.heap.get? b=some o->h'.get? b=some o)->wpAny (model prog w) A.in1.in1 (keyKind' vs.toArray) (fun κ s'=>(kas_sort vs.length).kasWp (kas_ask prog w A.in1.in1 κ vs) (fun p s''=>s''={ s1 with heap:=h' }/\(p.toList.map fun i=>vs.getD i Value.none)=out) s') (fun _ _=>False) { s1 with heap:=h' }) ->
   (∀h' c,(∀b o,s1.heap.get? b=some o->h'.get? b=some o)->h'.get? s1.heap.objs.size=some (seqObj "list" out.toArray c)->Q (.ref s1.heap.objs.size) { s1 with heap:=h' })->R vs s1)->wpAny (model prog w) A.in1 (collect (.ref l)) R E s) :
  wpAny (model prog w) A (call (.builtin "sorted") [.ref l]) Q E s:=by
 refine Calls.call_function_entry kind_sorted plain_sorted entry_sorted (args_sorted1 _) ?_
 unfold Builtin.«sorted»
 refine wpAny_bind (m:=checkCount "sorted" 1 1 _) (wpAny_pure ?_)
 refine wpAny_bind (hcol fun vs out s1 h64 h1 hk h=>?_)
 refine wpAny_bind (wpAny_newList ?_ (by rw[sizeLine_eq];omega))
 have hoL:(s1.heap.push (seqObj "list" vs.toArray 0)).get? s1.heap.objs.size=some (seqObj "list" vs.toArray 0):=Heap.get?_push_size _ rfl
 have keep:∀b o,s1.heap.get? b=some o->(s1.heap.push (seqObj "list" vs.toArray 0)).get? b=some o:=fun b o q=>Heap.get?_push_of_some _ q
 show wpAny _ _ _ _ _ { s1 with heap:=s1.heap.push (seqObj "list" vs.toArray 0) }
 generalize s1.heap.push (seqObj "list" vs.toArray 0)=h3 at hoL keep
 have ne:∀b o,s1.heap.get? b=some o->b≠s1.heap.objs.size:=fun b o q=>Nat.ne_of_lt (Heap.lt_size q)
 refine wpAny_bind (wpAny_holding (wpAny_call_entry slot_list_sort ⟨_,hoL,rfl⟩ entry_list_sort ?body (args_list_sort _)))
 case body =>refine aU9 (s:={ s1 with heap:=h3 }) (out:=out) hoL h64 h1 (fun h2 h' kp=>hk h2 h' fun b o q=>kp b o (ne b o q) (keep b o q)) fun h' c kp e=>⟨_,rfl,wpAny_pure ⟨_,rfl,h h' c (fun b o q=>kp b o (ne b o q) (keep b o q)) e⟩⟩
section
variable {X:Cx}{pins:List (Addr×Obj)}{σ:L2.St}{H Hf:Hp}{s:Shared}
theorem aP5{Q:VK}{ds out:List D}{vs:List V}{its:List Value}(hu:X.A.units+64 < cLine) (I:Inv X pins σ H s) (ss:C0 Hf H) (rs:Reps X.K Hf ds vs) (r':B6 vs its) (e3:al5 ds=some out)
  (k:∀v H' Hf',Grow H Hf H' Hf'->Rep X.K Hf' (.list out) v->Q v H'):∃outv:List Value,its.length < 64/\(its.length < 2->outv=its) /\
   (2<=its.length->∀h':Heap,(∀b o,s.heap.get? b=some o->h'.get? b=some o)->wpAny (model X.prog X.w) X.A.in1.in1 (keyKind' its.toArray) (fun κ s'=>(kas_sort its.length).kasWp (kas_ask X.prog X.w X.A.in1.in1 κ its) (fun p s''=>s''={ s with heap:=h' }/\(p.toList.map fun i=>its.getD i Value.none)=outv) s') (fun _ _=>False) { s with heap:=h' }) /\
   ∀h' c,(∀b o,s.heap.get? b=some o->h'.get? b=some o)->h'.get? s.heap.objs.size=some (seqObj "list" outv.toArray c)->EP X pins σ Q (.ref s.heap.objs.size) { s with heap:=h' }:=by
 have n1:=rs.length
 have n2:=r'.length
 have fin:∀(p:List Nat),(∀i∈p,i < ds.length)->p.length < 64->(p.map fun i=>ds.getD i .none)=out->∀(h':Heap) (c:Nat),(∀b o,s.heap.get? b=some o->h'.get? b=some o)->h'.get? s.heap.objs.size=some (seqObj "list" (p.map fun i=>its.getD i Value.none).toArray c) ->
   EP X pins σ Q (.ref s.heap.objs.size) { s with heap:=h' }:=fun p hp hz ho h' c kp eo=>by
  have fr:=I.hok.fresh (Nat.le_refl s.heap.objs.size)
  refine⟨.ref s.heap.objs.size,_,I.laid (t':=s.toks) kp (Nat.le_refl _) (show M8 X.prog X.w _ h' _ (.lst (p.map fun i=>vs.getD i .non)) from⟨by rw[List.length_map,sizeLine_eq];omega,_,c,B6.pick r' (fun i hi=>by rw[n1];exact hp i hi),eo⟩),rfl,k _ _ _ (Grow.laid ss fr) ?_⟩
  refine⟨_,_,rfl,SqL.of A6,?_⟩
  rw[← ho]
  exact(rs.pick hp).mono (B8 (ss.free fr))
 obtain⟨as,rd⟩:=Reps.reads I (rs.mono ss) r'
 have lz:its.length=ds.length:=by omega
 unfold al5 at e3
 split at e3
 ·rename_i h2
  cases e3
  have idp:∀{α:Type}(z:α) (l:List α),(List.range l.length).map (fun i=>l.getD i z)=l:=fun z l=>by
   apply List.ext_getElem
   ·simp
   ·intro i i1 i2;simp[i2]
  refine⟨its,by omega,fun _=>rfl,fun h3=>absurd h3 (by omega),fun h' c kp eo=>?_⟩
  refine fin (List.range ds.length) (fun i hi=>by simpa using hi) (by rw[List.length_range];omega) (idp _ _) h' c kp ?_
  rw[← lz,idp];exact eo
 ·split at e3
  ·rename_i h2 h3
   cases e3
   obtain⟨h64,hall,hlt⟩:=h3
   have pin:=aC2 (n:=ds.length) (by omega)
   have lo:=aA4 (ltN ds) pin
   refine⟨(evT (ltN ds) (kas_sort ds.length)).toList.map fun i=>its.getD i Value.none,by omega,fun h3=>absurd h3 (by omega),fun _ h' kp=>?_,fun h' c kp eo=>fin _ (fun i hi=>lo.2 i (by simpa using hi)) (by rw[Array.length_toList,lo.1];exact h64) rfl h' c kp eo⟩
   have rd':ReadsAll h' its ds as:=ReadsAll.keeps kp rd
   obtain⟨fs,t1,t2,t3⟩:=aB2 (M:=model X.prog X.w) rd' hall
   refine kat_kind (s:={ s with heap:=h' }) t1 (by omega) t3 (by rfl) ?_
   have hb:(Value.type "tuple" != Value.type "tuple")=false:=by rfl
   rw[hb,lz]
   refine aH2 (P:=LoP ds.length) (lt:=ltN ds) (fun i j C hi hj hC=>?_) pin fun _=>⟨rfl,rfl⟩
   unfold kas_ask
   have hat:∀m,m < ds.length->∃(a:Addr) (o:Obj) (ws:Array Value) (n:Nat) (ys:List D) (bs:List Addr),its.getD m Value.none=.ref a/\h'.get? a=some o/\o.data=.seq ws n/\ReadsAll h' ws.toList ys bs/\ds.getD m (ds.headD .none)=.tuple ys/\PyData.canLayAll0 ys=true/\PyData.depthAll ys<=60:=fun m hm=>by
    obtain⟨bs,r1⟩:=ReadsAll.at rd' m (by omega)
    have hmem:=List.all_eq_true.mp hall _ (List.getElem_mem hm)
    simp only[Bool.and_eq_true,decide_eq_true_eq]at hmem
    obtain⟨q1,q2,q3⟩:=hmem
    have ed:ds.getD m .none=ds[m]:=by simp[hm]
    have ed':ds.getD m (ds.headD .none)=ds[m]:=by simp[hm]
    have ei:its.getD m Value.none=its[m]'(by omega):=by simp[show m < its.length by omega]
    rw[ed]at r1
    rw[ei,ed']
    generalize ds[m]=dm at q1 q2 q3 r1
    generalize its[m]'(by omega)=vm at r1
    unfold tt at q1
    split at q1
    ·cases r1 with
     | tuple k1 k2 k3 k4=>exact⟨_,_,_,_,_,_,rfl,k1,k3,k4,rfl,by simpa [PyData.canLay0] using q2,by simp only[PyData.depth]at q3;omega⟩
    ·cases q1
   obtain⟨a1,o1,ws1,m1,ys1,bs1,i1,i2,i3,i4,i5,i6,i7⟩:=hat i hi
   obtain⟨a2,o2,ws2,m2,ys2,bs2,j1,j2,j3,j4,j5,j6,j7⟩:=hat j hj
   rw[i1,j1]
   have z1:=ReadsAll.len i4
   have z2:=ReadsAll.len j4
   have hs:(ltDs ys1 ys2).isSome=true:=by
    have q1:=List.all_eq_true.mp hlt _ (List.getElem_mem hi)
    have q2:=List.all_eq_true.mp q1 _ (List.getElem_mem hj)
    have e1:ds[i]=.tuple ys1:=by rw[← i5];simp[hi]
    have e2:ds[j]=.tuple ys2:=by rw[← j5];simp[hj]
    rw[e1,e2,ltD]at q2
    exact q2
   obtain⟨c,hc'⟩:=Option.isSome_iff_exists.mp hs
   have hC':C c { s with heap:=h' }:=by
    have:ltN ds i j=c:=by unfold ltN;rw[i5,j5,ltD,hc'];rfl
    rw[← this];exact hC
   refine kat_lt (s:={ s with heap:=h' }) i2 i3 j2 j3 ?_
   exact as5 (m:=60) (by show X.A.units+1+1+60 < _;omega) ys1 ys2 _ _ _ _ 0 c i4 j4 i6 j6 i7 hc' (by
    have w1:ws1.size=ys1.length:=by simpa using z1
    have w2:ws2.size=ys2.length:=by simpa using z2
    rw[w1,w2]) hC'
  ·cases e3
def prs:List D->List (Addr×Int)->List D
 | k::ks,p::ws=>.tuple [k,.int p.2]::prs ks ws
 | _,_=>[]
theorem ah1:∀Ts:List Addr,B6 (Ts.map V.ref) (Ts.map Value.ref)
 | []=>.nil
 | _::Ts=>.cons rfl (ah1 Ts)
theorem aq8{K:PySem.W.Frag}{Hf:Hp}:∀{ks:List D}{ws:List (Addr×Int)}{Ts:List Addr},Reps K Hf ks (ws.map fun p=>V.ref p.1)->TsI Hf ws Ts ws.length->Reps K Hf (prs ks ws) (Ts.map V.ref)
 | [],_,Ts,h,t=>by
  have e:=h.length
  rw[List.length_map]at e
  cases List.length_eq_zero_iff.mp (e.trans rfl)
  cases List.length_eq_zero_iff.mp t.1
  rfl
 | k::ks,[],_,h,t=>by obtain⟨_,_,e,_⟩:=h;cases e
 | k::ks,p::ws,[],h,t=>by cases t.1
 | k::ks,p::ws,T::Ts,⟨v,r,e,h1,h2⟩,t=>by
  rw[xmc]at e
  cases e
  obtain⟨q,e1,e2⟩:=t.2 0 T rfl
  cases e1
  refine⟨_,_,rfl,⟨T,_,rfl,SqT.of e2,_,_,rfl,h1,_,_,rfl,rfl,rfl⟩,aq8 h2 ⟨by have:=t.1;simpa using this,fun j U hj=>?_⟩⟩
  exact t.2 (j+1) U (by simpa using hj)
theorem aJ0{Q:VK}{ws:List (Addr×Int)}{es:Array DictEntry}{ep:Nat}{od:Obj}{d r:Addr}{ks out:List D}(hu:X.A.units+64 < cLine) (hc:X.A.handled=none) (hz:ws.length<=1000) (pr:Ent ws es.toList) (hd:od.data=.dict es ep) (I:Inv X pins σ H s) (ss:C0 Hf H) (hv:s.heap.IsItemsView r d) (ho:s.heap.get? d=some od)
  (rk:Reps X.K Hf ks (ws.map fun p=>V.ref p.1)) (e3:al5 (prs ks ws)=some out) (k:∀v H' Hf',Grow H Hf H' Hf'->Rep X.K Hf' (.list out) v->Q v H') :
  wpAny (model X.prog X.w) X.A (call (.builtin "sorted") [.ref r]) (EP X pins σ Q) X.xe s:=by
 refine aw6 fun{E R} hR=>ag7 (A:=X.A.in1) hc hz pr hd I ss hv ho fun s' H' Hf' Ts I' g t=>?_
 obtain⟨outv,a1,a2,a3,a4⟩:=aP5 hu I' g.sub (aq8 (rk.mono g.ext) t) (ah1 Ts) e3 fun v H2 Hf2 g2 r2=>k v H2 Hf2 (g.trans g2) r2
 exact hR _ outv s' a1 a2 a3 a4
end
abbrev Sp:=List (List Int)
abbrev Cn:=List (Sp×Addr×Int)
abbrev CnR:Cn->List (Sp×Addr×Value)->Prop:=Paired fun p q=>p.1=q.1/\p.2.1=q.2.1/\∃t,q.2.2=.int p.2.2 t
def dSφ (P:Program) (w:World) (a:Addr) (xs:Cn) (h:Heap):Prop:=(a==sysModules)=false/\∃ys o es ep,CnR xs ys/\h.get? a=some o/\o.ExactDict/\o.data=.dict es ep/\es.toList=ys.map (entryOfKey (k2 P w))/\(ys.map (·.1)).Nodup
def dS(P:Program) (w:World) (a:Addr) (xs:Cn):HO:=.ext (dSφ P w a xs)
def vw(a d:Addr):HO:=.ext fun h=>h.IsItemsView a d
theorem bo9{P:Program}{w:World}{H:Hp}{h:Heap}{a:Addr}{xs:Cn}(p:dSφ P w a xs h):M8 P w H h a (dS P w a xs) :=
 ⟨p,let⟨_,_,o,_,_,_,e,_⟩:=p;⟨o,e⟩,fun h1 h2 ⟨z,ys,o,es,ep,r,e,c⟩ k=>⟨z,ys,o,es,ep,r,k _ e,c⟩⟩
theorem bF4{P:Program}{w:World}{H:Hp}{h:Heap}{a d:Addr}(p:h.IsItemsView a d):M8 P w H h a (vw a d) :=
 ⟨p,let⟨o,e,_⟩:=p;⟨o,e⟩,fun h1 h2 ⟨o,e,c⟩ k=>⟨o,k _ e,c⟩⟩
def atX(xs:Cn) (k:Sp):Option Int:=(xs.find? fun p=>decide (p.1=k)).map (·.2.2)
def ad0(xs:Cn) (k:Sp) (b:Addr) (n:Int):Cn:=if(atX xs k).isSome then xs.map fun p=>if p.1=k then(p.1,p.2.1,n) else p else xs++[(k,b,n)]
theorem CnR.at{k:Sp}:∀{xs:Cn}{ys:List (Sp×Addr×Value)},CnR xs ys->(atX xs k=none/\atKey ys k=none)\/∃n b t,atX xs k=some n/\atKey ys k=some (b,.int n t)
 | _,_,.nil=>.inl ⟨rfl,rfl⟩
 | p::xs,q::ys,.cons ⟨e1,e2,t,e3⟩ r=>by
  by_cases h:p.1=k
  ·exact .inr ⟨p.2.2,q.2.1,t,by simp[atX,h],by simp[atKey,← e1,h,← e3]⟩
  ·have h':¬q.1=k:=by rw[← e1];exact h
   rcases CnR.at (k:=k) r with⟨a,b⟩|⟨n,b,t,a,c⟩
   ·exact .inl ⟨by simpa [atX,h] using a,by simpa [atKey,h'] using b⟩
   ·exact .inr ⟨n,b,t,by simpa [atX,h] using a,by simpa [atKey,h'] using c⟩
theorem CnR.map{k:Sp}{n:Int}{t:Tok}:∀{xs:Cn}{ys:List (Sp×Addr×Value)},CnR xs ys->CnR (xs.map fun p=>if p.1=k then(p.1,p.2.1,n) else p) (ys.map (putAt k (.int n t)))
 | _,_,.nil=>.nil
 | p::xs,q::ys,.cons ⟨e1,e2,u,e3⟩ r=>by
  refine .cons ?_ (CnR.map r)
  unfold putAt
  dsimp only
  by_cases h:p.1=k
  ·rw[if_pos h,if_pos (e1 ▸ h)];exact⟨e1,e2,t,rfl⟩
  ·rw[if_neg h,if_neg (e1 ▸ h)];exact⟨e1,e2,u,e3⟩
theorem CnR.put{k:Sp}{n:Int}{t:Tok}{b:Addr}(r:CnR xs ys):CnR (ad0 xs k b n) (storedH ys k b (.int n t)):=by
 unfold ad0 storedH
 rcases CnR.at (k:=k) r with⟨a,c⟩|⟨m,b',u,a,c⟩
 ·rw[a,c];exact Paired.snoc r ⟨rfl,rfl,t,rfl⟩
 ·rw[a,c];exact CnR.map r
theorem aQ9:(ad0 xs k b n).length<=xs.length+1:=by
 unfold ad0
 split<;>simp
theorem aQ8{p:Sp×Addr×Int}(h:p∈ad0 xs k b n):(∃q∈xs,p.1=q.1/\p.2.1=q.2.1)\/(p.1=k/\p.2.1=b):=by
 unfold ad0 at h
 split at h
 ·obtain⟨q,hq,rfl⟩:=List.mem_map.mp h
  refine .inl ⟨q,hq,?_⟩
  split<;>exact⟨rfl,rfl⟩
 ·rcases List.mem_append.mp h with h|h
  ·exact .inl ⟨p,h,rfl,rfl⟩
  ·cases List.mem_singleton.mp h;exact .inr ⟨rfl,rfl⟩
section
variable {X:Cx}{pins:List (Addr×Obj)}{σ:L2.St}{H Hf:Hp}{s:Shared}
abbrev Kys(K:PySem.W.Frag) (Hf:Hp) (xs:Cn):Prop:=∀p∈xs,Rep K Hf (e2 p.1) (.ref p.2.1)
theorem bw7(I:Inv X pins σ H s) (h:Rep X.K H (e2 k) (.ref b)):(k2 X.prog X.w).is s.heap k b:=Rep.reads I h rfl
theorem au5(I:Inv X pins σ H s) (h:H a=some (dS X.prog X.w a xs)) (ks:Kys X.K H xs):(a==sysModules)=false/\∃ys,CnR xs ys/\s.heap.DictOfH (k2 X.prog X.w) a ys:=by
 obtain⟨⟨z,ys,o,es,ep,r,e,c,d,f,n⟩,_⟩:=(show M8 X.prog X.w H s.heap a (dS X.prog X.w a xs) from I.hok a _ h)
 refine⟨z,ys,r,o,es,ep,e,c,d,f,fun q hq=>?_,n⟩
 have:∀{xs:Cn}{ys:List (Sp×Addr×Value)},CnR xs ys->Kys X.K H xs->∀q∈ys,(k2 X.prog X.w).is s.heap q.1 q.2.1:=by
  intro xs ys r
  induction r with
  | nil=>exact fun _ _ hq=>nomatch hq
  | cons h t ih =>
   intro ks q hq
   rcases List.mem_cons.mp hq with rfl|hq
   ·rw[← h.1,← h.2.1];exact bw7 I (ks _ (.head _))
   ·exact ih (fun p hp=>ks p (.tail _ hp)) q hq
 exact this r ks q hq
theorem bH8:PE X (.Dict [] [] pos) (fun σ H Q=>∀l,H l=none->Q (.ref l) (upd H l (dS X.prog X.w l []))):=fun pins s σ H Q I h =>
 wpAny_Dict_empty ⟨.ref s.heap.objs.size,_,I.laid (a:=s.heap.objs.size) (o:=dS X.prog X.w s.heap.objs.size []) (t':=s.toks) (fun _ _ q=>Heap.get?_push_of_some _ q) (Nat.le_refl _)
  (bo9 ⟨beq_eq_false_iff_ne.mpr (Ne.symm (Nat.ne_of_lt I.big)),[],_,#[],0,.nil,Heap.get?_push_size _ rfl,⟨rfl,rfl,rfl⟩,rfl,rfl,List.nodup_nil⟩),rfl,h _ (I.hok.fresh (Nat.le_refl _))⟩
def bG4(X:Cx) (i j:Nat):L2.St->Hp->(Addr->Addr->Sp->Cn->Prop)->Prop:=fun σ H Q=>∃l b k xs Hf,σ[i]? = some (some (.ref l))/\σ[j]? = some (some (.ref b))/\H l=some (dS X.prog X.w l xs)/\C0 Hf H/\Rep X.K Hf (e2 k) (.ref b)/\Kys X.K Hf xs/\xs.length < 1000/\Q l b k xs
theorem aT0{o e:Expr}(hu:X.A.units+64 < cLine) (ho:PE X o (al0 i)) (he:PE X e (al0 j)) (m:M2 X o "get" apos e (.Constant (.int n0) c0 p0) cpos) :
  PE X (.Call (.Attribute o "get" apos) [e,.Constant (.int n0) c0 p0] [] cpos) (fun σ H Q=>bG4 X i j σ H fun l b k xs=>Q (.int ((atX xs k).getD n0)) H):=by
 intro pins s σ H Q I ⟨l,b,k,xs,Hf,e1,e2,e3,ss,rk,ks,hz,q⟩
 obtain⟨z,ys,r,dd⟩:=au5 I e3 fun p hp=>(ks p hp).mono ss
 refine wpAny_Call_method m.base m.few m.line PySem.F.plainAttrs_dict PySem.F.slot_dict_get PySem.F.type_dict_get (thn (ho pins s σ H (fun v H'=>v=.ref l/\H'=H) I ⟨_,e1,rfl,rfl⟩) fun u s1 ⟨x,H1,I1,rx,h1,h2⟩=>?_)
 subst h1 h2
 cases rx
 obtain⟨z1,ys1,r1,dd1⟩:=au5 I1 e3 fun p hp=>(ks p hp).mono ss
 obtain⟨od,es,ep,o1,o2,_⟩:=id dd1
 refine⟨⟨od,o1,o2.1⟩,fun a e=>by cases e;exact⟨od,o1,o2.2.1⟩,?_⟩
 rw[m.trees]
 refine Calls.callWith_builtin rfl (Calls.evalArgs_plain (Calls.spliced_cons (thn (he pins s1 σ H1 (fun v H'=>v=.ref b/\H'=H1) I1 ⟨_,e2,rfl,rfl⟩) fun iv s2 ⟨y,H2,I2,ry,h3,h4⟩ =>Calls.spliced_cons (thn (am6 pins s2 σ H2 (fun v H'=>v=.int n0/\H'=H2) I2 ⟨rfl,rfl⟩) fun fv s3 ⟨c,H3,I3,rz,h5,h6⟩=>Calls.spliced_nil ?_))))
 subst h3 h4 h5 h6
 cases ry
 obtain⟨t,rfl⟩:=rz
 obtain⟨z3,ys3,r3,dd3⟩:=au5 I3 e3 fun p hp=>(ks p hp).mono ss
 refine call_meetsIn PySem.F.slot_dict_get dd3.typeIs PySem.F.entry_dict_get (PySem.F.args_dict_get_3 _ _ _) (meetsH_dict_get_default (k2 X.prog X.w) l b z3 (.int n0 t)) ⟨by show X.A.units+1+9 < _;omega,k,ys3,bw7 I3 (rk.mono ss),dd3,_,H3,I3.tok _,?_,q⟩
 rcases CnR.at (k:=k) r3 with⟨a,c⟩|⟨n,b',u,a,c⟩
 ·rw[a,c];exact⟨t,rfl⟩
 ·rw[a,c];exact⟨u,rfl⟩
def bH0(X:Cx) (i j:Nat) (n0 n1:Int):TS:=fun D σ H=>bG4 X i j σ H fun l b k xs=>D.nx σ (upd H l (dS X.prog X.w l (ad0 xs k b ((atX xs k).getD n0+n1))))
theorem bt5{o e o' e':Expr}(hu:X.A.units+64 < cLine) (ho:PE X o (al0 i)) (he:PE X e (al0 j)) (ho':PE X o' (al0 i)) (he':PE X e' (al0 j)) (m:M2 X o "get" apos e (.Constant (.int n0) c0 p0) cpos)
  (hs:swapsWith (.BinOp (.Call (.Attribute o "get" apos) [e,.Constant (.int n0) c0 p0] [] cpos) .Add (.Constant (.int n1) c1 p1) bpos) (some (.Subscript o' e' pos')) pos.line X.env=pure false) :
  PS X (.Assign [.Subscript o' e' pos'] (.BinOp (.Call (.Attribute o "get" apos) [e,.Constant (.int n0) c0 p0] [] cpos) .Add (.Constant (.int n1) c1 p1) bpos) pos) (bH0 X i j n0 n1):=by
 intro pins s σ H D I ⟨l,b,k,xs,Hf,e1,e2,e3,ss,rk,ks,hz,q⟩
 refine wpAny_Assign_Subscript (thn (aS8 ax7 (aT0 hu ho he m) am6 pins s σ H (fun v H'=>v=.int ((atX xs k).getD n0+n1)/\H'=H) I ⟨l,b,k,xs,Hf,e1,e2,e3,ss,rk,ks,hz,_,_,rfl,rfl,rfl,rfl⟩) fun r s1 ⟨v,H1,I1,rv,h1,h2⟩=>?_) hs
 subst h1 h2
 refine thn (ho' pins s1 σ H1 (fun v H'=>v=.ref l/\H'=H1) I1 ⟨_,e1,rfl,rfl⟩) fun u s2 ⟨x,H2,I2,rx,h1,h2⟩=>thn (he' pins s2 σ H2 (fun v H'=>v=.ref b/\H'=H2) I2 ⟨_,e2,rfl,rfl⟩) fun iv s3 ⟨y,H3,I3,ry,h3,h4⟩=>?_
 subst h1 h2 h3 h4
 cases rx;cases ry
 obtain⟨t,rfl⟩:=rv
 obtain⟨z,ys,r,dd⟩:=au5 I3 e3 fun p hp=>(ks p hp).mono ss
 have b0:=aG7
 have yl:ys.length=xs.length:=(Paired.length r).symm
 refine wpAny_setItem_heap (hsz:=by omega) (by show X.A.units+1+9 < _;omega) (bw7 I3 (rk.mono ss)) dd fun h' dd' hs=>⟨σ,_,aF8 I3 (by rw[e3];exact True.intro) hs (let⟨o,_,_,w,_⟩:=dd';⟨o,w⟩) (bo9 ?_),q⟩
 obtain⟨o,es,ep,g1,g2,g3,g4,_,g6⟩:=dd'
 exact⟨z,_,o,es,ep,r.put,g1,g2,g3,g4,g6⟩
end
def dI:List D->Option (List Int)
 | []=>some []
 | .int i::r=>(dI r).map (i::·)
 | _=>none
def dP:List D->Option Sp
 | []=>some []
 | .tuple ds::r=>(dI ds).bind fun x=>(dP r).map (x::·)
 | _=>none
def dQ:List D->Option (List Sp)
 | []=>some []
 | .tuple ds::r=>(dP ds).bind fun x=>(dQ r).map (x::·)
 | _=>none
theorem bp4:∀{ds:List D}{x:List Int},dI ds=some x->ds=x.map .int
 | [],_,h=>by cases h;rfl
 | .int i::r,_,h=>by
  obtain⟨y,e,rfl⟩:=xmo h
  rw[bp4 e];rfl
 | .none::_,_,h | .bool _::_,_,h | .str _::_,_,h | .tuple _::_,_,h | .list _::_,_,h | .dict _::_,_,h=>by cases h
theorem bp2:∀{ds:List D}{x:Sp},dP ds=some x->ds=x.map e1
 | [],_,h=>by cases h;rfl
 | .tuple i::r,_,h=>by
  obtain⟨y,e,h⟩:=Option.bind_eq_some_iff.mp h
  obtain⟨z,f,rfl⟩:=xmo h
  rw[bp2 f,bp4 e];rfl
 | .none::_,_,h | .bool _::_,_,h | .str _::_,_,h | .int _::_,_,h | .list _::_,_,h | .dict _::_,_,h=>by cases h
theorem bp1:∀{ds:List D}{x:List Sp},dQ ds=some x->ds=x.map e2
 | [],_,h=>by cases h;rfl
 | .tuple i::r,_,h=>by
  obtain⟨y,e,h⟩:=Option.bind_eq_some_iff.mp h
  obtain⟨z,f,rfl⟩:=xmo h
  rw[bp1 f,bp2 e];rfl
 | .none::_,_,h | .bool _::_,_,h | .str _::_,_,h | .int _::_,_,h | .list _::_,_,h | .dict _::_,_,h=>by cases h
def aM9(m:List (Sp×Int)) (k:Sp):List (Sp×Int):=if(m.any fun p=>decide (p.1=k))=true then m.map fun p=>if p.1=k then(p.1,p.2+1) else p else m++[(k,1)]
def ba7(ks:List Sp):List (Sp×Int):=ks.foldl aM9 []
def prD(p:Sp×Int):D:=.tuple [e2 p.1,.int p.2]
def bh5(ds:List D):Option (List D):=(dQ ds).bind fun ks=>if ks.length < 1000 then al5 ((ba7 ks).map prD) else none
def prX(p:Sp×Addr×Int):Sp×Int:=(p.1,p.2.2)
theorem bD5(k:Sp):∀xs:Cn,atX xs k=((xs.map prX).find? fun p=>decide (p.1=k)).map (·.2)
 | []=>rfl
 | p::xs=>by
  have:=bD5 k xs
  unfold atX at this ⊢
  by_cases h:p.1=k
  ·simp[prX,h]
  ·simpa [prX,h] using this
theorem aH1(k:Sp):∀xs:Cn,(atX xs k).isSome=(xs.map prX).any fun p=>decide (p.1=k)
 | []=>rfl
 | p::xs=>by
  have:=aH1 k xs
  unfold atX at this ⊢
  by_cases h:p.1=k
  ·simp[prX,h]
  ·simpa [prX,h] using this
theorem aE4(k:Sp) (n:Int):∀xs:Cn,(∀p∈xs,p.1=k->p.2.2=n)->(xs.map fun p=>if p.1=k then(p.1,p.2.1,n+1) else p).map prX=(xs.map prX).map fun p=>if p.1=k then(p.1,p.2+1) else p
 | [],_=>rfl
 | p::xs,h=>by
  have ih:=aE4 k n xs fun q hq=>h q (.tail _ hq)
  rw[xmc,xmc,xmc,xmc,ih]
  congr 1
  by_cases e:p.1=k
  ·have:=h p (.head _) e
   simp[prX,e,this]
  ·simp[prX,e]
theorem aH0{k:Sp}{n:Int}:∀{xs:Cn},(xs.map (·.1)).Nodup->atX xs k=some n->∀p∈xs,p.1=k->p.2.2=n
 | q::xs,hn,e,p,hp,hk=>by
  rw[xmc,List.nodup_cons]at hn
  by_cases h:q.1=k
  ·have e':q.2.2=n:=by simpa [atX,h] using e
   rcases List.mem_cons.mp hp with rfl|hp
   ·exact e'
   ·exact absurd (List.mem_map.mpr ⟨p,hp,hk.trans h.symm⟩) hn.1
  ·have e':atX xs k=some n:=by simpa [atX,h] using e
   rcases List.mem_cons.mp hp with rfl|hp
   ·exact absurd hk h
   ·exact aH0 hn.2 e' p hp hk
theorem aR0{xs:Cn}(hn:(xs.map (·.1)).Nodup):(ad0 xs k b ((atX xs k).getD 0+1)).map prX=aM9 (xs.map prX) k:=by
 unfold ad0 aM9
 rw[← aH1]
 cases e:atX xs k with
 | none=>simp[prX]
 | some n=>simp only[Option.isSome_some,if_true,Option.getD_some];exact aE4 k n xs (aH0 hn e)
theorem aJ7{xs:Cn}(hn:(xs.map (·.1)).Nodup):((ad0 xs k b n).map (·.1)).Nodup:=by
 unfold ad0
 split
 ·rw[List.map_map]
  have:((fun p:Sp×Addr×Int=>p.1) ∘ fun p=>if p.1=k then(p.1,p.2.1,n) else p)=fun p=>p.1:=by funext p;simp only[Function.comp];split<;>rfl
  rw[this];exact hn
 ·rename_i h
  rw[List.map_append,List.nodup_append]
  refine⟨hn,by simp,fun x hx y hy z=>?_⟩
  obtain⟨p,hp,rfl⟩:=List.mem_map.mp hx
  simp at hy
  refine h ?_
  unfold atX
  rw[Option.isSome_map,List.find?_isSome]
  exact⟨p,hp,by simp[z,hy]⟩
section
variable {X:Cx}{pins:List (Addr×Obj)}{σ:L2.St}{H Hf:Hp}{s:Shared}
theorem as3{prog:Program}{w:World}(d:Addr) (hd:(d==sysModules)=false) :
  MeetsIn prog w (Builtin.«dict.items» ⟨[.ref d],[]⟩) (fun _ R s=>s.TypeIs (.ref d) "dict" /\ R (.ok (.ret (.ref s.heap.objs.size))) { s with heap:=s.heap.push { cls:=.type "dict_items", data:=.fields #[.ref d] } }) :=
 .of_wp fun A R s ⟨hT,h⟩=>by
  unfold Builtin.«dict.items» Builtin.Dict.noArgs
  refine wpAny_bind (wpAny_bind (wpAny_notOrdered_dict hT ?_))
  show wpAny _ _ (pure d) _ _ s
  refine wpAny_pure ?_
  show wpAny _ _ (Builtin.Dict.showsAll d >>= _) _ _ s
  unfold Builtin.Dict.showsAll
  rw[if_neg (by rw[hd];exact Bool.false_ne_true)]
  exact wpAny_bind (wpAny_pure (wpAny_bind (wpAny_newObj_type (wpAny_pure ⟨_,rfl,h⟩))))
theorem aS9{o:Expr}(ho:PE X o (al0 i)) (hb:attributeBase o "items" X.env (eval o X.env)=eval o X.env) (hl:(apos.endLine==cpos.line)=true) :
  PE X (.Call (.Attribute o "items" apos) [] [] cpos) (fun σ H Q=>∃l xs,σ[i]? = some (some (.ref l))/\H l=some (dS X.prog X.w l xs)/\Kys X.K H xs/\∀r,H r=none->Q (.ref r) (upd H r (vw r l))):=by
 intro pins s σ H Q I ⟨l,xs,e1,e3,ks,q⟩
 refine wpAny_Call_method hb (by rfl) hl PySem.F.plainAttrs_dict PySem.F.slot_dict_items PySem.F.type_dict_items (thn (ho pins s σ H (fun v H'=>v=.ref l/\H'=H) I ⟨_,e1,rfl,rfl⟩) fun u s1 ⟨x,H1,I1,rx,h1,h2⟩=>?_)
 subst h1 h2
 cases rx
 obtain⟨z,ys,r,dd⟩:=au5 I1 e3 ks
 obtain⟨od,es,ep,o1,o2,_⟩:=id dd
 refine⟨⟨od,o1,o2.1⟩,fun a e=>by cases e;exact⟨od,o1,o2.2.1⟩,?_⟩
 refine Calls.callWith_builtin rfl (PySem.evalArgs_none ?_)
 refine call_meetsIn PySem.F.slot_dict_items dd.typeIs PySem.F.entry_dict_items (PySem.F.args_dict_items_1 _) (as3 l z) ⟨dd.typeIs,.ref s1.heap.objs.size,_,I1.laid (a:=s1.heap.objs.size) (o:=vw s1.heap.objs.size l) (t':=s1.toks) (fun _ _ q=>Heap.get?_push_of_some _ q) (Nat.le_refl _) (bF4 ⟨_,Heap.get?_push_size _ rfl,rfl,rfl⟩),rfl,q _ (I1.hok.fresh (Nat.le_refl _))⟩
theorem as4{K:PySem.W.Frag}:∀{xs:Cn},Kys K Hf xs->Reps K Hf (xs.map fun p=>e2 p.1) ((xs.map (·.2)).map fun p=>V.ref p.1)
 | [],_=>rfl
 | p::xs,h=>⟨_,_,rfl,h p (.head _),as4 fun q hq=>h q (.tail _ hq)⟩
theorem aR7:∀xs:Cn,prs (xs.map fun p=>e2 p.1) (xs.map (·.2))=(xs.map prX).map prD
 | []=>rfl
 | p::xs=>by rw[xmc,xmc,prs,aR7 xs];rfl
theorem aZ6{P:Program}{w:World}:∀{xs:Cn}{ys:List (Sp×Addr×Value)},CnR xs ys->Ent (xs.map (·.2)) (ys.map (entryOfKey (k2 P w)))
 | _,_,.nil=>.nil
 | _,_,.cons ⟨e1,e2,t,e3⟩ r=>.cons ⟨by rw[entryOfKey,e2],t,by rw[entryOfKey,e3]⟩ (aZ6 r)
theorem aN0(hu:X.A.units+64 < cLine) (hc:X.calm=true):W8 X (.builtin "sorted") (fun vs H Q=>∃r l xs Hf out,vs=[.ref r]/\H r=some (vw r l)/\H l=some (dS X.prog X.w l xs)/\C0 Hf H/\Kys X.K Hf xs/\xs.length<=1000/\al5 ((xs.map prX).map prD)=some out/\∀v H' Hf',Grow H Hf H' Hf'->Rep X.K Hf' (.list out) v->Q v H'):=by
 intro pins s σ H vs us Q I rv ⟨r,l,xs,Hf,out,e0,e1,e2,ss,ks,hz,e3,k⟩
 subst e0
 obtain⟨u,rfl,rx⟩:=i9 rv
 cases rx
 obtain⟨hv,_⟩:=(show M8 X.prog X.w H s.heap r (vw r l) from I.hok r _ e1)
 obtain⟨⟨z,ys,o,es,ep,rr,g1,g2,g3,g4,g5⟩,_⟩:=(show M8 X.prog X.w H s.heap l (dS X.prog X.w l xs) from I.hok l _ e2)
 exact aJ0 (ws:=xs.map (·.2)) hu (I.ok.hd hc) (by simpa using hz) (by rw[g4];exact aZ6 rr) g3 I ss hv g1 (as4 ks) (by rw[aR7];exact e3) k
end
theorem Grow.own{H0 Hf0 H Hf:Hp}(g:Grow H0 Hf0 H Hf) (h0:H0 l=none) (hf:Hf l=none):Grow H0 Hf0 (upd H l o) Hf :=
 ⟨fun b u e=>by rw[A9 (A7 e h0)];exact g.big b u e,fun b u e=>by rw[A9 (A7 e hf)];exact g.sub b u e,g.ext,g.new⟩
def bw3:FnD:=fun l=>match l with
 | [.tuple sh]=>(atI sh 2).bind fun d=>match d with
  | .tuple ds=>(bh5 ds).map PyData.list
  | _=>none
 | _=>none
def aV2:DS:=fun ρ=>if ρ.length=3 then(A1 0 ρ).bind fun d=>(bw3 [d]).map Fl.rt else none
theorem bw2{X:Cx}(hN:X.N=[("sheet" : Str), "places_by_spot", "spot"]) (lc:∀x∈X.N,X.env.scope.names.lookup x=some .local) (hg:Gl X "sorted") (hm:X.mg "sorted" = none) (hc:X.calm=true) (hu:X.A.units+64 < cLine) (hx:X.xe=fun _ _=>False) (hf:∀x,X.fn x=true)
  (h1:(p5.endLine==p8.line)=true) (h2:(q5.endLine==q6.line)=true) :
  JSs X [.Assign [.Name "places_by_spot" a1] (.Dict [] [] a2) a3,.For (.Name "spot" b1) (.Subscript (.Name "sheet" b2) (.Constant (.int 2) 0 b3) b4) [.Assign [.Subscript (.Name "places_by_spot" p1) (.Name "spot" p2) p3] (.BinOp (.Call (.Attribute (.Name "places_by_spot" p4) "get" p5) [.Name "spot" p6,.Constant (.int 0) 0 p7] [] p8) .Add (.Constant (.int 1) 0 p9) p10) p11] [] b5,
   .Return (some (.Call (.Name "sorted" q1) [.Call (.Attribute (.Name "places_by_spot" q4) "items" q5) [] [] q6] [] q7)) q8] aV2:=fun ρ fl e H0 Hf0=>by
 have nd:X.N.Nodup:=by rw[hN];decide
 have n0:X.N[0]? = some ("sheet" : Str):=by rw[hN];rfl
 have n1:X.N[1]? = some ("places_by_spot" : Str):=by rw[hN];rfl
 have n2:X.N[2]? = some ("spot" : Str):=by rw[hN];rfl
 have v0:Vis X.env.scope "sheet" := .inl (lc _ (by rw[hN];simp))
 have v1:Vis X.env.scope "places_by_spot" := .inl (lc _ (by rw[hN];simp))
 have v2:Vis X.env.scope "spot" := .inl (lc _ (by rw[hN];simp))
 have jx:JE X (.Subscript (.Name "sheet" b2) (.Constant (.int 2) 0 b3) b4) (dIx (B0 0) (dC (.int 2))):=bo4 (aW0 0 n0 v0) ay3
 unfold aV2 at e
 split at e
 ·rename_i l3
  obtain⟨d,ed0,e⟩:=Option.bind_eq_some_iff.mp e
  unfold A1 at ed0
  split at ed0
  ·rename_i d0 ed
   cases ed0
   obtain⟨r,ek,rfl⟩:=xmo e
   unfold bw3 at ek
   split at ek
   ·rename_i sh es
    cases es
    obtain⟨t2,e2',ek⟩:=Option.bind_eq_some_iff.mp ek
    split at ek
    ·rename_i ds
     obtain⟨out,eo,rfl⟩:=xmo ek
     obtain⟨ks,eq,ez⟩:=Option.bind_eq_some_iff.mp eo
     split at ez
     ·rename_i hz
      cases bp1 eq
      refine Z9 (V3 (ax1 nd n1 (.inl (lc _ (by rw[hN];simp))) bH8 (hf:=.inl (hf _))) (V3 (aR5 (by rw[hx];exact PassesOwn.never) hc (aS4 (jx (ρ.set 1 none) (.tuple (ks.map e2)) ?_)) (aD7 nd n2 (.inl (lc _ (by rw[hN];simp))) (.inl (hf _)))
       (am4 (bt5 hu (S3 n1 v1) (S3 n2 v2) (S3 n1 v1) (S3 n2 v2) ⟨rfl,rfl,h1,rfl⟩ (by rfl))) (by intro _;rfl)) (am4 (aR4 (T5 (aN0 hu hc) hg hm (by decide +kernel) (J8 (aS9 (S3 n1 v1) rfl h2) N9 rfl)))))) fun En σ H ⟨Hf,at0,en⟩=>?_
      ·show(B0 0 (ρ.set 1 none)).bind _=_
       have:(ρ.set 1 none)[0]? = some (some (.val (.tuple sh))):=by rw[List.getElem?_set,if_neg (by decide)];exact ed
       simp only[B0,this,xbs,dC]
       exact e2'
      ·intro l hl
       have l0:H0 l=none:=at0.gr.big.free hl
       have lf:Hf l=none:=at0.gr.sub.free hl
       have g1:Grow H0 Hf0 (upd H l (dS X.prog X.w l [])) Hf:=at0.gr.trans (Grow.made at0.gr.sub hl)
       refine⟨H0,Hf,g1.sub,(at0.sl.grow (Grow.made at0.gr.sub hl)).hide 1 _,fun v H1 Hf1 gr1 rp=>?_⟩
       obtain⟨a,vs,rfl,sq,rs⟩:=rp
       have hl1:H1 l=some (dS X.prog X.w l []):=gr1.big _ _ A6
       have lf1:Hf1 l=none:=by
        cases q:Hf1 l with
        | none=>rfl
        | some o =>
         rcases gr1.new l (by rw[q];simp) with z|z
         ·exact absurd lf z
         ·rw[A6]at z;cases z
       have s3:σ.length=3:=at0.sl.len ▸ l3
       refine⟨a,rfl,⟨vs,B1 gr1.sub sq⟩,?_⟩
       refine bk8 (K:=X.K) (a:=a) (g:=aY2 2) (tb:=bH0 X 1 2 0 1) (H:=H1) (σ:=σ.set 1 (some (.ref l))) (xs:=vs) (fun i σ' H'=>∃cn Hf',σ'.length=3/\σ'[1]? = some (some (.ref l))/\Grow H0 Hf0 H' Hf'/\C0 Hf1 Hf'/\H' l=some (dS X.prog X.w l cn)/\Hf' l=none/\Kys X.K Hf' cn/\(cn.map (·.1)).Nodup/\cn.map prX=ba7 (ks.take i)/\cn.length<=i)
        ⟨[],Hf1,by simpa using s3,by simp[s3],g1.trans gr1,C0.refl _,hl1,lf1,(fun _ h=>nomatch h),List.nodup_nil,rfl,Nat.le_refl _⟩ ?_ ?_ ?_
       ·rintro i σ' H' _ ⟨cn,Hf',_,_,g',s',_⟩
        exact B1 (s'.trans g'.sub) sq
       ·rintro i x σ' H' hxi ⟨cn,Hf',sz,sl',g',s',hl',lf',ky,nd',ec,lc'⟩
        obtain⟨d,ed',rd⟩:=rs.get' hxi
        have hi:i < ks.length:=by
         rcases Nat.lt_or_ge i ks.length with q|q
         ·exact q
         ·rw[List.getElem?_eq_none (by simpa using q)]at ed';cases ed'
        rw[List.getElem?_map,List.getElem?_eq_getElem hi]at ed'
        cases ed'
        obtain⟨b,ws,rfl,_⟩:=id rd
        refine⟨l,b,ks[i],cn,Hf',by rw[List.getElem?_set,if_neg (by decide)];exact sl',by rw[List.getElem?_set,if_pos rfl,if_pos (by rw[sz];decide)],hl',g'.sub,rd.mono s',ky,by omega,?_⟩
        refine⟨_,Hf',by simpa using sz,by rw[List.getElem?_set,if_neg (by decide)];exact sl',g'.own l0 lf',s',A6,lf',fun p hp=>?_,aJ7 nd',?_,Nat.le_trans aQ9 (Nat.succ_le_succ lc')⟩
        ·rcases aQ8 hp with⟨q,hq,z1,z2⟩|⟨z1,z2⟩
         ·rw[z1,z2];exact ky q hq
         ·rw[z1,z2];exact rd.mono s'
        ·rw[aR0 nd',ec,List.take_succ_eq_append_getElem hi]
         unfold ba7
         rw[List.foldl_append];rfl
       ·rintro σ' H' ⟨cn,Hf',sz,sl',g',s',hl',lf',ky,nd',ec,lc'⟩
        have lv:vs.length=ks.length:=by rw[rs.length,List.length_map]
        rw[lv,List.take_length]at ec
        refine⟨l,cn,sl',hl',fun p hp=>(ky p hp).mono g'.sub,fun r hr=>?_⟩
        have g2:Grow H' Hf' (upd H' r (vw r l)) Hf':=Grow.made g'.sub hr
        refine⟨r,l,cn,Hf',out,rfl,A6,by rw[A9 (A7 hl' hr)];exact hl',g2.sub,ky,by omega,by rw[ec];exact ez,fun v H2 Hf2 g3 r3=>?_⟩
        exact en v H2 Hf2 ((g'.trans g2).trans g3) r3
     ·cases ez
    ·cases ek
   ·cases ek
  ·cases ed0
 ·cases e
end G
namespace G
open PySem PySem.Spec PyProof.Rows L2
section
variable {P:Program}{w:World}{K:PySem.W.Frag}{mg:Str->Option Value}{base:Heap}{cs:List (Str×D)}{bl:List Str}
theorem TOk.addK(T:TOk P w K mg base k tab) (M:Md K mg cs bl) (d:Fd) (h:KF K d.x d.st) (g:DS) (js:∀X:Cx,Fit ⟨tab,cs,bl⟩ d.c X->JSs X (O3 d.st) g) (ok:d.okB=true:=by kernel_rfl) (bd:Bd d:=by repeat (first|exact rfl|intro _)):TOk P w K mg base (k+1) ((d.x,N0 g d.N.length,d.ps.length)::tab):=by
 obtain⟨f,kV,dc,pm,an,cd,ct,Fn,hm⟩:=ay1 h M
 have Sc:=Fd.sc ok
 refine(T.mono (Nat.le_succ k)).cons ⟨f,_,d.ps,?_,hm,Fn.kp,.all (ua (bd kV dc pm an cd ct))⟩
 refine aF4 (N:=d.N) Fn Sc fun cdv A outer s H E hr=>js _ ?_
 refine⟨rfl,rfl,Sc.nd,rfl,rfl,hr.units,fun _=>⟨fun _=>rfl,Sc.kind⟩,fun x F n h=>?_,M.css,M.bls⟩
 exact(T x F n h).imp (fun⟨f',fd',ps,h1,h2,h3,h4⟩=>⟨k,f',fd',ps,h1,hr,h2,h3,h4⟩) id
end
theorem bh4{X:Cx}{S:Sg}{c:Kx}(F:Fit S c X) (hN:c.N=[("sheet" : Str), "places_by_spot", "spot"]) (hl:(c.N.all fun x=>match c.sc.names.lookup x with|some .local=>true|_=>false)=true) (hb:biB S c "sorted" "sorted" = true) (hd:c.df=true)
  (h1:(p5.endLine==p8.line)=true) (h2:(q5.endLine==q6.line)=true) :
  JSs X [.Assign [.Name "places_by_spot" a1] (.Dict [] [] a2) a3,.For (.Name "spot" b1) (.Subscript (.Name "sheet" b2) (.Constant (.int 2) 0 b3) b4) [.Assign [.Subscript (.Name "places_by_spot" p1) (.Name "spot" p2) p3] (.BinOp (.Call (.Attribute (.Name "places_by_spot" p4) "get" p5) [.Name "spot" p6,.Constant (.int 0) 0 p7] [] p8) .Add (.Constant (.int 1) 0 p9) p10) p11] [] b5,
   .Return (some (.Call (.Name "sorted" q1) [.Call (.Attribute (.Name "places_by_spot" q4) "items" q5) [] [] q6] [] q7)) q8] aV2:=by
 obtain⟨_,g1,g2⟩:=L4 F hb
 refine bw2 (F.N.trans hN) (fun x hx=>?_) g1 g2 F.calm F.units F.xe (F.df hd).1 h1 h2
 rw[F.N]at hx
 rw[F.sc]
 have:=List.all_eq_true.mp hl x hx
 split at this
 ·assumption
 ·cases this
end G
namespace Sh
open PySem PySem.Spec PyProof.Rows L2 G
def U8:DS:=(B5 (af1 (tB2 ltI (A1 2) (dIx (B0 0) (dC (.int 0)))) (A2 M6 (A0 (A1 0) (A0 (A1 2) (A0 (A1 3) A3)))) (A2 M6 (A0 (A1 1) (A0 (A4 Y3 (A1 2) (dIx (B0 0) (dC (.int 0)))) (A0 (A1 3) A3))))))
def R7:List D->Option D:=N0 U8 4
def o7:DS:=(B4 (K0 2 (A4 T6 (dIx (B0 0) (dC (.int 0))) (dIx (B0 1) (dC (.int 0))))) (B4 (K0 3 (dIx (B0 0) (dC (.int 1)))) (B4 (sIf (al2 (tB2 neD (A1 3) (dIx (B0 1) (dC (.int 1)))) (tB2 gtI (A1 2) (dC (.int 8)))) E9 P0) (B5 (O7 (A0 (A1 2) (A0 (A1 3) (A0 (P8 (qN (J7 2 [0,1] (U6 (A2 J3 (A0 (A1 2) (A0 (A1 3) A3)))) (O2 2 (B2 (J5 0) (B2 (J5 1) O6))) L0 (A2 R7 (A0 (A1 2) (A0 (A1 3) (A0 (A1 0) (A0 (A1 1) A3)))))))) A3))))))))
def M9:List D->Option D:=N0 o7 4
def z8:DS:=(B4 (K0 2 (dIx (B0 0) (dC (.int 0)))) (B4 (K0 3 (A4 T6 (dIx (B0 0) (dC (.int 1))) (dIx (B0 1) (dC (.int 1))))) (B4 (sIf (al2 (tB2 neD (A1 2) (dIx (B0 1) (dC (.int 0)))) (tB2 gtI (A1 3) (dC (.int 8)))) E9 P0) (B5 (O7 (A0 (A1 2) (A0 (A1 3) (A0 (A4 T6 (dIx (B0 0) (dC (.int 2))) (dIx (B0 1) (dC (.int 2)))) A3))))))))
def U3:List D->Option D:=N0 z8 4
def aH5:DS:=(B4 (K0 2 (A4 R9 (dIx (B0 0) (dC (.int 0))) (A1 1))) (B4 (K0 3 (A4 R9 (dIx (B0 0) (dC (.int 1))) (A1 1))) (B4 (sIf (al2 (tB2 ltI (A1 1) (dC (.int 1))) (al2 (tB2 gtI (A1 2) (dC (.int 8))) (tB2 gtI (A1 3) (dC (.int 8))))) E9 P0) (B5 (O7 (A0 (A1 2) (A0 (A1 3) (A0 (P8 (qN (J7 2 [0,1] (U6 (A2 J3 (A0 (A1 2) (A0 (A1 3) A3)))) (O2 2 (B2 (J5 0) (B2 (J5 1) O6))) L0 (A2 M6 (A0 (A1 2) (A0 (A4 W0 (A1 0) (A1 3)) (A0 (A4 W0 (A1 1) (A1 3)) A3))))))) A3))))))))
def N1:List D->Option D:=N0 aH5 4
def aB1:DS:=aV2
def R0:List D->Option D:=N0 aB1 3
def ak2:DS:=(B4 (K0 1 (O7 (A0 (dC (.int 0)) (A0 (dC (.int 1)) A3)))) (B4 (bs6 (U6 (A1 0)) (J5 2) (K0 1 (A2 O4 (A0 (A1 1) (A0 (A1 2) A3))))) (B5 (A2 c7 (A0 (A1 1) (A0 (O7 (A0 (af0 (B0 0)) (A0 (dC (.int 1)) A3))) A3))))))
def v8:List D->Option D:=N0 ak2 3
def aa1:DS:=(B5 (A2 v8 (A0 (aa5 (J7 1 [1] (U6 (dIx (B0 0) (dC (.int 2)))) (J5 0) L0 (dIx (B0 0) (A1 1)))) A3)))
def S1:List D->Option D:=N0 aa1 2
def aa0:DS:=(B5 (P8 (qN (J7 1 [0] (U0 (dC (.int 4))) (J5 0) L0 (A2 S1 (A0 (A1 1) (A0 (A1 0) A3)))))))
def U4:List D->Option D:=N0 aa0 1
def aH4:DS:=(B5 (A2 T4 (A0 (A1 0) (A0 (A4 T6 (A1 1) (dC (.int 2))) (A0 (A4 T6 (dC (.int 1)) (A2 D3 (A0 (A1 0) (A0 (A1 1) (A0 (dC (.int 3)) A3))))) (A0 (A4 T6 (dC (.int 1)) (A2 D3 (A0 (A1 0) (A0 (A4 T6 (A1 1) (dC (.int 1))) (A0 (dC (.int 3)) A3))))) A3))))))
def ap5:List D->Option D:=N0 aH4 2
end Sh
namespace Sh
open PySem G L2
def spK(q:Q4):G.Sp:=[[q.c.num,q.c.den],[q.x.num,q.x.den],[q.y.num,q.y.den],[q.z.num,q.z.den]]
theorem bL8:∀l:List Q4,dQ (l.map Q4.d)=some (l.map spK)
 | []=>rfl
 | q::l=>by
  have h:dQ ((q::l).map Q4.d)=(dP [fr q.c,fr q.x,fr q.y,fr q.z]).bind fun x=>(dQ (l.map Q4.d)).map (x::·):=rfl
  rw[h,bL8 l]
  rfl
def ins(a:List G.Sp) (k:G.Sp):List G.Sp:=if k∈a then a else a++[k]
def fsL(ks:List G.Sp):List G.Sp:=ks.foldl ins []
theorem aF3(a:List G.Sp) (k j:G.Sp):j∈ins a k↔j∈a\/j=k:=by
 unfold ins
 split
 ·rename_i h
  exact⟨.inl,fun z=>z.elim id fun e=>e ▸ h⟩
 ·simp
theorem ay7(j:G.Sp):∀(ks a:List G.Sp),j∈ks.foldl ins a↔j∈a\/j∈ks
 | [],a=>by simp
 | k::ks,a=>by rw[List.foldl_cons,ay7 j ks,aF3,List.mem_cons];grind
theorem bB5{a:List G.Sp}(k:G.Sp) (h:a.Nodup):(ins a k).Nodup:=by
 unfold ins
 split
 ·exact h
 ·rename_i n
  rw[List.nodup_append]
  exact⟨h,by simp,fun x hx y hy e=>by simp at hy;subst hy;subst e;exact n hx⟩
theorem bo5:∀(ks a:List G.Sp),a.Nodup->(ks.foldl ins a).Nodup
 | [],_,h=>h
 | k::ks,a,h=>bo5 ks _ (bB5 k h)
def ctK(ks:List G.Sp) (k:G.Sp):G.Sp×Int:=(k,((ks.count k:Nat):Int))
theorem ba6(ds:List G.Sp) (k:G.Sp):aM9 ((fsL ds).map (ctK ds)) k=(fsL (ds++[k])).map (ctK (ds++[k])):=by
 have f1:fsL (ds++[k])=ins (fsL ds) k:=by unfold fsL;rw[List.foldl_append];rfl
 have hm:k∈fsL ds↔k∈ds:=by unfold fsL;rw[ay7];simp
 have ha:(((fsL ds).map (ctK ds)).any fun p=>decide (p.1=k))=decide (k∈fsL ds):=by
  rw[List.any_map,Bool.eq_iff_iff,List.any_eq_true,decide_eq_true_eq]
  exact⟨fun⟨j,hj,e⟩=>by have e:j=k:=of_decide_eq_true e;exact e ▸ hj,fun h=>⟨k,h,by simp[ctK]⟩⟩
 have c1:∀j,(ds++[k]).count j=ds.count j+if j=k then 1 else 0:=fun j=>by
  rw[List.count_append,List.count_singleton]
  congr 1
  by_cases e:j=k
  ·simp[e]
  ·simp[e,Ne.symm e]
 unfold aM9
 rw[ha,f1]
 unfold ins
 by_cases h:k∈fsL ds
 ·rw[if_pos (decide_eq_true h),if_pos h,List.map_map]
  refine List.map_congr_left fun j _=>?_
  simp only[Function.comp,ctK,c1]
  by_cases e:j=k
  ·simp[e]
  ·simp[e]
 ·rw[if_neg (by simp[h]),if_neg h,List.map_append]
  congr 1
  ·refine List.map_congr_left fun j hj=>?_
   have e:j≠k:=fun z=>h (z ▸ hj)
   simp[ctK,c1,e]
  ·have:ds.count k=0:=List.count_eq_zero.mpr fun z=>h (hm.mpr z)
   simp[ctK,c1,this]
theorem aG2:∀(ks ds:List G.Sp),ks.foldl aM9 ((fsL ds).map (ctK ds))=(fsL (ds++ks)).map (ctK (ds++ks))
 | [],ds=>by rw[List.append_nil];rfl
 | k::ks,ds=>by rw[List.foldl_cons,ba6,aG2 ks (ds++[k]),List.append_assoc];rfl
theorem aG3(ks:List G.Sp):ba7 ks=(fsL ks).map (ctK ks):=aG2 ks []
theorem bo1:∀x y:List Int,(ltDs (x.map .int) (y.map .int)).isSome=true
 | [],[]=>rfl
 | [],_::_=>rfl
 | _::_,[]=>rfl
 | i::x,j::y=>by
  rw[xmc,xmc,ltDs]
  split
  ·exact bo1 x y
  ·rfl
theorem bJ8(x y:List Int):(ltD (e1 x) (e1 y)).isSome=true:=by unfold e1;rw[ltD];exact bo1 x y
theorem aU8:∀x y:G.Sp,(ltDs (x.map e1) (y.map e1)).isSome=true
 | [],[]=>rfl
 | [],_::_=>rfl
 | _::_,[]=>rfl
 | i::x,j::y=>by
  rw[xmc,xmc,ltDs]
  split
  ·exact aU8 x y
  ·exact bJ8 i j
theorem bJ7(x y:G.Sp):(ltD (e2 x) (e2 y)).isSome=true:=by unfold e2;rw[ltD];exact aU8 x y
theorem bv8(n m:Int):ltDs [.int n] [.int m]=some (decide (n < m)):=by
 rw[ltDs]
 split
 ·rename_i e
  have e:n=m:=by simpa [PyData.eqv] using e
  subst e
  simp[ltDs]
 ·rw[ltD]
theorem aU7(p q:G.Sp×Int):ltD (prD p) (prD q)=if p.1=q.1 then some (decide (p.2 < q.2)) else ltD (e2 p.1) (e2 q.1):=by
 unfold prD
 rw[ltD,ltDs,aZ3,bv8]
 by_cases e:p.1=q.1<;>simp[e]
theorem m9(f:G.Sp×Int->D) (p0:G.Sp×Int):∀(P:List (G.Sp×Int)) (i:Nat),(P.map f).getD i (f p0)=f (P.getD i p0)
 | [],_=>rfl
 | _::_,0=>rfl
 | _::P,i+1=>by simpa using m9 f p0 P i
theorem ae8{α:Type}(p0:α):∀(P:List α) (i:Nat),p0∈P->P.getD i p0∈P
 | p::P,0,_=>by simp
 | p::P,i+1,h=>by
  rw[List.getD_cons_succ,List.getD_eq_getElem?_getD]
  cases e:P[i]? with
  | none=>exact h
  | some q=>exact .tail _ (List.mem_of_getElem? e)
theorem bv5{P:List (G.Sp×Int)}(h:(P.map (·.1)).Nodup) {p q:G.Sp×Int}(hp:p∈P) (hq:q∈P) (e:p.1=q.1):p=q:=by
 obtain⟨i,h1⟩:=List.mem_iff_getElem?.mp hp
 obtain⟨j,h2⟩:=List.mem_iff_getElem?.mp hq
 have a:(P.map (·.1))[i]? = some p.1:=by rw[List.getElem?_map,h1];rfl
 have b:(P.map (·.1))[j]? = some p.1:=by rw[List.getElem?_map,h2,e];rfl
 have:i=j:=(List.getElem?_inj (List.getElem?_eq_some_iff.mp a).1 h).mp (a.trans b.symm)
 subst this
 rw[h1]at h2
 exact Option.some.inj h2
theorem bh2(P:List (G.Sp×Int)) (h:(P.map (·.1)).Nodup) (f:G.Sp×Int->D) (g:G.Sp×Int->Int) (hf:∀p,f p=prD (p.1,g p)) (hP:P≠[]) (i j:Nat):G.ltN (P.map f) i j=G.ltN (P.map prD) i j:=by
 obtain⟨p0,r,rfl⟩:=List.exists_cons_of_ne_nil hP
 unfold G.ltN
 rw[show((p0::r).map f).headD .none=f p0 from rfl,show((p0::r).map prD).headD .none=prD p0 from rfl,m9,m9,m9,m9]
 have m1:=ae8 p0 (p0::r) i (.head _)
 have m2:=ae8 p0 (p0::r) j (.head _)
 generalize (p0::r).getD i p0=a at m1
 generalize (p0::r).getD j p0=b at m2
 rw[hf,hf,aU7,aU7]
 dsimp only
 by_cases e:a.1=b.1
 ·cases bv5 h m1 m2 e
  simp
 ·rw[if_neg e,if_neg e]
theorem bw1(p:G.Sp×Int):(tt (prD p)&&((prD p).canLay0&&decide ((prD p).depth<=60)))=true:=by
 have h:=ae1 p.1
 have t:tt (prD p)=true:=rfl
 have l:(prD p).canLay0=true:=by simp[prD,PyData.canLay0,PyData.canLayAll0,h.1]
 have d:(prD p).depth<=60:=by simp only[prD,PyData.depth,PyData.depthAll];omega
 rw[t,l,decide_eq_true d];rfl
theorem bd2(p q:G.Sp×Int):(ltD (prD p) (prD q)).isSome=true:=by
 rw[aU7]
 split
 ·rfl
 ·exact bJ7 _ _
theorem bs0(P:List (G.Sp×Int)) (h:(P.map (·.1)).Nodup) (h64:P.length < 64):∃r:List (G.Sp×Int),r.length=P.length/\(∀p∈r,p∈P)/\∀g:G.Sp×Int->Int,al5 (P.map fun p=>prD (p.1,g p))=some (r.map fun p=>prD (p.1,g p)):=by
 by_cases h2:P.length < 2
 ·refine⟨P,rfl,fun _ h=>h,fun g=>?_⟩
  unfold al5
  rw[if_pos (by simpa using h2)]
 ·have hP:P≠[]:=by rintro rfl;simp at h2
  have pin:=aC2 (n:=P.length) (by omega)
  have lo:=aA4 (G.ltN (P.map prD)) pin
  obtain⟨p0,r,e⟩:=List.exists_cons_of_ne_nil hP
  refine⟨(evT (G.ltN (P.map prD)) (PySem.W.kas_sort P.length)).toList.map fun i=>P.getD i p0,by rw[List.length_map,Array.length_toList,lo.1],fun p hp=>?_,fun g=>?_⟩
  ·obtain⟨i,_,rfl⟩:=List.mem_map.mp hp
   exact ae8 p0 P i (by rw[e];exact .head _)
  ·unfold al5
   have hl:(P.map fun p=>prD (p.1,g p)).length=P.length:=List.length_map ..
   have q:(fun i j=>G.ltN (P.map fun p=>prD (p.1,g p)) i j)=G.ltN (P.map prD):=by
    funext i j
    exact bh2 P h _ g (fun _=>rfl) hP i j
   rw[if_neg (by rw[hl];exact h2),if_pos ⟨by rw[hl];exact h64,by simp only[List.all_map,List.all_eq_true];exact fun p _=>bw1 _,by simp only[List.all_map,List.all_eq_true];exact fun p _=>by simp only[Function.comp,List.all_map,List.all_eq_true];exact fun q _=>bd2 _ _⟩]
   rw[show G.ltN (P.map fun p=>prD (p.1,g p))=G.ltN (P.map prD) from q,hl,List.map_map]
   congr 1
   refine List.map_congr_left fun i hi=>?_
   have hi:i < P.length:=lo.2 i (by simpa using hi)
   simp[hi]
abbrev scr(ns:List Int):D:=.list (ns.map PyData.int)
theorem V9(ns:List Int) (k m:Nat) (hn:ns.length<=63) (hk:k < 2 ^ 60) (hm:0 < m):∃n:Nat,D3 [scr ns,.int k,.int m]=some (.int n)/\n < m:=by
 have a:=ab9 ns k m hn hk (by grind)
 have b:=ab1 ns k m (by grind)
 refine⟨(n5 ns k m).toNat,?_,by grind⟩
 rw[a]
 congr 2
 grind
theorem aF9{h:D->D->Option D}{f g:DE}{ρ:Rho}{x y:D}(h1:f ρ=some x) (h2:g ρ=some y):A4 h f g ρ=h x y:=by unfold A4;rw[h1,xbs,h2,xbs]
theorem V1{α:Type}(a:α):∀n:Nat,(List.replicate n [a]).flatten=List.replicate n a
 | 0=>rfl
 | n+1=>by rw[List.replicate_succ,List.flatten_cons,V1 a n];rfl
theorem aU1{xs:List D}{n:Nat}(hn:n<=1000) (hx:xs.length<=1000):R9 (.list xs) (.int n)=some (.list (List.replicate n xs).flatten):=by
 show(if 0<=(n:Int)/\(n:Int) < 1000000/\xs.length*((n:Int)).toNat<=16777216 then some (PyData.list (List.replicate ((n:Int)).toNat xs).flatten) else none)=_
 rw[Int.toNat_natCast,if_pos ⟨by omega,by omega,Nat.le_trans (Nat.mul_le_mul hx hn) (by decide)⟩]
theorem bP8(a:D) (r:List D):aa6 (a::r) none (some 1)=[a]:=by
 unfold aa6
 have h1:HT.sIx (a::r).length 0 none=0:=by simp[HT.sIx]
 have h2:HT.sIx (a::r).length (a::r).length (some 1)=1:=by simp only[HT.sIx,List.length_cons];first|omega|(simp;omega)|simp
 rw[h1,h2];rfl
theorem aH6(ns:List Int) (k:Nat) (hn:ns.length<=63) (hk:k < 2 ^ 30):∃q:Q4,W6 [scr ns,.int k]=some q.d/\q.ok 8:=by
 obtain⟨c,x,y,z,e,S⟩:=bE3 ns k hn hk
 exact⟨⟨c,x,y,z⟩,e,S⟩
theorem aP7(ns:List Int) (at':Nat) (hn:ns.length<=63) (ha:at' < 2 ^ 20):∃f:Nat->Q4,∀k,k < 1000->W6 [scr ns,.int ((at'+12*k:Nat):Int)]=some (f k).d/\(f k).ok 8:=by
 refine⟨fun k=>if h:k < 1000 then Classical.choose (aH6 ns (at'+12*k) hn (by grind)) else q0,fun k hk=>?_⟩
 simp only[dif_pos hk]
 exact Classical.choose_spec (aH6 ns (at'+12*k) hn (by grind))
theorem m5(ns:List Int) (at' w h:Nat) (hn:ns.length<=63) (ha:at' < 2 ^ 20) (w1:1<=w) (w8:w<=8) (h1:1<=h) (h8:h<=8):∃l:List Q4,T4 [scr ns,.int at',.int w,.int h]=some (shD w h l)/\ShOk 8 w h l:=by
 obtain⟨f,hf⟩:=aP7 ns at' hn ha
 have wh:w*h<=64:=Nat.mul_le_mul w8 h8
 have wh1:1<=w*h:=Nat.mul_le_mul w1 h1
 obtain⟨t,et,ht⟩:=V9 ns (at'+7) 3 hn (by grind) (by decide)
 have et':D3 [scr ns,.int ((at':Int)+7),.int 3]=some (.int t):=by rw[← et];simp
 have c:J7 1 [0,1] (U0 (A4 R9 (A1 2) (A1 3))) (J5 0) L0 (A2 W6 (A0 (A1 1) (A0 (A4 T6 (A1 2) (A4 R9 (dC (.int 12)) (A1 0))) A3))) [some (.val (scr ns)),some (.val (.int at')),some (.val (.int w)),some (.val (.int h)),none]=some ((List.range (w*h)).map fun k=>(f k).d):=by
  refine an2 (l:=List.range (w*h)) (h:=fun k:Nat=>PyData.int k) (r:=[some (.val (scr ns)),some (.val (.int at'))]) rfl (aD3 ?_ (by grind)) (by rw[List.length_range];grind) ?_
  ·exact l8 (by grind) (by grind)
  ·intro k hk
   have hk:=List.mem_range.mp hk
   have m12:R9 (.int 12) (.int k)=some (.int ((12*k:Nat):Int)):=l8 (i:=12) (by decide) (by grind)
   have e1:((at':Int)+((12*k:Nat):Int))=((at'+12*k:Nat):Int):=by grind
   wp_walk using evD,m12,e1,(hf k (by grind)).1
 have mwh:R9 (.int w) (.int h)=some (.int ((w*h:Nat):Int)):=l8 (by grind) (by grind)
 have cv:((t:Int)==0)=decide (t=0):=by cases t with
  | zero=>rfl
  | succ n=>rw[decide_eq_false (by grind)];exact beq_eq_false_iff_ne.mpr (by grind)
 obtain⟨n,en⟩:∃n,w*h=n+1:=⟨w*h - 1,by grind⟩
 by_cases t0:t=0
 ·refine⟨List.replicate (w*h) (f 0),?_,w1,w8,h1,h8,List.length_replicate ..,fun q hq=>by rw[(List.mem_replicate.mp hq).2];exact(hf 0 (by decide)).2⟩
  refine B7 (ρ:=[some (.val (scr ns)),some (.val (.int at')),some (.val (.int w)),some (.val (.int h)),none]) rfl ?_
  have hd:(List.range (w*h)).map (fun k=>(f k).d)=(f 0).d::(List.range n).map (fun k=>(f (k+1)).d):=by rw[en,List.range_succ_eq_map,xmc,List.map_map];rfl
  rw[hd]at c
  have v:A4 R9 (ba3 (A1 4) l7 (l6 (dC (.int 1)))) (A4 R9 (A1 2) (A1 3)) [some (.val (scr ns)),some (.val (.int at')),some (.val (.int w)),some (.val (.int h)),some (.val (.list ((f 0).d::(List.range n).map (fun k=>(f (k+1)).d))))]=some (.list (List.replicate (w*h) (f 0).d)):=by
   have a1:ba3 (A1 4) l7 (l6 (dC (.int 1))) [some (.val (scr ns)),some (.val (.int at')),some (.val (.int w)),some (.val (.int h)),some (.val (.list ((f 0).d::(List.range n).map (fun k=>(f (k+1)).d))))]=some (.list (aa6 ((f 0).d::(List.range n).map (fun k=>(f (k+1)).d)) none (some 1))):=rfl
   have a2:A4 R9 (A1 2) (A1 3) [some (.val (scr ns)),some (.val (.int at')),some (.val (.int w)),some (.val (.int h)),some (.val (.list ((f 0).d::(List.range n).map (fun k=>(f (k+1)).d))))]=some (.int ((w*h:Nat):Int)):=(aF9 rfl rfl).trans mwh
   rw[bP8]at a1
   have a3:=aU1 (xs:=[(f 0).d]) (show w*h<=1000 by grind) (show 1<=1000 by decide)
   rw[V1]at a3
   exact(aF9 a1 a2).trans a3
  have t1:tB2 eqD (A2 D3 (A0 (A1 0) (A0 (A4 T6 (A1 1) (dC (.int 7))) (A0 (dC (.int 3)) A3)))) (dC (.int 0)) [some (.val (scr ns)),some (.val (.int at')),some (.val (.int w)),some (.val (.int h)),some (.val (.list ((f 0).d::(List.range n).map (fun k=>(f (k+1)).d))))]=some true:=by simp only[tB2,A4,A2,A0,A3,A1,dC,xms,xbs,xg0,xg1,u6,et',bC3,cv,decide_eq_true t0,S4]
  simp only[v5,B4,d3,c,sIf,t1,K0,v,B5,O7,A0,A3,P8,B0,A1,xms,xbs,xw0,xw1,xg0,xg1,if_true,xft,if_false,shD,List.map_replicate]
 ·refine⟨(List.range (w*h)).map f,?_,w1,w8,h1,h8,by rw[List.length_map,List.length_range],fun q hq=>by
   obtain⟨k,hk,rfl⟩:=List.mem_map.mp hq
   exact(hf k (by have:=List.mem_range.mp hk;grind)).2⟩
  refine B7 (ρ:=[some (.val (scr ns)),some (.val (.int at')),some (.val (.int w)),some (.val (.int h)),none]) rfl ?_
  wp_walk using evD,v5,c,et',cv,decide_eq_false t0,shD,List.map_map
  rfl
theorem q4:(4:Nat)<=16777216:=by decide
theorem q3:(3:Nat)<=16777216:=by decide
inductive Nd where
 | layer (nm:D) (m:Man) (s:Rat) (sh:Bool) (lf tp:Int) (mk:Option (List Rat)) (w h:Nat) (l:List Q4) (kb:Nat)
 | tone (nm:D) (r:Rul) (s:Rat) (sh:Bool)
 | group (nm:D) (m:Man) (s:Rat) (sh:Bool) (ns:List Nd)
section
variable {nm:D}{m:Man}{r:Rul}{s:Rat}{sh:Bool}{lf tp:Int}{mk:Option (List Rat)}{w h:Nat}{l:List Q4}{kb:Nat}{ns:List Nd}
end
theorem D5{f g:DS}{ρ ρ':Rho}(h:f ρ=some (.nx ρ')):B4 f g ρ=g ρ':=by unfold B4;rw[h];rfl
theorem aE8{w h:Nat}{l:List Q4}{out:List D}(hl:l.length < 64) (e:al5 ((ba7 (l.map spK)).map prD)=some out):R0 [shD w h l]=some (.list out):=by
 refine B7 (ρ:=[some (.val (shD w h l)),none,none]) rfl ?_
 have k:bh5 (l.map Q4.d)=some out:=by
  unfold bh5
  rw[bL8,xbs,if_pos (by rw[List.length_map];omega)]
  exact e
 show(bw3 [shD w h l]).map Fl.rt=_
 show(((bh5 (l.map Q4.d)).map PyData.list).map Fl.rt)=_
 rw[k];rfl
theorem aY4:∀(ks a:List G.Sp),(ks.foldl ins a).length<=a.length+ks.length
 | [],a=>Nat.le_refl _
 | k::ks,a=>by
  have h1:=aY4 ks (ins a k)
  have h2:(ins a k).length<=a.length+1:=by unfold ins;split<;>simp
  rw[List.foldl_cons,List.length_cons];omega
theorem ay0{w h w2 h2:Nat}{l l2:List Q4}(m:Int) (hl:l.length < 64) (hl2:l2.length < 64) (fs:fsL (l2.map spK)=fsL (l.map spK)) (ct:∀k,(((l2.map spK).count k:Nat):Int)=m*(((l.map spK).count k:Nat):Int)) :
  ∃r:List (G.Sp×Int),R0 [shD w h l]=some (.list (r.map prD))/\R0 [shD w2 h2 l2]=some (.list (r.map fun p=>prD (p.1,m*p.2)))/\r.length<=64/\∀p∈r,0<=p.2/\p.2<=64:=by
 have fl:=aY4 (l.map spK) []
 rw[List.length_map,List.length_nil]at fl
 have fl:(fsL (l.map spK)).length<=0+l.length:=fl
 have kk:((fsL (l.map spK)).map (ctK (l.map spK))).map (·.1)=fsL (l.map spK):=by rw[List.map_map];exact List.map_id _
 obtain⟨r,r1,r2,r3⟩:=bs0 ((fsL (l.map spK)).map (ctK (l.map spK))) (by rw[kk];exact bo5 _ [] List.nodup_nil) (by rw[List.length_map];omega)
 refine⟨r,aE8 hl ?_,aE8 hl2 ?_,by rw[r1,List.length_map];omega,fun p hp=>?_⟩
 rotate_left 2
 ·obtain⟨k,_,rfl⟩:=List.mem_map.mp (r2 p hp)
  have:=List.count_le_length (a:=k) (l:=l.map spK)
  rw[List.length_map]at this
  exact⟨Int.natCast_nonneg _,by show((_:Nat):Int)<=64;omega⟩
 ·rw[aG3];exact r3 (·.2)
 ·rw[aG3,fs,← r3 (fun p=>m*p.2),List.map_map,List.map_map]
  congr 1
  refine List.map_congr_left fun k _=>?_
  simp only[Function.comp,ctK,ct]
def qo(x c:Rat):Rat:=mkRat ((x.num.natAbs*c.den:Nat):Int) (x.den*c.num.natAbs)
theorem aE1{k:Nat}{c:Rat}(h:Bd k c) (n:c≠0):0 < c.num.natAbs:=by
 have:=Rat.num_nonneg.mpr h.nn
 have:c.num≠0:=fun e=>n (Rat.num_eq_zero.mp e)
 omega
theorem aQ6{j k:Nat}{x c:Rat}(hx:Bd j x) (hc:Bd k c) (n:c≠0):qo x c*c=x:=by
 have h1:0 < x.den*c.num.natAbs:=Nat.mul_pos (L5 x) (aE1 hc n)
 have h2:0 < x.den*c.num.natAbs*c.den:=Nat.mul_pos h1 (L5 c)
 have e:qo x c*mkRat c.num c.den=mkRat x.num x.den:=by
  unfold qo
  rw[Rat.mkRat_mul_mkRat,Rat.mkRat_eq_iff (by omega) (by have:=L5 x;omega)]
  rw[hx.nat,hc.nat]
  simp only[Int.natAbs_natCast]
  rw[← Int.natCast_mul,← Int.natCast_mul,← Int.natCast_mul]
  congr 1
  grind
 rw[Rat.mkRat_self,Rat.mkRat_self]at e
 exact e
theorem ap6{j k:Nat}{x c:Rat}(hx:Bd j x) (hc:Bd k c) (l:j+k<=8000) (n:c≠0):c7 [fr x,fr c]=some (fr (qo x c)):=by
 refine B7 (ρ:=[some (.val (fr x)),some (.val (fr c))]) rfl ?_
 simp only[ak6,B5,A2,A0,A3,A4,ix0 (v0 _ _),ix1 (v0 _ _),ix0 (v1 _ _ _),ix1 (v1 _ _ _),xbs,xms,O0 (hx.sn (by omega)) (hc.sd (by omega)),O0 (hx.sd (by omega)) (hc.sn (by omega))]
 have:=ab8 (x.num.natAbs*c.den) (x.den*c.num.natAbs) (j+k) (Nat.mul_pos (L5 x) (aE1 hc n)) (K2 hx.den hc.num) l
 rw[Int.natCast_mul,Int.natCast_mul,← hx.nat,← hc.nat]at this
 rw[this]
 unfold qo
 rw[Int.natCast_mul,← hx.nat];rfl
def Q0(rs:List Rat):Rat:=rs.foldr (·+·) 0
theorem N7(r:Rat) (rs:List Rat):Q0 (r::rs)=r+Q0 rs:=rfl
theorem ac3:∀a b:List Rat,Q0 (a++b)=Q0 a+Q0 b
 | [],b=>by show Q0 b=0+Q0 b;grind
 | r::a,b=>by rw[xca,N7,ac3 a b,N7];grind
theorem aI8{a b:List Rat}(h:a.Perm b):Q0 a=Q0 b:=by
 induction h with
 | nil=>rfl
 | cons x _ ih=>rw[N7,N7,ih]
 | swap x y l=>rw[N7,N7,N7,N7];grind
 | trans _ _ i j=>exact i.trans j
theorem ai1{k:Nat}:∀(rs:List Rat) (acc:Rat) (j:Nat) (a0 a2:Option B),(∀r∈rs,Bd k r)->Bd j acc->j+rs.length*(k+1)<=8000 ->
  ∃a2',ay8 (J5 2) (K0 1 (A2 O4 (A0 (A1 1) (A0 (A1 2) A3)))) (rs.map fr) [a0,some (.val (fr acc)),a2]=some (.nx [a0,some (.val (fr (acc+Q0 rs))),a2'])/\Bd (j+rs.length*(k+1)) (acc+Q0 rs)
 | [],acc,j,a0,a2,_,hb,_=>by
  have e:acc+Q0 []=acc:=by show acc+0=acc;grind
  rw[e]
  exact⟨a2,rfl,hb.mono (by omega)⟩
 | r::rs,acc,j,a0,a2,hr,hb,hl=>by
  rw[List.length_cons,Nat.succ_mul]at hl
  have b1:=hr r (.head _)
  obtain⟨a2',e,b⟩:=ai1 rs (acc+r) (j+k+1) a0 (some (.val (fr r))) (fun x hx=>hr x (.tail _ hx)) (hb.add b1) (by omega)
  have es:acc+Q0 (r::rs)=acc+r+Q0 rs:=by rw[N7];grind
  rw[es,List.length_cons,Nat.succ_mul]
  refine⟨a2',?_,b.mono (by omega)⟩
  have s:=P7 hb b1 (by omega)
  have g:J5 2 (fr r) [a0,some (.val (fr acc)),a2]=some [a0,some (.val (fr acc)),some (.val (fr r))]:=rfl
  have st:(K0 1 (A2 O4 (A0 (A1 1) (A0 (A1 2) A3)))) [a0,some (.val (fr acc)),some (.val (fr r))]=some (.nx [a0,some (.val (fr (acc+r))),some (.val (fr r))]):=by
   show((O4 [fr acc,fr r]).map _)=_
   rw[s];rfl
  rw[xmc]
  simp only[ay8,g,xbs,st]
  exact e
theorem bC0(n:Nat):fr (n:Rat)=.tuple [.int n,.int 1]:=by unfold fr;rw[Rat.num_natCast,Rat.den_natCast];rfl
theorem aA1{n:Nat}(h:n<=64):Bd 7 (n:Rat):=⟨by rw[← Rat.num_nonneg,Rat.num_natCast];omega,by rw[Rat.num_natCast];omega,by rw[Rat.den_natCast];decide⟩
theorem ad5{n:Nat}(h:0 < n):(n:Rat)≠0:=fun q=>by
 have:=congrArg Rat.num q
 rw[Rat.num_natCast,show(0:Rat).num=0 from rfl]at this
 omega
def men(rs:List Rat):Rat:=qo (Q0 rs) (rs.length:Rat)
theorem bh0{k:Nat}{rs:List Rat}(hr:∀r∈rs,Bd k r) (h0:0 < rs.length) (h1:rs.length<=64) (hl:8+64*(k+1)<=8000):v8 [.list (rs.map fr)]=some (fr (men rs)):=by
 refine B7 (ρ:=[some (.val (.list (rs.map fr))),none,none]) rfl ?_
 have hk:rs.length*(k+1)<=64*(k+1):=Nat.mul_le_mul_right _ h1
 obtain⟨a2,e,b⟩:=ai1 rs 0 1 (some (.val (.list (rs.map fr)))) none hr Bd.zero (by omega)
 have z:0+Q0 rs=Q0 rs:=by grind
 rw[z]at e b
 have d:=ap6 b (aA1 h1) (by omega) (ad5 h0)
 have l:af0 (B0 0) [some (.val (.list (rs.map fr))),some (.val (fr (Q0 rs))),a2]=some (.int (rs.length:Nat)):=by
  show some (PyData.int (((rs.map fr).length:Nat):Int))=_
  rw[List.length_map]
 unfold ak2
 refine(D5 (show _=some (Fl.nx [some (.val (.list (rs.map fr))),some (.val (fr 0)),none]) from rfl)).trans ?_
 refine(D5 (show _=some (Fl.nx [some (.val (.list (rs.map fr))),some (.val (fr (Q0 rs))),a2]) from e)).trans ?_
 show((A2 c7 (A0 (A1 1) (A0 (O7 (A0 (af0 (B0 0)) (A0 (dC (.int 1)) A3))) A3))) [some (.val (.list (rs.map fr))),some (.val (fr (Q0 rs))),a2]).map Fl.rt=_
 simp only[A2,A0,A3,A1,O7,dC,l,xg0,xg1,xbs,xms]
 rw[← bC0,d];rfl
def Q4.pt(q:Q4):Nat->Rat
 | 0=>q.c
 | 1=>q.x
 | 2=>q.y
 | _=>q.z
theorem aR2{k:Nat}{q:Q4}(h:q.ok k) (p:Nat):Bd k (q.pt p):=by
 match p with
 | 0=>exact h.hc.bd
 | 1=>exact h.hx
 | 2=>exact h.hy
 | _+3=>exact h.hz
theorem aU3{k w h:Nat}{l:List Q4}(S:ShOk k w h l) (hl:8+64*(k+1)<=8000) {p:Nat}(hp:p < 4):S1 [shD w h l,.int p]=some (fr (men (l.map fun q=>q.pt p))):=by
 refine B7 (ρ:=[some (.val (shD w h l)),some (.val (.int p))]) rfl ?_
 have wh:w*h<=64:=Nat.mul_le_mul S.w8 S.h8
 have w1:1<=w*h:=Nat.mul_le_mul S.w1 S.h1
 have c:J7 1 [1] (U6 (dIx (B0 0) (dC (.int 2)))) (J5 0) L0 (dIx (B0 0) (A1 1)) [some (.val (shD w h l)),some (.val (.int p))]=some (l.map fun q=>fr (q.pt p)) :=
  an2 (l:=l) (h:=Q4.d) (r:=[some (.val (.int p))]) rfl rfl (by rw[S.len];omega) fun q _=>by
   match p,hp with
   | 0,_=>rfl
   | 1,_=>rfl
   | 2,_=>rfl
   | 3,_=>rfl
 have m:=bh0 (rs:=l.map fun q=>q.pt p) (fun r hr=>by obtain⟨q,hq,rfl⟩:=List.mem_map.mp hr;exact aR2 (S.ok q hq) p) (by rw[List.length_map,S.len];omega) (by rw[List.length_map,S.len];omega) hl
 rw[List.map_map]at m
 simp only[aa1,B5,A2,A0,A3,aa5,c,xms,xbs]
 rw[show(fun q:Q4=>fr (q.pt p))=fr ∘ fun q=>q.pt p from rfl,m];rfl
def mnQ(l:List Q4):Q4:=⟨men (l.map (·.c)),men (l.map (·.x)),men (l.map (·.y)),men (l.map (·.z))⟩
theorem l9{k w h:Nat}{l:List Q4}(S:ShOk k w h l) (hl:8+64*(k+1)<=8000):U4 [shD w h l]=some (mnQ l).d:=by
 refine B7 (ρ:=[some (.val (shD w h l))]) rfl ?_
 have c:J7 1 [0] (U0 (dC (.int 4))) (J5 0) L0 (A2 S1 (A0 (A1 1) (A0 (A1 0) A3))) [some (.val (shD w h l))]=some ((List.range 4).map fun p=>fr (men (l.map fun q=>q.pt p))) :=
  an2 (l:=List.range 4) (h:=fun k:Nat=>PyData.int k) (r:=[some (.val (shD w h l))]) rfl rfl (by decide) fun p hp=>by
   show S1 [shD w h l,.int p]=_
   exact aU3 S hl (List.mem_range.mp hp)
 simp only[aa0,B5,P8,qN,c,xms]
 rfl
theorem aA0{k:Nat}:∀{rs:List Rat},(∀r∈rs,Bd k r)->Bd (1+rs.length*(k+1)) (Q0 rs)
 | [],_=>Bd.zero.mono (by omega)
 | r::rs,h=>by
  rw[N7,List.length_cons,Nat.succ_mul]
  exact((h r (.head _)).add (aA0 fun x hx=>h x (.tail _ hx))).mono (by omega)
theorem aK6{rs rs2:List Rat}{m:Nat}(m1:1<=m) (h0:0 < rs.length) (hs:Q0 rs2=m*Q0 rs) (hn:rs2.length=m*rs.length) {j k:Nat}(b1:Bd j (Q0 rs)) (b2:Bd k (Q0 rs2)) (h1:rs.length<=64) (h2:rs2.length<=64):men rs2=men rs:=by
 have l2:0 < rs2.length:=by rw[hn];exact Nat.mul_pos m1 h0
 have e1:=aQ6 b1 (aA1 h1) (ad5 h0)
 have e2:=aQ6 b2 (aA1 h2) (ad5 l2)
 have c:((rs2.length:Nat):Rat)=(m:Rat)*(rs.length:Rat):=by rw[hn,Rat.natCast_mul]
 have z1:=ad5 h0
 have z2:=ad5 (n:=m) m1
 have e3:qo (Q0 rs2) (rs2.length:Rat)*((m:Rat)*(rs.length:Rat))=(m:Rat)*Q0 rs:=by rw[← c,← hs];exact e2
 unfold men
 generalize qo (Q0 rs2) (rs2.length:Rat)=b at e3 ⊢
 generalize qo (Q0 rs) (rs.length:Rat)=a at e1 ⊢
 clear e2 c hs b1 b2
 generalize (rs.length:Rat)=n at *
 generalize Q0 rs=t at *
 generalize (m:Rat)=u at *
 clear h0 hn h1 h2 l2 m1
 subst e1
 have q:(b - a)*(u*n)=0:=by grind
 grind
def ah0(w1 w2 h:Nat) (A B:List Q4):List Q4:=(plc (w1+w2) ((w1+w2)*h)).map fun p=>if p.1 < (w1:Int) then atQ w1 h A p.1 p.2 else atQ w2 h B (p.1 - w1) p.2
theorem u8{k w1 w2 h:Nat}{A B:List Q4}(S:ShOk k w1 h A) (T:ShOk k w2 h B) (hk:1<=k) (w8:w1+w2<=8):M9 [shD w1 h A,shD w2 h B]=some (shD (w1+w2) h (ah0 w1 w2 h A B))/\ShOk k (w1+w2) h (ah0 w1 w2 h A B):=by
 have s1:=S.w1
 have s2:=S.h8
 have wh:(w1+w2)*h<=64:=Nat.mul_le_mul w8 s2
 refine⟨?_,by omega,w8,S.h1,s2,by unfold ah0;rw[List.length_map,Q5],fun q hq=>?_⟩
 ·refine B7 (ρ:=[some (.val (shD w1 h A)),some (.val (shD w2 h B)),none,none]) rfl ?_
  have kk:((w1:Int)+(w2:Int))=((w1+w2:Nat):Int):=by omega
  have z:(!((h:Int)==(h:Int)))=false:=by simp
  have z2:decide ((8:Int) < (w1:Int)+(w2:Int))=false:=decide_eq_false (by omega)
  have sp:∀p:Int×Int,R7 [shD w1 h A,shD w2 h B,.int p.1,.int p.2]=some (if p.1 < (w1:Int) then atQ w1 h A p.1 p.2 else atQ w2 h B (p.1 - w1) p.2).d:=fun p=>by
   refine B7 (ρ:=[some (.val (shD w1 h A)),some (.val (shD w2 h B)),some (.val (.int p.1)),some (.val (.int p.2))]) rfl ?_
   have a1:=Q7 S p.1 p.2
   have a2:=Q7 T (p.1 - w1) p.2
   have i0:dIx (B0 0) (dC (.int 0)) [some (.val (shD w1 h A)),some (.val (shD w2 h B)),some (.val (.int p.1)),some (.val (.int p.2))]=some (.int w1):=rfl
   by_cases c:p.1 < (w1:Int)
   ·rw[if_pos c]
    have c':decide (p.1 < (w1:Int))=true:=decide_eq_true c
    simp only[U8,af1,B5,tB2,A4,A1,A2,A0,A3,i0,S4,bh1,c',a1,xg0,xg1,xbs,xms,if_true]
   ·rw[if_neg c]
    have c':decide (p.1 < (w1:Int))=false:=decide_eq_false c
    simp only[U8,af1,B5,tB2,A4,A1,A2,A0,A3,i0,S4,bh1,aB5,c',a2,xg0,xg1,xbs,xms,xft,if_false]
  have cc:J7 2 [0,1] (U6 (A2 J3 (A0 (A1 2) (A0 (A1 3) A3)))) (O2 2 (B2 (J5 0) (B2 (J5 1) O6))) L0 (A2 R7 (A0 (A1 2) (A0 (A1 3) (A0 (A1 0) (A0 (A1 1) A3))))) [some (.val (shD w1 h A)),some (.val (shD w2 h B)),some (.val (.int ((w1:Int)+(w2:Int)))),some (.val (.int h))]=some ((ah0 w1 w2 h A B).map Q4.d):=by
   unfold ah0
   rw[List.map_map]
   refine f8 (l:=plc (w1+w2) ((w1+w2)*h)) (h1:=fun p=>.int p.1) (h2:=fun p=>.int p.2) (r:=[some (.val (shD w1 h A)),some (.val (shD w2 h B))]) rfl ?_ (by rw[Q5];omega) fun p hp=>?_
   ·have:=V4 (w:=w1+w2) (h:=h) (by omega) w8 s2
    rw[← kk]at this
    wp_walk using evD,this
   ·wp_walk using evD,sp p
    rfl
  unfold o7
  refine(D5 (show _=some (Fl.nx [some (.val (shD w1 h A)),some (.val (shD w2 h B)),some (.val (.int ((w1:Int)+(w2:Int)))),none]) from rfl)).trans ?_
  refine(D5 (show _=some (Fl.nx [some (.val (shD w1 h A)),some (.val (shD w2 h B)),some (.val (.int ((w1:Int)+(w2:Int)))),some (.val (.int h))]) from rfl)).trans ?_
  refine(D5 (show _=some (Fl.nx [some (.val (shD w1 h A)),some (.val (shD w2 h B)),some (.val (.int ((w1:Int)+(w2:Int)))),some (.val (.int h))]) from by wp_walk using evD,shD,z,z2)).trans ?_
  simp only[B5,O7,A0,A3,A1,P8,qN,cc,xg0,xg1,xbs,xms]
  rw[kk]
  rfl
 ·obtain⟨p,_,rfl⟩:=List.mem_map.mp hq
  split
  ·exact v3 S hk _ _
  ·exact v3 T hk _ _
theorem af4{k w1 w2 h:Nat}{A B:List Q4}(S:ShOk k w1 h A) (x y:Int):atQ (w1+w2) h (ah0 w1 w2 h A B) x y=if x < (w1:Int) then atQ w1 h A x y else atQ w2 h B (x - w1) y:=by
 have s1:=S.w1
 unfold ah0
 rw[o0 (w:=w1+w2) (by omega) (fun x y=>if x < (w1:Int) then atQ w1 h A x y else atQ w2 h B (x - w1) y)]
 by_cases b:0<=x/\x < ((w1+w2:Nat):Int)/\0<=y/\y < h
 ·rw[if_pos b]
 ·rw[if_neg b]
  by_cases c:x < (w1:Int)
  ·rw[if_pos c,n9 (by omega)]
  ·rw[if_neg c,n9 (by omega)]
theorem aG9{k w1 w2 h n:Nat}{A B:List Q4}(S:ShOk k w1 h A) (e:n=w1+w2) (x y:Int):atQ n h (ah0 w1 w2 h A B) x y=if x < (w1:Int) then atQ w1 h A x y else atQ w2 h B (x - w1) y:=by rw[e];exact af4 S x y
theorem bb4{k w h1 h2:Nat}{A B:List Q4}(S:ShOk k w h1 A) (T:ShOk k w h2 B) (h8:h1+h2<=8):U3 [shD w h1 A,shD w h2 B]=some (shD w (h1+h2) (A++B))/\ShOk k w (h1+h2) (A++B):=by
 have la:=S.len
 have lb:=T.len
 have a64:w*h1<=64:=Nat.mul_le_mul S.w8 S.h8
 have b64:w*h2<=64:=Nat.mul_le_mul T.w8 T.h8
 refine⟨?_,S.w1,S.w8,by have:=S.h1;omega,h8,by rw[List.length_append,la,lb,Nat.mul_add],fun q hq=>(List.mem_append.mp hq).elim (S.ok q) (T.ok q)⟩
 have kk:((h1:Int)+(h2:Int))=((h1+h2:Nat):Int):=by omega
 have z:(!((w:Int)==(w:Int)))=false:=by simp
 have z2:decide ((8:Int) < (h1:Int)+(h2:Int))=false:=decide_eq_false (by omega)
 have ct:T6 (.tuple (A.map Q4.d)) (.tuple (B.map Q4.d))=some (.tuple ((A++B).map Q4.d)):=by
  have:=cat_tup (xs:=A.map Q4.d) (ys:=B.map Q4.d) (by rw[List.length_map,List.length_map];omega)
  rw[List.map_append];exact this
 refine B7 (ρ:=[some (.val (shD w h1 A)),some (.val (shD w h2 B)),none,none]) rfl ?_
 unfold z8
 refine(D5 (show _=some (Fl.nx [some (.val (shD w h1 A)),some (.val (shD w h2 B)),some (.val (.int w)),none]) from rfl)).trans ?_
 refine(D5 (show _=some (Fl.nx [some (.val (shD w h1 A)),some (.val (shD w h2 B)),some (.val (.int w)),some (.val (.int ((h1:Int)+(h2:Int))))]) from rfl)).trans ?_
 refine(D5 (show _=some (Fl.nx [some (.val (shD w h1 A)),some (.val (shD w h2 B)),some (.val (.int w)),some (.val (.int ((h1:Int)+(h2:Int))))]) from by wp_walk using evD,shD,z,z2)).trans ?_
 wp_walk using evD,shD,ct
 rw[kk]
theorem bb6{k w h1 h2:Nat}{A B:List Q4}(S:ShOk k w h1 A) (x y:Int):atQ w (h1+h2) (A++B) x y=if y < (h1:Int) then atQ w h1 A x y else atQ w h2 B x (y - h1):=by
 have la:=S.len
 by_cases c:y < (h1:Int)
 ·rw[if_pos c]
  unfold atQ
  by_cases b:0<=x/\x < w/\0<=y/\y < h1
  ·have pn:=V5 b
   rw[if_pos b,if_pos (by omega),List.getD_eq_getElem?_getD,List.getD_eq_getElem?_getD,List.getElem?_append_left (by omega)]
  ·rw[if_neg b,if_neg (by omega)]
 ·rw[if_neg c]
  unfold atQ
  by_cases b:0<=x/\x < w/\0<=y - h1/\y - h1 < h2
  ·have pn:=V5 b
   have e:(y*w+x)=((w*h1:Nat):Int)+((y - h1)*w+x):=by rw[Int.natCast_mul];grind
   rw[if_pos b,if_pos (by omega),List.getD_eq_getElem?_getD,List.getD_eq_getElem?_getD,List.getElem?_append_right (by omega)]
   congr 2
   omega
  ·rw[if_neg b,if_neg (by omega)]
def P5(w h b:Nat) (A:List Q4):List Q4:=(plc (w*b) ((w*b)*(h*b))).map fun p=>atQ w h A (p.1 / (b:Int)) (p.2 / (b:Int))
theorem an3{i j:Int}(h1:-1000<=i) (h2:i<=1000) (h3:-1000<=j) (h4:j<=1000):R9 (.int i) (.int j)=some (.int (i*j)):=by
 have s:∀{x:Int},-1000<=x->x<=1000->D4 x:=fun{x} a b=>by unfold D4;omega
 exact ax8 (s h1 h2) (s h3 h4)
theorem Z3{k w h b:Nat}{A:List Q4}(S:ShOk k w h A) (hk:1<=k) (b1:1<=b) (wb:w*b<=8) (hb:h*b<=8):N1 [shD w h A,.int b]=some (shD (w*b) (h*b) (P5 w h b A))/\ShOk k (w*b) (h*b) (P5 w h b A):=by
 have s1:=S.w1
 have s8:=S.w8
 have t1:=S.h1
 have t8:=S.h8
 have b8:b<=8:=Nat.le_trans (Nat.le_mul_of_pos_left b s1) wb
 have l64:(w*b)*(h*b)<=64:=Nat.mul_le_mul wb hb
 have p1:1<=w*b:=Nat.mul_le_mul s1 b1
 refine⟨?_,p1,wb,Nat.mul_le_mul t1 b1,hb,by unfold P5;rw[List.length_map,Q5],fun q hq=>?_⟩
 ·have m1:=an3 (i:=w) (j:=b) (by omega) (by omega) (by omega) (by omega)
  have m2:=an3 (i:=h) (j:=b) (by omega) (by omega) (by omega) (by omega)
  have kw:(w:Int)*(b:Int)=((w*b:Nat):Int):=by rw[Int.natCast_mul]
  have kh:(h:Int)*(b:Int)=((h*b:Nat):Int):=by rw[Int.natCast_mul]
  rw[kw]at m1
  rw[kh]at m2
  have z1:decide ((b:Int) < 1)=false:=decide_eq_false (by omega)
  have z2:decide ((8:Int) < ((w*b:Nat):Int))=false:=decide_eq_false (by omega)
  have z3:decide ((8:Int) < ((h*b:Nat):Int))=false:=decide_eq_false (by omega)
  have cc:J7 2 [0,1] (U6 (A2 J3 (A0 (A1 2) (A0 (A1 3) A3)))) (O2 2 (B2 (J5 0) (B2 (J5 1) O6))) L0 (A2 M6 (A0 (A1 2) (A0 (A4 W0 (A1 0) (A1 3)) (A0 (A4 W0 (A1 1) (A1 3)) A3)))) [some (.val (shD w h A)),some (.val (.int (b:Int))),some (.val (.int ((w*b:Nat):Int))),some (.val (.int ((h*b:Nat):Int)))]=some ((P5 w h b A).map Q4.d):=by
   unfold P5
   rw[List.map_map]
   refine f8 (l:=plc (w*b) ((w*b)*(h*b))) (h1:=fun p=>.int p.1) (h2:=fun p=>.int p.2) (r:=[some (.val (shD w h A)),some (.val (.int (b:Int)))]) rfl ?_ (by rw[Q5];omega) fun p hp=>?_
   ·have:=V4 (w:=w*b) (h:=h*b) p1 wb hb
    wp_walk using evD,this
   ·obtain⟨q1,q2,q3,q4⟩:=aD5 hp p1
    have dv:∀x:Int,0<=x->x<=1000->W0 (.int x) (.int (b:Int))=some (.int (x / (b:Int))):=fun x x0 x1=>aj1 (by omega) (sm8 (by omega) (by omega))
    have a1:=Q7 S (p.1 / (b:Int)) (p.2 / (b:Int))
    wp_walk using evD,dv p.1 q1 (by omega),dv p.2 q3 (by omega),a1
    rfl
  refine B7 (ρ:=[some (.val (shD w h A)),some (.val (.int (b:Int))),none,none]) rfl ?_
  unfold aH5
  refine(D5 (show _=some (Fl.nx [some (.val (shD w h A)),some (.val (.int (b:Int))),some (.val (.int ((w*b:Nat):Int))),none]) from by wp_walk using evD,shD,m1)).trans ?_
  refine(D5 (show _=some (Fl.nx [some (.val (shD w h A)),some (.val (.int (b:Int))),some (.val (.int ((w*b:Nat):Int))),some (.val (.int ((h*b:Nat):Int)))]) from by wp_walk using evD,shD,m2)).trans ?_
  refine(D5 (show _=some (Fl.nx [some (.val (shD w h A)),some (.val (.int (b:Int))),some (.val (.int ((w*b:Nat):Int))),some (.val (.int ((h*b:Nat):Int)))]) from by wp_walk using evD,z1,z2,z3)).trans ?_
  simp only[B5,O7,A0,A3,A1,P8,qN,cc,xg0,xg1,xbs,xms]
  rfl
 ·obtain⟨p,_,rfl⟩:=List.mem_map.mp hq
  exact v3 S hk _ _
theorem Z6{w h b:Nat}{A:List Q4}(w1:1<=w) (b1:1<=b) (x y:Int):atQ (w*b) (h*b) (P5 w h b A) x y=atQ w h A (x / (b:Int)) (y / (b:Int)):=by
 have c:∀(n:Nat) (z:Int),(0<=z / (b:Int)↔0<=z)/\(z / (b:Int) < n↔z < ((n*b:Nat):Int)):=fun n z=>by
  have b0:(0:Int) < b:=by omega
  refine⟨by rw[Int.le_ediv_iff_mul_le b0,Int.zero_mul],by rw[Int.ediv_lt_iff_lt_mul b0,Int.natCast_mul]⟩
 unfold P5
 rw[o0 (Nat.mul_le_mul w1 b1) (fun x y=>atQ w h A (x / (b:Int)) (y / (b:Int)))]
 by_cases d:0<=x/\x < ((w*b:Nat):Int)/\0<=y/\y < ((h*b:Nat):Int)
 ·rw[if_pos d]
 ·rw[if_neg d,n9]
  rw[(c w x).1,(c w x).2,(c h y).1,(c h y).2]
  exact d
theorem rg1{α:Type}{w:Nat}(w1:1<=w) (f:Nat->Nat->α):∀h:Nat,(List.range (w*h)).map (fun k=>f (k % w) (k / w))=(List.range h).flatMap fun y=>(List.range w).map fun x=>f x y
 | 0=>rfl
 | h+1=>by
  rw[Nat.mul_succ,List.range_add,List.map_append,rg1 w1 f h,List.range_succ,List.flatMap_append,List.map_map]
  congr 1
  rw[List.flatMap_cons,List.flatMap_nil,List.append_nil]
  refine List.map_congr_left fun x hx=>?_
  have hx:=List.mem_range.mp hx
  show f ((w*h+x) % w) ((w*h+x) / w)=_
  rw[Nat.mul_add_mod,Nat.mod_eq_of_lt hx,Nat.mul_add_div (by omega),Nat.div_eq_of_lt hx,Nat.add_zero]
theorem ar1{α:Type}{w h:Nat}(w1:1<=w) (g:Int->Int->α):(plc w (w*h)).map (fun p=>g p.1 p.2)=(List.range h).flatMap fun y=>(List.range w).map fun x=>g (x:Nat) (y:Nat):=by
 unfold plc
 rw[List.map_map]
 exact rg1 w1 (fun x y=>g (x:Nat) (y:Nat)) h
theorem rg4{α:Type}(f:Nat->List α):∀h:Nat,(List.range (h*2)).flatMap (fun k=>f (k / 2))=(List.range h).flatMap fun y=>f y++f y
 | 0=>rfl
 | h+1=>by
  rw[Nat.succ_mul,List.range_succ,List.range_succ,List.range_succ,List.flatMap_append,List.flatMap_append,List.flatMap_append,rg4 f h]
  simp only[List.flatMap_cons,List.flatMap_nil,List.append_nil,List.append_assoc]
  rw[show h*2 / 2=h by omega,show(h*2+1) / 2=h by omega]
abbrev t4(w h:Nat) (l:List Q4) (y:Nat):List Q4:=(List.range w).map fun x=>atQ w h l (x:Nat) (y:Nat)
abbrev wd2(w h:Nat) (l:List Q4) (y:Nat):List Q4:=(List.range w).flatMap fun x=>[atQ w h l (x:Nat) (y:Nat),atQ w h l (x:Nat) (y:Nat)]
theorem an5{α β:Type}(f:α->β):∀l:List α,l.map f=l.flatMap fun a=>[f a]
 | []=>rfl
 | a::l=>by rw[xmc,List.flatMap_cons,an5 f l];rfl
theorem at3{w h:Nat}{l:List Q4}(w1:1<=w):P5 w h 2 l=(List.range h).flatMap fun y=>wd2 w h l y++wd2 w h l y:=by
 unfold P5
 rw[ar1 (by omega) (fun x y=>atQ w h l (x / (2:Nat)) (y / (2:Nat))),← rg4 (wd2 w h l) h]
 refine congrArg (fun f=>List.flatMap f _) (funext fun y=>?_)
 have:=rg4 (fun x=>[atQ w h l ((x:Nat):Int) (((y / 2:Nat)):Int)]) w
 unfold wd2
 rw[an5,show(fun x:Nat=>[atQ w h l (x:Nat) ((y / 2:Nat):Int),atQ w h l (x:Nat) ((y / 2:Nat):Int)])=fun x=>[atQ w h l (x:Nat) ((y / 2:Nat):Int)]++[atQ w h l (x:Nat) ((y / 2:Nat):Int)] from rfl,← this]
 rfl
theorem aC6{k w h:Nat}{l:List Q4}(S:ShOk k w h l):l=(List.range h).flatMap (t4 w h l):=by
 have:=al7 S
 rw[ar1 S.w1 (atQ w h l)]at this
 exact this
theorem ao6{α β:Type}(g:α->List β):∀l:List α,(l.flatMap fun y=>g y++g y).Perm (l.flatMap g++l.flatMap g)
 | []=>.refl _
 | a::l=>by
  rw[List.flatMap_cons,List.flatMap_cons]
  refine((ao6 g l).append_left _).trans ?_
  rw[List.append_assoc,List.append_assoc]
  refine .append_left _ ?_
  exact List.perm_append_comm_assoc ..
theorem aF5{α β:Type}{f g:α->List β}(h:∀a,(f a).Perm (g a)):∀l:List α,(l.flatMap f).Perm (l.flatMap g)
 | []=>.refl _
 | a::l=>by rw[List.flatMap_cons,List.flatMap_cons];exact(h a).append (aF5 h l)
theorem ap8(w h:Nat) (l:List Q4) (y:Nat):(wd2 w h l y).Perm (t4 w h l y++t4 w h l y):=by
 unfold wd2 t4
 rw[an5]
 exact ao6 (fun x:Nat=>[atQ w h l (x:Nat) (y:Nat)]) _
theorem ae7{k w h:Nat}{l:List Q4}(S:ShOk k w h l):(P5 w h 2 l).Perm ((l++l)++(l++l)):=by
 rw[at3 S.w1]
 refine(aF5 (g:=fun y=>(t4 w h l y++t4 w h l y)++(t4 w h l y++t4 w h l y)) (fun y=>(ap8 w h l y).append (ap8 w h l y)) _).trans ?_
 have e:=aC6 S
 refine(ao6 (fun y=>t4 w h l y++t4 w h l y) _).trans ?_
 have d:=ao6 (t4 w h l) (List.range h)
 rw[← e]at d
 exact d.append d
theorem aX3(a:List G.Sp) (k:G.Sp):ins (ins a k) k=ins a k:=by
 have:k∈ins a k:=(aF3 a k k).mpr (.inr rfl)
 generalize ins a k=b at this
 unfold ins
 rw[if_pos this]
theorem at4:∀(ks a:List G.Sp),(∀j∈ks,j∈a)->ks.foldl ins a=a
 | [],_,_=>rfl
 | k::ks,a,h=>by
  rw[List.foldl_cons,show ins a k=a by unfold ins;rw[if_pos (h k (.head _))]]
  exact at4 ks a fun j hj=>h j (.tail _ hj)
theorem bB8(ks a:List G.Sp):(ks++ks).foldl ins a=ks.foldl ins a:=by
 rw[List.foldl_append]
 exact at4 ks _ fun j hj=>(ay7 j ks a).mpr (.inr hj)
theorem aY5{α:Type}{f g:α->List Q4}(h:∀x a,((f x).map spK).foldl ins a=((g x).map spK).foldl ins a):∀(l:List α) (a:List G.Sp),((l.flatMap f).map spK).foldl ins a=((l.flatMap g).map spK).foldl ins a
 | [],_=>rfl
 | x::l,a=>by rw[List.flatMap_cons,List.flatMap_cons,List.map_append,List.map_append,List.foldl_append,List.foldl_append,h,aY5 h l]
theorem bB6{k w h:Nat}{l:List Q4}(S:ShOk k w h l):fsL ((P5 w h 2 l).map spK)=fsL (l.map spK):=by
 rw[at3 S.w1]
 have e:=aC6 S
 have r:∀y a,((wd2 w h l y++wd2 w h l y).map spK).foldl ins a=((t4 w h l y).map spK).foldl ins a:=fun y a=>by
  rw[List.map_append,bB8]
  unfold wd2 t4
  rw[an5 (fun x:Nat=>atQ w h l (x:Nat) (y:Nat))]
  exact aY5 (f:=fun x:Nat=>[atQ w h l (x:Nat) (y:Nat),atQ w h l (x:Nat) (y:Nat)]) (g:=fun x:Nat=>[atQ w h l (x:Nat) (y:Nat)]) (fun x a=>aX3 a _) _ a
 unfold fsL
 rw[aY5 r]
 conv=>rhs;rw[e]
end Sh
namespace Lk15
open PySem PySem.Spec PyProof.Rows L2 G Sh
def top(i:Nat):Stmt:=PySem.Challenge.pw_glazework_k15_whole_put_together.main.body.getD i (.Pass ⟨0,0,0,0⟩)
def aP4:DS:=(K0 1 (A2 ap5 (A0 (A1 0) (A0 (dC (.int 0)) A3))))
def br9:DS:=(aJ4 (A1 1) (O2 3 (B2 (J5 2) (B2 (J5 3) (B2 (J5 4) O6)))))
def al4:DS:=(sIf (tB2 gtI (A1 2) (dC (.int 1))) (B4 (K0 5 (A4 T6 (dC (.int 1)) (A2 D3 (A0 (A1 0) (A0 (dC (.int 300)) (A0 (A4 Y3 (A1 2) (dC (.int 1))) A3)))))) (B4 (al8 6 7 (A0 (A2 P9 (A0 (A1 1) (A0 (dC (.int 0)) (A0 (dC (.int 0)) (A0 (A1 5) (A0 (A1 3) A3)))))) (A0 (A2 P9 (A0 (A1 1) (A0 (A1 5) (A0 (dC (.int 0)) (A0 (A4 Y3 (A1 2) (A1 5)) (A0 (A1 3) A3)))))) A3))) (B4 (sIf (tB2 neD (A2 M9 (A0 (A1 6) (A0 (A1 7) A3))) (A1 1)) (B5 (dC (.bool false))) P0) (B4 (sIf (tB2 neD (A2 P6 (A0 (A1 1) A3)) (A2 M9 (A0 (A2 P6 (A0 (A1 7) A3)) (A0 (A2 P6 (A0 (A1 6) A3)) A3)))) (B5 (dC (.bool false))) P0) (sIf (tB2 neD (A2 P2 (A0 (A1 1) A3)) (A2 U3 (A0 (A2 P2 (A0 (A1 6) A3)) (A0 (A2 P2 (A0 (A1 7) A3)) A3)))) (B5 (dC (.bool false))) P0))))) P0)
def al3:DS:=(sIf (tB2 gtI (A1 3) (dC (.int 1))) (B4 (K0 5 (A4 T6 (dC (.int 1)) (A2 D3 (A0 (A1 0) (A0 (dC (.int 301)) (A0 (A4 Y3 (A1 3) (dC (.int 1))) A3)))))) (B4 (al8 8 9 (A0 (A2 P9 (A0 (A1 1) (A0 (dC (.int 0)) (A0 (dC (.int 0)) (A0 (A1 2) (A0 (A1 5) A3)))))) (A0 (A2 P9 (A0 (A1 1) (A0 (dC (.int 0)) (A0 (A1 5) (A0 (A1 2) (A0 (A4 Y3 (A1 3) (A1 5)) A3)))))) A3))) (B4 (sIf (tB2 neD (A2 U3 (A0 (A1 8) (A0 (A1 9) A3))) (A1 1)) (B5 (dC (.bool false))) P0) (sIf (tB2 neD (A2 P2 (A0 (A1 1) A3)) (A2 M9 (A0 (A2 P2 (A0 (A1 9) A3)) (A0 (A2 P2 (A0 (A1 8) A3)) A3)))) (B5 (dC (.bool false))) P0)))) P0)
def aP3:DS:=(K0 10 (A2 N1 (A0 (A1 1) (A0 (dC (.int 2)) A3))))
def aP2:DS:=(sIf (tB2 neD (A2 R0 (A0 (A1 10) A3)) (aa5 (J7 2 [] (U6 (A2 R0 (A0 (A1 1) A3))) (O2 2 (B2 (J5 0) (B2 (J5 1) O6))) L0 (O7 (A0 (A1 0) (A0 (A4 R9 (dC (.int 4)) (A1 1)) A3)))))) (B5 (dC (.bool false))) P0)
def aP1:DS:=(sIf (tB2 neD (A2 U4 (A0 (A1 10) A3)) (A2 U4 (A0 (A1 1) A3))) (B5 (dC (.bool false))) P0)
def aP0:DS:=(sIf (al2 (tB2 neD (A2 N1 (A0 (A1 1) (A0 (dC (.int 1)) A3))) (A1 1)) (tB2 neD (A2 N1 (A0 (A2 P6 (A0 (A1 1) A3)) (A0 (dC (.int 2)) A3))) (A2 P6 (A0 (A1 10) A3)))) (B5 (dC (.bool false))) P0)
def aO9:DS:=(sIf (tB2 neD (A2 N1 (A0 (A2 P2 (A0 (A1 1) A3)) (A0 (dC (.int 2)) A3))) (A2 P2 (A0 (A1 10) A3))) (B5 (dC (.bool false))) P0)
def aO8:DS:=(K0 11 (A2 P9 (A0 (A1 1) (A0 (dC (.int 0)) (A0 (dC (.int 0)) (A0 (au6 (dC (.int 2)) (A1 2)) (A0 (au6 (dC (.int 2)) (A1 3)) A3)))))))
def aC1:DS:=(sIf (tB2 neD (A2 N1 (A0 (A2 N1 (A0 (A1 11) (A0 (dC (.int 2)) A3))) (A0 (dC (.int 2)) A3))) (A2 N1 (A0 (A1 11) (A0 (dC (.int 4)) A3)))) (B5 (dC (.bool false))) P0)
def aC0:DS:=(K0 12 (A2 T4 (A0 (A1 0) (A0 (dC (.int 150)) (A0 (A1 2) (A0 (A1 3) A3))))))
def aB9:DS:=(K0 13 (dIx (qN (A0 (dC (.str "over")) (A0 (dC (.str "multiply")) (A0 (dC (.str "screen")) (A0 (dC (.str "plus")) (A0 (dC (.str "atop")) (A0 (dC (.str "cut")) A3))))))) (A2 D3 (A0 (A1 0) (A0 (dC (.int 302)) (A0 (dC (.int 6)) A3))))))
def aB8:DS:=(K0 14 (A2 M9 (A0 (A2 N3 (A0 (A1 13) (A0 (A1 1) (A0 (A1 12) A3)))) (A0 (A2 N3 (A0 (A1 13) (A0 (A1 12) (A0 (A1 1) A3)))) A3))))
def aB7:DS:=(B5 (A4 eqD (A2 N3 (A0 (A1 13) (A0 (A2 M9 (A0 (A1 1) (A0 (A1 12) A3))) (A0 (A2 M9 (A0 (A1 12) (A0 (A1 1) A3))) A3)))) (A1 14)))
def bq0:DS:=(B4 aP4 (B4 br9 (B4 al4 (B4 al3 (B4 aP3 (B4 aP2 (B4 aP1 (B4 aP0 (B4 aO9 (B4 aO8 (B4 aC1 (B4 aC0 (B4 aB9 (B4 aB8 aB7))))))))))))))
def aH7:List D->Option D:=N0 bq0 15
end Lk15
namespace Lk15
open PySem G L2 Sh
abbrev en(ns:List Int) (w h:Nat) (l:List Q4) (r:List (Option B)):Rho:=some (.val (scr ns))::some (.val (shD w h l))::some (.val (.int w))::some (.val (.int h))::some (.val (.tuple (l.map Q4.d)))::r
theorem atc{w h:Nat}{l:List Q4}{x y x' y':Int}(hx:x=x') (hy:y=y'):atQ w h l x y=atQ w h l x' y':=by rw[hx,hy]
theorem nes(w h:Nat) (l:List Q4):neD (shD w h l) (shD w h l)=some (.bool false):=an1 (Ly.sheet ..) (by decide)
theorem st2{ns:List Int}(hn:ns.length<=63) {w h:Nat}{l:List Q4}(S:ShOk 8 w h l) (w3:w<=3) (h3:h<=3):∃a5 a6 a7,al4 (en ns w h l [none,none,none,none,none,none,none,none,none,none])=some (.nx (en ns w h l [a5,a6,a7,none,none,none,none,none,none,none])):=by
 by_cases c:1 < w
 ·obtain⟨d,ed,ld⟩:=V9 ns 300 (w - 1) hn (by decide) (by omega)
  have ed:D3 [scr ns,.int 300,.int ((w - 1:Nat):Int)]=some (.int d):=ed
  rw[show((w - 1:Nat):Int)=(w:Int) - 1 by omega]at ed
  obtain⟨a,ha⟩:∃a,a=1+d:=⟨_,rfl⟩
  obtain⟨b,rfl⟩:∃b,w=a+b:=⟨w - a,by omega⟩
  have h1:=S.h1
  have h8:=S.h8
  have k8:1<=8:=by decide
  have c1:(1+(d:Int))=(a:Int):=by omega
  have c2:((a+b:Nat):Int) - (a:Int)=(b:Int):=by omega
  have gt:decide ((1:Int) < ((a+b:Nat):Int))=true:=decide_eq_true (by omega)
  obtain⟨p1,L1⟩:=l5 S k8 0 0 (wide:=a) (high:=h) (by omega) (by omega) h1 h8
  obtain⟨p2,R1⟩:=l5 S k8 (a:Int) 0 (wide:=b) (high:=h) (by omega) (by omega) h1 h8
  obtain⟨q1,Q1⟩:=u8 L1 R1 k8 (by omega)
  rw[U5 Q1 S fun x y z=>by
   rw[af4 L1]
   split
   ·rw[R5 (by omega),if_pos (by omega)];exact atc (by omega) (by omega)
   ·rw[R5 (by omega),if_pos (by omega)];exact atc (by omega) (by omega)]at q1
  obtain⟨m0,M0⟩:=ad7 S k8
  obtain⟨m1,M1⟩:=ad7 L1 k8
  obtain⟨m2,M2⟩:=ad7 R1 k8
  obtain⟨q2,Q2⟩:=u8 M2 M1 k8 (by omega)
  rw[Nat.add_comm b a]at q2 Q2
  rw[U5 Q2 M0 fun x y z=>by
   rw[aG9 M2 (Nat.add_comm a b)]
   split
   ·rw[u9 (by omega),R5 (by omega),if_pos (by omega),u9 (by omega)];exact atc (by omega) (by omega)
   ·rw[u9 (by omega),R5 (by omega),if_pos (by omega),u9 (by omega)];exact atc (by omega) (by omega)]at q2
  obtain⟨t0,T0⟩:=Y4 S k8
  obtain⟨t1,T1⟩:=Y4 L1 k8
  obtain⟨t2,T2⟩:=Y4 R1 k8
  obtain⟨q3,Q3⟩:=bb4 T1 T2 (by omega)
  rw[U5 Q3 T0 fun x y z=>by
   rw[bb6 T1]
   split
   ·rw[U7 (by omega),R5 (by omega),if_pos (by omega),U7 (by omega)];exact atc (by omega) (by omega)
   ·rw[U7 (by omega),R5 (by omega),if_pos (by omega),U7 (by omega)];exact atc (by omega) (by omega)]at q3
  refine⟨some (.val (.int a)),some (.val (shD a h (V7 (a+b) h l 0 0 a h))),some (.val (shD b h (V7 (a+b) h l a 0 b h))),?_⟩
  unfold al4
  simp only[sIf,en,tB2,A4,A1,dC,xg0,xg1,xbs,bk6,gt,S4,if_true]
  refine(D5 (by wp_walk using evD,ed,c1;rfl)).trans ?_
  refine(D5 (by wp_walk using evD,al8,p1,p2,c2;rfl)).trans ?_
  refine(D5 (by wp_walk using evD,q1,nes;rfl)).trans ?_
  refine(D5 (by wp_walk using evD,m0,m1,m2,q2,nes;rfl)).trans ?_
  wp_walk using evD,t0,t1,t2,q3,nes
 ·have gt:decide ((1:Int) < (w:Int))=false:=decide_eq_false (by omega)
  exact⟨none,none,none,by wp_walk using evD,al4,gt⟩
theorem st3{ns:List Int}(hn:ns.length<=63) {w h:Nat}{l:List Q4}(S:ShOk 8 w h l) (w3:w<=3) (h3:h<=3) (a5 a6 a7:Option B):∃b5 a8 a9,al3 (en ns w h l [a5,a6,a7,none,none,none,none,none,none,none])=some (.nx (en ns w h l [b5,a6,a7,a8,a9,none,none,none,none,none])):=by
 by_cases c:1 < h
 ·obtain⟨d,ed,ld⟩:=V9 ns 301 (h - 1) hn (by decide) (by omega)
  have ed:D3 [scr ns,.int 301,.int ((h - 1:Nat):Int)]=some (.int d):=ed
  rw[show((h - 1:Nat):Int)=(h:Int) - 1 by omega]at ed
  obtain⟨a,ha⟩:∃a,a=1+d:=⟨_,rfl⟩
  obtain⟨b,rfl⟩:∃b,h=a+b:=⟨h - a,by omega⟩
  have w1:=S.w1
  have w8:=S.w8
  have k8:1<=8:=by decide
  have c1:(1+(d:Int))=(a:Int):=by omega
  have c2:((a+b:Nat):Int) - (a:Int)=(b:Int):=by omega
  have gt:decide ((1:Int) < ((a+b:Nat):Int))=true:=decide_eq_true (by omega)
  obtain⟨p1,L1⟩:=l5 S k8 0 0 (wide:=w) (high:=a) w1 w8 (by omega) (by omega)
  obtain⟨p2,R1⟩:=l5 S k8 0 (a:Int) (wide:=w) (high:=b) w1 w8 (by omega) (by omega)
  obtain⟨q1,Q1⟩:=bb4 L1 R1 (by omega)
  rw[U5 Q1 S fun x y z=>by
   rw[bb6 L1]
   split
   ·rw[R5 w1,if_pos (by omega)];exact atc (by omega) (by omega)
   ·rw[R5 w1,if_pos (by omega)];exact atc (by omega) (by omega)]at q1
  obtain⟨t0,T0⟩:=Y4 S k8
  obtain⟨t1,T1⟩:=Y4 L1 k8
  obtain⟨t2,T2⟩:=Y4 R1 k8
  obtain⟨q3,Q3⟩:=u8 T2 T1 k8 (by omega)
  rw[Nat.add_comm b a]at q3 Q3
  rw[U5 Q3 T0 fun x y z=>by
   rw[aG9 T2 (Nat.add_comm a b)]
   split
   ·rw[U7 (by omega),R5 w1,if_pos (by omega),U7 (by omega)];exact atc (by omega) (by omega)
   ·rw[U7 (by omega),R5 w1,if_pos (by omega),U7 (by omega)];exact atc (by omega) (by omega)]at q3
  refine⟨some (.val (.int a)),some (.val (shD w a (V7 w (a+b) l 0 0 w a))),some (.val (shD w b (V7 w (a+b) l 0 a w b))),?_⟩
  unfold al3
  simp only[sIf,en,tB2,A4,A1,dC,xg0,xg1,xbs,bk6,gt,S4,if_true]
  refine(D5 (by wp_walk using evD,ed,c1;rfl)).trans ?_
  refine(D5 (by wp_walk using evD,al8,p1,p2,c2;rfl)).trans ?_
  refine(D5 (by wp_walk using evD,q1,nes;rfl)).trans ?_
  wp_walk using evD,t0,t1,t2,q3,nes
 ·have gt:decide ((1:Int) < (h:Int))=false:=decide_eq_false (by omega)
  exact⟨a5,none,none,by wp_walk using evD,al3,gt⟩
theorem bD8{ns:List Int}(hn:ns.length<=63):∃(w h:Nat) (l:List Q4),ap5 [scr ns,.int 0]=some (shD w h l)/\ShOk 8 w h l/\w<=3/\h<=3:=by
 obtain⟨d0,e0,l0⟩:=V9 ns 0 3 hn (by decide) (by decide)
 have e0:D3 [scr ns,.int 0,.int 3]=some (.int d0):=e0
 obtain⟨d1,e1,l1⟩:=V9 ns 1 3 hn (by decide) (by decide)
 have e1:D3 [scr ns,.int 1,.int 3]=some (.int d1):=e1
 obtain⟨l,el,S⟩:=m5 ns 2 (1+d0) (1+d1) hn (by decide) (by omega) (by omega) (by omega) (by omega)
 have el:T4 [scr ns,.int 2,.int ((1+d0:Nat):Int),.int ((1+d1:Nat):Int)]=some (shD (1+d0) (1+d1) l):=el
 have k0:(1+(d0:Int))=((1+d0:Nat):Int):=by omega
 have k1:(1+(d1:Int))=((1+d1:Nat):Int):=by omega
 refine⟨1+d0,1+d1,l,B7 (ρ:=[some (.val (scr ns)),some (.val (.int 0))]) rfl ?_,S,by omega,by omega⟩
 have z0:(0:Int)+1=1:=rfl
 have z2:(0:Int)+2=2:=rfl
 wp_walk using evD,aH4,z0,z2,e0,e1,k0,k1,el
theorem aU6:∀n:Nat,n < 6->∃m:Man,atI ([.str "over", .str "multiply", .str "screen", .str "plus", .str "atop", .str "cut"]:List D) (n:Int)=some (.str m.s)
 | 0,_=>⟨.over,rfl⟩
 | 1,_=>⟨.mult,rfl⟩
 | 2,_=>⟨.screen,rfl⟩
 | 3,_=>⟨.plus,rfl⟩
 | 4,_=>⟨.atop,rfl⟩
 | 5,_=>⟨.cut,rfl⟩
theorem bJ6(p:G.Sp×Int):Ly 4 (prD p):=Ly.tup fun x hx=>by
 simp only[List.mem_cons,List.not_mem_nil,or_false]at hx
 rcases hx with rfl|rfl
 ·exact ae1 _
 ·exact Ly.int _ _
theorem aU5{w h:Nat}{l:List Q4}(S:ShOk 8 w h l) (w3:w<=3) (h3:h<=3):mnQ (P5 w h 2 l)=mnQ l:=by
 have w9:w*h<=9:=Nat.mul_le_mul w3 h3
 have w1:1<=w*h:=Nat.mul_le_mul S.w1 S.h1
 have pm:=ae7 S
 have ln:=pm.length_eq
 simp only[List.length_append,S.len]at ln
 obtain⟨_,G1⟩:=Z3 S (by decide) (b:=2) (by decide) (by omega) (by omega)
 have one:∀p,men ((P5 w h 2 l).map fun q=>q.pt p)=men (l.map fun q=>q.pt p):=fun p=>by
  refine aK6 (m:=4) (by decide) (by rw[List.length_map,S.len];omega) ?_ (by rw[List.length_map,List.length_map,S.len,ln];omega) (aA0 (k:=8) fun r hr=>?_) (aA0 (k:=8) fun r hr=>?_) (by rw[List.length_map,S.len];omega) (by rw[List.length_map,ln];omega)
  ·rw[aI8 (pm.map _),List.map_append,List.map_append,ac3,ac3]
   have:((4:Nat):Rat)=4:=rfl
   rw[this]
   grind
  ·obtain⟨q,hq,rfl⟩:=List.mem_map.mp hr
   exact aR2 (S.ok q hq) p
  ·obtain⟨q,hq,rfl⟩:=List.mem_map.mp hr
   exact aR2 (G1.ok q hq) p
 unfold mnQ
 have a0:=one 0
 have a1:=one 1
 have a2:=one 2
 have a3:=one 3
 simp only[Q4.pt]at a0 a1 a2 a3
 rw[a0,a1,a2,a3]
theorem main:∀ns:List Int,ns.length<=63->aH7 [.list (ns.map PyData.int)]=some (.bool true):=by
 intro ns hn
 obtain⟨w,h,l,el,S,w3,h3⟩:=bD8 hn
 have w1:=S.w1
 have h1:=S.h1
 have k8:1<=8:=by decide
 have w9:w*h<=9:=Nat.mul_le_mul w3 h3
 obtain⟨a5,a6,a7,s2⟩:=st2 hn S w3 h3
 obtain⟨b5,a8,a9,s3⟩:=st3 hn S w3 h3 a5 a6 a7
 obtain⟨g2,G2⟩:=Z3 S k8 (b:=2) (by decide) (by omega) (by omega)
 have g2:N1 [shD w h l,.int 2]=some (shD (w*2) (h*2) (P5 w h 2 l)):=g2
 have ln:=(ae7 S).length_eq
 simp only[List.length_append,S.len]at ln
 obtain⟨r,r1,r2,r3,r4⟩:=ay0 (w:=w) (h:=h) (w2:=w*2) (h2:=h*2) (l:=l) (l2:=P5 w h 2 l) 4 (by rw[S.len];omega) (by rw[ln];omega) (bB6 S) fun k=>by
  rw[((ae7 S).map spK).count_eq]
  simp only[List.map_append,List.count_append]
  omega
 have cc:J7 2 [] (U6 (A2 R0 (A0 (A1 1) A3))) (O2 2 (B2 (J5 0) (B2 (J5 1) O6))) L0 (O7 (A0 (A1 0) (A0 (A4 R9 (dC (.int 4)) (A1 1)) A3))) (en ns w h l [b5,a6,a7,a8,a9,some (.val (shD (w*2) (h*2) (P5 w h 2 l))),none,none,none,none])=some (r.map fun p=>prD (p.1,4*p.2)):=by
  refine f8 (l:=r) (h1:=fun p=>e2 p.1) (h2:=fun p=>.int p.2) (r:=[]) rfl ?_ (by omega) fun p hp=>?_
  ·wp_walk using evD,r1
   rfl
  ·obtain⟨q1,q2⟩:=r4 p hp
   wp_walk using evD,an3 (i:=4) (j:=p.2) (by omega) (by omega) (by omega) (by omega)
   rfl
 have ne5:neD (.list (r.map fun p=>prD (p.1,4*p.2))) (.list (r.map fun p=>prD (p.1,4*p.2)))=some (.bool false):=an1 (n:=5) (Ly.lst fun x hx=>by obtain⟨p,_,rfl⟩:=List.mem_map.mp hx;exact bJ6 _) (by decide)
 have m1:=l9 S (by decide)
 have m2:=l9 G2 (by decide)
 rw[aU5 S w3 h3]at m2
 have ne6:neD (mnQ l).d (mnQ l).d=some (.bool false):=an1 (Ly.q4 _ 0) (by decide)
 obtain⟨g1,G1⟩:=Z3 S k8 (b:=1) (by decide) (by omega) (by omega)
 rw[Nat.mul_one,Nat.mul_one]at g1 G1
 rw[U5 G1 S fun x y z=>by
  have:=Z6 (w:=w) (h:=h) (b:=1) (A:=l) w1 (by decide) x y
  rw[Nat.mul_one,Nat.mul_one]at this
  rw[this]
  exact atc (Int.ediv_one x) (Int.ediv_one y)]at g1
 have g1:N1 [shD w h l,.int 1]=some (shD w h l):=g1
 obtain⟨i0,I0⟩:=ad7 S k8
 obtain⟨i1,I1⟩:=Z3 I0 k8 (b:=2) (by decide) (by omega) (by omega)
 have i1:N1 [shD w h (an4 w h l),.int 2]=some (shD (w*2) (h*2) (P5 w h 2 (an4 w h l))):=i1
 obtain⟨i2,I2⟩:=ad7 G2 k8
 rw[U5 I1 I2 fun x y z=>by
  rw[Z6 w1 (by decide),u9 w1,u9 (by omega),Z6 w1 (by decide)]
  exact atc (by omega) rfl]at i1
 obtain⟨t0,T0⟩:=Y4 S k8
 obtain⟨t1,T1⟩:=Z3 T0 k8 (b:=2) (by decide) (by omega) (by omega)
 have t1:N1 [shD h w (ak9 w h l),.int 2]=some (shD (h*2) (w*2) (P5 h w 2 (ak9 w h l))):=t1
 obtain⟨t2,T2⟩:=Y4 G2 k8
 rw[U5 T1 T2 fun x y z=>by
  rw[Z6 h1 (by decide),U7 h1,U7 (by omega),Z6 w1 (by decide)]
  exact atc rfl (by omega)]at t1
 obtain⟨u,hu⟩:∃u,u=min 2 w:=⟨_,rfl⟩
 obtain⟨v,hv⟩:∃v,v=min 2 h:=⟨_,rfl⟩
 have ku:(if(w:Int) < 2 then(w:Int) else 2)=(u:Int):=by split<;>omega
 have kv:(if(h:Int) < 2 then(h:Int) else 2)=(v:Int):=by split<;>omega
 obtain⟨p1,P1⟩:=l5 S k8 0 0 (wide:=u) (high:=v) (by omega) (by omega) (by omega) (by omega)
 have p1:P9 [shD w h l,.int 0,.int 0,.int u,.int v]=some (shD u v (V7 w h l 0 0 u v)):=p1
 generalize V7 w h l 0 0 u v=L at p1 P1
 have u1:=P1.w1
 obtain⟨c1,C1⟩:=Z3 P1 k8 (b:=2) (by decide) (by omega) (by omega)
 have c1:N1 [shD u v L,.int 2]=some (shD (u*2) (v*2) (P5 u v 2 L)):=c1
 obtain⟨c2,C2⟩:=Z3 C1 k8 (b:=2) (by decide) (by omega) (by omega)
 have c2:N1 [shD (u*2) (v*2) (P5 u v 2 L),.int 2]=some (shD (u*2*2) (v*2*2) (P5 (u*2) (v*2) 2 (P5 u v 2 L))):=c2
 obtain⟨c4,C4⟩:=Z3 P1 k8 (b:=4) (by decide) (by omega) (by omega)
 have c4:N1 [shD u v L,.int 4]=some (shD (u*4) (v*4) (P5 u v 4 L)):=c4
 rw[Nat.mul_assoc,Nat.mul_assoc]at c2 C2
 rw[U5 C2 C4 fun x y z=>by
  have:=Z6 (w:=u*2) (h:=v*2) (b:=2) (A:=P5 u v 2 L) (by omega) (by decide) x y
  rw[Nat.mul_assoc,Nat.mul_assoc]at this
  rw[this,Z6 u1 (by decide),Z6 u1 (by decide)]
  exact atc (by omega) (by omega)]at c2
 obtain⟨l',el',S'⟩:=m5 ns 150 w h hn (by decide) (by omega) (by omega) (by omega) (by omega)
 have el':T4 [scr ns,.int 150,.int w,.int h]=some (shD w h l'):=el'
 obtain⟨d2,e2',l2⟩:=V9 ns 302 6 hn (by decide) (by decide)
 have e2':D3 [scr ns,.int 302,.int 6]=some (.int d2):=e2'
 obtain⟨m,hm⟩:=aU6 d2 l2
 obtain⟨x1,X1⟩:=az9 m S S' (by decide)
 obtain⟨x2,X2⟩:=az9 m S' S (by decide)
 obtain⟨y1,Y1⟩:=u8 X1 X2 (by decide) (by omega)
 obtain⟨z1,Z1⟩:=u8 S S' k8 (by omega)
 obtain⟨z2,Z2⟩:=u8 S' S k8 (by omega)
 obtain⟨o,O1⟩:=az9 m Z1 Z2 (by decide)
 rw[U5 O1 Y1 fun x y z=>by
  rw[bb5 m Z1 Z2,af4 S,af4 S',af4 X1]
  split
  ·rw[bb5 m S S']
  ·rw[bb5 m S' S]]at o
 have eq1:eqD (shD (w+w) h (ah0 w w h (blL m l l') (blL m l' l))) (shD (w+w) h (ah0 w w h (blL m l l') (blL m l' l)))=some (.bool true):=bl2 (Ly.sheet ..) (by decide)
 refine B7 (ρ:=[some (.val (scr ns)),none,none,none,none,none,none,none,none,none,none,none,none,none,none]) rfl ?_
 unfold bq0
 refine(D5 (by wp_walk using evD,aP4,el;rfl)).trans ?_
 refine(D5 (show _=some (Fl.nx (en ns w h l [none,none,none,none,none,none,none,none,none,none])) from rfl)).trans ?_
 refine(D5 s2).trans ?_
 refine(D5 s3).trans ?_
 refine(D5 (show _=some (Fl.nx (en ns w h l [b5,a6,a7,a8,a9,some (.val (shD (w*2) (h*2) (P5 w h 2 l))),none,none,none,none])) from by wp_walk using evD,aP3,en,g2)).trans ?_
 refine(D5 (show _=some (Fl.nx (en ns w h l [b5,a6,a7,a8,a9,some (.val (shD (w*2) (h*2) (P5 w h 2 l))),none,none,none,none])) from by
  simp only[en]at cc
  wp_walk using evD,aP2,en,cc,r2,ne5)).trans ?_
 refine(D5 (show _=some (Fl.nx (en ns w h l [b5,a6,a7,a8,a9,some (.val (shD (w*2) (h*2) (P5 w h 2 l))),none,none,none,none])) from by wp_walk using evD,aP1,en,m1,m2,ne6)).trans ?_
 refine(D5 (show _=some (Fl.nx (en ns w h l [b5,a6,a7,a8,a9,some (.val (shD (w*2) (h*2) (P5 w h 2 l))),none,none,none,none])) from by wp_walk using evD,aP0,en,g1,nes,i0,i1,i2)).trans ?_
 refine(D5 (show _=some (Fl.nx (en ns w h l [b5,a6,a7,a8,a9,some (.val (shD (w*2) (h*2) (P5 w h 2 l))),none,none,none,none])) from by wp_walk using evD,aO9,en,t0,t1,t2,nes)).trans ?_
 refine(D5 (show _=some (Fl.nx (en ns w h l [b5,a6,a7,a8,a9,some (.val (shD (w*2) (h*2) (P5 w h 2 l))),some (.val (shD u v L)),none,none,none])) from by wp_walk using evD,aO8,en,au6,ku,kv,p1)).trans ?_
 refine(D5 (show _=some (Fl.nx (en ns w h l [b5,a6,a7,a8,a9,some (.val (shD (w*2) (h*2) (P5 w h 2 l))),some (.val (shD u v L)),none,none,none])) from by wp_walk using evD,aC1,en,c1,c2,c4,nes)).trans ?_
 refine(D5 (by wp_walk using evD,aC0,en,el';rfl)).trans ?_
 refine(D5 (by wp_walk using evD,aB9,e2',hm;rfl)).trans ?_
 refine(D5 (by wp_walk using evD,aB8,x1,x2,y1;rfl)).trans ?_
 wp_walk using evD,aB7,z1,z2,o,eq1
end Lk15
namespace Lk15
open PySem PySem.Spec PyProof.Rows L2 G Sh
def zcs:List (Str×D):=[("ONE", (.tuple [(.int 1),(.int 1)])),("CLEAR", (.tuple [(.tuple [(.int 0),(.int 1)]),(.tuple [(.int 0),(.int 1)]),(.tuple [(.int 0),(.int 1)]),(.tuple [(.int 0),(.int 1)])])),("GREATEST", (.int 8))]
def zbl:List Str:=["len", "min", "range", "sorted", "tuple", "zip"]
def tb0:Tab:=[]
def t9:Fd:=fdm "common_divisor" (top 5) 2 ["one", "other", "left_over"] true
def ao8:Fd:=fdm "least_form" (top 6) 2 ["top", "under", "divisor"] true
def ao9:Fd:=fdm "is_at_most" (top 7) 2 ["one", "other"] true
def bl7:Fd:=fdm "added" (top 8) 2 ["one", "other"] true
def az0:Fd:=fdm "lessened" (top 9) 2 ["one", "other"] true
def bl3:Fd:=fdm "times" (top 10) 2 ["one", "other"] true
def aM5:Fd:=fdm "divided" (top 11) 2 ["one", "other"] true
def aL7:Fd:=fdm "rest_of" (top 12) 1 ["share"] true
def ag6:Fd:=fdm "at_most_one" (top 13) 1 ["fraction"] true
def aa4:Fd:=fdm "blended_cover" (top 16) 3 ["manner", "c", "d"] true
def u5:Fd:=fdm "blended_colour" (top 17) 5 ["manner", "c", "d", "x", "y", "through"] true
def aM6:Fd:={ fdm "blended" (top 18) 3 ["manner", "above", "below", "c", "d", "colours"] true with hc:=[((57,14),[0,3,4])] }
def au1:Fd:={ fdm "places_of" (top 21) 2 ["wide", "high"] with hc:=[((62,11),[0])] }
def au4:Fd:=fdm "has_place" (top 22) 3 ["sheet", "x", "y"]
def n6:Fd:=fdm "number_of_place" (top 23) 3 ["sheet", "x", "y"]
def aL6:Fd:=fdm "spot_at" (top 24) 3 ["sheet", "x", "y"]
def aL8:Fd:={ fdm "part_of" (top 25) 5 ["sheet", "left", "top", "wide", "high"] with hc:=[((72,30),[0,1,2])] }
def ay9:Fd:={ fdm "mirrored" (top 26) 1 ["sheet", "wide", "high"] with hc:=[((76,30),[0,1])] }
def aZ9:Fd:={ fdm "turned" (top 27) 1 ["sheet", "wide", "high"] with hc:=[((80,30),[0,2])] }
def u4:Fd:={ fdm "blended_sheets" (top 28) 3 ["manner", "above", "below", "spots"] with hc:=[((82,12),[0])] }
def ag5:Fd:=fdm "spot_beside" (top 30) 4 ["one", "other", "x", "y"]
def ao7:Fd:={ fdm "set_beside" (top 31) 2 ["one", "other", "wide", "high"] with hc:=[((92,30),[0,1])] }
def au0:Fd:=fdm "set_below" (top 32) 2 ["one", "other", "wide", "high"]
def bl6:Fd:={ fdm "grown" (top 33) 2 ["sheet", "by", "wide", "high"] with hc:=[((104,30),[0,1])] }
def az1:Fd:={ fdm "kinds_in" (top 35) 1 ["sheet", "places_by_spot", "spot"] with own:=[1] }
theorem aA3:O3 (top 35)=[.Assign [(.Name "places_by_spot" ⟨107,4,107,18⟩)] (.Dict [] [] ⟨107,21,107,23⟩) ⟨107,4,107,23⟩,.For (.Name "spot" ⟨108,8,108,12⟩) (.Subscript (.Name "sheet" ⟨108,16,108,21⟩) (.Constant (.int 2) 0 ⟨108,22,108,23⟩) ⟨108,16,108,24⟩) [.Assign [(.Subscript (.Name "places_by_spot" ⟨109,8,109,22⟩) (.Name "spot" ⟨109,23,109,27⟩) ⟨109,8,109,28⟩)] (.BinOp (.Call (.Attribute (.Name "places_by_spot" ⟨109,31,109,45⟩) "get" ⟨109,31,109,49⟩) [(.Name "spot" ⟨109,50,109,54⟩),(.Constant (.int 0) 0 ⟨109,56,109,57⟩)] [] ⟨109,31,109,58⟩) .Add (.Constant (.int 1) 0 ⟨109,61,109,62⟩) ⟨109,31,109,62⟩) ⟨109,8,109,62⟩] [] ⟨108,4,109,62⟩,.Return (some (.Call (.Name "sorted" ⟨110,11,110,17⟩) [(.Call (.Attribute (.Name "places_by_spot" ⟨110,18,110,32⟩) "items" ⟨110,18,110,38⟩) [] [] ⟨110,18,110,40⟩)] [] ⟨110,11,110,41⟩)) ⟨110,4,110,41⟩]:=by kernel_rfl
def aL9:Fd:=fdm "mean_of" (top 36) 1 ["shares", "total", "share"]
def au3:Fd:={ fdm "mean_part" (top 37) 2 ["sheet", "part"] with hc:=[((117,19),[1])] }
def au2:Fd:={ fdm "mean_spot" (top 38) 1 ["sheet"] with hc:=[((119,17),[0])] }
def ba2:Fd:=fdm "_law_cell" (top 40) 2 ["_law_script", "_law_k"] true
def aM3:Fd:=fdm "_law_drawn" (top 41) 3 ["_law_script", "_law_k", "_law_many", "_law_cell_here"] true
def ba1:Fd:=fdm "_law_made" (top 42) 2 ["_law_top", "_law_under", "_law_one", "_law_by"] true
def aM0:Fd:=fdm "_law_times" (top 43) 2 ["_law_one", "_law_other"] true
def aM2:Fd:=fdm "_law_share" (top 44) 2 ["_law_script", "_law_at", "_law_under", "_law_drawn_here"] true
def ba0:Fd:={ fdm "_law_spot" (top 45) 2 ["_law_script", "_law_at", "_law_cover"] true with hc:=[((143,33),[2,0,1])] }
def aM1:Fd:={ fdm "_law_sheet" (top 46) 4 ["_law_script", "_law_at", "_law_wide", "_law_high", "_law_spots"] with hc:=[((145,17),[0,1])] }
def bl5:Fd:=fdm "_law_any" (top 47) 2 ["_law_script", "_law_at"]
def bo8:Fd:=fdm "law" (top 48) 1 ["_law_script", "_law_sheet_here", "_law_wide", "_law_high", "_law_spots", "_law_at", "_law_left", "_law_right", "_law_upper", "_law_lower", "_law_twice", "_law_small", "_law_other", "_law_manner", "_law_both"]
structure Qs (K:PySem.W.Frag):Prop where
 h_common_divisor:KF K "common_divisor" (top 5)
 h_least_form:KF K "least_form" (top 6)
 h_is_at_most:KF K "is_at_most" (top 7)
 h_added:KF K "added" (top 8)
 h_lessened:KF K "lessened" (top 9)
 h_times:KF K "times" (top 10)
 h_divided:KF K "divided" (top 11)
 h_rest_of:KF K "rest_of" (top 12)
 h_at_most_one:KF K "at_most_one" (top 13)
 h_blended_cover:KF K "blended_cover" (top 16)
 h_blended_colour:KF K "blended_colour" (top 17)
 h_blended:KF K "blended" (top 18)
 h_places_of:KF K "places_of" (top 21)
 h_has_place:KF K "has_place" (top 22)
 h_number_of_place:KF K "number_of_place" (top 23)
 h_spot_at:KF K "spot_at" (top 24)
 h_part_of:KF K "part_of" (top 25)
 h_mirrored:KF K "mirrored" (top 26)
 h_turned:KF K "turned" (top 27)
 h_blended_sheets:KF K "blended_sheets" (top 28)
 h_spot_beside:KF K "spot_beside" (top 30)
 h_set_beside:KF K "set_beside" (top 31)
 h_set_below:KF K "set_below" (top 32)
 h_grown:KF K "grown" (top 33)
 h_kinds_in:KF K "kinds_in" (top 35)
 h_mean_of:KF K "mean_of" (top 36)
 h_mean_part:KF K "mean_part" (top 37)
 h_mean_spot:KF K "mean_spot" (top 38)
 h_l_cell:KF K "_law_cell" (top 40)
 h_l_drawn:KF K "_law_drawn" (top 41)
 h_l_made:KF K "_law_made" (top 42)
 h_l_times:KF K "_law_times" (top 43)
 h_l_share:KF K "_law_share" (top 44)
 h_l_spot:KF K "_law_spot" (top 45)
 h_l_sheet:KF K "_law_sheet" (top 46)
 h_l_any:KF K "_law_any" (top 47)
 h_law:KF K "law" (top 48)
theorem bN3{P:Program}{w:World}{K:PySem.W.Frag}{mg:Str->Option Value}(M:Md K mg zcs zbl) (q:Qs K):∃tab,rd tab zcs zbl bo8=aH7/\∀base:Heap,TOk P w K mg base 36 tab:=by
 refine⟨?tab,?e,fun base=>?t⟩
 case t =>
  have t:TOk P w K mg base 0 tb0:=TOk.nil
  have t:=t.add M t9 q.h_common_divisor R3
  have t:=t.add M ao8 q.h_least_form O8
  have t:=t.add M ao9 q.h_is_at_most X9
  have t:=t.add M bl7 q.h_added O4
  have t:=t.add M az0 q.h_lessened T7
  have t:=t.add M bl3 q.h_times S9
  have t:=t.add M aM5 q.h_divided c7
  have t:=t.add M aL7 q.h_rest_of W5
  have t:=t.add M ag6 q.h_at_most_one R8
  have t:=t.add M aa4 q.h_blended_cover S5
  have t:=t.add M u5 q.h_blended_colour R4
  have t:=t.add M aM6 q.h_blended W7
  have t:=t.add M au1 q.h_places_of J3
  have t:=t.add M au4 q.h_has_place Z7
  have t:=t.add M n6 q.h_number_of_place Q6
  have t:=t.add M aL6 q.h_spot_at M6
  have t:=t.add M aL8 q.h_part_of P9
  have t:=t.add M ay9 q.h_mirrored P6
  have t:=t.add M aZ9 q.h_turned P2
  have t:=t.add M u4 q.h_blended_sheets N3
  have t:=t.add M ag5 q.h_spot_beside R7
  have t:=t.add M ao7 q.h_set_beside M9
  have t:=t.add M au0 q.h_set_below U3
  have t:=t.add M bl6 q.h_grown N1
  have t:TOk P w K mg base 24 _:=t
  have t:=t.addK M az1 q.h_kinds_in aV2 fun X F=>(show JSs X (O3 (top 35)) _ by rw[aA3];exact bh4 F rfl (by kernel_rfl) (by kernel_rfl) rfl rfl rfl)
  have t:=t.add M aL9 q.h_mean_of v8
  have t:=t.add M au3 q.h_mean_part S1
  have t:=t.add M au2 q.h_mean_spot U4
  have t:=t.add M ba2 q.h_l_cell ag0
  have t:=t.add M aM3 q.h_l_drawn D3
  have t:=t.add M ba1 q.h_l_made o9
  have t:=t.add M aM0 q.h_l_times v9
  have t:=t.add M aM2 q.h_l_share c6
  have t:=t.add M ba0 q.h_l_spot W6
  have t:=t.add M aM1 q.h_l_sheet T4
  have t:=t.add M bl5 q.h_l_any ap5
  exact t
 case e=>kernel_rfl
theorem zmd{K:PySem.W.Frag}{h:Heap}{mg:Str->Option Value}{q0 q1t0 q1t1 q1t2 q1t3 q1:Addr}{y0 y1t0 y1t1 y1t2 y1t3 y1:Array (Option Value)}{g0t0 g0t1 g1t0t0 g1t0t1 g1t1t0 g1t1t1 g1t2t0 g1t2t1 g1t3t0 g1t3t1 g2:Tok}{n0 n1t0 n1t1 n1t2 n1t3 n1:Nat}(X:K.In h) (G:h.Ns mainGlobals mg) (p0:PySem.W.nsIn K mainGlobals "ONE" = some (some (.ref q0))) (r0:K.lookup q0=some ⟨.type "tuple", none,.seq #[.int 1 g0t0,.int 1 g0t1] n0,y0⟩) (p1:PySem.W.nsIn K mainGlobals "CLEAR" = some (some (.ref q1))) (r1:K.lookup q1=some ⟨.type "tuple", none,.seq #[.ref q1t0,.ref q1t1,.ref q1t2,.ref q1t3] n1,y1⟩) (r1t3:K.lookup q1t3=some ⟨.type "tuple", none,.seq #[.int 0 g1t3t0,.int 1 g1t3t1] n1t3,y1t3⟩) (r1t2:K.lookup q1t2=some ⟨.type "tuple", none,.seq #[.int 0 g1t2t0,.int 1 g1t2t1] n1t2,y1t2⟩) (r1t1:K.lookup q1t1=some ⟨.type "tuple", none,.seq #[.int 0 g1t1t0,.int 1 g1t1t1] n1t1,y1t1⟩) (r1t0:K.lookup q1t0=some ⟨.type "tuple", none,.seq #[.int 0 g1t0t0,.int 1 g1t0t1] n1t0,y1t0⟩) (p2:PySem.W.nsIn K mainGlobals "GREATEST" = some (some (.int 8 g2))) (z0:PySem.W.nsIn K mainGlobals "len" = some none) (z1:PySem.W.nsIn K mainGlobals "min" = some none) (z2:PySem.W.nsIn K mainGlobals "range" = some none) (z3:PySem.W.nsIn K mainGlobals "sorted" = some none) (z4:PySem.W.nsIn K mainGlobals "tuple" = some none) (z5:PySem.W.nsIn K mainGlobals "zip" = some none):Md K mg zcs zbl:=by
 refine⟨fun x v e=>PySem.W.mg_of X G e,fun x d e=>?_,fun x e=>?_⟩
 ·unfold zcs at e
  rw[List.lookup_cons]at e
  split at e
  ·rename_i q;cases e;simp only[beq_iff_eq]at q;subst q;exact⟨_,(V8 r0 rfl rfl rfl (by show 2<=1000;decide) (F1 (O5 1 g0t0) (F1 (O5 1 g0t1) T3))),PySem.W.mg_of X G p0⟩
  rw[List.lookup_cons]at e
  split at e
  ·rename_i q;cases e;simp only[beq_iff_eq]at q;subst q;exact⟨_,(V8 r1 rfl rfl rfl (by show 4<=1000;decide) (F1 (V8 r1t0 rfl rfl rfl (by show 2<=1000;decide) (F1 (O5 0 g1t0t0) (F1 (O5 1 g1t0t1) T3))) (F1 (V8 r1t1 rfl rfl rfl (by show 2<=1000;decide) (F1 (O5 0 g1t1t0) (F1 (O5 1 g1t1t1) T3))) (F1 (V8 r1t2 rfl rfl rfl (by show 2<=1000;decide) (F1 (O5 0 g1t2t0) (F1 (O5 1 g1t2t1) T3))) (F1 (V8 r1t3 rfl rfl rfl (by show 2<=1000;decide) (F1 (O5 0 g1t3t0) (F1 (O5 1 g1t3t1) T3))) T3))))),PySem.W.mg_of X G p1⟩
  rw[List.lookup_cons]at e
  split at e
  ·rename_i q;cases e;simp only[beq_iff_eq]at q;subst q;exact⟨_,(O5 8 g2),PySem.W.mg_of X G p2⟩
  cases e
 ·unfold zbl at e
  simp only[List.contains_cons,List.contains_nil,Bool.or_false,Bool.or_eq_true,beq_iff_eq]at e
  rcases e with e|e|e|e|e|e
  ·subst e;exact PySem.W.mg_none_of X G z0
  ·subst e;exact PySem.W.mg_none_of X G z1
  ·subst e;exact PySem.W.mg_none_of X G z2
  ·subst e;exact PySem.W.mg_none_of X G z3
  ·subst e;exact PySem.W.mg_none_of X G z4
  ·subst e;exact PySem.W.mg_none_of X G z5
theorem bE6{l:PySem.W.OpenLaw}{q:Program}{loose:List Str}{XP:(Str->Option Value)->Heap->Prop}{YP:World->Heap->Prop}{d:DefRec}{K:Params->PySem.W.Frag}(hn:l.most=some 63) (hdf:d.params.defaults=[])
  (hY:∀(w:World) (h:Heap),YP w h->(K w.params).In h) (hd:d.name = "law")
  (F:∀(w:World) (mg:Str->Option Value) (h:Heap),(K w.params).In h->h.Ns mainGlobals mg->Md (K w.params) mg zcs zbl)
  (Q:∀w:World,Qs (K w.params))
  (M:∀ns:List Int,ns.length<=63->aH7 [.list (ns.map PyData.int)]=some (.bool true)) :
  PySem.W.WalkO q loose XP YP l.row.toRowW d [] (fun f vs=>PySem.call f vs) :=
 L2.bc5 (n:=63) (k:=37) (x := "_law_script") (CX:=fun _=>CX0) (sp:=fun w=>spF (K w.params) 1 aH7) hn (by decide) hdf ⟨rfl,by decide,by decide⟩ hY
  (fun w mg fa h hk hg hm=>by
   have N:=F w mg h hk hg
   have q:=Q w
   rw[hd]at hm
   obtain⟨_,e,t⟩:=bN3 N q
   obtain⟨fd,b1,b2⟩:=bh3 N t bo8 q.h_law e hm
   exact⟨fd,b1,fun base _ _=>b2 base⟩)
  (fun w H a ns hl _ hS=>⟨rfl,H,[.list (ns.map PyData.int)],.bool true,C0.refl _,⟨.ref a,[],rfl,⟨a,_,rfl,hS,Reps.ints ns⟩,rfl⟩,M ns hl,fun v H' Hf' g r=>r⟩) fun _ _ _ _ _ z=>z
end Lk15
def PySem.W.Fast.tw10966463871898034268:Unit:=()
def PySem.W.Fast.tw12294999292446691791:Unit:=()
def PySem.W.Fast.tw15459525642358989322:Unit:=()
def PySem.W.Fast.tw4562241156592057631:Unit:=()
def PySem.W.Fast.tw11126409474200818415:Unit:=()
def PySem.W.Fast.tw5504719223605856476:Unit:=()
def PySem.W.Fast.tw9525782373785200886:Unit:=()
def PySem.W.Fast.tw5806493551093179832:Unit:=()
def PySem.W.Fast.tw14803547922291542718:Unit:=()
def PySem.W.Fast.tw6213244416157143403:Unit:=()
def PySem.W.Fast.tw883969857972999559:Unit:=()
def PySem.W.Fast.tw843191351622361427:Unit:=()
def PySem.W.Fast.tw11392146690825780320:Unit:=()
def PySem.W.Fast.tw7368524625538500062:Unit:=()
def PySem.W.Fast.tw3564175960383366513:Unit:=()
def PySem.W.Fast.tw3014326651189141461:Unit:=()
def PySem.W.Fast.tw11684080431855626622:Unit:=()
def PySem.W.Fast.tw16946138794716798805:Unit:=()
def PySem.W.Fast.tw16422859988204075380:Unit:=()
def PySem.W.Fast.tw8063065941077976556:Unit:=()
def PySem.W.Fast.tw1671587445369789603:Unit:=()
def PySem.W.Fast.tw10716671149981460761:Unit:=()
def PySem.W.Fast.tw14674287850979242158:Unit:=()
def PySem.W.Fast.tw193562915809341616:Unit:=()
def PySem.W.Fast.tw17016349976406815060:Unit:=()
def PySem.W.Fast.tw1415400720673800534:Unit:=()
def PySem.W.Fast.tw5314920239358815307:Unit:=()
def PySem.W.Fast.tw3076267001310608042:Unit:=()
def PySem.W.Fast.tw79826463050017783:Unit:=()
def PySem.W.Fast.tw12757232052602981905:Unit:=()
def PySem.W.Fast.tw1531917489629593946:Unit:=()
def PySem.W.Fast.tw5900748959955766817:Unit:=()
def PySem.W.Fast.tw590702240193843894:Unit:=()
def PySem.W.Fast.tw9786358027783733341:Unit:=()
def PySem.W.Fast.tw12506344552657502920:Unit:=()
def PySem.W.Fast.tw7000935932810771044:Unit:=()
def PySem.W.Fast.tw3208506493908619227:Unit:=()
def PySem.W.Fast.tw5446823895050248289:Unit:=()
def PySem.W.Fast.tw7621164881656149248:Unit:=()
def PySem.W.Fast.tw17836002184805439448:Unit:=()
def PySem.W.Fast.tw17408183234881554432:Unit:=()
def PySem.W.Fast.tw8960362096006512126:Unit:=()
def PySem.W.Fast.tw6282918407827423423:Unit:=()
def PySem.W.Fast.tw2489411507868502663:Unit:=()
def PySem.W.Fast.tw14479681357039080559:Unit:=()
def PySem.W.Fast.tw7362360802196423821:Unit:=()
def PySem.W.Fast.tw5507533083240346655:Unit:=()
def PySem.W.Fast.tw17689475014279465115:Unit:=()
def PySem.W.Fast.tw17860389795718700641:Unit:=()
def PySem.W.Fast.tw16866342606392578291:Unit:=()
def PySem.W.Fast.tw1262158386955213647:Unit:=()
def PySem.W.Fast.tw15369124485654061267:Unit:=()
def PySem.W.Fast.tw15544420887115830665:Unit:=()
def PySem.W.Fast.tw9181097827746803319:Unit:=()
def PySem.W.Fast.tw6617712018793837:Unit:=()
def PySem.W.Fast.tw3760187870353987845:Unit:=()
def PySem.W.Fast.tw2779848133002795854:Unit:=()
def PySem.W.Fast.tw8053445357882800898:Unit:=()
def PySem.W.Fast.tw1855555394688206389:Unit:=()
def PySem.W.Fast.tw13386072410391458358:Unit:=()
def PySem.W.Fast.tw246156389497071428:Unit:=()
def PySem.W.Fast.tw9889152558753491423:Unit:=()
def PySem.W.Fast.tw14289978329962249481:Unit:=()
def PySem.W.Fast.tw3916854442004855204:Unit:=()
def PySem.W.Fast.tw13955892361584380266:Unit:=()
def PySem.W.Fast.tw17071565498817529102:Unit:=()
def PySem.W.Fast.tw18334584122156418741:Unit:=()
def PySem.W.Fast.tw1260077201333501534:Unit:=()
def PySem.W.Fast.tw16429620172175765483:Unit:=()
def PySem.W.Fast.tw15913453213776223144:Unit:=()
def PySem.W.Fast.tw9111285399583506287:Unit:=()
def PySem.W.Fast.tw9979943160307854287:Unit:=()
def PySem.W.Fast.tw1591451603877269755:Unit:=()
def PySem.W.Fast.tw15128804270795978762:Unit:=()
def PySem.W.Fast.tw8670346395813634045:Unit:=()
def PySem.W.Fast.tw808974466063493924:Unit:=()
def PySem.W.Fast.tw2406950664269507274:Unit:=()
def PySem.W.Fast.tw4195530404702829139:Unit:=()
def PySem.W.Fast.tw10174705349584393177:Unit:=()
def PySem.W.Fast.tw4162059722598860281:Unit:=()
def PySem.W.Fast.tw16442513926638526154:Unit:=()
def PySem.W.Fast.tw10326506760241535175:Unit:=()
def PySem.W.Fast.tw12225342891267246448:Unit:=()
def PySem.W.Fast.tw7788970420033034314:Unit:=()
def PySem.W.Fast.tw11696946841546542129:Unit:=()
def PySem.W.Fast.tw134983182190220475:Unit:=()
def PySem.W.Fast.tw11192268710180001251:Unit:=()
def PySem.W.Fast.tw1344384124966745177:Unit:=()
def PySem.W.Fast.tw2372647551286483908:Unit:=()
def PySem.W.Fast.tw6741261974653849123:Unit:=()
def PySem.W.Fast.tw4235366094720024652:Unit:=()
def PySem.W.Fast.tw1648075033944754903:Unit:=()
def PySem.W.Fast.tw17360318649798522192:Unit:=()
def PySem.W.Fast.tw18006491557681487447:Unit:=()
namespace Lk15
open PySem PySem.W PyProof.Rows
set_option maxHeartbeats 0 in
open_top head for PySem.Challenge.rw_glazework_k15_whole_put_together
end Lk15
open PySem PySem.W PyProof.Rows
set_option maxRecDepth 100000 in
set_option maxHeartbeats 0 in
theorem PySem.Challenge.cw_glazework_k15_whole_put_together_holds : PySem.Challenge.rw_glazework_k15_whole_put_together.Holds := by
 refine Lk15.head ?_
 k_fill
 refine Lk15.bE6 (l:=PySem.Challenge.rw_glazework_k15_whole_put_together) rfl rfl (fun w h Y=>PySem.W.kIn_of Y) rfl ?F ?Q Lk15.main
 case F =>
  intro w mg h KX G
  refine' Lk15.zmd KX G ?p0 ?r0 ?p1 ?r1 ?r1t3 ?r1t2 ?r1t1 ?r1t0 ?p2 ?z0 ?z1 ?z2 ?z3 ?z4 ?z5
  (case p0=>k_is);(case r0=>k_is);(case p1=>k_is);(case r1=>k_is);(case r1t3=>k_is);(case r1t2=>k_is);(case r1t1=>k_is);(case r1t0=>k_is);(case p2=>k_is);(case z0=>k_is);(case z1=>k_is);(case z2=>k_is);(case z3=>k_is);(case z4=>k_is);(case z5=>k_is)
 case Q =>
  intro w
  constructor
  all_goals (refine' G.bJ9 ?a ?l ?c ?k;(case a=>k_is);(case l=>k_is);(case c=>k_is);(case k=>k_is))
