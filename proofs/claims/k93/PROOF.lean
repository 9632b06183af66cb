import PyProof.Rows.All
import Wide.All
import OpenK.AllK
import Wide.FinOn
import Lean
import PyProof.EqAt
import PyProof.EqKinds
import PyProof.TupleCall
import PySem.Challenge.RW_glazework_k93_whole_folio_texts
open Option renaming bind_eq_some_iff→ae,map_eq_some_iff→af,some→bn,isSome_iff_exists→bD,isSome_map→cJ,bind_some→cM,map_some→cS
open PySem.W renaming Frag→ag,keepIn→aF,nsIn→aH,mg_none_of→aN,fnOf→bj,codeIn→bR,mg_of→cb,excIn→cn
open Bool renaming and_eq_true→ah,false_ne_true→ba,false_eq_true→bf,not_eq_true'→bp,eq_iff_iff→cu,or_false→cW
open Nat renaming le_refl→ai,lt_of_lt_of_le→aA,le_trans→aC,ne_of_lt→aD,sub_self→aQ,pow_le_pow_right→aT,zero_le→aW,mul_le_mul_left→aX,lt_irrefl→bg,lt_or_ge→bx,le_add_right→bC,le_of_lt→bE,mul_pos→bF,mul_le_mul→bI,ne_of_gt→bS,lt_of_le_of_lt→bT,gcd→bV,pow_succ→bY,le_succ→ce,pos_of_ne_zero→cg,lt_succ_self→cj,mul_comm→cx,mod_lt→cA,toDigits→cP,toDigits_of_lt_base→cQ,div_le_self→cU
open List renaming mem_cons_of_mem→aj,getElem?_eq_some_iff→ak,getElem?_append_right→am,size_toArray→ao,replicate→aq,append_nil→ar,mem_append_right→au,getElem?_set_ne→av,getElem?_append_left→aw,mem_cons→ax,length_map→ay,getElem?_set_self→az,lookup_cons→aB,getElem?_map→aE,length_append→aG,mem_append_left→aI,append_assoc→aJ,mem_singleton→aM,length_cons→aO,not_mem_nil→aP,mem_append→aR,all_cons→aS,range→aU,getElem?_eq_getElem→aV,map_map→aY,mem_cons_self→aZ,mem_map→bc,getElem?_replicate→be,map_cons→bh,getElem?_zip_eq_some→bi,nodup_cons→br,of_mem_zip→bu,replicate_succ→bv,length_set→bw,lookup→bz,all_eq_true→bB,map_congr_left→bG,filter_cons→bH,length_replicate→bK,getD_eq_getElem?_getD→bL,find?_cons→bM,flatten_cons→bN,drop_eq_getElem_cons→bO,any_cons→bP,mem_of_getElem?→bQ,mem_filter→bU,length_singleton→bW,set_append_right→bX,map_append→cf,drop_length→ck,foldl_cons→cr,filterMap_cons→cy,foldl→cz,mem_range→cC,mem_filterMap→cD,mem_replicate→cF,contains_cons→cH,set→cI,getElem?_set→cK,length_take→cL,map_reverse→cN,forIn_cons→cR,filter_nil→cV
open Classical renaming byContradiction→aK,choose_spec→cq,choose→cO
open Int renaming natCast_mul→aL,natAbs_natCast→bJ,toNat_natCast→ci
open Array renaming length_toList→bq,getElem?_toList→bA,mem_toList_iff→bZ,getElem?_eq_getElem→ca,all_eq_true'→cG,getElem?_eq_none→cT
open PySem renaming wpAny_bind→cX,wpAny_pure→cY,wpAny_mono→cZ,wpAny_newObj_type→de,wpAny_truthy_bool→dg,wpAny_field→dh,starEach→di,sizeLine→dj,sizeLine_eq→dk,compareOp→dl,mainGlobals→dn,Program→dq,Around→dr,FuncData→dt,bootBuiltins→du,binaryOp→dv,Keyword→dw,assignEach→dy,foldedSetIterable→dz,call_meets→dA,attributeBase→dB,wpAny→dD,model→dE
open PySem.Heap renaming get?_push_of_some→dF,lt_size→dG,get?_push_size→dH
open PySem.SeqAt renaming shaped→dI
open PySem.PyData renaming int→dJ,bool→dL,str→dM,canLay0→dN
open PySem.Value renaming ref→dO,none→dP
open PySem.NameKind renaming free→dQ
open PySem.Str renaming empty→dR
open PySem renaming Value→dU
open PySem renaming Shared→dW
open PySem renaming Addr→dX
set_option compiler.extract_closed false
noncomputable section
set_option autoImplicit true
set_option Elab.async false
set_option linter.all false
set_option maxRecDepth 100000
namespace L2
open PySem PySem.Spec PyProof.Rows
noncomputable abbrev Key:=Sum Int Str
noncomputable def ar8:Key->dU->Bool
 | .inl k,v=>Value.isInt k v
 | .inr x,v=>Value.isStrOf x v
noncomputable def cF8(w:World):Key->Int
 | .inl k=>hashInt k
 | .inr x=>hashStr w x
theorem L9:∀{k:Key}{v:dU},ar8 k v=true->(∃i t,k=Sum.inl i/\v=Value.int i t)\/(∃x t,k=Sum.inr x/\v=Value.str x t)
 | .inl i,v,h=>by
  obtain⟨t,e⟩:=Value.isInt_shape (k:=i) (v:=v) h;exact .inl ⟨i,t,rfl,e⟩
 | .inr x,v,h=>by
  obtain⟨t,e⟩:=Value.isStrOf_shape (x:=x) (v:=v) h;exact .inr ⟨x,t,rfl,e⟩
theorem bf2(i:Int)(t:Tok):ar8 (.inl i) (.int i t)=true:=by simp[ar8,Value.isInt]
theorem bf1(x:Str)(t:Tok):ar8 (.inr x) (.str x t)=true:=by simp[ar8,Value.isStrOf]
theorem ch3(a b:Int):decide ((Sum.inl a:Key)=Sum.inl b)=(a==b):=by
 by_cases e:a=b
 ·subst e;simp
 ·have h:¬(Sum.inl a:Key)=Sum.inl b:=λq=>e (Sum.inl.inj q)
  rw[decide_eq_false h];exact(beq_eq_false_iff_ne.mpr e).symm
theorem bu5(a b:Str):decide ((Sum.inr a:Key)=Sum.inr b)=decide (a=b):=by
 by_cases e:a=b
 ·subst e;simp
 ·have h:¬(Sum.inr a:Key)=Sum.inr b:=λq=>e (Sum.inr.inj q)
  rw[decide_eq_false h,decide_eq_false e]
theorem ch2(a:Int)(b:Str):decide ((Sum.inl a:Key)=Sum.inr b)=false:=decide_eq_false (λq=>nomatch q)
theorem ch1(a:Str)(b:Int):decide ((Sum.inr a:Key)=Sum.inl b)=false:=decide_eq_false (λq=>nomatch q)
noncomputable def K8(prog:dq)(w:World):PySem.KeyKind prog w Key where
 is:=ar8
 hash:=cF8 w
 inj:=λv a b ha hb=>by
  rcases L9 ha with⟨i,t,rfl,rfl⟩|⟨x,t,rfl,rfl⟩
  ·rcases L9 hb with⟨j,u,rfl,e⟩|⟨y,u,rfl,e⟩
   ·injection e with e1 _;rw[e1]
   ·exact nomatch e
  ·rcases L9 hb with⟨j,u,rfl,e⟩|⟨y,u,rfl,e⟩
   ·exact nomatch e
   ·injection e with e1 _;rw[e1]
 byValue:=λk v h=>by
  rcases L9 h with⟨i,t,rfl,rfl⟩|⟨x,t,rfl,rfl⟩<;>rfl
 pyHash:=λhv h=>by
  rcases L9 hv with⟨i,t,rfl,rfl⟩|⟨x,t,rfl,rfl⟩
  ·exact wpAny_pyHash_int h
  ·exact wpAny_pyHash_str h
 eqBool:=λhu hv h=>by
  rcases L9 hu with⟨i,t,rfl,rfl⟩|⟨x,t,rfl,rfl⟩
  ·rcases L9 hv with⟨j,u,rfl,rfl⟩|⟨y,u,rfl,rfl⟩
   ·rw[ch3]at h;exact wpAny_eqBool_int h
   ·rw[ch2]at h;exact SeqAt.EqAt.int_str i t y u _ _ _ _ h
  ·rcases L9 hv with⟨j,u,rfl,rfl⟩|⟨y,u,rfl,rfl⟩
   ·rw[ch1]at h;exact SeqAt.EqAt.str_int x t j u _ _ _ _ h
   ·rw[bu5]at h;exact wpAny_eqBool_str h
 «strs»:=λk x t v h=>by
  rcases L9 h with⟨i,u,rfl,e⟩|⟨y,u,rfl,e⟩
  ·exact nomatch e
  ·injection e with e1 _
   subst e1;cases v<;>rfl
theorem aK5(prog:dq)(w:World)(i:Int)(t:Tok):(K8 prog w).is (.inl i) (.int i t)=true:=bf2 i t
theorem aK4(prog:dq)(w:World)(x:Str)(t:Tok):(K8 prog w).is (.inr x) (.str x t)=true:=bf1 x t
end L2
namespace L2
open PySem PySem.Spec PyProof.Rows
inductive V where
 | non|bl (b:Bool)|int (i:Int)|str (x:Str)|byt (b:Array UInt8)|flt (b:UInt64)|ref (a:dX)|ty (n:String)
 deriving DecidableEq
noncomputable def E3:V->dU->Prop
 | .non,u=>u=dP
 | .bl b,u=>u=Value.bool b
 | .int i,u=>∃t,u=Value.int i t
 | .str x,u=>∃t,u=Value.str x t
 | .byt b,u=>∃t,u=Value.bytes b t
 | .flt b,u=>∃t,u=Value.float b t
 | .ref a,u=>u=dO a
 | .ty n,u=>u=Value.type n
noncomputable abbrev C2:List V->List dU->Prop:=Paired E3
theorem C2.length(r:C2 xs us):xs.length=us.length:=Paired.length r
theorem C2.get:∀{xs:List V}{us:List dU}{i:Nat}{x:V},C2 xs us->xs[i]? = some x->∃u,us[i]? = some u/\E3 x u
 | _,_,_,_,.nil,e=>by simp at e
 | _,_,0,_,.cons r _,e=>by simp at e;subst e;exact⟨_,rfl,r⟩
 | _,_,i+1,x,.cons _ t,e=>by
  obtain⟨u,h1,h2⟩:=C2.get (i:=i) (x:=x) t (by simpa using e);exact⟨u,by simpa using h1,h2⟩
theorem C2.append:∀{xs ys:List V}{us ws:List dU},C2 xs us->C2 ys ws->C2 (xs++ys) (us++ws)
 | _,_,_,_,.nil,s=>s
 | _,_,_,_,.cons r t,s=>.cons r (C2.append t s)
theorem C2.take:∀{xs:List V}{us:List dU}(n:Nat),C2 xs us->C2 (xs.take n) (us.take n)
 | _,_,0,_=>.nil
 | _,_,_+1,.nil=>.nil
 | _,_,n+1,.cons r t=>.cons r (C2.take n t)
theorem C2.drop:∀{xs:List V}{us:List dU}(n:Nat),C2 xs us->C2 (xs.drop n) (us.drop n)
 | _,_,0,r=>r
 | _,_,_+1,.nil=>.nil
 | _,_,n+1,.cons _ t=>C2.drop n t
noncomputable def u4:Option V->Option dU->Prop
 | some v,some u=>E3 v u
 | none,none=>True
 | _,_=>False
noncomputable def KV{κ:Type}:List (κ×V)->List (κ×dU)->Prop:=Paired λ(p:κ×V) (q:κ×dU)=>p.1=q.1/\E3 p.2 q.2
noncomputable def kV:Key->V
 | .inl i=>.int i
 | .inr x=>.str x
inductive HO where
 /-- a list -/
 | lst (xs:List V)
 /-- a tuple (never changes) -/
 | tup (xs:List V)
 /-- a dict whose keys are ints and texts;one whose keys are tuples of ints and texts (the empty one is both) -/
 | dK (kvs:List (Key×V))|dT (kvs:List (List Key×V))
 /-- a set of ints: its members,its size -/
 | set (S:Int->Bool) (n:Nat)
 /-- an instance of the class at C,its dict at dx,its attributes -/
 | ins (C dx:dX) (fs:List (Str×V))
 /-- the dict of the instance at x -/
 | own (x:dX)
 /-- the dict of an exception -/
 | xd (fs:List (Str×V))
 /-- a bound method,f of x -/
 | met (f x:dX)
 /-- a range object lo,lo+1,.. below hi -/
 | rng (lo hi:Int)
 /-- a thing that is known to the object (the script;a dict while a loop walks it): read,never written while it is so -/
 | frz (o:Obj) (u:HO)
 /-- a code object's table -/
 | tbl (ps:Array dU)
 /-- any other thing,by what is true of its one object (a def of one's own: SetO a S n:=HO.ext λh=>..) -/
 | ext (φ:Heap->Prop)
noncomputable abbrev Hp:=dX->Option HO
noncomputable def upd(H:Hp)(a:dX)(o:HO):Hp:=λb=>if b=a then some o else H b
theorem A6:upd H a o a=some o:=by unfold upd;rw[if_pos rfl]
theorem B3(h:b≠a):upd H a o b=H b:=by unfold upd;rw[if_neg h]
theorem cw8{H:Hp}{a b:dX}{o u:HO}(h:H a=some o)(h':H b=some u)(d:o≠u):a≠b:=by
 intro e;subst e;rw[h]at h';exact d (bn.inj h')
theorem C6{H:Hp}{a b:dX}{o:HO}(h:H a=some o)(h':H b=none):a≠b:=by
 intro e;subst e;rw[h]at h';cases h'
noncomputable def aw2(h:Heap)(a:dX)(items:Array dU):Prop:=∃o,h.get? a=some o/\o.cls=.type "tuple" /\ (∃n,o.data=.seq items n)/\o.dict=none
theorem aw2.tup{h:Heap}{a:dX}{items:Array dU}(p:aw2 h a items):IsTup h a items:=let⟨o,e,c,d,_⟩:=p;⟨o,e,c,d⟩
theorem aw2.new(h:Heap)(items:Array dU)(n:Nat:=0):aw2 (h.push { cls:=.type "tuple", data:=.seq items n }) h.objs.size items:=⟨_,dH _ rfl,rfl,⟨_,rfl⟩,rfl⟩
section
variable (P:Program) (w:World)
noncomputable def P4(H:Hp)(h:Heap)(a:dX):HO->Prop
 | .lst xs=>xs.length<=dj/\∃(its:List dU) (n:Nat),C2 xs its/\h.get? a=some { cls:=.type "list", data:=.seq its.toArray n }
 | .tup xs=>xs.length<=dj/\∃its:List dU,C2 xs its/\aw2 h a its.toArray
 | .dK kvs=>kvs.length<=dj/\(a==sysModules)=false/\∃vs,KV kvs vs/\h.DictOf (K8 P w) a vs
 | .dT kvs=>kvs.length<=dj/\(a==sysModules)=false/\∃xs:List (List Key×dX×dU),
   Paired (λ(p:List Key×V) (q:List Key×dX×dU)=>p.1=q.1/\H q.2.1=some (.tup (p.1.map kV))/\E3 p.2 q.2.2) kvs xs /\
   ∃o es ep,h.get? a=some o/\o.ExactDict/\o.data=.dict es ep/\es.toList=xs.map (entryOfKey (tupleKind (K8 P w)))/\(xs.map (·.1)).Nodup
 | .set S n=>h.SetOf (intKind P w) a S n
 | .ins C dx fs=>H dx=some (.own a)/\fs.length<=1000/\dx≠a/\h.get? a=some (PySem.W.instObj C dx) /\
   ∃mA,h.Ns1 dx mA/\(∀f,u4 (fs.lookup f) (mA f))/\PySem.Within mA (fs.map (·.1))
 | .own _=>∃o,h.get? a=some o
 | .xd fs=>∃mA,h.Ns1 a mA/\∀f,u4 (fs.lookup f) (mA f)
 | .rng lo hi=>∃t u v,h.get? a=some { cls:=.type "range", data:=.fields #[.int lo t,.int hi u,.int 1 v] }
 | .frz o u=>h.get? a=some o/\P4 H h a u
 | .tbl ps=>h.get? a=some { cls:=.none,data:=.fields ps }
 | .met f x=>h.get? a=some (PySem.W.methodObj (.ref f) (.ref x))
 | .ext φ=>φ h/\(∃o,h.get? a=some o)/\∀h1 h2:Heap,φ h1->(∀o,h1.get? a=some o->h2.get? a=some o)->φ h2
noncomputable def HOk(H:Hp)(h:Heap):Prop:=∀a o,H a=some o->P4 P w H h a o
end
section
variable {P:Program}{w:World}{H H':Hp}{h h':Heap}{a:Addr}{o:HO}
theorem P4.lt(x:P4 P w H h a o):a < h.objs.size:=by
 cases o with
 | lst xs=>obtain⟨_,_,_,_,e⟩:=x;exact dG e
 | tup xs=>obtain⟨_,_,_,p⟩:=x;exact p.tup.lt
 | dK kvs=>obtain⟨_,_,_,_,o,_,_,e,_⟩:=x;exact dG e
 | dT kvs=>obtain⟨_,_,_,_,o,_,_,e,_⟩:=x;exact dG e
 | set S n=>obtain⟨o,_,_,_,e,_⟩:=x;exact dG e
 | ins C dx fs=>obtain⟨_,_,_,e,_⟩:=x;exact dG e
 | own y=>obtain⟨_,e⟩:=x;exact dG e
 | xd fs=>obtain⟨_,⟨_,_,_,e,_⟩,_⟩:=x;exact dG e
 | rng lo hi=>obtain⟨_,_,_,e⟩:=x;exact dG e
 | frz ob u=>obtain⟨e,_⟩:=x;exact dG e
 | tbl ps=>exact dG (show h.get? a=some _ from x)
 | met f y=>exact dG (show h.get? a=some _ from x)
 | ext φ=>obtain⟨_,⟨_,e⟩,_⟩:=x;exact dG e
theorem Paired.mapP{α β:Type}{F G:α->β->Prop}:∀{l₁:List α}{l₂:List β},Paired F l₁ l₂->(∀a b,F a b->G a b)->Paired G l₁ l₂
 | _,_,.nil,_=>.nil
 | _,_,.cons r t,f=>.cons (f _ _ r) (Paired.mapP t f)
theorem P4.stay(x:P4 P w H h a o)(k:∀b u,(b=a\/H b=some (.own a))->h.get? b=some u->h'.get? b=some u)
  (ho:∀b,H b=some (.own a)->H' b=some (.own a)) (ht:∀b xs,H b=some (.tup xs)->H' b=some (.tup xs)):P4 P w H' h' a o:=by
 induction o with
 | lst xs=>obtain⟨z,its,n,r,e⟩:=x;exact⟨z,its,n,r,k _ _ (.inl rfl) e⟩
 | tup xs=>obtain⟨z,its,r,ob,e,c⟩:=x;exact⟨z,its,r,ob,k _ _ (.inl rfl) e,c⟩
 | dK kvs=>obtain⟨z,y,vs,r,ob,es,ep,e,c⟩:=x;exact⟨z,y,vs,r,ob,es,ep,k _ _ (.inl rfl) e,c⟩
 | dT kvs =>
  obtain⟨z,y,xs,r,ob,es,ep,e,c⟩:=x;exact⟨z,y,xs,Paired.mapP r λp q z=>⟨z.1,ht _ _ z.2.1,z.2.2⟩,ob,es,ep,k _ _ (.inl rfl) e,c⟩
 | set S n=>obtain⟨ob,es,ep,t,e,c⟩:=x;exact⟨ob,es,ep,t,k _ _ (.inl rfl) e,c⟩
 | ins C dx fs =>
  obtain⟨d,z,ne,e,mA,⟨od,es,ep,e2,c⟩,r⟩:=x;exact⟨ho _ d,z,ne,k _ _ (.inl rfl) e,mA,⟨od,es,ep,k _ _ (.inr d) e2,c⟩,r⟩
 | own y=>obtain⟨ob,e⟩:=x;exact⟨ob,k _ _ (.inl rfl) e⟩
 | xd fs=>obtain⟨mA,⟨od,es,ep,e,c⟩,r⟩:=x;exact⟨mA,⟨od,es,ep,k _ _ (.inl rfl) e,c⟩,r⟩
 | rng lo hi=>obtain⟨t,u,v,e⟩:=x;exact⟨t,u,v,k _ _ (.inl rfl) e⟩
 | frz ob u ih=>obtain⟨e,q⟩:=x;exact⟨k _ _ (.inl rfl) e,ih q⟩
 | tbl ps =>
  have e:h.get? a=some { cls:=.none,data:=.fields ps }:=x;show h'.get? a=some { cls:=.none,data:=.fields ps };exact k a _ (.inl rfl) e
 | met f y =>
  have e:h.get? a=some (PySem.W.methodObj (.ref f) (.ref y)):=x;show h'.get? a=some (PySem.W.methodObj (.ref f) (.ref y));exact k a _ (.inl rfl) e
 | ext φ=>obtain⟨p,⟨o,e⟩,st⟩:=x;exact⟨st _ _ p λo q=>k _ _ (.inl rfl) q,⟨o,k _ _ (.inl rfl) e⟩,st⟩
theorem HOk.lt(x:HOk P w H h)(e:H a=some o):a < h.objs.size:=(x a o e).lt
theorem HOk.fresh(x:HOk P w H h)(e:h.objs.size<=a):H a=none:=by
 cases q:H a with
 | none=>rfl
 | some u=>exact absurd (aA (x.lt q) e) (bg _)
theorem HOk.kept(x:HOk P w H h)(k:∀b u,h.get? b=some u->h'.get? b=some u):HOk P w H h':=λa o e =>
 (x a o e).stay (λb u _ q=>k b u q) (λ_ q=>q) λ_ _ q=>q
theorem HOk.laid(x:HOk P w H h)(k:∀b u,h.get? b=some u->h'.get? b=some u)(hp:h.objs.size<=a)(new:P4 P w (upd H a o) h' a o):HOk P w (upd H a o) h':=λb u e=>by
 have hn:=x.fresh hp;by_cases hb:b=a
 ·subst hb;rw[A6]at e;cases e;exact new
 ·rw[B3 hb]at e;exact(x b u e).stay (λc v _ q=>k c v q) (λc q=>by rw[B3 (C6 q hn)];exact q) λc xs q=>by rw[B3 (C6 q hn)];exact q
end
noncomputable def Rd(H:Hp)(a:dX)(u:HO):Prop:=H a=some u\/∃o,H a=some (.frz o u)
theorem Rd.ok(r:Rd H a u)(x:HOk P w H h):P4 P w H h a u:=by
 rcases r with r|⟨o,r⟩
 ·exact x a u r
 ·obtain⟨_,q⟩:=x a _ r;exact q
noncomputable def Mut:Option HO->Prop
 | some (.lst _)=>True
 | some (.dK _)=>True
 | some (.dT _)=>True
 | some (.set _ _)=>True
 | some (.ins _ _ _)=>True
 | some (.ext _)=>True
 | _=>False
section
variable {P:Program}{w:World}{H:Hp}{h h':Heap}{x e:Addr}{o':HO}
theorem HOk.write(ok:HOk P w H h)(mu:Mut (H x))(he:e=x\/H e=some (.own x))(k:∀b u,b≠e->h.get? b=some u->h'.get? b=some u)(heo:∃u,h'.get? e=some u)
  (new:P4 P w (upd H x o') h' x o'):HOk P w (upd H x o') h':=λb u q=>by
 have nown:∀c y,H c=some (.own y)->c≠x:=λc y r z=>by subst z;rw[r]at mu;exact mu
 have ntup:∀c xs,H c=some (.tup xs)->c≠x:=λc xs r z=>by subst z;rw[r]at mu;exact mu
 by_cases hb:b=x
 ·subst hb;rw[A6]at q;cases q;exact new
 ·rw[B3 hb]at q;by_cases hbe:b=e
  ·have q':H b=some (.own x):=by
    rcases he with z|z
    ·exact absurd (hbe.trans z) hb
    ·rw[hbe];exact z
   rw[q]at q';cases q';obtain⟨v,hv⟩:=heo;exact⟨v,by rw[hbe];exact hv⟩
  ·refine(ok b u q).stay (λc v hc r=>k c v ?_ r) (λc r=>by rw[B3 (nown c b r)];exact r) λc xs r=>by rw[B3 (ntup c xs r)];exact r
   rcases hc with rfl|hc
   ·exact hbe
   ·rintro rfl
    rcases he with z|z
    ·exact nown c b hc z
    ·rw[hc]at z;cases z;exact hb rfl
end
structure Un (fs ex:List dX) (H H':Hp) (h h':Heap):Prop where
 keep:∀b o,h.get? b=some o->H b=none->b∉fs->b∉ex->h'.get? b=some o
 slot:∀b o,h.get? b=some o->H b=none->b∈fs->b∉ex->∃sl,h'.get? b=some { o with slots:=sl }
 free:∀b o,h.get? b=some o->H b=none->b∉ex->H' b=none
 there:∀b o,h.get? b=some o->b∉ex->∃o',h'.get? b=some o'
 tups:∀b xs,H b=some (.tup xs)->H' b=some (.tup xs)
 frzs:∀b o u,H b=some (.frz o u)->H' b=some (.frz o u)
 tbls:∀b ps,H b=some (.tbl ps)->∃more,H' b=some (.tbl (ps++more))
section
variable {fs fs' ex ex':List Addr}{H H1 H2:Hp}{h h1 h2 h':Heap}{a x e:Addr}{o:HO}
theorem Un.any(u:Un fs ex H H1 h h1)(q:h.get? b=some ob)(n:H b=none)(hx:b∉ex):∃sl,h1.get? b=some { ob with slots:=sl }:=by
 by_cases hb:b∈fs
 ·exact u.slot b ob q n hb hx
 ·exact⟨ob.slots,u.keep b ob q n hb hx⟩
theorem Un.kept(k:∀b u,h.get? b=some u->h'.get? b=some u):Un fs ex H H h h' :=
 ⟨λb ob q _ _ _=>k b ob q,λb ob q _ _ _=>⟨ob.slots,k b ob q⟩,λ_ _ _ n _=>n,λb ob q _=>⟨ob,k b ob q⟩,λ_ _ q=>q,λ_ _ _ q=>q,λ_ ps q=>⟨#[],by rw[q];simp⟩⟩
theorem Un.refl:Un fs ex H H h h:=Un.kept λ_ _ q=>q
theorem Un.laid(k:∀b u,h.get? b=some u->h'.get? b=some u)(hp:h.objs.size<=a)(hn:H a=none):Un fs ex H (upd H a o) h h' where
 keep:=λb u q _ _ _=>k b u q
 slot:=λb u q _ _ _=>⟨u.slots,k b u q⟩
 free:=λb u q n _=>by rw[B3 (aD (aA (dG q) hp))];exact n
 there:=λb u q _=>⟨u,k b u q⟩
 tups:=λb xs q=>by rw[B3 (C6 q hn)];exact q
 frzs:=λb u xs q=>by rw[B3 (C6 q hn)];exact q
 tbls:=λb ps q=>⟨#[],by rw[B3 (C6 q hn),q];simp⟩
theorem Un.write(mu:Mut (H x))(he:e=x\/H e=some (.own x))(k:∀b u,b≠e->h.get? b=some u->h'.get? b=some u)(heo:∃u,h'.get? e=some u):Un fs ex H (upd H x o) h h':=by
 have hx:∀b,H b=none->b≠x:=λb n z=>by subst z;rw[n]at mu;exact mu
 have hb:∀b,H b=none->b≠e:=λb n z=>by
  subst z;rcases he with r|r
  ·exact hx b n r
  ·rw[n]at r;cases r
 have hm:∀b u,H b=some u->¬Mut (some u)->b≠x:=λb u q nm z=>by subst z;rw[q]at mu;exact nm mu
 refine⟨λb u q n _ _=>k b u (hb b n) q,λb u q n _ _=>⟨u.slots,k b u (hb b n) q⟩,λb u q n _=>by rw[B3 (hx b n)];exact n,λb u q _=>?_,
  λb xs q=>by rw[B3 (hm b _ q λz=>z)];exact q,λb u xs q=>by rw[B3 (hm b _ q λz=>z)];exact q,λb ps q=>⟨#[],by rw[B3 (hm b _ q λz=>z),q];simp⟩⟩
 by_cases hbe:b=e
 ·subst hbe;exact heo
 ·exact⟨u,k b u hbe q⟩
end
noncomputable def trk(h:Heap)(H:Hp):List dX:=(aU h.objs.size).filter λa=>(H a).isSome
noncomputable def aE3(h:Heap)(H:Hp):Heap:=PySem.W.hideAll h (trk h H)
theorem bf8(h:Heap)(H:Hp):(aE3 h H).objs.size=h.objs.size:=PySem.W.hideAll_size _ _
theorem by0(e:h.get? b=some o)(n:H b=none):(aE3 h H).get? b=some o :=
 PySem.W.hideAll_get _ e λhm=>by
  have q:(H b).isSome=true:=(bU.mp hm).2;rw[n]at q;simp at q
theorem bL6(e:(aE3 h H).get? b=some o):h.get? b=some o/\H b=none:=by
 have e':h.get? b=some o:=PySem.W.of_hideAll (trk h H) e;refine⟨e',?_⟩;cases q:H b with
 | none=>rfl
 | some x =>
  have hm:b∈trk h H:=bU.mpr ⟨cC.mpr (dG e'),by simp[q]⟩;have z:(aE3 h H).get? b=none:=PySem.W.hideAll_none (trk h H) hm;rw[z]at e;cases e
noncomputable def bQ9(g h:Heap)(L:dX):List (dX×Obj):=(aU h.objs.size).filterMap λa=>if a=L\/(g.get? a).isSome=true then none else(h.get? a).map λo=>(a,o)
noncomputable def Z4(g h:Heap)(L d:dX):List (dX×Obj):=(bQ9 g h L).filter λp=>decide (p.1≠d)
end L2
namespace L2
open PySem PySem.Spec PyProof.Rows
structure Mod (K:ag) (mg:Str->Option dU) (base:Heap):Prop where
 kin:K.In base
 glob:base.Ns dn mg
 blt:∃mb,base.Ns builtinsNs mb/\∀x:Str,x ≠ "__name__" -> mb x=du x
 nolimit:base.NoLimit
structure Cx where
 prog:dq
 w:World
 K:ag
 mg:Str->Option dU
 base:Heap
 A:dr
 N:List Str
 s₀:dW
 H₀:Hp
 env:Env
 outer:List Env
 stack:List Env
 ex:List dX
 fn:Str->Bool
 calm:Bool
 pn:List (dX×Obj)
 xe:dU->dW->Prop
noncomputable def frs(l:List Env):List dX:=l.filterMap (·.frame)
noncomputable abbrev Cx.fs(X:Cx):List dX:=frs X.outer
noncomputable def Vis(sc:Scope)(x:Str):Prop:=sc.names.lookup x=some .local\/sc.names.lookup x=some .cell\/sc.names.lookup x=some .free
noncomputable def Loc(sc:Scope)(x:Str):Prop:=sc.names.lookup x=some .local\/sc.names.lookup x=some .cell
noncomputable def cI4(env:Env)(h:Heap)(m:Str->Option dU)(x:Str)(u:dU):Prop :=
 (env.kindOf x=some .local/\m x=some u)\/((env.kindOf x=some .cell\/env.kindOf x=some .free)/\∃c,env.cells.lookup x=some c/\h.IsCell c (some u))
structure Cx.Ok (X:Cx):Prop where
 mod:Mod X.K X.mg X.base
 kind:X.env.scope.kind=.function
 glob:X.env.globals=dn
 blt:X.env.builtins=builtinsNs
 above:X.s₀.heap.objs.size<=X.env.locals
 inj:∀x y c,X.env.cells.lookup x=some c->X.env.cells.lookup y=some c->x=y
 has:∀x,(X.env.kindOf x=some .cell\/X.env.kindOf x=some .free)->∃c,X.env.cells.lookup x=some c
 cab:∀x c,X.fn x=true->X.env.cells.lookup x=some c->X.s₀.heap.objs.size<=c
 hd:X.calm=true->X.A.handled=none
 frames:X.A.frames=some X.stack
 stk:X.stack=X.outer\/(X.stack=X.env::X.outer/\X.env.frame=some X.env.locals)
 exf:∀b∈X.ex,b≠X.env.locals/\∀x c,X.env.cells.lookup x=some c->c≠b
 bs:∀b o,X.base.get? b=some o->X.s₀.heap.get? b=some o/\X.H₀ b=none
 bsz:X.base.objs.size<=X.s₀.heap.objs.size
 noex:∀b o,X.base.get? b=some o->b∉X.ex
 exfs:∀b∈X.ex,b∉X.fs
 funs:X.s₀.heap.FunFrames X.base X.outer
 frf:∀b∈X.fs,X.H₀ b=none
structure Inv (X:Cx) (pins:List (dX×Obj)) (σ:List (Option V)) (H:Hp) (s:dW):Prop where
 ok:X.Ok
 os:s.os=X.s₀.os
 bare:AllBare s.gens
 base:Un X.fs X.ex X.H₀ H X.s₀.heap s.heap
 loc:∃m,s.heap.Ns X.env.locals m/\∀(i:Nat) (x:Str) (v:V),X.N[i]? = some x->σ[i]? = some (some v)->Vis X.env.scope x->∃u,E3 v u/\cI4 X.env s.heap m x u
 cell:∀x c,X.env.cells.lookup x=some c->∃v,s.heap.IsCell c v
 free:H X.env.locals=none
 freeC:∀x c,X.env.cells.lookup x=some c->H c=none
 pin:∀p∈X.pn++pins,s.heap.get? p.1=some p.2/\H p.1=none/\p.1≠X.env.locals/\p.1∉X.fs/\∀v,p.2.data≠.cell v
 hok:HOk X.prog X.w H s.heap
 len:σ.length=X.N.length
section
variable {X:Cx}{pins:List (Addr×Obj)}{σ:List (Option V)}{H H':Hp}{s:Shared}{h':Heap}
theorem Cx.Ok.nofr(ok:X.Ok)(e:X.base.get? b=some o):b∉X.fs:=λhb=>by
 have:=(ok.funs.mem hb).1;rw[e]at this;cases this
theorem Inv.bs(I:Inv X pins σ H s):∀b o,X.base.get? b=some o->s.heap.get? b=some o/\H b=none:=λb o e =>
 ⟨I.base.keep b o (I.ok.bs b o e).1 (I.ok.bs b o e).2 (I.ok.nofr e) (I.ok.noex b o e),I.base.free b o (I.ok.bs b o e).1 (I.ok.bs b o e).2 (I.ok.noex b o e)⟩
theorem Inv.bk(I:Inv X pins σ H s):∀b o,X.base.get? b=some o->s.heap.get? b=some o:=λb o e=>(I.bs b o e).1
theorem Inv.mod(I:Inv X pins σ H s):Mod X.K X.mg X.base:=I.ok.mod
theorem Inv.kIn(I:Inv X pins σ H s):X.K.In s.heap:=I.ok.mod.kin.keeps I.bk
theorem Inv.lt(I:Inv X pins σ H s):X.env.locals < s.heap.objs.size:=let⟨_,hn,_⟩:=I.loc;hn.lt
theorem Inv.sz(I:Inv X pins σ H s):X.s₀.heap.objs.size<=s.heap.objs.size:=aC I.ok.above (bE I.lt)
theorem Inv.nofs(I:Inv X pins σ H s)(h:s.heap.objs.size<=a):a∉X.fs:=λhb=>by
 obtain⟨_,o,ho,_⟩:=I.ok.funs.mem hb;exact absurd (aA (dG ho) (aC I.sz h)) (bg _)
theorem Inv.cne(I:Inv X pins σ H s):∀x c,X.env.cells.lookup x=some c->c≠X.env.locals:=λx c e z=>by
 obtain⟨v,o,ho,hd⟩:=I.cell x c e;obtain⟨m,⟨o',es,ep,ho',hd',_⟩,_⟩:=I.loc;rw[z,ho']at ho;cases ho;rw[hd']at hd;cases hd
theorem Inv.funs(I:Inv X pins σ H s):s.heap.FunFrames X.base X.outer:=by
 have all:∀(l:List Env),(∀b∈frs l,b∈X.fs)->X.s₀.heap.FunFrames X.base l->s.heap.FunFrames X.base l:=by
  intro l
  induction l with
  | nil=>intro _ _;trivial
  | cons env r ih =>
   intro hs hl;obtain⟨hk,⟨L,o,hf,hn,ho,hd⟩,hr⟩:=hl;have hL:L∈X.fs:=hs L (by unfold frs;rw[cy,hf];exact aZ);obtain⟨sl,e⟩:=I.base.slot L o ho (I.ok.frf L hL) hL λz=>I.ok.exfs L z hL
   exact⟨hk,⟨L,_,hf,hn,e,hd⟩,ih (λb hb=>hs b (by unfold frs;rw[cy,hf];exact aj _ hb)) hr⟩
 exact all X.outer (λ_ hb=>hb) I.ok.funs
theorem Inv.stack(I:Inv X pins σ H s):s.heap.FunFrames X.base X.stack:=by
 rcases I.ok.stk with e|⟨e,hf⟩
 ·rw[e];exact I.funs
 ·rw[e];obtain⟨m,hn,_⟩:=I.loc;refine .cons (by rw[I.ok.kind];decide) hf hn ?_ I.funs;exact Heap.get?_none_of_le (aC I.ok.bsz I.ok.above)
theorem Inv.stkSub(I:Inv X pins σ H s):∀b∈frs X.stack,b∈X.env.locals::X.fs:=λb hb=>by
 rcases I.ok.stk with e|⟨e,hf⟩
 ·rw[e]at hb;exact aj _ hb
 ·rw[e]at hb;unfold frs at hb;rw[cy,hf]at hb;exact hb
theorem Inv.stkFree(I:Inv X pins σ H s):∀b∈frs X.stack,H b=none:=λb hb=>by
 rcases ax.mp (I.stkSub b hb) with e|hb
 ·rw[e];exact I.free
 ·obtain⟨_,o,ho,_⟩:=I.ok.funs.mem hb;exact I.base.free b o ho (I.ok.frf b hb) λz=>I.ok.exfs b z hb
theorem Inv.step{g':Array GenState}{t':Nat}{d':Drawn}{ch:List dX}(I:Inv X pins σ H s)
  (hch:∀b∈ch,(b∈X.ex\/X.s₀.heap.objs.size<=b)/\b≠X.env.locals/\(∀x c,X.env.cells.lookup x=some c->c≠b)/\∀p∈X.pn++pins,p.1≠b)
  (keep:∀b o,b≠X.env.locals->b∉X.fs->b∉ch->s.heap.get? b=some o->H b=none->h'.get? b=some o)
  (slot:∀b o,b≠X.env.locals->b∈X.fs->b∉ch->s.heap.get? b=some o->H b=none->∃sl,h'.get? b=some { o with slots:=sl }) (free:∀b o,b∉ch->s.heap.get? b=some o->H b=none->H' b=none)
  (there:∀b o,b∉ch->s.heap.get? b=some o->∃o',h'.get? b=some o')
  (tups:∀b xs,H b=some (.tup xs)->H' b=some (.tup xs)) (frzs:∀b o u,H b=some (.frz o u)->H' b=some (.frz o u)) (tbls:∀b ps,H b=some (.tbl ps)->∃more,H' b=some (.tbl (ps++more)))
  (ns:∀m,s.heap.Ns X.env.locals m->h'.Ns X.env.locals m) (hok:HOk X.prog X.w H' h') (hg:AllBare g') :
  Inv X pins σ H' { s with heap:=h',gens:=g',drawn:=d',toks:=t' }:=by
 have neL:∀b o,X.s₀.heap.get? b=some o->b≠X.env.locals:=λb o e=>aD (aA (dG e) I.ok.above)
 have neC:∀b o,X.s₀.heap.get? b=some o->b∉X.ex->b∉ch:=λb o e hx hb=>by
  rcases(hch b hb).1 with z|z
  ·exact hx z
  ·exact absurd (aA (dG e) z) (bg _)
 have cellK:∀x c,X.env.cells.lookup x=some c->∀v,s.heap.IsCell c v->h'.IsCell c v:=λx c e v ⟨o,ho,hd⟩=>by
  have nch:c∉ch:=λz=>(hch c z).2.2.1 x c e rfl
  by_cases hc:c∈X.fs
  ·obtain⟨sl,q⟩:=slot c o (I.cne x c e) hc nch ho (I.freeC x c e);exact⟨_,q,hd⟩
  ·exact⟨o,keep c o (I.cne x c e) hc nch ho (I.freeC x c e),hd⟩
 refine⟨I.ok,I.os,hg,⟨λb o e n hb hx=>?_,λb o e n hb hx=>?_,λb o e n hx=>?_,λb o e hx=>?_,λb xs e=>tups b xs (I.base.tups b xs e),λb o xs e=>frzs b o xs (I.base.frzs b o xs e),λb ps e=>?_⟩,?_,λx c e=>?_,?_,λx c e=>?_,λp hp=>?_,hok,I.len⟩
 ·exact keep b o (neL b o e) hb (neC b o e hx) (I.base.keep b o e n hb hx) (I.base.free b o e n hx)
 ·obtain⟨sl,e1⟩:=I.base.slot b o e n hb hx;obtain⟨sl',e2⟩:=slot b _ (neL b o e) hb (neC b o e hx) e1 (I.base.free b o e n hx);exact⟨sl',e2⟩
 ·obtain⟨o',e1⟩:=I.base.there b o e hx;exact free b o' (neC b o e hx) e1 (I.base.free b o e n hx)
 ·obtain⟨o',e1⟩:=I.base.there b o e hx;exact there b o' (neC b o e hx) e1
 ·obtain⟨m1,e1⟩:=I.base.tbls b ps e;obtain⟨m2,e2⟩:=tbls b _ e1;exact⟨m1++m2,by rw[e2,Array.append_assoc]⟩
 ·obtain⟨m,hn,hl⟩:=I.loc;refine⟨m,ns m hn,λi x v e1 e2 e3=>?_⟩;obtain⟨u,r,l⟩:=hl i x v e1 e2 e3;refine⟨u,r,?_⟩;rcases l with l|⟨k,c,e,z⟩
  ·exact .inl l
  ·exact .inr ⟨k,c,e,cellK x c e _ z⟩
 ·obtain⟨v,z⟩:=I.cell x c e;exact⟨v,cellK x c e v z⟩
 ·obtain⟨m,⟨o,_,_,ho,_⟩,_⟩:=I.loc;exact free _ o (λz=>(hch _ z).2.1 rfl) ho I.free
 ·obtain⟨v,o,ho,hd⟩:=I.cell x c e;exact free c o (λz=>(hch c z).2.2.1 x c e rfl) ho (I.freeC x c e)
 ·obtain⟨e,n,ne,nf,d⟩:=I.pin p hp;have nch:p.1∉ch:=λz=>(hch p.1 z).2.2.2 p hp rfl
  exact⟨keep p.1 p.2 ne nf nch e n,free p.1 p.2 nch e n,ne,nf,d⟩
theorem Inv.un{t':Nat}(I:Inv X pins σ H s)(u:Un X.fs [] H H' s.heap h')(hok:HOk X.prog X.w H' h'):Inv X pins σ H' { s with heap:=h',toks:=t' }:=by
 obtain⟨m,⟨o,es,ep,ho,r⟩,_⟩:=id I.loc;obtain⟨sl,hL⟩:=u.any ho I.free (by simp)
 exact I.step (g':=s.gens) (d':=s.drawn) (ch:=[]) (λ_ z=>nomatch z) (λb o _ hb _ e n=>u.keep b o e n hb (by simp)) (λb o _ hb _ e n=>u.slot b o e n hb (by simp)) (λb o _ e n=>u.free b o e n (by simp)) (λb o _ e=>u.there b o e (by simp)) u.tups u.frzs u.tbls (λm' hm=>by
  obtain⟨o',es',ep',ho',r'⟩:=hm;rw[ho]at ho';cases ho'
  exact⟨_,es',ep',hL,r'⟩) hok I.bare
theorem Inv.call{g':Array GenState}{t':Nat}{d':Drawn}{ch:List dX}(I:Inv X pins σ H s)(u:Un (frs X.stack) ch H H' s.heap h')(hok:HOk X.prog X.w H' h')(hg:AllBare g')
  (hch:∀b∈ch,(b∈X.ex\/X.s₀.heap.objs.size<=b)/\b≠X.env.locals/\(∀x c,X.env.cells.lookup x=some c->c≠b)/\∀p∈X.pn++pins,p.1≠b) :
  Inv X pins σ H' { s with heap:=h',gens:=g',drawn:=d',toks:=t' }:=by
 obtain⟨m,⟨o,es,ep,ho,r⟩,_⟩:=id I.loc;obtain⟨sl,hL⟩:=u.any ho I.free λz=>(hch _ z).2.1 rfl
 exact I.step (ch:=ch) hch (λb o hL hb hc e n=>u.keep b o e n (λz=>(ax.mp (I.stkSub b z)).elim hL hb) hc) (λb o _ _ hc e n=>u.any e n hc) (λb o hc e n=>u.free b o e n hc) (λb o hc e=>u.there b o e hc) u.tups u.frzs u.tbls (λm' hm=>by
  obtain⟨o',es',ep',ho',r'⟩:=hm;rw[ho]at ho';cases ho'
  exact⟨_,es',ep',hL,r'⟩) hok hg
theorem Inv.turned{t':Nat}{it:dX}(I:Inv X pins σ H s)(k:∀b o,b≠it->s.heap.get? b=some o->h'.get? b=some o)(hn:H it=none)(hL:it≠X.env.locals)
  (h1:it∈X.ex\/X.s₀.heap.objs.size<=it) (h2:∀x c,X.env.cells.lookup x=some c->c≠it) (h3:∀p∈X.pn++pins,p.1≠it):Inv X pins σ H { s with heap:=h',toks:=t' }:=by
 have nit:∀b u,H b=some u->b≠it:=λb u e z=>by rw[z,hn]at e;cases e
 refine I.step (g':=s.gens) (d':=s.drawn) (ch:=[it]) (λb hb=>?_) (λb o _ _ hc e _=>k b o (λz=>hc (by simp[z])) e) (λb o _ _ hc e _=>⟨o.slots,k b o (λz=>hc (by simp[z])) e⟩) (λ_ _ _ _ n=>n)
  (λb o hc e=>⟨o,k b o (λz=>hc (by simp[z])) e⟩) (λ_ _ e=>e) (λ_ _ _ e=>e) (λb ps e=>⟨#[],by rw[e];simp⟩) (λm hm=>?_) (λb u e=>?_) I.bare
 ·have e:b=it:=by simpa using hb
  subst e;exact⟨h1,hL,h2,h3⟩
 ·obtain⟨o,es,ep,ho,r⟩:=hm;exact⟨o,es,ep,k _ o (Ne.symm hL) ho,r⟩
 ·refine(I.hok b u e).stay (λc v hc q=>k c v ?_ q) (λ_ q=>q) λ_ _ q=>q
  rcases hc with z|z
  ·rw[z];exact nit b u e
  ·exact nit c _ z
theorem Inv.tok(I:Inv X pins σ H s)(t:Nat):Inv X pins σ H { s with toks:=t }:=I.un (h':=s.heap) (t':=t) Un.refl I.hok
theorem Inv.kept(I:Inv X pins σ H s)(k:∀b u,s.heap.get? b=some u->h'.get? b=some u):Inv X pins σ H { s with heap:=h',toks:=t' }:=I.un (Un.kept k) (I.hok.kept k)
theorem Inv.laid(I:Inv X pins σ H s)(k:∀b u,s.heap.get? b=some u->h'.get? b=some u)(hp:s.heap.objs.size<=a)(new:P4 X.prog X.w (upd H a o) h' a o):
  Inv X pins σ (upd H a o) { s with heap:=h',toks:=t' }:=I.un (Un.laid k hp (I.hok.fresh hp)) (I.hok.laid k hp new)
theorem Inv.write(I:Inv X pins σ H s)(mu:Mut (H x))(he:e=x\/H e=some (.own x))(k:∀b u,b≠e->s.heap.get? b=some u->h'.get? b=some u)(heo:∃u,h'.get? e=some u)
  (new:P4 X.prog X.w (upd H x o) h' x o):Inv X pins σ (upd H x o) { s with heap:=h',toks:=t' }:=I.un (Un.write mu he k heo) (I.hok.write mu he k heo new)
theorem Inv.pins_of(I:Inv X pins σ H s)(h:∀p∈pins',s.heap.get? p.1=some p.2/\H p.1=none/\p.1≠X.env.locals/\p.1∉X.fs/\∀v,p.2.data≠.cell v):Inv X pins' σ H s :=
 ⟨I.ok,I.os,I.bare,I.base,I.loc,I.cell,I.free,I.freeC,λp hp=>(aR.mp hp).elim (λz=>I.pin p (aI _ z)) (h p),I.hok,I.len⟩
theorem aJ5{N:List Str}(hN:N.Nodup){i j:Nat}{x:Str}(a:N[i]? = some x)(b:N[j]? = some x):i=j:=by
 obtain⟨h1,e1⟩:=ak.mp a;obtain⟨h2,e2⟩:=ak.mp b;exact(List.getElem_inj hN).mp (e1.trans e2.symm)
theorem ax1(I:Inv X pins σ H s)(hN:X.N.Nodup)(hi:X.N[i]? = some x)(hx:Loc X.env.scope x)(r:E3 v u)
  (h:∀s',Inv X pins (σ.set i (some v)) H s'->(∃a,Heap.SameBut a s.heap s'.heap/\(a=X.env.locals\/X.env.cells.lookup x=some a))->Q () s') (hf:X.fn x=true\/X.env.scope.names.lookup x=some .local:=by first|exact .inl rfl|exact .inr rfl|assumption):dD M A (storeName X.env x u) Q E s:=by
 obtain⟨m,hn,hl⟩:=id I.loc;have hcls:(X.env.scope.kind == .class || (X.env.scope.kind == .module&&X.env.locals != X.env.globals))=false:=by rw[I.ok.kind];rfl
 have hiσ:i < σ.length:=by rw[I.len];exact(ak.mp hi).1
 have cne:=I.cne
 have tracked:∀{a:dX}{h':Heap},(∃o,s.heap.get? a=some o/\H a=none)->Heap.SameBut a s.heap h'->HOk X.prog X.w H h':=λ{a h'} ha hs b ob e=>by
  obtain⟨_,_,hfree⟩:=ha;refine(I.hok b ob e).stay (λc w' hc q=>(hs.2 c ?_).trans q) (λ_ q=>q) λ_ _ q=>q
  rintro rfl
  rcases hc with rfl|hc
  ·rw[hfree]at e;cases e
  ·rw[hfree]at hc;cases hc
 rcases hx with hk|hk
 ·refine wpAny_storeName_local hk hn (λh' hn' hs=>?_) hcls;obtain⟨oL,_,_,hoL,_⟩:=id hn;refine h _ ⟨I.ok,I.os,I.bare,⟨λb o e n hb hx=>?_,λb o e n hb hx=>?_,I.base.free,λb o e hx=>?_,I.base.tups,I.base.frzs,I.base.tbls⟩,⟨_,hn',λj y v' e1 e2 e3=>?_⟩,λy c e=>?_,I.free,I.freeC,λp hp=>?_,tracked ⟨oL,hoL,I.free⟩ hs,by simpa using I.len⟩ ⟨_,hs,.inl rfl⟩
  ·exact(hs.2 b (aD (aA (dG e) I.ok.above))).trans (I.base.keep b o e n hb hx)
  ·obtain⟨sl,e1⟩:=I.base.slot b o e n hb hx;exact⟨sl,(hs.2 b (aD (aA (dG e) I.ok.above))).trans e1⟩
  ·obtain⟨o',e1⟩:=I.base.there b o e hx;exact⟨o',(hs.2 b (aD (aA (dG e) I.ok.above))).trans e1⟩
  ·by_cases hj:j=i
   ·subst hj;rw[hi]at e1;cases e1;rw[az hiσ]at e2;cases e2;exact⟨u,r,.inl ⟨hk,by simp⟩⟩
   ·rw[av (Ne.symm hj)]at e2;obtain⟨u',r',q⟩:=hl j y v' e1 e2 e3;refine⟨u',r',?_⟩;rcases q with⟨k,e⟩|⟨k,c,e,z⟩
    ·refine .inl ⟨k,?_⟩;have:y≠x:=λe=>hj (aJ5 hN e1 (e ▸ hi))
     simp[this,e]
    ·exact .inr ⟨k,c,e,z.sameBut hs (cne y c e)⟩
  ·obtain⟨w',z⟩:=I.cell y c e;exact⟨w',z.sameBut hs (cne y c e)⟩
  ·obtain⟨e,n,ne,nf,d⟩:=I.pin p hp;exact⟨(hs.2 p.1 ne).trans e,n,ne,nf,d⟩
 ·have hfn:X.fn x=true:=by
   rcases hf with z|z
   ·exact z
   ·rw[z]at hk;cases hk
  obtain⟨c,hc⟩:=I.ok.has x (.inl hk);obtain⟨w',z⟩:=I.cell x c hc;refine wpAny_storeName_cell I.ok.kind hk hc z (λh' hc' hs=>?_);obtain⟨oc,hoc,hocd⟩:=id z;refine h { s with heap:=h' } ⟨I.ok,I.os,I.bare,⟨λb o e n hb hx=>?_,λb o e n hb hx=>?_,I.base.free,λb o e hx=>?_,I.base.tups,I.base.frzs,I.base.tbls⟩,⟨m,hn.sameBut hs (Ne.symm (cne x c hc)),λj y v' e1 e2 e3=>?_⟩,λy c' e=>?_,I.free,I.freeC,λp hp=>?_,tracked ⟨oc,hoc,I.freeC x c hc⟩ hs,by simpa using I.len⟩ ⟨c,hs,.inr hc⟩
  ·exact(hs.2 b (aD (aA (dG e) (I.ok.cab x c hfn hc)))).trans (I.base.keep b o e n hb hx)
  ·obtain⟨sl,e1⟩:=I.base.slot b o e n hb hx;exact⟨sl,(hs.2 b (aD (aA (dG e) (I.ok.cab x c hfn hc)))).trans e1⟩
  ·obtain⟨o',e1⟩:=I.base.there b o e hx;exact⟨o',(hs.2 b (aD (aA (dG e) (I.ok.cab x c hfn hc)))).trans e1⟩
  ·by_cases hj:j=i
   ·subst hj;rw[hi]at e1;cases e1;rw[az hiσ]at e2;cases e2;exact⟨u,r,.inr ⟨.inl hk,c,hc,hc'⟩⟩
   ·rw[av (Ne.symm hj)]at e2;obtain⟨u',r',q⟩:=hl j y v' e1 e2 e3;refine⟨u',r',?_⟩;rcases q with q|⟨k,c',e,z'⟩
    ·exact .inl q
    ·refine .inr ⟨k,c',e,z'.sameBut hs ?_⟩
     rintro rfl
     exact hj (aJ5 hN e1 (I.ok.inj _ _ _ e hc ▸ hi))
  ·by_cases hcc:c'=c
   ·subst hcc;exact⟨_,hc'⟩
   ·obtain⟨w2,z2⟩:=I.cell y c' e;exact⟨w2,z2.sameBut hs hcc⟩
  ·obtain⟨e,n,ne,nf,d⟩:=I.pin p hp;refine⟨(hs.2 p.1 ?_).trans e,n,ne,nf,d⟩;intro q;rw[q,hoc]at e;have q':oc=p.2:=bn.inj e;exact d w' (by rw[← q'];exact hocd)
theorem af6(I:Inv X pins σ H s)(hN:X.N.Nodup)(hi:X.N[i]? = some x)(hx:Loc X.env.scope x)(r:E3 v u)
  (h:∀s',Inv X pins (σ.set i (some v)) H s'->Q () s') (hf:X.fn x=true\/X.env.scope.names.lookup x=some .local:=by first|exact .inl rfl|exact .inr rfl|assumption):dD M A (storeName X.env x u) Q E s :=
 ax1 I hN hi hx r (λs' I' _=>h s' I') hf
theorem Inv.call'(I:Inv X pins σ H s)(ho:s'.os=s.os)(u:Un (frs X.stack) ch H H' s.heap s'.heap)(hok:HOk X.prog X.w H' s'.heap)(hg:AllBare s'.gens)
  (hch:∀b∈ch,(b∈X.ex\/X.s₀.heap.objs.size<=b)/\b≠X.env.locals/\(∀x c,X.env.cells.lookup x=some c->c≠b)/\∀p∈X.pn++pins,p.1≠b):Inv X pins σ H' s':=by
 obtain⟨h',g',d',t',o'⟩:=s';have e:o'=s.os:=ho;subst e;exact I.call (g':=g') (t':=t') (d':=d') u hok hg hch
end
noncomputable abbrev XK:=dU->Option dX->Hp->Prop
noncomputable abbrev St:=List (Option V)
noncomputable abbrev VK:=V->Hp->Prop
noncomputable abbrev TE:=St->Hp->VK->Prop
noncomputable abbrev TT:=St->Hp->(Bool->Hp->Prop)->Prop
noncomputable abbrev TA:=St->Hp->(List V->Hp->Prop)->Prop
structure Ends where
 nx:St->Hp->Prop
 rt:VK
 bk:St->Hp->Prop:=λ_ _=>False
 ct:St->Hp->Prop:=λ_ _=>False
noncomputable abbrev TS:=Ends->St->Hp->Prop
noncomputable def EP(X:Cx)(pins:List (dX×Obj))(σ:St)(Q:VK)(u:dU)(s':dW):Prop:=∃v H',Inv X pins σ H' s'/\E3 v u/\Q v H'
noncomputable def TP(X:Cx)(pins:List (dX×Obj))(σ:St)(Q:Bool->Hp->Prop)(b:Bool)(s':dW):Prop:=∃H',Inv X pins σ H' s'/\Q b H'
noncomputable def AP(X:Cx)(pins:List (dX×Obj))(σ:St)(Q:List V->Hp->Prop)(us:List dU)(s':dW):Prop:=∃vs H',Inv X pins σ H' s'/\C2 vs us/\Q vs H'
noncomputable def SP(X:Cx)(pins:List (dX×Obj))(D:Ends)(f:Flow)(s':dW):Prop :=
 match f with
 | .next=>∃σ' H',Inv X pins σ' H' s'/\D.nx σ' H'
 | .brk=>∃σ' H',Inv X pins σ' H' s'/\D.bk σ' H'
 | .cont=>∃σ' H',Inv X pins σ' H' s'/\D.ct σ' H'
 | .ret u=>∃v σ' H',Inv X pins σ' H' s'/\E3 v u/\D.rt v H'
noncomputable def PE(X:Cx)(e:Expr)(t:TE):Prop :=
 ∀(pins:List (dX×Obj)) (s:dW) (σ:St) (H:Hp) (Q:VK),Inv X pins σ H s->t σ H Q->dD (dE X.prog X.w) X.A (eval e X.env) (EP X pins σ Q) X.xe s
noncomputable def PT(X:Cx)(e:Expr)(t:TT):Prop :=
 ∀(pins:List (dX×Obj)) (s:dW) (σ:St) (H:Hp) (Q:Bool->Hp->Prop),Inv X pins σ H s->t σ H Q->dD (dE X.prog X.w) X.A (isTrue e X.env (eval e X.env)) (TP X pins σ Q) X.xe s
noncomputable def PW(X:Cx)(e:Expr)(t:TT):Prop :=
 ∀(whole:Sem dU) (pins:List (dX×Obj)) (s:dW) (σ:St) (H:Hp) (Q:Bool->Hp->Prop),Inv X pins σ H s->t σ H Q->dD (dE X.prog X.w) X.A (isTrue e X.env whole) (TP X pins σ Q) X.xe s
theorem PW.pt(h:PW X e t):PT X e t:=h _
noncomputable def PA(X:Cx)(es:List Expr)(t:TA):Prop :=
 ∀(pos:Pos) (pins:List (dX×Obj)) (s:dW) (σ:St) (H:Hp) (Q:List V->Hp->Prop),Inv X pins σ H s->t σ H Q->dD (dE X.prog X.w) X.A (spliced (backTo pos (di es X.env))) (AP X pins σ Q) X.xe s
noncomputable def PS(X:Cx)(st:Stmt)(t:TS):Prop :=
 ∀(pins:List (dX×Obj)) (s:dW) (σ:St) (H:Hp) (D:Ends),Inv X pins σ H s->t D σ H->dD (dE X.prog X.w) X.A (exec st X.env) (SP X pins D) X.xe s
noncomputable def PSs(X:Cx)(st:List Stmt)(t:TS):Prop :=
 ∀(pins:List (dX×Obj)) (s:dW) (σ:St) (H:Hp) (D:Ends),Inv X pins σ H s->t D σ H->dD (dE X.prog X.w) X.A (execs st X.env) (SP X pins D) X.xe s
theorem thn{α:Type}{t:Sem α}{Q Q':α->dW->Prop}{M:Model}{A:dr}{E:dU->dW->Prop}{s:dW}(h:dD M A t Q E s)(hQ:∀a s,Q a s->Q' a s):dD M A t Q' E s:=cZ h hQ λ_ _ x=>x
end L2
namespace L2
open PySem PySem.Spec PyProof.Rows
section
variable {X:Cx}
theorem bin{a b:Expr}{ta tb:TE}(ha:PE X a ta)(hb:PE X b tb){pins:List (dX×Obj)}{s:dW}{σ:St}{H:Hp}{R:V->V->Hp->Prop}(I:Inv X pins σ H s)(h:ta σ H λx H1=>tb σ H1 λy H2=>R x y H2)
  {α:Type}{Q:α->dW->Prop}{f:dU->dU->Sem α}
  (hf:∀v u s2 x y H2,Inv X pins σ H2 s2->E3 x v->E3 y u->R x y H2->dD (dE X.prog X.w) X.A (f v u) Q X.xe s2) :
  dD (dE X.prog X.w) X.A (eval a X.env) (λv s₁=>dD (dE X.prog X.w) X.A (eval b X.env) (λu s₂=>dD (dE X.prog X.w) X.A (f v u) Q X.xe s₂) X.xe s₁) X.xe s:=by
 refine thn (ha pins s σ H _ I h) λv s1 ⟨x,H1,I1,r1,q1⟩=>?_
 refine thn (hb pins s1 σ H1 _ I1 q1) λu s2 ⟨y,H2,I2,r2,q2⟩=>?_
 exact hf v u s2 x y H2 I2 r1 r2 q2
noncomputable def cs8(i:Nat):TE:=λσ H Q=>∃v,σ[i]? = some (some v)/\Q v H
noncomputable def tC(v:V):TE:=λ_ H Q=>Q v H
theorem U8(hN:X.N[i]? = some x)(hv:Vis X.env.scope x)(hd:(x==("__debug__" : Str))=false:=by decide)(hcd:(x==("__classdict__" : Str))=false:=by decide):PE X (.Name x pos) (cs8 i):=by
 intro pins s σ H Q I h;obtain⟨v,e,h⟩:=h;obtain⟨m,hn,hl⟩:=I.loc;obtain⟨u,r,l⟩:=hl i x v hN e hv;have fin:EP X pins σ Q u s:=⟨v,H,I,r,h⟩;rcases l with⟨hk,hm⟩|⟨hk,c,hc,hcell⟩
 ·exact wpAny_Name (wpAny_loadName_local I.ok.kind hk hn hm fin) hd
 ·rcases hk with hk|hk
  ·exact wpAny_Name (wpAny_loadName_cell I.ok.kind hk hc hcell fin) hd
  ·exact wpAny_Name (wpAny_loadName_free I.ok.kind hk hc hcell fin hcd) hd
theorem cd0{i j pos}:PE X (.Constant (.int i) j pos) (tC (.int i)):=λ_ _ _ H _ I h=>wpAny_Constant_int ⟨.int i,H,I.tok _,⟨_,rfl⟩,h⟩
theorem cv3{b j pos}:PE X (.Constant (.bool b) j pos) (tC (.bl b)):=λ_ _ _ H _ I h=>Constant_bool ⟨.bl b,H,I,rfl,h⟩
theorem cc9{j pos}:PE X (.Constant .none j pos) (tC .non):=λ_ _ _ H _ I h=>Constant_none ⟨.non,H,I,rfl,h⟩
theorem cc7{x j pos}:PE X (.Constant (.str x) j pos) (tC (.str x)):=λ_ _ _ H _ I h=>Calls.Constant_str ⟨.str x,H,I.tok _,⟨_,rfl⟩,h⟩
noncomputable def Gl(X:Cx)(x:Str):Prop:=X.env.kindOf x=some .globalImplicit
theorem p6(I:Inv X pins σ H s)(hg:Gl X x)(hm:X.mg x=some u)(h:Q u s)
  (hd:(x==("__debug__" : Str))=false:=by decide):dD (dE X.prog X.w) X.A (eval (.Name x pos) X.env) Q E s :=
 Calls.Name_function_global I.ok.kind hg (Calls.loadGlobal_global (by rw[I.ok.glob];exact I.mod.glob.keeps I.bk) hm h) hd
theorem ae4(I:Inv X pins σ H s)(hg:Gl X x)(hm:X.mg x=none)(hv:du x=some u)(h:Q u s)
  (hn:x ≠ "__name__" := by decide) (hd:(x==("__debug__" : Str))=false:=by decide):dD (dE X.prog X.w) X.A (eval (.Name x pos) X.env) Q E s:=by
 obtain⟨mb,h1,h2⟩:=I.mod.blt;exact Calls.Name_function_global I.ok.kind hg (Calls.loadGlobal_builtin (by rw[I.ok.glob];exact I.mod.glob.keeps I.bk) hm (by rw[I.ok.blt];exact h1.keeps I.bk) ((h2 x hn).trans hv) h) hd
theorem bK0(hg:Gl X x)(hm:X.mg x=some u)(r:E3 v u)(hd:(x==("__debug__" : Str))=false:=by decide):PE X (.Name x pos) (tC v) :=
 λ_ _ _ H _ I h=>p6 I hg hm ⟨v,H,I,r,h⟩ hd
theorem bK3(hg:Gl X x)(hm:X.mg x=none)(hv:du x=some u)(r:E3 v u)(hn:x ≠ "__name__" := by decide)(hd:(x==("__debug__" : Str))=false:=by decide):PE X (.Name x pos) (tC v) :=
 λ_ _ _ H _ I h=>ae4 I hg hm hv ⟨v,H,I,r,h⟩ hn hd
variable {a b:Expr}{ta tb:TE}{pos:Pos}
noncomputable def PC(X:Cx)(op:CmpOp)(a b:Expr)(t:TE):Prop :=
 ∀(pins:List (dX×Obj)) (s:dW) (σ:St) (H:Hp) (Q:VK),Inv X pins σ H s->t σ H Q ->
  dD (dE X.prog X.w) X.A (eval a X.env) (λv s₁=>dD (dE X.prog X.w) X.A (eval b X.env) (λu s₂=>dD (dE X.prog X.w) X.A (dl op v u) (EP X pins σ Q) X.xe s₂) X.xe s₁) X.xe s
theorem aJ6(b:Expr)(h:op≠.In)(h2:op≠.NotIn):behindInMarks op b=false:=by
 have e1:(op==CmpOp.In)=false:=by cases op<;>first|rfl|exact absurd rfl h
 have e2:(op==CmpOp.NotIn)=false:=by cases op<;>first|rfl|exact absurd rfl h2
 cases b<;>simp[behindInMarks,e1,e2]
noncomputable def tB(t:TE):TT:=λσ H Q=>t σ H λx H1=>∃c,x=.bl c/\Q c H1
theorem bp5(h:PC X op a b t)(h1:behindInMarks op b=false:=by first|exact aJ6 _ (by decide) (by decide)|rfl):PE X (.Compare a [op] [b] pos) t:=λpins s σ H Q I hw=>wpAny_Compare1 (h pins s σ H Q I hw) h1
theorem bn9(h:PC X op a b t)(h1:behindInMarks op b=false:=by first|exact aJ6 _ (by decide) (by decide)|rfl):PT X (.Compare a [op] [b] pos) (tB t):=by
 intro pins s σ H Q I hw;refine wpAny_isTrue_Compare1 (thn (h pins s σ H _ I hw) λv s1 h1=>thn h1 λu s2 h2=>thn h2 λc s3 ⟨x,H1,I1,r1,q1⟩=>?_) h1;obtain⟨d,rfl,q⟩:=q1;cases r1;exact dg ⟨H1,I1,q⟩
variable {tA tB':TT}{Z4:List Expr}
noncomputable def cE4(t u:TT):TT:=λσ H Q=>t σ H λc H1=>if c=true then u σ H1 Q else Q false H1
noncomputable def tOr(t u:TT):TT:=λσ H Q=>t σ H λc H1=>if c=true then Q true H1 else u σ H1 Q
noncomputable def cD6(t:TT):TT:=λσ H Q=>t σ H λc H1=>Q (!c) H1
theorem aW9(ha:PT X a tA):PW X (.BoolOp .And [a] pos) tA:=by
 intro wh pins s σ H Q I h;refine isTrue_and (thn (ha pins s σ H Q I h) λc s1 e=>?_);cases c with
 | true=>exact isTrue_and_nil e
 | false=>exact e
theorem bn8(ha:PT X a tA):PW X (.BoolOp .Or [a] pos) tA:=by
 intro wh pins s σ H Q I h;refine isTrue_or (thn (ha pins s σ H Q I h) λc s1 e=>?_);cases c with
 | false=>exact isTrue_or_nil e
 | true=>exact e
theorem aC4(ha:PT X a tA)(hb:PW X (.BoolOp .And (b::Z4) pos) tB'):PW X (.BoolOp .And (a::b::Z4) pos) (cE4 tA tB'):=by
 intro wh pins s σ H Q I h;refine isTrue_and (thn (ha pins s σ H _ I h) λc s1 ⟨H1,I1,q1⟩=>?_);cases c with
 | true=>exact hb wh pins s1 σ H1 Q I1 q1
 | false=>exact⟨H1,I1,q1⟩
theorem aW8(ha:PT X a tA)(hb:PW X (.BoolOp .Or (b::Z4) pos) tB'):PW X (.BoolOp .Or (a::b::Z4) pos) (tOr tA tB'):=by
 intro wh pins s σ H Q I h;refine isTrue_or (thn (ha pins s σ H _ I h) λc s1 ⟨H1,I1,q1⟩=>?_);cases c with
 | true=>exact⟨H1,I1,q1⟩
 | false=>exact hb wh pins s1 σ H1 Q I1 q1
theorem cc0(ha:PT X a tA):PT X (.UnaryOp .Not a pos) (cD6 tA):=by
 intro pins s σ H Q I h;exact isTrue_not (ha pins s σ H (λc H1=>Q (!c) H1) I h)
noncomputable def ct5(ta tb:TE):TE:=λσ H Q=>ta σ H λx H1=>∃c,x=.bl c/\if c=true then tb σ H1 Q else Q (.bl false) H1
noncomputable def ct0(ta:TE):TE:=λσ H Q=>ta σ H λx H1=>∃c,x=.bl c/\Q (.bl (!c)) H1
theorem bo8{op}(h:PE X a t):PE X (.BoolOp op [a] pos) t:=λpins s σ H Q I hw=>BoolOp_one (h pins s σ H Q I hw)
theorem aC6(ha:PE X a ta)(hb:PE X (.BoolOp .And (b::Z4) pos) tb):PE X (.BoolOp .And (a::b::Z4) pos) (ct5 ta tb):=by
 intro pins s σ H Q I h;refine BoolOp_and (thn (ha pins s σ H _ I h) λv s1 ⟨x,H1,I1,r1,q1⟩=>?_);obtain⟨c,rfl,q1⟩:=q1;cases r1;refine dg ?_;cases c with
 | true=>exact hb pins s1 σ H1 Q I1 q1
 | false=>exact⟨.bl false,H1,I1,rfl,q1⟩
theorem cc8(ha:PE X a ta):PE X (.UnaryOp .Not a pos) (ct0 ta):=by
 intro pins s σ H Q I h;refine UnaryOp_ (thn (ha pins s σ H _ I h) λv s1 ⟨x,H1,I1,r1,q1⟩=>?_);obtain⟨c,rfl,q1⟩:=q1;cases r1;exact not_of (dg ⟨.bl (!c),H1,I1,rfl,q1⟩)
noncomputable def tIf(t:TT)(ta tb:TE):TE:=λσ H Q=>t σ H λc H1=>if c=true then ta σ H1 Q else tb σ H1 Q
theorem aJ3(hc:PT X c tA)(ha:PE X a ta)(hb:PE X b tb):PE X (.IfExp c a b pos) (tIf tA ta tb):=by
 intro pins s σ H Q I h;refine wpAny_IfExp (thn (hc pins s σ H _ I h) λd s1 ⟨H1,I1,q1⟩=>?_);cases d with
 | true=>exact ha pins s1 σ H1 Q I1 q1
 | false=>exact hb pins s1 σ H1 Q I1 q1
end
end L2
namespace L2
open PySem PySem.Spec PyProof.Rows
noncomputable def SqL(K:ag)(H:Hp)(a:dX)(xs:List V):Prop :=
 Rd H a (.lst xs) \/
  ∃(o:Obj) (its:Array dU) (n:Nat),K.lookup a=some o/\o.cls=.type "list" /\ o.dict=none/\o.data=.seq its n/\its.size<=dj/\C2 xs its.toList
noncomputable def SqT(K:ag)(H:Hp)(a:dX)(xs:List V):Prop :=
 Rd H a (.tup xs) \/
  ∃(o:Obj) (its:Array dU) (n:Nat),K.lookup a=some o/\o.cls=.type "tuple" /\ o.dict=none/\o.data=.seq its n/\its.size<=dj/\C2 xs its.toList
noncomputable def cI2:dU->Option V
 | .none=>some .non
 | .bool b=>some (.bl b)
 | .int i _=>some (.int i)
 | .str x _=>some (.str x)
 | .bytes b _=>some (.byt b)
 | .float b _=>some (.flt b)
 | .ref a=>some (.ref a)
 | .type n=>some (.ty n)
 | _=>none
theorem E3.abs(r:E3 x u):cI2 u=some x:=by
 cases x with
 | non=>cases r;rfl
 | bl _=>cases r;rfl
 | int _=>obtain⟨t,rfl⟩:=r;rfl
 | str _=>obtain⟨t,rfl⟩:=r;rfl
 | byt _=>obtain⟨t,rfl⟩:=r;rfl
 | flt _=>obtain⟨t,rfl⟩:=r;rfl
 | ref _=>cases r;rfl
 | ty _=>cases r;rfl
theorem E3.inj(r:E3 x u)(q:E3 y u):x=y:=bn.inj (r.abs.symm.trans q.abs)
theorem C2.inj:∀{xs ys:List V}{us:List dU},C2 xs us->C2 ys us->xs=ys
 | _,_,_,.nil,.nil=>rfl
 | _,_,_,.cons r t,.cons r' t'=>by rw[r.inj r',C2.inj t t']
section
variable {X:Cx}{pins:List (Addr×Obj)}{σ:St}{H:Hp}{s:Shared}{a:Addr}{xs ys:List V}
theorem SqL.of{K:ag}(h:H a=some (.lst xs)):SqL K H a xs:=.inl (.inl h)
theorem SqT.of{K:ag}(h:H a=some (.tup xs)):SqT K H a xs:=.inl (.inl h)
theorem Inv.list(I:Inv X pins σ H s)(h:SqL X.K H a xs):∃its:List dU,C2 xs its/\PlainL s.heap a its.toArray/\xs.length<=dj:=by
 rcases h with h|⟨o,its,n,hk,hc,hd,hs,hz,r⟩
 ·obtain⟨z,its,n,r,e⟩:=h.ok I.hok;exact⟨its,r,⟨_,n,e,rfl,rfl,rfl⟩,z⟩
 ·refine⟨its.toList,r,⟨o,n,I.kIn a o hk,hc,hd,by simpa using hs⟩,?_⟩;have e:=r.length;simp only[bq]at e;omega
theorem Inv.tupN(I:Inv X pins σ H s)(h:SqT X.K H a xs):∃its:List dU,C2 xs its/\aw2 s.heap a its.toArray/\xs.length<=dj:=by
 rcases h with h|⟨o,its,n,hk,hc,hd,hs,hz,r⟩
 ·obtain⟨z,its,r,p⟩:=h.ok I.hok;exact⟨its,r,p,z⟩
 ·refine⟨its.toList,r,⟨o,I.kIn a o hk,hc,⟨n,by simpa using hs⟩,hd⟩,?_⟩;have e:=r.length;simp only[bq]at e;omega
theorem Inv.tuple(I:Inv X pins σ H s)(h:SqT X.K H a xs):∃its:List dU,C2 xs its/\IsTup s.heap a its.toArray/\xs.length<=dj :=
 let⟨its,r,p,z⟩:=I.tupN h;⟨its,r,p.tup,z⟩
theorem Inv.list_inj(I:Inv X pins σ H s)(h:SqL X.K H a xs)(h':SqL X.K H a ys):xs=ys:=by
 obtain⟨its,r,⟨o,n,e,_,_,d⟩,_⟩:=I.list h;obtain⟨its',r',⟨o',n',e',_,_,d'⟩,_⟩:=I.list h';rw[e]at e';cases e';rw[d]at d';injection d' with d1 _
 have:its=its':=by simpa using congrArg Array.toList d1
 subst this;exact r.inj r'
theorem Inv.tuple_inj(I:Inv X pins σ H s)(h:SqT X.K H a xs)(h':SqT X.K H a ys):xs=ys:=by
 obtain⟨its,r,⟨o,e,_,n,d⟩,_⟩:=I.tuple h;obtain⟨its',r',⟨o',e',_,n',d'⟩,_⟩:=I.tuple h';rw[e]at e';cases e';rw[d]at d';injection d' with d1 _
 have:its=its':=by simpa using congrArg Array.toList d1
 subst this;exact r.inj r'
end
noncomputable abbrev Cx.wish(X:Cx)(E:dU->dW->Prop):Cx:={ X with xe:=E }
noncomputable abbrev Cx.nox(X:Cx):Cx:=X.wish λ_ _=>False
theorem Cx.Ok.wish{X:Cx}(ok:X.Ok)(E:dU->dW->Prop):(X.wish E).Ok :=
 ⟨ok.mod,ok.kind,ok.glob,ok.blt,ok.above,ok.inj,ok.has,ok.cab,ok.hd,ok.frames,ok.stk,ok.exf,ok.bs,ok.bsz,ok.noex,ok.exfs,ok.funs,ok.frf⟩
theorem Cx.Ok.unwish{X:Cx}{E:dU->dW->Prop}(ok:(X.wish E).Ok):X.Ok :=
 ⟨ok.mod,ok.kind,ok.glob,ok.blt,ok.above,ok.inj,ok.has,ok.cab,ok.hd,ok.frames,ok.stk,ok.exf,ok.bs,ok.bsz,ok.noex,ok.exfs,ok.funs,ok.frf⟩
section
variable {X:Cx}{pins:List (Addr×Obj)}{σ:St}{H:Hp}{s:Shared}{E:Value->Shared->Prop}
theorem Inv.wish(I:Inv X pins σ H s)(E:dU->dW->Prop):Inv (X.wish E) pins σ H s:=⟨I.ok.wish E,I.os,I.bare,I.base,I.loc,I.cell,I.free,I.freeC,I.pin,I.hok,I.len⟩
theorem Inv.unwish(I:Inv (X.wish E) pins σ H s):Inv X pins σ H s:=⟨I.ok.unwish,I.os,I.bare,I.base,I.loc,I.cell,I.free,I.freeC,I.pin,I.hok,I.len⟩
theorem SP.unwish(h:SP (X.wish E) pins D f s'):SP X pins D f s':=by
 cases f with
 | next=>obtain⟨σ',H',I,q⟩:=h;exact⟨σ',H',I.unwish,q⟩
 | brk=>obtain⟨σ',H',I,q⟩:=h;exact⟨σ',H',I.unwish,q⟩
 | cont=>obtain⟨σ',H',I,q⟩:=h;exact⟨σ',H',I.unwish,q⟩
 | ret u=>obtain⟨v,σ',H',I,r,q⟩:=h;exact⟨v,σ',H',I.unwish,r,q⟩
theorem PSs.nox{st:List Stmt}{t:TS}(h:PSs X.nox st t):PSs X st t:=λpins s σ H D I hw =>
 cZ (h pins s σ H D (I.wish _) hw) (λ_ _ q=>q.unwish) λ_ _ z=>False.elim z
end
section
variable {X:Cx}{st:Stmt}{Z4:List Stmt}{t u:TS}{e:Expr}{te:TE}{pos:Pos}
noncomputable def bR6:TS:=λD σ H=>D.nx σ H
noncomputable def cD3(t u:TS):TS:=λD σ H=>t { D with nx:=u D } σ H
theorem aX2:PSs X [] bR6:=λ_ _ σ H _ I h=>wpAny_execs_nil ⟨σ,H,I,h⟩
theorem Z5(h1:PS X st t)(h2:PSs X Z4 u):PSs X (st::Z4) (cD3 t u):=by
 intro pins s σ H D I h;refine wpAny_execs_cons (thn (h1 pins s σ H { D with nx:=u D } I h) λf s1 q=>?_);cases f with
 | next =>
  obtain⟨σ',H',I',q⟩:=q;exact h2 pins s1 σ' H' D I' q
 | ret v=>exact q
 | brk=>exact q
 | cont=>exact q
theorem aX1(h1:PS X st t):PSs X [st] t:=by
 intro pins s σ H D I h;refine wpAny_execs_cons (thn (h1 pins s σ H D I h) λf s1 q=>?_);cases f with
 | next=>exact wpAny_execs_nil q
 | ret v=>exact q
 | brk=>exact q
 | cont=>exact q
theorem bJ3:PS X (.Pass pos) bR6:=λ_ _ σ H _ I h=>wpAny_Pass ⟨σ,H,I,h⟩
theorem Inv.quiet(I:Inv X pins σ H s):interactive X.env=false:=by simp[interactive,I.ok.kind]
noncomputable def ct1(te:TE):TS:=λD σ H=>te σ H λ_ H1=>D.nx σ H1
theorem an5(he:PE X e te)(hs:swapsWith e none pos.line X.env=pure false:=by rfl):PS X (.Expr e pos) (ct1 te):=by
 intro pins s σ H D I h;exact wpAny_Expr_any (thn (he pins s σ H _ I h) λv s1 ⟨x,H1,I1,r1,q1⟩=>⟨σ,H1,I1,q1⟩) I.quiet hs
noncomputable def cD4(te:TE):TS:=λD σ H=>te σ H D.rt
theorem aQ2(he:PE X e te):PS X (.Return (some e) pos) (cD4 te):=by
 intro pins s σ H D I h;exact wpAny_Return_some (thn (he pins s σ H _ I h) λv s1 ⟨x,H1,I1,r1,q1⟩=>⟨x,σ,H1,I1,r1,q1⟩)
noncomputable def cD8(c:TT)(t u:TS):TS:=λD σ H=>c σ H λb H1=>if b=true then t D σ H1 else u D σ H1
theorem aX3(hc:PT X c tc)(ha:PSs X a t)(hb:PSs X b u):PS X (.If c a b pos) (cD8 tc t u):=by
 intro pins s σ H D I h;refine wpAny_If (thn (hc pins s σ H _ I h) λd s1 ⟨H1,I1,q1⟩=>?_);cases d with
 | true=>exact ha pins s1 σ H1 D I1 q1
 | false=>exact hb pins s1 σ H1 D I1 q1
noncomputable def bZ9:TS:=λ_ _ _=>False
theorem Q3:PSs X sts bZ9:=λ_ _ _ _ _ _ h=>h.elim
end
noncomputable abbrev TG:=V->St->Hp->(St->Hp->Prop)->Prop
noncomputable abbrev TGs:=List V->St->Hp->(St->Hp->Prop)->Prop
noncomputable def PG(X:Cx)(target:Expr)(t:TG):Prop :=
 ∀(pins:List (dX×Obj)) (s:dW) (σ:St) (H:Hp) (v:V) (u:dU) (Q:St->Hp->Prop),Inv X pins σ H s->E3 v u->t v σ H Q ->
  dD (dE X.prog X.w) X.A (assign target X.env u) (λ_ s'=>∃σ' H',Inv X pins σ' H' s'/\Q σ' H') X.xe s
noncomputable def PGs(X:Cx)(ts:List Expr)(t:TGs):Prop :=
 ∀(pins:List (dX×Obj)) (s:dW) (σ:St) (H:Hp) (vs:List V) (us:List dU) (Q:St->Hp->Prop),Inv X pins σ H s->C2 vs us->t vs σ H Q ->
  dD (dE X.prog X.w) X.A (assignInOrder ((dy ts X.env).map (·.2)) us) (λ_ s'=>∃σ' H',Inv X pins σ' H' s'/\Q σ' H') X.xe s
section
variable {X:Cx}{pos:Pos}
noncomputable def bU4(i:Nat):TG:=λv σ H Q=>Q (σ.set i (some v)) H
theorem bJ8(hN:X.N.Nodup)(hi:X.N[i]? = some x)(hx:Loc X.env.scope x)(hf:X.fn x=true\/X.env.scope.names.lookup x=some .local:=by first|exact .inl rfl|exact .inr rfl|assumption):PG X (.Name x pos) (bU4 i):=by
 intro pins s σ H v u Q I r h;exact wpAny_assign_Name (af6 I hN hi hx r (λs' I'=>⟨_,H,I',h⟩) hf)
noncomputable def cG5:TGs:=λvs σ H Q=>vs=[]/\Q σ H
noncomputable def cA1(t:TG)(u:TGs):TGs:=λvs σ H Q=>∃v r,vs=v::r/\t v σ H λσ' H'=>u r σ' H' Q
theorem bJ7:PGs X [] cG5:=by
 intro pins s σ H vs us Q I r h;obtain⟨e,h⟩:=h;subst e;cases r;exact assignInOrder_nil ⟨σ,H,I,h⟩
theorem bo7(h1:PG X e t)(h2:PGs X es u)
  (hs:(dy (e::es) X.env).map (·.2)=assign e X.env::(dy es X.env).map (·.2):=by rfl):PGs X (e::es) (cA1 t u):=by
 intro pins s σ H vs us Q I r h;obtain⟨v,vr,e1,h⟩:=h;subst e1;cases r with
 | cons r rr =>
  rw[hs];refine assignInOrder_cons (thn (h1 pins s σ H _ _ _ I r h) λ_ s1 ⟨σ1,H1,I1,q1⟩=>?_);exact h2 pins s1 σ1 H1 _ _ Q I1 rr q1
noncomputable def cG4(K:ag)(n:Nat)(t:TGs):TG:=λv σ H Q=>∃a xs,v=.ref a/\SqT K H a xs/\xs.length=n/\t xs σ H Q
theorem cc6(hc:X.calm=true)(h:PGs X es t)
  (hn:(dy es X.env).length=n:=by rfl) (hst:(dy es X.env).findIdx? (·.1)=none:=by rfl):PG X (.Tuple es k pos) (cG4 X.K n t):=by
 intro pins s σ H v u Q I r hw;obtain⟨a,xs,e1,hq,hl,hw⟩:=hw;subst e1;cases r;obtain⟨its,rv,ht,hz⟩:=I.tuple hq;refine assign_Tuple_tuple (I.ok.hd hc) ht (by simp[hn,← hl,rv.length]) hst λh' hx=>?_
 have I1:Inv X pins σ H { s with heap:=h' }:=I.kept (t':=s.toks) λb o e=>hx b o (aD (dG e)) e
 exact h pins _ σ H xs _ Q I1 (by simpa using rv) hw
noncomputable def cE3(te:TE)(g:TG):TS:=λD σ H=>te σ H λx H1=>g x σ H1 D.nx
theorem ai6(hN:X.N.Nodup)(hi:X.N[i]? = some x)(hx:Loc X.env.scope x)(he:PE X e te)(hs:swapsWith e (some (.Name x pos')) pos.line X.env=pure false:=by rfl)(hf:X.fn x=true\/X.env.scope.names.lookup x=some .local:=by first|exact .inl rfl|exact .inr rfl|assumption):
  PS X (.Assign [.Name x pos'] e pos) (cE3 te (bU4 i)):=by
 intro pins s σ H D I h;refine wpAny_Assign_Name (thn (he pins s σ H _ I h) λv s1 ⟨y,H1,I1,r1,q1⟩=>?_) hs;exact af6 I1 hN hi hx r1 (λs2 I2=>⟨_,H1,I2,q1⟩) hf
noncomputable def cD5(i j:Nat)(ta:TA):TS:=λD σ H=>ta σ H λvs H1=>∃v w,vs=[v,w]/\D.nx ((σ.set i (some v)).set j (some w)) H1
theorem cc3{kt k2 pt2}(hc:X.calm=true)(hN:X.N.Nodup)(hi:X.N[i]? = some x)(hj:X.N[j]? = some y)(hij:i≠j)
  (hx:X.env.scope.names.lookup x=some .local) (hy:X.env.scope.names.lookup y=some .local) (ha:PA X [a,b] ta)
  (hw:swappedStores [.Tuple [.Name x px,.Name y py] kt pt] (.Tuple [a,b] k2 pt2) X.env=pure (some [x,y]))
  (hs:swapsWithSole [.Tuple [.Name x px,.Name y py] kt pt] (.Tuple [a,b] k2 pt2) pos.line X.env=pure false:=by rfl) :
  PS X (.Assign [.Tuple [.Name x px,.Name y py] kt pt] (.Tuple [a,b] k2 pt2) pos) (cD5 i j ta):=by
 intro pins s σ H D I h;rw[exec_Assign_arm];refine cX (wpAny_standAt ?_);rw[hs];refine cX (cY ?_);rw[if_neg (by decide)];refine cX (Tuple_ (thn (ha _ pins s σ H _ I h) λus s1 ⟨vs,H1,I1,r1,q1⟩=>?_));obtain⟨v,w,e1,q1⟩:=q1;subst e1
 obtain⟨u1,u2,rfl,rv,rw'⟩:∃u1 u2,us=[u1,u2]/\E3 v u1/\E3 w u2:=by
  cases r1 with
  | cons p q =>
   cases q with
   | cons p' q' =>
    cases q';exact⟨_,_,rfl,p,p'⟩
 refine de ?_ (by show 2<=dj;decide);have I2:Inv X pins σ H1 { s1 with heap:=s1.heap.push { cls:=.type "tuple", data:=.seq [u1,u2].toArray } }:=I1.kept (t':=s1.toks) λb o e=>dF _ e
 rw[hw];refine cX (cY ?_);show dD (dE X.prog X.w) X.A (do rule "assign.swapped-stores";let items ← unpackItems (.ref s1.heap.objs.size) 2 none;assignInOrder [λv=>bindName X.env y v,λv=>bindName X.env x v] items.reverse;pure Flow.next) _ _ _;refine cX (wpAny_rule (cX (unpackItems_tuple (items:=#[u1,u2]) (I.ok.hd hc) (IsTup.new s1.heap _) λh' hx'=>?_)));have I3:=I2.kept (h':=h') (t':=s1.toks) λb o e=>hx' b o (aD (dG e)) e
 show dD _ _ (assignInOrder [λv=>bindName X.env y v,λv=>bindName X.env x v] [u2,u1] >>= λ_=>pure Flow.next) _ _ _;refine cX (assignInOrder_cons (wpAny_bindName (af6 I3 hN hj (.inl hy) rw' (λs2 I4=>?_) (.inr hy))));refine assignInOrder_cons (wpAny_bindName (af6 I4 hN hi (.inl hx) rv (λs3 I5=>assignInOrder_nil (cY ?_)) (.inr hx)));rw[List.set_comm _ _ (Ne.symm hij)]at I5;exact⟨_,H1,I5,q1⟩
end
section
variable {X:Cx}{pos:Pos}
noncomputable def bZ8(c:TT)(tb:TS):TS:=λD σ H=>∃W:Nat->St->Hp->Prop,(∃m,W m σ H)/\∀m σ H,W m σ H ->
 c σ H λb H1=>if b=true then ∃N:St->Hp->Prop,(∀σ' H',N σ' H'->∃m',m' < m/\W m' σ' H')/\tb { D with nx:=N,ct:=N,bk:=D.nx } σ H1 else D.nx σ H1
theorem bo0(hp:PassesOwn (dE X.prog X.w) X.A X.env X.xe)(hc:PT X c tc)(hb:PSs X body tb):PS X (.While c body [] pos) (bZ8 tc tb):=by
 intro pins s σ H D I h;obtain⟨W,⟨m0,w0⟩,turn⟩:=h;refine wpAny_While (codeAny_whileLoop (λn s'=>∃σ' H',Inv X pins σ' H' s'/\W n σ' H') ?_ m0 ⟨σ,H,I,w0⟩)
 rintro n s1 ⟨σ1,H1,I1,w1⟩
 refine wpAny_passesOwn hp (thn (hc pins s1 σ1 H1 _ I1 (turn n σ1 H1 w1)) λb s2 ⟨H2,I2,q2⟩=>?_);cases b with
 | true =>
  obtain⟨N,hN,q2⟩:=q2;rw[if_pos rfl];refine wpAny_passesOwn hp (thn (hb pins s2 σ1 H2 _ I2 q2) λf s3 q3=>?_);cases f with
  | next =>
   obtain⟨σ3,H3,I3,n3⟩:=q3;obtain⟨m',hm,w3⟩:=hN σ3 H3 n3;exact⟨m',hm,σ3,H3,I3,w3⟩
  | cont =>
   obtain⟨σ3,H3,I3,n3⟩:=q3;obtain⟨m',hm,w3⟩:=hN σ3 H3 n3;exact⟨m',hm,σ3,H3,I3,w3⟩
  | brk=>exact q3
  | ret v=>exact q3
 | false =>
  rw[if_neg ba];exact wpAny_execs_nil ⟨σ1,H2,I2,q2⟩
end
structure It where
 go:Nat->Hp->Prop
 yld:Nat->Hp->V->Hp->Prop
 stop:Nat->Hp->Prop
noncomputable def ak4(X:Cx)(pins:List (dX×Obj))(H:Hp)(b:dX):Prop :=
 H b=none/\b≠X.env.locals/\b∉X.fs/\(b∈X.ex\/X.s₀.heap.objs.size<=b)/\(∀x c,X.env.cells.lookup x=some c->c≠b)/\∀p∈X.pn++pins,p.1≠b
theorem Inv.fpOk(I:Inv X pins σ H s)(hb:s.heap.objs.size<=b)(hn:H' b=none):ak4 X pins H' b:=by
 refine⟨hn,bS (aA I.lt hb),I.nofs hb,.inr (aC I.sz hb),λx c e z=>?_,λp hp z=>?_⟩
 ·obtain⟨v,q⟩:=I.cell x c e;exact absurd (aA q.lt (by rw[z];exact hb)) (bg _)
 ·exact absurd (aA (dG (I.pin p hp).1) (by rw[z];exact hb)) (bg _)
structure Turn (P:dq) (w:World) (K:ag) (tg:Expr) (J:It) (fp:List dX) (it:dX) (tn:Nat->Heap->Prop):Prop where
 mem:it∈fp
 obj:∀i h,tn i h->∀b∈fp,∃o,h.get? b=some o/\∀v,o.data≠.cell v
 keep:∀i h h',tn i h->(∀b∈fp,∀o,h.get? b=some o->h'.get? b=some o)->tn i h'
 item:∀(X:Cx),X.prog=P->X.w=w->X.K=K->X.calm=true->∀(i:Nat) (pins:List (dX×Obj)) (s:dW) (σ:St) (H:Hp) (E:dU->dW->Prop),Inv X pins σ H s->(∀b∈fp,ak4 X pins H b)->tn i s.heap->J.go i H ->
  dD (dE P w) X.A (pyNext (.ref it)) (λr s1=>∃u,r=some u /\
   dD (dE P w) X.A (letOwnedTupleGo tg (.ref it) u) (λ_ s2=>∃x H',Inv X pins σ H' s2/\E3 x u/\J.yld i H x H'/\tn (i+1) s2.heap/\∀b∈fp,H' b=none) E s1) E s
 done:∀(X:Cx),X.prog=P->X.w=w->X.K=K->X.calm=true->∀(i:Nat) (pins:List (dX×Obj)) (s:dW) (σ:St) (H:Hp) (E:dU->dW->Prop),Inv X pins σ H s->(∀b∈fp,ak4 X pins H b)->tn i s.heap->J.stop i H ->
  dD (dE P w) X.A (pyNext (.ref it)) (λr s1=>r=none/\Inv X pins σ H s1) E s
 self:∀(A:dr) (i:Nat) (s:dW) (Q:dU->dW->Prop) (E:dU->dW->Prop),tn i s.heap->Q (.ref it) s->dD (dE P w) A (pyIter (.ref it)) Q E s
noncomputable abbrev TI:=St->Hp->(It->Hp->Prop)->Prop
noncomputable def PIE(X:Cx)(pins:List (dX×Obj))(σ:St)(tg:Expr)(R:It->Hp->Prop)(itv:dU)(s2:dW):Prop :=
 ∃(it:dX) (fp:List dX) (tn:Nat->Heap->Prop) (J:It) (H':Hp),itv=.ref it/\Inv X pins σ H' s2/\Turn X.prog X.w X.K tg J fp it tn/\tn 0 s2.heap/\(∀b∈fp,ak4 X pins H' b)/\R J H'
noncomputable def PI(X:Cx)(tg iter:Expr)(wi:TI):Prop :=
 ∀(pins:List (dX×Obj)) (s:dW) (σ:St) (H:Hp) (R:It->Hp->Prop),Inv X pins σ H s->wi σ H R ->
  dD (dE X.prog X.w) X.A (eval iter X.env) (λv s1=>dD (dE X.prog X.w) X.A (pyIter v) (PIE X pins σ tg R) X.xe s1) X.xe s
theorem aZ2(ho:s.heap.get? it=some o)(hc:o.cls=.type n)(hd:o.data=.fields vs)
    (hn:["enumerate", "zip", "dict_itemiterator", "dict_reverseitemiterator", "odict_iterator", "itertools.zip_longest", "itertools.pairwise"].contains n=false) (hQ:Q () s):dD M A (letOwnedTupleGo tg (.ref it) u) Q E s:=by
  unfold letOwnedTupleGo
  cases tg<;>first
    | exact cY hQ
    | (cases u<;>first
        | exact cY hQ
        | (refine cX (wpAny_load ho ?_)
           rw[hc,hd];show dD M A (if(["enumerate", "zip", "dict_itemiterator", "dict_reverseitemiterator", "odict_iterator", "itertools.zip_longest", "itertools.pairwise"].contains n&&vs[0]? == some (rawInt _))=true then _ else _) Q E s;rw[if_neg (by intro h;rw[hn,Bool.false_and]at h;cases h)]
           exact cY hQ))
noncomputable def Itl(K:ag)(a:dX):It :=
 ⟨λi H=>∃xs x,SqL K H a xs/\xs[i]? = some x,λi H x H'=>H'=H/\∀xs,SqL K H a xs->xs[i]? = some x,λi H=>∃xs,SqL K H a xs/\xs.length<=i⟩
noncomputable def Itt(K:ag)(a:dX):It :=
 ⟨λi H=>∃xs x,SqT K H a xs/\xs[i]? = some x,λi H x H'=>H'=H/\∀xs,SqT K H a xs->xs[i]? = some x,λi H=>∃xs,SqT K H a xs/\xs.length<=i⟩
noncomputable def Itr(lo:Int)(n:Nat):It:=⟨λi _=>i < n,λi H x H'=>H'=H/\x=.int (lo+i),λi _=>n<=i⟩
theorem bc1{P:dq}{w:World}{K:ag}{tg:Expr}(a it:dX):Turn P w K tg (Itl K a) [it] it (λi h=>h.IsListIter it a i) where
 mem:=by simp
 obj:=λi h st b hb=>by
  have e:b=it:=by simpa using hb
  subst e;obtain⟨o,e,c,d⟩:=st;exact⟨o,e,λv z=>by rw[d]at z;cases z⟩
 keep:=λi h h' st k=>st.at λo e=>k it (by simp) o e
 item:=by
  intro X hP hw hK hc i pins s σ H E I hf st hg;subst hP hw hK;obtain⟨xs,x,hq,hx⟩:=hg;obtain⟨its,rv,p,hz⟩:=I.list hq;obtain⟨u,hu,ru⟩:=rv.get hx;obtain⟨f0,f1,f2,f3,f4,f5⟩:=hf it (by simp);refine wpAny_pyNext_list_item st p.isList (x:=u) (by simpa using hu) λh' st' sb=>?_
  have I1:Inv X pins σ H { s with heap:=h' }:=I.turned (t':=s.toks) (λb o hb e=>(sb.2 b hb).trans e) f0 f1 f3 f4 f5;obtain⟨o,e,c,d⟩:=id st';exact⟨u,rfl,aZ2 (s:={ s with heap:=h' }) e c d (by decide) ⟨x,H,I1,ru,⟨rfl,λys hy=>by rw[I.list_inj hy hq];exact hx⟩,st',λb hb=>(hf b hb).1⟩⟩
 done:=by
  intro X hP hw hK hc i pins s σ H E I hf st hg;subst hP hw hK;obtain⟨xs,hq,hx⟩:=hg;obtain⟨its,rv,p,hz⟩:=I.list hq;obtain⟨f0,f1,f2,f3,f4,f5⟩:=hf it (by simp);have hl:=rv.length;exact wpAny_pyNext_list_end (I.ok.hd hc) st p.isList (by simp;omega) λh' eb=>⟨rfl,I.turned (t':=s.toks) (λb o hb e=>eb b o hb e) f0 f1 f3 f4 f5⟩
 self:=λ_ _ _ _ _ st h=>wpAny_pyIter_listiter st h
theorem aO8{P:dq}{w:World}{K:ag}{tg:Expr}(a it:dX):Turn P w K tg (Itt K a) [it] it (λi h=>h.IsTupleIter it a i) where
 mem:=by simp
 obj:=λi h st b hb=>by
  have e:b=it:=by simpa using hb
  subst e;obtain⟨o,e,c,d⟩:=st;exact⟨o,e,λv z=>by rw[d]at z;cases z⟩
 keep:=λi h h' st k=>st.at λo e=>k it (by simp) o e
 item:=by
  intro X hP hw hK hc i pins s σ H E I hf st hg;subst hP hw hK;obtain⟨xs,x,hq,hx⟩:=hg;obtain⟨its,rv,p,hz⟩:=I.tuple hq;obtain⟨u,hu,ru⟩:=rv.get hx;obtain⟨f0,f1,f2,f3,f4,f5⟩:=hf it (by simp);refine wpAny_pyNext_tuple_item st (show s.heap.IsTuple a its.toArray from p) (x:=u) (by simpa using hu) λh' st' sb=>?_
  have I1:Inv X pins σ H { s with heap:=h' }:=I.turned (t':=s.toks) (λb o hb e=>(sb.2 b hb).trans e) f0 f1 f3 f4 f5;obtain⟨o,e,c,d⟩:=id st';exact⟨u,rfl,aZ2 (s:={ s with heap:=h' }) e c d (by decide) ⟨x,H,I1,ru,⟨rfl,λys hy=>by rw[I.tuple_inj hy hq];exact hx⟩,st',λb hb=>(hf b hb).1⟩⟩
 done:=by
  intro X hP hw hK hc i pins s σ H E I hf st hg;subst hP hw hK;obtain⟨xs,hq,hx⟩:=hg;obtain⟨its,rv,p,hz⟩:=I.tuple hq;obtain⟨f0,f1,f2,f3,f4,f5⟩:=hf it (by simp);have hl:=rv.length;exact wpAny_pyNext_tuple_end (I.ok.hd hc) st (show s.heap.IsTuple a its.toArray from p) (by simp;omega) λh' eb=>⟨rfl,I.turned (t':=s.toks) (λb o hb e=>eb b o hb e) f0 f1 f3 f4 f5⟩
 self:=λ_ _ _ _ _ st h=>wpAny_pyIter_tupleiter st h
theorem aO9{P:dq}{w:World}{K:ag}{tg:Expr}(it:dX)(lo:Int)(n:Nat):Turn P w K tg (Itr lo n) [it] it (λi h=>IsRangeIter h it (lo+(i:Nat)*1) ((n:Int) - (i:Nat)) 1) where
 mem:=by simp
 obj:=λi h st b hb=>by
  have e:b=it:=by simpa using hb
  subst e
  exact⟨_,st,λv z=>by
   have z':Data.fields _=Data.cell v:=z
   cases z'⟩
 keep:=λi h h' st k=>k it (by simp) _ st
 item:=by
  intro X hP hw hK hc i pins s σ H E I hf st hg;subst hP hw hK;obtain⟨f0,f1,f2,f3,f4,f5⟩:=hf it (by simp);have W:=Walks.range (prog:=X.prog) (w:=X.w) (I.ok.hd hc) it lo 1 n;refine W.item i s _ _ hg st λv h' tk hv st' kk=>?_
  obtain⟨t,rfl⟩:=hv;have I1:Inv X pins σ H { s with heap:=h',toks:=tk }:=I.turned (λb o hb e=>kk b o (by simpa using hb) e) f0 f1 f3 f4 f5;refine⟨_,rfl,aZ2 (s:={ s with heap:=h',toks:=tk }) (n := "range_iterator") st' rfl rfl (by decide) ⟨.int (lo+i),H,I1,⟨t,?_⟩,⟨rfl,rfl⟩,st',λb hb=>(hf b hb).1⟩⟩;rw[Int.mul_one]
 done:=by
  intro X hP hw hK hc i pins s σ H E I hf st hg;subst hP hw hK;obtain⟨f0,f1,f2,f3,f4,f5⟩:=hf it (by simp);exact wpAny_pyNext_range_end (I.ok.hd hc) st (by have:n<=i:=hg;omega) λh' eb=>⟨rfl,I.turned (t':=s.toks) (λb o hb e=>eb b o hb e) f0 f1 f3 f4 f5⟩
 self:=λ_ _ _ _ _ st h=>wpAny_pyIter_rangeiter st h
end L2
namespace L2
open PySem PySem.Spec PyProof.Rows
section
variable {X:Cx}{tg:Expr}
noncomputable def cz9(K:ag)(tl:TE):TI:=λσ H R=>tl σ H λx H1=>∃a,x=.ref a/\(∃xs,SqL K H1 a xs)/\R (Itl K a) H1
noncomputable def cG2(K:ag)(tl:TE):TI:=λσ H R=>tl σ H λx H1=>∃a,x=.ref a/\(∃xs,SqT K H1 a xs)/\R (Itt K a) H1
theorem aX4{l:Expr}{tl:TE}(hl:PE X l tl):PI X tg l (cz9 X.K tl):=by
 intro pins s σ H R I h;refine thn (hl pins s σ H _ I h) λv s1 ⟨x,H1,I1,r1,q1⟩=>?_
 obtain⟨a,e,⟨xs,hq⟩,q⟩:=q1;subst e;cases r1;obtain⟨its,rv,p,hz⟩:=I1.list hq;refine wpAny_pyIter_list p.isList ?_;refine⟨s1.heap.objs.size,[s1.heap.objs.size],_,_,H1,rfl,I1.kept (t':=s1.toks) λb o e=>dF _ e,bc1 a _,⟨_,dH _ rfl,rfl,rfl⟩,λb hb=>?_,q⟩;have e:b=s1.heap.objs.size:=by simpa using hb
 subst e;exact I1.fpOk (ai _) (I1.hok.fresh (ai _))
theorem cc5{l:Expr}{tl:TE}(hl:PE X l tl):PI X tg l (cG2 X.K tl):=by
 intro pins s σ H R I h;refine thn (hl pins s σ H _ I h) λv s1 ⟨x,H1,I1,r1,q1⟩=>?_
 obtain⟨a,e,⟨xs,hq⟩,q⟩:=q1;subst e;cases r1;obtain⟨its,rv,p,hz⟩:=I1.tuple hq;refine wpAny_pyIter_tuple (show s1.heap.IsTuple a its.toArray from p) ?_;refine⟨s1.heap.objs.size,[s1.heap.objs.size],_,_,H1,rfl,I1.kept (t':=s1.toks) λb o e=>dF _ e,aO8 a _,⟨_,dH _ rfl,rfl,rfl⟩,λb hb=>?_,q⟩;have e:b=s1.heap.objs.size:=by simpa using hb
 subst e;exact I1.fpOk (ai _) (I1.hok.fresh (ai _))
theorem bn4{pins:List (dX×Obj)}{σ:St}{H:Hp}{s:dW}{R:It->Hp->Prop}{E:dU->dW->Prop}{lo hi:Int}{t u v:Tok}{tk:Nat}(I:Inv X pins σ H s)(h1:-(2 ^ 62)<=lo)(h2:lo < 2 ^ 62)(h3:-(2 ^ 62)<=hi)(h4:hi < 2 ^ 62)
  (q:R (Itr lo (hi - lo).toNat) H):dD (dE X.prog X.w) X.A (pyIter (.ref s.heap.objs.size)) (PIE X pins σ tg R) E { s with heap:=s.heap.push { cls:=.type "range", data:=.fields #[.int lo t,.int hi u,.int 1 v] },toks:=tk }:=by
 refine wpAny_pyIter_range (IsRange.new ..) (small_one h1 h2 h3 h4) ?_;have I1:Inv X pins σ H { s with heap:=s.heap.push { cls:=.type "range", data:=.fields #[.int lo t,.int hi u,.int 1 v] },toks:=tk }:=I.kept λb o e=>dF _ e
 refine⟨(s.heap.push { cls:=.type "range", data:=.fields #[.int lo t,.int hi u,.int 1 v] }).objs.size,[(s.heap.push { cls:=.type "range", data:=.fields #[.int lo t,.int hi u,.int 1 v] }).objs.size],_,_,H,rfl,
  I1.kept (t':=tk) λb o e=>dF _ e,aO9 _ lo (hi - lo).toNat,?_,λb hb=>?_,q⟩
 ·have e1:lo+((0:Nat):Int)*1=lo:=by simp
  have e2:(((hi - lo).toNat:Nat):Int) - ((0:Nat):Int)=Builtin.Range.rangeSize lo hi 1:=by rw[rangeSize_one];split<;>omega
  show IsRangeIter _ _ (lo+((0:Nat):Int)*1) ((((hi - lo).toNat:Nat):Int) - ((0:Nat):Int)) 1;rw[e1,e2];exact dH _ rfl
 ·have e:b=(s.heap.push { cls:=.type "range", data:=.fields #[.int lo t,.int hi u,.int 1 v] }).objs.size:=by simpa using hb
  subst e;exact I1.fpOk (ai _) (I1.hok.fresh (ai _))
noncomputable def cz8(ta:TA):TI:=λσ H R=>ta σ H λvs H1=>∃j:Int,vs=[.int j]/\-(2 ^ 62)<=j/\j < 2 ^ 62/\R (Itr 0 j.toNat) H1
theorem bd2{a:Expr}{ta:TA}{p pos:Pos}(hg:Gl X "range")(hm:X.mg "range" = none)(ha:PA X [a] ta)(hs:di [a] X.env=[(false,eval a X.env)]:=by rfl):PI X tg (.Call (.Name "range" p) [a] [] pos) (cz8 ta):=by
 intro pins s σ H R I h;refine Call_ (ae4 I hg hm boot_range (PyProof.Rows.callWith_type1 (thn (ha pos pins s σ H _ I h) λus s1 ⟨vs,H1,I1,r1,q1⟩=>?_) hs rfl));obtain⟨j,e,q1,q2,q⟩:=q1;subst e;cases r1 with
 | cons r rr =>
  cases rr;obtain⟨t,rfl⟩:=r;exact call_range_1 (bn4 I1 (by omega) (by omega) q1 q2 (by simpa using q))
noncomputable def cD9(wi:TI)(g:TG)(tb:TS):TS:=λD σ H=>wi σ H λJ H1=>∃W:Nat->Nat->St->Hp->Prop,(∃m,W 0 m σ H1)/\∀i m σ H,W i m σ H ->
 (J.stop i H/\D.nx σ H)\/(J.go i H/\∃N:St->Hp->Prop,(∀σ' H',N σ' H'->∃m',m' < m/\W (i+1) m' σ' H')/\∀x H',J.yld i H x H'->g x σ H' λσ2 H2=>tb { D with nx:=N,ct:=N,bk:=D.nx } σ2 H2)
noncomputable def aq9(fp:List dX)(h:Heap):List (dX×Obj):=fp.filterMap λb=>(h.get? b).map λo=>(b,o)
theorem o7(hb:b∈fp)(e:h.get? b=some o):(b,o)∈aq9 fp h:=cD.mpr ⟨b,hb,by rw[e];rfl⟩
theorem be1(hp:p∈aq9 fp h):p.1∈fp/\h.get? p.1=some p.2:=by
 obtain⟨b,hb,e⟩:=cD.mp hp;cases q:h.get? b with
 | none=>rw[q]at e;cases e
 | some o =>
  rw[q]at e;have e':(b,o)=p:=bn.inj e;subst e';exact⟨hb,q⟩
theorem Inv.pinned(I:Inv X pins σ H s)(hf:∀b∈fp,ak4 X pins H b)(ho:∀b∈fp,∃o,s.heap.get? b=some o/\∀v,o.data≠.cell v):Inv X (pins++aq9 fp s.heap) σ H s :=
 I.pins_of λp hp=>(aR.mp hp).elim (λz=>I.pin p (au _ z)) λz=>by
  obtain⟨hb,e⟩:=be1 z;obtain⟨f0,f1,f2,_⟩:=hf p.1 hb;obtain⟨o,e',d⟩:=ho p.1 hb;rw[e]at e';cases e';exact⟨e,f0,f1,f2,d⟩
theorem Inv.unpinned(I:Inv X (pins++pl) σ H s):Inv X pins σ H s:=I.pins_of λp hp=>I.pin p (au _ (aI _ hp))
theorem cc4(hp:PassesOwn (dE X.prog X.w) X.A X.env X.xe)(hc:X.calm=true)(hi:PI X tg iter wi)(hg:PG X tg g)(hb:PSs X body tb)
  (hs:∀x,dz iter X.env x=pure x:=by intro _;rfl):PS X (.For tg iter body [] pos) (cD9 wi g tb):=by
 intro pins s σ H D I h;refine wpAny_For (thn (hi pins s σ H _ I h) λv s1 h1=>thn h1 λitv s2 h2=>?_) hs;obtain⟨it,fp,tn,J,H2,e,I2,T,st2,f2,W,⟨m0,w0⟩,turn⟩:=h2;subst e;have stat:∀{H':Hp},(∀b∈fp,H' b=none)->∀b∈fp,ak4 X pins H' b:=λhn b hb=>⟨hn b hb,(f2 b hb).2⟩
 refine codeAny_forLoop_any (λn s'=>∃i σ' H',Inv X pins σ' H' s'/\tn i s'.heap/\(∀b∈fp,H' b=none)/\W i n σ' H') ?_ m0 ⟨0,σ,H2,I2,st2,λb hb=>(f2 b hb).1,w0⟩
 rintro n s3 ⟨i,σ3,H3,I3,st3,fr3,w3⟩
 rcases turn i n σ3 H3 w3 with⟨stop,qn⟩|⟨go,N,hN,step⟩
 ·refine wpAny_passesOwn hp (thn (T.done X rfl rfl rfl hc i pins s3 σ3 H3 X.xe I3 (stat fr3) st3 stop) λr s4 ⟨hr,I4⟩=>?_);subst hr;exact wpAny_execs_nil ⟨σ3,H3,I4,qn⟩
 ·refine wpAny_passesOwn hp (thn (T.item X rfl rfl rfl hc i pins s3 σ3 H3 X.xe I3 (stat fr3) st3 go) λr s4 ⟨u,hr,h4⟩=>?_);subst hr;refine wpAny_passesOwn hp (thn h4 λ_ s5 ⟨x,H5,I5,r5,y5,st5,fr5⟩=>?_);have I5':=I5.pinned (stat fr5) (T.obj _ _ st5);refine wpAny_passesOwn hp (thn (hg _ s5 σ3 H5 x u _ I5' r5 (step x H5 y5)) λ_ s6 ⟨σ6,H6,I6,q6⟩=>?_);refine wpAny_passesOwn hp (thn (hb _ s6 σ6 H6 _ I6 q6) λf s7 q7=>?_)
  have again:∀{σ7:St}{H7:Hp},Inv X (pins++aq9 fp s5.heap) σ7 H7 s7->N σ7 H7->∃m,m < n/\∃i σ' H',Inv X pins σ' H' s7/\tn i s7.heap/\(∀b∈fp,H' b=none)/\W i m σ' H':=λ{σ7 H7} I7 n7=>by
   obtain⟨m',hm,w7⟩:=hN σ7 H7 n7;refine⟨m',hm,i+1,σ7,H7,I7.unpinned,T.keep _ _ _ st5 λb hb o e=>(I7.pin (b,o) (au _ (au _ (o7 hb e)))).1,λb hb=>?_,w7⟩;obtain⟨o,e,d⟩:=T.obj _ _ st5 b hb;exact(I7.pin (b,o) (au _ (au _ (o7 hb e)))).2.1
  cases f with
  | next=>obtain⟨σ7,H7,I7,n7⟩:=q7;exact again I7 n7
  | cont=>obtain⟨σ7,H7,I7,n7⟩:=q7;exact again I7 n7
  | brk=>obtain⟨σ7,H7,I7,q7⟩:=q7;exact⟨σ7,H7,I7.unpinned,q7⟩
  | ret v=>obtain⟨x7,σ7,H7,I7,r7,q7⟩:=q7;exact⟨x7,σ7,H7,I7.unpinned,r7,q7⟩
end
end L2
namespace L2
open PySem PySem.Spec PyProof.Rows
noncomputable abbrev R2:=V->V->Hp->VK->Prop
noncomputable def OpR(X:Cx)(f:dU->dU->Sem dU)(r:R2):Prop :=
 ∀(pins:List (dX×Obj)) (s:dW) (σ:St) (H:Hp) (x y:V) (v u:dU) (Q:VK),Inv X pins σ H s->E3 x v->E3 y u->r x y H Q ->
  dD (dE X.prog X.w) X.A (f v u) (EP X pins σ Q) X.xe s
noncomputable def UnR(X:Cx)(f:dU->Sem dU)(r:V->Hp->VK->Prop):Prop :=
 ∀(pins:List (dX×Obj)) (s:dW) (σ:St) (H:Hp) (x:V) (v:dU) (Q:VK),Inv X pins σ H s->E3 x v->r x H Q ->
  dD (dE X.prog X.w) X.A (f v) (EP X pins σ Q) X.xe s
noncomputable def b0(X:Cx)(f:dU)(r:List V->Hp->VK->Prop):Prop :=
 ∀(pins:List (dX×Obj)) (s:dW) (σ:St) (H:Hp) (xs:List V) (us:List dU) (Q:VK),Inv X pins σ H s->C2 xs us->r xs H Q ->
  dD (dE X.prog X.w) X.A (call f us) (EP X pins σ Q) X.xe s
noncomputable def cI3(X:Cx)(r:V->Hp->(Bool->Hp->Prop)->Prop):Prop :=
 ∀(pins:List (dX×Obj)) (s:dW) (σ:St) (H:Hp) (x:V) (v:dU) (Q:Bool->Hp->Prop),Inv X pins σ H s->E3 x v->r x H Q ->
  dD (dE X.prog X.w) X.A (truthy v) (TP X pins σ Q) X.xe s
noncomputable def tOp(r:R2)(ta tb:TE):TE:=λσ H Q=>ta σ H λx H1=>tb σ H1 λy H2=>r x y H2 Q
noncomputable def tUn(r:V->Hp->VK->Prop)(ta:TE):TE:=λσ H Q=>ta σ H λx H1=>r x H1 Q
noncomputable def rI(C:Int->Int->Prop)(g:Int->Int->V):R2:=λx y H Q=>∃i j,x=.int i/\y=.int j/\C i j/\Q (g i j) H
noncomputable def rI0(g:Int->Int->V):R2:=λx y H Q=>∃i j,x=.int i/\y=.int j/\Q (g i j) H
noncomputable def rU(g:Int->V):V->Hp->VK->Prop:=λx H Q=>∃i,x=.int i/\Q (g i) H
section
variable {X:Cx}{a b c:Expr}{ta tb tc:TE}{pos:Pos}
theorem co3(ha:PE X a ta)(hb:PE X b tb){pins:List (dX×Obj)}{s:dW}{σ:St}{H:Hp}{R:V->V->Hp->Prop}(I:Inv X pins σ H s)
  (h:ta σ H λx H1=>tb σ H1 λy H2=>R x y H2) {Q:dU->dW->Prop}{f:dU->dU->Sem dU}
  (hf:∀v u s2 x y H2,Inv X pins σ H2 s2->E3 x v->E3 y u->R x y H2->dD (dE X.prog X.w) X.A (f v u) Q X.xe s2) :
  dD (dE X.prog X.w) X.A (eval a X.env) (λv s₁=>dD (dE X.prog X.w) X.A (eval b X.env) (λu s₂=>dD (dE X.prog X.w) X.A (f v u) Q X.xe s₂) X.xe s₁) X.xe s:=by
 refine thn (ha pins s σ H _ I h) λv s1 ⟨x,H1,I1,r1,q1⟩=>?_
 refine thn (hb pins s1 σ H1 _ I1 q1) λu s2 ⟨y,H2,I2,r2,q2⟩=>?_
 exact hf v u s2 x y H2 I2 r1 r2 q2
theorem bS6(ho:OpR X (dv op) r)(ha:PE X a ta)(hb:PE X b tb):PE X (.BinOp a op b pos) (tOp r ta tb):=by
 intro pins s σ H Q I h;exact wpAny_BinOp (co3 ha hb I h λv u s2 x y H2 I2 rx ry q=>ho pins s2 σ H2 x y v u Q I2 rx ry q)
theorem cv2(ho:UnR X (unaryOp op) r)(ha:PE X a ta):PE X (.UnaryOp op a pos) (tUn r ta):=by
 intro pins s σ H Q I h;exact UnaryOp_ (thn (ha pins s σ H _ I h) λv s1 ⟨x,H1,I1,r1,q1⟩=>ho pins s1 σ H1 x v Q I1 r1 q1)
theorem opI{f:dU->dU->Sem dU}{C:Int->Int->Prop}{g:Int->Int->Int}
  (rule:∀(i j:Int) (t u:Tok) (s:dW) (Q:dU->dW->Prop) (E:dU->dW->Prop),C i j->Q (.int (g i j) s.toks) { s with toks:=s.toks+1 }->dD (dE X.prog X.w) X.A (f (.int i t) (.int j u)) Q E s) :
  OpR X f (rI C λi j=>.int (g i j)):=by
 intro pins s σ H x y v u Q I rx ry h;obtain⟨i,j,rfl,rfl,hc,q⟩:=h;obtain⟨t,rfl⟩:=rx;obtain⟨t',rfl⟩:=ry;exact rule i j t t' s _ _ hc ⟨.int (g i j),H,I.tok _,⟨_,rfl⟩,q⟩
theorem cw2{f:dU->dU->Sem dU}{g:Int->Int->Int}
  (rule:∀(i j:Int) (t u:Tok) (s:dW) (Q:dU->dW->Prop) (E:dU->dW->Prop),Q (.int (g i j) s.toks) { s with toks:=s.toks+1 }->dD (dE X.prog X.w) X.A (f (.int i t) (.int j u)) Q E s) :
  OpR X f (rI0 λi j=>.int (g i j)):=by
 intro pins s σ H x y v u Q I rx ry h;obtain⟨i,j,rfl,rfl,q⟩:=h;obtain⟨t,rfl⟩:=rx;obtain⟨t',rfl⟩:=ry;exact rule i j t t' s _ _ ⟨.int (g i j),H,I.tok _,⟨_,rfl⟩,q⟩
theorem bL3{f:dU->dU->Sem dU}{g:Int->Int->Bool}
  (rule:∀(i j:Int) (t u:Tok) (s:dW) (Q:dU->dW->Prop) (E:dU->dW->Prop),Q (.bool (g i j)) s->dD (dE X.prog X.w) X.A (f (.int i t) (.int j u)) Q E s) :
  OpR X f (rI0 λi j=>.bl (g i j)):=by
 intro pins s σ H x y v u Q I rx ry h;obtain⟨i,j,rfl,rfl,q⟩:=h;obtain⟨t,rfl⟩:=rx;obtain⟨t',rfl⟩:=ry;exact rule i j t t' s _ _ ⟨.bl (g i j),H,I,rfl,q⟩
noncomputable def cI6(i j:Int):Prop:=0<=j/\j<=1000000/\i.natAbs < 2 ^ 64
theorem bq5:OpR X (dv .Add) (rI0 λi j=>.int (i+j)):=cw2 λ_ _ _ _ _ _ _ q=>add_int q
theorem ce2:OpR X (dv .Sub) (rI0 λi j=>.int (i - j)):=cw2 λ_ _ _ _ _ _ _ q=>sub_int q
theorem ce5:OpR X (dv .Mod) (rI (λ_ j=>0 < j) λi j=>.int (i % j)):=opI λi j _ _ _ _ _ hc q=>by
 have h1:(0:Int) < j:=hc;exact mod_int' (by omega) (by rw[Int.fmod_eq_emod_of_nonneg i (by omega)];exact q)
theorem ce4:OpR X (dv .Pow) (rI cI6 λi j=>.int (i ^ j.toNat)):=opI λ_ _ _ _ _ _ _ hc q=>pow_int_small hc.1 hc.2.1 hc.2.2 q
theorem unI{f:dU->Sem dU}{g:Int->Int}
  (rule:∀(i:Int) (t:Tok) (s:dW) (Q:dU->dW->Prop) (E:dU->dW->Prop),Q (.int (g i) s.toks) { s with toks:=s.toks+1 }->dD (dE X.prog X.w) X.A (f (.int i t)) Q E s) :
  UnR X f (rU λi=>.int (g i)):=by
 intro pins s σ H x v Q I rx h;obtain⟨i,rfl,q⟩:=h;obtain⟨t,rfl⟩:=rx;exact rule i t s _ _ ⟨.int (g i),H,I.tok _,⟨_,rfl⟩,q⟩
theorem bY4:UnR X (unaryOp .USub) (rU λi=>.int (-i)):=unI λ_ _ _ _ _ q=>neg_int q
end
section
variable {X:Cx}{a b c:Expr}{ta tb tc:TE}{pos:Pos}
theorem aS0(I:Inv X pins σ H s)(q:Q (.bl k) H)(e:k=k'):EP X pins σ Q (.bool k') s:=by
 subst e;exact⟨.bl k,H,I,rfl,q⟩
theorem cv7:OpR X (dl .Lt) (rI0 λi j=>.bl (decide (i < j))):=bL3 λ_ _ _ _ _ _ _ q=>lt_int q
theorem cv8:OpR X (dl .LtE) (rI0 λi j=>.bl (decide (i<=j))):=bL3 λ_ _ _ _ _ _ _ q=>le_int q
theorem cw0:OpR X (dl .Gt) (rI0 λi j=>.bl (decide (j < i))):=bL3 λ_ _ _ _ _ _ _ q=>gt_int q
theorem cw1:OpR X (dl .GtE) (rI0 λi j=>.bl (decide (j<=i))):=bL3 λ_ _ _ _ _ _ _ q=>ge_int q
theorem bd4:OpR X (dl .In) (λx y H Q=>∃i j,x=.str i/\y=.str j/\Q (.bl (!(Builtin.Str.occurrences j i 0 j.length 1).isEmpty)) H):=by
 intro pins s σ H x y v u Q I rx ry h;obtain⟨i,j,rfl,rfl,q⟩:=h;obtain⟨t,rfl⟩:=rx;obtain⟨t',rfl⟩:=ry;exact in_str (aS0 I q rfl)
theorem ce7:OpR X (dl .Is) (λx y H Q=>y=.non/\Q (.bl (decide (x=.non))) H):=by
 intro pins s σ H x y v u Q I rx ry h;obtain⟨rfl,q⟩:=h;cases ry;refine is_none_gen (aS0 I q ?_)
 cases x<;>first
  | (cases rx;rfl)
  | (obtain⟨t,rfl⟩:=rx;rfl)
theorem aC7:OpR X (dl .NotIn) (λx y H Q=>∃i j,x=.str i/\y=.str j/\Q (.bl (!(!(Builtin.Str.occurrences j i 0 j.length 1).isEmpty))) H):=by
 intro pins s σ H x y v u Q I rx ry h;obtain⟨i,j,rfl,rfl,q⟩:=h;obtain⟨t,rfl⟩:=rx;obtain⟨t',rfl⟩:=ry;exact notIn_str (aS0 I q rfl)
theorem aD1(b:Expr)(h:op≠.In:=by decide)(h2:op≠.NotIn:=by decide):behindInMarks op b=false:=by
 have e1:(op==CmpOp.In)=false:=by cases op<;>first|rfl|exact absurd rfl h
 have e2:(op==CmpOp.NotIn)=false:=by cases op<;>first|rfl|exact absurd rfl h2
 cases b<;>simp[behindInMarks,e1,e2]
theorem aX6(ho:OpR X (dl op) r)(ha:PE X a ta)(hb:PE X b tb)(hm:behindInMarks op b=false):PE X (.Compare a [op] [b] pos) (tOp r ta tb):=by
 intro pins s σ H Q I h;exact wpAny_Compare1 (co3 ha hb I h λv u s2 x y H2 I2 rx ry q=>ho pins s2 σ H2 x y v u Q I2 rx ry q) hm
noncomputable def bR5(t:TE):TT:=λσ H Q=>t σ H λx H'=>∃k,x=.bl k/\Q k H'
theorem aX0(ho:OpR X (dl op) r)(ha:PE X a ta)(hb:PE X b tb)(hm:behindInMarks op b=false):PT X (.Compare a [op] [b] pos) (bR5 (tOp r ta tb)):=by
 intro pins s σ H Q I h
 refine wpAny_isTrue_Compare1 (thn (ha pins s σ H _ I h) λv s1 ⟨x,H1,I1,r1,q1⟩=>thn (hb pins s1 σ H1 _ I1 q1) λu s2 ⟨y,H2,I2,r2,q2⟩ =>
  thn (ho pins s2 σ H2 x y v u _ I2 r1 r2 q2) λc s3 ⟨z,H3,I3,r3,k,e,q3⟩=>?_) hm
 subst e;cases r3;exact dg ⟨H3,I3,q3⟩
noncomputable def bl1(r r':R2)(ta tb tc:TE):TE:=λσ H Q=>ta σ H λx H1=>tb σ H1 λy H2=>r x y H2 λz H3=>∃k,z=.bl k /\
 (if k=true then tc σ H3 λw' H4=>r' y w' H4 Q else Q (.bl false) H3)
theorem aJ4(ho:OpR X (dl op) r)(ho':OpR X (dl op') r')(ha:PE X a ta)(hb:PE X b tb)(hc:PE X c tc)
  (hm:lastMarks [op,op'] [b,c]=false:=by with_unfolding_all rfl):PE X (.Compare a [op,op'] [b,c] pos) (bl1 r r' ta tb tc):=by
 intro pins s σ H Q I h
 refine Compare_chain (thn (ha pins s σ H _ I h) λv s1 ⟨x,H1,I1,r1,q1⟩=>chain_link (thn (hb pins s1 σ H1 _ I1 q1) λu s2 ⟨y,H2,I2,r2,q2⟩ =>
  thn (ho pins s2 σ H2 x y v u _ I2 r1 r2 q2) λd s3 ⟨z,H3,I3,r3,k,e,q3⟩=>?_)) hm
 subst e;cases r3;refine dg ?_;cases k with
 | false=>exact ite_ff ⟨.bl false,H3,I3,rfl,q3⟩
 | true=>exact ite_tt (chain_last (thn (hc pins s3 σ H3 _ I3 q3) λw' s4 ⟨z',H4,I4,r4,q4⟩=>ho' pins s4 σ H4 y z' u w' Q I4 r2 r4 q4))
theorem aJ2(ho:OpR X (dl op) r)(ho':OpR X (dl op') r')(ha:PE X a ta)(hb:PE X b tb)(hc:PE X c tc)
  (hm:lastMarks [op,op'] [b,c]=false:=by with_unfolding_all rfl):PT X (.Compare a [op,op'] [b,c] pos) (bR5 (bl1 r r' ta tb tc)):=by
 intro pins s σ H Q I h
 refine isTrue_chain (thn (ha pins s σ H _ I h) λv s1 ⟨x,H1,I1,r1,q1⟩=>test_link (thn (hb pins s1 σ H1 _ I1 q1) λu s2 ⟨y,H2,I2,r2,q2⟩ =>
  thn (ho pins s2 σ H2 x y v u _ I2 r1 r2 q2) λd s3 ⟨z,H3,I3,r3,k,e,q3⟩=>?_)) hm
 subst e;cases r3;refine dg ?_;cases k with
 | false =>
  obtain⟨k',e',q'⟩:=q3;cases e';exact ite_ff ⟨H3,I3,q'⟩
 | true =>
  refine ite_tt (test_last (thn (hc pins s3 σ H3 _ I3 q3) λw' s4 ⟨z',H4,I4,r4,q4⟩=>thn (ho' pins s4 σ H4 y z' u w' _ I4 r2 r4 q4) λd' s5 ⟨z2,H5,I5,r5,k2,e2,q5⟩=>?_));subst e2;cases r5;exact dg ⟨H5,I5,q5⟩
noncomputable def cB8(K:ag)(x:V)(H:Hp)(k:Bool):Prop :=
 match x with
 | .non=>k=false
 | .bl b=>k=b
 | .int i=>k=(i != 0)
 | .str y=>y.length<=dj/\k=((y.length:Int) != 0)
 | .byt y=>y.size<=dj/\k=((y.size:Int) != 0)
 | .ref p=>(∃xs,SqL K H p xs/\k = !xs.isEmpty)\/(∃xs,SqT K H p xs/\k = !xs.isEmpty)\/∃kvs,H p=some (.dK kvs)/\k = !kvs.isEmpty
 | _=>False
theorem aR6{κ:Type}{kvs:List (κ×V)}{vs:List (κ×dU)}(r:KV kvs vs):(!vs.isEmpty) = !kvs.isEmpty:=by
 cases r<;>rfl
theorem as2(r:C2 xs its):(!its.toArray.isEmpty) = !xs.isEmpty:=by
 cases r<;>simp
theorem ae3:(dj:Nat) < 2 ^ 63:=by rw[dk];decide
theorem bZ7:cI3 X (λx H Q=>∃k,cB8 X.K x H k/\Q k H):=by
 intro pins s σ H x v Q I rx h;obtain⟨k,e,q⟩:=h;have hl:=ae3;have hs:dj=16777216:=dk;cases x with
 | non =>
  cases rx;have e':k=false:=e;subst e';exact truthy_none ⟨H,I,q⟩
 | bl b =>
  cases rx;have e':k=b:=e;subst e';exact dg ⟨H,I,q⟩
 | int i =>
  obtain⟨t,rfl⟩:=rx;have e':k=(i != 0):=e;subst e';exact PySem.P.truthy_int ⟨H,I,q⟩
 | str y =>
  obtain⟨t,rfl⟩:=rx;obtain⟨hy,e'⟩:y.length<=dj/\k=((y.length:Int) != 0):=e;subst e';exact PySem.P.truthy_str (by omega) ⟨H,I.tok _,q⟩
 | byt y =>
  obtain⟨t,rfl⟩:=rx;obtain⟨hy,e'⟩:y.size<=dj/\k=((y.size:Int) != 0):=e;subst e';exact PySem.W.truthy_bytes (by omega) ⟨H,I.tok _,q⟩
 | ref p =>
  cases rx;have e':(∃xs,SqL X.K H p xs/\k = !xs.isEmpty)\/(∃xs,SqT X.K H p xs/\k = !xs.isEmpty)\/∃kvs,H p=some (.dK kvs)/\k = !kvs.isEmpty:=e;rcases e' with⟨xs,hx,e'⟩|⟨xs,hx,e'⟩|⟨kvs,hx,e'⟩
  ·subst e';obtain⟨its,r,pl,hz⟩:=I.list hx;have hlen:=r.length;exact wpAny_truthy_list pl.isList (by simp only[ao];omega) ⟨H,I.tok _,by rw[as2 r];exact q⟩
  ·subst e';obtain⟨its,r,pl,hz⟩:=I.tuple hx;have hlen:=r.length;exact truthy_tuple pl (by simp only[ao];omega) ⟨H,I.tok _,by rw[as2 r];exact q⟩
  ·subst e';obtain⟨hz,hS,vs,r,m⟩:kvs.length<=dj/\(p==sysModules)=false/\∃vs,KV kvs vs/\s.heap.DictOf (K8 X.prog X.w) p vs:=I.hok p _ hx;have hlen:kvs.length=vs.length:=Paired.length r;exact wpAny_truthy_dict hS m (by omega) ⟨H,I.tok _,by rw[aR6 r];exact q⟩
 | _=>exact(show False from e).elim
theorem aJ1(ha:PE X a ta)(he:∀whole,isTrue a X.env whole=(do let v ← whole;standAt a.pos;holding [v] (truthy v))):
  PT X a (λσ H Q=>ta σ H λx H'=>∃k,cB8 X.K x H' k/\Q k H'):=by
 intro pins s σ H Q I h;exact isTrue_plain (thn (ha pins s σ H _ I h) λv s1 ⟨x,H1,I1,r1,q1⟩=>bZ7 pins s1 σ H1 x v Q I1 r1 q1) (he _)
theorem aQ6:OpR X (dv .Add) (λx y H Q=>∃i j,x=.str i/\y=.str j/\i.length+j.length<=dj/\Q (.str (i++j)) H):=by
 intro pins s σ H x y v u Q I rx ry h;obtain⟨i,j,rfl,rfl,hz,q⟩:=h;obtain⟨t,rfl⟩:=rx;obtain⟨t',rfl⟩:=ry;exact add_str (λt' tk=>⟨.str (i++j),H,I.tok _,⟨_,rfl⟩,q⟩) hz
theorem aa3(r:C2 [x] us):∃u,us=[u]/\E3 x u:=by
 cases r with
 | cons r1 r2=>cases r2;exact⟨_,rfl,r1⟩
theorem bi9(r:C2 [x,y] us):∃u w',us=[u,w']/\E3 x u/\E3 y w':=by
 cases r with
 | cons r1 r2 =>
  cases r2 with
  | cons r3 r4=>cases r4;exact⟨_,_,rfl,r1,r3⟩
theorem aG0:b0 X (.type "str") (λxs H Q=>∃i,xs=[.int i]/\i.natAbs.log2 < 1920/\Q (.str (toString i)) H):=by
 intro pins s σ H xs us Q I r h;obtain⟨i,rfl,hz,q⟩:=h;obtain⟨u,rfl,t,rfl⟩:=aa3 r;exact PySem.P.str_of_int hz ⟨.str _,H,I.tok _,⟨_,rfl⟩,q⟩
noncomputable def cI5(K:ag)(x:V)(H:Hp)(n:Nat):Prop :=
 match x with
 | .str y=>y.length<=dj/\n=y.length
 | .byt y=>y.size<=dj/\n=y.size
 | .ref p=>(∃xs,SqL K H p xs/\n=xs.length)\/∃xs,SqT K H p xs/\n=xs.length
 | _=>False
theorem bB3:b0 X (.builtin "len") (λxs H Q=>∃x n,xs=[x]/\cI5 X.K x H n/\Q (.int n) H):=by
 intro pins s σ H xs us Q I r h;obtain⟨x,n,rfl,e,q⟩:=h;obtain⟨u,rfl,rx⟩:=aa3 r;have hl:=ae3;have hs:dj=16777216:=dk;cases x with
 | str y =>
  obtain⟨t,rfl⟩:=rx;obtain⟨hy,e'⟩:y.length<=dj/\n=y.length:=e;subst e';exact len_str (by omega) ⟨.int _,H,I.tok _,⟨_,rfl⟩,q⟩
 | byt y =>
  obtain⟨t,rfl⟩:=rx;obtain⟨hy,e'⟩:y.size<=dj/\n=y.size:=e;subst e';exact PySem.W.len_bytes (by omega) ⟨.int _,H,I.tok _,⟨_,rfl⟩,q⟩
 | ref p =>
  cases rx;have e':(∃xs,SqL X.K H p xs/\n=xs.length)\/∃xs,SqT X.K H p xs/\n=xs.length:=e;rcases e' with⟨xs,hx,e'⟩|⟨xs,hx,e'⟩
  ·subst e';obtain⟨its,r',pl,hz⟩:=I.list hx;have hlen:=r'.length;exact Calls.call_len_list pl.isList (by simp only[ao];omega) ⟨.int xs.length,H,I.tok _,⟨_,by simp only[ao];rw[hlen]⟩,q⟩
  ·subst e';obtain⟨its,r',pl,hz⟩:=I.tuple hx;have hlen:=r'.length;exact len_tuple pl (by simp only[ao];omega) ⟨.int xs.length,H,I.tok _,⟨_,by simp only[ao];rw[hlen]⟩,q⟩
 | _=>exact(show False from e).elim
end
end L2
namespace L2
open PySem PySem.Spec PyProof.Rows
structure ObjM (h:Heap) (x dx C:dX) (mA:Str->Option dU):Prop where
 obj:h.get? x=some (PySem.W.instObj C dx)
 ns:h.Ns1 dx mA
 ne:dx≠x
theorem be8{h:Heap}{dx:dX}{mA:Str->Option dU}(n:h.Ns1 dx mA):∃od,h.get? dx=some od/\∀name,PySem.W.lookIn name od=some (mA name):=by
 obtain⟨o,es,ep,ho,hd,hk,_,hm⟩:=n;refine⟨o,ho,λname=>?_⟩;have e:=hm name;unfold nsFind findBy at e;rw[← Array.find?_toList]at e;unfold PySem.W.lookIn;rw[hd];dsimp only;split
 ·rename_i y q;rw[q]at e;exact congrArg some e
 ·rename_i q;rw[q]at e
  have a:es.toList.any (·.refKey)=false:=by
   rw[List.any_eq_false];intro y hy;obtain⟨z,t,hkey⟩:=hk y (bZ.mp hy);simp[DictEntry.refKey,hkey]
  have a':¬es.toList.any (·.refKey)=true:=by rw[a];exact ba
  rw[if_neg a'];exact congrArg some e
theorem ObjM.look(I:ObjM h x dx C mA):∃od,PySem.W.InstAt h x (PySem.W.instObj C dx) C (some od)/\∀name,PySem.W.lookIn name od=some (mA name) :=
 let⟨od,ho,hl⟩:=be8 I.ns
 ⟨od,⟨I.obj,rfl,rfl,ho⟩,hl⟩
section
variable {prog:Program}{w:World}{A:Around}{E:Value->Shared->Prop}{s:Shared}{K:PySem.W.Frag}{x dx C f:Addr}{mA:Str->Option Value}{name:Str}{v:Value}
theorem bO9(X:K.In s.heap)(I:ObjM s.heap x dx C mA)(hg:PySem.W.plainGet K C name=true)(hh:PySem.W.hasDictIn K C=true)
  (ha:PySem.W.findIn K (.ref C) name=some none) (hv:mA name=some v) (hv':PySem.W.handedIn v=true) (h:Q v { s with toks:=s.toks+1 }) :
  dD (dE prog w) A (getAttr (.ref x) name expr) Q E s:=by
 obtain⟨od,J,hl⟩:=I.look;exact PySem.W.get_value X J (PySem.W.plainGet_of hg).1 (PySem.W.findObj_own hh ha rfl (by rw[hl,hv])) hv' h
theorem by2(X:K.In s.heap)(I:ObjM s.heap x dx C mA)(hg:PySem.W.plainGet K C name=true)
  (hf:PySem.W.findIn K (.ref C) name=some (some (.ref f))) (ht:PySem.W.isFn K (.ref f)=true) (hv:mA name=none) (h:Q (.ref f,[.ref x]) s) :
  dD (dE prog w) A (getMethod (.ref x) name pl) Q E s:=by
 obtain⟨od,J,hl⟩:=I.look;exact PySem.W.method_fn X J (PySem.W.plainGet_of hg).1 (PySem.W.plainGet_of hg).2 hf (beq_iff_eq.mp ht) (by show(PySem.W.lookIn name od).map (·.isSome)=some false;rw[hl,hv];rfl) h
theorem bI0(X:K.In s.heap)(I:ObjM s.heap x dx C mA)
  (hs:PySem.W.findIn K (.ref C) "__setattr__" = some (some (.builtin "object.__setattr__"))) (hp:PySem.W.plainOver K C=true) (ht:PySem.W.takerIn K C name=some none) (hh:PySem.W.hasDictIn K C=true)
  (hw:PySem.Within mA ns) (hsz:ns.length<=dj)
  (h:∀h',ObjM h' x dx C (λy=>if y=name then some v else mA y)->Heap.SameBut dx s.heap h'->Q () { s with heap:=h',toks:=s.toks+2 }) :
  dD (dE prog w) A (setAttr (.ref x) name v) Q E s:=by
 obtain⟨od,J,hl⟩:=I.look;refine PySem.W.set_plain X J hs (PySem.W.osa_open (s:={ s with toks:=s.toks+1 }) (r:=none) X J hp ht λb=>?_);obtain⟨cd,hc,hd'⟩:=PySem.W.any_some hh;have hx:s.heap.get? x=some ⟨.ref C,some dx,.plain,#[]⟩:=I.obj;refine cX (cY (cX (cX (wpAny_loadPart hx (cX (PySem.W.Looks.here (s:={ s with toks:=s.toks+1 }) (PySem.W.looks_clsIn X hc) ?_))))));rw[hd'];refine cY (a:=some dx) (cX (cY (cX ?_)));refine wpAny_nsSet1 (s:={ s with toks:=s.toks+1 }) I.ns λh' hn2 hs2=>?_
 obtain⟨oD,esD,epD,hoD,hdD,hcD⟩:=hn2.count (PySem.Within.cons name v hw);refine cX (wpAny_lookBehind hoD (by rw[hdD];exact pastItsLine_dict (aC hcD (by rw[aO];omega))) ?_);exact cY (h _ ⟨(hs2.2 _ (Ne.symm I.ne)).trans I.obj,hn2,I.ne⟩ hs2)
theorem bt1(X:K.In s.heap)(hm:PySem.W.makesIn K C=true)
  (hi:PySem.W.findIn K (.ref C) "__init__" = some (some (.ref f))) (hf:PySem.W.typeIn K (.ref f)=some (.type "function"))
  (h:codeAny (dE prog w) (A.under (.builtin "type.__call__" ⟨.ref C::vs,kw⟩)) (.call (.ref f) ⟨.ref (s.heap.objs.size+1)::vs,kw⟩) (PySem.W.InitBack (s.heap.objs.size+1) R)
   { s with heap:=(s.heap.push PySem.W.emptyDict).push (PySem.W.instObj C s.heap.objs.size) }) :
  codeAny (dE prog w) A (.call (.ref C) ⟨vs,kw⟩) R s:=by
 obtain⟨hh,g,d,t,os⟩:=s;exact PySem.W.make_core (PySem.W.makes_of X hm) (PySem.W.looks_findIn X hi) (λself=>PySem.W.bind_fn X self hf) (.inl rfl) h
end
noncomputable def i8(f:Str)(v:V):List (Str×V)->List (Str×V)
 | []=>[(f,v)]
 | (g,x)::r=>if g=f then(g,v)::r else(g,x)::i8 f v r
theorem al1(f g:Str)(v:V):∀fs:List (Str×V),(i8 f v fs).lookup g=if g=f then some v else fs.lookup g
 | []=>by
  show bz g [(f,v)]=_;by_cases h:g=f
  ·have hb:(g==f)=true:=beq_iff_eq.mpr h;simp only[bz,hb,if_pos h]
  ·have hb:(g==f)=false:=beq_eq_false_iff_ne.mpr h;simp only[bz,hb,if_neg h]
 | (k,x)::r=>by
  have ih:=al1 f g v r;rw[show i8 f v ((k,x)::r)=(if k=f then(k,v)::r else(k,x)::i8 f v r) from rfl];by_cases hk:k=f
  ·rw[if_pos hk];by_cases h:g=k
   ·have hb:(g==k)=true:=beq_iff_eq.mpr h;simp only[bz,hb,if_pos (h.trans hk)]
   ·have hb:(g==k)=false:=beq_eq_false_iff_ne.mpr h;simp only[bz,hb,if_neg (λe:g=f=>h (e.trans hk.symm))]
  ·rw[if_neg hk];by_cases h:g=k
   ·have hb:(g==k)=true:=beq_iff_eq.mpr h;simp only[bz,hb,if_neg (λe:g=f=>hk (h.symm.trans e))]
   ·have hb:(g==k)=false:=beq_eq_false_iff_ne.mpr h;simp only[bz,hb];exact ih
theorem ai9(f:Str)(v:V):∀fs:List (Str×V),f∈(i8 f v fs).map (·.1)/\∀g,g∈fs.map (·.1)->g∈(i8 f v fs).map (·.1)
 | []=>⟨by simp[i8],λg h=>by simp at h⟩
 | (k,x)::r=>by
  obtain⟨i1,i2⟩:=ai9 f v r;rw[show i8 f v ((k,x)::r)=(if k=f then(k,v)::r else(k,x)::i8 f v r) from rfl];by_cases hk:k=f
  ·rw[if_pos hk];subst hk;exact⟨by simp,λg h=>by simpa using h⟩
  ·rw[if_neg hk];refine⟨?_,λg h=>?_⟩
   ·rw[bh];exact aj _ i1
   ·rw[bh]at h ⊢;rcases ax.mp h with e|e
    ·exact ax.mpr (.inl e)
    ·exact aj _ (i2 g e)
theorem al3(f:Str)(v:V):∀fs:List (Str×V),(i8 f v fs).length<=fs.length+1
 | []=>by simp[i8]
 | (k,x)::r=>by
  have ih:=al3 f v r;rw[show i8 f v ((k,x)::r)=(if k=f then(k,v)::r else(k,x)::i8 f v r) from rfl];by_cases hk:k=f
  ·rw[if_pos hk,aO,aO];omega
  ·rw[if_neg hk,aO,aO];omega
theorem u4.some_of(r:u4 (some v) o):∃u,o=some u/\E3 v u:=by
 cases o with
 | none=>exact(show False from r).elim
 | some u=>exact⟨u,rfl,r⟩
theorem u4.none_of(r:u4 none o):o=none:=by
 cases o with
 | none=>rfl
 | some u=>exact(show False from r).elim
theorem bg0(r:E3 v u):PySem.W.handedIn u=true:=by
 cases v with
 | non=>cases(show u=dP from r);rfl
 | bl b=>cases(show u=Value.bool b from r);rfl
 | int i=>obtain⟨t,e⟩:=(show ∃t,u=Value.int i t from r);cases e;rfl
 | str x=>obtain⟨t,e⟩:=(show ∃t,u=Value.str x t from r);cases e;rfl
 | byt b=>obtain⟨t,e⟩:=(show ∃t,u=Value.bytes b t from r);cases e;rfl
 | flt b=>obtain⟨t,e⟩:=(show ∃t,u=Value.float b t from r);cases e;rfl
 | ref a=>cases(show u=dO a from r);rfl
 | ty n=>cases(show u=Value.type n from r);rfl
section
variable {P:Program}{w:World}{H H':Hp}{h h':Heap}{a C dx:Addr}{fs fs':List (Str×V)}
theorem aE1(hok:HOk P w H h)(e:H a=some (.ins C dx fs)):∃mA,ObjM h a dx C mA/\(∀f,u4 (fs.lookup f) (mA f))/\PySem.Within mA (fs.map (·.1))/\fs.length<=1000/\H dx=some (.own a):=by
 obtain⟨d,z,ne,ob,mA,n,r,q⟩:=(show P4 P w H h a (.ins C dx fs) from hok a _ e);exact⟨mA,⟨ob,n,ne⟩,r,q,z,d⟩
end
structure Cls (K:ag) (C:dX):Prop where
 pg:PySem.W.plainGet K C dR=true
 hd:PySem.W.hasDictIn K C=true
 po:PySem.W.plainOver K C=true
 sa:PySem.W.findIn K (.ref C) "__setattr__" = some (some (.builtin "object.__setattr__"))
theorem Cls.get{K:ag}{C:dX}(c:Cls K C)(f:Str):PySem.W.plainGet K C f=true:=c.pg
noncomputable def ae8(K:ag)(C:dX)(f:Str):Prop:=PySem.W.findIn K (.ref C) f=some none
theorem ae8.taker{K:ag}{C:dX}{f:Str}(n:ae8 K C f):PySem.W.takerIn K C f=some none:=by
 unfold PySem.W.takerIn;rw[show PySem.W.findIn K (.ref C) f=some none from n];rfl
structure Meth (K:ag) (C:dX) (m:Str) (f:dX):Prop where
 at_:PySem.W.findIn K (.ref C) m=some (some (.ref f))
 fn:PySem.W.isFn K (.ref f)=true
 kp:aF K (.ref f)=true
section
variable {X:Cx}{pins:List (Addr×Obj)}{σ:St}{H:Hp}{s:Shared}{a C dx:Addr}{fs:List (Str×V)}{f:Str}{v:V}{A:Around}{E:Value->Shared->Prop}
theorem aR9(I:Inv X pins σ H s)(e:H a=some (.ins C dx fs))(c:Cls X.K C)(n:ae8 X.K C f)(l:fs.lookup f=some v)
  (h:∀u s',Inv X pins σ H s'->E3 v u->Q u s'):dD (dE X.prog X.w) A (getAttr (.ref a) f b) Q E s:=by
 obtain⟨mA,O,r,_,_,_⟩:=aE1 I.hok e;obtain⟨u,hu,ru⟩:=u4.some_of (v:=v) (o:=mA f) (by rw[← l];exact r f);exact bO9 I.kIn O (c.get f) c.hd n hu (bg0 ru) (h u _ (I.tok _) ru)
theorem p7(I:Inv X pins σ H s)(e:H a=some (.ins C dx fs))(c:Cls X.K C)(k:Meth X.K C m g)(l:fs.lookup m=none)
  (h:Q (.ref g,[.ref a]) s):dD (dE X.prog X.w) A (getMethod (.ref a) m pl) Q E s:=by
 obtain⟨mA,O,r,_,_,_⟩:=aE1 I.hok e;have hn:mA m=none:=u4.none_of (by rw[← l];exact r m);exact by2 I.kIn O (c.get m) k.at_ k.fn hn h
theorem aP8(I:Inv X pins σ H s)(e:H a=some (.ins C dx fs))(c:Cls X.K C)(n:ae8 X.K C f)(hl:fs.length < 1000)(ry:E3 y u)
  (h:∀s',Inv X pins σ (upd H a (.ins C dx (i8 f y fs))) s'->Q () s'):dD (dE X.prog X.w) A (setAttr (.ref a) f u) Q E s:=by
 obtain⟨mA,O,r,wi,_,ho⟩:=aE1 I.hok e;have hz:(fs.map (·.1)).length<=dj:=by rw[ay,dk];omega
 refine bI0 I.kIn O c.sa c.po n.taker c.hd wi hz λh' O' sb=>h _ ?_
 have hd:∃o,h'.get? dx=some o:=let⟨o,_,_,e',_⟩:=O'.ns;⟨o,e'⟩
 refine I.write (x:=a) (e:=dx) (by rw[e];exact True.intro) (.inr ho) (λb q hb z=>(sb.2 b hb).trans z) hd ?_;refine⟨by rw[B3 O.ne];exact ho,?_,O.ne,O'.obj,_,O'.ns,λg=>?_,λg hg=>?_⟩
 ·have:=al3 f y fs;omega
 ·show u4 ((i8 f y fs).lookup g) (if g=f then some u else mA g);rw[al1];by_cases q:g=f
  ·rw[if_pos q,if_pos q];exact ry
  ·rw[if_neg q,if_neg q];exact r g
 ·by_cases q:g=f
  ·rw[q];exact(ai9 f y fs).1
  ·refine(ai9 f y fs).2 g (wi g λz=>hg ?_);show(if g=f then some u else mA g)=none;rw[if_neg q];exact z
theorem Inv.made(I:Inv X pins σ H s):Inv X pins σ (upd (upd H s.heap.objs.size (.own (s.heap.objs.size+1))) (s.heap.objs.size+1) (.ins C s.heap.objs.size []))
  { s with heap:=(s.heap.push PySem.W.emptyDict).push (PySem.W.instObj C s.heap.objs.size) }:=by
 have e1:(s.heap.push PySem.W.emptyDict).get? s.heap.objs.size=some PySem.W.emptyDict:=dH s.heap rfl
 have e2:((s.heap.push PySem.W.emptyDict).push (PySem.W.instObj C s.heap.objs.size)).get? (s.heap.objs.size+1)=some (PySem.W.instObj C s.heap.objs.size):=by
  have:=dH (s.heap.push PySem.W.emptyDict) (o:=PySem.W.instObj C s.heap.objs.size) rfl
  rwa [Heap.size_push]at this
 have e3:(s.heap.push PySem.W.emptyDict).Ns s.heap.objs.size (λ_=>none):=⟨PySem.W.emptyDict,#[],_,e1,rfl,(λe he=>absurd he (by simp)),λ_=>rfl⟩;have I1:=I.laid (a:=s.heap.objs.size) (o:=.own (s.heap.objs.size+1)) (h':=s.heap.push PySem.W.emptyDict) (t':=s.toks) (λb u q=>dF _ q) (ai _) ⟨_,e1⟩;refine I1.laid (a:=s.heap.objs.size+1) (o:=.ins C s.heap.objs.size []) (t':=s.toks) (λb u q=>dF _ q) (Nat.le_of_eq (Heap.size_push _ _)) ?_;have ne:s.heap.objs.size≠s.heap.objs.size+1:=aD (cj _);refine⟨by rw[B3 ne,A6],aW _,ne,e2,λ_=>none,(Heap.Ns1.of_empty e3).at λo q=>dF _ q,λ_=>True.intro,λy hy=>absurd rfl hy⟩
theorem bQ7(hb:dB e f env (eval e env)=eval e env)
  (h:dD (dE prog w) A (eval e env) (λo s₁=>dD (dE prog w) A (getAttr o f true) Q E s₁) E s):dD (dE prog w) A (eval (.Attribute e f pos) env) Q E s :=
 Attribute_any_ h (by rw[arm_eval_Attribute,hb])
end
noncomputable def cE0(K:ag)(ta:TE)(f:Str):TE:=λσ H Q=>ta σ H λx H1=>∃a C dx fs v,x=.ref a/\H1 a=some (.ins C dx fs)/\Cls K C/\ae8 K C f/\fs.lookup f=some v/\Q v H1
noncomputable def cE7(K:ag)(ta tv:TE)(f:Str):TS:=λD σ H=>tv σ H λy H1=>ta σ H1 λx H2=>∃a C dx fs,x=.ref a/\H2 a=some (.ins C dx fs)/\Cls K C/\ae8 K C f/\fs.length < 1000 /\
 D.nx σ (upd H2 a (.ins C dx (i8 f y fs)))
section
variable {X:Cx}{o e value:Expr}{f:Str}{pos pos' tpos:Pos}{ta tv:TE}
theorem cd1(he:PE X e ta)(hb:dB e f X.env (eval e X.env)=eval e X.env):PE X (.Attribute e f pos) (cE0 X.K ta f):=by
 intro pins s σ H Q I h;refine bQ7 hb (thn (he pins s σ H _ I h) λu s1 ⟨x,H1,I1,rx,a,C,dx,fs,v,ex,ea,c,n,l,q⟩=>?_);subst ex;obtain rfl:u=dO a:=rx;exact aR9 I1 ea c n l λu' s2 I2 ru=>⟨v,H1,I2,ru,q⟩
theorem bo1(ha:PE X o ta)(hv:PE X value tv)(hs:swapsWith value (some (.Attribute o f pos')) pos.line X.env=pure false):PS X (.Assign [.Attribute o f pos'] value pos) (cE7 X.K ta tv f):=by
 intro pins s σ H D I h;refine plainObj_wpAny_Assign_Attribute (thn (hv pins s σ H _ I h) λu s1 ⟨y,H1,I1,ry,q⟩=>thn (ha pins s1 σ H1 _ I1 q) λov s2 ⟨x,H2,I2,rx,a,C,dx,fs,ex,ea,c,n,l,q2⟩=>?_) hs;subst ex;obtain rfl:ov=dO a:=rx;exact aP8 I2 ea c n l ry λs3 I3=>⟨σ,_,I3,q2⟩
theorem bT6(he:PE X e te)(I:Inv X pins σ H s)
  (h:te σ H λx H1=>∃a C dx fs g,x=.ref a/\H1 a=some (.ins C dx fs)/\Cls X.K C/\Meth X.K C m g/\fs.lookup m=none /\
   ∀s1,Inv X pins σ H1 s1->dD (dE X.prog X.w) X.A (callWith pos (.ref g) [.ref a] (backTo pos (di args X.env)) (backToKw pos (keywordEach [] X.env))) Q X.xe s1)
  (ht:eval (.Call (.Attribute e m apos) args [] pos) X.env=(do
   let ov ← eval e X.env
   standAt apos.atName
   let(f,first) ← holding [ov] (getMethod ov m pl)
   callWith pos f first (backTo pos (di args X.env)) (backToKw pos (keywordEach [] X.env)))) :
  dD (dE X.prog X.w) X.A (eval (.Call (.Attribute e m apos) args [] pos) X.env) Q X.xe s:=by
 refine PySem.W.methodCall_KW (pl:=pl) (thn (he pins s σ H _ I h) λu s1 ⟨x,H1,I1,rx,a,C,dx,fs,g,ex,ea,c,k,l,q⟩=>?_) ht;subst ex;obtain rfl:u=dO a:=rx;exact p7 I1 ea c k l (q s1 I1)
end
end L2
namespace L2
open PySem PySem.Spec PyProof.Rows
structure Room (k:Nat) (A:dr):Prop where
 hd:A.handled=none
 dp:A.depth+3*k+5 < recursionLimit
 un:A.units+16*k+200 < cLine
theorem Room.mono(r:Room k A)(h:j<=k):Room j A:=⟨r.hd,by have:=r.dp;omega,by have:=r.un;omega⟩
theorem Room.deeper(r:Room (k+1) A)(env:Env):Room k (A.deeper env) :=
 ⟨r.hd,by have:=r.dp;show A.depth+1+3*k+5 < _;omega,by have:=r.un;show A.units+3+16*k+200 < _;omega⟩
theorem aR1{A:dr}{C:dX}{us:List dU}{kw:List (Str×dU)}:(A.under (.builtin "type.__call__" ⟨.ref C::us,kw⟩)).depth=A.depth+1:=by
 first|rfl|simp[Around.under,Code.weight,Code.isCreation,Code.isGuard,Code.isCaller,Code.frames,Code.isFrame,guardIds]
theorem aR0{A:dr}{C:dX}{us:List dU}{kw:List (Str×dU)}:(A.under (.builtin "type.__call__" ⟨.ref C::us,kw⟩)).units=A.units+1:=by
 first|rfl|simp[Around.under,Code.cUnits,Code.frames,Code.isFrame]
theorem Room.make(r:Room (k+1) A)(C:dX)(us:List dU)(kw:List (Str×dU)):Room k (A.under (.builtin "type.__call__" ⟨.ref C::us,kw⟩)) :=
 ⟨r.hd,by have:=r.dp;rw[aR1];omega,by have:=r.un;rw[aR0];omega⟩
theorem Room.depth(r:Room k A):A.depth < recursionLimit:=by have:=r.dp;omega
theorem Room.units(r:Room k A):A.units+64 < cLine:=by have:=r.un;omega
noncomputable def bG8:TA:=λ_ H Q=>Q [] H
noncomputable def ct4(ta:TE)(tr:TA):TA:=λσ H Q=>ta σ H λx H1=>tr σ H1 λxs H2=>Q (x::xs) H2
section
variable {X:Cx}{e:Expr}{es:List Expr}{te:TE}{t:TA}{pos:Pos}
theorem K2:PA X [] bG8:=λ_ _ _ _ H Q I h=>Calls.spliced_nil ⟨[],H,I,.nil,h⟩
theorem C3(ha:PE X e te)(hr:PA X es t)(hs:di (e::es) X.env=(false,eval e X.env)::di es X.env:=by rfl):PA X (e::es) (ct4 te t):=by
 intro pos pins s σ H Q I h;rw[hs];show dD _ _ (spliced ((false,eval e X.env)::backTo pos (di es X.env))) _ _ s;refine Calls.spliced_cons (thn (ha pins s σ H _ I h) λu s1 ⟨x,H1,I1,r1,q1⟩=>?_);exact thn (hr pos pins s1 σ H1 _ I1 q1) λus s2 ⟨xs,H2,I2,r2,q2⟩=>⟨x::xs,H2,I2,.cons r1 r2,q2⟩
noncomputable def cD2(t:TA):TE:=λσ H Q=>t σ H λxs H1=>xs.length<=dj/\∀p,H1 p=none->Q (.ref p) (upd H1 p (.tup xs))
noncomputable def cD7(t:TA):TE:=λσ H Q=>t σ H λxs H1=>xs.length<=dj/\∀p,H1 p=none->Q (.ref p) (upd H1 p (.lst xs))
theorem aQ4{x1}(h:PA X es t):PE X (.Tuple es x1 pos) (cD2 t):=by
 intro pins s σ H Q I hq;refine wpAny_Tuple_spliced (thn (h pos pins s σ H _ I hq) λus s1 ⟨xs,H1,I1,r,z,q⟩=>⟨by rw[← r.length];exact z,?_⟩);have hf:H1 s1.heap.objs.size=none:=I1.hok.fresh (ai _);refine⟨.ref s1.heap.objs.size,upd H1 s1.heap.objs.size (.tup xs),I1.laid (t':=s1.toks) (λb u e=>dF _ e) (ai _) ?_,rfl,q _ hf⟩;exact⟨z,us,r,⟨_,dH _ rfl,rfl,⟨_,rfl⟩,rfl⟩⟩
theorem bp0(h:PA X es t):PE X (.List es pos) (cD7 t):=by
 intro pins s σ H Q I hq;refine wpAny_List_spliced (thn (h pos pins s σ H _ I hq) λus s1 ⟨xs,H1,I1,r,z,q⟩=>⟨by rw[← r.length];exact z,?_⟩);have hf:H1 s1.heap.objs.size=none:=I1.hok.fresh (ai _);refine⟨.ref s1.heap.objs.size,upd H1 s1.heap.objs.size (.lst xs),I1.laid (t':=s1.toks) (λb u e=>dF _ e) (ai _) ?_,rfl,q _ hf⟩;exact⟨z,us,0,r,dH _ rfl⟩
end
noncomputable abbrev Sp:=List V->Hp->VK->XK->Prop
noncomputable abbrev CXT:=List Env->Hp->dW->XK->dU->dW->Prop
structure Env0 (P:dq) (w:World) (K:ag) (mg:Str->Option dU) (base:Heap) (A:dr) (outer:List Env) (s:dW) (H:Hp):Prop where
 frames:A.frames=some outer
 mod:Mod K mg base
 bs:∀b o,base.get? b=some o->s.heap.get? b=some o/\H b=none
 bsz:base.objs.size<=s.heap.objs.size
 funs:s.heap.FunFrames base outer
 frf:∀b∈frs outer,H b=none
 hok:HOk P w H s.heap
 bare:AllBare s.gens
noncomputable def CE(outer:List Env)(P:dq)(w:World)(H:Hp)(s:dW)(Q:VK)(u:dU)(s':dW):Prop :=
 ∃v H',s'.os=s.os/\AllBare s'.gens/\Un (frs outer) [] H H' s.heap s'.heap/\HOk P w H' s'.heap/\E3 v u/\Q v H'
noncomputable def CR(CX:CXT)(outer:List Env)(P:dq)(w:World)(H:Hp)(s:dW)(Q:VK)(E:XK)(r:Result)(s':dW):Prop :=
 match r with
 | .ok (.ret u)=>CE outer P w H s Q u s'
 | .ok _=>False
 | .error e=>CX outer H s E e s'
structure FnOk (P:dq) (w:World) (K:ag) (mg:Str->Option dU) (base:Heap) (CX:CXT) (k:Nat) (f:dX) (fd:dt) (ps:List Str) (sp:Sp):Prop where
 len:∀vs H Q E,sp vs H Q E->vs.length=ps.length
 run:∀(A:dr) (outer:List Env) (s:dW) (H:Hp) (args:Args) (us:List dU) (vs:List V) (Q:VK) (E:XK),Room k A->Env0 P w K mg base A outer s H->BindsTo s fd args (ps.zip us)->C2 vs us->sp vs H Q E ->
  codeAny (dE P w) A (.call (.ref f) args) (CR CX outer P w H s Q E) s
theorem FnOk.mono{P:dq}{w:World}{K:ag}{mg:Str->Option dU}{base:Heap}{CX:CXT}{j k:Nat}{f:dX}{fd:dt}{ps:List Str}{sp:Sp}(F:FnOk P w K mg base CX j f fd ps sp)(h:j<=k):
  FnOk P w K mg base CX k f fd ps sp:=⟨F.len,λA outer s H args us vs Q E hr=>F.run A outer s H args us vs Q E (hr.mono h)⟩
theorem Env0.make{P:dq}{w:World}{K:ag}{mg:Str->Option dU}{base:Heap}{A:dr}{outer:List Env}{s:dW}{H:Hp}(e:Env0 P w K mg base A outer s H)(C:dX)(us:List dU)(kw:List (Str×dU)):
  Env0 P w K mg base (A.under (.builtin "type.__call__" ⟨.ref C::us,kw⟩)) outer s H:=⟨by first|exact e.frames|(simpa [Around.under,Code.envs,Code.isFrame,pushEnvs] using e.frames),e.mod,e.bs,e.bsz,e.funs,e.frf,e.hok,e.bare⟩
section
variable {X:Cx}{pins:List (Addr×Obj)}{σ:St}{H:Hp}{s s':Shared}
theorem Inv.env0(I:Inv X pins σ H s):Env0 X.prog X.w X.K X.mg X.base X.A X.stack s H :=
 ⟨I.ok.frames,I.ok.mod,I.bs,aC I.ok.bsz I.sz,I.stack,I.stkFree,I.hok,I.bare⟩
theorem Inv.after(I:Inv X pins σ H s)(h:CE X.stack X.prog X.w H s Q u s'):EP X pins σ Q u s':=by
 obtain⟨v,H',os,bare,un,hok,r,q⟩:=h;obtain⟨hh,g,d,t,os'⟩:=s';obtain rfl:os'=s.os:=os;exact⟨v,H',I.call (h':=hh) (g':=g) (d':=d) (t':=t) (ch:=[]) un hok bare (λb z=>absurd z (by simp)),r,q⟩
end
noncomputable def bR9(sp:Sp)(dvs:List V)(E:XK)(t:TA):TE:=λσ H Q=>t σ H λvs H1=>sp (vs++dvs) H1 Q E
noncomputable def bR7(C:dX)(m:Str)(sp:Sp)(dvs:List V)(E:XK)(ta:TE)(t:TA):TE:=λσ H Q=>ta σ H λx H1=>∃a dx fs,x=.ref a/\H1 a=some (.ins C dx fs)/\fs.lookup m=none /\
 t σ H1 λvs H2=>sp (x::(vs++dvs)) H2 Q E
noncomputable def bR8(C:dX)(sp:Sp)(dvs:List V)(E:XK)(t:TA):TE:=λσ H Q=>t σ H λvs H1=>∀x dx,H1 x=none->H1 dx=none->dx≠x ->
 sp (.ref x::(vs++dvs)) (upd (upd H1 dx (.own x)) x (.ins C dx [])) (λv H2=>v=.non/\Q (.ref x) H2) E
noncomputable def M4(K:ag)(fd:dt)(ps:List Str)(ds:List dU):Prop :=
 ∀(s:dW) (us:List dU),K.In s.heap->(us++ds).length=ps.length->BindsTo s fd ⟨us,[]⟩ (ps.zip (us++ds))
theorem M4.all{K:ag}{fd:dt}{ps:List Str}(h:∀us:List dU,us.length=ps.length->bindArgs fd ⟨us,[]⟩=pure (ps.zip us)):M4 K fd ps []:=λs us _ hl=>by
 rw[ar]at hl ⊢;exact .of_eq (h us hl)
noncomputable def u5(CX:CXT)(X:Cx)(E:XK):Prop:=∀(pins:List (dX×Obj)) (σ:St) (H:Hp) (s:dW) (e:dU) (s':dW),Inv X pins σ H s->CX X.stack H s E e s'->X.xe e s'
section
variable {X:Cx}{CX:CXT}{k:Nat}{f C:Addr}{fd:FuncData}{ps:List Str}{sp:Sp}{dvs:List V}{ds:List Value}{E:XK}{x m:Str}{p pos apos:Pos}{e o:Expr}{es:List Expr}{ta:TE}{t:TA}
theorem aB9(F:FnOk X.prog X.w X.K X.mg X.base CX k f fd ps sp)(hr:Room k X.A)(hb:M4 X.K fd ps ds)(hd:C2 dvs ds)(hx:u5 CX X E)
  (I:Inv X pins σ H s) (r:C2 vs us) (h:sp (vs++dvs) H Q E):dD (dE X.prog X.w) X.A (call (.ref f) us) (EP X pins σ Q) X.xe s:=by
 have r2:C2 (vs++dvs) (us++ds):=r.append hd;have hl:(us++ds).length=ps.length:=by rw[← r2.length];exact F.len _ _ _ _ h
 refine wpAny_call (codeAny_mono (F.run X.A X.stack s H ⟨us,[]⟩ (us++ds) (vs++dvs) Q E hr I.env0 (hb s us I.kIn hl) r2 h) λr s' hq=>?_);cases r with
 | error e=>exact hx pins σ H s e s' I hq
 | ok fl =>
  cases fl with
  | ret u=>exact I.after hq
  | next=>exact False.elim hq
  | brk=>exact False.elim hq
  | cont=>exact False.elim hq
theorem an8(F:FnOk X.prog X.w X.K X.mg X.base CX k f fd ps sp)(hr:Room k X.A)(hg:Gl X x)(hm:X.mg x=some (.ref f))(hk:aF X.K (.ref f)=true)(hb:M4 X.K fd ps ds)(hd:C2 dvs ds)(hx:u5 CX X E)
  (ha:PA X (e::es) t) (hdb:(x==("__debug__" : Str))=false:=by decide) (he:di (e::es) X.env=(false,eval e X.env)::di es X.env:=by rfl) (hpl:(backTo pos (di es X.env)).any (·.1)=false:=by rfl) :
  PE X (.Call (.Name x p) (e::es) [] pos) (bR9 sp dvs E t):=by
 intro pins s σ H Q I h;refine wpAny_Call_Name_kw (p6 I hg hm ?_ hdb);refine PySem.W.callWith_K (h₀:=X.base) I.ok.mod.kin hk (thn (ha pos pins s σ H _ I h) λus s1 ⟨vs,H1,I1,r,q⟩=>⟨I1.kIn,?_⟩) he hpl;exact aB9 F hr hb hd hx I1 r q
theorem bp6(F:FnOk X.prog X.w X.K X.mg X.base CX k f fd ps sp)(hr:Room k X.A)(hg:Gl X x)(hm:X.mg x=some (.ref f))(hk:aF X.K (.ref f)=true)(hb:M4 X.K fd ps ds)(hd:C2 dvs ds)(hx:u5 CX X E)
  (hdb:(x==("__debug__" : Str))=false:=by decide):PE X (.Call (.Name x p) [] [] pos) (bR9 sp dvs E bG8):=by
 intro pins s σ H Q I h;refine wpAny_Call_Name_kw (p6 I hg hm ?_ hdb);exact PySem.W.callWith_K0 I.kIn hk (aB9 (us:=[]) F hr hb hd hx I .nil h)
theorem aX5(he:PE X o ta)(c:Cls X.K C)(hm:Meth X.K C m f)(F:FnOk X.prog X.w X.K X.mg X.base CX k f fd ps sp)(hr:Room k X.A)(hb:M4 X.K fd ps ds)(hd:C2 dvs ds)(hx:u5 CX X E)(ha:PA X (e::es) t)
  (hst:di (e::es) X.env=(false,eval e X.env)::di es X.env:=by rfl) (hpl:(backTo pos (di es X.env)).any (·.1)=false:=by rfl)
  (ht:eval (.Call (.Attribute o m apos) (e::es) [] pos) X.env=(do
   let ov ← eval o X.env
   standAt apos.atName
   let(f,first) ← holding [ov] (getMethod ov m pl)
   callWith pos f first (backTo pos (di (e::es) X.env)) (backToKw pos (keywordEach [] X.env))):=by rfl) :
  PE X (.Call (.Attribute o m apos) (e::es) [] pos) (bR7 C m sp dvs E ta t):=by
 intro pins s σ H Q I h;refine PySem.W.methodCall_KW (pl:=pl) (thn (he pins s σ H _ I h) λu s1 ⟨x,H1,I1,rx,a,dx,fs,ex,ea,l,q⟩=>?_) ht;subst ex;obtain rfl:u=dO a:=rx;refine p7 I1 ea c hm l ?_;refine PySem.W.callWith_K (first:=[.ref a]) (h₀:=X.base) I.ok.mod.kin hm.kp (thn (ha pos pins s1 σ H1 _ I1 q) λus s2 ⟨vs,H2,I2,r,q2⟩=>⟨I2.kIn,?_⟩) hst hpl;exact aB9 (us:=.ref a::us) (vs:=.ref a::vs) F hr hb hd hx I2 (.cons rfl r) q2
theorem ar1(he:PE X o ta)(c:Cls X.K C)(hm:Meth X.K C m f)(F:FnOk X.prog X.w X.K X.mg X.base CX k f fd ps sp)(hr:Room k X.A)(hb:M4 X.K fd ps ds)(hd:C2 dvs ds)(hx:u5 CX X E)
  (ht:eval (.Call (.Attribute o m apos) [] [] pos) X.env=(do
   let ov ← eval o X.env
   standAt apos.atName
   let(f,first) ← holding [ov] (getMethod ov m pl)
   callWith pos f first (backTo pos (di [] X.env)) (backToKw pos (keywordEach [] X.env))):=by rfl) :
  PE X (.Call (.Attribute o m apos) [] [] pos) (bR7 C m sp dvs E ta bG8):=by
 intro pins s σ H Q I h;refine PySem.W.methodCall_KW (pl:=pl) (thn (he pins s σ H _ I h) λu s1 ⟨x,H1,I1,rx,a,dx,fs,ex,ea,l,q⟩=>?_) ht;subst ex;obtain rfl:u=dO a:=rx;refine p7 I1 ea c hm l ?_;exact PySem.W.callWith_K0 (first:=[.ref a]) I1.kIn hm.kp (aB9 (us:=[.ref a]) (vs:=[.ref a]) F hr hb hd hx I1 (.cons rfl .nil) q)
structure Mk (K:ag) (C f:dX):Prop where
 makes:PySem.W.makesIn K C=true
 init:PySem.W.findIn K (.ref C) "__init__" = some (some (.ref f))
 fn:PySem.W.isFn K (.ref f)=true
 kp:aF K (.ref C)=true
theorem aJ0(M:Mk X.K C f)(F:FnOk X.prog X.w X.K X.mg X.base CX k f fd ps sp)(hr:Room (k+1) X.A)(hb:M4 X.K fd ps ds)(hd:C2 dvs ds)
  (hx:u5 CX X E) (I:Inv X pins σ H s) (r:C2 vs us)
  (h:∀x dx,H x=none->H dx=none->dx≠x->sp (.ref x::(vs++dvs)) (upd (upd H dx (.own x)) x (.ins C dx [])) (λv H2=>v=.non/\Q (.ref x) H2) E) :
  dD (dE X.prog X.w) X.A (call (.ref C) us) (EP X pins σ Q) X.xe s:=by
 have hq:=h (s.heap.objs.size+1) s.heap.objs.size (I.hok.fresh (ce _)) (I.hok.fresh (ai _)) (aD (cj _));have I2:=Inv.made (C:=C) I;have r2:C2 (V.ref (s.heap.objs.size+1)::(vs++dvs)) (dO (s.heap.objs.size+1)::(us++ds)):=.cons rfl (r.append hd)
 have hl:(dO (s.heap.objs.size+1)::us++ds).length=ps.length:=by
  have e:=r2.length;rw[F.len _ _ _ _ hq]at e;exact e.symm
 refine wpAny_call (bt1 (f:=f) I.kIn M.makes M.init (beq_iff_eq.mp M.fn) (codeAny_mono (F.run _ X.stack _ _ ⟨dO (s.heap.objs.size+1)::us,[]⟩ (dO (s.heap.objs.size+1)::(us++ds)) _ _ E (hr.make C us [])
  (I2.env0.make C us []) (hb _ (dO (s.heap.objs.size+1)::us) I2.kIn hl) r2 hq) λr s' hq'=>?_))
 cases r with
 | error e=>exact hx pins σ _ _ e s' I2 hq'
 | ok fl =>
  cases fl with
  | ret u =>
   obtain⟨v,H',I3,rv,ev,q3⟩:=I2.after hq';subst ev;exact⟨rv,⟨V.ref (s.heap.objs.size+1),H',I3,rfl,q3⟩⟩
  | next=>exact False.elim hq'
  | brk=>exact False.elim hq'
  | cont=>exact False.elim hq'
theorem bJ9(M:Mk X.K C f)(F:FnOk X.prog X.w X.K X.mg X.base CX k f fd ps sp)(hr:Room (k+1) X.A)(hg:Gl X x)(hm:X.mg x=some (.ref C))(hb:M4 X.K fd ps ds)(hd:C2 dvs ds)(hx:u5 CX X E)
  (ha:PA X (e::es) t) (hdb:(x==("__debug__" : Str))=false:=by decide) (he:di (e::es) X.env=(false,eval e X.env)::di es X.env:=by rfl) (hpl:(backTo pos (di es X.env)).any (·.1)=false:=by rfl) :
  PE X (.Call (.Name x p) (e::es) [] pos) (bR8 C sp dvs E t):=by
 intro pins s σ H Q I h;refine wpAny_Call_Name_kw (p6 I hg hm ?_ hdb);refine PySem.W.callWith_K (h₀:=X.base) I.ok.mod.kin M.kp (thn (ha pos pins s σ H _ I h) λus s1 ⟨vs,H1,I1,r,q⟩=>⟨I1.kIn,?_⟩) he hpl;exact aJ0 M F hr hb hd hx I1 r q
theorem bo9(M:Mk X.K C f)(F:FnOk X.prog X.w X.K X.mg X.base CX k f fd ps sp)(hr:Room (k+1) X.A)(hg:Gl X x)(hm:X.mg x=some (.ref C))(hb:M4 X.K fd ps ds)(hd:C2 dvs ds)(hx:u5 CX X E)
  (hdb:(x==("__debug__" : Str))=false:=by decide):PE X (.Call (.Name x p) [] [] pos) (bR8 C sp dvs E bG8):=by
 intro pins s σ H Q I h;refine wpAny_Call_Name_kw (p6 I hg hm ?_ hdb);exact PySem.W.callWith_K0 I.kIn M.kp (aJ0 (us:=[]) M F hr hb hd hx I .nil h)
end
structure FnScope (N P:List Str) (sc:Scope):Prop where
 kind:sc.kind=.function
 co:sc.isCoroutine=false
 gen:sc.isGenerator=false
 nd:N.Nodup
 pre:N.take P.length=P
 par:∀x∈P,sc.names.lookup x=some .local\/sc.names.lookup x=some .cell
 nofree:∀y∈sc.names,y.2≠.free
theorem az3{kindOf:Str->Option NameKind}{x:Str}:∀{binds:List (Str×dU)}{m:Str->Option dU},(∀v,(x,v)∉binds)->bindL kindOf binds m x=m x
 | [],_,_=>rfl
 | (n,v)::r,m,h=>by
  unfold bindL;rw[az3 λw hw=>h w (aj _ hw)];split
  ·have:x≠n:=by rintro rfl;exact h v aZ
   simp[this]
  ·rfl
theorem az5{kindOf:Str->Option NameKind}{x:Str}:∀{binds:List (Str×dU)}{m:Str->Option dU},(∀v,(x,v)∉binds)->bindC kindOf binds m x=m x
 | [],_,_=>rfl
 | (n,v)::r,m,h=>by
  unfold bindC;rw[az5 λw hw=>h w (aj _ hw)];split
  ·rfl
  ·have:x≠n:=by rintro rfl;exact h v aZ
   simp[this]
theorem az4{kindOf:Str->Option NameKind}{x:Str}{v:dU}:∀{P:List Str}{vs:List dU}{i:Nat}{m:Str->Option dU},P.Nodup->P[i]? = some x->vs[i]? = some v->kindOf x=some .local ->
  bindL kindOf (P.zip vs) m x=some v
 | [],_,_,_,_,h,_,_=>by simp at h
 | _::_,[],_,_,_,_,h,_=>by simp at h
 | p::P,w::vs,0,m,nd,h1,h2,hk=>by
  simp at h1 h2;subst h1;subst h2;show bindL kindOf ((p,w)::P.zip vs) m p=_;unfold bindL;rw[az3 λv hv=>(br.mp nd).1 (bu hv).1,if_pos hk];simp
 | p::P,w::vs,i+1,m,nd,h1,h2,hk=>by
  show bindL kindOf ((p,w)::P.zip vs) m x=_;unfold bindL;exact az4 (i:=i) (br.mp nd).2 (by simpa using h1) (by simpa using h2) hk
theorem az6{kindOf:Str->Option NameKind}{x:Str}{v:dU}:∀{P:List Str}{vs:List dU}{i:Nat}{m:Str->Option dU},P.Nodup->P[i]? = some x->vs[i]? = some v->kindOf x≠some .local ->
  bindC kindOf (P.zip vs) m x=some v
 | [],_,_,_,_,h,_,_=>by simp at h
 | _::_,[],_,_,_,_,h,_=>by simp at h
 | p::P,w::vs,0,m,nd,h1,h2,hk=>by
  simp at h1 h2;subst h1;subst h2;show bindC kindOf ((p,w)::P.zip vs) m p=_;unfold bindC;rw[az5 λv hv=>(br.mp nd).1 (bu hv).1,if_neg hk];simp
 | p::P,w::vs,i+1,m,nd,h1,h2,hk=>by
  show bindC kindOf ((p,w)::P.zip vs) m x=_;unfold bindC;exact az6 (i:=i) (br.mp nd).2 (by simpa using h1) (by simpa using h2) hk
noncomputable def start(N:List Str)(vs:List V):St:=vs.map some++aq (N.length - vs.length) none
noncomputable def ah2(CX:CXT)(P:dq)(w:World)(K:ag)(mg:Str->Option dU)(base:Heap)(N:List Str)(qual:Str)(scope:Scope)(f:dX)(cd:dU)(A:dr)(outer:List Env)(s:dW)(H:Hp)(E:XK):Cx where
 prog:=P
 w:=w
 K:=K
 mg:=mg
 base:=base
 A:=A.deeper (envOfC qual scope s.heap.objs.size f cd)
 N:=N
 s₀:=s
 H₀:=H
 env:=envOfC qual scope s.heap.objs.size f cd
 outer:=outer
 stack:=envOfC qual scope s.heap.objs.size f cd::outer
 ex:=[]
 calm:=true
 fn:=λ_=>true
 pn:=[]
 xe:=λe s'=>dD (dE P w) (A.deeper (envOfC qual scope s.heap.objs.size f cd)) (leaving (envOfC qual scope s.heap.objs.size f cd) e) (λ_ s''=>CX outer H s E e s'') (λe' s''=>CX outer H s E e' s'') s'
theorem aN1{sc:Scope}{n:Nat}{x:Str}(h:sc.names.lookup x=some .cell):∃c,(cellsFrom n sc.names []).lookup x=some c:=by
 have q:=PySem.W.cellsFrom_some sc.names n [] (.inl h);exact bD.mp q
theorem bf6{CX:CXT}{P:dq}{w:World}{K:ag}{mg:Str->Option dU}{base:Heap}{N ps:List Str}{qual:Str}{scope:Scope}{f:dX}{cd:dU}{A:dr}{outer:List Env}{s s1:dW}{H:Hp}{E:XK}{us:List dU}{vs:List V}
  (S:FnScope N ps scope) (hd:A.handled=none) (e0:Env0 P w K mg base A outer s H) (hl:vs.length=ps.length) (r:C2 vs us)
  (x:InCallC s s.heap.objs.size (bindL (envOfC qual scope s.heap.objs.size f cd).kindOf (ps.zip us) λ_=>none) (cellsFrom (s.heap.objs.size+1) scope.names []) (bindC (envOfC qual scope s.heap.objs.size f cd).kindOf (ps.zip us) λ_=>none) s1) :
  Inv (ah2 CX P w K mg base N qual scope f cd A outer s H E) [] (start N vs) H s1:=by
 have hpl:ps.length<=N.length:=by have:=congrArg List.length S.pre;rw[cL]at this;omega
 obtain⟨h1,tk,rfl,hk⟩:=x.done;have noA:∀b:dX,b∉(ah2 CX P w K mg base N qual scope f cd A outer s H E).ex:=λb z=>absurd (show b∈([]:List dX) from z) (by simp)
 refine⟨⟨e0.mod,S.kind,rfl,rfl,ai _,λy z c h1 h2=>?_,λy hy=>?_,λy c _ h=>?_,λ_=>hd,Around.frames_deeper e0.frames,.inr ⟨rfl,rfl⟩,λb z=>absurd z (noA b),e0.bs,e0.bsz,λb _ _=>noA b,λb z=>absurd z (noA b),e0.funs,e0.frf⟩,
  rfl,e0.bare,Un.kept hk,⟨_,x.toInCall.ns,λi y v h1 h2 h3=>?_⟩,λy c h=>⟨_,x.cell y c h⟩,e0.hok.fresh (ai _),λy c h=>?_,λp hp=>absurd (show p∈([]:List (dX×Obj)) from hp) (by simp),e0.hok.kept hk,?_⟩
 ·exact name_of_addr x.apart (PySem.mem_of_lookup h1) (PySem.mem_of_lookup h2)
 ·have hy:scope.names.lookup y=some .cell\/scope.names.lookup y=some .free:=hy;rcases hy with hy|hy
  ·exact aN1 hy
  ·exact absurd rfl (S.nofree _ (PySem.mem_of_lookup hy))
 ·exact bE (x.above y c (PySem.mem_of_lookup h))
 ·have hi:i < vs.length:=by
   unfold start at h2;by_cases hi:i < vs.length
   ·exact hi
   ·rw[am (by simpa using hi)]at h2;rw[be]at h2;split at h2<;>cases h2
  have ha:vs[i]? = some v:=by
   unfold start at h2;rw[aw (by simpa using hi),aE]at h2;cases e:vs[i]? with
   | none=>rw[e]at h2;cases h2
   | some a=>rw[e]at h2;cases h2;rfl
  obtain⟨u,hu,rv⟩:=r.get ha
  have hp:ps[i]? = some y:=by
   rw[← S.pre,List.getElem?_take_of_lt (by omega)];exact h1
  have ndP:ps.Nodup:=by rw[← S.pre];exact S.nd.sublist (List.take_sublist _ _)
  refine⟨u,rv,?_⟩;rcases S.par y (bQ hp) with k|k
  ·exact .inl ⟨k,az4 ndP hp hu k⟩
  ·obtain⟨c,e⟩:=aN1 (n:=s.heap.objs.size+1) k;refine .inr ⟨.inl k,c,e,?_⟩;have q:=x.cell y c e;rw[az6 ndP hp hu (by show scope.names.lookup y≠_;rw[k];decide)]at q;exact q
 ·exact e0.hok.fresh (bE (x.above y c (PySem.mem_of_lookup h)))
 ·unfold start;show _=N.length;rw[aG,ay,bK];omega
theorem as6{CX:CXT}{P:dq}{w:World}{K:ag}{mg:Str->Option dU}{base:Heap}{k:Nat}{f:dX}{name qual:Str}{params:Arguments}{body:List Stmt}{scope:Scope}{dV kV doc pm cdv ct oc:dU}{an od:Option dX}
  {osl:Array (Option dU)}{N ps:List Str}{sp:Sp}(lk:K.lookup f=some ⟨oc,od,.func (bj name qual params body scope dV kV doc pm an cdv ct),osl⟩) (hcd:bR K cdv qual=true) (S:FnScope N ps scope)
  (len:∀vs H Q E,sp vs H Q E->vs.length=ps.length)
  (hbody:∀(A:dr) (outer:List Env) (s:dW) (H:Hp) (vs:List V) (Q:VK) (E:XK),Room k (A.deeper (envOfC qual scope s.heap.objs.size f cdv))->sp vs H Q E ->
   ∃t,PSs (ah2 CX P w K mg base N qual scope f cdv A outer s H E) body t/\t { nx:=λ_ H'=>Q .non H',rt:=Q } (start N vs) H) :
  FnOk P w K mg base CX (k+1) f (bj name qual params body scope dV kV doc pm an cdv ct) ps sp:=by
 refine⟨len,λA outer s H args us vs Q E hr e0 hb r hsp=>?_⟩;have hl:=len _ _ _ _ hsp;have KX:K.In s.heap:=e0.mod.kin.keeps λb o e=>(e0.bs b o e).1
 have lim:s.heap.NoLimit:=e0.mod.nolimit.keeps λb o e=>(e0.bs b o e).1
 have hkind:∀y∈ps.zip us,scope.names.lookup y.1=some .local\/(scope.names.lookup y.1=some .cell/\((cellsFrom (s.heap.objs.size+1) scope.names []).lookup y.1).isSome=true):=λ⟨n,v⟩ hy=>by
  rcases S.par n (bu hy).1 with q|q
  ·exact .inl q
  ·exact .inr ⟨q,PySem.W.cellsFrom_some _ _ _ (.inl q)⟩
 refine codeAny_call_function hr.depth (KX _ _ lk) rfl S.co S.gen rfl (PySem.W.codeRec_of KX hcd) (hb _ _ _ _ ?_);refine wpAny_newFunctionEnv_cells S.kind hkind λenv he s1 x=>?_
 subst he;refine⟨lim.keeps x.toInCall.keep,codeAny_func ?_⟩;obtain⟨t,ht,hq⟩:=hbody A outer s H vs Q E (hr.deeper _) hsp;have I:Inv (ah2 CX P w K mg base N qual scope f cdv A outer s H E) [] (start N vs) H s1:=bf6 S hr.hd e0 hl r x;refine cZ (ht [] s1 (start N vs) H _ I hq) (λfl s' hs=>?_) λe s' hs=>hs
 have fin:∀{σ':St}{H':Hp}{v:V}{u:dU},Inv (ah2 CX P w K mg base N qual scope f cdv A outer s H E) [] σ' H' s'->E3 v u->Q v H'->CE outer P w H s Q u s' :=
  λ{σ' H' v u} J rv q=>⟨v,H',J.os,J.bare,J.base,J.hok,rv,q⟩
 cases fl with
 | ret u =>
  obtain⟨v,σ',H',J,rv,q⟩:=hs;exact fin J rv q
 | next =>
  obtain⟨σ',H',J,q⟩:=hs;exact fin (v:=V.non) (u:=dP) J rfl q
 | brk =>
  obtain⟨_,_,_,q⟩:=hs;exact False.elim q
 | cont =>
  obtain⟨_,_,_,q⟩:=hs;exact False.elim q
end L2
namespace L2
open PySem PySem.Spec PyProof.Rows
section
variable {X:Cx}{x:Str}{p pos:Pos}{e:Expr}{es:List Expr}{t:TA}{id T:String}{r:List V->Hp->VK->Prop}
noncomputable def tCB(r:List V->Hp->VK->Prop)(t:TA):TE:=λσ H Q=>t σ H λvs H1=>r vs H1 Q
theorem T4(hc:b0 X (.builtin id) r)(hg:Gl X x)(hm:X.mg x=none)(hv:du x=some (.builtin id))(ha:PA X (e::es) t)(hn:x ≠ "__name__" := by decide)(hdb:(x==("__debug__" : Str))=false:=by decide)
  (he:di (e::es) X.env=(false,eval e X.env)::di es X.env:=by rfl) (hpl:(backTo pos (di es X.env)).any (·.1)=false:=by rfl):PE X (.Call (.Name x p) (e::es) [] pos) (tCB r t):=by
 intro pins s σ H Q I h;refine wpAny_Call_Name_kw (ae4 I hg hm hv ?_ hn hdb);exact PyProof.Rows.callWith_builtin1 (thn (ha pos pins s σ H _ I h) λus s1 ⟨vs,H1,I1,r1,q1⟩=>hc pins s1 σ H1 vs us Q I1 r1 q1) he hpl
theorem Y9(hc:b0 X (.type T) r)(hg:Gl X x)(hm:X.mg x=none)(hv:du x=some (.type T))(ha:PA X (e::es) t)(hn:x ≠ "__name__" := by decide)(hdb:(x==("__debug__" : Str))=false:=by decide)
  (he:di (e::es) X.env=(false,eval e X.env)::di es X.env:=by rfl) (hpl:(backTo pos (di es X.env)).any (·.1)=false:=by rfl):PE X (.Call (.Name x p) (e::es) [] pos) (tCB r t):=by
 intro pins s σ H Q I h;refine wpAny_Call_Name_kw (ae4 I hg hm hv ?_ hn hdb);exact PyProof.Rows.callWith_type1 (thn (ha pos pins s σ H _ I h) λus s1 ⟨vs,H1,I1,r1,q1⟩=>hc pins s1 σ H1 vs us Q I1 r1 q1) he hpl
end
end L2
namespace HT
open PySem PyProof.Rows
section
variable {prog:Program}{w:World}{A:Around}{E:Value->Shared->Prop}{s:Shared}
theorem cat_tup(ht:IsTup s.heap t vs.toArray)(hb:IsTup s.heap b ws.toArray)(hv:vs≠[])
  (h1:ws=[]->Q (.ref t) s) (h2:ws≠[]->Q (.ref s.heap.objs.size) { s with heap:=s.heap.push { cls:=.type "tuple", data:=.seq (vs++ws).toArray } })
  (hsz:vs.length+ws.length<=dj):dD (dE prog w) A (dv .Add (.ref t) (.ref b)) Q E s:=by
 obtain⟨⟨cls,dd,data,sl⟩,ho,hc,n,hd⟩:=id ht;obtain⟨⟨cls2,dd2,data2,sl2⟩,ho2,hc2,n2,hd2⟩:=id hb;simp only at hc hd hc2 hd2;subst hc hd hc2 hd2;have e:vs.toArray++ws.toArray=(vs++ws).toArray:=by simp
 by_cases hw:ws=[]
 ·exact concat_meets ⟨_,ho,rfl⟩ ⟨_,ho2,rfl⟩ noFill_tuple_add seq_tuple_add PySem.F.slot_tuple_add PySem.F.entry_tuple_add (PySem.F.args_tuple_add_2 _ _)
   (tuple_addW1 t b vs.toArray ws.toArray n n2 dd dd2 sl sl2 (by simpa using hv) (by simp[hw])) ⟨ho,ho2,h1 hw⟩
 ·refine concat_meets ⟨_,ho,rfl⟩ ⟨_,ho2,rfl⟩ noFill_tuple_add seq_tuple_add PySem.F.slot_tuple_add PySem.F.entry_tuple_add (PySem.F.args_tuple_add_2 _ _)
   (tuple_addW2 t b vs.toArray ws.toArray n n2 dd dd2 sl sl2 (by simpa using hv) (by simpa using hw) (by rw[ao,ao];exact hsz)) ⟨ho,ho2,?_⟩
  rw[e];exact h2 hw
noncomputable def sIx(n d:Nat):Option Int->Nat
 | none=>d
 | some v=>if v < 0 then(v+(n:Int)).toNat else min v.toNat n
theorem cb4(n d:Nat)(hd:d<=n)(o:Option Int):sIx n d o<=n:=by
 cases o with
 | none=>exact hd
 | some v =>
  show(if v < 0 then(v+(n:Int)).toNat else min v.toNat n)<=n;by_cases hv:v < 0
  ·rw[if_pos hv];omega
  ·rw[if_neg hv];exact Nat.min_le_right _ _
theorem ba2(v:Int)(n d:Nat):(if v < 0 then max (v+(n:Int)) 0 else min v (n:Int))=((sIx n d (some v):Nat):Int):=by
 show(if v < 0 then max (v+(n:Int)) 0 else min v (n:Int))=(((if v < 0 then(v+(n:Int)).toNat else min v.toNat n):Nat):Int);by_cases hv:v < 0
 ·simp only[if_pos hv];omega
 ·simp only[if_neg hv];omega
theorem aT9(lo hi:Option Int)(n:Nat):Builtin.Slice.sliceAdjust lo hi 1 (n:Int)=(((sIx n 0 lo:Nat):Int),((sIx n n hi:Nat):Int)):=by
 have h1:¬((1:Int) < 0):=by omega
 unfold Builtin.Slice.sliceAdjust;simp only[h1,if_false];refine Prod.ext ?_ ?_
 ·cases lo with
  | none=>rfl
  | some v=>exact ba2 v n 0
 ·cases hi with
  | none=>rfl
  | some v=>exact ba2 v n n
theorem aQ3(i j:Nat):Builtin.Slice.slicePlaces (i:Int) (j:Int) 1=j - i:=by
 unfold Builtin.Slice.slicePlaces;have h1:(1:Int) > 0:=by omega
 simp only[h1,if_true,Int.ediv_one];split<;>omega
theorem aq1(p:IsPart v o)(h:Q o s):dD (dE prog w) A (Builtin.Slice.slicePartIndex v) Q E s:=by
 cases p with
 | none=>exact slicePart_none h
 | int i t=>exact slicePart_int h
theorem sliceApplied_gen{sl:dX}{vl vu:dU}{lo hi:Option Int}{n:Nat}{Q:Int×Int×Nat->dW->Prop}(hs:s.heap.IsSliceOf sl vl vu .none)(pl:IsPart vl lo)(pu:IsPart vu hi)
  (h:Q (((sIx n 0 lo:Nat):Int),1,sIx n n hi - sIx n 0 lo) s):dD (dE prog w) A (Builtin.Slice.sliceApplied (.ref sl) (pure (n:Int))) Q E s:=by
 obtain⟨os,hos,hcs,hds⟩:=id hs;unfold Builtin.Slice.sliceApplied Builtin.Slice.sliceFields;refine cX (cX (dh hos hds (x:=vl) rfl (cX (dh hos hds (x:=vu) rfl (cX (dh hos hds (x:=.none) rfl (cY ?_)))))));refine cX (slicePart_none ?_);show dD _ _ (if((1:Int)==0)=true then _ else _) _ _ s;rw[if_neg (by decide)];refine cX (aq1 pl (cX (aq1 pu (cX (cY ?_)))));show dD _ _ (match Builtin.Slice.sliceAdjust lo hi 1 (n:Int) with|(lo,hi)=>pure (lo,(1:Int),Builtin.Slice.slicePlaces lo hi 1)) _ _ s;rw[aT9 lo hi n];show dD _ _ (pure (((sIx n 0 lo:Nat):Int),(1:Int),Builtin.Slice.slicePlaces ((sIx n 0 lo:Nat):Int) ((sIx n n hi:Nat):Int) 1)) _ _ s;rw[aQ3];exact cY h
theorem bo6(xs:Array dU)(i k:Nat):((aU k).filterMap λ(m:Nat)=>xs[((i:Int)+(m:Int)*1).toNat]?).toArray=((xs.toList.drop i).take k).toArray:=by
 have e:(λ(m:Nat)=>xs[((i:Int)+(m:Int)*1).toNat]?)=λm=>xs[i+m]?:=by
  funext m
  have:((i:Int)+(m:Int)*1).toNat=i+m:=by omega
  rw[this]
 rw[e];have:=pick_run xs i k;rw[List.filterMap_map]at this;have e2:((λx=>xs[x]?) ∘ λx=>i+x)=λm=>xs[i+m]?:=rfl
 rw[e2]at this;rw[this]
theorem getItem_tuple_cut{t sl:dX}{items:Array dU}{vl vu:dU}{lo hi:Option Int}{Q:dU->dW->Prop}(ht:IsTup s.heap t items)(hs:s.heap.IsSliceOf sl vl vu .none)(pl:IsPart vl lo)(pu:IsPart vu hi)
  (hw:¬(sIx items.size 0 lo=0/\sIx items.size items.size hi=items.size))
  (h:Q (.ref s.heap.objs.size) { s with heap:=s.heap.push { cls:=.type "tuple", data:=.seq ((items.toList.drop (sIx items.size 0 lo)).take (sIx items.size items.size hi - sIx items.size 0 lo)).toArray } })
  (hsz:items.size<=dj):dD (dE prog w) A (getItem (.ref t) (.ref sl)) Q E s:=by
 have htake:sizeOk (.seq ((items.toList.drop (sIx items.size 0 lo)).take (sIx items.size items.size hi - sIx items.size 0 lo)).toArray):=by
  show((items.toList.drop (sIx items.size 0 lo)).take (sIx items.size items.size hi - sIx items.size 0 lo)).toArray.size<=dj;rw[ao,cL,List.length_drop,bq];omega
 have hj:sIx items.size items.size hi<=items.size:=cb4 _ _ (ai _) hi;obtain⟨os,hos,hcs,hds⟩:=id hs;have hTs:s.TypeIs (.ref sl) "slice" := ⟨os,hos,hcs⟩;unfold getItem
 try with_reducible refine wpAny_holding ?_
 first|refine cX (cY ?_)|skip
 refine cX (wpAny_sequenceKey ht.typeIs (by decide) ?_)
 refine cX (wpAny_callSpecial?_slot (name:=Str.ofString "__getitem__") ht.typeIs PyProof.Rows.slot_tuple_getitem
  (wpAny_call_entry PyProof.Rows.slot_tuple_getitem ht.typeIs entry_tuple_getitem ?_ (args_tuple_getitem _ _)))
 show dD _ _ (Builtin.Tuple.tupleItemsOf (.ref t) >>= _) _ _ s;refine cX (tupleItemsOf_ ht ?_);refine cX (wpAny_typeOf hTs ?_);rw[if_pos (by decide)];refine cX (sliceApplied_gen hs pl pu ?_)
 have hno:¬((((sIx items.size 0 lo:Nat):Int)==0&&(1:Int)==1&&(sIx items.size items.size hi - sIx items.size 0 lo)==items.size)=true):=by
  intro q;rw[ah,ah]at q;have q1:((sIx items.size 0 lo:Nat):Int)=0:=eq_of_beq q.1.1;have q2:sIx items.size items.size hi - sIx items.size 0 lo=items.size:=eq_of_beq q.2;exact hw ⟨by omega,by omega⟩
 show dD _ _ (if(((sIx items.size 0 lo:Nat):Int)==0&&(1:Int)==1&&(sIx items.size items.size hi - sIx items.size 0 lo)==items.size)=true then _ else _) _ _ s;rw[if_neg hno,bo6]
 first
  | exact cX (m:=Builtin.Tuple.tupleExact _) (de (cY ⟨_,rfl,cY h⟩) htake)
  | exact cX (m:=Builtin.Tuple.tupleExact _) (de (cX (cY (cY ⟨_,rfl,cY h⟩))) htake)
  | exact cX (cX (m:=Builtin.Tuple.tupleExact _) (de (cY (cY ⟨_,rfl,cY h⟩)) htake))
  | exact cX (cX (m:=Builtin.Tuple.tupleExact _) (de (cY ⟨_,rfl,cY h⟩) htake))
end
end HT
namespace L2
open PySem PySem.Spec PyProof.Rows
noncomputable abbrev TO:=St->Hp->(Option Int->Hp->Prop)->Prop
noncomputable def PO(X:Cx)(e:Option Expr)(t:TO):Prop :=
 ∀(pins:List (dX×Obj)) (s:dW) (σ:St) (H:Hp) (Q:Option Int->Hp->Prop),Inv X pins σ H s->t σ H Q ->
  dD (dE X.prog X.w) X.A (evalPart e X.env) (λu s'=>∃o H',Inv X pins σ H' s'/\IsPart u o/\Q o H') X.xe s
noncomputable def bG7:TO:=λ_ H Q=>Q none H
noncomputable def cs9(t:TE):TO:=λσ H Q=>t σ H λx H1=>∃i,x=.int i/\Q (some i) H1
section
variable {X:Cx}{e:Expr}{te:TE}{lo hi:Option Expr}{tl th:TO}{pos p2:Pos}
theorem bJ6:PO X none bG7:=by
 intro pins s σ H Q I h;rw[evalPart_none];exact cY ⟨none,H,I,.none,h⟩
theorem bJ5(h:PE X e te):PO X (some e) (cs9 te):=by
 intro pins s σ H Q I hw;rw[evalPart_some];refine thn (h pins s σ H _ I hw) λu s1 ⟨x,H1,I1,r1,q1⟩=>?_
 obtain⟨i,rfl,q⟩:=q1;obtain⟨t,rfl⟩:=r1;exact⟨some i,H1,I1,.int i t,q⟩
noncomputable def SlR(X:Cx)(r:V->Option Int->Option Int->Hp->VK->Prop):Prop :=
 ∀(pins:List (dX×Obj)) (s:dW) (σ:St) (H:Hp) (x:V) (v vl vu:dU) (lo hi:Option Int) (sl:dX) (Q:VK),Inv X pins σ H s->E3 x v->s.heap.IsSliceOf sl vl vu .none->IsPart vl lo->IsPart vu hi->r x lo hi H Q ->
  ∃T id,typeLookup (.type T) "__getitem__" = pure (some (.builtin id))/\s.TypeIs v T/\dD (dE X.prog X.w) X.A (getItem v (.ref sl)) (EP X pins σ Q) X.xe s
theorem SlR.or(h:SlR X r)(h':SlR X r'):SlR X (λx lo hi H Q=>r x lo hi H Q\/r' x lo hi H Q):=by
 intro pins s σ H x v vl vu lo hi sl Q I rx hs pl pu q;rcases q with q|q
 ·exact h pins s σ H x v vl vu lo hi sl Q I rx hs pl pu q
 ·exact h' pins s σ H x v vl vu lo hi sl Q I rx hs pl pu q
noncomputable def tSl(r:V->Option Int->Option Int->Hp->VK->Prop)(te:TE)(tl th:TO):TE:=λσ H Q=>te σ H λx H1=>tl σ H1 λl H2=>th σ H2 λu H3=>r x l u H3 Q
theorem ar0(hr:SlR X r)(he:PE X e te)(hl:PO X lo tl)(hu:PO X hi th):PE X (.Subscript e (.Slice lo hi none p2) pos) (tSl r te tl th):=by
 intro pins s σ H Q I h;refine Subscript_ (thn (he pins s σ H _ I h) λv s1 ⟨x,H1,I1,r1,q1⟩=>?_);refine wpAny_Slice (thn (hl pins s1 σ H1 _ I1 q1) λvl s2 ⟨l,H2,I2,pl,q2⟩=>thn (hu pins s2 σ H2 _ I2 q2) λvu s3 ⟨u,H3,I3,pu,q3⟩=>?_);rw[evalPart_none];refine cY ?_;have I4:Inv X pins σ H3 { s3 with heap:=s3.heap.push { cls:=.type "slice", data:=.fields #[vl,vu,.none] } }:=I3.kept (t':=s3.toks) λb ob q=>dF _ q
 obtain⟨T,id,hT,ht,hg⟩:=hr pins { s3 with heap:=s3.heap.push { cls:=.type "slice", data:=.fields #[vl,vu,.none] } } σ H3 x v vl vu l u s3.heap.objs.size Q I4 r1 (Heap.IsSliceOf.new ..) pl pu q3;show dD (dE X.prog X.w) X.A (subscriptTail e (.Slice lo hi none p2) v (.ref s3.heap.objs.size)) (EP X pins σ Q) X.xe { s3 with heap:=s3.heap.push { cls:=.type "slice", data:=.fields #[vl,vu,.none] } };exact tail_any (ops:=[.ref s3.heap.objs.size,v]) ht hT hg (by with_unfolding_all rfl)
noncomputable def aM7(xs:List V)(lo hi:Option Int):List V:=(xs.drop (HT.sIx xs.length 0 lo)).take (HT.sIx xs.length xs.length hi - HT.sIx xs.length 0 lo)
theorem al9(xs:List V)(lo hi:Option Int):(aM7 xs lo hi).length<=xs.length:=by
 unfold aM7;rw[cL,List.length_drop];omega
noncomputable def cF0(K:ag):V->Option Int->Option Int->Hp->VK->Prop:=λx lo hi H Q=>∃a xs,x=.ref a/\SqT K H a xs /\
 ¬(HT.sIx xs.length 0 lo=0/\HT.sIx xs.length xs.length hi=xs.length)/\∀p,H p=none->Q (.ref p) (upd H p (.tup (aM7 xs lo hi)))
theorem bn0:SlR X (cF0 X.K):=by
 intro pins s σ H x v vl vu lo hi sl Q I rx hs pl pu h;obtain⟨a,xs,rfl,hx,hw,q⟩:=h;cases rx;obtain⟨its,r,ht,hz⟩:=I.tuple hx;have hlen:its.toArray.size=xs.length:=by rw[ao];exact r.length.symm
 refine⟨"tuple", _,PyProof.Rows.slot_tuple_getitem.lookup,ht.typeIs,?_⟩;refine HT.getItem_tuple_cut ht hs pl pu (by rw[hlen];exact hw) ?_ (by rw[hlen];exact hz);rw[hlen];refine⟨.ref s.heap.objs.size,_,I.laid (t':=s.toks) (o:=.tup (aM7 xs lo hi)) (λb ob q=>dF _ q) (ai _) ?_,rfl,q _ (I.hok.fresh (ai _))⟩;exact⟨aC (al9 xs lo hi) hz,_,(r.drop (HT.sIx xs.length 0 lo)).take (HT.sIx xs.length xs.length hi - HT.sIx xs.length 0 lo),aw2.new _ _⟩
noncomputable def cv0(K:ag):R2:=λx y H Q=>∃a b xs ys,x=.ref a/\y=.ref b/\SqT K H a xs/\SqT K H b ys/\xs≠[]/\xs.length+ys.length<=dj /\
 (ys=[]->Q (.ref a) H)/\(ys≠[]->∀p,H p=none->Q (.ref p) (upd H p (.tup (xs++ys))))
theorem C2.nil_iff(r:C2 xs us):us=[]↔xs=[]:=by
 cases r with
 | nil=>simp
 | cons _ _=>simp
theorem bL1:OpR X (dv .Add) (cv0 X.K):=by
 intro pins s σ H x y v u Q I rx ry h;obtain⟨a,b,xs,ys,rfl,rfl,ha,hb,hx,hz,q1,q2⟩:=h;cases rx;cases ry;obtain⟨its,r1,p1,_⟩:=I.tuple ha;obtain⟨its2,r2,p2,_⟩:=I.tuple hb;refine HT.cat_tup p1 p2 (λz=>hx (r1.nil_iff.mp z)) (λz=>⟨.ref a,H,I,rfl,q1 (r2.nil_iff.mp z)⟩) (λz=>?_) (by rw[← r1.length,← r2.length];exact hz);refine⟨.ref s.heap.objs.size,_,I.laid (t':=s.toks) (o:=.tup (xs++ys)) (λb ob q=>dF _ q) (ai _) ?_,rfl,q2 (λw=>z (r2.nil_iff.mpr w)) _ (I.hok.fresh (ai _))⟩;exact⟨by rw[aG];exact hz,_,r1.append r2,aw2.new _ _⟩
end
end L2
namespace L2
open PySem PySem.Spec PyProof.Rows
noncomputable def ixN(n:Nat)(i:Int):Option Nat:=if 0<=i then(if i < n then some i.toNat else none) else if -(n:Int)<=i then some (i+n).toNat else none
noncomputable def atI{α:Type}(xs:List α)(i:Int):Option α:=(ixN xs.length i).bind λj=>xs[j]?
theorem bO4(h:ixN n i=some j):seqIndex? i n=some j/\j < n/\-(n:Int)<=i/\i < n:=by
 unfold ixN at h;by_cases h0:0<=i
 ·rw[if_pos h0]at h;by_cases h1:i < n
  ·rw[if_pos h1]at h;have e:i.toNat=j:=bn.inj h;exact⟨by rw[seqIndex_of h0 h1,e],by omega,by omega,h1⟩
  ·rw[if_neg h1]at h;cases h
 ·rw[if_neg h0]at h;by_cases h1:-(n:Int)<=i
  ·rw[if_pos h1]at h;have e:(i+n).toNat=j:=bn.inj h;exact⟨by rw[seqIndex_neg (by omega) h1,e],by omega,h1,by omega⟩
  ·rw[if_neg h1]at h;cases h
theorem aG7{α:Type}{xs:List α}{i:Int}{v:α}(h:atI xs i=some v):∃j,seqIndex? i xs.length=some j/\xs[j]? = some v/\j < xs.length/\-(xs.length:Int)<=i/\i < xs.length:=by
 unfold atI at h;cases e:ixN xs.length i with
 | none=>rw[e]at h;cases h
 | some j =>
  rw[e]at h;obtain⟨h1,h2,h3,h4⟩:=bO4 e;exact⟨j,h1,h,h2,h3,h4⟩
theorem bQ8{α:Type}{xs:List α}{j:Nat}{v:α}(h:xs[j]? = some v):atI xs (j:Int)=some v:=by
 have hj:j < xs.length:=(ak.mp h).1
 have e:ixN xs.length (j:Int)=some j:=by
  unfold ixN;rw[if_pos (by omega),if_pos (by omega)];simp
 unfold atI;rw[e];exact h
noncomputable def ah5(b:Expr):Prop:=∀o i,subscripted b false o i=operate [o,i] (getItem o i)
noncomputable def IxR(X:Cx)(r:R2):Prop :=
 ∀(value slice:Expr) (pins:List (dX×Obj)) (s:dW) (σ:St) (H:Hp) (x y:V) (v u:dU) (Q:VK),Inv X pins σ H s->E3 x v->E3 y u->r x y H Q ->
  subscripted slice false v u=operate [v,u] (getItem v u)->dD (dE X.prog X.w) X.A (subscriptTail value slice v u) (EP X pins σ Q) X.xe s
noncomputable def MtR(X:Cx)(id:String)(r:V->List V->Hp->VK->Prop):Prop :=
 ∀(pins:List (dX×Obj)) (s:dW) (σ:St) (H:Hp) (x:V) (xs:List V) (v:dU) (us:List dU) (Q:VK),Inv X pins σ H s->E3 x v->C2 xs us->r x xs H Q ->
  dD (dE X.prog X.w) X.A (call (.builtin id) (v::us)) (EP X pins σ Q) X.xe s
section
variable {X:Cx}{a b:Expr}{ta tb:TE}{pos:Pos}
theorem IxR.or(h:IxR X r)(h':IxR X r'):IxR X (λx y H Q=>r x y H Q\/r' x y H Q):=by
 intro value slice pins s σ H x y v u Q I rx ry q hs;rcases q with q|q
 ·exact h value slice pins s σ H x y v u Q I rx ry q hs
 ·exact h' value slice pins s σ H x y v u Q I rx ry q hs
theorem bp1(hr:IxR X r)(ha:PE X a ta)(hb:PE X b tb)(hs:ah5 b):PE X (.Subscript a b pos) (tOp r ta tb):=by
 intro pins s σ H Q I h;exact Subscript_ (co3 ha hb I h λv u s2 x y H2 I2 rx ry q=>hr a b pins s2 σ H2 x y v u Q I2 rx ry q (hs _ _))
noncomputable def cu9(K:ag):R2:=λx y H Q=>∃p xs i v,x=.ref p/\y=.int i/\SqL K H p xs/\atI xs i=some v/\Q v H
noncomputable def cu7(K:ag):R2:=λx y H Q=>∃p xs i v,x=.ref p/\y=.int i/\SqT K H p xs/\atI xs i=some v/\Q v H
noncomputable def cu8:R2:=λx y H Q=>∃z i c,x=.str z/\y=.int i/\z.length<=dj/\atI z.cps.toList i=some c/\Q (.str ⟨#[c]⟩) H
theorem bO3:IxR X (cu9 X.K):=by
 intro value slice pins s σ H x y v u Q I rx ry h hs;obtain⟨p,xs,i,z,rfl,rfl,hq,he,q⟩:=h;cases rx;obtain⟨t,rfl⟩:=ry;obtain⟨its,r,pl,hz⟩:=I.list hq;obtain⟨j,h1,h2,h3,h4,h5⟩:=aG7 he;obtain⟨w,ew,rw'⟩:=r.get h2;have hl:=r.length;have hn:=ae3;have fin:EP X pins σ Q w s:=⟨z,H,I,rw',q⟩;by_cases h0:0<=i
 ·have hj:i.toNat=j:=by
   rw[seqIndex_of h0 h5]at h1;exact bn.inj h1
  exact item_listR pl.isList h0 (by omega) (by rw[hj];simpa using ew) fin hs
 ·have hj:(i+(its.toArray.size:Int)).toNat=j:=by
   rw[seqIndex_neg (by omega) h4]at h1;rw[ao,← hl];exact bn.inj h1
  exact subscriptTail_builtinR (x:=w) pl.isList.typeIs slot_list_getitem.lookup
   (wpAny_getItem_list_neg (Q:=λr s'=>r=w/\EP X pins σ Q r s') pl.isList (by omega) (by rw[ao]<;>omega) (by omega) (by rw[hj];simpa using ew) ⟨rfl,fin⟩) hs
theorem cm4:IxR X (cu7 X.K):=by
 intro value slice pins s σ H x y v u Q I rx ry h hs;obtain⟨p,xs,i,z,rfl,rfl,hq,he,q⟩:=h;cases rx;obtain⟨t,rfl⟩:=ry;obtain⟨its,r,pl,hz⟩:=I.tuple hq;obtain⟨j,h1,h2,h3,h4,h5⟩:=aG7 he;obtain⟨w,ew,rw'⟩:=r.get h2;have hl:=r.length;have hn:=ae3;have fin:EP X pins σ Q w s:=⟨z,H,I,rw',q⟩
 exact subscriptTail_builtinR (x:=w) pl.typeIs slot_tuple_getitem.lookup
  (getItem_tuple (j:=j) (Q:=λr s'=>r=w/\EP X pins σ Q r s') pl (by omega) (by omega) (by rw[ao,← hl];exact h1) (by simpa using ew) ⟨rfl,fin⟩) hs
theorem cm5:IxR X cu8:=by
 intro value slice pins s σ H x y v u Q I rx ry h hs;obtain⟨z,i,c,rfl,rfl,hz,he,q⟩:=h;obtain⟨t,rfl⟩:=rx;obtain⟨t',rfl⟩:=ry;obtain⟨j,h1,h2,h3,h4,h5⟩:=aG7 he;have hl:z.cps.toList.length=z.length:=by simp[Str.length]
 rw[hl]at h1 h4 h5;have hn:=ae3
 exact tail_any (typeIs_str s z t) slot_str_getitem.lookup (getItem_str (c:=c) (by
  have e1:decide (i < -(2 ^ 63:Int))=false:=decide_eq_false (by omega);have e2:decide (i ≥ 2 ^ 63)=false:=decide_eq_false (by omega)
  rw[e1,e2,cW]) (by rw[h1];simpa using h2) ⟨.str ⟨#[c]⟩,H,I.tok _,⟨_,rfl⟩,q⟩) hs
noncomputable def rIx(K:ag):R2:=λx y H Q=>cu9 K x y H Q\/cu7 K x y H Q\/cu8 x y H Q
theorem aR5:IxR X (rIx X.K):=bO3.or (cm4.or cm5)
theorem aB7(lo hi:Option Int)(n:Nat):(sliceBounds lo hi none n).1=((HT.sIx n 0 lo:Nat):Int)/\(sliceBounds lo hi none n).2.1=((HT.sIx n n hi:Nat):Int)/\(sliceBounds lo hi none n).2.2=1:=by
 refine⟨?_,?_,rfl⟩
 ·cases lo with
  | none=>simp[sliceBounds,HT.sIx]
  | some i =>
   simp only[sliceBounds,HT.sIx,Option.getD_none,show(1:Int) > 0 by decide,if_true];by_cases h:i < 0
   ·simp only[h,if_true]<;>omega
   ·simp only[h,if_false]<;>omega
 ·cases hi with
  | none=>simp[sliceBounds,HT.sIx]
  | some i =>
   simp only[sliceBounds,HT.sIx,Option.getD_none,show(1:Int) > 0 by decide,if_true];by_cases h:i < 0
   ·simp only[h,if_true]<;>omega
   ·simp only[h,if_false]<;>omega
theorem au8(its:List dU)(lo hi:Option Int):slicePick its.toArray lo hi none=((its.drop (HT.sIx its.length 0 lo)).take (HT.sIx its.length its.length hi - HT.sIx its.length 0 lo)).toArray:=by
 obtain⟨h1,h2,h3⟩:=aB7 lo hi its.toArray.size;unfold slicePick;rw[h1,h2,h3];simp only[sliceRange_one,pick_run,ao]<;>rfl
noncomputable def cF1(K:ag):V->Option Int->Option Int->Hp->VK->Prop:=λx lo hi H Q=>∃a xs,x=.ref a/\SqL K H a xs/\∀p,H p=none->Q (.ref p) (upd H p (.lst (aM7 xs lo hi)))
theorem bH9:SlR X (cF1 X.K):=by
 intro pins s σ H x v vl vu lo hi sl Q I rx hs pl pu h;obtain⟨a,xs,rfl,hx,q⟩:=h;cases rx;obtain⟨its,r,ht,hz⟩:=I.list hx;have hlen:=r.length;refine⟨"list", _,slot_list_getitem.lookup,ht.isList.typeIs,?_⟩;refine wpAny_getItem_list_slice ht.isList hs pl pu .none (by simp) ?_ (by rw[ao]<;>omega);rw[au8,← hlen];refine⟨.ref s.heap.objs.size,_,I.laid (t':=s.toks) (o:=.lst (aM7 xs lo hi)) (λb ob q=>dF _ q) (ai _) ?_,rfl,q _ (I.hok.fresh (ai _))⟩;exact⟨aC (al9 xs lo hi) hz,_,0,(r.drop (HT.sIx xs.length 0 lo)).take (HT.sIx xs.length xs.length hi - HT.sIx xs.length 0 lo),dH _ rfl⟩
noncomputable def cA3:V->Bool
 | .non=>true
 | .bl _=>true
 | .int _=>true
 | .str _=>true
 | _=>false
theorem ah4:b0 X (.builtin "len") (λxs H Q=>∃p ys,xs=[.ref p]/\(SqL X.K H p ys\/SqT X.K H p ys)/\Q (.int ys.length) H):=by
 intro pins s σ H xs us Q I r h;obtain⟨p,ys,rfl,hq,q⟩:=h;obtain⟨u,rfl,rx⟩:=aa3 r;cases rx;have hn:=ae3;rcases hq with hq|hq
 ·obtain⟨its,r',pl,hz⟩:=I.list hq;have hlen:=r'.length;exact Calls.call_len_list pl.isList (by simp only[ao]<;>omega) ⟨.int ys.length,H,I.tok _,⟨s.toks+1,by rw[ao,hlen]⟩,q⟩
 ·obtain⟨its,r',pl,hz⟩:=I.tuple hq;have hlen:=r'.length;exact len_tuple pl (by simp only[ao]<;>omega) ⟨.int ys.length,H,I.tok _,⟨s.toks+1,by rw[ao,hlen]⟩,q⟩
theorem aG2:b0 X (.builtin "len") (λxs H Q=>∃z,xs=[.str z]/\z.length<=dj/\Q (.int z.length) H):=by
 intro pins s σ H xs us Q I r h;obtain⟨z,rfl,hz,q⟩:=h;obtain⟨u,rfl,t,rfl⟩:=aa3 r;have hn:=ae3;exact len_str (by omega) ⟨.int z.length,H,I.tok _,⟨_,rfl⟩,q⟩
theorem aG1:b0 X (.type "list") (λxs H Q=>∃p ys,xs=[.ref p]/\(SqL X.K H p ys\/SqT X.K H p ys)/\∀l,H l=none->Q (.ref l) (upd H l (.lst ys))):=by
 intro pins s σ H xs us Q I r h;obtain⟨p,ys,rfl,hq,q⟩:=h;obtain⟨u,rfl,rx⟩:=aa3 r;cases rx
 have fin:∀(its:List dU),C2 ys its->ys.length<=dj->∀(h':Heap) (c':Nat),(∀b o',s.heap.get? b=some o'->h'.get? b=some o') ->
   h'.get? s.heap.objs.size=some { cls:=.type "list", dict:=none,data:=.seq its.toArray c',slots:=#[] }->EP X pins σ Q (.ref s.heap.objs.size) { s with heap:=h' }:=λits r' hz h' c' kp e =>
  ⟨.ref s.heap.objs.size,_,I.laid (t':=s.toks) kp (ai _) (show P4 X.prog X.w _ h' _ (.lst ys) from⟨hz,its,c',r',e⟩),rfl,q _ (I.hok.fresh (ai _))⟩
 rcases hq with hq|hq
 ·obtain⟨its,r',pl,hz⟩:=I.list hq;have hlen:=r'.length;obtain⟨o,ho,hc,n,hd⟩:=pl.isList;exact call_list_seq p (.inl rfl) ho hc hd (λh' c' kp e=>fin its r' hz h' c' kp e) (by simp only[ao]<;>omega)
 ·obtain⟨its,r',pl,hz⟩:=I.tuple hq;have hlen:=r'.length;obtain⟨o,ho,hc,n,hd⟩:=pl;exact call_list_seq p (.inr rfl) ho hc hd (λh' c' kp e=>fin its r' hz h' c' kp e) (by simp only[ao]<;>omega)
theorem av9:b0 X (.type "tuple") (λxs H Q=>∃p ys,xs=[.ref p]/\((SqL X.K H p ys/\∀l,H l=none->Q (.ref l) (upd H l (.tup ys)))\/(SqT X.K H p ys/\Q (.ref p) H))):=by
 intro pins s σ H xs us Q I r h;obtain⟨p,ys,rfl,h⟩:=h;obtain⟨u,rfl,rx⟩:=aa3 r;cases rx;rcases h with⟨hq,q⟩|⟨hq,q⟩
 ·obtain⟨its,r',pl,hz⟩:=I.list hq;have hlen:=r'.length;refine call_tuple_list pl.isList (λh' kp=>?_) (by simp only[ao]<;>omega);have I1:Inv X pins σ H { s with heap:=h' }:=I.kept (t':=s.toks) kp
  have I2:Inv X pins σ (upd H h'.objs.size (.tup ys)) { s with heap:=h'.push { cls:=.type "tuple", data:=.seq its.toArray } } :=
   I1.laid (t':=s.toks) (λb o e=>dF _ e) (ai _) (show P4 X.prog X.w _ _ _ (.tup ys) from⟨hz,its,r',aw2.new _ _⟩)
  exact⟨.ref h'.objs.size,_,I2,rfl,q _ (I1.hok.fresh (ai _))⟩
 ·obtain⟨its,r',pl,hz⟩:=I.tuple hq;exact call_tuple_same pl ⟨.ref p,H,I,rfl,q⟩
noncomputable def tyV(K:ag)(T:String)(x:V)(H:Hp):Prop:=match x with
 | .str _=>T = "str"
 | .int _=>T = "int"
 | .ref p=>(T = "list" /\ ∃xs,SqL K H p xs)\/(T = "tuple" /\ ∃o,K.lookup p=some o/\o.cls=.type "tuple" /\ o.dict=none) \/
   (T = "dict" /\ ((∃kvs,H p=some (.dK kvs))\/∃kvs,H p=some (.dT kvs)))\/(T = "set" /\ ∃S n,H p=some (.set S n))
 | _=>False
theorem aO7(I:Inv X pins σ H s)(r:E3 x v)(ty:tyV X.K T x H):
  s.TypeIs v T/\∀a,v=.ref a->∃ob,s.heap.get? a=some ob/\ob.dict=none:=by
 cases x with
 | str z =>
  obtain⟨t,rfl⟩:=r;cases(show T = "str" from ty);exact⟨typeIs_str s z t,λ_ e=>nomatch e⟩
 | int i =>
  obtain⟨t,rfl⟩:=r;cases(show T = "int" from ty);exact⟨typeIs_int s i t,λ_ e=>nomatch e⟩
 | ref p =>
  cases r;rcases ty with⟨rfl,xs,hq⟩|⟨rfl,o,hk,hc,hd⟩|⟨rfl,hk⟩|⟨rfl,S,n,hk⟩
  ·obtain⟨its,_,pl,_⟩:=I.list hq;refine⟨pl.isList.typeIs,λa e=>?_⟩;cases e;obtain⟨o,n,e,c,hd,_⟩:=pl;exact⟨o,e,hd⟩
  ·refine⟨⟨o,I.kIn p o hk,hc⟩,λa e=>?_⟩;cases e;exact⟨o,I.kIn _ o hk,hd⟩
  ·have z:∃o,s.heap.get? p=some o/\o.ExactDict:=by
    rcases hk with⟨kvs,hk⟩|⟨kvs,hk⟩
    ·obtain⟨_,_,_,_,o,_,_,e,ex,_⟩:=I.hok p _ hk;exact⟨o,e,ex⟩
    ·obtain⟨_,_,_,_,o,_,_,e,ex,_⟩:=I.hok p _ hk;exact⟨o,e,ex⟩
   obtain⟨o,e,ex⟩:=z;refine⟨⟨o,e,ex.1⟩,λa e2=>?_⟩;cases e2;exact⟨o,e,ex.2.1⟩
  ·obtain⟨o,_,_,_,e,ex,_⟩:=I.hok p _ hk;refine⟨⟨o,e,ex.1⟩,λa e2=>?_⟩;cases e2;exact⟨o,e,ex.2.1⟩
 | _=>exact False.elim ty
noncomputable def cE2(K:ag)(T:String)(r:V->List V->Hp->VK->Prop)(to:TE):TE:=λσ H Q=>to σ H λx H1=>tyV K T x H1/\r x [] H1 Q
noncomputable def tBM(K:ag)(T:String)(r:V->List V->Hp->VK->Prop)(to:TE)(t:TA):TE:=λσ H Q=>to σ H λx H1=>tyV K T x H1/\t σ H1 λxs H2=>r x xs H2 Q
variable {o e:Expr}{es:List Expr}{to:TE}{t:TA}{name:Str}{apos cpos:Pos}{T id:String}{r:V->List V->Hp->VK->Prop}
theorem cd3(pa:PlainAttrs T)(slot:Slot T name id)(hty:typeOf (.builtin id)=pure (.type "method_descriptor"))(hm:MtR X id r)(ho:PE X o to)
  (hbase:dB o name X.env (eval o X.env)=eval o X.env:=by rfl) (hline:(apos.endLine==cpos.line)=true:=by rfl):PE X (.Call (.Attribute o name apos) [] [] cpos) (cE2 X.K T r to):=by
 intro pins s σ H Q I h;refine wpAny_Call_method0_late hbase hline (thn (ho pins s σ H _ I h) λv s1 ⟨x,H1,I1,r1,ty,q1⟩=>?_);obtain⟨h1,h2⟩:=aO7 I1 r1 ty;exact⟨T,id,pa,slot,hty,h1,h2,Calls.callWith_builtin rfl (PySem.evalArgs_none (hm pins s1 σ H1 x [] v [] Q I1 r1 .nil q1))⟩
theorem ax6(pa:PlainAttrs T)(slot:Slot T name id)(hty:typeOf (.builtin id)=pure (.type "method_descriptor"))(hm:MtR X id r)(ho:PE X o to)(ha:PA X (e::es) t)
  (hbase:dB o name X.env (eval o X.env)=eval o X.env:=by rfl)
  (hfew:((backTo cpos (di (e::es) X.env)).all (λx=>!x.1)&&(backToKw cpos (keywordEach [] X.env)).all (λx=>x.1.isSome)
   && decide ((e::es).length+([]:List dw).length+(if([]:List dw).isEmpty then 0 else 1) < 30))=true:=by rfl)
  (hline:(apos.endLine==cpos.line)=true:=by rfl) (hs:di (e::es) X.env=(false,eval e X.env)::di es X.env:=by rfl) (hplain:(backTo cpos (di es X.env)).any (·.1)=false:=by rfl) :
  PE X (.Call (.Attribute o name apos) (e::es) [] cpos) (tBM X.K T r to t):=by
 intro pins s σ H Q I h;refine wpAny_Call_method_late hbase hfew hline rfl (thn (ho pins s σ H _ I h) λv s1 ⟨x,H1,I1,r1,ty,q1⟩=>?_);obtain⟨h1,h2⟩:=aO7 I1 r1 ty;refine⟨T,id,pa,slot,hty,h1,h2,?_⟩;have hA:=ha cpos pins s1 σ H1 _ I1 q1;rw[hs]at hA ⊢;refine Calls.callWith_builtin (by show(false || (backTo cpos (di es X.env)).any (·.1))=false;rw[hplain]<;>rfl) (Calls.evalArgs_plain ?_);exact thn hA λus s2 ⟨vs,H2,I2,r2,q2⟩=>hm pins s2 σ H2 x vs v us Q I2 r1 r2 q2
end
end L2
namespace L2
open PySem PySem.Spec PyProof.Rows
noncomputable def MtM(X:Cx)(id:String)(r:V->List V->Hp->VK->Prop):Prop :=
 ∀(pins:List (dX×Obj)) (s:dW) (σ:St) (H:Hp) (x:V) (xs:List V) (v:dU) (us:List dU) (Q:VK),Inv X pins σ H s->E3 x v->C2 xs us->r x xs H Q ->
  dD (dE X.prog X.w) X.A (call (.builtin id) (v::us)) (EP X pins σ Q) X.xe s
theorem C2.one:∀{x:V}{us:List dU},C2 [x] us->∃u,us=[u]/\E3 x u
 | _,_,.cons r .nil=>⟨_,rfl,r⟩
theorem C2.zero:∀{us:List dU},C2 [] us->us=[]
 | _,.nil=>rfl
theorem C2.dropLast(h:C2 xs us):C2 xs.dropLast us.dropLast:=by
 induction h with
 | nil=>exact .nil
 | cons r t ih =>
  cases t with
  | nil=>exact .nil
  | cons q t'=>exact .cons r ih
theorem C2.rep(h:C2 xs us):∀k:Nat,C2 (aq k xs).flatten (aq k us).flatten
 | 0=>.nil
 | k+1=>by
  rw[bv,bv,bN,bN];exact C2.append h (C2.rep h k)
theorem aS1{α:Type}(l:List α):l.eraseIdx (l.length - 1)=l.dropLast:=by
 induction l with
 | nil=>rfl
 | cons a r ih =>
  cases r with
  | nil=>rfl
  | cons b r =>
   have e:(a::b::r).length - 1=((b::r).length - 1)+1:=by
    have h1:(a::b::r).length=r.length+2:=rfl;have h2:(b::r).length=r.length+1:=rfl;omega
   rw[e,List.eraseIdx_cons_succ,ih]
   all_goals rfl
theorem ay8(its:List dU):∀(k:Nat) (acc:List dU),
  cz (λx1 x2=>x1++x2) acc.toArray (aq k its.toArray)=(acc++(aq k its).flatten).toArray
 | 0,acc=>by simp
 | k+1,acc=>by
  have e:acc.toArray++its.toArray=(acc++its).toArray:=by simp
  have e2:(acc++its)++(aq k its).flatten=acc++(aq (k+1) its).flatten:=by
   rw[bv,bN,aJ]
  rw[← e2,← ay8 its k (acc++its),← e,bv,cr]
section
variable {X:Cx}{pins:List (Addr×Obj)}{σ:St}{H:Hp}{s:Shared}{l b:Addr}{xs ys zs:List V}
theorem Inv.lset{its its':List dU}{n:Nat}{f:Array dU->Array dU}{t':Nat}(I:Inv X pins σ H s)(hH:H l=some (.lst xs))
  (e:s.heap.get? l=some { cls:=.type "list", data:=.seq its.toArray n }) (hf:f its.toArray=its'.toArray) (hv:C2 ys its') (hz:ys.length<=dj) :
  Inv X pins σ (upd H l (.lst ys)) { s with heap:=s.heap.update l (Obj.mapSeq f),toks:=t' }:=by
 have q:=PySem.IsL.update e f;rw[hf]at q;refine I.write (x:=l) (e:=l) (by rw[hH];exact trivial) (.inl rfl) (λb' u hb hu=>(Heap.get?_update_other s.heap (Obj.mapSeq f) (Ne.symm hb)).trans hu) ⟨_,q⟩ ?_;exact⟨hz,its',_,hv,q⟩
theorem Inv.lnew(I:Inv X pins σ H s)(hv:C2 ys its)(hz:ys.length<=dj):
  Inv X pins σ (upd H s.heap.objs.size (.lst ys)) { s with heap:=s.heap.push { cls:=.type "list", data:=.seq its.toArray },toks:=t' } :=
 I.laid (λ_ _ q=>dF _ q) (ai _) ⟨hz,its,0,hv,dH _ rfl⟩
theorem Inv.fresh(I:Inv X pins σ H s):H s.heap.objs.size=none:=I.hok.fresh (ai _)
theorem Inv.lstM(I:Inv X pins σ H s)(hH:H l=some (.lst xs)):xs.length<=dj/\∃(its:List dU) (n:Nat),C2 xs its/\xs.length=its.length/\s.heap.get? l=some { cls:=.type "list", data:=.seq its.toArray n }:=by
 obtain⟨z,its,n,r,e⟩:=I.hok l _ hH;exact⟨z,its,n,r,r.length,e⟩
theorem br5(h:n<=dj):Builtin.List.listTooLong n=false:=by
 unfold Builtin.List.listTooLong;exact decide_eq_false (by omega)
end
section
variable {X:Cx}
noncomputable def bI8:V->List V->Hp->VK->Prop:=λx vs H Q=>∃l xs y,x=.ref l/\vs=[y]/\H l=some (.lst xs)/\xs.length < dj/\Q .non (upd H l (.lst (xs++[y])))
theorem ai7:MtM X "list.append" bI8:=by
 intro pins s σ H x vs v us Q I rx rv h;obtain⟨l,xs,y,rfl,rfl,hH,hz,q⟩:=h;cases rx;obtain⟨u,rfl,ru⟩:=rv.one;obtain⟨z,its,n,r,hl,e⟩:=I.lstM hH;refine dA F.slot_list_append ⟨_,e,rfl⟩ F.entry_list_append (F.args_list_append_2 _ _) (PySem.list_append l its.toArray n u (by rw[ao];omega)) ⟨e,?_⟩;refine⟨.non,_,I.lset (its':=its++[u]) hH e (by simp) (r.append (.cons ru .nil)) ?_,rfl,q⟩;rw[aG,bW];omega
noncomputable def cF2:V->List V->Hp->VK->Prop:=λx vs H Q=>∃l xs y,x=.ref l/\vs=[]/\H l=some (.lst xs)/\xs[xs.length - 1]? = some y/\Q y (upd H l (.lst xs.dropLast))
theorem cg9:MtM X "list.pop" cF2:=by
 intro pins s σ H x vs v us Q I rx rv h;obtain⟨l,xs,y,rfl,rfl,hH,hy,q⟩:=h;cases rx;have hus:=rv.zero;subst hus;obtain⟨z,its,n,r,hl,e⟩:=I.lstM hH;obtain⟨u,hu,ru⟩:=r.get hy
 have hy':its.toArray[its.toArray.size - 1]? = some u:=by
  show its.toArray[its.length - 1]? = some u;rw[← bA,← hl];exact hu
 refine dA F.slot_list_pop ⟨_,e,rfl⟩ F.entry_list_pop (F.args_list_pop_1 _) (MeetsSeq.list_pop_last l its.toArray n u hy' (by rw[ao];omega)) ⟨e,?_⟩;refine⟨y,_,I.lset (its':=its.dropLast) hH e ?_ r.dropLast ?_,ru,q⟩
 ·show its.toArray.eraseIdxIfInBounds (its.toArray.size - 1)=its.dropLast.toArray;rw[ao,List.eraseIdxIfInBounds_toArray,aS1]
 ·rw[List.length_dropLast];omega
theorem aD6{α:Type}(xs:List α)(k:Nat):(aq k xs).flatten.length=k*xs.length:=by
 induction k with
 | zero=>simp
 | succ k ih=>rw[bv,bN,aG,ih,Nat.succ_mul,Nat.add_comm]
end
end L2
namespace Att
open PySem PySem.W PySem.Calls PyProof.Rows
theorem am5:∀(ns:List Int) (vs:List dU),WellAll P h vs (ns.map WData.int)->IntsAre vs ns:=by
 intro ns
 induction ns with
 | nil =>
  intro vs w;rw[List.map_nil]at w;cases w;exact .nil
 | cons n ns ih =>
  intro vs w;rw[bh]at w;cases w with
  | cons a b =>
   cases a;exact .cons _ _ (ih _ b)
theorem bc8{l:OpenLaw}{n:Nat}(hn:l.most=some n){P:Params}{h:Heap}{args:List WData}{vals:List dU}
  (hpre:l.row.toRowW.claim.pre args=true) (hwl:WellAll P h vals args) :
  ∃a vs ns,vals=[dO a]/\args=[WData.list (ns.map WData.int)]/\h.get? a=some { cls:=.type "list", data:=.seq vs.toArray }/\IntsAre vs ns/\ns.length<=n:=by
 have hsh:WShape.hasAll [] args [.list .int]=true:=(pre_splitW hpre).1;have hc:l.pre.holds [] { args:=args }=true:=(pre_splitW hpre).2;obtain⟨d,r,rfl,h1,h2⟩:=hasAllW_cons hsh;obtain rfl:=hasAllW_nil h2;obtain⟨xs,rfl,h3⟩:=hasW_list h1;obtain⟨ns,rfl⟩:=items_int h3
 have hlen:ns.length<=n:=by
  unfold OpenLaw.pre at hc
  have h4:(WTm.not (.lt (.lit (.int (n:Int))) (.len (.arg 0)))).holds [] { args:=[.list (ns.map .int)] }=true:=by
   have h4:=(holds_andW hc).1;rw[hn]at h4;exact h4
  have h5:=condW_of h4 (w_not (w_lt w_lit (w_len_list (w_arg rfl))));rw[ay]at h5;refine Nat.le_of_not_lt λq=>?_
  have q':(n:Int) < ((ns.length:Nat):Int):=by omega
  first
   | (rw[decide_eq_true q']at h5;exact absurd h5 (by decide))
   | (simp at h5;omega)
 cases hwl with
 | cons w1 w2 =>
  cases w2;cases w1 with
  | list ho hall=>exact⟨_,_,ns,rfl,rfl,ho,am5 ns _ hall,hlen⟩
theorem bd0(l:OpenLaw)(args:List WData):l.row.toRowW.claim.post args (.bool true) args=true :=
 postW_of (r:=l.row.toRowW) (X:=(true==true))
  (show WShape.has [] (.bool true) .bool=true by first|rfl|decide|simp[WShape.has,WShape.arms,WShape.armsAll])
  (show(WTm.eq .res (.lit (.bool true))).value [] { args:=args,res:=some (.bool true),after:=args }=some (.bool (true==true)) from w_eq_bool (w_res rfl) w_lit) rfl
theorem attach_call{l:OpenLaw}{n:Nat}{q:dq}{loose:List Str}{XP:(Str->Option dU)->Heap->Prop}{YP:World->Heap->Prop}{d:DefRec}
  (hn:l.most=some n) (hdf:d.params.defaults=[])
  (call:∀(w:World) (s₀ s₁:dW) (mg mb:Str->Option dU) (fa:dX) (o:Obj) (pm cd doc:dU) (a:dX) (vs:List dU) (ns:List Int),
   Ground q loose [] XP w s₀ mg mb s₁.heap->YP w s₁.heap ->
   s₁.heap.get? fa=some o->o.data=.func (docDef d.name d.params d.body d.scope pm cd doc)->s₁.heap.CodeRec cd d.name->mg d.name=some (.ref fa) ->
   s₁.heap.get? a=some { cls:=.type "list", data:=.seq vs.toArray }->IntsAre vs ns->ns.length<=n->s₁.gens = #[] ->
   codeAny (dE l.prog w) callerA (.call (.ref fa) ⟨[.ref a],[]⟩) (λr s'=>r=.ok (.ret (.bool true))/\OldK s₁.heap s'.heap/\s'.os=s₁.os/\AllBare s'.gens) s₁) :
  WalkO q loose XP YP l.row.toRowW d [] (λf vs=>PySem.call f vs):=by
 intro w s₀ s₁ mg mb G Y fa o pm cd doc dV kV ho hd hcd hD hmg hg args vals as hpre hlay hrd hwl hlo;obtain rfl:dV=.none:=Dflts.none hD hdf;obtain rfl:kV=.none:=Dflts.noKw hD;obtain⟨a,vs,ns,rfl,rfl,hobj,hints,hlen⟩:=bc8 hn hpre hwl;refine enter_call (codeAny_mono (call w s₀ s₁ mg mb fa o pm cd doc a vs ns G Y ho (fd_plain hd) hcd hmg hobj hints hlen hg) λr s' hq=>?_);obtain⟨rfl,h2,h3,h4⟩:=hq;exact⟨.inl ⟨.bool true,.bool true,[],rfl,λ_=>rfl,.bool true,bd0 l _,λ_=>⟨List.Pairwise.nil,λ_ hm=>(nomatch hm)⟩⟩,h2,h3,h4⟩
end Att
namespace L2
open PySem PySem.Spec PyProof.Rows
theorem aw5:∀{vs:List dU}{ns:List Int},IntsAre vs ns->C2 (ns.map V.int) vs
 | _,_,.nil=>.nil
 | _,_,.cons n t h=>.cons ⟨t,rfl⟩ (aw5 h)
noncomputable def co9(H:Hp):Prop:=∀b,H b=none\/∃o xs,H b=some (.frz o (.lst xs))
theorem bu0{P:dq}{w:World}{K:ag}{mg mb:Str->Option dU}{CX:CXT}{k:Nat}{fa a:dX}{fd:dt}{x:Str}{sp:Sp}{s₁:dW}{vs:List dU}{ns:List Int}
  (KX:K.In s₁.heap) (hns:s₁.heap.Ns dn mg) (hb:s₁.heap.Ns builtinsNs mb) (hbb:∀x:Str,x ≠ "__name__" -> mb x=du x) (hlim:s₁.heap.NoLimit) (hg:s₁.gens = #[])
  (ha:s₁.heap.get? a=some { cls:=.type "list", data:=.seq vs.toArray }) (hi:IntsAre vs ns) (hl:ns.length<=dj) (hr:Room k callerA)
  (F:∀base:Heap,K.In base->base.Ns dn mg->FnOk P w K mg base CX k fa fd [x] sp) (hbind:∀(s:dW) (u:dU),BindsTo s fd ⟨[u],[]⟩ [(x,u)])
  (hsp:∀H:Hp,co9 H->SqL K H a (ns.map V.int)->sp [.ref a] H (λv _=>v=.bl true) λ_ _ _=>False)
  (hCX:∀H e s',CX [] H s₁ (λ_ _ _=>False) e s'->False) :
  codeAny (dE P w) callerA (.call (.ref fa) ⟨[.ref a],[]⟩) (λr s'=>r=.ok (.ret (.bool true))/\OldK s₁.heap s'.heap/\s'.os=s₁.os/\AllBare s'.gens) s₁:=by
 have rv:=aw5 hi;have lenV:=hi.length
 have core:∀H:Hp,co9 H->SqL K H a (ns.map V.int)->HOk P w H s₁.heap->(∀b,H b≠none->b=a)->(H a≠none->K.lookup a=none) ->
   codeAny (dE P w) callerA (.call (.ref fa) ⟨[.ref a],[]⟩) (λr s'=>r=.ok (.ret (.bool true))/\OldK s₁.heap s'.heap/\s'.os=s₁.os/\AllBare s'.gens) s₁:=by
  intro H hO hS hok hA hK;have base_of:∀{b:dX}{o:Obj},s₁.heap.get? b=some o->H b=none->(aE3 s₁.heap H).get? b=some o:=λe n=>by0 e n
  have noA:∀{b:dX}{o:Obj}{es:Array DictEntry}{ep:Nat},s₁.heap.get? b=some o->o.data=.dict es ep->H b=none:=λ{b o es ep} e d=>by
   cases q:H b with
   | none=>rfl
   | some u =>
    have e':b=a:=hA b (by rw[q];simp);subst e';rw[ha]at e;cases e;have d':Data.seq vs.toArray _=Data.dict es ep:=d;cases d'
  have nsK:∀{b:dX}{m:Str->Option dU},s₁.heap.Ns b m->(aE3 s₁.heap H).Ns b m:=λ{b m} ⟨o,es,ep,e,d,r⟩=>⟨o,es,ep,base_of e (noA e d),d,r⟩
  have hKb:K.In (aE3 s₁.heap H):=λb o e=>base_of (KX b o e) (by
   cases q:H b with
   | none=>rfl
   | some u =>
    have e':b=a:=hA b (by rw[q];simp);subst e'
    rw[hK (by rw[q];simp)]at e;cases e)
  have hM:Mod K mg (aE3 s₁.heap H):=⟨hKb,nsK hns,⟨mb,nsK hb,hbb⟩,let⟨mc,h1,h2⟩:=hlim;⟨mc,nsK h1,h2⟩⟩;have e0:Env0 P w K mg (aE3 s₁.heap H) callerA [] s₁ H:=⟨rfl,hM,λb o e=>bL6 e,Nat.le_of_eq (bf8 _ _),trivial,λb hb=>absurd (show b∈([]:List dX) from hb) (by simp),hok,.of_eq hg⟩;refine codeAny_mono ((F _ hKb (nsK hns)).run callerA [] s₁ H ⟨[.ref a],[]⟩ [.ref a] [.ref a] _ _ hr e0 (hbind s₁ (.ref a)) (.cons rfl .nil) (hsp H hO hS)) λr s' h=>?_
  cases r with
  | error e=>exact(hCX H e s' h).elim
  | ok fl =>
   cases fl with
   | next=>exact False.elim h
   | brk=>exact False.elim h
   | cont=>exact False.elim h
   | ret u =>
    obtain⟨v,H',os,bare,un,hok',r',q⟩:=h;have q':v=.bl true:=q;subst q';obtain rfl:u=Value.bool true:=r';refine⟨rfl,OldK.of_keep λb o e=>?_,os,bare⟩;cases q:H b with
    | none=>exact un.keep b o e q (by intro z;exact absurd (show b∈([]:List dX) from z) (by simp)) (by simp)
    | some u =>
     rcases hO b with z|⟨ob,xs,z⟩
     ·rw[q]at z;cases z
     ·have z2:=un.frzs b ob _ z;obtain⟨e1,_⟩:=hok b _ z;obtain⟨e2,_⟩:=hok' b _ z2;rw[e]at e1;cases e1;exact e2
 cases hk:K.lookup a with
 | some o =>
  have e:=KX a o hk;rw[ha]at e;cases e;refine core (λ_=>none) (λ_=>.inl rfl) (.inr ⟨_,vs.toArray,_,hk,rfl,rfl,rfl,by rw[ao,lenV];exact hl,by simpa using rv⟩) (λb u z=>by have z':(none:Option HO)=some u:=z;cases z') (λb z=>absurd rfl z) λz=>absurd rfl z
 | none =>
  refine core (λb=>if b=a then some (.frz { cls:=.type "list", data:=.seq vs.toArray } (.lst (ns.map V.int))) else none) (λb=>?_) (.inl (.inr ⟨{ cls:=.type "list", data:=.seq vs.toArray },if_pos rfl⟩)) (λb u z=>?_) (λb z=>?_) λ_=>hk
  ·by_cases hb:b=a
   ·exact .inr ⟨_,_,if_pos hb⟩
   ·exact .inl (if_neg hb)
  ·by_cases hb:b=a
   ·have z':=(if_pos hb).symm.trans z;cases z';subst hb;exact⟨ha,by rw[ay];exact hl,vs,_,rv,ha⟩
   ·have z':=(if_neg hb).symm.trans z;cases z'
  ·by_cases hb:b=a
   ·exact hb
   ·exact absurd (if_neg hb) z
end L2
namespace L2
open PySem PySem.Spec PyProof.Rows
theorem bD5{l:PySem.W.OpenLaw}{n k:Nat}{q:dq}{loose:List Str}{XP:(Str->Option dU)->Heap->Prop}{YP:World->Heap->Prop}{d:DefRec}{K:Params->ag}{CX:World->CXT}{sp:World->Sp}{x:Str}
  (hn:l.most=some n) (hn2:n<=dj) (hdf:d.params.defaults=[]) (hr:Room k callerA)
  (hY:∀(w:World) (h:Heap),YP w h->(K w.params).In h)
  (F:∀(w:World) (mg:Str->Option dU) (fa:dX) (h:Heap),(K w.params).In h->h.Ns dn mg->mg d.name=some (.ref fa) ->
   ∃fd:dt,(∀(s:dW) (u:dU),BindsTo s fd ⟨[u],[]⟩ [(x,u)]) /\
    ∀base:Heap,(K w.params).In base->base.Ns dn mg->FnOk l.prog w (K w.params) mg base (CX w) k fa fd [x] (sp w))
  (hsp:∀(w:World) (H:Hp) (a:dX) (ns:List Int),ns.length<=n->co9 H->SqL (K w.params) H a (ns.map V.int)->sp w [.ref a] H (λv _=>v=.bl true) λ_ _ _=>False)
  (hCX:∀(w:World) (H:Hp) (s:dW) (e:dU) (s':dW),CX w [] H s (λ_ _ _=>False) e s'->False) :
  PySem.W.WalkO q loose XP YP l.row.toRowW d [] (λf vs=>PySem.call f vs):=by
 refine Att.attach_call hn hdf λw s₀ s₁ mg mb fa o pm cd doc a vs ns G Y ho hd hcd hmg hobj hints hlen hg=>?_
 have KX:=hY w _ Y;obtain⟨fd,hb,hF⟩:=F w mg fa _ KX G.T.g hmg;exact bu0 KX G.T.g G.T.b G.T.builtins G.T.nolimit hg hobj hints (aC hlen hn2) hr hF hb (λH hO hS=>hsp w H a ns hlen hO hS) λH e s'=>hCX w H s₁ e s'
end L2
namespace L2
open PySem PySem.Spec PyProof.Rows
noncomputable def T8(s:Stmt):Arguments:=match s with
 | .FunctionDef _ a _ _ _ _ _ _ _ _=>a
 | _=>{ posonlyargs:=[],args:=[],vararg:=none,kwonlyargs:=[],kw_defaults:=[],kwarg:=none,defaults:=[] }
noncomputable def C4(s:Stmt):List Stmt:=match s with
 | .FunctionDef _ _ b _ _ _ _ _ _ _=>b
 | _=>[]
noncomputable def A9(s:Stmt):Scope:=match s with
 | .FunctionDef _ _ _ _ _ _ sc _ _ _=>sc
 | _=>{ kind:=.function,names:=[],isGenerator:=false,isCoroutine:=false }
noncomputable abbrev CX0:CXT:=λ_ _ _ _ _ _=>False
noncomputable abbrev E0:XK:=λ_ _ _=>False
theorem x9:u5 CX0 X E0:=λ_ _ _ _ _ _ _ h=>h.elim
structure Fun (K:ag) (x qual:Str) (st:Stmt) (f:dX) (fd:dt):Prop where
 ex:∃(oc:dU) (od:Option dX) (kV doc pm:dU) (an:Option dX) (cdv ct:dU) (osl:Array (Option dU)),
  fd=bj x qual (T8 st) (C4 st) (A9 st) .none kV doc pm an cdv ct/\K.lookup f=some ⟨oc,od,.func fd,osl⟩/\bR K cdv qual=true
 kp:aF K (.ref f)=true
section
variable {P:Program}{w:World}{K:PySem.W.Frag}{mg:Str->Option Value}{base:Heap}
theorem Fun.ok{x qual:Str}{st:Stmt}{f:dX}{fd:dt}{N ps:List Str}{k:Nat}{sp:Sp}(F:Fun K x qual st f fd)(S:FnScope N ps (A9 st))(len:∀vs H Q E,sp vs H Q E->vs.length=ps.length)
  (hbody:∀(cdv:dU) (A:dr) (outer:List Env) (s:dW) (H:Hp) (vs:List V) (Q:VK) (E:XK),Room k (A.deeper (envOfC qual (A9 st) s.heap.objs.size f cdv))->sp vs H Q E ->
   ∃t,PSs (ah2 CX0 P w K mg base N qual (A9 st) f cdv A outer s H E).nox (C4 st) t/\t { nx:=λ_ H'=>Q .non H',rt:=Q } (start N vs) H):FnOk P w K mg base CX0 (k+1) f fd ps sp:=by
 obtain⟨oc,od,kV,doc,pm,an,cdv,ct,osl,rfl,lk,hcd⟩:=F.ex;refine as6 lk hcd S len λA outer s H vs Q E hr hsp=>?_
 obtain⟨t,h,q⟩:=hbody cdv A outer s H vs Q E hr hsp;exact⟨t,h.nox,q⟩
theorem as5{x qual:Str}{st:Stmt}{f:dX}{oc:dU}{od an:Option dX}{osl:Array (Option dU)}{kV doc pm cdv ct:dU}(l:K.lookup f=some ⟨oc,od,.func (bj x qual (T8 st) (C4 st) (A9 st) .none kV doc pm an cdv ct),osl⟩)
  (c:bR K cdv qual=true) (k:aF K (.ref f)=true):Fun K x qual st f (bj x qual (T8 st) (C4 st) (A9 st) .none kV doc pm an cdv ct):=⟨⟨oc,od,kV,doc,pm,an,cdv,ct,osl,rfl,l,c⟩,k⟩
end
theorem U7(h:n<=1000):n < dj:=bT h (by decide)
section
variable {X:Cx}
theorem pv(i:Nat)(hN:X.N[i]? = some x:=by rfl)(hv:Vis X.env.scope x:=by first|exact Or.inl rfl|exact Or.inr (Or.inl rfl)|exact Or.inr (Or.inr rfl))(hd:(x==("__debug__" : Str))=false:=by decide)
  (hcd:(x==("__classdict__" : Str))=false:=by decide):PE X (.Name x pos) (cs8 i):=U8 hN hv hd hcd
end
theorem aj1{A B:Prop}(h:B):if false=true then A else B:=by
 rw[if_neg ba];exact h
theorem ae6{A B:Prop}(h:A):if true=true then A else B:=by
 rw[if_pos rfl];exact h
noncomputable def B0(H H':Hp):Prop:=∀b o,H b=some o->H' b=some o
theorem B0.refl(H:Hp):B0 H H:=λ_ _ h=>h
theorem B0.trans(a:B0 H H1)(b:B0 H1 H2):B0 H H2:=λc o h=>b c o (a c o h)
theorem B0.free(e:B0 H H')(h:H' l=Option.none):H l=Option.none:=by
 cases q:H l with
 | none=>rfl
 | some o =>
  rw[e l o q]at h;cases h
end L2
set_option maxHeartbeats 4000000
namespace G
theorem xbm{α β:Type}{o:Option α}{f:α->Option β}{b:β}(h:o.bind f=some b):∃a,o=some a/\f a=some b:=ae.mp h
open PySem PySem.Spec PyProof.Rows L2
noncomputable abbrev D:=PyData
mutual
noncomputable def Rep(K:ag) (H:Hp):D->V->Prop
 | .none,v=>v=.non
 | .bool b,v=>v=.bl b
 | .int i,v=>v=.int i
 | .str x,v=>v=.str x
 | .tuple ds,v=>∃a vs,v=.ref a/\SqT K H a vs/\Reps K H ds vs
 | .list ds,v=>∃a vs,v=.ref a/\SqL K H a vs/\Reps K H ds vs
 | .dict kvs,v=>∃a m,v=.ref a/\H a=some (.dK m)/\RepKs K H kvs m
noncomputable def Reps(K:ag) (H:Hp):List D->List V->Prop
 | [],vs=>vs=[]
 | d::ds,vs=>∃v r,vs=v::r/\Rep K H d v/\Reps K H ds r
/-- a dict by texts -/
noncomputable def RepKs(K:ag) (H:Hp):List (D×D)->List (Key×V)->Prop
 | [],m=>m=[]
 | (k,d)::r,m=>∃x v t,k=.str x/\m=(.inr x,v)::t/\Rep K H d v/\RepKs K H r t
end
section
variable {K:PySem.W.Frag}{H H' H0 H1 H2 Hf Hf' Hf1 Hf2:Hp}
theorem aW4(e:B0 H H')(h:Rd H a u):Rd H' a u:=by
 rcases h with h|⟨o,h⟩
 ·exact .inl (e _ _ h)
 ·exact .inr ⟨o,e _ _ h⟩
theorem B8(e:B0 H H')(h:SqT K H a xs):SqT K H' a xs:=h.imp (aW4 e) id
theorem D9(e:B0 H H')(h:SqL K H a xs):SqL K H' a xs:=h.imp (aW4 e) id
mutual
theorem Rep.mono(e:B0 H H'):∀{d:D}{v:V},Rep K H d v->Rep K H' d v
 | .none,_,h=>h
 | .bool _,_,h=>h
 | .int _,_,h=>h
 | .str _,_,h=>h
 | .tuple _,_,⟨a,vs,h1,h2,h3⟩=>⟨a,vs,h1,B8 e h2,Reps.mono e h3⟩
 | .list _,_,⟨a,vs,h1,h2,h3⟩=>⟨a,vs,h1,D9 e h2,Reps.mono e h3⟩
 | .dict _,_,⟨a,m,h1,h2,h3⟩=>⟨a,m,h1,e _ _ h2,RepKs.mono e h3⟩
theorem Reps.mono(e:B0 H H'):∀{ds:List D}{vs:List V},Reps K H ds vs->Reps K H' ds vs
 | [],_,h=>h
 | _::_,_,⟨v,r,h1,h2,h3⟩=>⟨v,r,h1,Rep.mono e h2,Reps.mono e h3⟩
theorem RepKs.mono(e:B0 H H'):∀{ds:List (D×D)}{vs:List (Key×V)},RepKs K H ds vs->RepKs K H' ds vs
 | [],_,h=>h
 | (_,_)::_,_,⟨x,v,t,h1,h2,h3,h4⟩=>⟨x,v,t,h1,h2,Rep.mono e h3,RepKs.mono e h4⟩
end
theorem Reps.length:∀{ds:List D}{vs:List V},Reps K H ds vs->vs.length=ds.length
 | [],_,h=>by cases h;rfl
 | _::_,_,⟨v,r,h1,h2,h3⟩=>by subst h1;simp[Reps.length h3]
theorem Reps.get:∀{ds:List D}{vs:List V}{i:Nat}{d:D},Reps K H ds vs->ds[i]? = some d->∃v,vs[i]? = some v/\Rep K H d v
 | [],_,_,_,_,e=>by simp at e
 | x::_,_,0,_,⟨v,r,h1,h2,h3⟩,e=>by subst h1;simp at e;subst e;exact⟨v,rfl,h2⟩
 | x::_,_,i+1,_,⟨v,r,h1,h2,h3⟩,e=>by
  subst h1;obtain⟨u,q1,q2⟩:=Reps.get (i:=i) h3 (by simpa using e);exact⟨u,by simpa using q1,q2⟩
theorem Reps.append:∀{ds es:List D}{vs us:List V},Reps K H ds vs->Reps K H es us->Reps K H (ds++es) (vs++us)
 | [],_,_,_,h,q=>by cases h;exact q
 | _::_,_,_,_,⟨v,r,h1,h2,h3⟩,q=>by subst h1;exact⟨v,r++_,rfl,h2,Reps.append h3 q⟩
theorem Reps.take:∀{ds:List D}{vs:List V}(n:Nat),Reps K H ds vs->Reps K H (ds.take n) (vs.take n)
 | [],_,n,h=>by cases h;simp[Reps]
 | _::_,_,0,h=>by simp[Reps]
 | _::_,_,n+1,⟨v,r,h1,h2,h3⟩=>by subst h1;exact⟨v,r.take n,rfl,h2,Reps.take n h3⟩
theorem Reps.drop:∀{ds:List D}{vs:List V}(n:Nat),Reps K H ds vs->Reps K H (ds.drop n) (vs.drop n)
 | [],_,n,h=>by cases h;simp[Reps]
 | _::_,_,0,h=>h
 | _::_,_,n+1,⟨v,r,h1,h2,h3⟩=>by subst h1;exact Reps.drop n h3
theorem Reps.ints:∀(ns:List Int),Reps K H (ns.map dJ) (ns.map V.int)
 | []=>rfl
 | n::r=>⟨.int n,r.map V.int,rfl,rfl,Reps.ints r⟩
theorem Reps.flatten(h:Reps K H ds vs):∀k:Nat,Reps K H (aq k ds).flatten (aq k vs).flatten
 | 0=>rfl
 | k+1=>by simp only[bv,bN];exact h.append (Reps.flatten h k)
structure Grow (H Hf H' Hf':Hp):Prop where
 big:B0 H H'
 sub:B0 Hf' H'
 ext:B0 Hf Hf'
 new:∀b,Hf' b≠none->Hf b≠none\/H b=none
theorem Grow.refl(h:B0 Hf H):Grow H Hf H Hf:=⟨B0.refl _,h,B0.refl _,λ_ h=>.inl h⟩
theorem Grow.trans(a:Grow H Hf H1 Hf1)(b:Grow H1 Hf1 H2 Hf2):Grow H Hf H2 Hf2 :=
 ⟨a.big.trans b.big,b.sub,a.ext.trans b.ext,λx h=>(b.new x h).elim (a.new x) λz=>.inr (a.big.free z)⟩
theorem C7(h:H p=none):B0 H (upd H p o):=λb u e=>by rw[B3 (C6 e h)];exact e
theorem Grow.laid(s:B0 Hf H)(h:H p=none):Grow H Hf (upd H p o) (upd Hf p o):=by
 refine⟨C7 h,λb u e=>?_,C7 (s.free h),λb e=>?_⟩
 ·by_cases q:b=p
  ·subst q;rw[A6]at e;rw[A6];exact e
  ·rw[B3 q]at e;rw[B3 q];exact s b u e
 ·by_cases q:b=p
  ·subst q;exact .inr h
  ·rw[B3 q]at e;exact .inl e
theorem Grow.made(s:B0 Hf H)(h:H p=none):Grow H Hf (upd H p o) Hf :=
 ⟨C7 h,s.trans (C7 h),B0.refl _,λ_ e=>.inl e⟩
theorem Grow.freeze(g:Grow H Hf H1 Hf1)(h:H1 p=some o)(n:Hf1 p=none)(f:H p=none):Grow H Hf H1 (upd Hf1 p o):=by
 refine⟨g.big,λb u e=>?_,g.ext.trans (C7 n),λb e=>?_⟩
 ·by_cases q:b=p
  ·subst q;rw[A6]at e;rw[h];exact e
  ·rw[B3 q]at e;exact g.sub b u e
 ·by_cases q:b=p
  ·subst q;exact .inr f
  ·rw[B3 q]at e;exact g.new b e
end
inductive B where
 | val (d:D)
 | own (ds:List D)
 | exc (x:Str)
 | opq (a:dX)
noncomputable abbrev Rho:=List (Option B)
noncomputable def clA(K:ag)(x:Str):Option dX:=match aH K dn x with
 | some (some (.ref C))=>some C
 | _=>none
noncomputable def SB(K:ag)(H0 H Hf:Hp):B->V->Prop
 | .val d,v=>Rep K Hf d v
 | .own ds,v=>∃a vs,v=.ref a/\H a=some (.lst vs)/\Hf a=none/\H0 a=none/\Reps K Hf ds vs
 | .exc x,v=>∃a o C,v=.ref a/\Hf a=some (.frz o (.own a))/\clA K x=some C/\o.cls=.ref C
 | .opq a,v=>v=.ref a
structure Slots (K:ag) (H0:Hp) (ρ:Rho) (σ:L2.St) (H Hf:Hp):Prop where
 len:ρ.length=σ.length
 is:∀(i:Nat) (b:B),ρ[i]? = some (some b)->∃v,σ[i]? = some (some v)/\SB K H0 H Hf b v
 apart:∀(i j:Nat) (ds es:List D) (a:dX),ρ[i]? = some (some (.own ds))->ρ[j]? = some (some (.own es))->σ[i]? = some (some (V.ref a))->σ[j]? = some (some (V.ref a))->i=j
section
variable {K:PySem.W.Frag}{H H' H0 H1 H2 Hf Hf' Hf1 Hf2:Hp}{ρ:Rho}{σ:L2.St}
theorem SB.grow(h:SB K H0 H Hf b v)(g:Grow H Hf H' Hf'):SB K H0 H' Hf' b v:=by
 cases b with
 | val d=>exact Rep.mono g.ext h
 | opq a=>exact h
 | exc C =>
  obtain⟨a,o,C,e,h1,h2⟩:=h;exact⟨a,o,C,e,g.ext _ _ h1,h2⟩
 | own ds =>
  obtain⟨a,vs,e,h1,h2,h3,h4⟩:=h;refine⟨a,vs,e,g.big _ _ h1,?_,h3,h4.mono g.ext⟩;cases q:Hf' a with
  | none=>rfl
  | some u =>
   rcases g.new a (by rw[q];simp) with z|z
   ·exact absurd h2 z
   ·rw[h1]at z;cases z
theorem Slots.grow(s:Slots K H0 ρ σ H Hf)(g:Grow H Hf H' Hf'):Slots K H0 ρ σ H' Hf' :=
 ⟨s.len,λi b e=>let⟨v,h1,h2⟩:=s.is i b e;⟨v,h1,h2.grow g⟩,s.apart⟩
end
noncomputable abbrev DE:=Rho->Option D
noncomputable def tJ(K:ag)(ρ:Rho)(R:Hp->V->Hp->Hp->Prop):TE:=λσ H Q=>∃H0 Hf,B0 Hf H/\Slots K H0 ρ σ H Hf/\∀v H' Hf',Grow H Hf H' Hf'->R H v H' Hf'->Q v H'
noncomputable def JE(X:Cx)(e:Expr)(f:DE):Prop:=∀ρ d,f ρ=some d->PE X e (tJ X.K ρ λ_ v _ Hf=>Rep X.K Hf d v)
noncomputable def Sq(K:ag):Bool->Hp->dX->List V->Prop
 | true=>SqT K
 | false=>SqL K
noncomputable def RQ(K:ag)(t:Bool)(ds:List D)(v:V)(H Hf:Hp):Prop:=∃a vs,v=.ref a/\Sq K t H a vs/\Reps K Hf ds vs
noncomputable def JQ(X:Cx)(e:Expr)(f:Rho->Option (Bool×List D)):Prop:=∀ρ t ds,f ρ=some (t,ds)->PE X e (tJ X.K ρ λ_ v H Hf=>RQ X.K t ds v H Hf)
noncomputable def JN(X:Cx)(e:Expr)(f:Rho->Option (List D)):Prop:=∀ρ ds,f ρ=some ds->PE X e (tJ X.K ρ λH v H' Hf'=>∃a vs,v=.ref a/\H a=none/\H' a=some (.lst vs)/\Hf' a=none/\Reps X.K Hf' ds vs)
noncomputable def tJA(K:ag)(ρ:Rho)(ds:List D):TA:=λσ H Q=>∃H0 Hf,B0 Hf H/\Slots K H0 ρ σ H Hf/\∀vs H' Hf',Grow H Hf H' Hf'->Reps K Hf' ds vs->Q vs H'
structure JA (X:Cx) (es:List Expr) (f:Rho->Option (List D)):Prop where
 len:∀ρ ds,f ρ=some ds->ds.length=es.length
 run:∀ρ ds,f ρ=some ds->PA X es (tJA X.K ρ ds)
noncomputable def JT(X:Cx)(e:Expr)(f:Rho->Option Bool):Prop:=∀ρ c,f ρ=some c->PT X e (λσ H Q=>∃H0 Hf,B0 Hf H/\Slots X.K H0 ρ σ H Hf/\∀H' Hf',Grow H Hf H' Hf'->Q c H')
noncomputable def JW(X:Cx)(e:Expr)(f:Rho->Option Bool):Prop:=∀ρ c,f ρ=some c->PW X e (λσ H Q=>∃H0 Hf,B0 Hf H/\Slots X.K H0 ρ σ H Hf/\∀H' Hf',Grow H Hf H' Hf'->Q c H')
section
variable {X:Cx}
theorem A4(h:PE X e t)(i:∀σ H Q,t' σ H Q->t σ H Q):PE X e t':=λpins s σ H Q I q=>h pins s σ H Q I (i σ H Q q)
theorem m8(h:PT X e t)(i:∀σ H Q,t' σ H Q->t σ H Q):PT X e t':=λpins s σ H Q I q=>h pins s σ H Q I (i σ H Q q)
noncomputable def dC(d:D):DE:=λ_=>some d
noncomputable def A1(i:Nat):DE:=λρ=>match ρ[i]? with
 | some (some (.val d))=>some d
 | _=>none
noncomputable def B1(i:Nat):Rho->Option (Bool×List D):=λρ=>match ρ[i]? with
 | some (some (.own ds))=>some (false,ds)
 | some (some (.val (.list ds)))=>some (false,ds)
 | some (some (.val (.tuple ds)))=>some (true,ds)
 | _=>none
noncomputable def aq4:D->Option (Bool×List D)
 | .list ds=>some (false,ds)
 | .tuple ds=>some (true,ds)
 | _=>none
theorem cl8:JE X (.Constant (.int i) j pos) (dC (.int i)):=λρ d h=>by
 cases h;exact A4 cd0 λσ H Q ⟨H0,Hf,s,sl,k⟩=>k _ H Hf (Grow.refl s) rfl
theorem bU3:JE X (.Constant (.bool b) j pos) (dC (.bool b)):=λρ d h=>by
 cases h;exact A4 cv3 λσ H Q ⟨H0,Hf,s,sl,k⟩=>k _ H Hf (Grow.refl s) rfl
theorem cl5:JE X (.Constant .none j pos) (dC .none):=λρ d h=>by
 cases h;exact A4 cc9 λσ H Q ⟨H0,Hf,s,sl,k⟩=>k _ H Hf (Grow.refl s) rfl
theorem bw7:JE X (.Constant (.str x) j pos) (dC (.str x)):=λρ d h=>by
 cases h;exact A4 cc7 λσ H Q ⟨H0,Hf,s,sl,k⟩=>k _ H Hf (Grow.refl s) rfl
theorem cl0(i:Nat)(hN:X.N[i]? = some x:=by rfl)(hv:Vis X.env.scope x:=by first|exact Or.inl rfl|exact Or.inr (Or.inl rfl)|exact Or.inr (Or.inr rfl))(hd:(x==("__debug__" : Str))=false:=by decide)
  (hcd:(x==("__classdict__" : Str))=false:=by decide):JE X (.Name x pos) (A1 i):=λρ d h=>by
 refine A4 (U8 hN hv hd hcd) λσ H Q ⟨H0,Hf,s,sl,k⟩=>?_
 unfold A1 at h;split at h
 ·rename_i d' e;cases h;obtain⟨v,h1,h2⟩:=sl.is i _ e;exact⟨v,h1,k v H Hf (Grow.refl s) h2⟩
 ·cases h
theorem ck2(i:Nat)(hN:X.N[i]? = some x:=by rfl)(hv:Vis X.env.scope x:=by first|exact Or.inl rfl|exact Or.inr (Or.inl rfl)|exact Or.inr (Or.inr rfl))(hd:(x==("__debug__" : Str))=false:=by decide)
  (hcd:(x==("__classdict__" : Str))=false:=by decide):JQ X (.Name x pos) (B1 i):=λρ t ds h=>by
 refine A4 (U8 hN hv hd hcd) λσ H Q ⟨H0,Hf,s,sl,k⟩=>?_
 unfold B1 at h;split at h
 ·rename_i d' e;cases h;obtain⟨v,h1,a,vs,rfl,h2,h3,h4,h5⟩:=sl.is i _ e;exact⟨_,h1,k _ H Hf (Grow.refl s) ⟨a,vs,rfl,SqL.of h2,h5⟩⟩
 ·rename_i d' e;cases h;obtain⟨v,h1,a,vs,rfl,h2,h3⟩:=sl.is i _ e;exact⟨_,h1,k _ H Hf (Grow.refl s) ⟨a,vs,rfl,D9 s h2,h3⟩⟩
 ·rename_i d' e;cases h;obtain⟨v,h1,a,vs,rfl,h2,h3⟩:=sl.is i _ e;exact⟨_,h1,k _ H Hf (Grow.refl s) ⟨a,vs,rfl,B8 s h2,h3⟩⟩
 ·cases h
theorem Rep.seq{K:ag}{H Hf:Hp}{d:D}{v:V}{t:Bool}{ds:List D}(h:Rep K Hf d v)(s:B0 Hf H)(e:aq4 d=some (t,ds)):RQ K t ds v H Hf:=by
 cases d with
 | list xs=>cases e;obtain⟨a,vs,e1,e2,e3⟩:=h;exact⟨a,vs,e1,D9 s e2,e3⟩
 | tuple xs=>cases e;obtain⟨a,vs,e1,e2,e3⟩:=h;exact⟨a,vs,e1,B8 s e2,e3⟩
 | _=>cases e
noncomputable def qE(f:DE):Rho->Option (Bool×List D):=λρ=>(f ρ).bind aq4
theorem bU0(h:JE X e f):JQ X e (qE f):=λρ t ds q=>by
 obtain⟨d,h1,h2⟩:=xbm q;exact A4 (h ρ d h1) λσ H Q ⟨H0,Hf,s,sl,k⟩=>⟨H0,Hf,s,sl,λv H' Hf' g r=>k v H' Hf' g (r.seq g.sub h2)⟩
noncomputable def A2:Rho->Option (List D):=λ_=>some []
noncomputable def A0(f:DE)(g:Rho->Option (List D)):Rho->Option (List D):=λρ=>(f ρ).bind λd=>(g ρ).map λds=>d::ds
theorem bx3:JA X [] A2:=⟨λρ ds h=>by cases h;rfl,λρ ds h pos pins s σ H Q I ⟨H0,Hf,ss,sl,k⟩=>by
 cases h
 exact K2 pos pins s σ H Q I (k [] H Hf (Grow.refl ss) rfl)⟩
theorem aZ0(h:JE X e f)(r:JA X es g)(hs:di (e::es) X.env=(false,eval e X.env)::di es X.env:=by rfl):JA X (e::es) (A0 f g):=by
 refine⟨λρ ds q=>?_,λρ ds q=>?_⟩
 ·obtain⟨d,h1,h2⟩:=xbm q;obtain⟨es',h3,h4⟩:=af.mp h2;subst h4;simp[r.len ρ es' h3]
 ·obtain⟨d,h1,h2⟩:=xbm q;obtain⟨es',h3,h4⟩:=af.mp h2;subst h4;intro pos pins s σ H Q I ⟨H0,Hf,ss,sl,k⟩;refine C3 (h ρ d h1) (r.run ρ es' h3) hs pos pins s σ H Q I ⟨H0,Hf,ss,sl,λv H1 Hf1 g1 r1=>⟨H0,Hf1,g1.sub,sl.grow g1,λvs H2 Hf2 g2 r2=>?_⟩⟩;exact k (v::vs) H2 Hf2 (g1.trans g2) ⟨v,vs,rfl,r1.mono g2.ext,r2⟩
noncomputable def p8(f:Rho->Option (List D)):DE:=λρ=>(f ρ).map PyData.tuple
theorem cl1(h:JA X es f)(hn:es.length<=1000:=by decide):JE X (.Tuple es k pos) (p8 f):=λρ d q=>by
 obtain⟨ds,h1,h2⟩:=af.mp q;subst h2;refine A4 (aQ4 λpos pins s σ H Q I t=>h.run ρ ds h1 pos pins s σ H Q I t) λσ H Q ⟨H0,Hf,s,sl,k⟩=>?_
 refine⟨H0,Hf,s,sl,λvs H1 Hf1 g r=>⟨?_,λp hp=>?_⟩⟩
 ·rw[r.length,h.len ρ ds h1];exact bE (U7 hn)
 ·exact k _ _ _ (g.trans (Grow.laid g.sub hp)) ⟨p,vs,rfl,SqT.of A6,r.mono (Grow.laid (o:=.tup vs) g.sub hp).ext⟩
theorem ck3(h:JA X es f)(hn:es.length<=1000:=by decide):JN X (.List es pos) f:=λρ ds h1=>by
 refine A4 (bp0 λpos pins s σ H Q I t=>h.run ρ ds h1 pos pins s σ H Q I t) λσ H Q ⟨H0,Hf,s,sl,k⟩=>?_
 refine⟨H0,Hf,s,sl,λvs H1 Hf1 g r=>⟨?_,λp hp=>?_⟩⟩
 ·rw[r.length,h.len ρ ds h1];exact bE (U7 hn)
 ·exact k _ _ _ (g.trans (Grow.made g.sub hp)) ⟨p,vs,rfl,g.big.free hp,A6,g.sub.free hp,r⟩
noncomputable def r6(f:Rho->Option (List D)):DE:=λρ=>(f ρ).map PyData.list
theorem aL4(h:JN X e f):JE X e (r6 f):=λρ d q=>by
 obtain⟨ds,h1,h2⟩:=af.mp q;subst h2;refine A4 (h ρ ds h1) λσ H Q ⟨H0,Hf,s,sl,k⟩=>⟨H0,Hf,s,sl,λv H' Hf' g ⟨a,vs,e1,e2,e3,e4,e5⟩=>?_⟩
 subst e1;exact k _ _ _ (g.freeze e3 e4 e2) ⟨a,vs,rfl,SqL.of A6,e5.mono (C7 e4)⟩
theorem bv6(h:JN X e f):JQ X e (λρ=>(f ρ).map λds=>(false,ds)):=λρ t ds q=>by
 obtain⟨ds',h1,h2⟩:=af.mp q;cases h2;refine A4 (h ρ ds h1) λσ H Q ⟨H0,Hf,s,sl,k⟩=>⟨H0,Hf,s,sl,λv H' Hf' g ⟨a,vs,e1,e2,e3,e4,e5⟩=>?_⟩
 subst e1;exact k _ _ _ g ⟨a,vs,rfl,SqL.of e3,e5⟩
noncomputable def OpD(X:Cx)(F:dU->dU->Sem dU)(h:D->D->Option D):Prop:=∀x y z,h x y=some z ->
 OpR X F λvx vy H Q=>∃Hf,B0 Hf H/\Rep X.K Hf x vx/\Rep X.K Hf y vy/\∀v H' Hf',Grow H Hf H' Hf'->Rep X.K Hf' z v->Q v H'
noncomputable def A5(h:D->D->Option D)(f g:DE):DE:=λρ=>(f ρ).bind λx=>(g ρ).bind λy=>h x y
theorem aa9(o:OpD X (dv op) h)(ha:JE X a f)(hb:JE X b g):JE X (.BinOp a op b pos) (A5 h f g):=λρ d q=>by
 obtain⟨x,h1,q⟩:=xbm q;obtain⟨y,h2,h3⟩:=xbm q;refine A4 (bS6 (o x y d h3) (ha ρ x h1) (hb ρ y h2)) λσ H Q ⟨H0,Hf,s,sl,k⟩=>?_
 refine⟨H0,Hf,s,sl,λv H1 Hf1 g1 r1=>⟨H0,Hf1,g1.sub,sl.grow g1,λu H2 Hf2 g2 r2=>?_⟩⟩;exact⟨Hf2,g2.sub,r1.mono g2.ext,r2,λw H3 Hf3 g3 r3=>k w H3 Hf3 ((g1.trans g2).trans g3) r3⟩
theorem cm1(o:OpD X (dl op) h)(ha:JE X a f)(hb:JE X b g)(hm:behindInMarks op b=false:=by first|exact aD1 _|rfl):JE X (.Compare a [op] [b] pos) (A5 h f g):=λρ d q=>by
 obtain⟨x,h1,q⟩:=xbm q;obtain⟨y,h2,h3⟩:=xbm q;refine A4 (aX6 (o x y d h3) (ha ρ x h1) (hb ρ y h2) hm) λσ H Q ⟨H0,Hf,s,sl,k⟩=>?_
 refine⟨H0,Hf,s,sl,λv H1 Hf1 g1 r1=>⟨H0,Hf1,g1.sub,sl.grow g1,λu H2 Hf2 g2 r2=>?_⟩⟩;exact⟨Hf2,g2.sub,r1.mono g2.ext,r2,λw H3 Hf3 g3 r3=>k w H3 Hf3 ((g1.trans g2).trans g3) r3⟩
theorem OpR.imp(h:OpR X F r)(i:∀x y H Q,r' x y H Q->r x y H Q):OpR X F r':=λpins s σ H x y v u Q I rx ry q=>h pins s σ H x y v u Q I rx ry (i x y H Q q)
end
end G
namespace G
open PySem PySem.Spec PyProof.Rows L2
section
variable {X:Cx}
noncomputable def E4(i:Int):Prop:=i.natAbs < 2 ^ 8000
instance:DecidablePred E4:=λi=>inferInstanceAs (Decidable (i.natAbs < 2 ^ 8000))
theorem E4.log(h:E4 i)(h0:i.natAbs≠0):i.natAbs.log2 < 8000:=(Nat.log2_lt h0).mpr h
theorem E4.bits(h:E4 i):Builtin.Int.intBits i<=2 ^ 20:=by
 unfold Builtin.Int.intBits;split
 ·exact aW _
 ·rename_i h0;have:=h.log (by simpa using h0)
  grind
theorem bK9:OpR X (dv .Mult) (rI (λi j=>E4 i/\E4 j) λi j=>.int (i*j)):=opI λ_ _ _ _ _ _ _ hc q=>mul_int q (PySem.IntMulOk.of_bits hc.1.bits hc.2.bits)
noncomputable def addI(x y:D):Option D:=match x,y with
 | .int i,.int j=>some (.int (i+j))
 | _,_=>none
noncomputable def bl7(x y:D):Option D:=match x,y with
 | .int i,.int j=>some (.int (i - j))
 | .int i,.bool b=>some (.int (i - if b=true then 1 else 0))
 | .bool a,.int j=>some (.int ((if a=true then 1 else 0) - j))
 | _,_=>none
noncomputable def cg7(x y:D):Option D:=match x,y with
 | .int i,.int j=>if E4 i/\E4 j then some (.int (i*j)) else none
 | _,_=>none
noncomputable def aa2(x y:D):Option D:=match x,y with
 | .int i,.int j=>if 0 < j/\E4 j then some (.int (i / j)) else none
 | _,_=>none
noncomputable def U9(x y:D):Option D:=match x,y with
 | .int i,.int j=>if 0 < j then some (.int (i % j)) else none
 | _,_=>none
noncomputable def bo2(x y:D):Option D:=match x,y with
 | .int i,.int j=>if 0<=j/\j<=1000000/\i.natAbs < 2 ^ 64 then some (.int (i ^ j.toNat)) else none
 | _,_=>none
theorem cF3:OpD X (dv .Add) addI:=λx y z h=>by
 unfold addI at h;split at h
 ·cases h;exact OpR.imp bq5 λvx vy H Q ⟨Hf,s,r1,r2,k⟩=>⟨_,_,r1,r2,k _ H Hf (Grow.refl s) rfl⟩
 ·cases h
theorem cf4:OpD X (dv .Sub) bl7:=λx y z h=>by
 unfold bl7 at h;split at h
 ·cases h;exact OpR.imp ce2 λvx vy H Q ⟨Hf,s,r1,r2,k⟩=>⟨_,_,r1,r2,k _ H Hf (Grow.refl s) rfl⟩
 ·cases h;intro pins s σ H vx vy v u Q I rx ry ⟨Hf,ss,r1,r2,k⟩;cases r1;cases r2;obtain⟨t,rfl⟩:=rx;obtain rfl:u=Value.bool _:=ry;exact PySem.IntBool.sub_int_bool ⟨.int _,H,I.tok _,⟨_,rfl⟩,k _ H Hf (Grow.refl ss) rfl⟩
 ·cases h;intro pins s σ H vx vy v u Q I rx ry ⟨Hf,ss,r1,r2,k⟩;cases r1;cases r2;obtain⟨t,rfl⟩:=ry;obtain rfl:v=Value.bool _:=rx;exact PySem.IntBool.sub_bool_int ⟨.int _,H,I.tok _,⟨_,rfl⟩,k _ H Hf (Grow.refl ss) rfl⟩
 ·cases h
theorem cf6:OpD X (dv .Mult) cg7:=λx y z h=>by
 unfold cg7 at h;split at h
 ·split at h
  ·rename_i c;cases h;exact OpR.imp bK9 λvx vy H Q ⟨Hf,s,r1,r2,k⟩=>⟨_,_,r1,r2,c,k _ H Hf (Grow.refl s) rfl⟩
  ·cases h
 ·cases h
theorem bd5:OpR X (dv .FloorDiv) (rI (λ_ j=>0 < j/\E4 j) λi j=>.int (i / j)):=opI λi j _ _ s Q E hc q=>by
 have e:i.fdiv j=i / j:=Int.fdiv_eq_ediv_of_nonneg i (Int.le_of_lt hc.1);refine floordiv_int (by grind) (by rw[e];exact q) (.inl (PyProof.noPylong_of_log2 ?_));have h2:=hc.2.log (by grind)
 grind
theorem cg0:OpD X (dv .FloorDiv) aa2:=λx y z h=>by
 unfold aa2 at h;split at h
 ·split at h
  ·rename_i c;cases h;exact OpR.imp bd5 λvx vy H Q ⟨Hf,s,r1,r2,k⟩=>⟨_,_,r1,r2,c,k _ H Hf (Grow.refl s) rfl⟩
  ·cases h
 ·cases h
theorem cf7:OpD X (dv .Mod) U9:=λx y z h=>by
 unfold U9 at h;split at h
 ·split at h
  ·rename_i c;cases h;exact OpR.imp ce5 λvx vy H Q ⟨Hf,s,r1,r2,k⟩=>⟨_,_,r1,r2,c,k _ H Hf (Grow.refl s) rfl⟩
  ·cases h
 ·cases h
theorem cf5:OpD X (dv .Pow) bo2:=λx y z h=>by
 unfold bo2 at h;split at h
 ·split at h
  ·rename_i c;cases h;exact OpR.imp ce4 λvx vy H Q ⟨Hf,s,r1,r2,k⟩=>⟨_,_,r1,r2,c,k _ H Hf (Grow.refl s) rfl⟩
  ·cases h
 ·cases h
theorem bq4:OpR X (dv .Add) (λx y H Q=>∃a b ys,x=.ref a/\y=.ref b/\SqT X.K H a []/\SqT X.K H b ys/\Q (.ref b) H):=by
 intro pins s σ H x y v u Q I rx ry h;obtain⟨a,b,ys,rfl,rfl,ha,hb,q⟩:=h;cases rx;cases ry;obtain⟨its,r1,p1,_⟩:=I.tuple ha;obtain⟨its2,r2,p2,_⟩:=I.tuple hb;cases r1;obtain⟨⟨cls,dd,data,sl⟩,ho,hc,n,hd⟩:=id p1;obtain⟨⟨cls2,dd2,data2,sl2⟩,ho2,hc2,n2,hd2⟩:=id p2;simp only at hc hd hc2 hd2;subst hc hd hc2 hd2
 exact concat_meets ⟨_,ho,rfl⟩ ⟨_,ho2,rfl⟩ noFill_tuple_add seq_tuple_add PySem.F.slot_tuple_add PySem.F.entry_tuple_add (PySem.F.args_tuple_add_2 _ _)
   (tuple_addW0 a b _ its2.toArray n n2 dd dd2 sl sl2 (by rfl)) ⟨ho,ho2,⟨.ref b,H,I,rfl,q⟩⟩
noncomputable def t8(x y:D):Option D:=match x,y with
 | .tuple xs,.tuple ys=>if xs.length+ys.length<=16777216 then some (.tuple (xs++ys)) else none
 | .str a,.str b=>if a.length+b.length<=16777216 then some (.str (a++b)) else none
 | .int i,.int j=>some (.int (i+j))
 | .bool a,.int j=>some (.int ((if a=true then 1 else 0)+j))
 | _,_=>none
theorem br3:OpD X (dv .Add) t8:=λx y z h=>by
 unfold t8 at h;split at h
 ·split at h
  ·rename_i xs ys c;cases h;cases xs with
   | nil =>
    refine OpR.imp bq4 λvx vy H Q ⟨Hf,s,r1,r2,k⟩=>?_
    obtain⟨a,vs,rfl,h2,h3⟩:=r1;obtain⟨b,us,rfl,h5,h6⟩:=r2;cases h3;exact⟨a,b,us,rfl,rfl,B8 s h2,B8 s h5,k _ H Hf (Grow.refl s) ⟨b,us,rfl,h5,h6⟩⟩
   | cons d0 ds0 =>
    refine OpR.imp bL1 λvx vy H Q ⟨Hf,s,r1,r2,k⟩=>?_
    obtain⟨a,vs,rfl,h2,h3⟩:=r1;obtain⟨b,us,rfl,h5,h6⟩:=r2;have l1:=h3.length;have l2:=h6.length;refine⟨a,b,vs,us,rfl,rfl,B8 s h2,B8 s h5,?_,by rw[dk];grind,λe=>?_,λe p hp=>?_⟩
    ·intro e;subst e;simp at l1
    ·subst e;have:ys=[]:=by cases ys<;>simp_all
     subst this;exact k _ H Hf (Grow.refl s) ⟨a,vs,rfl,h2,by rw[ar];exact h3⟩
    ·exact k _ _ _ (Grow.laid s hp) ⟨p,vs++us,rfl,SqT.of A6,(h3.append h6).mono (C7 (s.free hp))⟩
  ·cases h
 ·split at h
  ·rename_i c;cases h;exact OpR.imp aQ6 λvx vy H Q ⟨Hf,s,r1,r2,k⟩=>⟨_,_,r1,r2,by rw[dk];exact c,k _ H Hf (Grow.refl s) rfl⟩
  ·cases h
 ·cases h;exact OpR.imp bq5 λvx vy H Q ⟨Hf,s,r1,r2,k⟩=>⟨_,_,r1,r2,k _ H Hf (Grow.refl s) rfl⟩
 ·cases h;intro pins s σ H vx vy v u Q I rx ry ⟨Hf,ss,r1,r2,k⟩;cases r1;cases r2;obtain⟨t,rfl⟩:=ry;obtain rfl:v=Value.bool _:=rx;exact PySem.IntBool.add_bool_int ⟨.int _,H,I.tok _,⟨_,rfl⟩,k _ H Hf (Grow.refl ss) rfl⟩
 ·cases h
noncomputable def ltI(x y:D):Option D:=match x,y with
 | .int i,.int j=>some (.bool (decide (i < j)))
 | _,_=>none
noncomputable def leI(x y:D):Option D:=match x,y with
 | .int i,.int j=>some (.bool (decide (i<=j)))
 | _,_=>none
noncomputable def gtI(x y:D):Option D:=match x,y with
 | .int i,.int j=>some (.bool (decide (j < i)))
 | _,_=>none
noncomputable def geI(x y:D):Option D:=match x,y with
 | .int i,.int j=>some (.bool (decide (j<=i)))
 | _,_=>none
theorem cw3:OpD X (dl .Lt) ltI:=λx y z h=>by
 unfold ltI at h;split at h
 ·cases h;exact OpR.imp cv7 λvx vy H Q ⟨Hf,s,r1,r2,k⟩=>⟨_,_,r1,r2,k _ H Hf (Grow.refl s) rfl⟩
 ·cases h
theorem cw4:OpD X (dl .LtE) leI:=λx y z h=>by
 unfold leI at h;split at h
 ·cases h;exact OpR.imp cv8 λvx vy H Q ⟨Hf,s,r1,r2,k⟩=>⟨_,_,r1,r2,k _ H Hf (Grow.refl s) rfl⟩
 ·cases h
theorem cw5:OpD X (dl .Gt) gtI:=λx y z h=>by
 unfold gtI at h;split at h
 ·cases h;exact OpR.imp cw0 λvx vy H Q ⟨Hf,s,r1,r2,k⟩=>⟨_,_,r1,r2,k _ H Hf (Grow.refl s) rfl⟩
 ·cases h
theorem cw6:OpD X (dl .GtE) geI:=λx y z h=>by
 unfold geI at h;split at h
 ·cases h;exact OpR.imp cw1 λvx vy H Q ⟨Hf,s,r1,r2,k⟩=>⟨_,_,r1,r2,k _ H Hf (Grow.refl s) rfl⟩
 ·cases h
mutual
theorem Rep.reads(I:Inv X pins σ H s):∀{d:D}{v:V}{u:dU},Rep X.K H d v->E3 v u->∃as,Reads s.heap u d as
 | .none,_,_,h,r=>by cases h;cases r;exact⟨_,.none⟩
 | .bool b,_,_,h,r=>by cases h;cases r;exact⟨_,.bool b⟩
 | .int i,_,_,h,r=>by cases h;obtain⟨t,rfl⟩:=r;exact⟨_,.int i t⟩
 | .str x,_,_,h,r=>by cases h;obtain⟨t,rfl⟩:=r;exact⟨_,.str x t⟩
 | .tuple ds,_,_,⟨a,vs,h1,h2,h3⟩,r=>by
  subst h1;cases r;obtain⟨its,rv,⟨o,ho,hc,n,hd⟩,_⟩:=I.tuple h2;obtain⟨as,q⟩:=Reps.reads I h3 rv;exact⟨_,.tuple ho hc hd (by simpa using q)⟩
 | .list ds,_,_,⟨a,vs,h1,h2,h3⟩,r=>by
  subst h1;cases r;obtain⟨its,rv,pl,_⟩:=I.list h2;obtain⟨o,ho,hc,n,hd⟩:=pl.isList;obtain⟨as,q⟩:=Reps.reads I h3 rv;exact⟨_,.list ho hc hd (by simpa using q)⟩
 | .dict kvs,_,_,⟨a,m,h1,h2,h3⟩,r=>by
  subst h1;cases r;obtain⟨_,_,vs,rk,o,es,ep,ho,hx,hd,_,hp,_⟩:=(show P4 X.prog X.w H s.heap a (.dK m) from I.hok a _ h2);obtain⟨as,bs,q1,q2⟩:=RepKs.reads I h3 rk hp;exact⟨_,.dict ho hx.1 hd q1 q2⟩
theorem RepKs.reads(I:Inv X pins σ H s):∀{kvs:List (D×D)}{m:List (Key×V)}{vs:List (Key×dU)}{es:List DictEntry},RepKs X.K H kvs m->KV m vs->Pairs (K8 X.prog X.w) es vs ->
  ∃as bs,ReadsAll s.heap (es.map (·.key)) (kvs.map (·.1)) as/\ReadsAll s.heap (es.map (·.val)) (kvs.map (·.2)) bs
 | [],_,_,_,h,r,p=>by cases h;cases r;cases p;exact⟨_,_,.nil,.nil⟩
 | (k,d)::kvs,_,_,_,⟨x,v,t,h1,h2,h3,h4⟩,r,p=>by
  subst h1 h2;cases r with
  | @cons _ b _ bs r1 r2 =>
   cases p with
   | @cons e kv es _ p1 p2 p3 =>
    obtain⟨as,cs,q1,q2⟩:=RepKs.reads I h4 r2 p3;obtain⟨r1,r3⟩:=r1;rw[← p2]at r3;obtain⟨ds,q3⟩:=Rep.reads I h3 r3;rw[← r1]at p1;have hk:∃t,e.key=.str x t:=Value.isStrOf_shape (x:=x) (v:=e.key) p1;obtain⟨t,hk⟩:=hk;refine⟨_,_,.cons (as:=[]) ?_ q1,.cons q3 q2⟩;show Reads s.heap e.key (.str x) [];rw[hk];exact .str x t
theorem Reps.reads(I:Inv X pins σ H s):∀{ds:List D}{vs:List V}{us:List dU},Reps X.K H ds vs->C2 vs us->∃as,ReadsAll s.heap us ds as
 | [],_,_,h,r=>by cases h;cases r;exact⟨_,.nil⟩
 | d::ds,_,_,⟨v,vr,h1,h2,h3⟩,r=>by
  subst h1;cases r with
  | cons r1 r2 =>
   obtain⟨as,q1⟩:=Rep.reads I h2 r1;obtain⟨bs,q2⟩:=Reps.reads I h3 r2;exact⟨_,.cons q1 q2⟩
end
noncomputable def eqD(x y:D):Option D:=if dI x=true/\dI y=true then some (.bool (PyData.eqv x y)) else none
noncomputable def neD(x y:D):Option D:=if dI x=true/\dI y=true then some (.bool (!PyData.eqv x y)) else none
theorem bT0(hu:X.A.units+64 < cLine):OpD X (dl .Eq) eqD:=λx y z h=>by
 unfold eqD at h;split at h
 ·rename_i c;cases h;intro pins s σ H vx vy v u Q I rx ry ⟨Hf,ss,r1,r2,k⟩;obtain⟨as,q1⟩:=Rep.reads I (r1.mono ss) rx;obtain⟨bs,q2⟩:=Rep.reads I (r2.mono ss) ry;exact eq_dataH q1 q2 c.1 c.2 hu ⟨.bl _,H,I,rfl,k _ H Hf (Grow.refl ss) rfl⟩
 ·cases h
theorem bS8(hu:X.A.units+64 < cLine):OpD X (dl .NotEq) neD:=λx y z h=>by
 unfold neD at h;split at h
 ·rename_i c;cases h;intro pins s σ H vx vy v u Q I rx ry ⟨Hf,ss,r1,r2,k⟩;obtain⟨as,q1⟩:=Rep.reads I (r1.mono ss) rx;obtain⟨bs,q2⟩:=Rep.reads I (r2.mono ss) ry;exact ne_dataH q1 q2 c.1 c.2 hu ⟨.bl _,H,I,rfl,k _ H Hf (Grow.refl ss) rfl⟩
 ·cases h
noncomputable def isN(x y:D):Option D:=match x,y with
 | .none,.none=>some (.bool true)
 | _,.none=>some (.bool false)
 | _,_=>none
theorem bI4{K:ag}{H:Hp}{d:D}{v:V}(h:Rep K H d v):(decide (v=.non))=(match d with | .none=>true|_=>false):=by
 cases d with
 | none=>cases h;rfl
 | bool b=>cases h;rfl
 | int b=>cases h;rfl
 | str b=>cases h;rfl
 | tuple ds=>obtain⟨a,vs,rfl,_⟩:=h;rfl
 | list ds=>obtain⟨a,vs,rfl,_⟩:=h;rfl
 | dict ds=>obtain⟨a,m,rfl,_⟩:=h;rfl
theorem cf8:OpD X (dl .Is) isN:=λx y z h=>by
 refine OpR.imp ce7 λvx vy H Q ⟨Hf,s,r1,r2,k⟩=>?_
 have e:=bI4 r1
 cases y<;>cases x<;>simp only[isN,bn.injEq,reduceCtorEq]at h <;>
  (subst h;simp only at e;rw[e];exact⟨r2,k _ H Hf (Grow.refl s) rfl⟩)
noncomputable def i3(h1 h2:D->D->Option D)(f g k:DE):DE:=λρ=>(f ρ).bind λx=>(g ρ).bind λy=>(h1 x y).bind λz=>match z with
 | .bool true=>(k ρ).bind λw=>h2 y w
 | .bool false=>some (.bool false)
 | _=>none
theorem bx1(o1:OpD X (dl op) h1)(o2:OpD X (dl op') h2)(ha:JE X a f)(hb:JE X b g)(hc:JE X c k)
  (hm:lastMarks [op,op'] [b,c]=false:=by with_unfolding_all rfl):JE X (.Compare a [op,op'] [b,c] pos) (i3 h1 h2 f g k):=λρ d q=>by
 obtain⟨x,e1,q⟩:=xbm q;obtain⟨y,e2,q⟩:=xbm q;obtain⟨z,e3,q⟩:=xbm q;split at q
 ·obtain⟨w,e4,e5⟩:=xbm q;refine A4 (aJ4 (o1 x y _ e3) (o2 y w d e5) (ha ρ x e1) (hb ρ y e2) (hc ρ w e4) hm) λσ H Q ⟨H0,Hf,s,sl,kk⟩=>?_
  refine⟨H0,Hf,s,sl,λv H1 Hf1 g1 r1=>⟨H0,Hf1,g1.sub,sl.grow g1,λu H2 Hf2 g2 r2=>⟨Hf2,g2.sub,r1.mono g2.ext,r2,λz' H3 Hf3 g3 r3=>?_⟩⟩⟩;refine⟨true,r3,ae6 ⟨H0,Hf3,g3.sub,sl.grow ((g1.trans g2).trans g3),λw' H4 Hf4 g4 r4=>⟨Hf4,g4.sub,r2.mono (g3.trans g4).ext,r4,λz2 H5 Hf5 g5 r5=>?_⟩⟩⟩;exact kk z2 H5 Hf5 ((((g1.trans g2).trans g3).trans g4).trans g5) r5
 ·cases q;intro pins s σ H Q I ⟨H0,Hf,ss,sl,kk⟩;refine aJ4 (tc:=λ_ _ _=>False) (r':=λ_ _ _ _=>False) (o1 x y _ e3) (λ_ _ _ _ _ _ _ _ _ _ _ _ h=>h.elim) (ha ρ x e1) (hb ρ y e2) (λ_ _ _ _ _ _ h=>h.elim) hm pins s σ H Q I ?_;refine⟨H0,Hf,ss,sl,λv H1 Hf1 g1 r1=>⟨H0,Hf1,g1.sub,sl.grow g1,λu H2 Hf2 g2 r2=>⟨Hf2,g2.sub,r1.mono g2.ext,r2,λz' H3 Hf3 g3 r3=>?_⟩⟩⟩;exact⟨false,r3,aj1 (kk _ H3 Hf3 ((g1.trans g2).trans g3) rfl)⟩
 ·cases q
theorem cl3(h:JE X a f):JE X (.BoolOp op [a] pos) f:=λρ d q=>bo8 (h ρ d q)
noncomputable def ad2(f g:DE):DE:=λρ=>(f ρ).bind λx=>match x with
 | .bool true=>g ρ
 | .bool false=>some (.bool false)
 | _=>none
noncomputable def dOr(f g:DE):DE:=λρ=>(f ρ).bind λx=>match x with
 | .bool true=>some (.bool true)
 | .bool false=>g ρ
 | .none=>g ρ
 | .tuple (y::r)=>some (.tuple (y::r))
 | _=>none
noncomputable def bA4(f:DE):DE:=λρ=>(f ρ).bind λx=>match x with
 | .bool c=>some (.bool (!c))
 | _=>none
theorem cm2{a b:Expr}{Z4:List Expr}{f g:DE}{pos:Pos}(ha:JE X a f)(hb:JE X (.BoolOp .And (b::Z4) pos) g):JE X (.BoolOp .And (a::b::Z4) pos) (ad2 f g):=λρ d q=>by
 obtain⟨x,e1,q⟩:=xbm q;split at q
 ·refine A4 (aC6 (ha ρ _ e1) (hb ρ d q)) λσ H Q ⟨H0,Hf,s,sl,k⟩=>⟨H0,Hf,s,sl,λv H1 Hf1 g1 r1=>⟨true,r1,ae6 ⟨H0,Hf1,g1.sub,sl.grow g1,λu H2 Hf2 g2 r2=>k u H2 Hf2 (g1.trans g2) r2⟩⟩⟩
 ·cases q;refine A4 (aC6 (tb:=λ_ _ _=>False) (ha ρ _ e1) (λ_ _ _ _ _ _ h=>h.elim)) λσ H Q ⟨H0,Hf,s,sl,k⟩=>⟨H0,Hf,s,sl,λv H1 Hf1 g1 r1=>⟨false,r1,aj1 (k _ H1 Hf1 g1 rfl)⟩⟩
 ·cases q
theorem cl4(ha:JE X a f):JE X (.UnaryOp .Not a pos) (bA4 f):=λρ d q=>by
 obtain⟨x,e1,q⟩:=xbm q;split at q
 ·cases q;exact A4 (cc8 (ha ρ _ e1)) λσ H Q ⟨H0,Hf,s,sl,k⟩=>⟨H0,Hf,s,sl,λv H1 Hf1 g1 r1=>⟨_,r1,k _ H1 Hf1 g1 rfl⟩⟩
 ·cases q
noncomputable def bc3:D->Option Bool
 | .none=>some false
 | .bool b=>some b
 | .int i=>some (i != 0)
 | .str x=>if x.length<=16777216 then some ((x.length:Int) != 0) else none
 | .list ds=>some (!ds.isEmpty)
 | .tuple ds=>some (!ds.isEmpty)
 | .dict _=>none
noncomputable def W8(f:DE):Rho->Option Bool:=λρ=>(f ρ).bind bc3
theorem cj5(ha:JE X a f)(he:∀whole,isTrue a X.env whole=(do let v ← whole;standAt a.pos;holding [v] (truthy v)):=by intro _;rfl):JT X a (W8 f):=λρ c q=>by
 obtain⟨d,e1,e2⟩:=xbm q;refine m8 (aJ1 (ha ρ d e1) he) λσ H Q ⟨H0,Hf,s,sl,k⟩=>⟨H0,Hf,s,sl,λv H1 Hf1 g1 r1=>⟨c,?_,k H1 Hf1 g1⟩⟩
 cases d with
 | none=>cases e2;cases r1;rfl
 | bool b=>cases e2;cases r1;rfl
 | int i=>cases e2;cases r1;rfl
 | str x =>
  simp only[bc3]at e2;split at e2
  ·rename_i hx;cases e2;cases r1;exact⟨by rw[dk];exact hx,rfl⟩
  ·cases e2
 | list ds =>
  cases e2;obtain⟨a,vs,rfl,h2,h3⟩:=r1;refine .inl ⟨vs,D9 g1.sub h2,?_⟩;have:=h3.length;cases ds<;>cases vs<;>simp_all
 | tuple ds =>
  cases e2;obtain⟨a,vs,rfl,h2,h3⟩:=r1;refine .inr (.inl ⟨vs,B8 g1.sub h2,?_⟩);have:=h3.length;cases ds<;>cases vs<;>simp_all
 | dict _=>cases e2
noncomputable def ab1:D->Option Bool
 | .bool b=>some b
 | _=>none
noncomputable def tB2(h:D->D->Option D)(f g:DE):Rho->Option Bool:=λρ=>(A5 h f g ρ).bind ab1
theorem ba6(h:ab1 d=some c):d=.bool c:=by
 cases d<;>simp[ab1]at h;subst h;rfl
theorem cj7(o:OpD X (dl op) h)(ha:JE X a f)(hb:JE X b g)(hm:behindInMarks op b=false:=by first|exact aD1 _|rfl):JT X (.Compare a [op] [b] pos) (tB2 h f g):=λρ c q=>by
 obtain⟨d,q,e⟩:=xbm q;obtain⟨x,h1,q⟩:=xbm q;obtain⟨y,h2,h3⟩:=xbm q;have:=ba6 e;subst this;refine m8 (aX0 (o x y _ h3) (ha ρ x h1) (hb ρ y h2) hm) λσ H Q ⟨H0,Hf,s,sl,k⟩=>?_
 refine⟨H0,Hf,s,sl,λv H1 Hf1 g1 r1=>⟨H0,Hf1,g1.sub,sl.grow g1,λu H2 Hf2 g2 r2=>?_⟩⟩;exact⟨Hf2,g2.sub,r1.mono g2.ext,r2,λw H3 Hf3 g3 r3=>⟨c,r3,k H3 Hf3 ((g1.trans g2).trans g3)⟩⟩
noncomputable def aw9(f g:Rho->Option Bool):Rho->Option Bool:=λρ=>(f ρ).bind λc=>if c then g ρ else some false
noncomputable def ai3(f g:Rho->Option Bool):Rho->Option Bool:=λρ=>(f ρ).bind λc=>if c then some true else g ρ
noncomputable def Q6(f:Rho->Option Bool):Rho->Option Bool:=λρ=>(f ρ).map λc=>!c
theorem aa7(h:PW X e t)(i:∀σ H Q,t' σ H Q->t σ H Q):PW X e t':=λwhole pins s σ H Q I q=>h whole pins s σ H Q I (i σ H Q q)
theorem bv1(h:JW X e f):JT X e f:=λρ c q=>(h ρ c q).pt
theorem bM7(h:JT X a f):JW X (.BoolOp .And [a] pos) f:=λρ c q=>aW9 (h ρ c q)
theorem cj1(h:JT X a f):JW X (.BoolOp .Or [a] pos) f:=λρ c q=>bn8 (h ρ c q)
theorem cj2{a b:Expr}{Z4:List Expr}{f g:Rho->Option Bool}{pos:Pos}(ha:JT X a f)(hb:JW X (.BoolOp .And (b::Z4) pos) g):JW X (.BoolOp .And (a::b::Z4) pos) (aw9 f g):=λρ c q=>by
 obtain⟨x,e1,q⟩:=xbm q;cases x with
 | true=>exact aa7 (aC4 (ha ρ _ e1) (hb ρ c (by simpa using q))) λσ H Q ⟨H0,Hf,s,sl,k⟩=>⟨H0,Hf,s,sl,λH1 Hf1 g1=>ae6 ⟨H0,Hf1,g1.sub,sl.grow g1,λH2 Hf2 g2=>k H2 Hf2 (g1.trans g2)⟩⟩
 | false =>
  have:c=false:=by simpa using q.symm
  subst this;exact aa7 (aC4 (tB':=λ_ _ _=>False) (ha ρ _ e1) (λ_ _ _ _ _ _ _ h=>h.elim)) λσ H Q ⟨H0,Hf,s,sl,k⟩=>⟨H0,Hf,s,sl,λH1 Hf1 g1=>aj1 (k H1 Hf1 g1)⟩
theorem cy5{a b:Expr}{Z4:List Expr}{f g:Rho->Option Bool}{pos:Pos}(ha:JT X a f)(hb:JW X (.BoolOp .Or (b::Z4) pos) g):JW X (.BoolOp .Or (a::b::Z4) pos) (ai3 f g):=λρ c q=>by
 obtain⟨x,e1,q⟩:=xbm q;cases x with
 | false=>exact aa7 (aW8 (ha ρ _ e1) (hb ρ c (by simpa using q))) λσ H Q ⟨H0,Hf,s,sl,k⟩=>⟨H0,Hf,s,sl,λH1 Hf1 g1=>aj1 ⟨H0,Hf1,g1.sub,sl.grow g1,λH2 Hf2 g2=>k H2 Hf2 (g1.trans g2)⟩⟩
 | true =>
  have:c=true:=by simpa using q.symm
  subst this;exact aa7 (aW8 (tB':=λ_ _ _=>False) (ha ρ _ e1) (λ_ _ _ _ _ _ _ h=>h.elim)) λσ H Q ⟨H0,Hf,s,sl,k⟩=>⟨H0,Hf,s,sl,λH1 Hf1 g1=>ae6 (k H1 Hf1 g1)⟩
theorem cj6(ha:JT X a f):JT X (.UnaryOp .Not a pos) (Q6 f):=λρ c q=>by
 obtain⟨x,e1,e2⟩:=af.mp q;subst e2;exact m8 (cc0 (ha ρ x e1)) λσ H Q ⟨H0,Hf,s,sl,k⟩=>⟨H0,Hf,s,sl,λH1 Hf1 g1=>k H1 Hf1 g1⟩
noncomputable def ad1(t:Rho->Option Bool)(f g:DE):DE:=λρ=>(t ρ).bind λc=>if c then f ρ else g ρ
theorem cl9(hc:JT X c t)(ha:JE X a f)(hb:JE X b g):JE X (.IfExp c a b pos) (ad1 t f g):=λρ d q=>by
 obtain⟨x,e1,q⟩:=xbm q;cases x with
 | true=>exact A4 (aJ3 (tb:=λ_ _ _=>False) (hc ρ _ e1) (ha ρ d (by simpa using q)) (λ_ _ _ _ _ _ h=>h.elim)) λσ H Q ⟨H0,Hf,s,sl,k⟩=>⟨H0,Hf,s,sl,λH1 Hf1 g1=>ae6 ⟨H0,Hf1,g1.sub,sl.grow g1,λu H2 Hf2 g2 r2=>k u H2 Hf2 (g1.trans g2) r2⟩⟩
 | false=>exact A4 (aJ3 (ta:=λ_ _ _=>False) (hc ρ _ e1) (λ_ _ _ _ _ _ h=>h.elim) (hb ρ d (by simpa using q))) λσ H Q ⟨H0,Hf,s,sl,k⟩=>⟨H0,Hf,s,sl,λH1 Hf1 g1=>aj1 ⟨H0,Hf1,g1.sub,sl.grow g1,λu H2 Hf2 g2 r2=>k u H2 Hf2 (g1.trans g2) r2⟩⟩
noncomputable def dIx(f:Rho->Option (Bool×List D))(g:DE):DE:=λρ=>(f ρ).bind λq=>(g ρ).bind λi=>match i with
 | .int i=>atI q.2 i
 | _=>none
theorem ag2{K:ag}{H:Hp}{ds:List D}{vs:List V}{i:Int}{d:D}(h:Reps K H ds vs)(e:atI ds i=some d):∃v,atI vs i=some v/\Rep K H d v:=by
 unfold atI at e ⊢;rw[h.length];obtain⟨j,h1,h2⟩:=xbm e;obtain⟨v,h3,h4⟩:=h.get h2;exact⟨v,by rw[h1];exact h3,h4⟩
theorem cz2{a b:Expr}{f:Rho->Option (Bool×List D)}{g:DE}{pos:Pos}(ha:JQ X a f)(hb:JE X b g)(hs:ah5 b:=by intro _ _;rfl):JE X (.Subscript a b pos) (dIx f g):=λρ d q=>by
 obtain⟨⟨t,ds⟩,h1,q⟩:=xbm q;obtain⟨y,h2,h3⟩:=xbm q;split at h3
 ·refine A4 (bp1 aR5 (ha ρ t ds h1) (hb ρ _ h2) hs) λσ H Q ⟨H0,Hf,s,sl,k⟩=>?_
  refine⟨H0,Hf,s,sl,λv H1 Hf1 g1 ⟨p,vs,e1,e2,e3⟩=>⟨H0,Hf1,g1.sub,sl.grow g1,λu H2 Hf2 g2 r2=>?_⟩⟩;obtain⟨w,q1,q2⟩:=ag2 (e3.mono g2.ext) h3;cases t with
  | true=>exact .inr (.inl ⟨p,vs,_,w,e1,r2,B8 g2.big e2,q1,k w H2 Hf2 (g1.trans g2) q2⟩)
  | false=>exact .inl ⟨p,vs,_,w,e1,r2,D9 g2.big e2,q1,k w H2 Hf2 (g1.trans g2) q2⟩
 ·cases h3
noncomputable def ab0(xs:List D)(lo hi:Option Int):List D:=(xs.drop (HT.sIx xs.length 0 lo)).take (HT.sIx xs.length xs.length hi - HT.sIx xs.length 0 lo)
theorem aq5{K:ag}{H:Hp}{ds:List D}{vs:List V}(h:Reps K H ds vs)(lo hi:Option Int):Reps K H (ab0 ds lo hi) (aM7 vs lo hi):=by
 unfold ab0 aM7;rw[h.length];exact(h.drop _).take _
noncomputable def JO(X:Cx)(e:Option Expr)(f:Rho->Option (Option Int)):Prop:=∀ρ o,f ρ=some o->PO X e (λσ H Q=>∃H0 Hf,B0 Hf H/\Slots X.K H0 ρ σ H Hf/\∀H' Hf',Grow H Hf H' Hf'->Q o H')
noncomputable def T7:Rho->Option (Option Int):=λ_=>some none
noncomputable def bx7:D->Option Int
 | .int i=>some i
 | _=>none
noncomputable def T6(f:DE):Rho->Option (Option Int):=λρ=>(f ρ).bind λd=>(bx7 d).map some
theorem bN5:JO X none T7:=λρ o q=>by
 cases q;intro pins s σ H Q I ⟨H0,Hf,ss,sl,k⟩;exact bJ6 pins s σ H Q I (k H Hf (Grow.refl ss))
theorem bN4(h:JE X e f):JO X (some e) (T6 f):=λρ o q=>by
 obtain⟨d,e1,e2⟩:=xbm q;obtain⟨i,e3,e4⟩:=af.mp e2;subst e4;cases d<;>simp[bx7]at e3;subst e3;intro pins s σ H Q I ⟨H0,Hf,ss,sl,k⟩;exact bJ5 (h ρ _ e1) pins s σ H Q I ⟨H0,Hf,ss,sl,λv H1 Hf1 g1 r1=>⟨_,r1,k H1 Hf1 g1⟩⟩
noncomputable def av7(f:DE)(lo hi:Rho->Option (Option Int)):DE:=λρ=>(f ρ).bind λd=>(lo ρ).bind λl=>(hi ρ).bind λh=>match d with
 | .tuple xs=>some (.tuple (ab0 xs l h))
 | _=>none
theorem ac9{prog:dq}{w:World}{A:dr}{E:dU->dW->Prop}{s:dW}{t sl:dX}{items:Array dU}{vl vu:dU}{lo hi:Option Int}{Q:dU->dW->Prop}(ht:IsTup s.heap t items)(hs:s.heap.IsSliceOf sl vl vu .none)(pl:IsPart vl lo)(pu:IsPart vu hi)
  (hw:HT.sIx items.size 0 lo=0/\HT.sIx items.size items.size hi=items.size) (h:Q (.ref t) s):dD (dE prog w) A (getItem (.ref t) (.ref sl)) Q E s:=by
 obtain⟨os,hos,hcs,hds⟩:=id hs;have hTs:s.TypeIs (.ref sl) "slice" := ⟨os,hos,hcs⟩;unfold getItem
 try with_reducible refine wpAny_holding ?_
 first|refine cX (cY ?_)|skip
 refine cX (wpAny_sequenceKey ht.typeIs (by decide) ?_)
 refine cX (wpAny_callSpecial?_slot (name:=Str.ofString "__getitem__") ht.typeIs PyProof.Rows.slot_tuple_getitem
  (wpAny_call_entry PyProof.Rows.slot_tuple_getitem ht.typeIs entry_tuple_getitem ?_ (args_tuple_getitem _ _)))
 show dD _ _ (Builtin.Tuple.tupleItemsOf (.ref t) >>= _) _ _ s;refine cX (tupleItemsOf_ ht ?_);refine cX (wpAny_typeOf hTs ?_);rw[if_pos (by decide)];refine cX (HT.sliceApplied_gen hs pl pu ?_)
 have hyes:((((HT.sIx items.size 0 lo:Nat):Int)==0&&(1:Int)==1&&(HT.sIx items.size items.size hi - HT.sIx items.size 0 lo)==items.size)=true):=by
  rw[hw.1,hw.2];simp
 show dD _ _ (if(((HT.sIx items.size 0 lo:Nat):Int)==0&&(1:Int)==1&&(HT.sIx items.size items.size hi - HT.sIx items.size 0 lo)==items.size)=true then _ else _) _ _ s;rw[if_pos hyes];unfold Builtin.Tuple.tupleIsExact;refine cX (cX (wpAny_typeOf ht.typeIs (cY ?_)));rw[if_pos (by decide +kernel)];exact cX (wpAny_rule (cY ⟨_,rfl,cY h⟩))
theorem af8:SlR X (λx lo hi H Q=>∃a xs,x=.ref a/\SqT X.K H a xs/\(HT.sIx xs.length 0 lo=0/\HT.sIx xs.length xs.length hi=xs.length)/\Q (.ref a) H):=by
 intro pins s σ H x v vl vu lo hi sl Q I rx hs pl pu h;obtain⟨a,xs,rfl,hx,hw,q⟩:=h;cases rx;obtain⟨its,r,ht,hz⟩:=I.tuple hx;have hlen:its.toArray.size=xs.length:=by rw[ao];exact r.length.symm
 refine⟨"tuple", _,PyProof.Rows.slot_tuple_getitem.lookup,ht.typeIs,?_⟩;exact ac9 ht hs pl pu (by rw[hlen];exact hw) ⟨.ref a,H,I,rfl,q⟩
theorem bw8{a:Expr}{lo hi:Option Expr}{f:DE}{l h:Rho->Option (Option Int)}{pos p2:Pos}(ha:JE X a f)(hl:JO X lo l)(hh:JO X hi h):JE X (.Subscript a (.Slice lo hi none p2) pos) (av7 f l h):=λρ d q=>by
 obtain⟨x,e1,q⟩:=xbm q;obtain⟨y,e2,q⟩:=xbm q;obtain⟨z,e3,q⟩:=xbm q;cases x with
 | tuple xs =>
  cases q;refine A4 (ar0 (bn0.or af8) (ha ρ _ e1) (hl ρ y e2) (hh ρ z e3)) λσ H Q ⟨H0,Hf,s,sl,k⟩=>?_
  refine⟨H0,Hf,s,sl,λv H1 Hf1 g1 ⟨p,vs,q1,q2,q3⟩=>⟨H0,Hf1,g1.sub,sl.grow g1,λH2 Hf2 g2=>⟨H0,Hf2,g2.sub,sl.grow (g1.trans g2),λH3 Hf3 g3=>?_⟩⟩⟩;subst q1;have q2':=B8 (g2.trans g3).ext q2;have q3':=q3.mono (g2.trans g3).ext;by_cases c:HT.sIx vs.length 0 y=0/\HT.sIx vs.length vs.length z=vs.length
  ·refine .inr ⟨p,vs,rfl,B8 g3.sub q2',c,k _ H3 Hf3 ((g1.trans g2).trans g3) ⟨p,vs,rfl,q2',?_⟩⟩
   have:ab0 xs y z=xs:=by
    unfold ab0;rw[← q3.length,c.1,c.2];simp[q3.length]
   rw[this];exact q3'
  ·refine .inl ⟨p,vs,rfl,B8 g3.sub q2',c,λp' hp=>?_⟩;exact k _ _ _ (((g1.trans g2).trans g3).trans (Grow.laid g3.sub hp)) ⟨p',_,rfl,SqT.of A6,(aq5 q3' y z).mono (C7 (g3.sub.free hp))⟩
 | _=>cases q
end
end G
namespace G
open PySem PySem.Spec PyProof.Rows L2
section
variable {X:Cx}
theorem aT5:du "len" = some (.builtin "len"):=PySem.boot_len
theorem co6:du "all" = some (.builtin "all"):=by decide +kernel
theorem co5:du "isinstance" = some (.builtin "isinstance"):=by decide +kernel
theorem bB9:du "int" = some (.type "int"):=by decide +kernel
theorem bQ5:du "bool" = some (.type "bool"):=by decide +kernel
theorem aT4:du "str" = some (.type "str"):=by decide +kernel
theorem ba7:du "list" = some (.type "list"):=by decide +kernel
theorem aN3:du "tuple" = some (.type "tuple"):=by decide +kernel
theorem bB8:du "zip" = some (.type "zip"):=by decide +kernel
noncomputable def ad0(f:Rho->Option (Bool×List D)):DE:=λρ=>(f ρ).map λq=>.int q.2.length
theorem bw9(hg:Gl X "len")(hm:X.mg "len" = none)(h:JQ X e f)(he:di [e] X.env=[(false,eval e X.env)]:=by rfl):JE X (.Call (.Name "len" p) [e] [] pos) (ad0 f):=λρ d q=>by
 obtain⟨⟨t,ds⟩,h1,h2⟩:=af.mp q;subst h2;refine A4 (T4 ah4 hg hm aT5 (C3 (h ρ t ds h1) K2 he) (he:=he)) λσ H Q ⟨H0,Hf,s,sl,k⟩=>?_
 refine⟨H0,Hf,s,sl,λv H1 Hf1 g1 ⟨a,vs,e1,e2,e3⟩=>⟨a,vs,by rw[e1],?_,?_⟩⟩
 ·cases t with
  | true=>exact .inr e2
  | false=>exact .inl e2
 ·exact k _ H1 Hf1 g1 (by rw[e3.length];rfl)
theorem bw5(hg:Gl X "tuple")(hm:X.mg "tuple" = none)(h:JQ X e f)(hz:∀ρ ds,f ρ≠some (true,ds)\/True:=by intros;exact .inr trivial)(he:di [e] X.env=[(false,eval e X.env)]:=by rfl):
  JE X (.Call (.Name "tuple" p) [e] [] pos) (λρ=>(f ρ).bind λq=>if q.1=true then none else some (.tuple q.2)):=λρ d q=>by
 obtain⟨⟨t,ds⟩,h1,h2⟩:=xbm q;cases t with
 | true=>simp at h2
 | false =>
  simp only[bf,if_false,bn.injEq]at h2;subst h2;refine A4 (Y9 av9 hg hm aN3 (C3 (h ρ false ds h1) K2 he) (he:=he)) λσ H Q ⟨H0,Hf,s,sl,k⟩=>?_
  refine⟨H0,Hf,s,sl,λv H1 Hf1 g1 ⟨a,vs,e1,e2,e3⟩=>⟨a,vs,by rw[e1],.inl ⟨e2,λl hl=>?_⟩⟩⟩;exact k _ _ _ (g1.trans (Grow.laid g1.sub hl)) ⟨l,vs,rfl,SqT.of A6,e3.mono (C7 (g1.sub.free hl))⟩
noncomputable def cH2(f:DE):DE:=λρ=>(f ρ).bind λd=>match d with
 | .int i=>some (.int i)
 | .bool b=>some (.int (if b then 1 else 0))
 | _=>none
noncomputable def aF6(f:DE):DE:=λρ=>(f ρ).bind λd=>match d with
 | .int i=>if i.natAbs.log2 < 1920 then some (.str (toString i)) else none
 | .bool b=>some (.str (if b=true then "True" else "False"))
 | _=>none
theorem aw0:b0 X (.type "str") (λxs H Q=>∃b,xs=[.bl b]/\Q (.str (if b=true then "True" else "False")) H):=by
 intro pins s σ H xs us Q I r h;obtain⟨b,rfl,q⟩:=h;obtain⟨u,rfl,e⟩:=aa3 r;obtain rfl:u=Value.bool b:=e;exact PySem.P.str_of_bool ⟨.str _,H,I.tok _,⟨_,rfl⟩,q⟩
theorem bw6(hg:Gl X "str")(hm:X.mg "str" = none)(h:JE X e f)(he:di [e] X.env=[(false,eval e X.env)]:=by rfl):JE X (.Call (.Name "str" p) [e] [] pos) (aF6 f):=λρ d q=>by
 obtain⟨x,h1,h2⟩:=xbm q;split at h2
 ·split at h2
  ·rename_i c;cases h2
   exact A4 (Y9 aG0 hg hm aT4 (C3 (h ρ _ h1) K2 he) (he:=he)) λσ H Q ⟨H0,Hf,s,sl,k⟩ =>
    ⟨H0,Hf,s,sl,λv H1 Hf1 g1 r=>⟨_,by rw[show v=_ from r],c,k _ H1 Hf1 g1 rfl⟩⟩
  ·cases h2
 ·cases h2
  exact A4 (Y9 aw0 hg hm aT4 (C3 (h ρ _ h1) K2 he) (he:=he)) λσ H Q ⟨H0,Hf,s,sl,k⟩ =>
   ⟨H0,Hf,s,sl,λv H1 Hf1 g1 r=>⟨_,by rw[show v=_ from r],k _ H1 Hf1 g1 rfl⟩⟩
 ·cases h2
noncomputable def aG8:List D->Option Bool
 | []=>some true
 | .bool b::r=>(aG8 r).map λc=>b&&c
 | _::_=>none
theorem aN5:∀{ds:List D}{c:Bool},aG8 ds=some c->∃bs:List Bool,ds=bs.map dL/\c=bs.all id
 | [],c,h=>by cases h;exact⟨[],rfl,rfl⟩
 | .bool b::r,c,h=>by
  obtain⟨c',h1,h2⟩:=af.mp h;obtain⟨bs,h3,h4⟩:=aN5 h1;exact⟨b::bs,by simp[h3],by simp[← h2,h4]⟩
theorem aq6{K:ag}{H:Hp}:∀{bs:List Bool}{vs:List V},Reps K H (bs.map dL) vs->vs=bs.map V.bl
 | [],_,h=>h
 | _::_,_,⟨v,r,h1,h2,h3⟩=>by subst h1;rw[show v=_ from h2,aq6 h3];rfl
theorem bh9:b0 X (.builtin "all") (λxs H Q=>X.calm=true/\∃(p:dX) (bs:List Bool),xs=[.ref p]/\SqL X.K H p (bs.map V.bl)/\Q (.bl (bs.all id)) H):=by
 intro pins s σ H xs us Q I r h;obtain⟨hc,p,bs,rfl,hq,q⟩:=h;obtain⟨u,rfl,rx⟩:=aa3 r;cases rx;obtain⟨its,rv,pl,hz⟩:=I.list hq;have hlen:=rv.length;have hh:X.A.in1.handled=none:=I.ok.hd hc;have hlt:p < s.heap.objs.size:=by obtain⟨_,e,_⟩:=pl.isList;exact dG e
 refine call_all_walk (wpAny_pyIter_list pl.isList ?_);refine⟨s.heap.objs.size,_,_,_,_,_,λi=>(bs[i]?).getD false,rfl,Walks.list hh _ p (aD hlt) its.toArray,⟨⟨_,dH _ rfl,rfl,rfl⟩,pl.isList.at λo e=>dF _ e⟩,?_,?_⟩
 ·intro i v s' Q' E' hv hQ;have hv':its[i]? = some v:=by simpa using hv
  have:∃b,bs[i]? = some b:=by
   have:i < its.length:=(ak.mp hv').1;have:i < bs.length:=by simpa using (by grind:i < (bs.map V.bl).length)
   exact⟨bs[i],by simp[this]⟩
  obtain⟨b,hb⟩:=this;obtain⟨u,hu,ru⟩:=rv.get (i:=i) (x:=.bl b) (by simp[hb]);rw[hv']at hu;cases hu;cases ru;exact dg (by simpa [hb] using hQ)
 ·intro h' tk hk
  have e:((aU its.toArray.size).all λi=>(bs[i]?).getD false)=bs.all id:=by
   have hn:its.toArray.size=bs.length:=by simpa using hlen.symm
   rw[hn,cu];simp only[bB,cC,id];constructor
   ·intro h x hx;obtain⟨i,hi,rfl⟩:=List.mem_iff_getElem.mp hx;simpa [hi] using h i hi
   ·intro h i hi;simpa [hi] using h bs[i] (List.getElem_mem hi)
  rw[e]
  have I1:Inv X pins σ H { s with heap:=h',toks:=tk }:=by
   have I0:Inv X pins σ H { s with heap:=s.heap.push { cls:=.type "list_iterator", data:=.fields #[.ref p,rawInt 0] } }:=I.kept (t':=s.toks) λb o e=>dF _ e
   refine I.kept (t':=tk) λb o e=>hk b o ?_ (dF _ e)
   intro hb;have:b=s.heap.objs.size:=by simpa using hb
   subst this;exact absurd (dG e) (bg _)
  exact⟨.bl (bs.all id),H,I1,rfl,q⟩
noncomputable def aM6(f:Rho->Option (Bool×List D)):DE:=λρ=>(f ρ).bind λq=>if q.1=true then none else(aG8 q.2).map dL
theorem cm3(hg:Gl X "all")(hm:X.mg "all" = none)(h:JQ X e f)(hc:X.calm=true:=by rfl)(he:di [e] X.env=[(false,eval e X.env)]:=by rfl):JE X (.Call (.Name "all" p) [e] [] pos) (aM6 f):=λρ d q=>by
 obtain⟨⟨t,ds⟩,h1,h2⟩:=xbm q;cases t with
 | true=>simp at h2
 | false =>
  simp only[bf,if_false]at h2;obtain⟨c,h3,h4⟩:=af.mp h2;subst h4;obtain⟨bs,h5,h6⟩:=aN5 h3;subst h5 h6;refine A4 (T4 bh9 hg hm co6 (C3 (h ρ false _ h1) K2 he) (he:=he)) λσ H Q ⟨H0,Hf,s,sl,k⟩=>?_
  refine⟨H0,Hf,s,sl,λv H1 Hf1 g1 ⟨a,vs,e1,e2,e3⟩=>⟨hc,a,bs,by rw[e1],?_,k _ H1 Hf1 g1 rfl⟩⟩;rw[aq6 e3]at e2;exact e2
noncomputable def bf5(T:String)(d:D):Option Bool:=match d with
 | .int _=>(match T with | "int" => some true | "bool" => some false | "str" => some false | "tuple" => some false | "list" => some false|_=>none)
 | .bool _=>(match T with | "int" => some true | "bool" => some true | "str" => some false | "tuple" => some false | "list" => some false|_=>none)
 | .none=>(match T with | "int" => some false | "bool" => some false | "str" => some false | "tuple" => some false | "list" => some false|_=>none)
 | .str _=>(match T with | "int" => some false | "bool" => some false | "str" => some true | "tuple" => some false | "list" => some false|_=>none)
 | .tuple _=>(match T with | "int" => some false | "bool" => some false | "str" => some false | "tuple" => some true | "list" => some false|_=>none)
 | .list _=>(match T with | "int" => some false | "bool" => some false | "str" => some false | "tuple" => some false | "list" => some true|_=>none)
 | _=>none
noncomputable def tyD:D->String
 | .int _ => "int"
 | .bool _ => "bool"
 | .none => "NoneType"
 | .str _ => "str"
 | .tuple _ => "tuple"
 | .list _ => "list"
 | .dict _ => "dict"
theorem bO6{K:ag}{T:String}{d:D}{b:Bool}(h:bf5 T d=some b):PySem.W.kitOne K (.type (tyD d)) (.type T)=some b:=by
 unfold bf5 at h
 cases d<;>first
  | (dsimp only at h;split at h<;>first
   | (cases h;rfl)
   | cases h)
  | cases h
theorem bB4{T:String}:b0 X (.builtin "isinstance") (λxs H Q=>∃d x b,xs=[x,.ty T]/\Rep X.K H d x/\bf5 T d=some b/\Q (.bl b) H):=by
 intro pins s σ H xs us Q I r h;obtain⟨d,x,b,rfl,hd,hb,q⟩:=h;obtain⟨u,c,rfl,rx,rc⟩:=bi9 r;cases rc;have e:=bO6 (K:=X.K) hb;have fin:∀tk,EP X pins σ Q (.bool b) { s with toks:=tk }:=λtk=>⟨.bl b,H,I.tok tk,rfl,q⟩
 cases d with
 | none=>cases hd;cases rx;exact PySem.W.kia_one PySem.W.kitx_none I.kIn True.intro e (λz=>nomatch z) fin
 | bool y=>cases hd;cases rx;exact PySem.W.kia_one PySem.W.kitx_bool I.kIn True.intro e (λz=>nomatch z) fin
 | int i=>cases hd;obtain⟨t,rfl⟩:=rx;exact PySem.W.kia_one PySem.W.kitx_int I.kIn True.intro e (λz=>nomatch z) fin
 | str i=>cases hd;obtain⟨t,rfl⟩:=rx;exact PySem.W.kia_one PySem.W.kitx_str I.kIn True.intro e (λz=>nomatch z) fin
 | tuple ds =>
  obtain⟨a,vs,rfl,h2,h3⟩:=hd;cases rx;obtain⟨its,rv,⟨o,ho,hc,_⟩,_⟩:=I.tuple h2;exact PySem.W.kia_one PySem.W.kitx_tuple I.kIn ⟨o,ho,hc⟩ e (λz=>nomatch z) fin
 | list ds =>
  obtain⟨a,vs,rfl,h2,h3⟩:=hd;cases rx;obtain⟨its,rv,pl,_⟩:=I.list h2;obtain⟨o,ho,hc,_⟩:=pl.isList;exact PySem.W.kia_one PySem.W.kitx_list I.kIn ⟨o,ho,hc⟩ e (λz=>nomatch z) fin
 | dict ds=>simp[bf5]at hb
noncomputable def aj7(T:String)(f:DE):DE:=λρ=>(f ρ).bind λd=>(bf5 T d).map dL
theorem cl7(hg:Gl X "isinstance")(hm:X.mg "isinstance" = none)(hgT:Gl X x)(hmT:X.mg x=none)(hvT:du x=some (.type T))(h:JE X e f)
  (hn:x ≠ "__name__" := by decide) (hd:(x==("__debug__" : Str))=false:=by decide)
  (he:di [e,.Name x p2] X.env=(false,eval e X.env)::di [.Name x p2] X.env:=by rfl) (he2:di [.Name x p2] X.env=[(false,eval (.Name x p2) X.env)]:=by rfl) (hpl:(backTo pos (di [.Name x p2] X.env)).any (·.1)=false:=by rfl) :
  JE X (.Call (.Name "isinstance" p) [e,.Name x p2] [] pos) (aj7 T f):=λρ d q=>by
 obtain⟨y,h1,h2⟩:=xbm q;obtain⟨b,h3,h4⟩:=af.mp h2;subst h4;refine A4 (T4 (bB4 (T:=T)) hg hm co5 (C3 (h ρ y h1) (C3 (bK3 (v:=.ty T) hgT hmT hvT rfl hn hd) K2 he2) he) (he:=he) (hpl:=hpl)) λσ H Q ⟨H0,Hf,s,sl,k⟩=>?_
 exact⟨H0,Hf,s,sl,λv H1 Hf1 g1 r=>⟨y,v,b,rfl,r.mono g1.sub,h3,k _ H1 Hf1 g1 rfl⟩⟩
noncomputable def spF(K:ag)(n:Nat)(F:List D->Option D):Sp:=λvs H Q _=>vs.length=n/\∃Hf ds d,B0 Hf H/\Reps K Hf ds vs/\F ds=some d/\∀v H' Hf',Grow H Hf H' Hf'->Rep K Hf' d v->Q v H'
noncomputable def A3(F:List D->Option D)(f:Rho->Option (List D)):DE:=λρ=>(f ρ).bind F
theorem bO2(Fk:FnOk X.prog X.w X.K X.mg X.base CX0 k f fd ps (spF X.K n F))(hr:Room k X.A)(hg:Gl X x)(hm:X.mg x=some (.ref f))(hk:aF X.K (.ref f)=true)(hb:M4 X.K fd ps [])
  (ha:JA X (e::es) g) (hn:(e::es).length=n:=by rfl) (hdb:(x==("__debug__" : Str))=false:=by decide) (he:di (e::es) X.env=(false,eval e X.env)::di es X.env:=by rfl) (hpl:(backTo pos (di es X.env)).any (·.1)=false:=by rfl) :
  JE X (.Call (.Name x p) (e::es) [] pos) (A3 F g):=λρ d q=>by
 obtain⟨ds,h1,h2⟩:=xbm q;refine A4 (an8 Fk hr hg hm hk hb .nil x9 (λpos pins s σ H Q I t=>ha.run ρ ds h1 pos pins s σ H Q I t) hdb he hpl) λσ H Q ⟨H0,Hf,s,sl,kk⟩=>?_
 refine⟨H0,Hf,s,sl,λvs H1 Hf1 g1 r1=>⟨?_,Hf1,ds,d,g1.sub,by rw[ar];exact r1,h2,λv H2 Hf2 g2 r2=>kk v H2 Hf2 (g1.trans g2) r2⟩⟩;rw[ar,r1.length,ha.len ρ ds h1,hn]
inductive Fl where
 | nx (ρ:Rho)
 | rt (d:D)
 | bk (ρ:Rho)
 | ct (ρ:Rho)
noncomputable abbrev DS:=Rho->Option Fl
structure At (K:ag) (H0 Hf0:Hp) (ρ:Rho) (σ:L2.St) (H Hf:Hp):Prop where
 gr:Grow H0 Hf0 H Hf
 sl:Slots K H0 ρ σ H Hf
noncomputable def Fl.ends(K:ag)(H0 Hf0 Hf:Hp)(En:Ends):Fl->Prop
 | .nx ρ=>∀σ' H' Hf',At K H0 Hf0 ρ σ' H' Hf'->B0 Hf Hf'->En.nx σ' H'
 | .bk ρ=>∀σ' H' Hf',At K H0 Hf0 ρ σ' H' Hf'->B0 Hf Hf'->En.bk σ' H'
 | .ct ρ=>∀σ' H' Hf',At K H0 Hf0 ρ σ' H' Hf'->B0 Hf Hf'->En.ct σ' H'
 | .rt d=>∀v H' Hf',Grow H0 Hf0 H' Hf'->Rep K Hf' d v->En.rt v H'
noncomputable def tJS(K:ag)(H0 Hf0:Hp)(ρ:Rho)(fl:Fl):TS:=λEn σ H=>∃Hf,At K H0 Hf0 ρ σ H Hf/\fl.ends K H0 Hf0 Hf En
noncomputable def JS(X:Cx)(st:Stmt)(f:DS):Prop:=∀ρ fl,f ρ=some fl->∀H0 Hf0,PS X st (tJS X.K H0 Hf0 ρ fl)
noncomputable def JSs(X:Cx)(sts:List Stmt)(f:DS):Prop:=∀ρ fl,f ρ=some fl->∀H0 Hf0,PSs X sts (tJS X.K H0 Hf0 ρ fl)
theorem F6{st:Stmt}{t t':TS}(h:PS X st t)(i:∀En σ H,t' En σ H->t En σ H):PS X st t':=λpins s σ H En I q=>h pins s σ H En I (i En σ H q)
theorem Y0{st:List Stmt}{t t':TS}(h:PSs X st t)(i:∀En σ H,t' En σ H->t En σ H):PSs X st t':=λpins s σ H En I q=>h pins s σ H En I (i En σ H q)
theorem At.grow{K:ag}{H0 Hf0 H Hf H' Hf':Hp}{ρ:Rho}{σ:L2.St}(a:At K H0 Hf0 ρ σ H Hf)(g:Grow H Hf H' Hf'):At K H0 Hf0 ρ σ H' Hf':=⟨a.gr.trans g,a.sl.grow g⟩
theorem Fl.ends_mono{K:ag}{H0 Hf0 Hf Hf':Hp}{En:Ends}{fl:Fl}(h:fl.ends K H0 Hf0 Hf En)(e:B0 Hf Hf'):fl.ends K H0 Hf0 Hf' En:=by
 cases fl with
 | nx ρ=>exact λσ' H' Hf'' a s=>h σ' H' Hf'' a (e.trans s)
 | bk ρ=>exact λσ' H' Hf'' a s=>h σ' H' Hf'' a (e.trans s)
 | ct ρ=>exact λσ' H' Hf'' a s=>h σ' H' Hf'' a (e.trans s)
 | rt d=>exact h
noncomputable def W9:DS:=λρ=>some (.nx ρ)
noncomputable def F7(f g:DS):DS:=λρ=>(f ρ).bind λfl=>match fl with
 | .nx ρ'=>g ρ'
 | fl=>some fl
theorem bN0:JSs X [] W9:=λρ fl q H0 Hf0=>by
 cases q;exact Y0 aX2 λEn σ H ⟨Hf,a,e⟩=>e σ H Hf a (B0.refl _)
theorem bv3{st:Stmt}{sts:List Stmt}{f g:DS}(h1:JS X st f)(h2:JSs X sts g):JSs X (st::sts) (F7 f g):=λρ fl q H0 Hf0=>by
 obtain⟨fl1,e1,q⟩:=xbm q;cases fl1 with
 | nx ρ' =>
  refine Y0 (Z5 (h1 ρ _ e1 H0 Hf0) (h2 ρ' fl q H0 Hf0)) λEn σ H ⟨Hf,a,e⟩=>⟨Hf,a,λσ' H' Hf' a' s'=>⟨Hf',a',Fl.ends_mono e s'⟩⟩
 | rt d=>cases q;exact Y0 (Z5 (h1 ρ _ e1 H0 Hf0) Q3) λEn σ H ⟨Hf,a,e⟩=>⟨Hf,a,e⟩
 | bk ρ'=>cases q;exact Y0 (Z5 (h1 ρ _ e1 H0 Hf0) Q3) λEn σ H ⟨Hf,a,e⟩=>⟨Hf,a,e⟩
 | ct ρ'=>cases q;exact Y0 (Z5 (h1 ρ _ e1 H0 Hf0) Q3) λEn σ H ⟨Hf,a,e⟩=>⟨Hf,a,e⟩
theorem bM9{st:Stmt}{f:DS}(h1:JS X st f):JSs X [st] f:=λρ fl q H0 Hf0=>aX1 (h1 ρ fl q H0 Hf0)
noncomputable def C5(f:DE):DS:=λρ=>(f ρ).map Fl.rt
theorem cj8{e:Expr}{f:DE}{pos:Pos}(h:JE X e f):JS X (.Return (some e) pos) (C5 f):=λρ fl q H0 Hf0=>by
 obtain⟨d,e1,e2⟩:=af.mp q;subst e2;exact F6 (aQ2 (h ρ d e1)) λEn σ H ⟨Hf,a,e⟩=>⟨H0,Hf,a.gr.sub,a.sl,λv H' Hf' g r=>e v H' Hf' (a.gr.trans g) r⟩
noncomputable def sIf(t:Rho->Option Bool)(f g:DS):DS:=λρ=>(t ρ).bind λc=>if c then f ρ else g ρ
theorem cy7{c:Expr}{a b:List Stmt}{t:Rho->Option Bool}{f g:DS}{pos:Pos}(hc:JT X c t)(ha:JSs X a f)(hb:JSs X b g):JS X (.If c a b pos) (sIf t f g):=λρ fl q H0 Hf0=>by
 obtain⟨x,e1,q⟩:=xbm q;cases x with
 | true =>
  refine F6 (aX3 (hc ρ _ e1) (ha ρ fl (by simpa using q) H0 Hf0) Q3) λEn σ H ⟨Hf,a,e⟩=>⟨H0,Hf,a.gr.sub,a.sl,λH' Hf' g=>ae6 ⟨Hf',a.grow g,Fl.ends_mono e g.ext⟩⟩
 | false =>
  refine F6 (aX3 (hc ρ _ e1) Q3 (hb ρ fl (by simpa using q) H0 Hf0)) λEn σ H ⟨Hf,a,e⟩=>⟨H0,Hf,a.gr.sub,a.sl,λH' Hf' g=>aj1 ⟨Hf',a.grow g,Fl.ends_mono e g.ext⟩⟩
theorem Slots.set{K:ag}{H0 H Hf:Hp}{ρ:Rho}{σ:L2.St}{i:Nat}{d:D}{v:V}(s:Slots K H0 ρ σ H Hf)(r:Rep K Hf d v):Slots K H0 (ρ.set i (some (.val d))) (σ.set i (some v)) H Hf:=by
 refine⟨by simp[s.len],λj b e=>?_,λj k ds es a h1 h2 h3 h4=>?_⟩
 ·by_cases q:i=j
  ·subst q
   have hi:i < ρ.length:=by
    have:=(ak.mp e).1;simpa using this
   have hi':i < σ.length:=by rw[← s.len];exact hi
   rw[az hi]at e;cases e;exact⟨v,az hi',r⟩
  ·rw[av q]at e;obtain⟨u,h1,h2⟩:=s.is j b e;exact⟨u,by rw[av q];exact h1,h2⟩
 ·have hj:i≠j:=by
   intro q;subst q
   have hi:i < ρ.length:=by
    have:=(ak.mp h1).1;simpa using this
   rw[az hi]at h1;cases h1
  have hk:i≠k:=by
   intro q;subst q
   have hi:i < ρ.length:=by
    have:=(ak.mp h2).1;simpa using this
   rw[az hi]at h2;cases h2
  rw[av hj]at h1 h3;rw[av hk]at h2 h4;exact s.apart j k ds es a h1 h2 h3 h4
noncomputable def P1(i:Nat)(f:DE):DS:=λρ=>(f ρ).map λd=>.nx (ρ.set i (some (.val d)))
theorem bv5(i:Nat){x:Str}{e:Expr}{f:DE}{pos pos':Pos}(hN:X.N.Nodup)(h:JE X e f)(hi:X.N[i]? = some x:=by rfl)(hx:Loc X.env.scope x:=by first|exact Or.inl rfl|exact Or.inr rfl)
  (hs:swapsWith e (some (.Name x pos')) pos.line X.env=pure false:=by rfl) (hf:X.fn x=true\/X.env.scope.names.lookup x=some .local:=by first|exact .inl rfl|exact .inr rfl):JS X (.Assign [.Name x pos'] e pos) (P1 i f):=λρ fl q H0 Hf0=>by
 obtain⟨d,e1,e2⟩:=af.mp q;subst e2;exact F6 (ai6 hN hi hx (h ρ d e1) hs hf) λEn σ H ⟨Hf,a,e⟩=>⟨H0,Hf,a.gr.sub,a.sl,λv H' Hf' g r=>e _ H' Hf' ⟨a.gr.trans g,(a.sl.grow g).set r⟩ g.ext⟩
noncomputable def bn1(i j:Nat)(f:Rho->Option (List D)):DS:=λρ=>(f ρ).bind λds=>match ds with
 | [a,b]=>some (.nx ((ρ.set i (some (.val a))).set j (some (.val b))))
 | _=>none
end
end G
namespace G
open PySem PySem.Spec PyProof.Rows L2
theorem bh7(I:Nat->dW->Prop)
  (turn:∀n s,I n s->dD (dE prog w) A (pyNext it) (λr s1=>match r with
   | none=>R (.ok .next) s1
   | some v=>dD (dE prog w) A (letOwnedTupleGo target it v) (λ_ s1'=>dD (dE prog w) A (assign target env v) (λ_ s2 =>
     dD (dE prog w) A (forIn ifs true λc r=>if r=true then do let ok ← isTrue c env (eval c env);pure (ForInStep.yield ok) else pure (ForInStep.yield r)) (λok s3 =>
      if ok=true then dD (dE prog w) A (eval elt env) (λx s4 =>
       dD (dE prog w) A (call (.builtin "list.append") [acc,x]) (λ_ s5=>∃m,m < n/\I m s5) (λ_ _=>False) s4) (λ_ _=>False) s3
      else ∃m,m < n/\I m s3) (λ_ _=>False) s2) (λ_ _=>False) s1') (λ_ _=>False) s1) (λ_ _=>False) s)
  (n:Nat) (h:I n s) :
  codeAny (dE prog w) A (.compLoop (.ListComp elt [⟨target,iter,ifs,0⟩] scope pos) 0 it acc env) R s:=by
 refine codeAny_loop rfl I (λn s hI=>?_) n h;show dD _ A ((compTurn (.ListComp elt [⟨target,iter,ifs,0⟩] scope pos) 0 it acc env).onRaise (λx=>do noteFrame x env;theTreesLotGoes x)) _ _ s;refine wpAny_noted ?_;rw[compTurn_list];refine cX (wpAny_standAt (cX (cZ (turn n s hI) (λr s1 h1=>?_) λ_ _ h'=>h'.elim)));cases r with
 | none=>exact cY h1
 | some v =>
  refine cX (cZ h1 (λ_ s1' h1'=>?_) λ_ _ h'=>h'.elim);refine cX (cZ h1' (λ_ s2 h2=>cX (cZ h2 (λok s3 h3=>?_) λ_ _ h'=>h'.elim)) λ_ _ h'=>h'.elim);cases ok with
  | false=>exact cY ⟨rfl,h3⟩
  | true =>
   exact cX (cX (cZ h3 (λx s4 h4=>cX (cZ h4 (λ_ s5 h5=>cY (cY ⟨rfl,h5⟩)) λ_ _ h'=>h'.elim)) λ_ _ h'=>h'.elim))
noncomputable def R4(cells:List (Str×dX)):List (Str×NameKind)->List (Str×dX)->List (Str×dX)
 | [],cs=>cs
 | (n,k)::r,cs=>if(k==dQ)=true then R4 cells r ((n,(cells.lookup n).getD 0)::cs) else R4 cells r cs
theorem at4:∀(names:List (Str×NameKind)) (cs:List (Str×dX)),(∀y∈names,y.2=.free->∃c,env.cells.lookup y.1=some c) ->
  (forIn names cs λ(x:Str×NameKind) (r:List (Str×dX))=>if(x.2==dQ)=true then do let a ← cellOf env x.1;pure (ForInStep.yield ((x.1,a)::r)) else pure (ForInStep.yield r):Sem (List (Str×dX)))=pure (R4 env.cells names cs)
 | [],cs,_=>rfl
 | (n,k)::r,cs,h=>by
  rw[cR];have hr:∀y∈r,y.2=.free->∃c,env.cells.lookup y.1=some c:=λy hy=>h y (aj _ hy)
  by_cases hk:(k==dQ)=true
  ·obtain⟨c,hc⟩:=h (n,k) aZ (by simpa using hk);have hc':env.cells.lookup n=some c:=hc;simp only[hk,if_true];have e:cellOf env n=pure c:=by unfold cellOf;rw[hc']
   rw[e];show(forIn r ((n,c)::cs) _:Sem _)=_;rw[at4 r _ hr];simp only[R4,hk,if_true,hc',Option.getD_some]
  ·have hk':(k==dQ)=false:=by simpa using hk
   simp only[hk',bf,if_false];show(forIn r cs _:Sem _)=_;rw[at4 r _ hr];simp only[R4,hk',bf,if_false]
theorem bQ1(h:∀y∈scope.names,y.2=.free->∃c,env.cells.lookup y.1=some c):closureFor scope env=pure (R4 env.cells scope.names []):=by
 have:=at4 (env:=env) scope.names [] h;unfold closureFor;exact congrArg (λz=>z >>= λcs=>pure cs) this
theorem ah3:∀{names:List (Str×NameKind)}{cs:List (Str×dX)}{x:Str}{c:dX},(x,c)∈R4 cells names cs->(x,c)∈cs\/((x,dQ)∈names/\c=(cells.lookup x).getD 0)
 | [],cs,x,c,h=>.inl h
 | (n,k)::r,cs,x,c,h=>by
  unfold R4 at h;split at h
  ·rename_i hk;rcases ah3 h with q|⟨q1,q2⟩
   ·rcases ax.mp q with q|q
    ·cases q;have:k=.free:=by simpa using hk
     subst this;exact .inr ⟨aZ,rfl⟩
    ·exact .inl q
   ·exact .inr ⟨aj _ q1,q2⟩
  ·rcases ah3 h with q|⟨q1,q2⟩
   ·exact .inl q
   ·exact .inr ⟨aj _ q1,q2⟩
theorem j7:∀{names:List (Str×NameKind)}{cs:List (Str×dX)}{x:Str},((x,dQ)∈names\/∃c,(x,c)∈cs)->∃c,(x,c)∈R4 cells names cs
 | [],cs,x,h=>by
  rcases h with h|h
  ·cases h
  ·exact h
 | (n,k)::r,cs,x,h=>by
  unfold R4;rcases h with h|⟨c,h⟩
  ·rcases ax.mp h with q|q
   ·cases q;rw[if_pos (by rfl)];exact j7 (.inr ⟨_,aZ⟩)
   ·split
    ·exact j7 (.inl q)
    ·exact j7 (.inl q)
  ·split
   ·exact j7 (.inr ⟨c,aj _ h⟩)
   ·exact j7 (.inr ⟨c,h⟩)
theorem ae2{l:List (Str×dX)}{x:Str}{c:dX}(h:(x,c)∈l):∃c',l.lookup x=some c':=by
 induction l with
 | nil=>cases h
 | cons p r ih =>
  obtain⟨n,a⟩:=p;rw[aB];cases e:x==n with
  | true=>exact⟨a,rfl⟩
  | false =>
   rcases ax.mp h with q|q
   ·cases q;simp at e
   ·exact ih q
theorem ag3:(relabel scope env).names.lookup x=some k->∃k0,scope.names.lookup x=some k0/\(k=k0\/k0=.free):=by
 unfold relabel;simp only;generalize scope.names=names
 induction names with
 | nil=>intro h;simp at h
 | cons p r ih =>
  obtain⟨n,k1⟩:=p;intro h;rw[bh]at h;by_cases hc:(k1==dQ&&env.scope.kind == .function&&env.kindOf n==some .cell)=true
  ·simp only[hc,if_true,aB]at h;rw[aB];cases e:x==n with
   | true =>
    rw[e]at h;rw[ah,ah]at hc;exact⟨k1,rfl,.inr (by simpa using hc.1.1)⟩
   | false=>rw[e]at h;exact ih h
  ·have hc':(k1==dQ&&env.scope.kind == .function&&env.kindOf n==some .cell)=false:=by simpa using hc
   simp only[hc',bf,if_false,aB]at h;rw[aB];cases e:x==n with
   | true=>rw[e]at h;cases h;exact⟨_,rfl,.inl rfl⟩
   | false=>rw[e]at h;exact ih h
theorem aC2:scope.names.lookup x=some .free->(relabel scope env).names.lookup x=some .cell\/(relabel scope env).names.lookup x=some .free:=by
 unfold relabel;simp only;generalize scope.names=names
 induction names with
 | nil=>intro h;simp at h
 | cons p r ih =>
  obtain⟨n,k1⟩:=p;intro h;rw[aB]at h;rw[bh];cases e:x==n with
  | true =>
   rw[e]at h;cases h;have en:x=n:=by simpa using e
   subst en;by_cases hc:(dQ==dQ&&env.scope.kind == .function&&env.kindOf x==some .cell)=true
   ·simp only[hc,if_true,aB,e];exact .inl trivial
   ·have hc':(dQ==dQ&&env.scope.kind == .function&&env.kindOf x==some .cell)=false:=by simpa using hc
    simp only[hc',bf,if_false,aB,e];exact .inr trivial
  | false =>
   rw[e]at h;by_cases hc:(k1==dQ&&env.scope.kind == .function&&env.kindOf n==some .cell)=true
   ·simp only[hc,if_true,aB,e];exact ih h
   ·have hc':(k1==dQ&&env.scope.kind == .function&&env.kindOf n==some .cell)=false:=by simpa using hc
    simp only[hc',bf,if_false,aB,e];exact ih h
noncomputable def B4(X:Cx)(N':List Str)(scope:Scope)(C:dX)(s₀:dW)(H₀:Hp)(ex:List dX):Cx where
 prog:=X.prog
 w:=X.w
 K:=X.K
 mg:=X.mg
 base:=X.base
 A:=X.A
 N:=N'
 s₀:=s₀
 H₀:=H₀
 env:=compEnvC scope (R4 X.env.cells scope.names []) C X.env
 outer:=X.stack
 stack:=X.stack
 ex:=ex
 fn:=λ_=>false
 calm:=X.calm
 pn:=[]
 xe:=λ_ _=>False
structure CompSc (X:Cx) (N':List Str) (n:Nat) (caps:List Nat) (scope:Scope):Prop where
 kind:scope.kind=.function
 cell:∀y∈scope.names,y.2≠.cell
 loc:∀y∈scope.names,y.2=.local->scope.names.lookup y.1=some .local
 free:∀y∈scope.names,y.2=.free->X.env.scope.names.lookup y.1=some .cell\/X.env.scope.names.lookup y.1=some .free
 len:N'.length=n+caps.length
 cap:∀(i j:Nat),caps[i]? = some j->∃x,X.N[j]? = some x/\N'[n+i]? = some x/\scope.names.lookup x=some .free
section
variable {X:Cx}{N':List Str}{n:Nat}{caps:List Nat}{scope:Scope}
theorem S4{l:List (Str×NameKind)}{x:Str}{k:NameKind}(h:l.lookup x=some k):(x,k)∈l:=PySem.mem_of_lookup h
noncomputable def am9(n:Nat)(caps:List Nat)(σ:L2.St):L2.St:=aq n none++caps.map λj=>(σ[j]?).join
theorem aS7(S:CompSc X N' n caps scope)(I:Inv X pins σ H s)(hf:∀b∈fp,ak4 X pins H b)(hlt:∀b∈fp,b < s.heap.objs.size)
  (hns:h1.Ns s.heap.objs.size m) (hk:∀b o,s.heap.get? b=some o->h1.get? b=some o) :
  Inv (B4 X N' scope s.heap.objs.size s H fp) [] (am9 n caps σ) H { s with heap:=h1,toks:=tk }:=by
 have cl_of:∀x c,(R4 X.env.cells scope.names []).lookup x=some c->X.env.cells.lookup x=some c:=λx c h=>by
  have hm:=PySem.mem_of_lookup h;rcases ah3 hm with q|⟨q1,q2⟩
  ·cases q
  ·obtain⟨c',hc'⟩:=I.ok.has x (S.free _ q1 rfl);rw[hc']at q2;rw[hc',q2];rfl
 have cl_has:∀x,(x,dQ)∈scope.names->∃c,(R4 X.env.cells scope.names []).lookup x=some c:=λx h=>by
  obtain⟨c,hc⟩:=j7 (cells:=X.env.cells) (cs:=[]) (.inl h);exact ae2 hc
 have kind_free:∀x,((relabel scope X.env).names.lookup x=some .cell\/(relabel scope X.env).names.lookup x=some .free)->(x,dQ)∈scope.names:=λx h=>by
  rcases h with h|h
  ·obtain⟨k0,e1,e2⟩:=ag3 h;rcases e2 with e2|e2
   ·subst e2;exact absurd rfl (S.cell _ (S4 e1))
   ·subst e2;exact S4 e1
  ·obtain⟨k0,e1,e2⟩:=ag3 h;rcases e2 with e2|e2
   ·subst e2;exact S4 e1
   ·subst e2;exact S4 e1
 have cell_lt:∀x c,X.env.cells.lookup x=some c->c < s.heap.objs.size:=λx c e=>by
  obtain⟨v,q⟩:=I.cell x c e;exact q.lt
 have ok:(B4 X N' scope s.heap.objs.size s H fp).Ok:=by
  refine⟨I.ok.mod,S.kind,I.ok.glob,I.ok.blt,ai _,λx y c e1 e2=>I.ok.inj x y c (cl_of x c e1) (cl_of y c e2),λx hx=>cl_has x (kind_free x hx),λx c e _=>(ba e).elim,I.ok.hd,I.ok.frames,.inl rfl,λb hb=>⟨aD (hlt b hb),λx c e=>(hf b hb).2.2.2.2.1 x c (cl_of x c e)⟩,
   I.bs,aC I.ok.bsz I.sz,λb o e hb=>?_,λb hb hb2=>?_,I.stack,I.stkFree⟩
  ·rcases(hf b hb).2.2.2.1 with z|z
   ·exact I.ok.noex b o e z
   ·exact absurd (aA (dG e) (aC I.ok.bsz z)) (bg _)
  ·rcases ax.mp (I.stkSub b hb2) with z|z
   ·exact(hf b hb).2.1 z
   ·exact(hf b hb).2.2.1 z
 refine⟨ok,rfl,I.bare,Un.kept hk,⟨m,hns,λi x v e1 e2 e3=>?_⟩,λx c e=>?_,I.hok.fresh (ai _),λx c e=>I.freeC x c (cl_of x c e),λp hp=>absurd (show p∈([]:List (dX×Obj)) from hp) (by simp),I.hok.kept hk,?_⟩
 ·have hi:n<=i:=by
   rcases bx i n with h|h
   ·unfold am9 at e2;rw[aw (by simpa using h),be,if_pos h]at e2;cases e2
   ·exact h
  unfold am9 at e2;rw[am (by simpa using hi),aE]at e2;simp only[bK]at e2;cases hj:caps[i - n]? with
  | none=>rw[hj]at e2;cases e2
  | some j =>
   rw[hj]at e2;have e2':(σ[j]?).join=some v:=by simpa using e2
   have e2'':σ[j]? = some (some v):=by
    cases q:σ[j]? with
    | none=>rw[q]at e2';cases e2'
    | some o=>rw[q]at e2';simp at e2';rw[e2']
   obtain⟨y,q1,q2,q3⟩:=S.cap _ _ hj
   have:y=x:=by
    have e1':N'[i]? = some x:=e1;rw[show n+(i - n)=i by grind,e1']at q2;cases q2;rfl
   subst this;obtain⟨m0,hn0,hl0⟩:=I.loc
   have hv:Vis X.env.scope y:=by
    rcases S.free _ (S4 q3) rfl with z|z
    ·exact .inr (.inl z)
    ·exact .inr (.inr z)
   obtain⟨u,ru,lk⟩:=hl0 j y v q1 e2'' hv;refine⟨u,ru,.inr ⟨aC2 q3,?_⟩⟩;rcases lk with⟨lk,_⟩|⟨_,c,hc,hcell⟩
   ·rcases S.free _ (S4 q3) rfl with z|z
    ·have:X.env.scope.names.lookup y=some .local:=lk;rw[z]at this;cases this
    ·have:X.env.scope.names.lookup y=some .local:=lk;rw[z]at this;cases this
   ·obtain⟨c',hc'⟩:=cl_has y (S4 q3);have:=cl_of y c' hc';rw[hc]at this;cases this;obtain⟨o,ho,hd⟩:=hcell;exact⟨c,hc',o,hk c o ho,hd⟩
 ·obtain⟨v,o,ho,hd⟩:=I.cell x c (cl_of x c e);exact⟨v,o,hk c o ho,hd⟩
 ·show(am9 n caps σ).length=N'.length;unfold am9;rw[S.len];simp
theorem az0(I:Inv X pins σ H s)(hf:∀b∈fp,ak4 X pins H b)
  (I':Inv (B4 X N' scope s.heap.objs.size s H fp) [] σ' H' s') (sb:Heap.SameBut s.heap.objs.size s'.heap h'):Inv X pins σ H' { s' with heap:=h' }:=by
 have ne:∀b o,s.heap.get? b=some o->b≠s.heap.objs.size:=λb o e=>aD (dG e)
 refine I.call' (s':={ s' with heap:=h' }) (ch:=fp) I'.os ?_ ?_ I'.bare λb hb=>⟨(hf b hb).2.2.2.1,(hf b hb).2.1,(hf b hb).2.2.2.2.1,(hf b hb).2.2.2.2.2⟩
 ·refine⟨λb o e n hb hx=>sb.extBut b o (ne b o e) (I'.base.keep b o e n hb hx),λb o e n hb hx=>?_,I'.base.free,λb o e hx=>?_,I'.base.tups,I'.base.frzs,I'.base.tbls⟩
  ·obtain⟨sl,q⟩:=I'.base.slot b o e n hb hx;exact⟨sl,sb.extBut b _ (ne b o e) q⟩
  ·obtain⟨o',q⟩:=I'.base.there b o e hx;exact⟨o',sb.extBut b _ (ne b o e) q⟩
 ·intro b u e
  have nC:∀c v,H' c=some v->c≠s.heap.objs.size:=λc v q z=>by
   have:=I'.free;have z':H' c=none:=by rw[z];exact this
   rw[z']at q;cases q
  refine(I'.hok b u e).stay (λc v hc q=>sb.extBut c v ?_ q) (λ_ q=>q) λ_ _ q=>q
  rcases hc with z|z
  ·rw[z];exact nC b u e
  ·exact nC c _ z
noncomputable def PTs(X:Cx)(ifs:List Expr)(t:TT):Prop :=
 ∀(pins:List (dX×Obj)) (s:dW) (σ:L2.St) (H:Hp) (Q:Bool->Hp->Prop),Inv X pins σ H s->t σ H Q ->
  dD (dE X.prog X.w) X.A (forIn ifs true λc r=>if r=true then do let ok ← isTrue c X.env (eval c X.env);pure (ForInStep.yield ok) else pure (ForInStep.yield r)) (TP X pins σ Q) X.xe s
theorem bJ0:PTs X [] (λ_ H Q=>Q true H):=λpins s σ H Q I h=>wpAny_tests_nil ⟨H,I,h⟩
theorem bI9(h:PT X c t):PTs X [c] t:=λpins s σ H Q I q=>wpAny_tests_one (h pins s σ H Q I q)
noncomputable def aV4(n:Nat)(caps:List Nat)(wi:TI)(g:TG)(tc:TT)(te:TE):TE:=λσ H Q=>wi σ H λJ H1=>∀Dd,H1 Dd=none->∃W:Nat->Nat->List V->L2.St->Hp->Prop,
 (∃m,W 0 m [] (am9 n caps σ) (upd H1 Dd (.lst []))) /\
 ∀i m ys σ' H',W i m ys σ' H' ->
  (J.stop i H'/\Q (.ref Dd) H') \/
  (J.go i H'/\∀x H2,J.yld i H' x H2->g x σ' H2 λσ3 H3=>tc σ3 H3 λb H4 =>
   if b=true then te σ3 H4 λy H5=>H5 Dd=some (.lst ys)/\ys.length < dj/\∃m',m' < m/\W (i+1) m' (ys++[y]) σ3 (upd H5 Dd (.lst (ys++[y])))
   else ∃m',m' < m/\W (i+1) m' ys σ3 H4)
theorem at3{elt tgt iter:Expr}{ifs:List Expr}{pos:Pos}{wi:TI}{g:TG}{tc:TT}{te:TE}{RR:dU->dX->Result->dW->Prop}{E:dU->dW->Prop}(S:CompSc X N' n caps scope)(hx:∀e s,X.xe e s->False)(hc:X.calm=true)
  (hi:PI X tgt iter wi) (hg:∀C s0 H0 ex,PG (B4 X N' scope C s0 H0 ex) tgt g) (ht:∀C s0 H0 ex,PTs (B4 X N' scope C s0 H0 ex) ifs tc) (he:∀C s0 H0 ex,PE (B4 X N' scope C s0 H0 ex) elt te)
  {pins:List (dX×Obj)}{s:dW}{σ:L2.St}{H:Hp}{Q:VK}(I:Inv X pins σ H s) (h:aV4 n caps wi g tc te σ H Q)
  (hRR:∀D C r s',r=.ok .next->(∃m,s'.heap.Ns C m/\∀h',Heap.SameBut C s'.heap h'->∃H',Inv X pins σ H' { s' with heap:=h' }/\Q (.ref D) H') ->
   (∃s2 fp σ' H2 H',s2.heap.objs.size=C/\Inv X pins σ H2 s2/\(∀b∈fp,ak4 X pins H2 b)/\Inv (B4 X N' scope s2.heap.objs.size s2 H2 fp) [] σ' H' s'/\Q (.ref D) H')->RR (.ref D) C r s') :
  dD (dE X.prog X.w) X.A (eval iter X.env) (λx s₁=>dD (dE X.prog X.w) X.A (pyIter x) (λit s₂=>dD (dE X.prog X.w) X.A (newList []) (λacc s₃ =>
   dD (dE X.prog X.w) X.A (newFunctionEnv scope X.env.globals (R4 X.env.cells scope.names []) [] X.env.qual none .none (some X.env)) (λcenv s₄ =>
    codeAny (dE X.prog X.w) X.A (.compStart (.ListComp elt [⟨tgt,iter,ifs,0⟩] scope pos) 0 it acc { cenv with scope:=relabel scope X.env }) (RR acc cenv.locals) s₄) E s₃) E s₂) E s₁) E s:=by
 refine cZ (hi pins s σ H _ I h) (λv s1 h1=>cZ h1 (λitv s2 h2=>?_) λ_ _ z=>(hx _ _ z).elim) λ_ _ z=>(hx _ _ z).elim
 obtain⟨it,fp,tn,J,H2,e,I2,T,st2,f2,R⟩:=h2;subst e;refine de (wpAny_newFunctionEnv S.cell (by intro y hy;simp at hy) (λh₁ hns₁ hsb₁=>?_) S.kind);dsimp only at hns₁ hsb₁ ⊢;obtain⟨W,⟨m0,w0⟩,turn⟩:=R s2.heap.objs.size (I2.hok.fresh (ai _))
 have lt2:∀b∈fp,b < s2.heap.objs.size:=λb hb=>by
  obtain⟨o,ho,_⟩:=T.obj _ _ st2 b hb;exact dG ho
 have I3:Inv X pins σ (upd H2 s2.heap.objs.size (.lst [])) { s2 with heap:=s2.heap.push { cls:=.type "list", dict:=none,data:=.seq ([]:List dU).toArray } } :=
  I2.laid (t':=s2.toks) (λb u e=>dF _ e) (ai _) ⟨aW _,[],0,.nil,dH _ rfl⟩
 generalize hs3:({ s2 with heap:=s2.heap.push { cls:=.type "list", dict:=none,data:=.seq ([]:List dU).toArray } }:dW)=s3 at I3;have es3:s3.heap=s2.heap.push { cls:=.type "list", dict:=none,data:=.seq ([]:List dU).toArray }:=by rw[← hs3]
 rw[← es3]at hns₁ hsb₁ ⊢;have keep3:∀b o,s3.heap.get? b=some o->h₁.get? b=some o:=λb o e=>hsb₁.extBut b o (aD (dG e)) (dF _ e)
 have lt3:∀b∈fp,b < s3.heap.objs.size:=λb hb=>by rw[es3,Heap.size_push];exact Nat.lt_succ_of_lt (lt2 b hb)
 have f3:∀b∈fp,ak4 X pins (upd H2 s2.heap.objs.size (.lst [])) b:=λb hb=>⟨by rw[B3 (aD (lt2 b hb))];exact(f2 b hb).1,(f2 b hb).2⟩
 generalize hH3:upd H2 s2.heap.objs.size (HO.lst [])=H3 at I3 f3 w0
 have fin3:∀{σ':L2.St}{H':Hp}{pl:List (dX×Obj)},(∀b∈fp,H' b=none)->(∀p∈pl,False)->∀b∈fp,ak4 (B4 X N' scope s3.heap.objs.size s3 H3 fp) pl H' b:=λ{σ' H' pl} hn hp b hb=>by
  refine⟨hn b hb,aD (lt3 b hb),λz=>?_,.inl hb,λx c e=>?_,λp hp'=>?_⟩
  ·rcases ax.mp (I3.stkSub b z) with z|z
   ·exact(f3 b hb).2.1 z
   ·exact(f3 b hb).2.2.1 z
  ·have hm:=PySem.mem_of_lookup e;rcases ah3 hm with q|⟨q1,q2⟩
   ·cases q
   ·obtain⟨c',hc'⟩:=I3.ok.has x (S.free _ q1 rfl);rw[hc']at q2;have q2':c=c':=q2;subst q2';exact(f3 b hb).2.2.2.2.1 x c hc'
  ·exact(hp p (by simpa [B4] using hp')).elim
 have toks:∃tk,({ s2 with heap:=h₁,toks:=s2.toks+([]:List (Str×dU)).length }:dW)={ s3 with heap:=h₁,toks:=tk }:=⟨s2.toks,by rw[← hs3];rfl⟩;obtain⟨tk,htk⟩:=toks;have st4:tn 0 h₁:=T.keep 0 s2.heap h₁ st2 λb hb o e=>keep3 b o (by rw[es3];exact dF _ e)
 have I4:Inv (B4 X N' scope s3.heap.objs.size s3 H3 fp) [] (am9 n caps σ) H3 { s3 with heap:=h₁,toks:=tk }:=aS7 S I3 f3 lt3 hns₁ keep3
 have loop:codeAny (dE X.prog X.w) X.A (.compLoop (.ListComp elt [⟨tgt,iter,ifs,0⟩] scope pos) 0 (.ref it) (.ref s2.heap.objs.size) (compEnvC scope (R4 X.env.cells scope.names []) s3.heap.objs.size X.env)) (RR (.ref s2.heap.objs.size) s3.heap.objs.size) { s3 with heap:=h₁,toks:=tk }:=by
  refine bh7 (λk s'=>∃i ys σ' H',Inv (B4 X N' scope s3.heap.objs.size s3 H3 fp) [] σ' H' s'/\tn i s'.heap/\(∀b∈fp,H' b=none)/\W i k ys σ' H') ?_ m0 ⟨0,[],_,H3,I4,st4,λb hb=>(f3 b hb).1,w0⟩
  rintro k s5 ⟨i,ys,σ5,H5,I5,st5,fr5,w5⟩
  have pz:∀p∈([]:List (dX×Obj)),False:=λp hp=>by cases hp
  rcases turn i k ys σ5 H5 w5 with⟨stop,qn⟩|⟨go,step⟩
  ·refine cZ (T.done (B4 X N' scope s3.heap.objs.size s3 H3 fp) rfl rfl rfl hc i [] s5 σ5 H5 (λ_ _=>False) I5 (fin3 (σ':=σ5) fr5 pz) st5 stop) (λr s6 ⟨hr,I6⟩=>?_) λ_ _ z=>z
   subst hr;obtain⟨m6,hn6,_⟩:=I6.loc;refine hRR _ _ _ s6 rfl ⟨m6,hn6,λh' sb=>⟨H5,az0 I3 f3 I6 sb,qn⟩⟩ ⟨s3,fp,σ5,H3,H5,rfl,I3,f3,I6,qn⟩
  ·refine cZ (T.item (B4 X N' scope s3.heap.objs.size s3 H3 fp) rfl rfl rfl hc i [] s5 σ5 H5 (λ_ _=>False) I5 (fin3 (σ':=σ5) fr5 pz) st5 go) (λr s6 ⟨u,hr,h6⟩=>?_) λ_ _ z=>z
   subst hr;refine cZ h6 (λ_ s7 ⟨x,H7,I7,r7,y7,st7,fr7⟩=>?_) λ_ _ z=>z
   have I7':=I7.pinned (fin3 (σ':=σ5) fr7 pz) (T.obj _ _ st7);refine cZ (hg _ _ _ _ _ s7 σ5 H7 x u _ I7' r7 (step x H7 y7)) (λ_ s8 ⟨σ8,H8,I8,q8⟩=>?_) λ_ _ z=>z
   refine cZ (ht _ _ _ _ _ s8 σ8 H8 _ I8 q8) (λok s9 ⟨H9,I9,q9⟩=>?_) λ_ _ z=>z
   have again:∀{σ':L2.St}{H':Hp}{s':dW},Inv (B4 X N' scope s3.heap.objs.size s3 H3 fp) ([]++aq9 fp s7.heap) σ' H' s'->Inv (B4 X N' scope s3.heap.objs.size s3 H3 fp) [] σ' H' s'/\tn (i+1) s'.heap/\∀b∈fp,H' b=none:=λ{σ' H' s'} I'=>by
    refine⟨I'.unpinned,T.keep _ _ _ st7 λb hb o e=>(I'.pin (b,o) (au _ (au _ (o7 hb e)))).1,λb hb=>?_⟩;obtain⟨o,e,d⟩:=T.obj _ _ st7 b hb;exact(I'.pin (b,o) (au _ (au _ (o7 hb e)))).2.1
   cases ok with
   | false =>
    rw[if_neg ba]at q9 ⊢;obtain⟨m',hm,w'⟩:=q9;obtain⟨a1,a2,a3⟩:=again I9;exact⟨m',hm,i+1,ys,σ8,H9,a1,a2,a3,w'⟩
   | true =>
    rw[if_pos rfl]at q9 ⊢;refine cZ (he _ _ _ _ _ s9 σ8 H9 _ I9 q9) (λy s10 ⟨vy,H10,I10,r10,q10,z10,m',hm,w'⟩=>?_) λ_ _ z=>z
    refine cZ (ai7 (X:=B4 X N' scope s3.heap.objs.size s3 H3 fp) _ s10 σ8 H10 (.ref s2.heap.objs.size) [vy] _ _ (λv H'=>v=.non/\H'=upd H10 s2.heap.objs.size (.lst (ys++[vy]))) I10 rfl (.cons r10 .nil) ⟨_,ys,vy,rfl,rfl,q10,z10,rfl,rfl⟩) (λ_ s11 ⟨v11,H11,I11,r11,e11,e12⟩=>?_) λ_ _ z=>z
    subst e12;obtain⟨a1,a2,a3⟩:=again I11;exact⟨m',hm,i+1,ys++[vy],σ8,_,a1,a2,a3,w'⟩
 show codeAny (dE X.prog X.w) X.A _ _ ({ s2 with heap:=h₁,toks:=s2.toks+([]:List (Str×dU)).length }:dW);rw[htk];exact codeAny_compStart_list loop (T.self _ _ _ _ _ st4 loop)
end
end G
namespace G
open PySem PySem.Spec PyProof.Rows L2
section
variable {X:Cx}
noncomputable def tgJ(K:ag)(f:D->Rho->Option Rho):TG:=λv σ H Q=>∃d ρ ρ' H0 Hf,f d ρ=some ρ'/\B0 Hf H/\Slots K H0 ρ σ H Hf/\Rep K Hf d v/\∀σ',Slots K H0 ρ' σ' H Hf->Q σ' H
noncomputable def JG(X:Cx)(tg:Expr)(f:D->Rho->Option Rho):Prop:=PG X tg (tgJ X.K f)
noncomputable def cD1(K:ag)(f:List D->Rho->Option Rho):TGs:=λvs σ H Q=>∃ds ρ ρ' H0 Hf,f ds ρ=some ρ'/\B0 Hf H/\Slots K H0 ρ σ H Hf/\Reps K Hf ds vs/\∀σ',Slots K H0 ρ' σ' H Hf->Q σ' H
noncomputable def JGs(X:Cx)(tg:List Expr)(f:List D->Rho->Option Rho):Prop:=PGs X tg (cD1 X.K f)
noncomputable def K5(i:Nat):D->Rho->Option Rho:=λd ρ=>some (ρ.set i (some (.val d)))
theorem aE0(i:Nat)(hN:X.N.Nodup)(hi:X.N[i]? = some x:=by rfl)(hx:Loc X.env.scope x:=by first|exact Or.inl rfl|exact Or.inr rfl)(hf:X.fn x=true\/X.env.scope.names.lookup x=some .local:=by first|exact .inl rfl|exact .inr rfl):JG X (.Name x pos) (K5 i):=by
 intro pins s σ H v u Q I r ⟨d,ρ,ρ',H0,Hf,e,ss,sl,rp,k⟩;cases e;exact bJ8 hN hi hx hf pins s σ H v u Q I r (k _ (sl.set rp))
noncomputable def y8:List D->Rho->Option Rho:=λds ρ=>match ds with
 | []=>some ρ
 | _=>none
noncomputable def O7(f:D->Rho->Option Rho)(g:List D->Rho->Option Rho):List D->Rho->Option Rho:=λds ρ=>match ds with
 | d::r=>(f d ρ).bind λρ'=>g r ρ'
 | []=>none
theorem bN7:JGs X [] y8:=by
 intro pins s σ H vs us Q I r ⟨ds,ρ,ρ',H0,Hf,e,ss,sl,rp,k⟩;cases ds with
 | nil=>cases e;exact bJ7 pins s σ H vs us Q I r ⟨rp,k _ sl⟩
 | cons d ds=>cases e
theorem bw4(h1:JG X e f)(h2:JGs X es g)(hs:(dy (e::es) X.env).map (·.2)=assign e X.env::(dy es X.env).map (·.2):=by rfl):JGs X (e::es) (O7 f g):=by
 intro pins s σ H vs us Q I r ⟨ds,ρ,ρ',H0,Hf,e,ss,sl,rp,k⟩;cases ds with
 | nil=>cases e
 | cons d ds =>
  obtain⟨ρ1,e1,e2⟩:=xbm e;obtain⟨v,vr,rfl,q1,q2⟩:=rp;exact bo7 h1 h2 hs pins s σ H _ us Q I r ⟨v,vr,rfl,d,ρ,ρ1,H0,Hf,e1,ss,sl,q1,λσ' sl'=>⟨ds,ρ1,ρ',H0,Hf,e2,ss,sl',q2,k⟩⟩
noncomputable def d6(n:Nat)(g:List D->Rho->Option Rho):D->Rho->Option Rho:=λd ρ=>match d with
 | .tuple ds=>if ds.length=n then g ds ρ else none
 | _=>none
theorem ck9(h:JGs X es g)(hc:X.calm=true:=by rfl)(hn:(dy es X.env).length=n:=by rfl)(hst:(dy es X.env).findIdx? (·.1)=none:=by rfl):JG X (.Tuple es k pos) (d6 n g):=by
 intro pins s σ H v u Q I r ⟨d,ρ,ρ',H0,Hf,e,ss,sl,rp,kk⟩;cases d with
 | tuple ds =>
  simp only[d6]at e;split at e
  ·rename_i hl;obtain⟨a,vs,rfl,q1,q2⟩:=rp;exact cc6 hc h hn hst pins s σ H _ u Q I r ⟨a,vs,rfl,B8 ss q1,by rw[q2.length,hl],ds,ρ,ρ',H0,Hf,e,ss,sl,q2,kk⟩
  ·cases e
 | _=>cases e
noncomputable def aG9(K:ag)(J:It)(ds:List D)(Hf1:Hp):Prop:=∀(i:Nat) (H Hf:Hp),B0 Hf1 Hf->B0 Hf H->(ds.length<=i->J.stop i H)/\∀d,ds[i]? = some d->J.go i H/\∀x H',J.yld i H x H'->∃Hf',Grow H Hf H' Hf'/\Rep K Hf' d x
noncomputable def tiJ(K:ag)(ρ:Rho)(ds:List D):TI:=λσ H R=>∃H0 Hf,B0 Hf H/\Slots K H0 ρ σ H Hf/\∀J H' Hf',Grow H Hf H' Hf'->aG9 K J ds Hf'->R J H'
noncomputable def JI(X:Cx)(tg iter:Expr)(f:Rho->Option (List D)):Prop:=∀ρ ds,f ρ=some ds->PI X tg iter (tiJ X.K ρ ds)
theorem aC5(h:PI X tg iter t)(i:∀σ H R,t' σ H R->t σ H R):PI X tg iter t':=λpins s σ H R I q=>h pins s σ H R I (i σ H R q)
noncomputable def h9(f:DE):Rho->Option (List D):=λρ=>(f ρ).bind λd=>match d with
 | .list ds=>some ds
 | .tuple ds=>some ds
 | _=>none
theorem aR4(h:JE X e f):JI X tg e (h9 f):=λρ ds q=>by
 obtain⟨d,e1,e2⟩:=xbm q;cases d with
 | list xs =>
  cases e2;refine aC5 (aX4 (h ρ _ e1)) λσ H R ⟨H0,Hf,s,sl,k⟩=>⟨H0,Hf,s,sl,λv H1 Hf1 g1 ⟨a,vs,h1,h2,h3⟩=>⟨a,h1,⟨vs,D9 g1.sub h2⟩,k _ H1 Hf1 g1 ?_⟩⟩
  intro i H' Hf' sa sb;have q':SqL X.K H' a vs:=D9 (sa.trans sb) h2;refine⟨λhi=>⟨vs,q',by rw[h3.length];exact hi⟩,λd hd=>?_⟩;obtain⟨v,w1,w2⟩:=h3.get hd;refine⟨⟨vs,v,q',w1⟩,λx H'' hy=>?_⟩;obtain⟨rfl,hy⟩:=hy;have:=hy vs q';rw[w1]at this;cases this;exact⟨Hf',Grow.refl sb,w2.mono sa⟩
 | tuple xs =>
  cases e2;refine aC5 (cc5 (h ρ _ e1)) λσ H R ⟨H0,Hf,s,sl,k⟩=>⟨H0,Hf,s,sl,λv H1 Hf1 g1 ⟨a,vs,h1,h2,h3⟩=>⟨a,h1,⟨vs,B8 g1.sub h2⟩,k _ H1 Hf1 g1 ?_⟩⟩
  intro i H' Hf' sa sb;have q':SqT X.K H' a vs:=B8 (sa.trans sb) h2;refine⟨λhi=>⟨vs,q',by rw[h3.length];exact hi⟩,λd hd=>?_⟩;obtain⟨v,w1,w2⟩:=h3.get hd;refine⟨⟨vs,v,q',w1⟩,λx H'' hy=>?_⟩;obtain⟨rfl,hy⟩:=hy;have:=hy vs q';rw[w1]at this;cases this;exact⟨Hf',Grow.refl sb,w2.mono sa⟩
 | _=>cases e2
noncomputable def m7(lo hi:Int):List D:=(aU (hi - lo).toNat).map λ(i:Nat)=>dJ (lo+i)
theorem aA9{K:ag}{lo hi:Int}{Hf1:Hp}:aG9 K (Itr lo (hi - lo).toNat) (m7 lo hi) Hf1:=by
 intro i H Hf sa sb;have hl:(m7 lo hi).length=(hi - lo).toNat:=by simp[m7]
 refine⟨λh=>by rw[hl]at h;exact h,λd hd=>?_⟩
 have hi':i < (hi - lo).toNat:=by
  have:=(ak.mp hd).1;rw[hl]at this;exact this
 refine⟨hi',λx H' hy=>?_⟩;obtain⟨e1,e2⟩:=hy;subst e1 e2
 have:d=.int (lo+i):=by
  have:(m7 lo hi)[i]? = some (.int (lo+i)):=by simp[m7,hi']
  rw[hd]at this;cases this;rfl
 subst this;exact⟨Hf,Grow.refl sb,rfl⟩
noncomputable def X8(f:DE):Rho->Option (List D):=λρ=>(f ρ).bind λd=>match d with
 | .int j=>if -(2 ^ 62)<=j/\j < 2 ^ 62 then some (m7 0 j) else none
 | _=>none
theorem bf4{tg e:Expr}{f:DE}{p pos:Pos}(hg:Gl X "range")(hm:X.mg "range" = none)(h:JE X e f)(hs:di [e] X.env=[(false,eval e X.env)]:=by rfl):JI X tg (.Call (.Name "range" p) [e] [] pos) (X8 f):=λρ ds q=>by
 obtain⟨d,e1,e2⟩:=xbm q;split at e2
 ·split at e2
  ·rename_i j c;cases e2;refine aC5 (bd2 hg hm (C3 (h ρ _ e1) K2 hs) hs) λσ H R ⟨H0,Hf,s,sl,k⟩=>⟨H0,Hf,s,sl,λv H1 Hf1 g1 r=>⟨j,by rw[show v=_ from r],c.1,c.2,k _ H1 Hf1 g1 ?_⟩⟩
   have:=aA9 (K:=X.K) (lo:=0) (hi:=j) (Hf1:=Hf1);rw[Int.sub_zero]at this;exact this
  ·cases e2
 ·cases e2
theorem Grow.nofr(g:Grow H Hf H' Hf')(h:H a=some o)(n:Hf a=none):Hf' a=none:=by
 cases q:Hf' a with
 | none=>rfl
 | some u =>
  rcases g.new a (by rw[q];simp) with z|z
  ·exact absurd n z
  ·rw[h]at z;cases z
noncomputable def ak0(n:Nat)(caps:List Nat)(ρ:Rho):Rho:=aq n none++caps.map λj=>match ρ[j]? with
 | some (some (.val d))=>some (.val d)
 | _=>none
noncomputable def aa0(g:D->Rho->Option Rho)(c:Rho->Option Bool)(e:DE):List D->Rho->Option (List D)
 | [],_=>some []
 | d::ds,ρ=>(g d ρ).bind λρ1=>(c ρ1).bind λb=>if b then(e ρ1).bind λy=>(aa0 g c e ds ρ1).map λr=>y::r else aa0 g c e ds ρ1
noncomputable def G4(n:Nat)(caps:List Nat)(src:Rho->Option (List D))(g:D->Rho->Option Rho)(c:Rho->Option Bool)(e:DE):Rho->Option (List D):=λρ=>(src ρ).bind λds=>if ds.length<=16777216 then aa0 g c e ds (ak0 n caps ρ) else none
noncomputable def af5(K:ag)(c:Rho->Option Bool):TT:=λσ H Q=>∃ρ b,c ρ=some b/\∃H0 Hf,B0 Hf H/\Slots K H0 ρ σ H Hf/\∀H' Hf',Grow H Hf H' Hf'->Q b H'
noncomputable def aI4(K:ag)(e:DE):TE:=λσ H Q=>∃ρ d,e ρ=some d/\tJ K ρ (λ_ v _ Hf=>Rep K Hf d v) σ H Q
noncomputable def JTs(X:Cx)(ifs:List Expr)(c:Rho->Option Bool):Prop:=PTs X ifs (af5 X.K c)
noncomputable def K9:Rho->Option Bool:=λ_=>some true
theorem aD9:JTs X [] K9:=λpins s σ H Q I ⟨ρ,b,e,H0,Hf,ss,sl,k⟩=>by
 cases e;exact bJ0 pins s σ H Q I (k H Hf (Grow.refl ss))
theorem bM8(h:JT X e c):JTs X [e] c:=λpins s σ H Q I ⟨ρ,b,e,H0,Hf,ss,sl,k⟩=>bI9 (h ρ b e) pins s σ H Q I ⟨H0,Hf,ss,sl,k⟩
theorem aT1{K:ag}{n:Nat}{caps:List Nat}{H0 H H1 H' Hf:Hp}{ρ:Rho}{σ:L2.St}(sl:Slots K H0 ρ σ H Hf):Slots K H1 (ak0 n caps ρ) (am9 n caps σ) H' Hf:=by
 have noown:∀(i:Nat) (ds:List D),(ak0 n caps ρ)[i]?≠some (some (.own ds)):=λi ds h=>by
  unfold ak0 at h;rcases bx i n with q|q
  ·rw[aw (by simpa using q),be,if_pos q]at h;cases h
  ·rw[am (by simpa using q),aE]at h;cases hj:caps[i - (aq n (none:Option B)).length]? with
   | none=>rw[hj]at h;cases h
   | some j =>
    rw[hj]at h;simp only[cS,bn.injEq]at h;split at h<;>cases h
 refine⟨by simp[ak0,am9],λi b e=>?_,λi j ds es a h1=>(noown i ds h1).elim⟩;unfold ak0 at e;unfold am9;rcases bx i n with q|q
 ·rw[aw (by simpa using q),be,if_pos q]at e;cases e
 ·rw[am (by simpa using q),aE]at e;rw[am (by simpa using q),aE];simp only[bK]at e ⊢;cases hj:caps[i - n]? with
  | none=>rw[hj]at e;cases e
  | some j =>
   rw[hj]at e;simp only[cS,bn.injEq]at e ⊢;split at e
   ·rename_i d hd;cases e;obtain⟨v,h1,h2⟩:=sl.is j _ hd;exact⟨v,by rw[h1];rfl,h2⟩
   ·cases e
theorem r8{K:ag}{n:Nat}{caps:List Nat}{ρ:Rho}{src:Rho->Option (List D)}{g:D->Rho->Option Rho}{c:Rho->Option Bool}{e:DE}{out:List D}(h:G4 n caps src g c e ρ=some out):
  ∃ds,src ρ=some ds/\∀σ H Q,tJ K ρ (λH v H' Hf'=>∃a vs,v=.ref a/\H a=none/\H' a=some (.lst vs)/\Hf' a=none/\Reps K Hf' out vs) σ H Q->aV4 n caps (tiJ K ρ ds) (tgJ K g) (af5 K c) (aI4 K e) σ H Q:=by
 obtain⟨ds,e1,e2⟩:=xbm h;split at e2
 ·rename_i hz;refine⟨ds,e1,λσ H Q ⟨H0,Hf,s,sl,k⟩=>⟨H0,Hf,s,sl,λJ H1 Hf1 g1 Y Dd hD=>?_⟩⟩
  refine⟨λi m ys σ' H'=>m=ds.length - i/\i<=ds.length/\∃Hf' ρ' o1 o2,Grow H1 Hf1 H' Hf'/\H' Dd=some (.lst ys)/\Hf' Dd=none/\Slots K (upd H1 Dd (.lst [])) ρ' σ' H' Hf'/\Reps K Hf' o1 ys/\o1.length<=i/\aa0 g c e (ds.drop i) ρ'=some o2/\o1++o2=out,
   ⟨ds.length,by simp,aW _,Hf1,ak0 n caps ρ,[],out,Grow.made g1.sub hD,A6,g1.sub.free hD,aT1 (sl.grow g1),rfl,ai _,by simpa using e2,rfl⟩,?_⟩
  rintro i m ys σ' H' ⟨rfl,hi,Hf',ρ',o1,o2,gr,hd1,hd2,sl',rp,ho,ec,eo⟩
  obtain⟨Ys,Yg⟩:=Y i H' Hf' gr.ext gr.sub;rcases bx i ds.length with hlt|hge
  ·right
   obtain⟨go,yl⟩:=Yg ds[i] (by simp[hlt]);refine⟨go,λx H2 hy=>?_⟩;obtain⟨Hf2,g2,r2⟩:=yl x H2 hy;rw[bO hlt]at ec;obtain⟨ρ1,c1,ec⟩:=xbm ec;obtain⟨b,c2,ec⟩:=xbm ec;refine⟨ds[i],ρ',ρ1,_,Hf2,c1,g2.sub,sl'.grow g2,r2,λσ3 sl3=>⟨ρ1,b,c2,_,Hf2,g2.sub,sl3,λH4 Hf4 g4=>?_⟩⟩;have gr4:=(gr.trans g2).trans g4;have hd4:H4 Dd=some (.lst ys):=g4.big _ _ (g2.big _ _ hd1);have hf4:Hf4 Dd=none:=(g2.trans g4).nofr hd1 hd2;have rp4:=rp.mono (g2.trans g4).ext;cases b with
   | false =>
    rw[if_neg ba]at ec;refine aj1 ?_;exact⟨ds.length - (i+1),by grind,rfl,hlt,Hf4,ρ1,o1,o2,gr4,hd4,hf4,sl3.grow g4,rp4,by grind,ec,eo⟩
   | true =>
    rw[if_pos rfl]at ec;refine ae6 ?_;obtain⟨y,c3,ec⟩:=xbm ec;obtain⟨o3,c4,rfl⟩:=af.mp ec;refine⟨ρ1,y,c3,_,Hf4,g4.sub,sl3.grow g4,λv H5 Hf5 g5 r5=>⟨g5.big _ _ hd4,?_,?_⟩⟩
    ·rw[rp.length,dk];grind
    ·have hf5:Hf5 Dd=none:=g5.nofr hd4 hf4;have gr5:=gr4.trans g5;refine⟨ds.length - (i+1),by grind,rfl,hlt,Hf5,ρ1,o1++[y],o3,⟨λb u q=>?_,λb u q=>?_,gr5.ext,gr5.new⟩,A6,hf5,?_,(rp4.mono g5.ext).append ⟨v,[],rfl,r5,rfl⟩,by simp;grind,c4,by simp[← eo]⟩
     ·rw[B3 (C6 q hD)];exact gr5.big b u q
     ·rw[B3 (C6 q hf5)];exact gr5.sub b u q
     ·have sl5:=(sl3.grow g4).grow g5;refine⟨sl5.len,λj bb q=>?_,sl5.apart⟩;obtain⟨w,q1,q2⟩:=sl5.is j bb q;refine⟨w,q1,?_⟩;cases bb with
      | val d=>exact q2
      | exc C=>exact q2
      | opq _=>exact q2
      | own dd =>
       obtain⟨a,vs,z1,z2,z3,z4,z5⟩:=q2;have ne:a≠Dd:=λz=>by rw[z,A6]at z4;cases z4
       exact⟨a,vs,z1,by rw[B3 ne];exact z2,z3,z4,z5⟩
  ·left
   have:i=ds.length:=by grind
   subst this;rw[ck]at ec;cases ec;rw[ar]at eo;subst eo;exact⟨Ys (ai _),k _ H' Hf' (g1.trans gr) ⟨Dd,ys,rfl,g1.big.free hD,hd1,hd2,rp⟩⟩
 ·cases e2
end
end G
namespace G
open PySem PySem.Spec PyProof.Rows L2
section
variable {X:Cx}
noncomputable def r9(N N':List Str)(n:Nat)(caps:List Nat)(sc scope:Scope):Bool :=
 (match scope.kind with | .function=>true|_=>false) &&
 (scope.names.all λy=>(match y.2 with | .cell=>false | .local=>scope.names.lookup y.1==some .local | .free=>sc.names.lookup y.1==some .cell || sc.names.lookup y.1==some .free|_=>true)) &&
 (N'.length==n+caps.length) &&
 ((aU caps.length).all λi=>match caps[i]? with
  | some j=>(match N[j]? with|some x=>N'[n+i]? == some x&&scope.names.lookup x==some .free|none=>false)
  | none=>true)
theorem aj8(h:r9 N N' n caps sc scope=true)(hN:X.N=N)(hS:X.env.scope=sc):CompSc X N' n caps scope:=by
 subst hN hS;unfold r9 at h;simp only[ah,bB]at h;obtain⟨⟨⟨h1,h2⟩,h3⟩,h4⟩:=h;refine⟨?_,λy hy e=>?_,λy hy e=>?_,λy hy e=>?_,by simpa using h3,λi j e=>?_⟩
 ·cases q:scope.kind<;>rw[q]at h1<;>first|rfl|cases h1
 ·have:=h2 y hy;rw[e]at this;cases this
 ·have:=h2 y hy;rw[e]at this;simpa using this
 ·have:=h2 y hy;rw[e]at this;simpa using this
 ·have hi:i < caps.length:=(ak.mp e).1;have:=h4 i (by simpa using hi);rw[e]at this;simp only at this;cases q:X.N[j]? with
  | none=>rw[q]at this;cases this
  | some x =>
   rw[q]at this;simp only[ah]at this;exact⟨x,rfl,by simpa using this.1,by simpa using this.2⟩
theorem aF9(S:CompSc X N' n caps scope)(I:Inv X pins σ H s):closureFor scope X.env=pure (R4 X.env.cells scope.names []) :=
 bQ1 λy hy e=>I.ok.has y.1 (S.free y hy e)
theorem bN6(S:CompSc X N' n caps scope)(hx:∀e s,X.xe e s->False)
  (hi:JI X tgt iter src) (hg:∀C s0 H0 ex,JG (B4 X N' scope C s0 H0 ex) tgt g) (ht:∀C s0 H0 ex,JTs (B4 X N' scope C s0 H0 ex) ifs c) (he:∀C s0 H0 ex,JE (B4 X N' scope C s0 H0 ex) elt e)
  (hc:X.calm=true:=by rfl) (hs:∀x,dz iter X.env x=pure x:=by intro _;rfl):JN X (.ListComp elt [⟨tgt,iter,ifs,0⟩] scope pos) (G4 n caps src g c e):=by
 intro ρ out h;obtain⟨ds,e1,k⟩:=r8 (K:=X.K) h;intro pins s σ H Q I t;rw[eval_ListComp];refine wpAny_comprehension_free (use:=none) rfl hs (aF9 S I) S.kind S.loc (at3 (RR:=λacc C=>compPost (dE X.prog X.w) X.A X.xe none (EP X pins σ Q) acc C) S hx hc (hi ρ ds e1) (g:=tgJ X.K g) (tc:=af5 X.K c) (te:=aI4 X.K e) hg ht (λC s0 H0 ex pins s σ H Q I ⟨ρ,d,e,t⟩=>he C s0 H0 ex ρ d e pins s σ H Q I t) I (k σ H Q t) ?_);intro Dd C r s' hr ⟨m,hn,kk⟩ _;subst hr;exact⟨m,hn,λh' sb=>let⟨H',I',q⟩:=kk h' sb;⟨.ref Dd,H',I',rfl,q⟩⟩
theorem o4(S:CompSc X N' n caps scope)(hx:∀e s,X.xe e s->False)(hc:X.calm=true)
  (hN:X.N.Nodup) (hi:X.N[i]? = some x) (hl:X.env.scope.names.lookup x=some .local) (hsrc:PI X tgt iter wi) (hg:∀C s0 H0 ex,PG (B4 X N' scope C s0 H0 ex) tgt g) (ht:∀C s0 H0 ex,PTs (B4 X N' scope C s0 H0 ex) ifs tc) (he:∀C s0 H0 ex,PE (B4 X N' scope C s0 H0 ex) elt te)
  (hsw:swapsWith (.ListComp elt [⟨tgt,iter,ifs,0⟩] scope pos) (some (.Name x pos')) spos.line X.env=pure true) (hs:∀x,dz iter X.env x=pure x) :
  PS X (.Assign [.Name x pos'] (.ListComp elt [⟨tgt,iter,ifs,0⟩] scope pos) spos) (λEn σ H=>aV4 n caps wi g tc te σ H λv H'=>En.nx (σ.set i (some v)) H'):=by
 intro pins s σ H En I h;rw[exec_Assign_Name_used _ _ _ _ hsw];refine cX (wpAny_standAt (cX ?_));show dD _ X.A (do let _ ← comprehension (.ListComp elt [⟨tgt,iter,ifs,0⟩] scope pos) scope X.env _ (newList []) false (eval iter X.env) (some (assign (.Name x pos') X.env))) _ _ s
 refine cX (cZ (wpAny_comprehension_free (use:=some (assign (.Name x pos') X.env)) (Q:=λ_ s'=>SP X pins En .next s') rfl hs (aF9 S I) S.kind S.loc
  (at3 (RR:=λacc C=>compPost (dE X.prog X.w) X.A X.xe (some (assign (.Name x pos') X.env)) (λ_ s'=>SP X pins En .next s') acc C) S hx hc hsrc hg ht he I h ?_)) (λ_ s' hq=>cY (cY hq)) λ_ _ z=>z)
 intro Dd C r s' hr _ ⟨s2,fp,σ',H2,H',eC,I2,f2,I',q⟩;subst hr eC;have IX:Inv X pins σ H' s':=az0 (h':=s'.heap) I2 f2 I' (Heap.SameBut.refl ..);obtain⟨mC,hnC,_⟩:=I'.loc
 have hCL:s2.heap.objs.size≠X.env.locals:=λz=>by
  have:=I2.lt;rw[← z]at this;exact bg _ this
 show dD _ X.A (assign (.Name x pos') X.env (.ref Dd)) _ _ _;refine wpAny_assign_Name (ax1 (v:=.ref Dd) IX hN hi (.inl hl) rfl (λs3 I3 ⟨a,sb,ha⟩=>?_) (.inr hl))
 have hCa:s2.heap.objs.size≠a:=λz=>by
  rcases ha with ha|ha
  ·exact hCL (z.trans ha)
  ·obtain⟨v,q'⟩:=I2.cell x a ha;have:=q'.lt;rw[← z]at this;exact bg _ this
 refine⟨mC,hnC.sameBut sb hCa,λh' sb'=>?_⟩;refine⟨_,H',I3.turned (t':=s3.toks) (it:=s2.heap.objs.size) (λb o hb e=>sb'.extBut b o hb e) I'.free hCL (.inr I2.sz) (λy c e z=>?_) (λp hp z=>?_),q⟩
 ·obtain⟨v,q'⟩:=I2.cell y c e;have:=q'.lt;rw[z]at this;exact bg _ this
 ·have:=dG (I2.pin p hp).1;rw[z]at this;exact bg _ this
noncomputable def af9(i:Nat)(f:Rho->Option (List D)):DS:=λρ=>(f ρ).map λds=>.nx (ρ.set i (some (.val (.list ds))))
theorem bN3(i:Nat)(hN:X.N.Nodup)(S:CompSc X N' n caps scope)(hx:∀e s,X.xe e s->False)
  (hi:JI X tgt iter src) (hg:∀C s0 H0 ex,JG (B4 X N' scope C s0 H0 ex) tgt g) (ht:∀C s0 H0 ex,JTs (B4 X N' scope C s0 H0 ex) ifs c) (he:∀C s0 H0 ex,JE (B4 X N' scope C s0 H0 ex) elt e)
  (hi2:X.N[i]? = some x:=by rfl) (hl:X.env.scope.names.lookup x=some .local:=by rfl) (hsw:swapsWith (.ListComp elt [⟨tgt,iter,ifs,0⟩] scope pos) (some (.Name x pos')) spos.line X.env=pure true:=by rfl)
  (hc:X.calm=true:=by rfl) (hs:∀x,dz iter X.env x=pure x:=by intro _;rfl):JS X (.Assign [.Name x pos'] (.ListComp elt [⟨tgt,iter,ifs,0⟩] scope pos) spos) (af9 i (G4 n caps src g c e)):=λρ fl q H0 Hf0=>by
 obtain⟨out,e1,e2⟩:=af.mp q;subst e2;obtain⟨ds,e3,k⟩:=r8 (K:=X.K) e1;refine F6 (o4 S hx hc hN hi2 hl (hi ρ ds e3) (g:=tgJ X.K g) (tc:=af5 X.K c) (te:=aI4 X.K e) hg ht (λC s0 H0 ex pins s σ H Q I ⟨ρ,d,e,t⟩=>he C s0 H0 ex ρ d e pins s σ H Q I t) hsw hs) λEn σ H ⟨Hf,a,ee⟩=>k σ H _ ⟨H0,Hf,a.gr.sub,a.sl,λv H' Hf' gg ⟨p,vs,z1,z2,z3,z4,z5⟩=>?_⟩
 subst z1;have g2:=gg.freeze z3 z4 z2;exact ee _ H' _ ⟨a.gr.trans g2,(a.sl.grow g2).set ⟨p,vs,rfl,SqL.of A6,z5.mono (C7 z4)⟩⟩ g2.ext
theorem cj9{kt k2 pt2}(hN:X.N.Nodup)(ha:JA X [a,b] f)(hw:swappedStores [.Tuple [.Name x px,.Name y py] kt pt] (.Tuple [a,b] k2 pt2) X.env=pure (some [x,y]))(hij:i≠j)
  (hi:X.N[i]? = some x:=by rfl) (hj:X.N[j]? = some y:=by rfl) (hx:X.env.scope.names.lookup x=some .local:=by rfl) (hy:X.env.scope.names.lookup y=some .local:=by rfl) (hc:X.calm=true:=by rfl)
  (hs:swapsWithSole [.Tuple [.Name x px,.Name y py] kt pt] (.Tuple [a,b] k2 pt2) pos.line X.env=pure false:=by rfl):JS X (.Assign [.Tuple [.Name x px,.Name y py] kt pt] (.Tuple [a,b] k2 pt2) pos) (bn1 i j f):=λρ fl q H0 Hf0=>by
 obtain⟨ds,e1,e2⟩:=xbm q;split at e2
 ·cases e2;refine F6 (cc3 hc hN hi hj hij hx hy (λpos pins s σ H Q I t=>ha.run ρ _ e1 pos pins s σ H Q I t) hw hs) λEn σ H ⟨Hf,at',e⟩=>⟨H0,Hf,at'.gr.sub,at'.sl,λvs H' Hf' gg rp=>?_⟩
  obtain⟨v,r,rfl,r1,w,r',rfl,r2,r3⟩:=rp;cases r3;exact⟨v,w,rfl,e _ H' Hf' ⟨at'.gr.trans gg,((at'.sl.grow gg).set r1).set r2⟩ gg.ext⟩
 ·cases e2
noncomputable def cE8(f:DE)(g:D->Rho->Option Rho):DS:=λρ=>(f ρ).bind λd=>(g d ρ).map Fl.nx
noncomputable def bc9(i:Nat)(f:Rho->Option (List D)):DS:=λρ=>(f ρ).map λds=>.nx (ρ.set i (some (.own ds)))
theorem Slots.setOwn{K:ag}{H0 H H' Hf Hf':Hp}{ρ:Rho}{σ:L2.St}{i:Nat}{ds:List D}{a:dX}{vs:List V}(s:Slots K H0 ρ σ H Hf)(g:Grow H Hf H' Hf')(n0:H0 a=none)(n:H a=none)(h:H' a=some (.lst vs))(nf:Hf' a=none)(r:Reps K Hf' ds vs):
  Slots K H0 (ρ.set i (some (.own ds))) (σ.set i (some (.ref a))) H' Hf':=by
 have s':=s.grow g
 have old:∀(j:Nat) (es:List D),i≠j->ρ[j]? = some (some (.own es))->σ[j]?≠some (some (.ref a)):=λj es hj e z=>by
  obtain⟨v,h1,b,us,e1,h2,_⟩:=s.is j _ e;rw[z]at h1;cases h1;cases e1;rw[n]at h2;cases h2
 refine⟨by simp[s.len],λj b e=>?_,λj k ds1 es b h1 h2 h3 h4=>?_⟩
 ·by_cases q:i=j
  ·subst q;have hi:i < ρ.length:=by simpa using (ak.mp e).1
   have hi':i < σ.length:=by rw[← s.len];exact hi
   rw[az hi]at e;cases e;exact⟨_,az hi',a,vs,rfl,h,nf,n0,r⟩
  ·rw[av q]at e;obtain⟨u,h1,h2⟩:=s'.is j b e;exact⟨u,by rw[av q];exact h1,h2⟩
 ·by_cases qj:i=j
  ·by_cases qk:i=k
   ·rw[← qj,← qk]
   ·subst qj;have hi:i < ρ.length:=by simpa using (ak.mp h1).1
    rw[az (by rw[← s.len];exact hi)]at h3;rw[av qk]at h2 h4;cases h3;exact(old k es qk h2 h4).elim
  ·rw[av qj]at h1 h3;by_cases qk:i=k
   ·subst qk;have hi:i < ρ.length:=by simpa using (ak.mp h2).1
    rw[az (by rw[← s.len];exact hi)]at h4;cases h4;exact(old j ds1 qj h1 h3).elim
   ·rw[av qk]at h2 h4;exact s.apart j k ds1 es b h1 h2 h3 h4
theorem ck0(i:Nat)(hN:X.N.Nodup)(h:JN X e f)(hi:X.N[i]? = some x:=by rfl)(hx:Loc X.env.scope x:=by first|exact Or.inl rfl|exact Or.inr rfl)
  (hs:swapsWith e (some (.Name x pos')) pos.line X.env=pure false:=by rfl) (hf:X.fn x=true\/X.env.scope.names.lookup x=some .local:=by first|exact .inl rfl|exact .inr rfl):JS X (.Assign [.Name x pos'] e pos) (bc9 i f):=λρ fl q H0 Hf0=>by
 obtain⟨ds,e1,e2⟩:=af.mp q;subst e2;refine F6 (ai6 hN hi hx (h ρ ds e1) hs hf) λEn σ H ⟨Hf,a,e⟩=>⟨H0,Hf,a.gr.sub,a.sl,λv H' Hf' g ⟨p,vs,z1,z2,z3,z4,z5⟩=>?_⟩
 subst z1;exact e _ H' Hf' ⟨a.gr.trans g,a.sl.setOwn g (a.gr.big.free z2) z2 z3 z4 z5⟩ g.ext
noncomputable def aB8(i:Nat)(f:DE):DS:=λρ=>match ρ[i]? with
 | some (some (.own ds))=>if ds.length < 16777216 then(f ρ).map λd=>.nx (ρ.set i (some (.own (ds++[d])))) else none
 | _=>none
theorem ck1(i:Nat)(h:JE X e f)(hN:X.N[i]? = some x:=by rfl)(hv:Vis X.env.scope x:=by first|exact Or.inl rfl|exact Or.inr (Or.inl rfl)|exact Or.inr (Or.inr rfl))(hd:(x==("__debug__" : Str))=false:=by decide)
  (hcd:(x==("__classdict__" : Str))=false:=by decide) (hbase:dB (.Name x p) "append" X.env (eval (.Name x p) X.env)=eval (.Name x p) X.env:=by rfl)
  (hfew:((backTo cpos (di [e] X.env)).all (λx=>!x.1)&&(backToKw cpos (keywordEach [] X.env)).all (λx=>x.1.isSome)
   && decide (([e]:List Expr).length+([]:List dw).length+(if([]:List dw).isEmpty then 0 else 1) < 30))=true:=by rfl)
  (hline:(apos.endLine==cpos.line)=true:=by rfl) (hs:di [e] X.env=[(false,eval e X.env)]:=by rfl) (hsw:swapsWith (.Call (.Attribute (.Name x p) "append" apos) [e] [] cpos) none pos.line X.env=pure false:=by rfl) :
  JS X (.Expr (.Call (.Attribute (.Name x p) "append" apos) [e] [] cpos) pos) (aB8 i f):=λρ fl q H0 Hf0=>by
 unfold aB8 at q;split at q
 ·rename_i ds eo;split at q
  ·rename_i hz;obtain⟨d,e1,e2⟩:=af.mp q;subst e2;refine F6 (an5 (ax6 PySem.F.plainAttrs_list PySem.F.slot_list_append PySem.F.type_list_append ai7 (U8 hN hv hd hcd) (C3 (h ρ d e1) K2 hs) hbase hfew hline hs) hsw) λEn σ H ⟨Hf,a,ee⟩=>?_
   obtain⟨v,h1,b,vs,rfl,h2,h3,h4,h5⟩:=a.sl.is i _ eo;refine⟨_,h1,.inl ⟨rfl,vs,SqL.of h2⟩,H0,Hf,a.gr.sub,a.sl,λw H' Hf' gg r=>?_⟩;have hb:H' b=some (.lst vs):=gg.big _ _ h2;have hfb:Hf' b=none:=gg.nofr h2 h3;have g2:=a.gr.trans gg;have sl2:=a.sl.grow gg;refine⟨b,vs,w,rfl,rfl,hb,by rw[h5.length,dk];exact hz,ee _ _ Hf' ⟨⟨λc u z=>?_,λc u z=>?_,g2.ext,g2.new⟩,?_⟩ gg.ext⟩
   ·rw[B3 (C6 z h4)];exact g2.big c u z
   ·rw[B3 (C6 z hfb)];exact g2.sub c u z
   ·refine⟨by simpa using sl2.len,λj bb z=>?_,λj k ds1 es c q1 q2 q3 q4=>?_⟩
    ·by_cases qj:i=j
     ·subst qj;have hi:i < ρ.length:=(ak.mp eo).1;rw[az hi]at z;cases z;exact⟨_,h1,b,vs++[w],rfl,A6,hfb,h4,(h5.mono gg.ext).append ⟨w,[],rfl,r,rfl⟩⟩
     ·rw[av qj]at z;obtain⟨u,z1,z2⟩:=sl2.is j bb z;refine⟨u,z1,?_⟩;cases bb with
      | val d=>exact z2
      | exc C=>exact z2
      | opq _=>exact z2
      | own dd =>
       obtain⟨a',vs',y1,y2,y3,y4,y5⟩:=z2
       have ne:a'≠b:=λzz=>by
        subst zz y1;exact qj (a.sl.apart i j ds dd a' eo z h1 z1)
       exact⟨a',vs',y1,by rw[B3 ne];exact y2,y3,y4,y5⟩
    ·have q1':∃dd,ρ[j]? = some (some (.own dd)):=by
      by_cases qj:i=j
      ·subst qj;exact⟨ds,eo⟩
      ·rw[av qj]at q1;exact⟨_,q1⟩
     have q2':∃dd,ρ[k]? = some (some (.own dd)):=by
      by_cases qj:i=k
      ·subst qj;exact⟨ds,eo⟩
      ·rw[av qj]at q2;exact⟨_,q2⟩
     obtain⟨d1,q1'⟩:=q1';obtain⟨d2,q2'⟩:=q2';exact a.sl.apart j k d1 d2 c q1' q2' q3 q4
  ·cases q
 ·cases q
noncomputable def frz(i:Nat)(ρ:Rho):Rho:=match ρ[i]? with
 | some (some (.own ds))=>ρ.set i (some (.val (.list ds)))
 | _=>ρ
theorem by4{K:ag}{H0 Hf0 H Hf:Hp}{ρ:Rho}{σ:L2.St}(i:Nat)(a:At K H0 Hf0 ρ σ H Hf):∃Hf',B0 Hf Hf'/\At K H0 Hf0 (frz i ρ) σ H Hf':=by
 unfold frz;split
 ·rename_i ds eo;obtain⟨v,h1,b,vs,rfl,h2,h3,h4,h5⟩:=a.sl.is i _ eo;have g:Grow H0 Hf0 H (upd Hf b (.lst vs)):=a.gr.freeze h2 h3 h4;refine⟨upd Hf b (.lst vs),C7 h3,g,⟨by simpa using a.sl.len,λj bb z=>?_,λj k ds1 es c q1 q2 q3 q4=>?_⟩⟩
  ·have hi:i < ρ.length:=(ak.mp eo).1;by_cases qj:i=j
   ·subst qj;rw[az hi]at z;cases z;exact⟨_,h1,b,vs,rfl,SqL.of A6,h5.mono (C7 h3)⟩
   ·rw[av qj]at z;obtain⟨u,z1,z2⟩:=a.sl.is j bb z;refine⟨u,z1,?_⟩;cases bb with
    | val d=>exact Rep.mono (C7 h3) z2
    | opq _=>exact z2
    | exc C =>
     obtain⟨a',o',C',y1,y2,y3⟩:=z2;exact⟨a',o',C',y1,C7 h3 _ _ y2,y3⟩
    | own dd =>
     obtain⟨a',vs',y1,y2,y3,y4,y5⟩:=z2
     have ne:a'≠b:=λzz=>by
      subst zz y1;exact qj (a.sl.apart i j ds dd a' eo z h1 z1)
     exact⟨a',vs',y1,y2,by rw[B3 ne];exact y3,y4,y5.mono (C7 h3)⟩
  ·have hi:i < ρ.length:=(ak.mp eo).1;have qj:i≠j:=λz=>by subst z;rw[az hi]at q1;cases q1
   have qk:i≠k:=λz=>by subst z;rw[az hi]at q2;cases q2
   rw[av qj]at q1;rw[av qk]at q2;exact a.sl.apart j k ds1 es c q1 q2 q3 q4
 ·exact⟨Hf,B0.refl _,a⟩
noncomputable def cE6(i:Nat)(f:DS):DS:=λρ=>f (frz i ρ)
theorem cF9(i:Nat){st:Stmt}{f:DS}(h:JS X st f):JS X st (cE6 i f):=λρ fl q H0 Hf0=>F6 (h (frz i ρ) fl q H0 Hf0) λEn σ H ⟨Hf,a,e⟩=>by
 obtain⟨Hf',s,a'⟩:=by4 i a;exact⟨Hf',a',Fl.ends_mono e s⟩
noncomputable def cs3(K:ag)(H0 Hf0:Hp)(f:DS):TS:=λEn σ H=>∃ρ fl,f ρ=some fl/\tJS K H0 Hf0 ρ fl En σ H
theorem bJ2(h:JSs X sts f):PSs X sts (cs3 X.K H0 Hf0 f):=λpins s σ H En I ⟨ρ,fl,e,t⟩=>h ρ fl e H0 Hf0 pins s σ H En I t
theorem cc1(h:JT X e c):PT X e (af5 X.K c):=λpins s σ H Q I ⟨ρ,b,e,t⟩=>h ρ b e pins s σ H Q I t
noncomputable def Q8(t:Rho->Option Bool)(f:DS):Nat->DS
 | 0=>λ_=>none
 | n+1=>λρ=>(t ρ).bind λc=>if c then(f ρ).bind λfl=>match fl with
   | .nx ρ'=>Q8 t f n ρ'
   | .ct ρ'=>Q8 t f n ρ'
   | .bk ρ'=>some (.nx ρ')
   | .rt d=>some (.rt d)
  else some (.nx ρ)
theorem ae5:∀{n:Nat}{ρ:Rho}{fl:Fl},Q8 t f n ρ=some fl->Q8 t f (n+1) ρ=some fl
 | 0,_,_,h=>by cases h
 | n+1,ρ,fl,h=>by
  obtain⟨c,e1,h⟩:=xbm h;show(t ρ).bind _=_;rw[e1];cases c with
  | false=>exact h
  | true =>
   obtain⟨fl1,e2,h⟩:=xbm h;show(f ρ).bind _=_;rw[e2];cases fl1 with
   | nx ρ'=>exact ae5 (n:=n) h
   | ct ρ'=>exact ae5 (n:=n) h
   | bk ρ'=>exact h
   | rt d=>exact h
theorem aL6(h:Q8 t f n ρ=some fl)(l:n<=m):Q8 t f m ρ=some fl:=by
 induction l with
 | refl=>exact h
 | step _ ih=>exact ae5 ih
open Classical in
noncomputable def Z3(t:Rho->Option Bool)(f:DS):DS:=λρ=>if h:∃fl n,Q8 t f n ρ=some fl then some h.choose else none
theorem ai4(h:Q8 t f n ρ=some fl):Z3 t f ρ=some fl:=by
 have hx:∃fl n,Q8 t f n ρ=some fl:=⟨fl,n,h⟩;unfold Z3;rw[dif_pos hx];obtain⟨m,hm⟩:=hx.choose_spec;have h1:=aL6 h (Nat.le_max_left n m);have h2:=aL6 hm (Nat.le_max_right n m);rw[h1]at h2;exact h2.symm
theorem be0(h:Z3 t f ρ=some fl):∃n,Q8 t f n ρ=some fl:=by
 unfold Z3 at h;split at h
 ·rename_i hx;cases h;exact hx.choose_spec
 ·cases h
theorem bv4(hc:JT X c t)(hb:JSs X body f)(hp:PassesOwn (dE X.prog X.w) X.A X.env X.xe:=by exact PassesOwn.never):JS X (.While c body [] pos) (Z3 t f):=λρ fl q H0 Hf0=>by
 obtain⟨n,hn⟩:=be0 q;refine F6 (bo0 hp (cc1 hc) (bJ2 (H0:=H0) (Hf0:=Hf0) hb)) λEn σ H ⟨Hf,a,e⟩=>?_
 refine⟨λm σ H=>∃Hf' ρ',At X.K H0 Hf0 ρ' σ H Hf'/\B0 Hf Hf'/\Q8 t f m ρ'=some fl,⟨n,Hf,ρ,a,B0.refl _,hn⟩,?_⟩
 rintro m σ' H' ⟨Hf',ρ',a',s',hm⟩
 cases m with
 | zero=>cases hm
 | succ m =>
  obtain⟨b,e1,hm⟩:=xbm hm;refine⟨ρ',b,e1,H0,Hf',a'.gr.sub,a'.sl,λH2 Hf2 g2=>?_⟩;have a2:=a'.grow g2;have s2:=s'.trans g2.ext;cases b with
  | false =>
   have:fl=.nx ρ':=by simpa using hm.symm
   subst this;exact aj1 (e σ' H2 Hf2 a2 s2)
  | true =>
   obtain⟨fl1,e2,hm⟩:=xbm (show(f ρ').bind _=some fl from hm);refine ae6 ⟨λσ3 H3=>∃m',m' < m+1/\∃Hf' ρ',At X.K H0 Hf0 ρ' σ3 H3 Hf'/\B0 Hf Hf'/\Q8 t f m' ρ'=some fl,λσ3 H3 z=>z,ρ',fl1,e2,Hf2,a2,?_⟩;cases fl1 with
   | nx ρ3=>exact λσ3 H3 Hf3 a3 s3=>⟨m,cj _,Hf3,ρ3,a3,s2.trans s3,hm⟩
   | ct ρ3=>exact λσ3 H3 Hf3 a3 s3=>⟨m,cj _,Hf3,ρ3,a3,s2.trans s3,hm⟩
   | bk ρ3 =>
    cases hm;exact λσ3 H3 Hf3 a3 s3=>e σ3 H3 Hf3 a3 (s2.trans s3)
   | rt d =>
    cases hm;exact e
theorem bN1:JS X (.Pass pos) W9:=λρ fl q H0 Hf0=>by
 cases q;exact F6 bJ3 λEn σ H ⟨Hf,a,e⟩=>e σ H Hf a (B0.refl _)
end
noncomputable def P6(n:Nat)(ds:List D):Rho:=ds.map (λd=>some (B.val d))++aq (n - ds.length) none
noncomputable def M5(g:DS)(n:Nat):List D->Option D:=λds=>(g (P6 n ds)).bind λfl=>match fl with
 | .rt d=>some d
 | .nx _=>some .none
 | _=>none
theorem aa4{K:ag}{H0 H Hf:Hp}{N:List Str}{ds:List D}{vs:List V}(r:Reps K Hf ds vs):Slots K H0 (P6 N.length ds) (L2.start N vs) H Hf:=by
 have hl:=r.length
 have noown:∀(i:Nat) (b:B),(P6 N.length ds)[i]? = some (some b)->∃d,ds[i]? = some d/\b=.val d:=λi b h=>by
  unfold P6 at h;rcases bx i ds.length with q|q
  ·rw[aw (by simpa using q),aE]at h;rw[aV q]at h ⊢;simp only[cS,bn.injEq]at h;exact⟨ds[i],rfl,h.symm⟩
  ·rw[am (by simpa using q),be]at h;split at h<;>cases h
 refine⟨by simp[P6,L2.start,hl],λi b e=>?_,λi j d1 d2 a e1 _ _ _=>?_⟩
 ·obtain⟨d,h1,h2⟩:=noown i b e;subst h2;obtain⟨v,h3,h4⟩:=r.get h1;refine⟨v,?_,h4⟩;have hi:i < vs.length:=(ak.mp h3).1;unfold L2.start;rw[aw (by simpa using hi),aE,h3];rfl
 ·obtain⟨d,_,h2⟩:=noown i _ e1;cases h2
theorem bP1{P:dq}{w:World}{K:ag}{mg:Str->Option dU}{base:Heap}{x qual:Str}{st:Stmt}{f:dX}{fd:dt}{N ps:List Str}{k:Nat}{g:DS}(F:Fun K x qual st f fd)(S:FnScope N ps (A9 st))
  (hb:∀(cdv:dU) (A:dr) (outer:List Env) (s:dW) (H:Hp) (E:XK),Room k (A.deeper (envOfC qual (A9 st) s.heap.objs.size f cdv))->JSs (ah2 CX0 P w K mg base N qual (A9 st) f cdv A outer s H E).nox (C4 st) g) :
  FnOk P w K mg base CX0 (k+1) f fd ps (spF K ps.length (M5 g N.length)):=by
 refine F.ok S (λvs H Q E h=>h.1) λcdv A outer s H vs Q E hr hsp=>?_
 obtain⟨hlen,Hf,ds,d,ss,rp,e,kk⟩:=hsp;obtain⟨fl,e1,e2⟩:=xbm e;refine⟨_,hb cdv A outer s H E hr _ fl e1 H Hf,Hf,⟨Grow.refl ss,aa4 rp⟩,?_⟩;cases fl with
 | rt d'=>cases e2;exact λv H' Hf' g r=>kk v H' Hf' g r
 | nx ρ=>cases e2;exact λσ' H' Hf' a _=>kk _ H' Hf' a.gr rfl
 | bk ρ=>cases e2
 | ct ρ=>cases e2
end G
namespace G
open PySem PySem.Spec PyProof.Rows L2
noncomputable def SIt:Bool->Heap->dX->dX->Nat->Prop
 | true=>Heap.IsTupleIter
 | false=>Heap.IsListIter
noncomputable def SSq:Bool->Heap->dX->Array dU->Prop
 | true=>Heap.IsTuple
 | false=>Heap.IsList
section
variable {prog:Program}{w:World}{A:Around}{E:Value->Shared->Prop}{s:Shared}{t t1 t2:Bool}
theorem SIt.ext(x:SIt t h it l k)(e:∀o,h.get? it=some o->h'.get? it=some o):SIt t h' it l k:=by
 cases t with
 | true=>obtain⟨o,ho,r⟩:=x;exact⟨o,e o ho,r⟩
 | false=>obtain⟨o,ho,r⟩:=x;exact⟨o,e o ho,r⟩
theorem SSq.ext(x:SSq t h l xs)(e:∀o,h.get? l=some o->h'.get? l=some o):SSq t h' l xs:=by
 cases t with
 | true=>obtain⟨o,ho,r⟩:=x;exact⟨o,e o ho,r⟩
 | false=>obtain⟨o,ho,r⟩:=x;exact⟨o,e o ho,r⟩
theorem SIt.lt(x:SIt t h it l k):it < h.objs.size:=by
 cases t with
 | true=>obtain⟨o,ho,_⟩:=x;exact dG ho
 | false=>obtain⟨o,ho,_⟩:=x;exact dG ho
theorem aP0(hit:s.heap.IsTupleIter it l k)(hl:s.heap.IsTuple l xs)(hx:xs[k]? = some x)
  (hQ:∀h',h'.IsTupleIter it l (k+1)->Heap.SameBut it s.heap h'->Q x { s with heap:=h' }):dD (dE prog w) A (Builtin.SmallTypes.nextOf (.ref it)) Q E s:=by
 obtain⟨o,ho,hc,hd⟩:=id hit;obtain⟨ol,hol,_,nl,hdl⟩:=hl;unfold Builtin.SmallTypes.nextOf;refine cX (wpAny_callSpecial?_slot (name:=Str.ofString "__next__") hit.typeIs F.slot_tuple_iterator_next (wpAny_call_entry F.slot_tuple_iterator_next hit.typeIs F.entry_tuple_iterator_next ?_ (F.args_tuple_iterator_next_1 _)));show dD _ _ (field (.ref it) 0 >>= _) _ _ s;refine cX (dh ho hd (x:=.ref l) rfl ?_);show dD _ _ (if(dO l==dP)=true then _ else _) _ _ s;rw[if_neg (show ¬((dO l==dP)=true) from ba)];show dD _ _ (field (.ref it) 1 >>= _) _ _ s;refine cX (dh ho hd (x:=.int k 0) rfl ?_);show dD _ _ (seqItems? (.ref l) >>= _) _ _ s;refine cX (wpAny_seqItems hol hdl ?_);simp only[ci,hx];refine cX (wpAny_setField ho hd (by simp) (cY ⟨x,rfl,cY (hQ _ ⟨_,Heap.get?_update_self _ ho (Obj.isFreed_of_fields (Obj.data_mapFields hd _)),(Obj.cls_mapFields ..).trans hc,?_⟩ (Heap.SameBut.update ..))⟩));rw[Obj.data_mapFields hd];simp[rawInt]
theorem bc2(hh:A.handled=none)(hit:s.heap.IsTupleIter it l k)(hl:s.heap.IsTuple l xs)(hx:xs[k]? = none)
  (hE:∀h' e,Heap.ExtBut it s.heap h'->(∃o,h'.get? e=some o/\o.cls=.type "StopIteration")->E (.ref e) { s with heap:=h' }):dD (dE prog w) A (Builtin.SmallTypes.nextOf (.ref it)) Q E s:=by
 obtain⟨o,ho,hc,hd⟩:=id hit;obtain⟨ol,hol,_,nl,hdl⟩:=hl;unfold Builtin.SmallTypes.nextOf;refine cX (wpAny_callSpecial?_slot (name:=Str.ofString "__next__") hit.typeIs F.slot_tuple_iterator_next (wpAny_call_entry F.slot_tuple_iterator_next hit.typeIs F.entry_tuple_iterator_next ?_ (F.args_tuple_iterator_next_1 _)));show dD _ _ (field (.ref it) 0 >>= _) _ _ s;refine cX (dh ho hd (x:=.ref l) rfl ?_);show dD _ _ (if(dO l==dP)=true then _ else _) _ _ s;rw[if_neg (show ¬((dO l==dP)=true) from ba)];show dD _ _ (field (.ref it) 1 >>= _) _ _ s;refine cX (dh ho hd (x:=.int k 0) rfl ?_);show dD _ _ (seqItems? (.ref l) >>= _) _ _ s;refine cX (wpAny_seqItems hol hdl ?_);simp only[ci,hx];refine cX (wpAny_rule (cX (wpAny_setField ho hd (by simp) ?_)));show dD _ _ (newExc (.type "StopIteration") [] >>= _) _ _ _;refine cX ?_;simp only[newExc,newTuple];refine cX (de ?_ (by size_fits));refine cX (m:=firstArgMember _ _) (wpAny_of_eq (a:=dP) (by first|rfl|(simp only[firstArgMember];rfl)) ?_);refine de ?_ (by size_fits);simp only[raiseNew];refine cX (wpAny_handled ?_);first|rw[show A.in1.handled=none from hh]|rw[hh]
 refine cX (cY (wpAny_throw ?_));exact hE _ _ (((Heap.SameBut.update ..).extBut.push _).push _) ⟨_,dH _ rfl,rfl⟩
theorem aq2(hit:SIt t s.heap it l k)(hl:SSq t s.heap l xs)(hx:xs[k]? = some x)
  (hQ:∀h',SIt t h' it l (k+1)->Heap.SameBut it s.heap h'->Q x { s with heap:=h' }):dD (dE prog w) A (Builtin.SmallTypes.nextOf (.ref it)) Q E s:=by
 cases t with
 | true=>exact aP0 hit hl hx hQ
 | false=>exact wpAny_nextOf_list_item hit hl hx hQ
theorem aW1(hh:A.handled=none)(hit:SIt t s.heap it l k)(hl:SSq t s.heap l xs)(hx:xs[k]? = none)
  (hE:∀h' e,Heap.ExtBut it s.heap h'->(∃o,h'.get? e=some o/\o.cls=.type "StopIteration")->E (.ref e) { s with heap:=h' }):dD (dE prog w) A (Builtin.SmallTypes.nextOf (.ref it)) Q E s:=by
 cases t with
 | true=>exact bc2 hh hit hl hx hE
 | false=>exact wpAny_nextOf_list_end hh hit hl hx hE
theorem bc4{z TI TO i1 i2 l1 l2:dX}{k1 k2:Nat}{xs ys:Array dU}{x y a b:dU}{Q:dU->dW->Prop}(Z:ZipApart z TI TO i1 i2 l1 l2)
  (hz:IsZip s.heap z TI TO .none) (hTI:IsPair s.heap TI (.ref i1) (.ref i2)) (hTO:IsPair s.heap TO a b) (h1:SIt t1 s.heap i1 l1 k1) (h2:SIt t2 s.heap i2 l2 k2) (hl1:SSq t1 s.heap l1 xs) (hl2:SSq t2 s.heap l2 ys) (hx:xs[k1]? = some x) (hy:ys[k2]? = some y)
  (hQ:∀h',IsZip h' z TI TO (rawInt s.heap.objs.size)->IsPair h' TO x y->SIt t1 h' i1 l1 (k1+1)->SIt t2 h' i2 l2 (k2+1)->IsPair h' s.heap.objs.size x y->h'.objs.size=s.heap.objs.size+1 ->
   (∀c o,c≠z->c≠TO->c≠i1->c≠i2->s.heap.get? c=some o->h'.get? c=some o)->Q (.ref s.heap.objs.size) { s with heap:=h' }) :
  dD (dE prog w) A (Builtin.«zip.__next__» ⟨[.ref z],[]⟩) (λfin s'=>∃v,fin=.done (.ret v)/\Q v s') E s:=by
 show dD _ _ (field (.ref z) 2 >>= _) _ _ _;refine cX (dh hz rfl (x:=.bool false) rfl ?_);show dD _ _ (field (.ref z) 3 >>= _) _ _ _;refine cX (dh hz rfl (x:=.ref TI) rfl ?_);refine cX (wpAny_seqItems hTI rfl ?_);show dD _ _ (Builtin.SmallTypes.ownedTupleIsFree (.ref z) >>= _) _ _ _;refine cX ?_;unfold Builtin.SmallTypes.ownedTupleIsFree;refine cX (dh hz rfl (x:=.none) rfl (cY ?_));simp only[if_true];refine cX (wpAny_rule ?_);refine cX (dh hz rfl (x:=.ref TO) rfl ?_);refine cX (wpAny_setField_rec hz (by simp) λha za sa=>?_);have za':IsZip ha z TI TO .ellipsis:=za;refine cX ?_;simp only[List.zipIdx_cons,List.zipIdx_nil,cR,List.forIn_nil];refine cX (cX (wpAny_onRaise ?_));show dD _ _ (Builtin.SmallTypes.nextOf (.ref i1) >>= _) _ _ _;refine cX (aq2 (h1.ext λo e=>sa.extBut _ _ Z.i1z e) (hl1.ext λo e=>sa.extBut _ _ Z.l1z e) hx λhb h1b sb=>cY ?_);have hTOb:IsPair hb TO a b:=sb.extBut _ _ Z.TOi1 (sa.extBut _ _ Z.TOz hTO);refine cX (wpAny_seqItems hTOb rfl ?_);refine cX (wpAny_updateSeq_pair hTOb λhcc TOc sc=>?_);have TOc':IsPair hcc TO x b:=TOc;refine cX (wpAny_letGo (cY ?_));refine cX (cX (wpAny_onRaise ?_));show dD _ _ (Builtin.SmallTypes.nextOf (.ref i2) >>= _) _ _ _;refine cX (aq2 (((h2.ext λo e=>sa.extBut _ _ Z.i2z e).ext λo e=>sb.extBut _ _ Z.i12.symm e).ext λo e=>sc.extBut _ _ Z.TOi2.symm e) (((hl2.ext λo e=>sa.extBut _ _ Z.l2z e).ext λo e=>sb.extBut _ _ Z.l2i1 e).ext λo e=>sc.extBut _ _ Z.l2TO e) hy λhd h2d sd=>cY ?_);have hTOd:IsPair hd TO x b:=sd.extBut _ _ Z.TOi2 TOc';refine cX (wpAny_seqItems hTOd rfl ?_);refine cX (wpAny_updateSeq_pair hTOd λhe TOe se=>?_);have TOe':IsPair he TO x y:=TOe;refine cX (wpAny_letGo (cY (cY ?_)));refine cX (wpAny_seqItems TOe' rfl ?_);refine cX (wpAny_newTuple ?_);have sz:he.objs.size=s.heap.objs.size:=by rw[se.1,sd.1,sc.1,sb.1,sa.1]
 have ze:IsZip he z TI TO .ellipsis:=se.extBut _ _ Z.TOz.symm (sd.extBut _ _ Z.i2z.symm (sc.extBut _ _ Z.TOz.symm (sb.extBut _ _ Z.i1z.symm za')));have ke:∀c o,c≠z->c≠TO->c≠i1->c≠i2->s.heap.get? c=some o->he.get? c=some o:=λc o c1 c2 c3 c4 e=>se.extBut _ _ c2 (sd.extBut _ _ c4 (sc.extBut _ _ c2 (sb.extBut _ _ c3 (sa.extBut _ _ c1 e))))
 have h1e:SIt t1 he i1 l1 (k1+1):=((h1b.ext λo e=>sc.extBut _ _ Z.TOi1.symm e).ext λo e=>sd.extBut _ _ Z.i12 e).ext λo e=>se.extBut _ _ Z.TOi1.symm e
 have h2e:SIt t2 he i2 l2 (k2+1):=h2d.ext λo e=>se.extBut _ _ Z.TOi2.symm e
 have zlt:z < he.objs.size:=dG ze;show dD _ _ (Builtin.SmallTypes.ownedTupleHandOut (.ref z) (.ref he.objs.size) >>= _) _ _ _;refine cX ?_;unfold Builtin.SmallTypes.ownedTupleHandOut;have zf:IsZip (he.push { cls:=.type "tuple", data:=.seq #[x,y] }) z TI TO .ellipsis:=dF _ ze;refine cX (wpAny_setField_rec zf (by simp) λhg zg sg=>?_);have zg':IsZip hg z TI TO (rawInt he.objs.size):=zg;refine wpAny_setField_rec zg' (by simp) λhi zi si=>?_;have zi':IsZip hi z TI TO (rawInt he.objs.size):=zi
 have up:∀c o,c≠z->he.get? c=some o->hi.get? c=some o:=λc o c1 e=>si.extBut _ _ c1 (sg.extBut _ _ c1 (dF _ e))
 have hT:IsPair hi he.objs.size x y:=si.extBut _ _ (bS zlt) (sg.extBut _ _ (bS zlt) (dH _ rfl));have szi:hi.objs.size=he.objs.size+1:=by rw[si.1,sg.1,Heap.size_push]
 rw[sz]at zi' hT szi;refine cY ⟨_,rfl,?_⟩;show Q (.ref he.objs.size) _;rw[sz];exact hQ hi zi' (up _ _ Z.TOz TOe') (h1e.ext λo e=>up _ o Z.i1z e) (h2e.ext λo e=>up _ o Z.i2z e) hT szi λc o c1 c2 c3 c4 e=>up c o c1 (ke c o c1 c2 c3 c4 e)
theorem bl4{z TI TO i1 i2 l1 l2:dX}{k1 k2:Nat}{xs ys:Array dU}{a b:dU}{Q:Fin->dW->Prop}(hh:A.handled=none)(Z:ZipApart z TI TO i1 i2 l1 l2)
  (hz:IsZip s.heap z TI TO .none) (hTI:IsPair s.heap TI (.ref i1) (.ref i2)) (hTO:IsPair s.heap TO a b) (h1:SIt t1 s.heap i1 l1 k1) (h2:SIt t2 s.heap i2 l2 k2) (hl1:SSq t1 s.heap l1 xs) (hl2:SSq t2 s.heap l2 ys) (hend:xs[k1]? = none\/ys[k2]? = none)
  (hE:∀h' e,(∀c o,c≠z->c≠TO->c≠i1->c≠i2->s.heap.get? c=some o->h'.get? c=some o)->(∃o,h'.get? e=some o/\o.cls=.type "StopIteration")->E (.ref e) { s with heap:=h' }) :
  dD (dE prog w) A (Builtin.«zip.__next__» ⟨[.ref z],[]⟩) Q E s:=by
 show dD _ _ (field (.ref z) 2 >>= _) _ _ _;refine cX (dh hz rfl (x:=.bool false) rfl ?_);show dD _ _ (field (.ref z) 3 >>= _) _ _ _;refine cX (dh hz rfl (x:=.ref TI) rfl ?_);refine cX (wpAny_seqItems hTI rfl ?_);show dD _ _ (Builtin.SmallTypes.ownedTupleIsFree (.ref z) >>= _) _ _ _;refine cX ?_;unfold Builtin.SmallTypes.ownedTupleIsFree;refine cX (dh hz rfl (x:=.none) rfl (cY ?_));simp only[if_true];refine cX (wpAny_rule ?_);refine cX (dh hz rfl (x:=.ref TO) rfl ?_);refine cX (wpAny_setField_rec hz (by simp) λha za sa=>?_);have za':IsZip ha z TI TO .ellipsis:=za;refine cX ?_;simp only[List.zipIdx_cons,List.zipIdx_nil,cR,List.forIn_nil];refine cX (cX (wpAny_onRaise ?_));show dD _ _ (Builtin.SmallTypes.nextOf (.ref i1) >>= _) _ _ _;cases hx:xs[k1]? with
 | none =>
  refine cX (aW1 hh (h1.ext λo e=>sa.extBut _ _ Z.i1z e) (hl1.ext λo e=>sa.extBut _ _ Z.l1z e) hx λhb e sb he=>?_);obtain⟨oe,hoe,hce⟩:=he;have zb:IsZip hb z TI TO .ellipsis:=sb _ _ Z.i1z.symm za';have hez:e≠z:=λq=>by subst q;rw[zb]at hoe;cases hoe;simp at hce
  exact wpAny_setField_rec zb (by simp) λhcc _ sc=>hE hcc e (λc o c1 _ c3 _ q=>sc.extBut _ _ c1 (sb _ _ c3 (sa.extBut _ _ c1 q))) ⟨oe,sc.extBut _ _ hez hoe,hce⟩
 | some x =>
  have hy:ys[k2]? = none:=by rcases hend with h|h;rw[hx]at h;cases h;exact h
  refine cX (aq2 (h1.ext λo e=>sa.extBut _ _ Z.i1z e) (hl1.ext λo e=>sa.extBut _ _ Z.l1z e) hx λhb h1b sb=>cY ?_);have hTOb:IsPair hb TO a b:=sb.extBut _ _ Z.TOi1 (sa.extBut _ _ Z.TOz hTO);refine cX (wpAny_seqItems hTOb rfl ?_);refine cX (wpAny_updateSeq_pair hTOb λhcc TOc sc=>?_);refine cX (wpAny_letGo (cY ?_));refine cX (cX (wpAny_onRaise ?_));show dD _ _ (Builtin.SmallTypes.nextOf (.ref i2) >>= _) _ _ _;refine cX (aW1 hh (((h2.ext λo e=>sa.extBut _ _ Z.i2z e).ext λo e=>sb.extBut _ _ Z.i12.symm e).ext λo e=>sc.extBut _ _ Z.TOi2.symm e) (((hl2.ext λo e=>sa.extBut _ _ Z.l2z e).ext λo e=>sb.extBut _ _ Z.l2i1 e).ext λo e=>sc.extBut _ _ Z.l2TO e) hy λhd e sd he=>?_);obtain⟨oe,hoe,hce⟩:=he;have zd:IsZip hd z TI TO .ellipsis:=sd _ _ Z.i2z.symm (sc.extBut _ _ Z.TOz.symm (sb.extBut _ _ Z.i1z.symm za'));have hez:e≠z:=λq=>by subst q;rw[zd]at hoe;cases hoe;simp at hce
  exact wpAny_setField_rec zd (by simp) λhf _ sf=>hE hf e (λc o c1 c2 c3 c4 q=>sf.extBut _ _ c1 (sd _ _ c4 (sc.extBut _ _ c2 (sb.extBut _ _ c3 (sa.extBut _ _ c1 q))))) ⟨oe,sf.extBut _ _ hez hoe,hce⟩
theorem aP5{z TI TO i1 i2 l1 l2:dX}{k1 k2:Nat}{xs ys:Array dU}{x y a b:dU}{Q:Option dU->dW->Prop}(Z:ZipApart z TI TO i1 i2 l1 l2)
  (hz:IsZip s.heap z TI TO .none) (hTI:IsPair s.heap TI (.ref i1) (.ref i2)) (hTO:IsPair s.heap TO a b) (h1:SIt t1 s.heap i1 l1 k1) (h2:SIt t2 s.heap i2 l2 k2) (hl1:SSq t1 s.heap l1 xs) (hl2:SSq t2 s.heap l2 ys) (hx:xs[k1]? = some x) (hy:ys[k2]? = some y)
  (hQ:∀h',IsZip h' z TI TO (rawInt s.heap.objs.size)->IsPair h' TO x y->SIt t1 h' i1 l1 (k1+1)->SIt t2 h' i2 l2 (k2+1)->IsPair h' s.heap.objs.size x y->h'.objs.size=s.heap.objs.size+1 ->
   (∀c o,c≠z->c≠TO->c≠i1->c≠i2->s.heap.get? c=some o->h'.get? c=some o)->Q (some (.ref s.heap.objs.size)) { s with heap:=h' }):dD (dE prog w) A (pyNext (.ref z)) Q E s:=by
 have hT:s.TypeIs (.ref z) "zip" := ⟨_,hz,rfl⟩;unfold pyNext;refine cX (wpAny_attempt (wpAny_callSpecial?_slot (name:=Str.ofString "__next__") hT F.slot_zip_next (wpAny_call_entry F.slot_zip_next hT F.entry_zip_next (bc4 Z hz hTI hTO h1 h2 hl1 hl2 hx hy ?_) (F.args_zip_next_1 _))));exact λh' a1 a2 a3 a4 a5 a6 a7=>cY (hQ h' a1 a2 a3 a4 a5 a6 a7)
theorem bc7{z TI TO i1 i2 l1 l2:dX}{k1 k2:Nat}{xs ys:Array dU}{a b:dU}{Q:Option dU->dW->Prop}(hh:A.handled=none)(Z:ZipApart z TI TO i1 i2 l1 l2)
  (hz:IsZip s.heap z TI TO .none) (hTI:IsPair s.heap TI (.ref i1) (.ref i2)) (hTO:IsPair s.heap TO a b) (h1:SIt t1 s.heap i1 l1 k1) (h2:SIt t2 s.heap i2 l2 k2) (hl1:SSq t1 s.heap l1 xs) (hl2:SSq t2 s.heap l2 ys) (hend:xs[k1]? = none\/ys[k2]? = none)
  (hQ:∀h',(∀c o,c≠z->c≠TO->c≠i1->c≠i2->s.heap.get? c=some o->h'.get? c=some o)->Q none { s with heap:=h' }):dD (dE prog w) A (pyNext (.ref z)) Q E s:=by
 have hT:s.TypeIs (.ref z) "zip" := ⟨_,hz,rfl⟩;unfold pyNext;refine cX (wpAny_attempt (wpAny_callSpecial?_slot (name:=Str.ofString "__next__") hT F.slot_zip_next (wpAny_call_entry F.slot_zip_next hT F.entry_zip_next (bl4 hh Z hz hTI hTO h1 h2 hl1 hl2 hend λh' e hk he=>?_) (F.args_zip_next_1 _))));obtain⟨o,ho,hc⟩:=he;exact cX (wpAny_isInstance (T := "StopIteration") (b:=true) ⟨o,ho,hc⟩ isSubtype_stop (cY (hQ _ hk)))
noncomputable def aL7(t:Bool)(l:dX):Obj:={ cls:=.type (if t then "tuple_iterator" else "list_iterator"),data:=.fields #[.ref l,.int 0 0] }
theorem aW0{h:Heap}{l:dX}(t:Bool):SIt t (h.push (aL7 t l)) h.objs.size l 0:=by
 cases t with
 | true=>exact⟨_,dH _ rfl,rfl,rfl⟩
 | false=>exact⟨_,dH _ rfl,rfl,rfl⟩
theorem aI8(hl:SSq t s.heap l xs)(hQ:Q (.ref s.heap.objs.size) { s with heap:=s.heap.push (aL7 t l) }):dD (dE prog w) A (pyIter (.ref l)) Q E s:=by
 cases t with
 | true=>exact wpAny_pyIter_tuple hl hQ
 | false=>exact wpAny_pyIter_list hl hQ
end
end G
namespace G
open PySem PySem.Spec PyProof.Rows L2
noncomputable abbrev zp1(h:Heap)(t1:Bool)(l1:dX):Heap:=h.push (aL7 t1 l1)
noncomputable abbrev zp2(h:Heap)(t1 t2:Bool)(l1 l2:dX):Heap:=(zp1 h t1 l1).push (aL7 t2 l2)
noncomputable abbrev zp3(h:Heap)(t1 t2:Bool)(l1 l2:dX):Heap:=(zp2 h t1 t2 l1 l2).push { cls:=.type "tuple", data:=.seq #[.ref h.objs.size,.ref (zp1 h t1 l1).objs.size] }
noncomputable abbrev zp4(h:Heap)(t1 t2:Bool)(l1 l2:dX):Heap:=(zp3 h t1 t2 l1 l2).push { cls:=.type "tuple", data:=.seq #[.none,.none] }
noncomputable abbrev zp5(h:Heap)(t1 t2:Bool)(l1 l2:dX):Heap:=(zp4 h t1 t2 l1 l2).push { cls:=.type "zip", data:=.fields #[.none,.bool false,.bool false,.ref (zp2 h t1 t2 l1 l2).objs.size,.ref (zp3 h t1 t2 l1 l2).objs.size] }
theorem bl3(l1 l2:dX)(xs ys:Array dU)(t1 t2:Bool):
  Meets (Builtin.«zip.__new__» ⟨[.type "zip", .ref l1,.ref l2],[]⟩) (λ_ R s=>SSq t1 s.heap l1 xs/\SSq t2 s.heap l2 ys/\∀h',IsZip h' (s.heap.objs.size+4) (s.heap.objs.size+2) (s.heap.objs.size+3) .none->IsPair h' (s.heap.objs.size+2) (.ref s.heap.objs.size) (.ref (s.heap.objs.size+1)) ->
   IsPair h' (s.heap.objs.size+3) .none .none->SIt t1 h' s.heap.objs.size l1 0->SIt t2 h' (s.heap.objs.size+1) l2 0->(∀c o,s.heap.get? c=some o->h'.get? c=some o)->R (.ok (.ret (.ref (s.heap.objs.size+4)))) { s with heap:=h' }) :=
 .of_wp λprog w A R s h=>by
  obtain⟨hp,g,d,tk,os⟩:=s;obtain⟨hl1,hl2,h⟩:=h;have hsub:=sub_zip;have q1:SSq t1 (Shared.heap ⟨hp,g,d,tk,os⟩) l1 xs:=hl1;have q2:SSq t2 (Shared.heap ⟨hp.push (aL7 t1 l1),g,d,tk,os⟩) l2 ys:=SSq.ext hl2 λo e=>dF _ e
  wp_walk using aI8 q1,aI8 q2
  refine⟨_,rfl,?_⟩;have z1:(zp1 hp t1 l1).objs.size=hp.objs.size+1:=Heap.size_push ..;have z2:(zp2 hp t1 t2 l1 l2).objs.size=hp.objs.size+2:=by rw[Heap.size_push,z1]
  have z3:(zp3 hp t1 t2 l1 l2).objs.size=hp.objs.size+3:=by rw[Heap.size_push,z2]
  have z4:(zp4 hp t1 t2 l1 l2).objs.size=hp.objs.size+4:=by rw[Heap.size_push,z3]
  show R (.ok (.ret (.ref (zp4 hp t1 t2 l1 l2).objs.size))) ⟨zp5 hp t1 t2 l1 l2,g,d,tk,os⟩;rw[z4];have g5:(zp5 hp t1 t2 l1 l2).get? (zp4 hp t1 t2 l1 l2).objs.size=some _:=dH _ rfl;have g4:(zp5 hp t1 t2 l1 l2).get? (zp3 hp t1 t2 l1 l2).objs.size=some _:=dF _ (dH _ rfl);have g3:(zp5 hp t1 t2 l1 l2).get? (zp2 hp t1 t2 l1 l2).objs.size=some _:=dF _ (dF _ (dH _ rfl));rw[z4,z2,z3]at g5;rw[z3]at g4;rw[z2,z1]at g3;have k1:∀c o,hp.get? c=some o->(zp5 hp t1 t2 l1 l2).get? c=some o:=λc o e=>dF _ (dF _ (dF _ (dF _ (dF _ e))))
  have s1:SIt t1 (zp5 hp t1 t2 l1 l2) hp.objs.size l1 0:=(aW0 (h:=hp) (l:=l1) t1).ext λo e=>dF _ (dF _ (dF _ (dF _ e)))
  have s2:SIt t2 (zp5 hp t1 t2 l1 l2) (zp1 hp t1 l1).objs.size l2 0:=(aW0 (h:=zp1 hp t1 l1) (l:=l2) t2).ext λo e=>dF _ (dF _ (dF _ e))
  rw[z1]at s2;exact h _ g5 g3 g4 s1 s2 k1
section
variable {prog:Program}{w:World}{A:Around}{E:Value->Shared->Prop}{s:Shared}{t1 t2:Bool}
theorem ax0(hl1:SSq t1 s.heap l1 xs)(hl2:SSq t2 s.heap l2 ys)
  (h:∀h',IsZip h' (s.heap.objs.size+4) (s.heap.objs.size+2) (s.heap.objs.size+3) .none->IsPair h' (s.heap.objs.size+2) (.ref s.heap.objs.size) (.ref (s.heap.objs.size+1)) ->
   IsPair h' (s.heap.objs.size+3) .none .none->SIt t1 h' s.heap.objs.size l1 0->SIt t2 h' (s.heap.objs.size+1) l2 0->(∀c o,s.heap.get? c=some o->h'.get? c=some o)->Q (.ref (s.heap.objs.size+4)) { s with heap:=h' }) :
  dD (dE prog w) A (call (.type "zip") [.ref l1,.ref l2]) Q E s:=by
 refine callType_new F.called_zip (by decide) (F.typeCall_zip_2 _ _) (F.newCall_zip_2 _ _) (λobj=>F.args_object_init_3 obj _ _) F.entry_zip_new (bl3 l1 l2 xs ys t1 t2) ⟨hl1,hl2,λh' a1 a2 a3 a4 a5 a6=>?_⟩;exact⟨⟨_,a1,rfl⟩,h h' a1 a2 a3 a4 a5 a6⟩
end
noncomputable def Itz(K:ag)(t1 t2:Bool)(a1 a2:dX):It :=
  ⟨λi H=>∃xs ys x y,Sq K t1 H a1 xs/\Sq K t2 H a2 ys/\xs[i]? = some x/\ys[i]? = some y,
   λi H v H'=>∃T x y,v=.ref T/\H T=none/\H'=upd H T (.tup [x,y])/\(∀xs,Sq K t1 H a1 xs->xs[i]? = some x)/\∀ys,Sq K t2 H a2 ys->ys[i]? = some y,
   λi H=>∃xs ys,Sq K t1 H a1 xs/\Sq K t2 H a2 ys/\(xs.length<=i\/ys.length<=i)⟩
theorem bm6(I:Inv X pins σ H s)(h:Sq X.K t H a xs)(h':Sq X.K t H a ys):xs=ys:=by
 cases t with
 | true=>exact I.tuple_inj h h'
 | false=>exact I.list_inj h h'
theorem d4(I:Inv X pins σ H s)(h:Sq X.K t H a xs):∃its:List dU,C2 xs its/\SSq t s.heap a its.toArray/\a < s.heap.objs.size:=by
 cases t with
 | true =>
  obtain⟨its,r,p,_⟩:=I.tuple h;exact⟨its,r,p,by obtain⟨o,ho,_⟩:=p;exact dG ho⟩
 | false =>
  obtain⟨its,r,p,_⟩:=I.list h;exact⟨its,r,p.isList,by obtain⟨o,ho,_⟩:=p.isList;exact dG ho⟩
end G
namespace G
open PySem PySem.Spec PyProof.Rows L2
theorem am4{X:Cx}{pins:List (dX×Obj)}{σ:L2.St}{H:Hp}{s:dW}{h':Heap}{t':Nat}{ch:List dX}{T:dX}{o:HO}(I:Inv X pins σ H s)(hf:∀b∈ch,ak4 X pins H b)(hT:s.heap.objs.size<=T)
  (k:∀b u,b∉ch->s.heap.get? b=some u->h'.get? b=some u) (new:P4 X.prog X.w (upd H T o) h' T o):Inv X pins σ (upd H T o) { s with heap:=h',toks:=t' }:=by
 have hn:H T=none:=I.hok.fresh hT;have neT:∀b u,s.heap.get? b=some u->b≠T:=λb u e=>aD (aA (dG e) hT)
 have nch:∀b u,H b=some u->b∉ch:=λb u e z=>by rw[(hf b z).1]at e;cases e
 refine I.step (g':=s.gens) (d':=s.drawn) (ch:=ch) (λb hb=>⟨(hf b hb).2.2.2.1,(hf b hb).2.1,(hf b hb).2.2.2.2.1,(hf b hb).2.2.2.2.2⟩) (λb u _ _ hc e _=>k b u hc e) (λb u _ _ hc e _=>⟨u.slots,k b u hc e⟩)
  (λb u _ e n=>by rw[B3 (neT b u e)];exact n) (λb u hc e=>⟨u,k b u hc e⟩) (λb xs e=>by rw[B3 (C6 e hn)];exact e) (λb ob u e=>by rw[B3 (C6 e hn)];exact e)
  (λb ps e=>⟨#[],by rw[B3 (C6 e hn),e];simp⟩) (λm hm=>?_) (λb u e=>?_) I.bare
 ·obtain⟨ob,es,ep,ho,r⟩:=hm;exact⟨ob,es,ep,k _ ob (λz=>(hf _ z).2.1 rfl) ho,r⟩
 ·by_cases hb:b=T
  ·subst hb;rw[A6]at e;cases e;exact new
  ·rw[B3 hb]at e;refine(I.hok b u e).stay (λc v hc q=>k c v ?_ q) (λc q=>by rw[B3 (C6 q hn)];exact q) λc xs q=>by rw[B3 (C6 q hn)];exact q
   rcases hc with z|z
   ·rw[z];exact nch b u e
   ·exact nch c _ z
theorem as3{X:Cx}{pins:List (dX×Obj)}{σ:L2.St}{H:Hp}{s:dW}{h':Heap}{t':Nat}{ch:List dX}(I:Inv X pins σ H s)(hf:∀b∈ch,ak4 X pins H b)
  (k:∀b u,b∉ch->s.heap.get? b=some u->h'.get? b=some u):Inv X pins σ H { s with heap:=h',toks:=t' }:=by
 have nch:∀b u,H b=some u->b∉ch:=λb u e z=>by rw[(hf b z).1]at e;cases e
 refine I.step (g':=s.gens) (d':=s.drawn) (ch:=ch) (λb hb=>⟨(hf b hb).2.2.2.1,(hf b hb).2.1,(hf b hb).2.2.2.2.1,(hf b hb).2.2.2.2.2⟩) (λb u _ _ hc e _=>k b u hc e) (λb u _ _ hc e _=>⟨u.slots,k b u hc e⟩)
  (λb u _ e n=>n) (λb u hc e=>⟨u,k b u hc e⟩) (λb xs e=>e) (λb ob u e=>e) (λb ps e=>⟨#[],by rw[e];simp⟩) (λm hm=>?_) (λb u e=>?_) I.bare
 ·obtain⟨ob,es,ep,ho,r⟩:=hm;exact⟨ob,es,ep,k _ ob (λz=>(hf _ z).2.1 rfl) ho,r⟩
 ·refine(I.hok b u e).stay (λc v hc q=>k c v ?_ q) (λc q=>q) λc xs q=>q
  rcases hc with z|z
  ·rw[z];exact nch b u e
  ·exact nch c _ z
theorem aI2{P:dq}{w:World}{K:ag}{elts:List Expr}{k0:Nat}{pos:Pos}{t1 t2:Bool}{z TI TO i1 i2 a1 a2:dX}(Z:ZipApart z TI TO i1 i2 a1 a2):
  Turn P w K (.Tuple elts k0 pos) (Itz K t1 t2 a1 a2) [z,TI,TO,i1,i2] z (λi h=>IsZip h z TI TO .none/\IsPair h TI (.ref i1) (.ref i2)/\(∃a b,IsPair h TO a b)/\SIt t1 h i1 a1 i/\SIt t2 h i2 a2 i) where
 mem:=by simp
 obj:=λi h ⟨hz,hTI,⟨a,b,hTO⟩,h1,h2⟩ c hc=>by
  simp only[ax,aP,or_false]at hc;rcases hc with rfl|rfl|rfl|rfl|rfl
  ·exact⟨_,hz,λv q=>by cases q⟩
  ·exact⟨_,hTI,λv q=>by cases q⟩
  ·exact⟨_,hTO,λv q=>by cases q⟩
  ·cases t1 with
   | true=>obtain⟨o,ho,_,hd⟩:=h1;exact⟨o,ho,λv q=>by rw[hd]at q;cases q⟩
   | false=>obtain⟨o,ho,_,hd⟩:=h1;exact⟨o,ho,λv q=>by rw[hd]at q;cases q⟩
  ·cases t2 with
   | true=>obtain⟨o,ho,_,hd⟩:=h2;exact⟨o,ho,λv q=>by rw[hd]at q;cases q⟩
   | false=>obtain⟨o,ho,_,hd⟩:=h2;exact⟨o,ho,λv q=>by rw[hd]at q;cases q⟩
 keep:=λi h h' ⟨hz,hTI,⟨a,b,hTO⟩,h1,h2⟩ hk=>⟨hk z (by simp) _ hz,hk TI (by simp) _ hTI,⟨a,b,hk TO (by simp) _ hTO⟩,h1.ext λo e=>hk i1 (by simp) o e,h2.ext λo e=>hk i2 (by simp) o e⟩
 item:=by
  intro X hP hw hK hc i pins s σ H E I hf ⟨hz,hTI,⟨a,b,hTO⟩,h1,h2⟩ hg;subst hP hw hK;obtain⟨xs,ys,x,y,q1,q2,ex,ey⟩:=hg;obtain⟨us,r1,p1,lt1⟩:=d4 I q1;obtain⟨ws,r2,p2,lt2⟩:=d4 I q2;obtain⟨ux,eux,rx⟩:=r1.get ex;obtain⟨uy,euy,ry⟩:=r2.get ey;refine aP5 Z hz hTI hTO h1 h2 p1 p2 (x:=ux) (y:=uy) (by simpa using eux) (by simpa using euy) λh' b1 b2 b3 b4 b5 b6 b7=>⟨_,rfl,wpAny_letOwnedTupleGo_zip b1 λh'' c1 c2=>?_⟩
  have neT:∀c o,s.heap.get? c=some o->c≠s.heap.objs.size:=λc o e=>aD (dG e)
  have up:∀c o,c≠z->h'.get? c=some o->h''.get? c=some o:=λc o n e=>c2.extBut c o n e
  refine⟨.ref s.heap.objs.size,upd H s.heap.objs.size (.tup [x,y]),am4 (s:=s) (h':=h'') (t':=s.toks) (ch:=[z,TI,TO,i1,i2]) I hf (ai _) (λc u hc e=>?_) ?_,rfl,⟨_,x,y,rfl,I.hok.fresh (ai _),rfl,λzs hz'=>by rw[bm6 I hz' q1];exact ex,λzs hz'=>by rw[bm6 I hz' q2];exact ey⟩,⟨c1,?_,⟨_,_,up TO _ Z.TOz b2⟩,b3.ext λo e=>up i1 o Z.i1z e,b4.ext λo e=>up i2 o Z.i2z e⟩,λc hc=>?_⟩
  ·simp only[ax,aP,or_false,not_or]at hc;exact up c u hc.1 (b7 c u hc.1 hc.2.2.1 hc.2.2.2.1 hc.2.2.2.2 e)
  ·refine⟨by show 2<=dj;decide,[ux,uy],.cons rx (.cons ry .nil),_,up _ _ ?_ b5,rfl,⟨_,rfl⟩,rfl⟩;exact λq=>neT z _ hz q.symm
  ·exact up TI _ Z.TIz (b7 TI _ Z.TIz Z.TITO Z.TIi1 Z.TIi2 hTI)
  ·have e:c < s.heap.objs.size:=by
    simp only[ax,aP,or_false]at hc;rcases hc with rfl|rfl|rfl|rfl|rfl
    ·exact dG hz
    ·exact dG hTI
    ·exact dG hTO
    ·exact h1.lt
    ·exact h2.lt
   rw[B3 (aD e)];exact(hf c hc).1
 done:=by
  intro X hP hw hK hc i pins s σ H E I hf ⟨hz,hTI,⟨a,b,hTO⟩,h1,h2⟩ hg;subst hP hw hK;obtain⟨xs,ys,q1,q2,hl⟩:=hg;obtain⟨us,r1,p1,lt1⟩:=d4 I q1;obtain⟨ws,r2,p2,lt2⟩:=d4 I q2;have l1:=r1.length;have l2:=r2.length;refine bc7 (I.ok.hd hc) Z hz hTI hTO h1 h2 p1 p2 ?_ λh' hk=>⟨rfl,as3 (t':=s.toks) (ch:=[z,TI,TO,i1,i2]) I hf λc u hc e=>?_⟩
  ·rcases hl with h|h
   ·left;simp;grind
   ·right;simp;grind
  ·simp only[ax,aP,or_false,not_or]at hc;exact hk c u hc.1 hc.2.2.1 hc.2.2.2.1 hc.2.2.2.2 e
 self:=λ_ _ _ _ _ st h=>wpAny_pyIter_zip st.1 h
section
variable {X:Cx}
noncomputable def au9(f g:Rho->Option (Bool×List D)):Rho->Option (List D):=λρ=>(f ρ).bind λp=>(g ρ).bind λq=>some ((p.2.zip q.2).map λ(x,y)=>PyData.tuple [x,y])
theorem ap8{K:ag}{t1 t2:Bool}{a1 a2:dX}{vs us:List V}{ds es:List D}{Hf1:Hp}(h1:Sq K t1 Hf1 a1 vs)(h2:Sq K t2 Hf1 a2 us)(r1:Reps K Hf1 ds vs)(r2:Reps K Hf1 es us):
  aG9 K (Itz K t1 t2 a1 a2) ((ds.zip es).map λ(x,y)=>PyData.tuple [x,y]) Hf1:=by
 have mono:∀{t:Bool}{a:dX}{xs:List V}{H H':Hp},B0 H H'->Sq K t H a xs->Sq K t H' a xs:=λ{t a xs H H'} e h=>by
  cases t with
  | true=>exact B8 e h
  | false=>exact D9 e h
 intro i H Hf sa sb;have m1:=mono (sa.trans sb) h1;have m2:=mono (sa.trans sb) h2;have l1:=r1.length;have l2:=r2.length;refine⟨λhi=>⟨vs,us,m1,m2,?_⟩,λd hd=>?_⟩
 ·simp at hi;grind
 ·rw[aE]at hd;obtain⟨⟨x,y⟩,q1,q2⟩:=af.mp hd;subst q2;obtain⟨q1,q2⟩:=bi.mp q1;obtain⟨vx,e1,e2⟩:=r1.get q1;obtain⟨vy,e3,e4⟩:=r2.get q2;refine⟨⟨vs,us,vx,vy,m1,m2,e1,e3⟩,λv H' ⟨T,x',y',z1,z2,z3,z4,z5⟩=>?_⟩;subst z1 z3;have w1:=z4 vs m1;have w2:=z5 us m2;rw[e1]at w1;rw[e3]at w2;cases w1;cases w2;have nf:Hf T=none:=sb.free z2;refine⟨upd Hf T (.tup [vx,vy]),Grow.laid sb z2,T,[vx,vy],rfl,SqT.of A6,vx,[vy],rfl,(e2.mono sa).mono (C7 nf),vy,[],rfl,(e4.mono sa).mono (C7 nf),rfl⟩
theorem ck7{elts:List Expr}{k0:Nat}{tpos:Pos}{a b:Expr}{f g:DE}{p pos:Pos}(hg:Gl X "zip")(hm:X.mg "zip" = none)(ha:JE X a f)(hb:JE X b g)(hs:di [a,b] X.env=[(false,eval a X.env),(false,eval b X.env)]:=by rfl)(hs2:di [b] X.env=[(false,eval b X.env)]:=by rfl):
  JI X (.Tuple elts k0 tpos) (.Call (.Name "zip" p) [a,b] [] pos) (au9 (qE f) (qE g)):=λρ out q=>by
 obtain⟨⟨t1,ds⟩,e1,q⟩:=xbm q;obtain⟨⟨t2,es⟩,e2,q⟩:=xbm q;cases q;obtain⟨d1,e1,e1'⟩:=xbm e1;obtain⟨d2,e2,e2'⟩:=xbm e2;intro pins s σ H R I ⟨H0,Hf,ss,sl,k⟩
 refine Call_ (ae4 I hg hm bB8 (PyProof.Rows.callWith_type1 (thn (C3 (ha ρ d1 e1) (C3 (hb ρ d2 e2) K2 hs2) (by rw[hs,hs2]) pos pins s σ H
  (λvs H'=>∃v u Hf',vs=[v,u]/\Grow H Hf H' Hf'/\Rep X.K Hf' d1 v/\Rep X.K Hf' d2 u) I ⟨H0,Hf,ss,sl,λv H1 Hf1 g1 r1=>⟨H0,Hf1,g1.sub,sl.grow g1,λu H2 Hf2 g2 r2=>⟨v,u,Hf2,rfl,g1.trans g2,r1.mono g2.ext,r2⟩⟩⟩) λus s1 ⟨vs,H1,I1,r1,v,u,Hf1,ev,gr,p1,p2⟩=>?_) (by rw[hs,hs2]) (by rw[hs2];rfl)))
 subst ev;obtain⟨uv,uu,rfl,rv,ru⟩:=bi9 r1;obtain⟨a1,vs1,rfl,w1,w2⟩:=p1.seq (B0.refl Hf1) e1';obtain⟨a2,vs2,rfl,w3,w4⟩:=p2.seq (B0.refl Hf1) e2';cases rv;cases ru
 have mono:∀{t:Bool}{a:dX}{xs:List V}{H H':Hp},B0 H H'->Sq X.K t H a xs->Sq X.K t H' a xs:=λ{t a xs H H'} e h=>by
  cases t with
  | true=>exact B8 e h
  | false=>exact D9 e h
 obtain⟨us1,rr1,hp1,lt1⟩:=d4 I1 (mono gr.sub w1);obtain⟨us2,rr2,hp2,lt2⟩:=d4 I1 (mono gr.sub w3);refine ax0 hp1 hp2 λh' b1 b2 b3 b4 b5 b6=>?_
 have I2:Inv X pins σ H1 { s1 with heap:=h' }:=I1.kept (t':=s1.toks) b6;refine wpAny_pyIter_zip b1 ⟨_,_,_,_,H1,rfl,I2,aI2 (zipApart_new lt1 lt2),⟨b1,b2,⟨_,_,b3⟩,b4,b5⟩,λb hb=>?_,k _ H1 Hf1 gr (ap8 w1 w3 w2 w4)⟩
 have hb':s1.heap.objs.size<=b:=by
  simp only[ax,aP,or_false]at hb;rcases hb with rfl|rfl|rfl|rfl|rfl
  ·exact bC _ _
  ·exact bC _ _
  ·exact bC _ _
  ·exact ai _
  ·exact bC _ _
 exact I1.fpOk hb' (I1.hok.fresh hb')
end
end G
namespace G
open PySem PySem.Spec PyProof.Rows L2
theorem al0:fillsNumberSlot (.type "tuple") "mul" = pure false:=PySem.fillsNumberSlot_seq (id := "tuple.__mul__") (r:=some (.builtin "tuple.__rmul__")) F.slot_tuple_mul.lookup (by decide +kernel) F.slot_tuple_rmul.lookup (by decide +kernel)
theorem ax5:seqRepeat? (.type "tuple")=pure (some (.builtin "tuple.__mul__")):=by
 unfold seqRepeat?;rw[PySem.seqSlot_of (T := "tuple") (name := "__mul__") (id := "tuple.__mul__") F.slot_tuple_mul.lookup (by decide +kernel),PySem.seqSlot_of (T := "tuple") (name := "__rmul__") (id := "tuple.__rmul__") F.slot_tuple_rmul.lookup (by decide +kernel)];rfl
theorem ag1(a:Int)(t:Tok)(l:dX)(items:Array dU)(n:Nat)(dd:Option dX)(sl:Array (Option dU)):
  Meets (Builtin.«int.__rmul__» ⟨[.int a t,.ref l],[]⟩) (λ_ R s=>s.heap.get? l=some ⟨.type "tuple", dd,.seq items n,sl⟩/\R (.ok (.ret Value.notImplemented)) s) :=
 .of_wp λprog w A R s h=>by obtain⟨hp,g,d,tk,os⟩:=s;obtain⟨hl,h⟩:=h;wp_walk;exact⟨_,rfl,h⟩
theorem aQ0(items:Array dU)(k:Nat):cz (λx1 x2=>x1++x2) #[] (aq k items)=(aq k items.toList).flatten.toArray:=by
 have:=ay8 items.toList k [];rw[List.nil_append]at this;simpa using this
theorem aJ9(l:dX)(items:Array dU)(n:Nat)(dd:Option dX)(sl:Array (Option dU))(x:Int)(u:Tok)(h2:2<=x)(h3:x < 1000000)(he:items.isEmpty=false)(hz:items.size*x.toNat<=dj):
  Meets (Builtin.«tuple.__mul__» ⟨[.ref l,.int x u],[]⟩) (λ_ R s=>s.heap.get? l=some ⟨.type "tuple", dd,.seq items n,sl⟩/\R (.ok (.ret (dO s.heap.objs.size))) { s with heap:=s.heap.push { cls:=Value.type "tuple", data:=Data.seq (cz (λx1 x2=>x1++x2) #[] (aq x.toNat items)) } }) :=
 .of_wp λprog w A R s h=>by
  obtain⟨hp,g,d,tk,os⟩:=s;obtain⟨hl,h⟩:=h
  have hm:(items.size:Int)*x<=16777216:=by
   have e:((items.size*x.toNat:Nat):Int)=(items.size:Int)*x:=by rw[aL,Int.toNat_of_nonneg (by omega)]
   have:items.size*x.toNat<=16777216:=by rw[← dk];exact hz
   omega
  wp_walk
  refine wpAny_ite_false (by simp;omega) ?_;have ht:Heap.IsTuple (Shared.heap ⟨hp,g,d,tk,os⟩) l items:=⟨_,hl,rfl,n,rfl⟩;refine cX (tupleItemsOf_ ht ?_);refine wpAny_ite_false (by rw[he];simp;omega) ?_;show dD _ _ (if(decide (x<=0) || items.isEmpty)=true then _ else _) _ _ _;refine wpAny_ite_false (by rw[he];simp;omega) ?_;show dD _ _ (if(items.size:Int)*x > (2 ^ 63 - 1) / 8 then _ else _) _ _ _;rw[if_neg (by omega)];show dD _ _ (if Builtin.Tuple.tupleTooMany ((items.size:Int)*x)=true then _ else _) _ _ _;rw[if_neg (by unfold Builtin.Tuple.tupleTooMany;rw[dk];simp;omega)];refine cX (m:=Builtin.Tuple.tupleExact _) (de (cY ⟨_,rfl,h⟩) ?_);show(cz (λx1 x2=>x1++x2) #[] (aq x.toNat items)).size<=dj;rw[aQ0 items x.toNat,ao,aD6,bq,cx];exact hz
section
variable {X:Cx}
theorem bK7:OpR X (dv .Mult) (λx y H Q=>∃l k xs,x=.ref l/\y=.int k/\SqT X.K H l xs/\xs≠[]/\2<=k/\k < 1000000/\xs.length*k.toNat<=dj/\∀p,H p=none->Q (.ref p) (upd H p (.tup (aq k.toNat xs).flatten))):=by
 intro pins s σ H x y v u Q I rx ry h;obtain⟨l,k,xs,rfl,rfl,hq,hx,h2,h3,hz,q⟩:=h;cases rx;obtain⟨t,rfl⟩:=ry;obtain⟨its,r,p1,_⟩:=I.tuple hq;obtain⟨⟨cls,dd,data,sl⟩,ho,hc,n,hd⟩:=id p1;simp only at hc hd;subst hc hd;have hl:=r.length
 have he:its.toArray.isEmpty=false:=by
  cases its with
  | nil=>exact absurd (r.nil_iff.mp rfl) hx
  | cons a b=>rfl
 refine wpAny_binaryOp_repeat_ref (T := "tuple") (U := "int") (by decide) ⟨_,ho,rfl⟩ (λs'=>typeIs_int s' k t) al0 F.fills_int_mul F.slot_int_rmul ax5 F.slot_int_index.lookup
  (dA F.slot_int_rmul (typeIs_int s k t) F.entry_int_rmul (F.args_int_rmul_2 _ _) (ag1 k t l its.toArray n dd sl) ⟨ho,rfl,⟨_,ho,rfl⟩,
   dA F.slot_tuple_mul ⟨_,ho,rfl⟩ F.entry_tuple_mul (F.args_tuple_mul_2 _ _) (aJ9 l its.toArray n dd sl k t h2 h3 he (by rw[ao,← hl];exact hz)) ⟨ho,?_⟩⟩)
 rw[aQ0];refine⟨.ref _,_,I.laid (t':=s.toks) (o:=.tup (aq k.toNat xs).flatten) (λb ob q=>dF _ q) (ai _) ⟨?_,_,r.rep k.toNat,aw2.new _ _⟩,rfl,q _ (I.hok.fresh (ai _))⟩;rw[aD6,cx];exact hz
noncomputable def X1(x y:D):Option D:=match x,y with
 | .int i,.int j=>if E4 i/\E4 j then some (.int (i*j)) else none
 | .tuple xs,.int k=>if xs.isEmpty=false/\2<=k/\k < 1000000/\xs.length*k.toNat<=16777216 then some (.tuple (aq k.toNat xs).flatten) else none
 | _,_=>none
theorem aD0:OpD X (dv .Mult) X1:=λx y z h=>by
 unfold X1 at h;split at h
 ·exact cf6 _ _ z (by unfold cg7;exact h)
 ·split at h
  ·rename_i xs k c;cases h;refine OpR.imp bK7 λvx vy H Q ⟨Hf,s,r1,r2,kk⟩=>?_
   obtain⟨a,vs,rfl,h2,h3⟩:=r1;refine⟨a,k,vs,rfl,r2,B8 s h2,?_,c.2.1,c.2.2.1,by rw[h3.length,dk];exact c.2.2.2,λp hp=>?_⟩
   ·intro e;subst e;have:=h3.length;cases xs with
    | nil=>exact absurd c.1 (by simp)
    | cons a b=>simp at this
   ·exact kk _ _ _ (Grow.laid s hp) ⟨p,_,rfl,SqT.of A6,(h3.flatten k.toNat).mono (C7 (s.free hp))⟩
  ·cases h
 ·cases h
noncomputable def bh5(f:DE):DE:=λρ=>(f ρ).bind λd=>match d with
 | .int i=>some (.int (-i))
 | _=>none
theorem cl6(h:JE X a f):JE X (.UnaryOp .USub a pos) (bh5 f):=λρ d q=>by
 obtain⟨x,e1,e2⟩:=xbm q;cases x with
 | int i =>
  cases e2;exact A4 (cv2 bY4 (h ρ _ e1)) λσ H Q ⟨H0,Hf,s,sl,k⟩=>⟨H0,Hf,s,sl,λv H1 Hf1 g1 r1=>⟨_,r1,k _ H1 Hf1 g1 rfl⟩⟩
 | _=>cases e2
noncomputable def isB(x y:D):Option D:=match y with
 | .bool b=>(match x with
  | .bool c=>some (.bool (c==b))
  | .dict _=>none
  | _=>some (.bool false))
 | .none=>isN x .none
 | _=>none
theorem bS9:OpD X (dl .Is) isB:=λx y z h=>by
 cases y with
 | none=>exact cf8 x .none z h
 | bool b =>
  intro pins s σ H vx vy v u Q I rx ry ⟨Hf,ss,r1,r2,k⟩;cases r2;cases ry
  have fin:∀c,z=.bool c->(v==Value.bool b)=c->EP X pins σ Q (.bool (v==Value.bool b)) s:=λc e1 e2=>by
   rw[e2];subst e1;exact⟨.bl c,H,I,rfl,k _ H Hf (Grow.refl ss) rfl⟩
  cases x with
  | none=>cases r1;cases rx;cases h;exact wpAny_is_plain rfl (fin _ rfl rfl)
  | bool c=>cases r1;cases rx;cases h;exact wpAny_is_plain rfl (fin _ rfl (by cases c<;>cases b<;>rfl))
  | int i=>cases r1;obtain⟨t,rfl⟩:=rx;cases h;exact wpAny_is_plain rfl (fin _ rfl rfl)
  | str i=>cases r1;obtain⟨t,rfl⟩:=rx;cases h;exact wpAny_is_plain rfl (fin _ rfl rfl)
  | tuple ds=>obtain⟨a,vs,rfl,_⟩:=r1;cases rx;cases h;exact wpAny_is_plain rfl (fin _ rfl rfl)
  | list ds=>obtain⟨a,vs,rfl,_⟩:=r1;cases rx;cases h;exact wpAny_is_plain rfl (fin _ rfl rfl)
  | dict ds=>cases h
 | _=>cases h
noncomputable def aN7(K:ag)(d:D)(u:dU):Prop:=∃v,E3 v u/\∀H:Hp,Rep K H d v
theorem cm0(r:aN7 X.K d u)(hg:Gl X x)(hm:X.mg x=some u)(hd:(x==("__debug__" : Str))=false:=by decide):JE X (.Name x pos) (dC d):=λρ d' q=>by
 cases q;obtain⟨v,rv,rp⟩:=r;exact A4 (bK0 hg hm rv hd) λσ H Q ⟨H0,Hf,s,sl,k⟩=>k _ H Hf (Grow.refl s) (rp Hf)
noncomputable def qN(f:Rho->Option (List D)):Rho->Option (Bool×List D):=λρ=>(f ρ).map λds=>(false,ds)
theorem cy8(h:JN X e f):JQ X e (qN f):=bv6 h
noncomputable def y9(f:Rho->Option (Bool×List D)):DE:=λρ=>(f ρ).bind λq=>if q.1=true then none else some (.tuple q.2)
theorem bN8(hg:Gl X "tuple")(hm:X.mg "tuple" = none)(h:JQ X e f)(he:di [e] X.env=[(false,eval e X.env)]:=by rfl):JE X (.Call (.Name "tuple" p) [e] [] pos) (y9 f):=bw5 hg hm h (he:=he)
end
end G
namespace G
open PySem PySem.Spec PyProof.Rows L2
theorem bi0(l b:dX)(items items2:Array dU)(n n2:Nat)(dd dd2:Option dX)(sl sl2:Array (Option dU))(hz:items.size+items2.size<=dj):
  Meets (Builtin.«list.__add__» ⟨[.ref l,.ref b],[]⟩) (λ_ R s=>s.heap.get? l=some ⟨.type "list", dd,.seq items n,sl⟩/\s.heap.get? b=some ⟨.type "list", dd2,.seq items2 n2,sl2⟩/\R (.ok (.ret (dO s.heap.objs.size))) { s with heap:=s.heap.push { cls:=Value.type "list", data:=Data.seq (items++items2) } }) :=
 .of_wp λprog w A R s h=>by
  obtain⟨hp,g,d,tk,os⟩:=s;obtain⟨hl,hb,h⟩:=h;have hsub:isSubtype (.type "list") (.type "list")=pure true:=by rw[isSubtype_type];kernel_rfl
  have hsz:=hz
  wp_walk
  exact⟨_,rfl,h⟩
section
variable {X:Cx}
theorem bL2:OpR X (dv .Add) (λx y H Q=>∃a b xs ys,x=.ref a/\y=.ref b/\SqL X.K H a xs/\SqL X.K H b ys/\xs.length+ys.length<=dj/\∀p,H p=none->Q (.ref p) (upd H p (.lst (xs++ys)))):=by
 intro pins s σ H x y v u Q I rx ry h;obtain⟨a,b,xs,ys,rfl,rfl,ha,hb,hz,q⟩:=h;cases rx;cases ry;obtain⟨its,r1,p1,_⟩:=I.list ha;obtain⟨its2,r2,p2,_⟩:=I.list hb;obtain⟨⟨cls,dd,data,sl⟩,ho,hc,n,hd⟩:=p1.isList;obtain⟨⟨cls2,dd2,data2,sl2⟩,ho2,hc2,n2,hd2⟩:=p2.isList;simp only at hc hd hc2 hd2;subst hc hd hc2 hd2;have l1:=r1.length;have l2:=r2.length;refine concat_meets ⟨_,ho,rfl⟩ ⟨_,ho2,rfl⟩ noFill_list_add seq_list_add PySem.F.slot_list_add PySem.F.entry_list_add (PySem.F.args_list_add_2 _ _) (bi0 a b its.toArray its2.toArray n n2 dd dd2 sl sl2 (by simp only[ao];grind)) ⟨ho,ho2,?_⟩;have ea:its.toArray++its2.toArray=(its++its2).toArray:=by simp
 rw[ea];exact⟨.ref _,_,I.lnew (t':=s.toks) (r1.append r2) (by rw[aG];grind),rfl,q _ I.fresh⟩
noncomputable def L7(x y:D):Option D:=match x,y with
 | .list xs,.list ys=>if xs.length+ys.length<=16777216 then some (.list (xs++ys)) else none
 | x,y=>t8 x y
theorem aY0:OpD X (dv .Add) L7:=λx y z h=>by
 unfold L7 at h;split at h
 ·split at h
  ·rename_i c;cases h;refine OpR.imp bL2 λvx vy H Q ⟨Hf,s,r1,r2,k⟩=>?_
   obtain⟨a,vs,rfl,h2,h3⟩:=r1;obtain⟨b,us,rfl,h5,h6⟩:=r2;refine⟨a,b,vs,us,rfl,rfl,D9 s h2,D9 s h5,by rw[h3.length,h6.length,dk];exact c,λp hp=>?_⟩;exact k _ _ _ (Grow.laid s hp) ⟨p,vs++us,rfl,SqL.of A6,(h3.append h6).mono (C7 (s.free hp))⟩
  ·cases h
 ·exact br3 _ _ z h
end
end G
namespace G
open PySem PySem.Spec PyProof.Rows L2
end G
namespace G
open PySem PySem.Spec PyProof.Rows L2
section
variable {X:Cx}
noncomputable def av8(f:DE)(lo hi:Rho->Option (Option Int)):DE:=λρ=>(f ρ).bind λd=>(lo ρ).bind λl=>(hi ρ).bind λh=>match d with
 | .tuple xs=>some (.tuple (ab0 xs l h))
 | .list xs=>some (.list (ab0 xs l h))
 | _=>none
theorem cl2{a:Expr}{lo hi:Option Expr}{f:DE}{l h:Rho->Option (Option Int)}{pos p2:Pos}(ha:JE X a f)(hl:JO X lo l)(hh:JO X hi h):JE X (.Subscript a (.Slice lo hi none p2) pos) (av8 f l h):=λρ d q=>by
 obtain⟨x,e1,q⟩:=xbm q;obtain⟨y,e2,q⟩:=xbm q;obtain⟨z,e3,q⟩:=xbm q;cases x with
 | tuple xs =>
  cases q;refine bw8 ha hl hh ρ _ ?_;unfold av7;rw[e1,cM,e2,cM,e3,cM]
 | list xs =>
  cases q;refine A4 (ar0 bH9 (ha ρ _ e1) (hl ρ y e2) (hh ρ z e3)) λσ H Q ⟨H0,Hf,s,sl,k⟩=>?_
  refine⟨H0,Hf,s,sl,λv H1 Hf1 g1 ⟨p,vs,q1,q2,q3⟩=>⟨H0,Hf1,g1.sub,sl.grow g1,λH2 Hf2 g2=>⟨H0,Hf2,g2.sub,sl.grow (g1.trans g2),λH3 Hf3 g3=>?_⟩⟩⟩;subst q1;have q2':=D9 (g2.trans g3).ext q2;have q3':=q3.mono (g2.trans g3).ext;refine⟨p,vs,rfl,D9 g3.sub q2',λp' hp=>?_⟩;exact k _ _ _ (((g1.trans g2).trans g3).trans (Grow.laid g3.sub hp)) ⟨p',_,rfl,SqL.of A6,(aq5 q3' y z).mono (C7 (g3.sub.free hp))⟩
 | _=>cases q
end
end G
namespace G
open PySem PySem.Spec PyProof.Rows L2
section
variable {X:Cx}
theorem aB5:∀{ys:List Str}{us:List dU},C2 (ys.map V.str) us->∃l:List (Str×Tok),us=strValues l/\l.map (·.1)=ys
 | [],[],_=>⟨[],rfl,rfl⟩
 | y::ys,u::us,h=>by
  cases h with
  | cons a b =>
   obtain⟨t,rfl⟩:=a;obtain⟨l,rfl,rfl⟩:=aB5 b;exact⟨(y,t)::l,rfl,rfl⟩
noncomputable def P7(sep:Str)(ys:List Str):Nat:=ys.toArray.foldl (λn y=>n+y.length+sep.length) 0
noncomputable def cu6(K:ag):V->List V->Hp->VK->Prop:=λx vs H Q=>∃sep p ys,x=.str sep/\vs=[.ref p]/\SqL K H p (ys.map V.str)/\P7 sep ys<=dj/\(Builtin.Str.glued sep ys).length<=dj/\Q (.str (Builtin.Str.glued sep ys)) H
theorem aY4:MtR X "str.join" (cu6 X.K):=by
 intro pins s σ H x vs v us Q I rx rv h;obtain⟨sep,p,ys,rfl,rfl,hq,hz,hg,q⟩:=h;obtain⟨t,rfl⟩:=rx;obtain⟨u,rfl,ru⟩:=rv.one;cases ru;obtain⟨its,r,pl,_⟩:=I.list hq;obtain⟨l,rfl,rfl⟩:=aB5 r;refine dA F.slot_str_join (typeIs_str s sep t) F.entry_str_join (F.args_str_join_2 _ _) (meets_str_join_list sep t p l ?_) ⟨pl.isList,?_⟩
 ·show decide (P7 sep (l.map (·.1)) > dj)=false;exact decide_eq_false (by grind)
 ·match l,q,hg with
  | [],q,hg=>exact⟨hg,.str _,H,I.tok _,⟨_,rfl⟩,q⟩
  | [a],q,_=>exact⟨.str _,H,I,⟨_,rfl⟩,q⟩
  | a::b::r,q,hg=>exact⟨hg,.str _,H,I.tok _,⟨_,rfl⟩,q⟩
noncomputable def w9:List D->Option (List Str)
 | []=>some []
 | .str x::r=>(w9 r).map λys=>x::ys
 | _::_=>none
theorem ac1{K:ag}{H:Hp}:∀{ds:List D}{ys:List Str}{vs:List V},w9 ds=some ys->Reps K H ds vs->vs=ys.map V.str
 | [],ys,vs,h,r=>by cases h;exact r
 | .str x::ds,ys,vs,h,r=>by
  obtain⟨zs,e1,e2⟩:=af.mp h;subst e2;obtain⟨v,r',e,h1,h2⟩:=r;subst e;rw[ac1 e1 h2];cases h1;rfl
noncomputable def at2(f:DE)(g:Rho->Option (Bool×List D)):DE:=λρ=>(f ρ).bind λs=>(g ρ).bind λq=>match s with
 | .str sep=>if q.1=true then none else(w9 q.2).bind λys=>if P7 sep ys<=16777216/\(Builtin.Str.glued sep ys).length<=16777216 then some (.str (Builtin.Str.glued sep ys)) else none
 | _=>none
theorem bO0(ho:JE X o f)(h:JQ X e g)
  (hbase:dB o "join" X.env (eval o X.env)=eval o X.env:=by rfl)
  (hfew:((backTo cpos (di [e] X.env)).all (λx=>!x.1)&&(backToKw cpos (keywordEach [] X.env)).all (λx=>x.1.isSome)
   && decide (([e]:List Expr).length+([]:List dw).length+(if([]:List dw).isEmpty then 0 else 1) < 30))=true:=by rfl)
  (hline:(apos.endLine==cpos.line)=true:=by rfl) (hs:di [e] X.env=[(false,eval e X.env)]:=by rfl) :
  JE X (.Call (.Attribute o "join" apos) [e] [] cpos) (at2 f g):=λρ d q=>by
 obtain⟨s,e1,q⟩:=xbm q;obtain⟨⟨t,ds⟩,e2,q⟩:=xbm q;cases s with
 | str sep =>
  cases t with
  | true=>simp at q
  | false =>
   simp only[bf,if_false]at q;obtain⟨ys,e3,q⟩:=xbm q;split at q
   ·rename_i hz;cases q;refine A4 (ax6 F.plainAttrs_str F.slot_str_join F.type_str_join aY4 (ho ρ _ e1) (C3 (h ρ false ds e2) K2 hs) hbase hfew hline hs) λσ H Q ⟨H0,Hf,s,sl,k⟩=>?_
    refine⟨H0,Hf,s,sl,λv H1 Hf1 g1 r1=>?_⟩;cases r1;refine⟨rfl,H0,Hf1,g1.sub,sl.grow g1,λw H2 Hf2 g2 ⟨p,vs,z1,z2,z3⟩=>?_⟩;subst z1;rw[ac1 e3 z3]at z2;exact⟨sep,p,ys,rfl,rfl,z2,by rw[dk];exact hz.1,by rw[dk];exact hz.2,k _ H2 Hf2 (g1.trans g2) rfl⟩
   ·cases q
 | _=>cases q
end
end G
namespace G
open PySem PySem.Spec PyProof.Rows L2
section
variable {X:Cx}
noncomputable def bU5:D->Bool
 | .none=>true
 | .bool _=>true
 | .int _=>true
 | .str _=>true
 | _=>false
noncomputable def toV:D->V
 | .none=>.non
 | .bool b=>.bl b
 | .int i=>.int i
 | .str x=>.str x
 | _=>.non
theorem aq7{K:ag}{H:Hp}{d:D}{v:V}(f:bU5 d=true)(r:Rep K H d v):v=toV d/\cA3 v=true:=by
 cases d with
 | none=>cases r;exact⟨rfl,rfl⟩
 | bool b=>cases r;exact⟨rfl,rfl⟩
 | int i=>cases r;exact⟨rfl,rfl⟩
 | str x=>cases r;exact⟨rfl,rfl⟩
 | tuple _=>cases f
 | list _=>cases f
 | dict _=>cases f
end
end G
namespace G
open PySem PySem.Spec PyProof.Rows L2
section
variable {X:Cx}
theorem bx2(Fk:FnOk X.prog X.w X.K X.mg X.base CX0 k f fd ps (spF X.K 0 F))(hr:Room k X.A)(hg:Gl X x)(hm:X.mg x=some (.ref f))(hk:aF X.K (.ref f)=true)(hb:M4 X.K fd ps [])
  (hdb:(x==("__debug__" : Str))=false:=by decide):JE X (.Call (.Name x p) [] [] pos) (A3 F A2):=λρ d q=>by
 have h2:F []=some d:=q;refine A4 (bp6 Fk hr hg hm hk hb .nil x9 hdb) λσ H Q ⟨H0,Hf,s,sl,kk⟩=>?_
 exact⟨rfl,Hf,[],d,s,rfl,h2,λv H2 Hf2 g2 r2=>kk v H2 Hf2 g2 r2⟩
end
end G
namespace G
open PySem PySem.Spec PyProof.Rows L2
noncomputable def az7(K:ag):List D->List dU->Prop
 | [],us=>us=[]
 | d::ds,us=>∃u r,us=u::r/\aN7 K d u/\az7 K ds r
section
variable {K:PySem.W.Frag}
theorem bf0:az7 K [] []:=rfl
theorem ar5(h:aN7 K d u)(t:az7 K ds us):az7 K (d::ds) (u::us):=⟨u,us,rfl,h,t⟩
theorem ay2:∀{ds:List D}{us:List dU},az7 K ds us->∃vs,C2 vs us/\∀H:Hp,Reps K H ds vs
 | [],_,h=>by cases h;exact⟨[],.nil,λ_=>rfl⟩
 | d::ds,_,⟨u,r,e,⟨v,h1,h2⟩,h3⟩=>by
  subst e;obtain⟨vs,q1,q2⟩:=ay2 h3;exact⟨v::vs,.cons h1 q1,λH=>⟨v,vs,rfl,h2 H,q2 H⟩⟩
theorem ag5(i:Int)(t:Tok):aN7 K (.int i) (.int i t):=⟨.int i,⟨t,rfl⟩,λ_=>rfl⟩
theorem bu3(h:K.lookup a=some o)(hc:o.cls=.type "tuple")(hn:o.dict=none)(hd:o.data=.seq its n)(hz:its.size<=1000)(hi:az7 K ds its.toList):aN7 K (.tuple ds) (.ref a):=by
 obtain⟨vs,q1,q2⟩:=ay2 hi;exact⟨.ref a,rfl,λH=>⟨a,vs,rfl,.inr ⟨o,its,n,h,hc,hn,hd,bE (U7 hz),q1⟩,q2 H⟩⟩
end
end G
namespace G
open PySem PySem.Spec PyProof.Rows L2
theorem aJ8(l:dX)(items:Array dU)(n:Nat)(dd:Option dX)(sl:Array (Option dU))(u:Tok):
  Meets (Builtin.«tuple.__mul__» ⟨[.ref l,.int 1 u],[]⟩) (λ_ R s=>s.heap.get? l=some ⟨.type "tuple", dd,.seq items n,sl⟩/\R (.ok (.ret (dO l))) s) :=
 .of_wp λprog w A R s h=>by
  obtain⟨hp,g,d,tk,os⟩:=s;obtain⟨hl,h⟩:=h
  wp_walk
  exact⟨_,rfl,h⟩
section
variable {X:Cx}
theorem bq2:OpR X (dv .Mult) (λx y H Q=>∃l xs,x=.ref l/\y=.int 1/\SqT X.K H l xs/\Q (.ref l) H):=by
 intro pins s σ H x y v u Q I rx ry h;obtain⟨l,xs,rfl,rfl,hq,q⟩:=h;cases rx;obtain⟨t,rfl⟩:=ry;obtain⟨its,r,p1,_⟩:=I.tuple hq;obtain⟨⟨cls,dd,data,sl⟩,ho,hc,n,hd⟩:=id p1;simp only at hc hd;subst hc hd
 exact wpAny_binaryOp_repeat_ref (T := "tuple") (U := "int") (by decide) ⟨_,ho,rfl⟩ (λs'=>typeIs_int s' 1 t) al0 F.fills_int_mul F.slot_int_rmul ax5 F.slot_int_index.lookup
  (dA F.slot_int_rmul (typeIs_int s 1 t) F.entry_int_rmul (F.args_int_rmul_2 _ _) (ag1 1 t l its.toArray n dd sl) ⟨ho,rfl,⟨_,ho,rfl⟩,
   dA F.slot_tuple_mul ⟨_,ho,rfl⟩ F.entry_tuple_mul (F.args_tuple_mul_2 _ _) (aJ8 l its.toArray n dd sl t) ⟨ho,⟨.ref l,H,I,rfl,q⟩⟩⟩)
theorem aC0(a:Int)(t:Tok)(l:dX)(items:Array dU)(n:Nat)(dd:Option dX)(sl:Array (Option dU)):
  Meets (Builtin.«int.__rmul__» ⟨[.int a t,.ref l],[]⟩) (λ_ R s=>s.heap.get? l=some ⟨.type "list", dd,.seq items n,sl⟩/\R (.ok (.ret Value.notImplemented)) s):=Meets.of_wp λprog w A R s h=>by
 obtain⟨hp,g,d,tk,os⟩:=s;obtain⟨hl,h⟩:=h
 wp_walk
 exact⟨_,rfl,h⟩
theorem aK0(l:dX)(items:Array dU)(n:Nat)(dd:Option dX)(sl:Array (Option dU))(x:Int)(u:Tok)(c0:¬(!Builtin.List.listFitsIndex x)=true)(c1:¬items.size*x.toNat > (2 ^ 63 - 1) / 8)(c2:¬Builtin.List.listTooLong (items.size*x.toNat)=true):
  Meets (Builtin.«list.__mul__» ⟨[.ref l,.int x u],[]⟩) (λ_ R s=>s.heap.get? l=some ⟨.type "list", dd,.seq items n,sl⟩/\R (.ok (.ret (dO s.heap.objs.size))) { s with heap:=s.heap.push { cls:=Value.type "list", data:=Data.seq (cz (λx1 x2=>x1++x2) #[] (aq (if items.isEmpty=true then 0 else x.toNat) items)) } }):=Meets.of_wp λprog w A R s h=>by
 obtain⟨hp,g,d,tk,os⟩:=s;obtain⟨hl,h⟩:=h;have hsz:=AutoListH.joined_fits c2
 wp_walk
 refine wpAny_ite_false (decide_eq_false (Nat.not_lt.mpr hsz)) ?_
 wp_walk
 exact⟨_,rfl,h⟩
theorem bK8:OpR X (dv .Mult) (λx y H Q=>∃l k xs,x=.ref l/\y=.int k/\SqL X.K H l xs/\0<=k/\k < 1000000/\xs.length*k.toNat<=dj/\∀p,H p=none->Q (.ref p) (upd H p (.lst (aq k.toNat xs).flatten))):=by
 intro pins s σ H x y v u Q I rx ry h;obtain⟨l,k,xs,rfl,rfl,hq,h1,h2,hz,q⟩:=h;cases rx;obtain⟨t,rfl⟩:=ry;obtain⟨its,r,p1,_⟩:=I.list hq;obtain⟨⟨cls,dd,data,sl⟩,ho,hc,n,hd⟩:=p1.isList;simp only at hc hd;subst hc hd;have hl:=r.length;have hlen:its.toArray.size*k.toNat<=dj:=by rw[ao,← hl];exact hz
 have hcap:¬its.toArray.size*k.toNat > (2 ^ 63 - 1) / 8:=by
  have:(dj:Nat)<=(2 ^ 63 - 1) / 8:=by decide
  grind
 have hfit:¬(!Builtin.List.listFitsIndex k)=true:=by
  rw[fitsIndex_both (by grind) (by grind)];exact ba
 have hlong:¬Builtin.List.listTooLong (its.toArray.size*k.toNat)=true:=by
  rw[br5 hlen];exact ba
 have hnew:cz (λx1 x2=>x1++x2) #[] (aq (if its.toArray.isEmpty=true then 0 else k.toNat) its.toArray)=(aq k.toNat its).flatten.toArray:=by
  rw[aQ0];cases its with
  | nil=>simp
  | cons a r'=>rw[if_neg (by simp)]
 refine wpAny_binaryOp_repeat_ref (T := "list") (U := "int") (by decide) ⟨_,ho,rfl⟩ (λs'=>typeIs_int s' k t) noFill_list_mul F.fills_int_mul F.slot_int_rmul repeat_list F.slot_int_index.lookup
  (dA F.slot_int_rmul (typeIs_int s k t) F.entry_int_rmul (F.args_int_rmul_2 _ _) (aC0 k t l its.toArray n dd sl) ⟨ho,rfl,⟨_,ho,rfl⟩,
   dA F.slot_list_mul ⟨_,ho,rfl⟩ F.entry_list_mul (F.args_list_mul_2 _ _) (aK0 l its.toArray n dd sl k t hfit hcap hlong) ⟨ho,?_⟩⟩)
 rw[hnew];exact⟨.ref _,_,I.lnew (t':=s.toks) (r.rep k.toNat) (by rw[aD6,cx];exact hz),rfl,q _ I.fresh⟩
noncomputable def R6(x y:D):Option D:=match x,y with
 | .tuple xs,.int k=>if k=1 then some (.tuple xs) else X1 (.tuple xs) (.int k)
 | .list xs,.int k=>if 0<=k/\k < 1000000/\xs.length*k.toNat<=16777216 then some (.list (aq k.toNat xs).flatten) else none
 | x,y=>X1 x y
theorem bL8:OpD X (dv .Mult) R6:=λx y z h=>by
 unfold R6 at h;split at h
 ·split at h
  ·rename_i xs k c;subst c;cases h;refine OpR.imp bq2 λvx vy H Q ⟨Hf,s,r1,r2,kk⟩=>?_
   obtain⟨a,vs,rfl,h2,h3⟩:=r1;exact⟨a,vs,rfl,r2,B8 s h2,kk _ _ _ (Grow.refl s) ⟨a,vs,rfl,h2,h3⟩⟩
  ·exact aD0 _ _ z h
 ·split at h
  ·rename_i xs k c;cases h;refine OpR.imp bK8 λvx vy H Q ⟨Hf,s,r1,r2,kk⟩=>?_
   obtain⟨a,vs,rfl,h2,h3⟩:=r1;refine⟨a,k,vs,rfl,r2,D9 s h2,c.1,c.2.1,by rw[h3.length,dk];exact c.2.2,λp hp=>?_⟩;exact kk _ _ _ (Grow.laid s hp) ⟨p,_,rfl,SqL.of A6,(h3.flatten k.toNat).mono (C7 (s.free hp))⟩
  ·cases h
 ·exact aD0 _ _ z h
theorem ae7(i j:Int):L7 (.int i) (.int j)=some (.int (i+j)):=rfl
noncomputable def K7:DS:=λ_=>none
theorem C8{st:Stmt}:JS X st K7:=λρ fl q=>by cases q
noncomputable def aP2(f:DE):Rho->Option Bool:=λρ=>(f ρ).bind ab1
theorem bv2(o1:OpD X (dl op) h1)(o2:OpD X (dl op') h2)(ha:JE X a f)(hb:JE X b g)(hc:JE X c k)
  (hm:lastMarks [op,op'] [b,c]=false:=by with_unfolding_all rfl):JT X (.Compare a [op,op'] [b,c] pos) (aP2 (i3 h1 h2 f g k)):=λρ d q=>by
 obtain⟨dd,q,ed⟩:=xbm q;have ed:=ba6 ed;subst ed;obtain⟨x,e1,q⟩:=xbm q;obtain⟨y,e2,q⟩:=xbm q;obtain⟨z,e3,q⟩:=xbm q;split at q
 ·obtain⟨w,e4,e5⟩:=xbm q;refine m8 (aJ2 (o1 x y _ e3) (o2 y w _ e5) (ha ρ x e1) (hb ρ y e2) (hc ρ w e4) hm) λσ H Q ⟨H0,Hf,s,sl,kk⟩=>?_
  refine⟨H0,Hf,s,sl,λv H1 Hf1 g1 r1=>⟨H0,Hf1,g1.sub,sl.grow g1,λu H2 Hf2 g2 r2=>⟨Hf2,g2.sub,r1.mono g2.ext,r2,λz' H3 Hf3 g3 r3=>?_⟩⟩⟩;refine⟨true,r3,ae6 ⟨H0,Hf3,g3.sub,sl.grow ((g1.trans g2).trans g3),λw' H4 Hf4 g4 r4=>⟨Hf4,g4.sub,r2.mono (g3.trans g4).ext,r4,λz2 H5 Hf5 g5 r5=>?_⟩⟩⟩;exact⟨d,r5,kk H5 Hf5 ((((g1.trans g2).trans g3).trans g4).trans g5)⟩
 ·cases q;intro pins s σ H Q I ⟨H0,Hf,ss,sl,kk⟩;refine aJ2 (tc:=λ_ _ _=>False) (r':=λ_ _ _ _=>False) (o1 x y _ e3) (λ_ _ _ _ _ _ _ _ _ _ _ _ h=>h.elim) (ha ρ x e1) (hb ρ y e2) (λ_ _ _ _ _ _ h=>h.elim) hm pins s σ H Q I ?_;refine⟨H0,Hf,ss,sl,λv H1 Hf1 g1 r1=>⟨H0,Hf1,g1.sub,sl.grow g1,λu H2 Hf2 g2 r2=>⟨Hf2,g2.sub,r1.mono g2.ext,r2,λz' H3 Hf3 g3 r3=>?_⟩⟩⟩;exact⟨false,r3,aj1 ⟨false,rfl,kk H3 Hf3 ((g1.trans g2).trans g3)⟩⟩
 ·cases q
end
end G
namespace G
open PySem PySem.Spec PyProof.Rows L2
end G
namespace G
open PySem PySem.Spec PyProof.Rows L2
section
variable {X:Cx}
theorem bN2(i:Nat)(hN:X.N.Nodup)(S:CompSc X N' n caps scope)(hx:∀e s,X.xe e s->False)
  (hi:JI X tgt iter src) (hg:∀C s0 H0 ex,JG (B4 X N' scope C s0 H0 ex) tgt g) (ht:∀C s0 H0 ex,JTs (B4 X N' scope C s0 H0 ex) ifs c) (he:∀C s0 H0 ex,JE (B4 X N' scope C s0 H0 ex) elt e)
  (hi2:X.N[i]? = some x:=by rfl) (hl:X.env.scope.names.lookup x=some .local:=by rfl) (hsw:swapsWith (.ListComp elt [⟨tgt,iter,ifs,0⟩] scope pos) (some (.Name x pos')) spos.line X.env=pure true:=by rfl)
  (hc:X.calm=true:=by rfl) (hs:∀x,dz iter X.env x=pure x:=by intro _;rfl):JS X (.Assign [.Name x pos'] (.ListComp elt [⟨tgt,iter,ifs,0⟩] scope pos) spos) (bc9 i (G4 n caps src g c e)):=λρ fl q H0 Hf0=>by
 obtain⟨out,e1,e2⟩:=af.mp q;subst e2;obtain⟨ds,e3,k⟩:=r8 (K:=X.K) e1;refine F6 (o4 S hx hc hN hi2 hl (hi ρ ds e3) (g:=tgJ X.K g) (tc:=af5 X.K c) (te:=aI4 X.K e) hg ht (λC s0 H0 ex pins s σ H Q I ⟨ρ,d,e,t⟩=>he C s0 H0 ex ρ d e pins s σ H Q I t) hsw hs) λEn σ H ⟨Hf,a,ee⟩=>k σ H _ ⟨H0,Hf,a.gr.sub,a.sl,λv H' Hf' gg ⟨p,vs,z1,z2,z3,z4,z5⟩=>?_⟩
 subst z1;exact ee _ H' Hf' ⟨a.gr.trans gg,a.sl.setOwn gg (a.gr.big.free z2) z2 z3 z4 z5⟩ gg.ext
end
end G
namespace G
open PySem PySem.Spec PyProof.Rows L2
end G
namespace G
open PySem PySem.Spec PyProof.Rows L2
end G
namespace G
open PySem PySem.Spec PyProof.Rows L2
end G
namespace G
open PySem PySem.Spec PyProof.Rows L2
end G
namespace G
open PySem PySem.Spec PyProof.Rows L2
end G
namespace G
open PySem PySem.Spec PyProof.Rows L2
section
variable {X:Cx}
noncomputable def bf9(x y:Str):Bool:=!(Builtin.Str.occurrences y x 0 y.length 1).isEmpty
noncomputable def inS(neg:Bool)(x y:D):Option D:=match x,y with
 | .str i,.str j=>some (.bool (if neg then !bf9 i j else bf9 i j))
 | _,_=>none
theorem cf9:OpD X (dl .In) (inS false):=λx y z h=>by
 cases x<;>cases y<;>first|(cases h;done)|skip
 rename_i i j;cases h;refine OpR.imp bd4 λvx vy H Q ⟨Hf,s,rx,ry,k⟩=>?_
 cases rx;cases ry;exact⟨i,j,rfl,rfl,k _ H Hf (Grow.refl s) rfl⟩
theorem be2:OpD X (dl .NotIn) (inS true):=λx y z h=>by
 cases x<;>cases y<;>first|(cases h;done)|skip
 rename_i i j;cases h;refine OpR.imp aC7 λvx vy H Q ⟨Hf,s,rx,ry,k⟩=>?_
 cases rx;cases ry;exact⟨i,j,rfl,rfl,k _ H Hf (Grow.refl s) rfl⟩
noncomputable def ay9(f:DE):DE:=λρ=>(f ρ).bind λd=>match d with
 | .str x=>if x.length<=16777216 then some (.int x.length) else none
 | _=>none
theorem bN9(hg:Gl X "len")(hm:X.mg "len" = none)(h:JE X e f)(he:di [e] X.env=[(false,eval e X.env)]):JE X (.Call (.Name "len" p) [e] [] pos) (ay9 f):=λρ d q=>by
 obtain⟨y,h1,h2⟩:=xbm q
 obtain⟨x,rfl⟩:∃x,y=.str x:=by
  cases y with
  | str x=>exact⟨x,rfl⟩
  | _=>cases h2
 have h2:(if x.length<=16777216 then some (dJ x.length) else none)=some d:=h2;split at h2
 ·rename_i hz;cases h2;refine A4 (T4 aG2 hg hm aT5 (C3 (h ρ _ h1) K2 he) (he:=he)) λσ H Q ⟨H0,Hf,s,sl,k⟩=>?_
  refine⟨H0,Hf,s,sl,λv H1 Hf1 g1 r=>⟨x,?_,by rw[dk];exact hz,k _ H1 Hf1 g1 rfl⟩⟩;cases r;rfl
 ·cases h2
noncomputable def Its(x:Str):It:=⟨λi _=>i < x.cps.size,λi H v H'=>H'=H/\∃c,x.cps[i]? = some c/\v=.str ⟨#[c]⟩,λi _=>x.cps.size<=i⟩
theorem bk8{P:dq}{w:World}{K:ag}{tg:Expr}(x:Str)(t:Tok)(it:dX):Turn P w K tg (Its x) [it] it (λi h=>h.IsStrIter it "str_ascii_iterator" x t i) where
 mem:=by simp
 obj:=λi h st b hb=>by
  have e:b=it:=by simpa using hb
  subst e;obtain⟨o,e,c,d⟩:=st;exact⟨o,e,λv z=>by rw[d]at z;cases z⟩
 keep:=λi h h' st k=>by
  obtain⟨o,e,r⟩:=st;exact⟨o,k it (by simp) o e,r⟩
 item:=by
  intro X hP hw hK hc i pins s σ H E I hf st hg;subst hP hw hK;obtain⟨f0,f1,f2,f3,f4,f5⟩:=hf it (by simp);have hi:i < x.cps.size:=hg;refine wpAny_pyNext_ascii_item st (c:=x.cps[i]) (by simp[hi]) λh' st' sb=>?_
  have I1:Inv X pins σ H { s with heap:=h',toks:=s.toks+1 }:=I.turned (t':=s.toks+1) (λb o hb e=>(sb.2 b hb).trans e) f0 f1 f3 f4 f5;obtain⟨o,e,c,d⟩:=id st';exact⟨_,rfl,aZ2 (s:={ s with heap:=h',toks:=s.toks+1 }) e c d (by decide) ⟨.str ⟨#[x.cps[i]]⟩,H,I1,⟨_,rfl⟩,⟨rfl,_,by simp[hi],rfl⟩,st',λb hb=>(hf b hb).1⟩⟩
 done:=by
  intro X hP hw hK hc i pins s σ H E I hf st hg;subst hP hw hK;obtain⟨f0,f1,f2,f3,f4,f5⟩:=hf it (by simp);have hi:x.cps.size<=i:=hg;exact wpAny_pyNext_ascii_end (I.ok.hd hc) st (by simp[hi]) λh' eb=>⟨rfl,I.turned (t':=s.toks) (λb o hb e=>eb b o hb e) f0 f1 f3 f4 f5⟩
 self:=λ_ _ _ _ _ st h=>wpAny_pyIter_striter_ascii st h
noncomputable def ax3(x:Str):List D:=x.cps.toList.map λc=>.str ⟨#[c]⟩
noncomputable def bf7(f:DE):Rho->Option (List D):=λρ=>(f ρ).bind λd=>match d with
 | .str x=>if x.cps.all (· < 128)=true then some (ax3 x) else none
 | _=>none
theorem ck8{tg e:Expr}{f:DE}(h:JE X e f):JI X tg e (bf7 f):=λρ ds q=>by
 obtain⟨d,e1,e2⟩:=xbm q
 obtain⟨x,rfl⟩:∃x,d=.str x:=by
  cases d with
  | str x=>exact⟨x,rfl⟩
  | _=>cases e2
 have e2:(if x.cps.all (· < 128)=true then some (ax3 x) else none)=some ds:=e2;split at e2
 ·rename_i ha;cases e2;intro pins s σ H R I ⟨H0,Hf,ss,sl,k⟩;refine thn (h ρ _ e1 pins s σ H (λv H'=>∃Hf',Grow H Hf H' Hf'/\v=.str x) I ⟨H0,Hf,ss,sl,λv H' Hf' g r=>⟨Hf',g,r⟩⟩) λv s1 ⟨y,H1,I1,r1,Hf1,g1,ey⟩=>?_
  subst ey;obtain⟨t,rfl⟩:=r1;refine wpAny_pyIter_ascii ha ?_;have I2:Inv X pins σ H1 { s1 with heap:=s1.heap.push { cls:=.type "str_ascii_iterator", data:=.fields #[.str x t,.int 0 0] } }:=I1.kept (t':=s1.toks) λb u e=>dF _ e
  refine⟨_,_,_,Its x,H1,rfl,I2,bk8 x t s1.heap.objs.size,⟨_,dH _ rfl,rfl,rfl⟩,λb hb=>?_,k _ H1 Hf1 g1 λi H' Hf' sa sb=>⟨λhi=>?_,λd hd=>?_⟩⟩
  ·have hb':s1.heap.objs.size<=b:=by rw[aM]at hb;rw[hb];exact ai _
   exact I1.fpOk hb' (I1.hok.fresh hb')
  ·show x.cps.size<=i;simpa [ax3] using hi
  ·unfold ax3 at hd;rw[aE]at hd;obtain⟨c,c1,c2⟩:=af.mp hd;have c1':x.cps[i]? = some c:=by rw[← bA];exact c1
   refine⟨(Array.getElem?_eq_some_iff.mp c1').1,λv H'' ⟨h1,c',h2,h3⟩=>?_⟩;subst h1 h3 c2;rw[c1']at h2;cases h2;exact⟨Hf',Grow.refl sb,rfl⟩
 ·cases e2
end
end G
namespace G
open PySem PySem.Spec PyProof PyProof.Rows L2
end G
namespace G
open PySem PySem.Spec PyProof.Rows L2
section
variable {X:Cx}
theorem ty1(I:Inv X pins σ H s)(hg:Gl X x)(hm:X.mg x=none)(hv:du x=some (.type T))(hn:x ≠ "__name__")(hd:(x==("__debug__" : Str))=false)
  (hs:di [a] X.env=[(false,eval a X.env)]) (h:dD (dE X.prog X.w) X.A (eval a X.env) (λv s1=>dD (dE X.prog X.w) X.A (call (.type T) [v]) Q E s1) E s):dD (dE X.prog X.w) X.A (eval (.Call (.Name x p) [a] [] pos) X.env) Q E s:=by
 refine Call_ (ae4 I hg hm hv (PyProof.Rows.callWith_type1 ?_ (by rw[hs];rfl) (by rfl)) hn hd);rw[hs];exact Calls.spliced_cons (thn h λv s1 q=>Calls.spliced_nil q)
end
end G
namespace G
open PySem PySem.Spec PyProof.Rows L2
end G
namespace G
open PySem PySem.Spec PyProof.Rows L2
section
variable {X:Cx}
noncomputable def lsB(x:D)(ds:List D):Prop:=dI x=true/\x.depth<=60/\ds.all dI=true/\ds.all bU5=true
instance (x:D) (ds:List D):Decidable (lsB x ds):=by unfold lsB;exact inferInstance
end
end G
namespace L2
open PySem PySem.Spec PyProof.Rows
section
variable {κ:Type} [DecidableEq κ]
noncomputable def aa1(kvs:List (κ×V))(k:κ):Option V:=(kvs.find? λkv=>decide (kv.1=k)).map (·.2)
noncomputable def ai5(kvs:List (κ×V))(k:κ)(v:V):List (κ×V) :=
 if(kvs.any λkv=>decide (kv.1=k))=true then kvs.map (λkv=>if kv.1=k then(kv.1,v) else kv) else kvs++[(k,v)]
noncomputable def al6(kvs:List (κ×V))(k:κ):List (κ×V):=kvs.filter λkv=>decide (kv.1≠k)
theorem af3{p:κ×V}{r:List (κ×V)}{k:κ}(e:p.1=k):aa1 (p::r) k=some p.2:=by simp[aa1,bM,e]
theorem af4{p:κ×V}{r:List (κ×V)}{k:κ}(e:¬p.1=k):aa1 (p::r) k=aa1 r k:=by simp[aa1,bM,e]
theorem aH5(k:κ):∀kvs:List (κ×V),(kvs.any λkv=>decide (kv.1=k))=(aa1 kvs k).isSome
 | []=>rfl
 | p::r=>by
  rw[bP];by_cases e:p.1=k
  ·simp only[af3 e,decide_eq_true e,Bool.true_or,Option.isSome_some]
  ·rw[af4 e,decide_eq_false e,Bool.false_or];exact aH5 k r
theorem al2(kvs:List (κ×V))(k:κ)(v:V):(ai5 kvs k v).length<=kvs.length+1:=by
 unfold ai5;split
 ·rw[ay];omega
 ·rw[aG,aO,List.length_nil];omega
theorem u4.isSome_eq{o:Option V}{u:Option dU}(r:u4 o u):o.isSome=u.isSome:=by
 cases o with
 | none=>cases u with
  | none=>rfl
  | some _=>exact(show False from r).elim
 | some _=>cases u with
  | none=>exact(show False from r).elim
  | some _=>rfl
theorem u4.getD{o:Option V}{u:Option dU}{d:V}{d':dU}(r:u4 o u)(rd:E3 d d'):E3 (o.getD d) (u.getD d'):=by
 cases o with
 | none=>cases u with
  | none=>exact rd
  | some _=>exact(show False from r).elim
 | some _=>cases u with
  | none=>exact(show False from r).elim
  | some _=>exact r
theorem KV.val{kvs:List (κ×V)}{vs:List (κ×dU)}(r:KV kvs vs)(k:κ):u4 (aa1 kvs k) (valueAt vs k):=by
 unfold KV at r
 induction r with
 | nil=>exact True.intro
 | @cons p q ps qs h t ih =>
  obtain⟨h1,h2⟩:=h;by_cases e:p.1=k
  ·have e':q.1=k:=h1.symm.trans e;have b:valueAt (q::qs) k=some q.2:=by simp[valueAt,bM,e']
   rw[af3 e,b];exact h2
  ·have e':¬q.1=k:=λz=>e (h1.trans z)
   have b:valueAt (q::qs) k=valueAt qs k:=by simp[valueAt,bM,e']
   rw[af4 e,b];exact ih
theorem KV.any{kvs:List (κ×V)}{vs:List (κ×dU)}(r:KV kvs vs)(k:κ):(kvs.any λkv=>decide (kv.1=k))=vs.any λkv=>decide (kv.1=k):=by
 unfold KV at r
 induction r with
 | nil=>rfl
 | cons h t ih=>rw[bP,bP,ih,h.1]
theorem KV.repl{kvs:List (κ×V)}{vs:List (κ×dU)}(r:KV kvs vs)(k:κ){y:V}{u:dU}(ry:E3 y u):
  KV (kvs.map λkv=>if kv.1=k then(kv.1,y) else kv) (vs.map λkv=>if kv.1=k then(kv.1,u) else kv):=by
 unfold KV at r ⊢
 induction r with
 | nil=>exact .nil
 | @cons p q ps qs h t ih =>
  rw[bh,bh];refine .cons ?_ ih;obtain⟨h1,h2⟩:=h;by_cases e:p.1=k
  ·rw[if_pos e,if_pos (h1.symm.trans e)];exact⟨h1,ry⟩
  ·rw[if_neg e,if_neg (λz=>e (h1.trans z))];exact⟨h1,h2⟩
theorem KV.put{kvs:List (κ×V)}{vs:List (κ×dU)}(r:KV kvs vs)(k:κ){y:V}{u:dU}(ry:E3 y u):KV (ai5 kvs k y) (stored vs k u):=by
 unfold ai5 stored;rw[r.any k];by_cases e:(vs.any λkv=>decide (kv.1=k))=true
 ·rw[if_pos e,if_pos e];exact r.repl k ry
 ·rw[if_neg e,if_neg e];exact Paired.snoc r ⟨rfl,ry⟩
theorem KV.drop{kvs:List (κ×V)}{vs:List (κ×dU)}(r:KV kvs vs)(k:κ):KV (al6 kvs k) (without vs k):=by
 unfold KV at r ⊢;unfold al6 without
 induction r with
 | nil=>exact .nil
 | @cons p q ps qs h t ih =>
  obtain⟨h1,h2⟩:=h;rw[bH,bH];by_cases e:p.1=k
  ·have a:¬decide (p.1≠k)=true:=by simp[e]
   have b:¬decide (q.1≠k)=true:=by simp[h1.symm.trans e]
   rw[if_neg a,if_neg b];exact ih
  ·have e':¬q.1=k:=λz=>e (h1.trans z)
   have a:decide (p.1≠k)=true:=by simp[e]
   have b:decide (q.1≠k)=true:=by simp[e']
   rw[if_pos a,if_pos b];exact .cons ⟨h1,h2⟩ ih
theorem KV.length{kvs:List (κ×V)}{vs:List (κ×dU)}(r:KV kvs vs):kvs.length=vs.length:=Paired.length r
theorem aM0(kvs:List (κ×V))(k:κ):(al6 kvs k).length<=kvs.length:=List.length_filter_le _ _
end
theorem al5{P:dq}{w:World}{k:Key}{u:dU}(r:E3 (kV k) u):(K8 P w).is k u=true:=by
 cases k with
 | inl i=>obtain⟨t,e⟩:=(show ∃t,u=Value.int i t from r);subst e;exact aK5 P w i t
 | inr x=>obtain⟨t,e⟩:=(show ∃t,u=Value.str x t from r);subst e;exact aK4 P w x t
theorem ay5{P:dq}{w:World}:∀{ks:List Key}{us:List dU},C2 (ks.map kV) us->ItemsAre (K8 P w) ks us
 | [],_,r=>by rw[List.map_nil]at r;cases r;exact .nil
 | k::ks,_,r=>by
  rw[bh]at r;cases r with
  | cons h t=>exact .cons (al5 h) (ay5 t)
noncomputable abbrev KT(H:Hp):List (List Key×V)->List (List Key×dX×dU)->Prop:=Paired λp q=>p.1=q.1/\H q.2.1=some (.tup (p.1.map kV))/\E3 p.2 q.2.2
theorem KT.val{H:Hp}{kvs:List (List Key×V)}{xs:List (List Key×dX×dU)}(r:KT H kvs xs)(k:List Key):u4 (aa1 kvs k) ((atKey xs k).map (·.2)):=by
 induction r with
 | nil=>exact True.intro
 | @cons p q ps qs h t ih =>
  obtain⟨h1,_,h2⟩:=h;by_cases e:p.1=k
  ·have e':q.1=k:=h1.symm.trans e;have b:atKey (q::qs) k=some q.2:=by simp[atKey,bM,e']
   rw[af3 e,b];exact h2
  ·have e':¬q.1=k:=λz=>e (h1.trans z)
   have b:atKey (q::qs) k=atKey qs k:=by simp[atKey,bM,e']
   rw[af4 e,b];exact ih
theorem KT.repl{H:Hp}{kvs:List (List Key×V)}{xs:List (List Key×dX×dU)}(r:KT H kvs xs)(k:List Key){y:V}{u:dU}(ry:E3 y u):
  KT H (kvs.map λkv=>if kv.1=k then(kv.1,y) else kv) (xs.map (putAt k u)):=by
 induction r with
 | nil=>exact .nil
 | @cons p q ps qs h t ih =>
  rw[bh,bh];refine .cons ?_ ih;obtain⟨h1,h2,h3⟩:=h;unfold putAt;by_cases e:p.1=k
  ·rw[if_pos e,if_pos (h1.symm.trans e)];exact⟨h1,h2,ry⟩
  ·rw[if_neg e,if_neg (λz=>e (h1.trans z))];exact⟨h1,h2,h3⟩
theorem KT.put{H:Hp}{kvs:List (List Key×V)}{xs:List (List Key×dX×dU)}(r:KT H kvs xs)(k:List Key){b:dX}{y:V}{u:dU}(hb:H b=some (.tup (k.map kV)))(ry:E3 y u):
  KT H (ai5 kvs k y) (storedH xs k b u):=by
 have e:(kvs.any λkv=>decide (kv.1=k))=(atKey xs k).isSome:=by
  rw[aH5,(r.val k).isSome_eq,cJ]
 unfold ai5 storedH;rw[e];by_cases q:(atKey xs k).isSome=true
 ·rw[if_pos q,if_pos q];exact r.repl k ry
 ·rw[if_neg q,if_neg q];exact Paired.snoc r ⟨rfl,hb,ry⟩
theorem KT.keeps{H H':Hp}{kvs:List (List Key×V)}{xs:List (List Key×dX×dU)}(r:KT H kvs xs)(ht:∀b ys,H b=some (.tup ys)->H' b=some (.tup ys)):KT H' kvs xs :=
 Paired.mapP r λ_ _ z=>⟨z.1,ht _ _ z.2.1,z.2.2⟩
section
variable {P:Program}{w:World}{H:Hp}{h:Heap}{a:Addr}
theorem bS4{u:HO}(ok:HOk P w H h)(e:Rd H a u):P4 P w H h a u:=e.ok ok
theorem al7{kvs:List (Key×V)}(ok:HOk P w H h)(e:Rd H a (.dK kvs)):kvs.length<=dj/\(a==sysModules)=false/\∃vs,KV kvs vs/\h.DictOf (K8 P w) a vs :=
 show P4 P w H h a (.dK kvs) from bS4 ok e
theorem aZ6{kvs:List (Key×V)}(ok:HOk P w H h)(e:H a=some (.dK kvs)):kvs.length<=dj/\(a==sysModules)=false/\∃vs,KV kvs vs/\h.DictOf (K8 P w) a vs:=al7 ok (.inl e)
theorem aj0{ks:List Key}(ok:HOk P w H h)(e:H a=some (.tup (ks.map kV))):(tupleKind (K8 P w)).is h ks a:=by
 obtain⟨_,its,r,o,h1,h2,⟨n,h3⟩,_⟩:=(show P4 P w H h a (.tup (ks.map kV)) from ok a _ e);exact⟨o,its.toArray,n,h1,h2,h3,by simpa using ay5 r⟩
theorem as8{kvs:List (List Key×V)}(ok:HOk P w H h)(e:Rd H a (.dT kvs)):kvs.length<=dj/\(a==sysModules)=false /\
  ∃xs,KT H kvs xs/\h.DictOfH (tupleKind (K8 P w)) a xs:=by
 obtain⟨z,y,xs,r,o,es,ep,h1,h2,h3,h4,h5⟩:=(show P4 P w H h a (.dT kvs) from bS4 ok e);refine⟨z,y,xs,r,o,es,ep,h1,h2,h3,h4,λx hx=>?_,h5⟩
 have all:∀{l:List (List Key×V)}{m:List (List Key×dX×dU)},KT H l m->∀x∈m,(tupleKind (K8 P w)).is h x.1 x.2.1:=by
  intro l m q
  induction q with
  | nil=>intro x hx;exact nomatch hx
  | @cons p q ps qs hq t ih =>
   intro x hx;rcases ax.mp hx with e|hx
   ·subst e;exact aj0 ok (by rw[← hq.1];exact hq.2.1)
   ·exact ih x hx
 exact all r x hx
theorem cA6{kvs:List (List Key×V)}(ok:HOk P w H h)(e:H a=some (.dT kvs)):kvs.length<=dj/\(a==sysModules)=false /\
  ∃xs,KT H kvs xs/\h.DictOfH (tupleKind (K8 P w)) a xs:=as8 ok (.inl e)
end
noncomputable def ak7(H:Hp)(a:dX)(y:V)(r:Option V):Prop :=
 (∃kvs k,Rd H a (.dK kvs)/\y=kV k/\r=aa1 kvs k)\/∃kvs k b,Rd H a (.dT kvs)/\y=.ref b/\H b=some (.tup (k.map kV))/\r=aa1 kvs k
noncomputable def bC4(H:Hp)(a:dX)(y v:V)(H':Hp):Prop :=
 (∃kvs k,H a=some (.dK kvs)/\y=kV k/\kvs.length < dj/\H'=upd H a (.dK (ai5 kvs k v))) \/
 ∃kvs k b,H a=some (.dT kvs)/\y=.ref b/\H b=some (.tup (k.map kV))/\kvs.length < dj/\H'=upd H a (.dT (ai5 kvs k v))
theorem ak7.k{H:Hp}{a:dX}{kvs:List (Key×V)}{k:Key}(e:H a=some (.dK kvs)):ak7 H a (kV k) (aa1 kvs k):=.inl ⟨kvs,k,.inl e,rfl,rfl⟩
theorem bC4.k{H:Hp}{a:dX}{kvs:List (Key×V)}{k:Key}{v:V}(e:H a=some (.dK kvs))(hl:kvs.length < dj):bC4 H a (kV k) v (upd H a (.dK (ai5 kvs k v))):=.inl ⟨kvs,k,e,rfl,hl,rfl⟩
section
variable {X:Cx}{pins:List (Addr×Obj)}{σ:St}{H:Hp}{s:Shared}{a:Addr}{y v:V}{u r:Value}{o:Option V}{A:Around}{E:Value->Shared->Prop}
theorem Inv.big(I:Inv X pins σ H s):sysModules < s.heap.objs.size:=by
 have h:dn < s.heap.objs.size:=(I.mod.glob.keeps I.bk).lt;exact Nat.lt_trans (by decide) h
theorem bh3{Q:dU->dW->Prop}(hu:A.units+1 < cLine)(I:Inv X pins σ H s)(g:ak7 H a y (some v))(ry:E3 y u)(h:∀w' s',Inv X pins σ H s'->E3 v w'->Q w' s'):
  dD (dE X.prog X.w) A (getItem (.ref a) u) Q E s:=by
 rcases g with⟨kvs,k,e,ey,l⟩|⟨kvs,k,b,e,ey,eb,l⟩
 ·subst ey;obtain⟨z,hd,vs,rel,dd⟩:=al7 I.hok e;obtain⟨w',hw,rw'⟩:=u4.some_of (v:=v) (o:=valueAt vs k) (by rw[l];exact rel.val k);exact wpAny_getItem_of (al5 ry) dd.mapOf hw (h w' _ (I.tok _) rw')
 ·subst ey;cases(show u=dO b from ry);obtain⟨z,hd,xs,rel,dd⟩:=as8 I.hok e;obtain⟨w',hw,rw'⟩:=u4.some_of (v:=v) (o:=(atKey xs k).map (·.2)) (by rw[l];exact rel.val k);obtain⟨p,hp,hp2⟩:=af.mp hw;refine wpAny_getItem_heap (tupleKind_room_in1 hu) (aj0 I.hok eb) dd hp ?_;rw[hp2];exact h w' _ (I.tok _) rw'
theorem cH1{Q:dU->dW->Prop}(hu:A.units+1 < cLine)(I:Inv X pins σ H s)(g:ak7 H a y o)(ry:E3 y u)(h:∀s',Inv X pins σ H s'->Q (.bool o.isSome) s'):
  dD (dE X.prog X.w) A (dl .In u (.ref a)) Q E s:=by
 rcases g with⟨kvs,k,e,ey,l⟩|⟨kvs,k,b,e,ey,eb,l⟩
 ·subst ey;obtain⟨z,hd,vs,rel,dd⟩:=al7 I.hok e;refine wpAny_in_of (al5 ry) hd dd.mapOf ?_;rw[← (rel.val k).isSome_eq,← l];exact h _ (I.tok _)
 ·subst ey;cases(show u=dO b from ry);obtain⟨z,hd,xs,rel,dd⟩:=as8 I.hok e;refine wpAny_in_heap (tupleKind_room_in1 hu) (aj0 I.hok eb) hd dd ?_;have q:=(rel.val k).isSome_eq;rw[cJ]at q;rw[← q,← l];exact h _ (I.tok _)
theorem bP7{Q:dU->dW->Prop}(hu:A.units+1 < cLine)(I:Inv X pins σ H s)(g:ak7 H a y o)(ry:E3 y u)(h:∀s',Inv X pins σ H s'->Q (.bool (!o.isSome)) s'):
  dD (dE X.prog X.w) A (dl .NotIn u (.ref a)) Q E s:=by
 rcases g with⟨kvs,k,e,ey,l⟩|⟨kvs,k,b,e,ey,eb,l⟩
 ·subst ey;obtain⟨z,hd,vs,rel,dd⟩:=al7 I.hok e;refine wpAny_notIn_of (al5 ry) hd dd.mapOf ?_;rw[← (rel.val k).isSome_eq,← l];exact h _ (I.tok _)
 ·subst ey;cases(show u=dO b from ry);obtain⟨z,hd,xs,rel,dd⟩:=as8 I.hok e;refine wpAny_notIn_heap (tupleKind_room_in1 hu) (aj0 I.hok eb) hd dd ?_;have q:=(rel.val k).isSome_eq;rw[cJ]at q;rw[← q,← l];exact h _ (I.tok _)
theorem ao6{h':Heap}{t':Nat}{ob:HO}(I:Inv X pins σ H s)(mu:Mut (H a))(hs:Heap.SameBut a s.heap h')(he:∃q,h'.get? a=some q)(new:P4 X.prog X.w (upd H a ob) h' a ob):
  Inv X pins σ (upd H a ob) { s with heap:=h',toks:=t' } :=
 I.write (x:=a) (e:=a) mu (.inl rfl) (λb q hb z=>(hs.2 b hb).trans z) he new
theorem aE9{P:dq}{w:World}{H':Hp}{h':Heap}{kvs:List (Key×V)}{vs:List (Key×dU)}(z:kvs.length<=dj)(hd:(a==sysModules)=false)(rel:KV kvs vs)(dd:h'.DictOf (K8 P w) a vs):
  P4 P w H' h' a (.dK kvs):=⟨z,hd,vs,rel,dd⟩
theorem bg3{H':Hp}{Q:Unit->dW->Prop}(hu:A.units+1 < cLine)(I:Inv X pins σ H s)(g:bC4 H a y v H')(ry:E3 y u)(rv:E3 v r)(h:∀s',Inv X pins σ H' s'->Q () s'):
  dD (dE X.prog X.w) A (setItem (.ref a) u r) Q E s:=by
 rcases g with⟨kvs,k,e,ey,l,eH⟩|⟨kvs,k,b,e,ey,eb,l,eH⟩
 ·subst ey eH;obtain⟨z,hd,vs,rel,dd⟩:=aZ6 I.hok e;have hz:vs.length<=dj:=by rw[← rel.length];exact z
  have hl:(ai5 kvs k v).length<=dj:=by have:=al2 kvs k v;omega
  refine wpAny_setItem_pairs (hsz:=hz) (al5 ry) dd λh' dd' hs=>h _ ?_
  have he:∃q,h'.get? a=some q:=let⟨q,_,_,hq,_⟩:=dd';⟨q,hq⟩
  exact ao6 I (by rw[e];exact True.intro) hs he (aE9 hl hd (rel.put k rv) dd')
 ·subst ey eH;cases(show u=dO b from ry);obtain⟨z,hd,xs,rel,dd⟩:=cA6 I.hok e;have hz:xs.length<=dj:=by rw[← Paired.length rel];exact z
  have hl:(ai5 kvs k v).length<=dj:=by have:=al2 kvs k v;omega
  refine wpAny_setItem_heap (hsz:=hz) (tupleKind_room_in1 hu) (aj0 I.hok eb) dd λh' dd' hs=>h _ ?_
  obtain⟨q,es,ep,hq,h2,h3,h4,_,h5⟩:=dd';refine ao6 I (by rw[e];exact True.intro) hs ⟨q,hq⟩ ⟨hl,hd,_,(rel.put k eb rv).keeps λc ys ec=>?_,q,es,ep,hq,h2,h3,h4,h5⟩;rw[B3 (cw8 ec e (λz=>nomatch z))];exact ec
end
section
variable {X:Cx}{pins:List (Addr×Obj)}{σ:St}{H:Hp}{s:Shared}{a:Addr}{kvs:List (Key×V)}{k:Key}{u:Value}{A:Around}{E:Value->Shared->Prop}
theorem cp7{Q:Unit->dW->Prop}(I:Inv X pins σ H s)(e:H a=some (.dK kvs))(ry:E3 (kV k) u)(l:(aa1 kvs k).isSome=true)(h:∀s',Inv X pins σ (upd H a (.dK (al6 kvs k))) s'->Q () s'):
  dD (dE X.prog X.w) A (delItem (.ref a) u) Q E s:=by
 obtain⟨z,hd,vs,rel,dd⟩:=aZ6 I.hok e
 refine wpAny_delItem_slot dd.typeIs (by decide) PySem.F.slot_dict_delitem
  (call_meetsIn PySem.F.slot_dict_delitem dd.typeIs PySem.F.entry_dict_delitem (PySem.F.args_dict_delitem_2 _ _) (meets_dict_delitem_pairs (K8 X.prog X.w) a (al5 ry)) ⟨vs,dd,by rw[← rel.length];exact z,by rw[← (rel.val k).isSome_eq];exact l,λh' dd' hs=>h _ ?_⟩)
 have he:∃q,h'.get? a=some q:=let⟨q,_,_,hq,_⟩:=dd';⟨q,hq⟩
 exact ao6 I (by rw[e];exact True.intro) hs he (aE9 (aC (aM0 kvs k) z) hd (rel.drop k) dd')
theorem cA8{v:V}{more:List dU}{Q:dU->dW->Prop}(I:Inv X pins σ H s)(e:H a=some (.dK kvs))(ry:E3 (kV k) u)(l:aa1 kvs k=some v)(hm:more=[]\/∃x,more=[x])
  (h:∀w' s',Inv X pins σ (upd H a (.dK (al6 kvs k))) s'->E3 v w'->Q w' s'):dD (dE X.prog X.w) A (call (.builtin "dict.pop") (.ref a::u::more)) Q E s:=by
 obtain⟨z,hd,vs,rel,dd⟩:=aZ6 I.hok e;obtain⟨w',hw,rw'⟩:=u4.some_of (v:=v) (o:=valueAt vs k) (by rw[← l];exact rel.val k)
 have hp:(keyPart u).isSome=true:=by
  cases k with
  | inl i=>obtain⟨t,q⟩:=(show ∃t,u=Value.int i t from ry);subst q;rfl
  | inr x=>obtain⟨t,q⟩:=(show ∃t,u=Value.str x t from ry);subst q;rfl
 have ha:argsOk "dict.pop" ⟨.ref a::u::more,[]⟩:=by
  rcases hm with q|⟨x,q⟩
  ·subst q;exact PySem.F.args_dict_pop_2 _ _
  ·subst q;exact PySem.F.args_dict_pop_3 _ _ _
 refine call_meetsIn PySem.F.slot_dict_pop dd.typeIs PySem.F.entry_dict_pop ha (meets_dict_pop_there (K8 X.prog X.w) a (al5 ry) more hm hp)
  ⟨vs,w',dd,by rw[← rel.length];exact z,hw,λh' dd' hs=>h w' _ ?_ rw'⟩
 have he:∃q,h'.get? a=some q:=let⟨q,_,_,hq,_⟩:=dd';⟨q,hq⟩
 exact ao6 I (by rw[e];exact True.intro) hs he (aE9 (aC (aM0 kvs k) z) hd (rel.drop k) dd')
end
noncomputable def bR0(i:Expr):Prop:=∀ov iv,subscripted i false ov iv=operate [ov,iv] (getItem ov iv)
theorem bH1{prog:dq}{w:World}{A:dr}{E:dU->dW->Prop}{s:dW}{env:Env}{value slice:Expr}{pos:Pos}{T id:String}{Q:dU->dW->Prop}
  (hl:typeLookup (.type T) "__getitem__" = pure (some (.builtin id))) (hs:bR0 slice)
  (h:dD (dE prog w) A (eval value env) (λo s₁=>dD (dE prog w) A (eval slice env) (λi s₂=>s₂.TypeIs o T/\dD (dE prog w) A (getItem o i) Q E s₂) E s₁) E s) :
  dD (dE prog w) A (eval (.Subscript value slice pos) env) Q E s:=by
 refine Subscript_ (cZ h (λo s₁ h₁=>cZ h₁ (λi s₂ h₂=>?_) λ_ _ x=>x) λ_ _ x=>x);obtain⟨hT,h₂⟩:=h₂;unfold subscriptTail;refine cX ?_;rw[getitemInPython_of_ne hT.not_modules];refine cX (wpAny_specialOf hT hl ?_)
 have fin:dD (dE prog w) A (subscripted slice false o i) (λr s₃=>dD (dE prog w) A (letTemporaryGo value o r >>= λ_=>pure r) Q E s₃) E s₂:=by
  rw[hs o i];exact wpAny_operating (cZ h₂ (λr s₃ h₃=>cX (wpAny_letTemporaryGo (cY h₃))) λ_ _ x=>x)
 first
  | exact cY (cX fin)
  | exact cX (cY (cX fin))
  | exact cX fin
theorem aM2{X:Cx}{pins:List (dX×Obj)}{σ:St}{H:Hp}{s:dW}{a:dX}{y:V}{o:Option V}(I:Inv X pins σ H s)(g:ak7 H a y o):s.TypeIs (.ref a) "dict" := by
 rcases g with⟨kvs,k,e,_,_⟩|⟨kvs,k,b,e,_,_,_⟩
 ·obtain⟨_,_,vs,_,dd⟩:=al7 I.hok e;exact dd.typeIs
 ·obtain⟨_,_,xs,_,dd⟩:=as8 I.hok e;exact dd.typeIs
noncomputable def ct3(td ty:TE):TE:=λσ H Q=>td σ H λx H1=>ty σ H1 λy H2=>∃a v,x=.ref a/\ak7 H2 a y (some v)/\Q v H2
noncomputable def cE1(ty td:TE):TE:=λσ H Q=>ty σ H λy H1=>td σ H1 λx H2=>∃a o,x=.ref a/\ak7 H2 a y o/\Q (.bl o.isSome) H2
noncomputable def bG9(ty td:TE):TE:=λσ H Q=>ty σ H λy H1=>td σ H1 λx H2=>∃a o,x=.ref a/\ak7 H2 a y o/\Q (.bl (!o.isSome)) H2
noncomputable def cu1(td ty tv:TE):TS:=λD σ H=>tv σ H λv H1=>td σ H1 λx H2=>ty σ H2 λy H3=>∃a H4,x=.ref a/\bC4 H3 a y v H4/\D.nx σ H4
section
variable {X:Cx}{o i e value:Expr}{pos pos' tpos:Pos}{td ty tv:TE}
theorem bK1(hu:X.A.units+1 < cLine)(ho:PE X o td)(hi:PE X i ty)(hs:bR0 i):PE X (.Subscript o i pos) (ct3 td ty):=by
 intro pins s σ H Q I h;refine bH1 PySem.F.slot_dict_getitem.lookup hs (thn (ho pins s σ H _ I h) λu s1 ⟨x,H1,I1,rx,q1⟩=>thn (hi pins s1 σ H1 _ I1 q1) λiv s2 ⟨y,H2,I2,ry,a,v,ex,g,q2⟩=>?_);subst ex;obtain rfl:u=dO a:=rx;exact⟨aM2 I2 g,bh3 hu I2 g ry λw' s3 I3 rw'=>⟨v,H2,I3,rw',q2⟩⟩
theorem bp8(hu:X.A.units+1 < cLine)(hi:PE X i ty)(ho:PE X o td):PC X .In i o (cE1 ty td):=by
 intro pins s σ H Q I h;refine thn (hi pins s σ H _ I h) λiv s1 ⟨y,H1,I1,ry,q1⟩=>thn (ho pins s1 σ H1 _ I1 q1) λu s2 ⟨x,H2,I2,rx,a,ov,ex,g,q2⟩=>?_
 subst ex;obtain rfl:u=dO a:=rx;exact cH1 hu I2 g ry λs3 I3=>⟨.bl ov.isSome,H2,I3,rfl,q2⟩
theorem ax7(hu:X.A.units+1 < cLine)(hi:PE X i ty)(ho:PE X o td):PC X .NotIn i o (bG9 ty td):=by
 intro pins s σ H Q I h;refine thn (hi pins s σ H _ I h) λiv s1 ⟨y,H1,I1,ry,q1⟩=>thn (ho pins s1 σ H1 _ I1 q1) λu s2 ⟨x,H2,I2,rx,a,ov,ex,g,q2⟩=>?_
 subst ex;obtain rfl:u=dO a:=rx;exact bP7 hu I2 g ry λs3 I3=>⟨.bl (!ov.isSome),H2,I3,rfl,q2⟩
theorem bJ4(hu:X.A.units+1 < cLine)(ho:PE X o td)(hi:PE X i ty)(hv:PE X value tv)(hs:swapsWith value (some (.Subscript o i pos')) pos.line X.env=pure false):
  PS X (.Assign [.Subscript o i pos'] value pos) (cu1 td ty tv):=by
 intro pins s σ H D I h;refine wpAny_Assign_Subscript (thn (hv pins s σ H _ I h) λr s1 ⟨v,H1,I1,rv,q1⟩=>thn (ho pins s1 σ H1 _ I1 q1) λu s2 ⟨x,H2,I2,rx,q2⟩=>thn (hi pins s2 σ H2 _ I2 q2) λiv s3 ⟨y,H3,I3,ry,a,H4,ex,g,q3⟩=>?_) hs;subst ex;obtain rfl:u=dO a:=rx;exact bg3 hu I3 g ry rv λs4 I4=>⟨σ,H4,I4,q3⟩
end
theorem bz8{P:dq}{w:World}{H:Hp}(h:Heap)(hb:sysModules < h.objs.size):P4 P w H (h.push { cls:=.type "dict", data:=.dict #[] }) h.objs.size (.dK []) :=
 ⟨aW _,beq_eq_false_iff_ne.mpr (Ne.symm (aD hb)),[],.nil,Heap.DictOf.new h⟩
noncomputable def ca1:TE:=λ_ H Q=>∀p,H p=none->Q (.ref p) (upd H p (.dK []))
section
variable {X:Cx}{pos:Pos}
theorem bp3:PE X (.Dict [] [] pos) ca1:=λpins s σ H Q I h =>
 wpAny_Dict_empty ⟨.ref s.heap.objs.size,_,I.laid (a:=s.heap.objs.size) (o:=.dK []) (t':=s.toks) (λ_ _ q=>dF _ q) (ai _) (bz8 s.heap I.big),rfl,h _ (I.hok.fresh (ai _))⟩
end
structure M1 (X:Cx) (o:Expr) (m:Str) (apos:Pos) (e:Expr) (cpos:Pos):Prop where
 base:dB o m X.env (eval o X.env)=eval o X.env
 few:((backTo cpos (di [e] X.env)).all (λx=>!x.1)&&(backToKw cpos (keywordEach [] X.env)).all (λx=>x.1.isSome)
  && decide (([e]:List Expr).length+([]:List dw).length+(if([]:List dw).isEmpty then 0 else 1) < 30))=true
 line:(apos.endLine==cpos.line)=true
 trees:backTo cpos (di [e] X.env)=[(false,eval e X.env)]
noncomputable def IsD(H:Hp)(a:dX):Prop:=(∃kvs,Rd H a (.dK kvs))\/∃kvs,Rd H a (.dT kvs)
theorem bx6{X:Cx}{pins:List (dX×Obj)}{σ:St}{H:Hp}{s:dW}{a:dX}(I:Inv X pins σ H s)(d:IsD H a):
  s.TypeIs (.ref a) "dict" /\ (∀b,dO a=.ref b->∃ob,s.heap.get? b=some ob/\ob.dict=none)/\(a==sysModules)=false:=by
 rcases d with⟨kvs,e⟩|⟨kvs,e⟩
 ·obtain⟨_,hd,vs,_,dd⟩:=al7 I.hok e;refine⟨dd.typeIs,λb q=>?_,hd⟩;cases q;obtain⟨ob,_,_,h1,h2,_⟩:=dd;exact⟨ob,h1,h2.2.1⟩
 ·obtain⟨_,hd,xs,_,dd⟩:=as8 I.hok e;refine⟨dd.typeIs,λb q=>?_,hd⟩;cases q;obtain⟨ob,_,_,h1,h2,_⟩:=dd;exact⟨ob,h1,h2.2.1⟩
section
variable {X:Cx}{pins:List (Addr×Obj)}{σ:St}{H:Hp}{s:Shared}{a:Addr}{y d:V}{u r:Value}{o:Option V}{A:Around}{E:Value->Shared->Prop}
theorem cn4{Q:dU->dW->Prop}(hu:A.units+1 < cLine)(I:Inv X pins σ H s)(g:ak7 H a y o)(ry:E3 y u)(h:∀w' s',Inv X pins σ H s'->E3 (o.getD .non) w'->Q w' s'):
  dD (dE X.prog X.w) A (call (.builtin "dict.get") [.ref a,u]) Q E s:=by
 rcases g with⟨kvs,k,e,ey,l⟩|⟨kvs,k,b,e,ey,eb,l⟩
 ·subst ey;obtain⟨z,hd,vs,rel,dd⟩:=al7 I.hok e;refine call_meetsIn PySem.F.slot_dict_get dd.typeIs PySem.F.entry_dict_get (PySem.F.args_dict_get_2 _ _) (meets_dict_get (K8 X.prog X.w) a (al5 ry) hd) ⟨_,dd.mapOf,h _ _ (I.tok _) ?_⟩;rw[l];exact(rel.val k).getD rfl
 ·subst ey;cases(show u=dO b from ry);obtain⟨z,hd,xs,rel,dd⟩:=as8 I.hok e;refine call_meetsIn PySem.F.slot_dict_get dd.typeIs PySem.F.entry_dict_get (PySem.F.args_dict_get_2 _ _) (meetsH_dict_get (tupleKind (K8 X.prog X.w)) a b hd) ⟨tupleKind_room_in1 hu,k,xs,aj0 I.hok eb,dd,h _ _ (I.tok _) ?_⟩;rw[l];exact(rel.val k).getD rfl
end
noncomputable def ca2(td ty:TE):TE:=λσ H Q=>td σ H λx H1=>∃a,x=.ref a/\IsD H1 a/\ty σ H1 λy H2=>∃o,ak7 H2 a y o/\Q (o.getD .non) H2
noncomputable def ca0(td ty:TE):TE:=λσ H Q=>td σ H λx H1=>∃a,x=.ref a/\IsD H1 a/\ty σ H1 λy H2=>∃kvs k v,H2 a=some (.dK kvs)/\y=kV k/\aa1 kvs k=some v/\Q v (upd H2 a (.dK (al6 kvs k)))
section
variable {X:Cx}{o e f:Expr}{apos cpos:Pos}{td ty tx:TE}
theorem bp4(hu:X.A.units+1 < cLine)(ho:PE X o td)(he:PE X e ty)(m:M1 X o "get" apos e cpos):PE X (.Call (.Attribute o "get" apos) [e] [] cpos) (ca2 td ty):=by
 intro pins s σ H Q I h;refine wpAny_Call_method m.base m.few m.line PySem.F.plainAttrs_dict PySem.F.slot_dict_get PySem.F.type_dict_get (thn (ho pins s σ H _ I h) λu s1 ⟨x,H1,I1,rx,a,ex,d,q1⟩=>?_);subst ex;obtain rfl:u=dO a:=rx;obtain⟨t1,t2,_⟩:=bx6 I1 d;refine⟨t1,t2,?_⟩;rw[m.trees];refine Calls.callWith_builtin rfl (Calls.evalArgs_plain (Calls.spliced_cons (thn (he pins s1 σ H1 _ I1 q1) λiv s2 ⟨y,H2,I2,ry,ov,g,q2⟩=>Calls.spliced_nil ?_)));exact cn4 hu I2 g ry λw' s3 I3 rw'=>⟨_,H2,I3,rw',q2⟩
theorem bp2(ho:PE X o td)(he:PE X e ty)(m:M1 X o "pop" apos e cpos):PE X (.Call (.Attribute o "pop" apos) [e] [] cpos) (ca0 td ty):=by
 intro pins s σ H Q I h;refine wpAny_Call_method m.base m.few m.line PySem.F.plainAttrs_dict PySem.F.slot_dict_pop PySem.F.type_dict_pop (thn (ho pins s σ H _ I h) λu s1 ⟨x,H1,I1,rx,a,ex,d,q1⟩=>?_);subst ex;obtain rfl:u=dO a:=rx;obtain⟨t1,t2,_⟩:=bx6 I1 d;refine⟨t1,t2,?_⟩;rw[m.trees];refine Calls.callWith_builtin rfl (Calls.evalArgs_plain (Calls.spliced_cons (thn (he pins s1 σ H1 _ I1 q1) λiv s2 ⟨y,H2,I2,ry,kvs,k,v,ea,ey,l,q2⟩=>Calls.spliced_nil ?_)));subst ey;exact cA8 I2 ea ry l (.inl rfl) λw' s3 I3 rw'=>⟨v,_,I3,rw',q2⟩
end
section
variable {X:Cx}{pins:List (Addr×Obj)}{σ:St}{H:Hp}{s:Shared}{a:Addr}{kvs:List (Key×V)}{A:Around}{E:Value->Shared->Prop}
theorem bA3{Q:dU->dW->Prop}(I:Inv X pins σ H s)(e:Rd H a (.dK kvs))(h:∀p s',H p=none->Inv X pins σ (upd H p (.dK kvs)) s'->Q (.ref p) s'):dD (dE X.prog X.w) A (call (.type "dict") [.ref a]) Q E s:=by
 obtain⟨z,hd,vs,rel,dd⟩:=al7 I.hok e;refine kt_call_dict hd dd (by rw[← rel.length];exact z) λh' dd' hs=>?_
 refine h _ _ (I.hok.fresh (ai _)) (I.laid (a:=s.heap.objs.size) (o:=.dK kvs) (t':=s.toks) (λb q hq=>?_) (ai _) (aE9 z (beq_eq_false_iff_ne.mpr (Ne.symm (aD I.big))) rel dd'));exact(hs.2 b (aD (dG hq))).trans (dF _ hq)
end
end L2
namespace G
open PySem PySem.Spec PyProof.Rows L2
noncomputable def T0(x:Str)(kv:D×D):Bool:=match kv.1 with
 | .str y=>y==x
 | _=>false
noncomputable def O5(kvs:List (D×D))(x:Str):Option D:=(kvs.find? (T0 x)).map (·.2)
noncomputable def aQ1(kvs:List (D×D))(x:Str)(d:D):List (D×D):=if kvs.any (T0 x) then kvs.map (λkv=>if T0 x kv then(kv.1,d) else kv) else kvs++[(.str x,d)]
section
variable {K:PySem.W.Frag}{H:Hp}
theorem bM5(x y:Str):decide ((Sum.inr y:Key)=Sum.inr x)=(y==x):=by rw[bu5];rfl
theorem RepKs.look:∀{kvs:List (D×D)}{m:List (Key×V)}(x:Str),RepKs K H kvs m->(O5 kvs x=none/\aa1 m (.inr x)=none)\/∃d v,O5 kvs x=some d/\aa1 m (.inr x)=some v/\Rep K H d v
 | [],_,x,h=>by cases h;exact .inl ⟨rfl,rfl⟩
 | (k,d)::r,_,x,⟨y,v,t,h1,h2,h3,h4⟩=>by
  subst h1 h2;by_cases e:y=x
  ·subst e;exact .inr ⟨d,v,by simp[O5,T0],by rw[af3 rfl],h3⟩
  ·have e1:O5 ((.str y,d)::r) x=O5 r x:=by simp[O5,T0,e]
   have e2:aa1 ((Sum.inr y,v)::t) (Sum.inr x)=aa1 t (.inr x):=af4 (by intro z;exact e (Sum.inr.inj z));rw[e1,e2];exact RepKs.look x h4
theorem RepKs.any(x:Str):∀{kvs:List (D×D)}{m:List (Key×V)},RepKs K H kvs m->kvs.any (T0 x)=m.any λkv=>decide (kv.1=Sum.inr x)
 | [],_,h=>by cases h;rfl
 | (k,d)::r,_,⟨y,v,t,h1,h2,h3,h4⟩=>by
  subst h1 h2;rw[bP,bP,RepKs.any x h4,bM5];rfl
theorem RepKs.snoc(q:Rep K H d v):∀{kvs:List (D×D)}{m:List (Key×V)},RepKs K H kvs m->RepKs K H (kvs++[(.str x,d)]) (m++[(.inr x,v)])
 | [],_,h=>by cases h;exact⟨x,v,[],rfl,rfl,q,rfl⟩
 | (k,_)::r,_,⟨y,w,t,h1,h2,h3,h4⟩=>by subst h2;exact⟨y,w,_,h1,rfl,h3,RepKs.snoc q h4⟩
theorem RepKs.repl(q:Rep K H d v):∀{kvs:List (D×D)}{m:List (Key×V)},RepKs K H kvs m->RepKs K H (kvs.map λkv=>if T0 x kv then(kv.1,d) else kv) (m.map λkv=>if kv.1=Sum.inr x then(kv.1,v) else kv)
 | [],_,h=>by cases h;rfl
 | (k,e)::r,_,⟨y,w,t,h1,h2,h3,h4⟩=>by
  subst h1 h2;rw[bh,bh];by_cases e:y=x
  ·subst e;rw[if_pos (show T0 y (.str y,_)=true by simp[T0]),if_pos rfl];exact⟨y,v,_,rfl,rfl,q,RepKs.repl q h4⟩
  ·rw[if_neg (show ¬T0 x (.str y,_)=true by simp[T0,e]),if_neg (by intro z;exact e (Sum.inr.inj z))];exact⟨y,w,_,rfl,rfl,h3,RepKs.repl q h4⟩
theorem RepKs.put(q:Rep K H d v)(h:RepKs K H kvs m):RepKs K H (aQ1 kvs x d) (ai5 m (.inr x) v):=by
 unfold aQ1 ai5;rw[h.any x];split
 ·exact h.repl q
 ·exact h.snoc q
end
section
variable {X:Cx}
theorem bQ4:du "dict" = some (.type "dict"):=by decide +kernel
end
end G
namespace G
open PySem PySem.Spec PyProof.Rows L2
end G
namespace G
open PySem PySem.Spec PyProof.Rows L2
section
variable {X:Cx}
theorem aw6:∀(ys:List Str) (k:Nat),C2 (ys.map V.str) (strsFrom k ys)
 | [],_=>.nil
 | y::ys,k=>.cons ⟨_,rfl⟩ (aw6 ys (k+1))
theorem m5{K:ag}{H:Hp}:∀ys:List Str,Reps K H (ys.map dM) (ys.map V.str)
 | []=>rfl
 | y::ys=>⟨_,_,rfl,rfl,m5 ys⟩
noncomputable def bn6:V->List V->Hp->VK->Prop:=λx vs H Q=>∃a y,x=.str a/\vs=[.str y]/\(y.length==0)=false/\a.length<=dj/\(Txt.split a y).length<=dj/\∀p,H p=none->Q (.ref p) (upd H p (.lst ((Txt.split a y).map V.str)))
theorem bs7:MtR X "str.split" bn6:=by
 intro pins s σ H x vs v us Q I rx rv h;obtain⟨a,y,rfl,rfl,hy,hx,hn,q⟩:=h;obtain⟨t,rfl⟩:=rx;obtain⟨u,rfl,w,rfl⟩:=rv.one
 have go:∀ys its t',Txt.split a y=ys->C2 (ys.map V.str) its->EP X pins σ Q (.ref s.heap.objs.size) { s with heap:=s.heap.push { cls:=.type "list", data:=.seq its.toArray },toks:=t' }:=λys its t' e r=>by
  subst e;exact⟨.ref _,_,I.lnew r (by rw[ay];exact hn),rfl,q _ I.fresh⟩
 cases h1:(decide (a.length < y.length) || decide (Builtin.Str.strKind a < Builtin.Str.strKind y)) with
 | true =>
  exact dA F.slot_str_split (typeIs_str s a t) F.entry_str_split (F.args_str_split_2 _ _) (meets_str_split_cannot_occur a y t w h1) (go [a] [.str a t] s.toks (if_pos h1) (.cons ⟨_,rfl⟩ .nil))
 | false =>
  cases hf:(Builtin.Str.occurrences a y 0 a.length (a.length+1)).isEmpty with
  | true=>exact dA F.slot_str_split (typeIs_str s a t) F.entry_str_split (F.args_str_split_2 _ _) (meets_str_split_not_found a y t w h1 hy hf) (go [a] [.str a t] s.toks ((if_neg (by rw[h1];nofun)).trans (if_pos hf)) (.cons ⟨_,rfl⟩ .nil))
  | false =>
   have e:Txt.split a y=Builtin.Str.partsBetween a (Builtin.Str.occurrences a y 0 a.length (a.length+1)) y.length:=(if_neg (by rw[h1];nofun)).trans (if_neg (by rw[hf];nofun));exact dA F.slot_str_split (typeIs_str s a t) F.entry_str_split (F.args_str_split_2 _ _) (meets_str_split_sep a y t w h1 hy hf hx (by rw[← e];exact hn)) (go _ _ _ e (aw6 _ _))
noncomputable def bS5:V->List V->Hp->VK->Prop:=λx vs H Q=>∃a y,x=.str a/\vs=[.str y]/\(y.length==0)=false/\a.length<=dj/\∀p,H p=none->Q (.ref p) (upd H p (.tup [.str (Txt.partition a y).1,.str (Txt.partition a y).2.1,.str (Txt.partition a y).2.2]))
theorem bM3:MtR X "str.partition" bS5:=by
 intro pins s σ H x vs v us Q I rx rv h;obtain⟨a,y,rfl,rfl,hy,hx,q⟩:=h;obtain⟨t,rfl⟩:=rx;obtain⟨u,rfl,w,rfl⟩:=rv.one;refine dA F.slot_str_partition (typeIs_str s a t) F.entry_str_partition (F.args_str_partition_2 _ _) (meets_str_partition a y t w hy hx) ?_
 have go:∀(b c d:Str) (t1 t2 t3 t':Tok),Txt.partition a y=(b,c,d)->EP X pins σ Q (.ref s.heap.objs.size) { s with toks:=t',heap:=s.heap.push { cls:=.type "tuple", data:=.seq [.str b t1,.str c t2,.str d t3].toArray } }:=λb c d t1 t2 t3 t' e=>by
  rw[e]at q;refine⟨.ref s.heap.objs.size,upd H s.heap.objs.size (.tup [.str b,.str c,.str d]),I.laid (λb o e=>dF _ e) (ai _) ⟨by simp only[aO,List.length_nil];rw[dk];decide,[.str b t1,.str c t2,.str d t3],.cons ⟨_,rfl⟩ (.cons ⟨_,rfl⟩ (.cons ⟨_,rfl⟩ .nil)),?_⟩,rfl,q _ I.fresh⟩;exact⟨_,dH s.heap rfl,rfl,⟨0,rfl⟩,rfl⟩
 cases e:Builtin.Str.occurrences a y 0 a.length 1 with
 | nil=>exact go a dR dR _ _ _ _ (by unfold Txt.partition;rw[e])
 | cons i r=>exact go (Builtin.Str.strSub a 0 i) y (Builtin.Str.strSub a (i+y.length) a.length) _ _ _ _ (by unfold Txt.partition;rw[e])
noncomputable def txS(a y:Str):Option D:=if y.length≠0/\a.length<=16777216/\(Txt.split a y).length<=16777216 then some (.list ((Txt.split a y).map dM)) else none
noncomputable def txP(a y:Str):Option D:=if y.length≠0/\a.length<=16777216 then some (.tuple [.str (Txt.partition a y).1,.str (Txt.partition a y).2.1,.str (Txt.partition a y).2.2]) else none
noncomputable def dTx(m:Str->Str->Option D)(f g:DE):DE:=λρ=>(f ρ).bind λd=>(g ρ).bind λe=>match d,e with
 | .str a,.str y=>m a y
 | _,_=>none
theorem bU2{m:Str->Str->Option D}{name:Str}{id:String}{r:V->List V->Hp->VK->Prop}(slot:Slot "str" name id)(hty:typeOf (.builtin id)=pure (.type "method_descriptor"))(hm:MtR X id r)
  (hr:∀a y d H Hf Q,m a y=some d->B0 Hf H->(∀v H' Hf',Grow H Hf H' Hf'->Rep X.K Hf' d v->Q v H')->r (.str a) [.str y] H Q) (ho:JE X o f) (h:JE X e g)
  (hbase:dB o name X.env (eval o X.env)=eval o X.env:=by rfl)
  (hfew:((backTo cpos (di [e] X.env)).all (λx=>!x.1)&&(backToKw cpos (keywordEach [] X.env)).all (λx=>x.1.isSome)
   && decide (([e]:List Expr).length+([]:List dw).length+(if([]:List dw).isEmpty then 0 else 1) < 30))=true:=by rfl)
  (hline:(apos.endLine==cpos.line)=true:=by rfl) (hs:di [e] X.env=[(false,eval e X.env)]:=by rfl) :
  JE X (.Call (.Attribute o name apos) [e] [] cpos) (dTx m f g):=λρ d q=>by
 obtain⟨x,e1,q⟩:=xbm q;obtain⟨y,e2,q⟩:=xbm q;split at q
 ·rename_i a y _;refine A4 (ax6 F.plainAttrs_str slot hty hm (ho ρ _ e1) (C3 (h ρ _ e2) K2 hs) hbase hfew hline hs) λσ H Q ⟨H0,Hf,s,sl,k⟩=>?_
  refine⟨H0,Hf,s,sl,λv H1 Hf1 g1 r1=>?_⟩;cases r1;refine⟨rfl,H0,Hf1,g1.sub,sl.grow g1,λw H2 Hf2 g2 r2=>?_⟩;cases r2;exact hr a y d H2 Hf2 Q q g2.sub λv H3 Hf3 g3 r3=>k v H3 Hf3 ((g1.trans g2).trans g3) r3
 ·cases q
theorem bx9{K:ag}:∀a y d H Hf Q,txS a y=some d->B0 Hf H->(∀v H' Hf',Grow H Hf H' Hf'->Rep K Hf' d v->Q v H')->bn6 (.str a) [.str y] H Q:=λa y d H Hf Q e s k=>by
 unfold txS at e;split at e
 ·rename_i c;cases e;exact⟨a,y,rfl,rfl,by simpa using c.1,by rw[dk];exact c.2.1,by rw[dk];exact c.2.2,λp hp=>k _ _ _ (Grow.laid s hp) ⟨p,_,rfl,SqL.of A6,m5 _⟩⟩
 ·cases e
theorem bO7{K:ag}:∀a y d H Hf Q,txP a y=some d->B0 Hf H->(∀v H' Hf',Grow H Hf H' Hf'->Rep K Hf' d v->Q v H')->bS5 (.str a) [.str y] H Q:=λa y d H Hf Q e s k=>by
 unfold txP at e;split at e
 ·rename_i c;cases e;exact⟨a,y,rfl,rfl,by simpa using c.1,by rw[dk];exact c.2,λp hp=>k _ _ _ (Grow.laid s hp) ⟨p,_,rfl,SqT.of A6,m5 [_,_,_]⟩⟩
 ·cases e
theorem aw1:b0 X (.type "int") (λxs H Q=>∃x n,xs=[.str x]/\intText? x=some n/\x.length<=640/\Q (.int n) H):=by
 intro pins s σ H xs us Q I r h;obtain⟨x,n,rfl,e1,e2,q⟩:=h;obtain⟨u,rfl,t,rfl⟩:=aa3 r;exact PySem.W.KIN.call_text e1 e2 ⟨.int n,H,I.tok _,⟨_,rfl⟩,q⟩
noncomputable def aZ9(f:DE):DE:=λρ=>(f ρ).bind λd=>match d with
 | .str x=>if x.length<=640 then(intText? x).map dJ else none
 | _=>none
theorem bO1(hg:Gl X "int")(hm:X.mg "int" = none)(h:JE X e f)(he:di [e] X.env=[(false,eval e X.env)]:=by rfl):JE X (.Call (.Name "int" p) [e] [] pos) (aZ9 f):=λρ d q=>by
 obtain⟨x,h1,h2⟩:=xbm q;split at h2
 ·split at h2
  ·rename_i c;obtain⟨n,e1,e2⟩:=af.mp h2;subst e2
   exact A4 (Y9 aw1 hg hm bB9 (C3 (h ρ _ h1) K2 he) (he:=he)) λσ H Q ⟨H0,Hf,s,sl,k⟩ =>
    ⟨H0,Hf,s,sl,λv H1 Hf1 g1 r=>⟨_,n,by rw[show v=_ from r],e1,c,k _ H1 Hf1 g1 rfl⟩⟩
  ·cases h2
 ·cases h2
end
end G
namespace G
open PySem PySem.Spec PyProof.Rows L2
theorem cb5:typeLookup (.type "list_reverseiterator") "__len__" = pure none:=by rw[typeLookup_type,builtinLookup_eq_fast];kernel_rfl
theorem bI1:typeLookup (.type "list_reverseiterator") "__length_hint__" = pure (some (.builtin "list_reverseiterator.__length_hint__")):=by rw[typeLookup_type,builtinLookup_eq_fast];kernel_rfl
section
variable {P:Program}{w:World}{A:Around}{E:Value->Shared->Prop}{s:Shared}
theorem aM9{Q:List dU->dW->Prop}{it l:dX}{items:Array dU}(hh:A.handled=none)(hne:l≠it)(h0:s.heap.IsRevIter it l ((items.size:Int) - 1))(hl:s.heap.IsList l items)(hz:items.size<=dj)
  (h:∀s' acc,(∀b o,b≠it->s.heap.get? b=some o->s'.heap.get? b=some o)->s'={ s with heap:=s'.heap,toks:=s'.toks }->s.toks<=s'.toks->ItemsOf (λi v=>items[items.size - 1 - i]? = some v) acc items.size->Q acc.toList s'):dD (dE P w) A (collect (.ref it)) Q E s:=by
 have W:=(Walks.listRev (prog:=P) (w:=w) (A:=A.in1) hh it l hne items).toS;have li:it < s.heap.objs.size:=let⟨o,ho,_⟩:=h0;dG ho
 have ll:l < s.heap.objs.size:=let⟨o,ho,_⟩:=hl;dG ho
 obtain⟨S,eS⟩:∃S,S=s.heap.objs.size:=⟨_,rfl⟩
 have hSf:S∉[it,l]:=by
  intro z;simp only[ax,aP,or_false]at z;rcases z with z|z
  ·exact bS li (eS.symm.trans z)
  ·exact bS ll (eS.symm.trans z)
 have n1:S≠it:=by rw[eS];exact bS li
 unfold collect;refine cX (wpAny_runValue (codeAny_builtin entry_proto_collect' ?_));rw[Around.under_plainId PySem.F.plain_proto_collect _];show dD _ A.in1 (newList [] >>= λl=>again (.builtin "list.__iadd__" ⟨[l,.ref it],[]⟩)) _ _ s;refine cX (de (cY ⟨plainId_quiet PySem.F.plain_list_iadd _,codeAny_builtin entry_list_iadd' ?_⟩));rw[Around.under_plainId PySem.F.plain_list_iadd _,← eS];show dD _ A.in1 (Builtin.List.listExtendWith (.ref S) (.ref it) (.ref S)) _ _ { s with heap:=s.heap.push { cls:=.type "list", data:=.seq #[] } };have hS:(s.heap.push { cls:=.type "list", data:=.seq #[] }).get? S=some { cls:=.type "list", data:=.seq #[] }:=by rw[eS];exact dH _ rfl
 have k1:∀b o,s.heap.get? b=some o->(s.heap.push { cls:=.type "list", data:=.seq #[] }).get? b=some o:=λb o q=>dF _ q
 generalize s.heap.push { cls:=.type "list", data:=.seq #[] }=h1 at hS k1;have r1:h1.IsRevIter it l ((items.size:Int) - 1):=h0.at λo e=>k1 _ _ e
 have hT1:Shared.TypeIs { s with heap:=h1 } (.ref it) "list_reverseiterator" := Heap.IsRevIter.typeIs (s:={ s with heap:=h1 }) r1;unfold Builtin.List.listExtendWith;refine cX (wpAny_typeOf (T := "list_reverseiterator") hT1 ?_);have q1:Builtin.List.listSameRef (.ref S) (.ref it)=false:=by simp[Builtin.List.listSameRef,n1]
 have q2:(Value.type "list_reverseiterator" == Value.type "list")=false:=by decide
 have q3:(Value.type "list_reverseiterator" == Value.type "tuple")=false:=by decide
 simp only[q1,q2,q3,cW,bf,if_false];refine cX (wpAny_pyIter_revIter (s:={ s with heap:=h1 }) r1 ?_);refine cX (wpAny_holding ?_);unfold Builtin.List.listLengthHint;refine cX (wpAny_specialOf hT1 cb5 ?_);refine cX (wpAny_specialOf hT1 bI1 ?_);generalize hid:("list_reverseiterator.__length_hint__" : String)=id1
 wp_delta
 rw[show splitId id1=some ("list_reverseiterator", "__length_hint__") from by subst hid;decide +kernel];subst hid;refine cX (wpAny_isInstance (T := "list_reverseiterator") (b:=true) hT1 (by rw[isSubtype_type];kernel_rfl) ?_);refine cY ?_;rw[if_neg (by decide)];refine cY ⟨plainId_quiet PySem.F.plain_extend_loop _,codeAny_extend_loopS W hz S hSf _ items.size 0 { s with heap:=h1 } #[] 0 rfl (aW _) ⟨aW _,by simpa using r1,hl.at λo e=>k1 _ _ e⟩ hS (ItemsOf.nil _) λs' acc c m e1 e2=>?_⟩;show dD _ A (load S >>= _) _ _ s';refine cX (wpAny_load e1 (cY (h s' acc (λb o hb e=>m.heap b o ?_ (k1 b o e)) ?_ m.toks e2)))
 ·intro z;simp only[ax,aP,or_false]at z;rcases z with z|z
  ·exact aD (dG e) (z.trans eS)
  ·exact hb z
 ·obtain⟨_,g,d,o,_⟩:=m;obtain⟨a1,a2,a3,a4,a5⟩:=s';simp at g d o ⊢;exact⟨g,d,o⟩
end
section
variable {X:Cx}
noncomputable def aF7(f:DE)(g:Rho->Option (Bool×List D)):DE:=λρ=>(f ρ).bind λs=>(g ρ).bind λq=>match s,q with
 | .str sep,(false,ds)=>(w9 ds).bind λys=>if P7 sep ys.reverse<=16777216/\(Builtin.Str.glued sep ys.reverse).length<=16777216/\ys.length<=16777216 then some (.str (Builtin.Str.glued sep ys.reverse)) else none
 | _,_=>none
theorem bv7{Q:dU->dW->Prop}{A:dr}{E:dU->dW->Prop}{P:dq}{w:World}{s:dW}{it l:dX}{sep:Str}{t:Tok}{ys:List (Str×Tok)}(hh:A.handled=none)(hne:l≠it)(h0:s.heap.IsRevIter it l ((((strValues ys).toArray.size:Nat):Int) - 1))(hl:s.heap.IsList l (strValues ys).toArray)(hz:ys.length<=dj)
  (h2:P7 sep (ys.map (·.1)).reverse<=dj) (h3:(Builtin.Str.glued sep (ys.map (·.1)).reverse).length<=dj)
  (h:∀h' k u,(∀b o,b≠it->s.heap.get? b=some o->h'.get? b=some o)->Q (.str (Builtin.Str.glued sep (ys.map (·.1)).reverse) u) { s with heap:=h',toks:=k }):dD (dE P w) A (call (.builtin "str.join") [.str sep t,.ref it]) Q E s:=by
 have hT:s.TypeIs (.ref it) "list_reverseiterator" := h0.typeIs;refine wpAny_call (codeAny_call_builtin F.slot_str_join.plain F.entry_str_join (F.slot_str_join.check _ _ _ _ _ _ _ _ (typeIs_str _ _ _) (F.args_str_join_2 _ _) ?_));show dD _ A.in1 (typeOf (.ref it) >>= λty=>if(ty == .type "list" || ty == .type "tuple")=true then _ else((pyIter (.ref it)).tryCatch _ >>= λi=>collect i >>= λitems=>joinTail sep items)) _ _ s;refine cX (wpAny_typeOf hT ?_);rw[if_neg (by decide)];refine cX (wpAny_tryCatch (wpAny_pyIter_revIter h0 ?_));refine cX (aM9 (A:=A.in1) (items:=(strValues ys).toArray) hh hne h0 hl (by simpa [strValues] using hz) λs' acc k1 k2 k3 k4=>?_)
 have e:acc.toList=strValues ys.reverse:=by
  obtain⟨z1,z2⟩:=k4;have e1:strValues ys.reverse=(strValues ys).reverse:=by unfold strValues;rw[cN]
  rw[e1];apply List.ext_getElem?;intro j;rw[bA];by_cases hj:j < acc.size
  ·have:=z2 j _ (ca hj);rw[ca hj,← this,List.getElem?_reverse (by rw[z1]at hj;simpa using hj)];simp
  ·rw[cT (by omega),List.getElem?_eq_none (by rw[z1]at hj;simpa using hj)]
 rw[e]
 have g:∀l:List (Str×Tok),Builtin.Str.tooLong ((l.map (·.1)).toArray.foldl (·+·.length+sep.length) 0)=false->Gives (joinTail sep (strValues l)) (joinMade sep l):=λl hl=>by
  have g0:=gives_joinTail sep l hl;cases l with
  | nil=>exact g0
  | cons p r=>cases r with
   | nil=>exact g0
   | cons q r'=>exact g0
 have hj:Builtin.Str.tooLong ((ys.reverse.map (·.1)).toArray.foldl (·+·.length+sep.length) 0)=false:=by show decide (P7 sep (ys.reverse.map (·.1)) > dj)=false;rw[cN];exact decide_eq_false (by omega)
 have k0:∀u k,Q (.str (Builtin.Str.glued sep (ys.map (·.1)).reverse) u) { s' with toks:=k }:=λu k=>by rw[k2];exact h _ _ _ k1
 rw[← cN]at h3 k0;refine g _ hj P w A (wants Q E) s' (post_join ys.reverse ⟨h3,λt' k=>?_⟩);exact k0 t' k
theorem bx0(hc:X.calm=true)(gr:Gl X "reversed")(mr:X.mg "reversed" = none)(ho:JE X o f)(h:JQ X e g)
  (hbase:dB o "join" X.env (eval o X.env)=eval o X.env) (hline:(apos.endLine==cpos.line)=true) (hs:di [e] X.env=[(false,eval e X.env)]) :
  JE X (.Call (.Attribute o "join" apos) [.Call (.Name "reversed" p1) [e] [] p2] [] cpos) (aF7 f g):=λρ d q=>by
 obtain⟨x,e1,q⟩:=xbm q;obtain⟨y,e2,q⟩:=xbm q;split at q
 ·rename_i sep ds _;obtain⟨ys,e3,q⟩:=xbm q;split at q
  ·rename_i hz;cases q;rw[← dk]at hz;intro pins s σ H Q I ⟨H0,Hf,ss,sl,k⟩;refine wpAny_Call_method_late hbase rfl hline rfl (thn (ho ρ _ e1 pins s σ H (λv H'=>v=.str sep/\∃Hf',Grow H Hf H' Hf') I ⟨H0,Hf,ss,sl,λv H1 Hf1 g1 r1=>⟨by cases r1;rfl,Hf1,g1⟩⟩) λv s1 ⟨x,H1,I1,r1,ex,Hf1,g1⟩=>?_);subst ex;obtain⟨h1,h2⟩:=aO7 (T := "str") I1 r1 rfl;refine⟨"str", "str.join", F.plainAttrs_str,F.slot_str_join,F.type_str_join,h1,h2,Calls.callWith_builtin rfl (Calls.evalArgs_plain ?_)⟩;obtain⟨t,rfl⟩:=r1;refine Calls.spliced_cons (ty1 I1 gr mr rfl (by decide) (by decide) hs ?_);refine thn (h ρ _ _ e2 pins s1 σ H1 (λv H'=>∃Hf',Grow H1 Hf1 H' Hf'/\RQ X.K false ds v H' Hf') I1 ⟨H0,Hf1,g1.sub,sl.grow g1,λv H2 Hf2 g2 r2=>⟨Hf2,g2,r2⟩⟩) λu s2 ⟨x,H2,I2,r2,Hf2,g2,l,vs,e4,e5,e6⟩=>?_
   subst e4;cases r2;rw[ac1 e3 e6]at e5;obtain⟨its,b1,b2,_⟩:=I2.list e5;obtain⟨us,rfl,rfl⟩:=aB5 b1;refine call_reversed_list b2.isList ?_;have kp:∀b o,s2.heap.get? b=some o->(s2.heap.push (revObj l ((((strValues us).toArray.size:Nat):Int) - 1))).get? b=some o:=λb o q=>dF _ q
   have ll:l < s2.heap.objs.size:=let⟨o,ho,_⟩:=b2.isList;dG ho
   refine Calls.spliced_nil (bv7 (l:=l) (ys:=us) (I1.ok.hd hc) (aD ll) ⟨_,dH _ rfl,rfl,rfl⟩ (b2.isList.at λo e=>kp _ _ e) (by simpa using hz.2.2) hz.1 hz.2.1 λh' tk u kk=>?_);exact⟨.str _,H2,I2.kept λb o e=>kk b o (aD (dG e)) (kp b o e),⟨_,rfl⟩,k _ H2 Hf2 (g1.trans g2) rfl⟩
  ·cases q
 ·cases q
noncomputable def rZf:V->List V->Hp->VK->Prop:=λx vs H Q=>∃a i,x=.str a/\vs=[.int i]/\PadOk i=true/\Q (.str (Txt.zfill a i)) H
theorem cx4:MtR X "str.zfill" rZf:=by
 intro pins s σ H x vs v us Q I rx rv h;obtain⟨a,i,rfl,rfl,hp,q⟩:=h;obtain⟨t,rfl⟩:=rx;obtain⟨u,rfl,w,rfl⟩:=rv.one;exact SC.zfill hp λt' k=>⟨.str _,H,I.tok _,⟨_,rfl⟩,q⟩
noncomputable def dZf(f g:DE):DE:=λρ=>(f ρ).bind λd=>(g ρ).bind λe=>match d,e with
 | .str a,.int i=>if PadOk i=true then some (.str (Txt.zfill a i)) else none
 | _,_=>none
theorem cz1(ho:JE X o f)(h:JE X e g)
  (hbase:dB o "zfill" X.env (eval o X.env)=eval o X.env:=by rfl)
  (hfew:((backTo cpos (di [e] X.env)).all (λx=>!x.1)&&(backToKw cpos (keywordEach [] X.env)).all (λx=>x.1.isSome)
   && decide (([e]:List Expr).length+([]:List dw).length+(if([]:List dw).isEmpty then 0 else 1) < 30))=true:=by rfl)
  (hline:(apos.endLine==cpos.line)=true:=by rfl) (hs:di [e] X.env=[(false,eval e X.env)]:=by rfl) :
  JE X (.Call (.Attribute o "zfill" apos) [e] [] cpos) (dZf f g):=λρ d q=>by
 obtain⟨x,e1,q⟩:=xbm q;obtain⟨y,e2,q⟩:=xbm q;split at q
 ·split at q
  ·rename_i hp;cases q;refine A4 (ax6 F.plainAttrs_str F.slot_str_zfill F.type_str_zfill cx4 (ho ρ _ e1) (C3 (h ρ _ e2) K2 hs) hbase hfew hline hs) λσ H Q ⟨H0,Hf,s,sl,k⟩=>?_
   refine⟨H0,Hf,s,sl,λv H1 Hf1 g1 r1=>?_⟩;cases r1;refine⟨rfl,H0,Hf1,g1.sub,sl.grow g1,λw H2 Hf2 g2 r2=>?_⟩;cases r2;exact⟨_,_,rfl,rfl,hp,k _ H2 Hf2 (g1.trans g2) rfl⟩
  ·cases q
 ·cases q
end
end G
namespace G
open PySem PySem.Spec PySem.W PyProof.Rows L2 PySem.SeqAt
end G
namespace G
open PySem PySem.Spec PySem.W PyProof.Rows L2 PySem.SeqAt
end G
namespace G
open PySem PySem.Spec PySem.W PyProof.Rows L2 PySem.SeqAt
end G
namespace G
open PySem PySem.Spec PyProof.Rows L2 PySem.SeqAt PySem.MeetsSeq PySem.MeetsSeq2 PySem.MeetsSeq3 PySem.SeqRoads2
open PySem.AutoSeq1 (wpAny_loadPart')
end G
namespace G
open PySem PySem.Spec PyProof.Rows L2
theorem bz0{K:ag}{h:Heap}{C:dX}{bb:List dU}{nid:String}(kin:K.In h)(q:cn K C bb nid=true):
  ∃nm qn N bs bm hd sn sub ab col dd k0 k1 k2 k3 k5 mN,h.get? C=some (excClassObj nm qn C N bs bm hd sn sub ab col dd k0 k1 k2 k3 k5 nid)/\h.Ns N mN/\mN "__init__" = none/\OwnTail h bb bm:=by
 unfold cn at q;split at q
 case h_2=>cases q
 rename_i d0 c0 sl0 lk;split at q
 case h_2=>cases q
 rename_i C1 tl p0 p1 p2 p3 n1 p5 e1 e2;simp only[ah,beq_iff_eq,bp]at q;obtain⟨⟨⟨⟨⟨q1,q2⟩,q3⟩,q4⟩,q5⟩,q6⟩:=q;subst q1 q2;obtain⟨f1,f2,f3,f4,f5,f6,f7,f8,f9,f10,f11⟩:=c0;dsimp only at e1 q3 q5 q6;subst e1 q3;obtain⟨sll⟩:=sl0;dsimp only at e2;subst e2;exact⟨f1,f5,f4,f2,tl,f6,f7,f8,f9,f10,d0,p0,p1,p2,p3,p5,_,kin _ _ lk,.of_isNs (PySem.W.isNs_of_in kin q5),PySem.W.nsMap_none_of_in kin q5 q6,PySem.W.tail_of_in kin q4⟩
structure Fly (R:dX->Prop) (l:List Env) (g B:Heap) (C a:dX) (h:Heap):Prop where
 keep:∀b o,R b->g.get? b=some o->b∉frs l->B.get? b=some o
 fly:∃t,Heap.FlyingW B l a (.ref C) (.ref t) h
 sl:∀b o,g.get? b=some o->b∈frs l->∃z,h.get? b=some { o with slots:=z }
noncomputable def Rl(s:dW)(H':Hp)(b:dX):Prop:=s.heap.get? b≠none\/H' b≠none
noncomputable def CX1(P:dq)(w:World):CXT:=λouter H s E e s'=>∃a C g B H',e=.ref a/\s'.os=s.os/\AllBare s'.gens/\Un (frs outer) [] H H' s.heap g/\HOk P w H' g/\Fly (Rl s H') outer g B C a s'.heap/\E (.ref C) none H'
section
variable {X:Cx}{pins:List (Addr×Obj)}{σ:L2.St}{H H':Hp}{s s':Shared}{g B:Heap}
theorem bP2(I:Inv X pins σ H s)(os:s'.os=s.os)(bare:AllBare s'.gens)(un:Un (frs X.stack) [] H H' s.heap g)(hok:HOk X.prog X.w H' g)(keep:∀b o,Rl s H' b->g.get? b=some o->b∉frs X.stack->B.get? b=some o)
  (hB:B.StaysIn s'.heap) (sl:∀b o,g.get? b=some o->b∈frs X.stack->∃z,s'.heap.get? b=some { o with slots:=z }):Inv X pins σ H' s':=by
 have nx:∀b:dX,b∉([]:List dX):=λb z=>absurd z (by simp)
 refine I.call' (ch:=[]) os ⟨λb o e n m z=>hB b o (keep b o (.inl (by rw[e];simp)) (un.keep b o e n m z) m),λb o e n m z=>?_,un.free,λb o e z=>?_,un.tups,un.frzs,un.tbls⟩ ?_ bare (λb z=>absurd z (nx b))
 ·obtain⟨z1,q⟩:=un.slot b o e n m z;obtain⟨z2,q2⟩:=sl b _ q m;exact⟨z2,q2⟩
 ·obtain⟨o',q⟩:=un.there b o e z;by_cases m:b∈frs X.stack
  ·obtain⟨z2,q2⟩:=sl b _ q m;exact⟨_,q2⟩
  ·exact⟨o',hB b o' (keep b o' (.inl (by rw[e];simp)) q m)⟩
 ·intro a o e
  have fr0:∀b,b∈frs X.stack->H' b=none:=λb m=>by
   obtain⟨_,o1,h1,_⟩:=I.stack.mem m;exact un.free b o1 h1 (I.stkFree b m) (nx b)
  refine(hok a o e).stay (λb u hb q=>?_) (λ_ q=>q) λ_ _ q=>q
  have hn:H' b≠none:=by
   rcases hb with rfl|hb
   ·rw[e];simp
   ·rw[hb];simp
  exact hB b u (keep b u (.inr hn) q λm=>hn (fr0 b m))
end
section
variable {P:Program}{w:World}{K:PySem.W.Frag}{mg:Str->Option Value}{base:Heap}{N:List Str}{qual:Str}{scope:Scope}{f:Addr}{cd:Value}{A:Around}{outer:List Env}{s:Shared}{H H1:Hp}{E:XK}
 {pins:List (dX×Obj)}{σ:L2.St}{s1 s':dW}{h2:Heap}{a C:dX}{vs:List dU}
noncomputable abbrev cx1(P:dq)(w:World)(K:ag)(mg:Str->Option dU)(base:Heap)(N:List Str)(qual:Str)(scope:Scope)(f:dX)(cd:dU)(A:dr)(outer:List Env)(s:dW)(H:Hp)(E:XK):Cx:=ah2 (CX1 P w) P w K mg base N qual scope f cd A outer s H E
theorem cu4(I:Inv (cx1 P w K mg base N qual scope f cd A outer s H E) pins σ H1 s1)(r:Rl s H1 b):b≠s.heap.objs.size:=by
 rintro rfl
 rcases r with r|r
 ·exact r (Heap.get?_none_of_le (ai _))
 ·exact r I.free
theorem be3(h1:b∉frs outer)(h2:b≠s.heap.objs.size):b∉frs (cx1 P w K mg base N qual scope f cd A outer s H E).stack:=λm=>by
 have m:b∈s.heap.objs.size::frs outer:=m;rcases ax.mp m with z|z
 ·exact h2 z
 ·exact h1 z
theorem bt2(I:Inv (cx1 P w K mg base N qual scope f cd A outer s H E) pins σ H1 s1)(hm:Heap.MadeExcOf s1.heap h2 a (.ref C) vs)(hE:E (.ref C) none H1):(cx1 P w K mg base N qual scope f cd A outer s H E).xe (.ref a) { s1 with heap:=h2 }:=by
 have hin:∀env∈(cx1 P w K mg base N qual scope f cd A outer s H E).stack,∀b,env.frame=some b->b∈frs (cx1 P w K mg base N qual scope f cd A outer s H E).stack:=λenv he b hb=>cD.mpr ⟨env,he,hb⟩
 refine wpAny_leaves_madeW (base:=PySem.W.hideAll s1.heap (frs (cx1 P w K mg base N qual scope f cd A outer s H E).stack)) (h:=s1.heap) (outer:=outer) I.ok.frames rfl (λb o q=>PySem.W.of_hideAll _ q) (PySem.W.funFrames_hide I.stack hin) hm λh' t x1 _ _ x4=>?_
 refine⟨a,C,s1.heap,_,H1,rfl,I.os,I.bare,I.base,I.hok,⟨λb o r e m=>PySem.W.hideAll_get _ e (be3 m (cu4 I r)),⟨t,x1⟩,λb o e m=>?_⟩,hE⟩;obtain⟨_,o',e',hd⟩:=I.stack.mem (aj _ m);rw[e]at e';cases e';exact x4 b o (hm.keeps b o e) hd
end
end G
namespace G
theorem xg0{α:Type}{a:α}{l:List α}:(a::l)[0]? = some a:=rfl
theorem xg1{α:Type}{a:α}{i:Nat}{l:List α}:(a::l)[i+1]? = l[i]?:=rfl
theorem xw0{α:Type}{a b:α}{l:List α}:(a::l).set 0 b=b::l:=rfl
theorem xw1{α:Type}{a b:α}{i:Nat}{l:List α}:(a::l).set (i+1) b=a::l.set i b:=rfl
theorem xbs{α β:Type}{a:α}{f:α->Option β}:(some a).bind f=f a:=rfl
theorem xms{α β:Type}{a:α}{f:α->β}:(some a).map f=some (f a):=rfl
theorem xca{α:Type}{a:α}{l m:List α}:(a::l)++m=a::(l++m):=rfl
theorem xna{α:Type}{l:List α}:[]++l=l:=rfl
theorem xmc{α β:Type}{f:α->β}{a:α}{l:List α}:(a::l).map f=f a::l.map f:=rfl
theorem xmn{α β:Type}{f:α->β}:[].map f=[]:=rfl
theorem xnf:(!false)=true:=rfl
theorem xnt:(!true)=false:=rfl
theorem xft:(false=true)=False:=by simp
end G
local macro_rules
  | `(‹$x›) => `(some (G.B.val $x))
local macro_rules
  | `(⇑$x) => `(G.dC (PySem.PyData.int $x))
noncomputable section
namespace Sh
open PySem PySem.Spec PyProof.Rows L2 G
def ak3:DS:=(F7 (Z3 (tB2 neD (A1 1) ⇑0) (F7 (P1 2 (A5 U9 (A1 0) (A1 1))) (F7 (P1 0 (A1 1)) (P1 1 (A1 2))))) (C5 (A1 0)))
def O4:List D->Option D:=M5 ak3 3
def Y5:DS:=(F7 (P1 2 (A3 O4 (A0 (A1 0) (A0 (A1 1) A2)))) (C5 (p8 (A0 (A5 aa2 (A1 0) (A1 2)) (A0 (A5 aa2 (A1 1) (A1 2)) A2)))))
def U3:List D->Option D:=M5 Y5 3
def Y6:DS:=(C5 (A5 leI (A5 X1 (dIx (B1 0) ⇑0) (dIx (B1 1) ⇑1)) (A5 X1 (dIx (B1 1) ⇑0) (dIx (B1 0) ⇑1))))
def Y8:List D->Option D:=M5 Y6 2
def ap2:DS:=(C5 (A3 U3 (A0 (A5 t8 (A5 X1 (dIx (B1 0) ⇑0) (dIx (B1 1) ⇑1)) (A5 X1 (dIx (B1 1) ⇑0) (dIx (B1 0) ⇑1))) (A0 (A5 X1 (dIx (B1 0) ⇑1) (dIx (B1 1) ⇑1)) A2))))
def W0:List D->Option D:=M5 ap2 2
def v7:DS:=(C5 (A3 U3 (A0 (A5 bl7 (A5 X1 (dIx (B1 0) ⇑0) (dIx (B1 1) ⇑1)) (A5 X1 (dIx (B1 1) ⇑0) (dIx (B1 0) ⇑1))) (A0 (A5 X1 (dIx (B1 0) ⇑1) (dIx (B1 1) ⇑1)) A2))))
def a8:List D->Option D:=M5 v7 2
def ap1:DS:=(C5 (A3 U3 (A0 (A5 X1 (dIx (B1 0) ⇑0) (dIx (B1 1) ⇑0)) (A0 (A5 X1 (dIx (B1 0) ⇑1) (dIx (B1 1) ⇑1)) A2))))
def Y7:List D->Option D:=M5 ap1 2
def ac4:DS:=(C5 (A3 a8 (A0 (dC (.tuple [(.int 1),(.int 1)])) (A0 (A1 0) A2))))
def k7:List D->Option D:=M5 ac4 1
def V8:DS:=(C5 (ad1 (W8 (A3 Y8 (A0 (A1 0) (A0 (dC (.tuple [(.int 1),(.int 1)])) A2)))) (A1 0) (dC (.tuple [(.int 1),(.int 1)]))))
def V9:List D->Option D:=M5 V8 1
def L8:DS:=(F7 (sIf (tB2 eqD (A1 0) (dC (.str "plus"))) (C5 (A3 V9 (A0 (A3 W0 (A0 (A1 1) (A0 (A1 2) A2))) A2))) W9) (F7 (sIf (tB2 eqD (A1 0) (dC (.str "atop"))) (C5 (A1 2)) W9) (F7 (sIf (tB2 eqD (A1 0) (dC (.str "cut"))) (C5 (A3 Y7 (A0 (A1 2) (A0 (A3 k7 (A0 (A1 1) A2)) A2)))) W9) (C5 (A3 a8 (A0 (A3 W0 (A0 (A1 1) (A0 (A1 2) A2))) (A0 (A3 Y7 (A0 (A1 1) (A0 (A1 2) A2))) A2)))))))
def X5:List D->Option D:=M5 L8 3
def K3:DS:=(F7 (sIf (tB2 eqD (A1 0) (dC (.str "plus"))) (C5 (A3 V9 (A0 (A3 W0 (A0 (A1 3) (A0 (A1 4) A2))) A2))) W9) (F7 (sIf (tB2 eqD (A1 0) (dC (.str "screen"))) (C5 (A3 a8 (A0 (A3 W0 (A0 (A1 3) (A0 (A1 4) A2))) (A0 (A3 Y7 (A0 (A1 3) (A0 (A1 4) A2))) A2)))) W9) (F7 (P1 5 (A3 Y7 (A0 (A1 4) (A0 (A3 k7 (A0 (A1 1) A2)) A2)))) (F7 (sIf (tB2 eqD (A1 0) (dC (.str "over"))) (C5 (A3 W0 (A0 (A1 3) (A0 (A1 5) A2)))) W9) (F7 (sIf (tB2 eqD (A1 0) (dC (.str "multiply"))) (C5 (A3 W0 (A0 (A3 W0 (A0 (A3 Y7 (A0 (A1 3) (A0 (A1 4) A2))) (A0 (A3 Y7 (A0 (A1 3) (A0 (A3 k7 (A0 (A1 2) A2)) A2))) A2))) (A0 (A1 5) A2)))) W9) (F7 (sIf (tB2 eqD (A1 0) (dC (.str "atop"))) (C5 (A3 W0 (A0 (A3 Y7 (A0 (A1 3) (A0 (A1 2) A2))) (A0 (A1 5) A2)))) W9) (C5 (A1 5))))))))
def V4:List D->Option D:=M5 K3 6
def aA7:DS:=(F7 (P1 3 (dIx (B1 1) ⇑0)) (F7 (P1 4 (dIx (B1 2) ⇑0)) (F7 (af9 5 (G4 2 [0,3,4] (au9 (qE (av7 (A1 1) (T6 ⇑1) T7)) (qE (av7 (A1 2) (T6 ⇑1) T7))) (d6 2 (O7 (K5 0) (O7 (K5 1) y8))) K9 (A3 V4 (A0 (A1 2) (A0 (A1 3) (A0 (A1 4) (A0 (A1 0) (A0 (A1 1) A2)))))))) (C5 (p8 (A0 (A3 X5 (A0 (A1 0) (A0 (A1 3) (A0 (A1 4) A2)))) (A0 (dIx (B1 5) ⇑0) (A0 (dIx (B1 5) ⇑1) (A0 (dIx (B1 5) ⇑2) A2)))))))))
def l4:List D->Option D:=M5 aA7 6
def at9:DS:=(F7 (sIf (tB2 eqD (A1 0) (r6 A2)) (C5 (A5 X1 ⇑7 (A1 1))) W9) (C5 (A5 t8 (dIx (B1 0) (A5 U9 (A1 1) (ad0 (B1 0)))) (A5 X1 ⇑6553 (A5 aa2 (A1 1) (ad0 (B1 0)))))))
def au3:List D->Option D:=M5 at9 2
def aA3:DS:=(F7 (P1 3 (A5 U9 (A5 t8 (A5 X1 (A5 U9 (A3 au3 (A0 (A1 0) (A0 (A1 1) A2))) ⇑2147483563) ⇑69069) (A5 X1 ⇑104723 (A5 t8 (A1 1) ⇑1))) ⇑2147483563)) (F7 (P1 3 (A5 U9 (A5 t8 (A5 X1 (A1 3) (A1 3)) (A5 aa2 (A1 3) ⇑3)) ⇑2147483399)) (C5 (A5 U9 (A5 aa2 (A5 U9 (A5 t8 (A5 X1 (A1 3) (A1 3)) (A5 aa2 (A1 3) ⇑7)) ⇑2147483647) ⇑11) (A1 2)))))
def B2:List D->Option D:=M5 aA3 4
def ah9:DS:=(F7 (P1 2 (A1 0)) (F7 (P1 3 (A1 1)) (F7 (Z3 (tB2 gtI (A1 2) ⇑0) (bn1 2 3 (A0 (A5 U9 (A1 3) (A1 2)) (A0 (A1 2) A2)))) (C5 (p8 (A0 (A5 aa2 (A1 0) (A1 3)) (A0 (A5 aa2 (A1 1) (A1 3)) A2)))))))
def k8:List D->Option D:=M5 ah9 4
def aA1:DS:=(C5 (A3 k8 (A0 (A5 X1 (dIx (B1 0) ⇑0) (dIx (B1 1) ⇑0)) (A0 (A5 X1 (dIx (B1 0) ⇑1) (dIx (B1 1) ⇑1)) A2))))
def ak6:List D->Option D:=M5 aA1 2
def aA2:DS:=(F7 (P1 2 (A5 t8 ⇑1 (A3 B2 (A0 (A1 0) (A0 (A1 1) (A0 ⇑12 A2)))))) (F7 (P1 3 (A3 k8 (A0 (A3 B2 (A0 (A1 0) (A0 (A5 t8 (A1 1) ⇑1) (A0 (A5 t8 (A1 2) ⇑1) A2)))) (A0 (A1 2) A2)))) (C5 (dIx (qN (A0 (A1 3) (A0 (A1 3) (A0 (A1 3) (A0 (p8 (A0 ⇑0 (A0 ⇑1 A2))) (A0 (p8 (A0 ⇑1 (A0 ⇑1 A2))) A2)))))) (A3 B2 (A0 (A1 0) (A0 (A5 t8 (A1 1) ⇑2) (A0 ⇑5 A2))))))))
def ac5:List D->Option D:=M5 aA2 4
def aO0:DS:=(F7 (P1 2 (A3 ac5 (A0 (A1 0) (A0 (A1 1) A2)))) (C5 (A5 t8 (p8 (A0 (A1 2) A2)) (y9 (qN (G4 1 [2,0,1] (X8 ⇑3) (K5 0) K9 (A3 ak6 (A0 (A1 1) (A0 (A3 ac5 (A0 (A1 2) (A0 (A5 t8 (A5 t8 (A1 3) ⇑3) (A5 X1 ⇑3 (A1 0))) A2))) A2)))))))))
def U4:List D->Option D:=M5 aO0 3
def aH0:DS:=(C5 (ad2 (aj7 "int" (A1 0)) (bA4 (aj7 "bool" (A1 0)))))
def v8:List D->Option D:=M5 aH0 1
def ai0:DS:=(F7 (sIf (ai3 (Q6 (W8 (aj7 "tuple" (A1 0)))) (ai3 (tB2 neD (ad0 (B1 0)) ⇑2) (ai3 (Q6 (W8 (A3 v8 (A0 (dIx (B1 0) ⇑0) A2)))) (Q6 (W8 (A3 v8 (A0 (dIx (B1 0) ⇑1) A2))))))) (C5 (dC (.bool false))) W9) (C5 (ad2 (A5 gtI (dIx (B1 0) ⇑1) ⇑0) (ad2 (i3 leI leI ⇑0 (dIx (B1 0) ⇑0) (dIx (B1 0) ⇑1)) (A5 eqD (A3 k8 (A0 (dIx (B1 0) ⇑0) (A0 (dIx (B1 0) ⇑1) A2))) (A1 0))))))
def aH3:List D->Option D:=M5 ai0 1
def aU3:DS:=(C5 (ad2 (aj7 "int" (A1 0)) (bA4 (aj7 "bool" (A1 0)))))
def V3:List D->Option D:=M5 aU3 1
def au2:DS:=(F7 (sIf (ai3 (Q6 (W8 (aj7 "tuple" (A1 0)))) (tB2 neD (ad0 (B1 0)) ⇑2)) (C5 (dC (.bool false))) W9) (F7 (P1 1 (dIx (B1 0) ⇑0)) (F7 (P1 2 (dIx (B1 0) ⇑1)) (F7 (sIf (ai3 (Q6 (W8 (A3 V3 (A0 (A1 1) A2)))) (Q6 (W8 (A3 V3 (A0 (A1 2) A2))))) (C5 (dC (.bool false))) W9) (C5 (ad2 (A5 gtI (A1 2) ⇑0) (ad2 (i3 leI leI ⇑0 (A1 1) (A1 2)) (A5 eqD (A3 O4 (A0 (A1 1) (A0 (A1 2) A2))) ⇑1))))))))
def af1:List D->Option D:=M5 au2 3
def aA4:DS:=(F7 (sIf (ai3 (Q6 (W8 (aj7 "tuple" (A1 0)))) (tB2 neD (ad0 (B1 0)) ⇑4)) (C5 (dC (.bool false))) W9) (F7 (sIf (Q6 (W8 (aM6 (qN (G4 1 [] (h9 (A1 0)) (K5 0) K9 (A3 af1 (A0 (A1 0) A2))))))) (C5 (dC (.bool false))) W9) (C5 (aM6 (qN (G4 1 [0] (h9 (av7 (A1 0) (T6 ⇑1) T7)) (K5 0) K9 (A3 Y8 (A0 (A1 0) (A0 (dIx (B1 1) ⇑0) A2)))))))))
def ac6:List D->Option D:=M5 aA4 1
end Sh
namespace Sh
open PySem PySem.Spec PyProof.Rows L2 G
end Sh
namespace Sh
open PySem PySem.Spec PyProof.Rows L2 G
def aA5:DS:=(C5 (ad2 (A3 V3 (A0 (A1 0) A2)) (i3 leI leI ⇑1 (A1 0) ⇑8)))
def ac7:List D->Option D:=M5 aA5 1
def au0:DS:=(F7 (sIf (ai3 (Q6 (W8 (aj7 "tuple" (A1 0)))) (tB2 neD (ad0 (B1 0)) ⇑3)) (C5 (dC (.bool false))) W9) (C5 (ad2 (A3 ac7 (A0 (dIx (B1 0) ⇑0) A2)) (ad2 (A3 ac7 (A0 (dIx (B1 0) ⇑1) A2)) (aj7 "tuple" (dIx (B1 0) ⇑2))))))
def af0:List D->Option D:=M5 au0 1
def au1:DS:=(F7 (sIf (Q6 (W8 (A3 af0 (A0 (A1 0) A2)))) (C5 (dC (.bool false))) W9) (F7 (P1 1 (dIx (B1 0) ⇑2)) (C5 (ad2 (A5 eqD (ad0 (B1 1)) (A5 R6 (dIx (B1 0) ⇑0) (dIx (B1 0) ⇑1))) (aM6 (qN (G4 1 [] (h9 (A1 1)) (K5 0) K9 (A3 ac6 (A0 (A1 0) A2)))))))))
def a9:List D->Option D:=M5 au1 2
def k6:DS:=(F7 (af9 3 (G4 2 [0] (au9 (qE (dIx (B1 1) ⇑2)) (qE (dIx (B1 2) ⇑2))) (d6 2 (O7 (K5 0) (O7 (K5 1) y8))) K9 (A3 l4 (A0 (A1 2) (A0 (A1 0) (A0 (A1 1) A2)))))) (C5 (p8 (A0 (dIx (B1 1) ⇑0) (A0 (dIx (B1 1) ⇑1) (A0 (y9 (B1 3)) A2))))))
def M2:List D->Option D:=M5 k6 4
def ak2:DS:=(F7 (af9 4 (G4 1 [0,1] (X8 (A5 R6 (A1 2) (A1 3))) (K5 0) K9 (A3 U4 (A0 (A1 1) (A0 (A5 L7 (A1 2) (A5 R6 ⇑12 (A1 0))) A2))))) (F7 (sIf (tB2 eqD (A3 B2 (A0 (A1 0) (A0 (A5 L7 (A1 1) ⇑7) (A0 ⇑3 A2)))) ⇑0) (P1 4 (A5 R6 (av8 (A1 4) T7 (T6 ⇑1)) (A5 R6 (A1 2) (A1 3)))) W9) (C5 (p8 (A0 (A1 2) (A0 (A1 3) (A0 (y9 (B1 4)) A2)))))))
def Q5:List D->Option D:=M5 ak2 5
end Sh
namespace Sh
open PySem PySem.Spec PyProof.Rows L2 G
end Sh
namespace Sh
open PySem PySem.Spec PyProof.Rows L2 G
end Sh
namespace G
open PySem PySem.Spec PyProof.Rows L2
abbrev FnD:=List D->Option D
structure Sg where
 fn:List (Str×FnD×Nat)
 cs:List (Str×D)
 bl:List Str
structure Kx where
 N:List Str
 sc:Scope
 df:Bool
 own:List Nat
 cpt:List Nat
 tx:List Nat
 dx:List Nat
 old:Bool
 fz:List (Nat×List Nat)
 hc:List ((Nat×Nat)×List Nat)
def biS(K:ag)(n:Nat)(F:List D->Option D):List V->Hp->VK->Prop:=λvs H Q=>vs.length=n/\∃Hf ds d,B0 Hf H/\Reps K Hf ds vs/\F ds=some d/\∀v H' Hf',Grow H Hf H' Hf'->Rep K Hf' d v->Q v H'
def cp6(x:Str)(F:FnD)(n:Nat):Prop:=0 < n/\x ≠ "__name__" /\ ∃nm,du x=some (.builtin nm)/\∀X:Cx,X.A.units+64 < cLine->b0 X (.builtin nm) (biS X.K n F)
theorem cz3(hb:cp6 x F n)(hu:X.A.units+64 < cLine)(hg:Gl X x)(hm:X.mg x=none)(ha:JA X (e::es) g)(hn:(e::es).length=n)(hdb:(x==("__debug__" : Str))=false)
  (he:di (e::es) X.env=(false,eval e X.env)::di es X.env) (hpl:(backTo pos (di es X.env)).any (·.1)=false):JE X (.Call (.Name x p) (e::es) [] pos) (A3 F g):=λρ d q=>by
 obtain⟨ds,h1,h2⟩:=ae.mp q;obtain⟨_,hnn,nm,hv,hc⟩:=hb;refine A4 (T4 (hc X hu) hg hm hv (ha.run ρ ds h1) hnn hdb he hpl) λσ H Q ⟨H0,Hf,s,sl,kk⟩=>?_
 exact⟨H0,Hf,s,sl,λvs H1 Hf1 g1 r1=>⟨by rw[r1.length,ha.len ρ ds h1,hn],Hf1,ds,d,g1.sub,r1,h2,λv H2 Hf2 g2 r2=>kk v H2 Hf2 (g1.trans g2) r2⟩⟩
def cC2(X:Cx)(x:Str)(F:FnD)(n:Nat):Prop:=(∃(k:Nat) (f:dX) (fd:dt) (ps:List Str),FnOk X.prog X.w X.K X.mg X.base CX0 k f fd ps (spF X.K n F)/\Room k X.A/\X.mg x=some (.ref f)/\aF X.K (.ref f)=true/\M4 X.K fd ps [])\/(X.mg x=none/\cp6 x F n)
structure Fit (S:Sg) (c:Kx) (X:Cx):Prop where
 N:X.N=c.N
 sc:X.env.scope=c.sc
 nd:c.N.Nodup
 calm:X.calm=true
 xe:X.xe=λ_ _=>False
 units:X.A.units+64 < cLine
 df:c.df=true->(∀x,X.fn x=true)/\c.sc.kind=.function
 fns:∀x F n,S.fn.lookup x=some (F,n)->cC2 X x F n
 css:∀x d,S.cs.lookup x=some d->∃u,aN7 X.K d u/\X.mg x=some u
 bls:∀x,S.bl.contains x=true->X.mg x=none
def pl:Expr->Bool
 | .Starred ..=>false
 | .Slice ..=>false
 | .Set ..=>false
 | _=>true
def aQ7:Expr->Bool
 | .Call _ [] _ _=>false
 | _=>true
def isC:Expr->Bool
 | .ListComp ..=>true
 | .SetComp ..=>true
 | .DictComp ..=>true
 | _=>false
def plT:Expr->Bool
 | .UnaryOp ..=>false
 | .BoolOp ..=>false
 | .IfExp ..=>false
 | .Compare ..=>false
 | _=>true
def Y1(x:Str):List Str->Option Nat
 | []=>none
 | y::r=>if y==x then some 0 else(Y1 x r).map (·+1)
theorem aL5:∀{l:List Str}{i:Nat},Y1 x l=some i->l[i]? = some x
 | [],i,h=>by cases h
 | y::r,i,h=>by
  unfold Y1 at h;split at h
  ·rename_i e;cases h;simp only[beq_iff_eq]at e;subst e;rfl
  ·obtain⟨j,h1,h2⟩:=af.mp h;subst h2;simpa using aL5 h1
def o5:List Str->Bool
 | []=>true
 | x::r=>!(r.contains x)&&o5 r
theorem i9:∀{l:List Str},o5 l=true->l.Nodup
 | [],_=>List.nodup_nil
 | x::r,h=>by
  unfold o5 at h;simp only[ah,bp]at h;refine br.mpr ⟨λz=>?_,i9 h.2⟩;have:=h.1;rw[List.contains_iff_mem.mpr z]at this;cases this
def af2(sc:Scope)(x:Str):Bool:=(match sc.names.lookup x with|some .local=>true|some .cell=>true|some .free=>true|_=>false) && !(x==("__debug__" : Str)) && !(x==("__classdict__" : Str))
def aK7(c:Kx)(x:Str):Bool:=(match c.sc.names.lookup x with|some .local=>true|some .cell=>c.df|_=>false)
def am6(sc:Scope)(x:Str):Bool:=(match sc.names.lookup x with|some .globalImplicit=>true|_=>false) && !(x==("__debug__" : Str))
def biB(S:Sg)(c:Kx)(w x:Str):Bool:=x==w&&S.bl.contains w&&am6 c.sc w
section
variable {X:Cx}{S:Sg}{c:Kx}
theorem S1(F:Fit S c X)(h:af2 c.sc x=true):Vis X.env.scope x/\(x==("__debug__" : Str))=false/\(x==("__classdict__" : Str))=false:=by
 unfold af2 at h;simp only[ah,bp]at h;obtain⟨⟨h1,h2⟩,h3⟩:=h;refine⟨?_,h2,h3⟩;rw[F.sc];unfold Vis;split at h1
 ·rename_i e;exact .inl e
 ·rename_i e;exact .inr (.inl e)
 ·rename_i e;exact .inr (.inr e)
 ·cases h1
theorem ag4(F:Fit S c X)(h:aK7 c x=true):L2.Loc X.env.scope x/\(X.fn x=true\/X.env.scope.names.lookup x=some .local):=by
 unfold aK7 at h;rw[F.sc];unfold L2.Loc;split at h
 ·rename_i e;exact⟨.inl e,.inr e⟩
 ·rename_i e;exact⟨.inr e,.inl ((F.df h).1 x)⟩
 ·cases h
theorem Y2(F:Fit S c X)(h:am6 c.sc x=true):Gl X x/\(x==("__debug__" : Str))=false:=by
 unfold am6 at h;simp only[ah,bp]at h;refine⟨?_,h.2⟩;unfold Gl Env.kindOf;rw[F.sc];have h1:=h.1;split at h1
 ·rename_i e;exact e
 ·cases h1
theorem Q0(F:Fit S c X)(h:biB S c w x=true):x=w/\Gl X w/\X.mg w=none:=by
 unfold biB at h;simp only[ah,beq_iff_eq]at h;exact⟨h.1.1,(Y2 F h.2).1,F.bls _ h.1.2⟩
theorem B9(h:pl e=true)(es:List Expr)(env:Env):di (e::es) env=(false,eval e env)::di es env:=by
 cases e<;>first|rfl|cases h
theorem bo4(h:pl e=true):ah5 e:=by
 intro o i;cases e<;>first|rfl|cases h
theorem an6(h:pl e=true)(op:CmpOp):behindInMarks op e=false:=by
 cases e<;>first|rfl|cases h
theorem an7(h:pl e=true)(env:Env)(x:dU):dz e env x=pure x:=by
 cases e<;>first|rfl|cases h
theorem S6(h:aQ7 o=true)(attr:Str)(env:Env)(t:Sem dU):dB o attr env t=t:=by
 cases o<;>first|rfl|(rename_i f a k p;cases a with|nil=>cases h|cons x r=>cases f<;>rfl)
theorem R5(h:isC e=false)(t:Option Expr)(l:Nat)(env:Env):swapsWith e t l env=pure false:=by
 cases e<;>first|rfl|cases h
theorem bo5(h:plT e=true)(env:Env)(whole:Sem dU):isTrue e env whole=(do let v ← whole;standAt e.pos;holding [v] (truthy v)):=by
 cases e<;>first|rfl|cases h
end
end G
namespace G
open PySem PySem.Spec PyProof.Rows L2
abbrev DA:=Rho->Option (List D)
abbrev DQ:=Rho->Option (Bool×List D)
abbrev DT:=Rho->Option Bool
abbrev DG:=D->Rho->Option Rho
def dNo:DE:=λ_=>none
def aNo:DA:=λ_=>none
def qNo:DQ:=λ_=>none
def tNo:DT:=λ_=>none
def gNo:DG:=λ_ _=>none
structure Ev where
 e:Kx->Expr->DE
 q:Kx->Expr->DQ
 n:Kx->Expr->DA
 t:Kx->Expr->DT
 g:Kx->Expr->DG
 b:Kx->List Stmt->DS
def aS9:CmpOp->D->D->Option D
 | .Lt=>ltI | .LtE=>leI | .Gt=>gtI | .GtE=>geI | .Eq=>eqD | .NotEq=>neD | .Is=>isB|_=>λ_ _=>none
def evA(f:Expr->DE):List Expr->DA
 | []=>A2
 | e::es=>if pl e then A0 (f e) (evA f es) else aNo
def bP4(f:Expr->DE)(op:BoolOp):List Expr->DE
 | []=>dNo
 | [a]=>f a
 | a::b::r=>match op with
  | .And=>ad2 (f a) (bP4 f op (b::r))
  | .Or=>dNo
def bz2(f:Expr->DT)(op:BoolOp):List Expr->DT
 | []=>tNo
 | [a]=>f a
 | a::b::r=>match op with
  | .And=>aw9 (f a) (bz2 f op (b::r))
  | .Or=>ai3 (f a) (bz2 f op (b::r))
def evO(f:Expr->DE):Option Expr->Rho->Option (Option Int)
 | none=>T7
 | some e=>T6 (f e)
def bP3(f:Expr->DG):List Expr->List D->Rho->Option Rho
 | []=>y8
 | e::es=>O7 (f e) (bP3 f es)
def aZ4(f:Expr->DT):List Expr->DT
 | []=>K9
 | [t]=>f t
 | _=>tNo
def K1:Expr->List Str
 | .Name x _=>[x]
 | .Tuple es _ _=>es.filterMap λ| .Name x _=>some x|_=>none
 | _=>[]
def rl(scope sc:Scope):Scope:={ scope with names:=scope.names.map λ(n,k)=>if(k == .free&&sc.kind == .function&&sc.names.lookup n==some .cell) then(n,.cell) else(n,k) }
def aR7(n:Nat)(caps l:List Nat):List Nat:=(aU caps.length).filterMap λi=>match caps[i]? with|some j=>if l.contains j then some (n+i) else none|none=>none
def cu0(c:Kx)(j:Nat):Str:=(c.N[j]?).getD ""
def inner(c:Kx)(tn:List Str)(caps:List Nat)(scope:Scope):Kx :=
 { N:=tn++caps.map (cu0 c),sc:=rl scope c.sc,df:=false,own:=aR7 tn.length caps c.own,cpt:=[],tx:=aR7 tn.length caps c.tx,dx:=aR7 tn.length caps c.dx,old:=c.old,fz:=[],hc:=c.hc }
def isList:Expr->Bool
 | .List ..=>true
 | .ListComp ..=>true
 | _=>false
def aE2(c:Kx)(l:List Nat):Expr->Bool
 | .Name x _=>(match Y1 x c.N with|some i=>l.contains i|none=>false)
 | _=>false
def cG1:Expr->Bool
 | .Constant (.str _) _ _=>true
 | _=>false
def cs7(S:Sg)(c:Kx):Expr->Bool
 | .Constant (.str _) _ _=>true
 | .Name x _=>(match Y1 x c.N with|some _=>false|none=>(match S.cs.lookup x with|some (.str _)=>true|_=>false))
 | _=>false
def opW(S:Sg)(c:Kx)(op:CmpOp)(b:Expr):D->D->Option D:=if cs7 S c b then(match op with
 | .In=>inS false
 | .NotIn=>inS true
 | _=>aS9 op) else aS9 op
def bx5:Expr->Bool
 | .Tuple ..=>true
 | _=>false
def bZ4(x:Str):Option String:=if x == "int" then some "int" else if x == "bool" then some "bool" else if x == "str" then some "str" else if x == "tuple" then some "tuple" else if x == "list" then some "list" else none
section
variable (S:Sg) (r:Ev)
def evI(c:Kx)(tg it:Expr):DA:=match it with
 | .Call (.Name x _) [a] [] _=>if biB S c "range" x&&pl a then X8 (r.e c a) else h9 (r.e c it)
 | .Call (.Name x _) [a,b] [] _=>if biB S c "zip" x&&bx5 tg&&pl a&&pl b then au9 (qE (r.e c a)) (qE (r.e c b)) else h9 (r.e c it)
 | _=>if aE2 c c.tx it then bf7 (r.e c it) else h9 (r.e c it)
def evC(c:Kx)(ex:Expr):DA:=match ex with
 | .ListComp elt [⟨tgt,iter,ifs,0⟩] scope pos =>
  let tn:=K1 tgt
  let caps:=(c.hc.lookup (pos.line,pos.col)).getD []
  let c':=inner c tn caps scope
  if r9 c.N c'.N tn.length caps c.sc scope&&o5 c'.N&&pl iter then G4 tn.length caps (evI S r c tgt iter) (r.g c' tgt) (aZ4 (r.t c') ifs) (r.e c' elt) else aNo
 | _=>aNo
def aO5(c:Kx)(x:Str)(a:Expr):DE :=
 if !(pl a) then dNo
 else if biB S c "len" x then(match a with
  | .Call (.Name y _) [e] [] _=>if biB S c "set" y&&pl e then dNo else ad0 (r.q c a)
  | _=>if aE2 c c.tx a then ay9 (r.e c a) else ad0 (r.q c a))
 else if biB S c "tuple" x then y9 (r.q c a)
 else if biB S c "all" x then aM6 (r.q c a)
 else if biB S c "int" x then(if aE2 c c.tx a then aZ9 (r.e c a) else dNo)
 else if biB S c "str" x then aF6 (r.e c a)
 else dNo
def aO4(c:Kx)(x:Str)(a b:Expr):DE :=
 if !(pl a) then dNo
 else if biB S c "isinstance" x then(match b with
  | .Name y _=>(match bZ4 y with
   | some T=>if biB S c y y then aj7 T (r.e c a) else dNo
   | none=>dNo)
  | _=>dNo)
 else dNo
def bi4(c:Kx)(x:Str)(args:List Expr)(ex:Expr):DE:=match S.fn.lookup x with
 | some (F,n)=>if am6 c.sc x&&args.length==n&&args.all pl then A3 F (evA (r.e c) args) else dNo
 | none=>match args with
  | [a]=>aO5 S r c x a
  | [a,b]=>aO4 S r c x a b
  | _=>dNo
def cb2:Expr->Option (Option Expr×Option Expr×Option Expr)
 | .Slice lo hi st _=>some (lo,hi,st)
 | _=>none
def nmP:Expr->Option (Str×Pos)
 | .Name x p=>some (x,p)
 | _=>none
def cs0:List Expr->Option ((Str×Pos)×Str×Pos)
 | [a,b]=>(nmP a).bind λx=>(nmP b).map λy=>(x,y)
 | _=>none
def cr9:Expr->Option (Expr×Expr)
 | .Tuple es _ _=>(match es with
  | [a,b]=>some (a,b)
  | _=>none)
 | _=>none
def bV7(c:Kx)(a i:Expr):DE:=match cb2 i with
 | some t=>(match t.2.2 with
  | none =>
   if c.old then av7 (r.e c a) (evO (r.e c) t.1) (evO (r.e c) t.2.1)
   else av8 (r.e c a) (evO (r.e c) t.1) (evO (r.e c) t.2.1)
  | some _=>dNo)
 | none=>if pl i then dIx (r.q c a) (r.e c i) else dNo
def xCn(k:Const):DE:=match k with
 | .none=>dC .none
 | .bool b=>dC (.bool b)
 | .int i=>dC (.int i)
 | .str x=>dC (.str x)
 | _=>dNo
def bW4(c:Kx)(a:Expr)(op:Operator)(b:Expr):DE:=match op with
 | .Add=>if c.old && !(isList a || isList b) then A5 t8 (r.e c a) (r.e c b) else A5 L7 (r.e c a) (r.e c b)
 | .Sub=>A5 bl7 (r.e c a) (r.e c b)
 | .Mult=>if c.old then A5 X1 (r.e c a) (r.e c b) else A5 R6 (r.e c a) (r.e c b)
 | .FloorDiv=>A5 aa2 (r.e c a) (r.e c b)
 | .Mod=>A5 U9 (r.e c a) (r.e c b)
 | .Pow=>A5 bo2 (r.e c a) (r.e c b)
 | _=>dNo
def xUn(c:Kx)(op:UnaryOp)(a:Expr):DE:=match op with
 | .USub=>bh5 (r.e c a)
 | .Not=>bA4 (r.e c a)
 | _=>dNo
def bW2(c:Kx)(a:Expr)(ops:List CmpOp)(bs:List Expr):DE:=match ops,bs with
 | [op],[b]=>if pl b then A5 (opW S c op b) (r.e c a) (r.e c b) else dNo
 | [op,op'],[b,d]=>if pl d then i3 (aS9 op) (aS9 op') (r.e c a) (r.e c b) (r.e c d) else dNo
 | _,_=>dNo
def rvA(c:Kx):Expr->Option Expr
 | .Call (.Name x _) [e] [] _=>if biB S c "reversed" x&&pl e then some e else none
 | _=>none
def xTx(c:Kx)(o:Expr)(m:Str)(a:Expr):DE :=
 if m == "join" then(match rvA S c a with
  | some e=>aF7 (r.e c o) (r.q c e)
  | none=>at2 (r.e c o) (r.q c a))
 else if m == "split" then dTx txS (r.e c o) (r.e c a)
 else if m == "partition" then dTx txP (r.e c o) (r.e c a)
 else if m == "zfill" then dZf (r.e c o) (r.e c a)
 else dNo
def bV9(c:Kx)(o:Expr)(m:Str)(apos cpos:Pos)(args:List Expr):DE:=match args with
 | [a]=>if aQ7 o&&apos.endLine==cpos.line&&pl a then xTx S r c o m a else dNo
 | _=>dNo
def xCl(c:Kx)(f:Expr)(args:List Expr)(kw:List dw)(pos:Pos):DE:=match kw with
 | []=>(match f with
  | .Name x p=>bi4 S r c x args (.Call (.Name x p) args [] pos)
  | .Attribute o m apos=>bV9 S r c o m apos pos args
  | _=>dNo)
 | _=>dNo
def xE(c:Kx)(ex:Expr):DE:=match ex with
 | .Constant k _ _=>xCn k
 | .Name x _=>(match Y1 x c.N with
  | some i=>if af2 c.sc x then A1 i else dNo
  | none=>(match S.cs.lookup x with
   | some d=>if am6 c.sc x then dC d else dNo
   | none=>dNo))
 | .Tuple es _ _=>if es.length<=1000 then p8 (evA (r.e c) es) else dNo
 | .List _ _=>r6 (r.n c ex)
 | .ListComp _ _ _ _=>r6 (r.n c ex)
 | .BinOp a op b _=>bW4 r c a op b
 | .UnaryOp op a _=>xUn r c op a
 | .Compare a ops bs _=>bW2 S r c a ops bs
 | .BoolOp op vs _=>bP4 (r.e c) op vs
 | .IfExp t a b _=>ad1 (r.t c t) (r.e c a) (r.e c b)
 | .Subscript a i _=>bV7 r c a i
 | .Call f args kw pos=>xCl S r c f args kw pos
 | _=>dNo
def xQ(c:Kx)(ex:Expr):DQ:=match ex with
 | .Name x _=>(match Y1 x c.N with
  | some i=>if af2 c.sc x then B1 i else qNo
  | none=>qE (r.e c ex))
 | .List _ _=>qN (r.n c ex)
 | .ListComp _ _ _ _=>qN (r.n c ex)
 | _=>qE (r.e c ex)
def xN(c:Kx)(ex:Expr):DA:=match ex with
 | .List es _=>if es.length<=1000 then evA (r.e c) es else aNo
 | .ListComp _ _ _ _=>evC S r c ex
 | _=>aNo
def bR2(c:Kx)(a:Expr)(ops:List CmpOp)(bs:List Expr):DT:=match ops,bs with
 | [op],[b]=>if pl b then tB2 (opW S c op b) (r.e c a) (r.e c b) else tNo
 | [op,op'],[b,d]=>if pl d then aP2 (i3 (aS9 op) (aS9 op') (r.e c a) (r.e c b) (r.e c d)) else tNo
 | _,_=>tNo
def cC7(c:Kx)(op:UnaryOp)(a:Expr):DT:=match op with
 | .Not=>Q6 (r.t c a)
 | _=>tNo
def xT(c:Kx)(ex:Expr):DT:=match ex with
 | .Compare a ops bs _=>bR2 S r c a ops bs
 | .BoolOp op vs _=>bz2 (r.t c) op vs
 | .UnaryOp op a _=>cC7 r c op a
 | _=>if plT ex then W8 (r.e c ex) else tNo
def xG(c:Kx)(ex:Expr):DG:=match ex with
 | .Name x _=>(match Y1 x c.N with
  | some i=>if aK7 c x then K5 i else gNo
  | none=>gNo)
 | .Tuple es _ _=>if es.all pl then d6 es.length (bP3 (r.g c) es) else gNo
 | _=>gNo
def cv4(c:Kx)(x y:Str)(px py:Pos)(a b:Expr):Bool :=
 c.df&&pl a&&pl b && !(x==y)&&px.line==py.line&&c.sc.names.lookup x==some .local&&c.sc.names.lookup y==some .local && !(([a,b]:List Expr).all (foldedForSure 8)) && !(([a,b]:List Expr).all (constantsAlone 8))
def bW5(c:Kx)(tg v:Expr)(es:List Expr):DS:=match cs0 es with
 | some ((x,px),(y,py))=>if bx5 v then(match cr9 v with
  | some (a,b)=>(match Y1 x c.N with
   | some i=>(match Y1 y c.N with
    | some j=>if cv4 c x y px py a b then bn1 i j (evA (r.e c) [a,b]) else K7
    | none=>K7)
   | none=>K7)
  | none=>K7) else K7
 | none=>K7
def bW6(c:Kx)(x:Str)(p':Pos)(v:Expr):DS:=match Y1 x c.N with
 | none=>K7
 | some i=>if !(aK7 c x) then K7 else(match v with
  | .ListComp _ _ sc pv=>if c.sc.names.lookup x==some .local then
    (if c.df&&p'.line==pv.line && !(sc.names.any λ(n,k)=>n==x&&(k == .local || k == .cell)) then(if c.own.contains i then bc9 i (evC S r c v) else af9 i (evC S r c v)) else K7)
   else P1 i (r.e c v)
  | _=>if isC v then K7 else if c.own.contains i then bc9 i (r.n c v) else P1 i (r.e c v))
def cq7(c:Kx)(tg v:Expr)(p:Pos):DS:=match tg with
 | .Name x p'=>bW6 S r c x p' v
 | .Tuple es _ _=>bW5 r c tg v es
 | _=>K7
def bV8(c:Kx)(x m:Str)(e:Expr):DS:=match Y1 x c.N with
 | none=>K7
 | some i=>if af2 c.sc x&&pl e then(if m == "append" then aB8 i (r.e c e) else K7) else K7
def xEx(c:Kx)(e:Expr):DS:=match e with
 | .Call f args kw cpos=>(match f with
  | .Attribute o m apos=>(match o with
   | .Name x _=>(match args,kw with
    | [e],[]=>if apos.endLine==cpos.line then bV8 r c x m e else K7
    | _,_=>K7)
   | _=>K7)
  | _=>K7)
 | _=>K7
def cC8(c:Kx):Option Expr->DS
 | some e=>C5 (r.e c e)
 | none=>K7
def xWh(c:Kx)(t:Expr)(a:List Stmt):List Stmt->DS
 | []=>Z3 (r.t c t) (r.b c a)
 | _=>K7
def xAs(c:Kx)(v:Expr)(p:Pos):List Expr->DS
 | [tg]=>cq7 S r c tg v p
 | _=>K7
def xS(c:Kx)(st:Stmt):DS:=match st with
 | .Return o _=>cC8 r c o
 | .If t a b _=>sIf (r.t c t) (r.b c a) (r.b c b)
 | .While t a o _=>xWh r c t a o
 | .Assign ts v p=>xAs S r c v p ts
 | .Expr e _=>xEx r c e
 | .Pass _=>W9
 | _=>K7
def evB(f:Stmt->DS):List Stmt->DS
 | []=>W9
 | [s]=>f s
 | s::t::Z4=>F7 (f s) (evB f (t::Z4))
def step:Ev:=⟨xE S r,xQ r,xN S r,xT S r,xG r,λc=>evB (xS S r c)⟩
end
def ev(S:Sg):Nat->Ev
 | 0=>⟨λ_ _=>dNo,λ_ _=>qNo,λ_ _=>aNo,λ_ _=>tNo,λ_ _=>gNo,λ_ _=>K7⟩
 | n+1=>step S (ev S n)
end G
namespace Sh
open PySem PySem.Spec PyProof.Rows L2 G
def aA6:DS:=(C5 (ad2 (aj7 "str" (A1 0)) (ad2 (i3 leI leI ⇑1 (ay9 (A1 0)) ⇑6) (aM6 (qN (G4 1 [] (bf7 (A1 0)) (K5 0) K9 (A5 (inS false) (A1 0) (dC (.str "abcdefghijklmnopqrstuvwxyz")))))))))
def k9:List D->Option D:=M5 aA6 1
end Sh
namespace Sh
open PySem G
theorem cg3(i j:Int):neD (.int i) (.int j)=some (.bool (!(i==j))):=rfl
theorem bz3(i j:Int):eqD (.int i) (.int j)=some (.bool (i==j)):=rfl
theorem aZ1{t:Rho->Option Bool}{f:DS}{n:Nat}{ρ ρ':Rho}(h1:t ρ=some true)(h2:f ρ=some (.nx ρ')):Q8 t f (n+1) ρ=Q8 t f n ρ':=by
 simp only[Q8,h1,h2,xbs,if_true]
theorem by3:∀(b a:Nat) (x:Option B),∃n x',Q8 (tB2 neD (A1 1) ⇑0) (F7 (P1 2 (A5 U9 (A1 0) (A1 1))) (F7 (P1 0 (A1 1)) (P1 1 (A1 2)))) n [‹.int a›,‹.int b›,x]
  = some (.nx [‹.int (bV a b)›,‹.int 0›,x']):=by
 intro b
 induction b using Nat.strongRecOn with
 | _ b ih =>
  intro a x;by_cases hb:b=0
  ·subst hb;refine⟨1,x,?_⟩;rw[Nat.gcd_zero_right];rfl
  ·obtain⟨n,x',h⟩:=ih (a % b) (cA _ (cg hb)) b (‹.int ((a % b:Nat):Int)›);refine⟨n+1,x',?_⟩
   have e1:tB2 neD (A1 1) ⇑0 [‹.int a›,‹.int b›,x]=some true:=by
    show(neD (.int b) (.int 0)).bind ab1=some true;rw[cg3];have:((b:Int)==0)=false:=by simp;omega
    rw[this];rfl
   have e2:U9 (.int a) (.int b)=some (.int ((a % b:Nat):Int)):=by
    show(if(0:Int) < (b:Int) then some (dJ ((a:Int) % (b:Int))) else none)=_;rw[if_pos (by omega)];simp
   have e3:F7 (P1 2 (A5 U9 (A1 0) (A1 1))) (F7 (P1 0 (A1 1)) (P1 1 (A1 2))) [‹.int a›,‹.int b›,x]=some (.nx [‹.int b›,‹.int ((a % b:Nat):Int)›,‹.int ((a % b:Nat):Int)›]):=by
    show((((U9 (.int a) (.int b))).map λd=>Fl.nx [‹.int a›,‹.int b›,‹d›]).bind _)=_;rw[e2];rfl
   rw[aZ1 e1 e3,h,Nat.gcd_comm b,Nat.gcd_comm a b,← Nat.gcd_rec]
theorem bV5(a b:Nat):O4 [.int a,.int b]=some (.int (bV a b)):=by
 obtain⟨n,x',h⟩:=by3 b a none;show((Z3 _ _ [‹.int a›,‹.int b›,none]).bind _).bind _=_;rw[ai4 h];rfl
theorem be7:∀(a b:Nat) (t u:D),∃n,Q8 (tB2 gtI (A1 2) ⇑0) (bn1 2 3 (A0 (A5 U9 (A1 3) (A1 2)) (A0 (A1 2) A2))) n [‹t›,‹u›,‹.int a›,‹.int b›]
  = some (.nx [‹t›,‹u›,‹.int 0›,‹.int (bV a b)›]):=by
 intro a
 induction a using Nat.strongRecOn with
 | _ a ih =>
  intro b t u;by_cases ha:a=0
  ·subst ha;refine⟨1,?_⟩;rw[Nat.gcd_zero_left];rfl
  ·obtain⟨n,h⟩:=ih (b % a) (cA _ (cg ha)) a t u;refine⟨n+1,?_⟩
   have e1:tB2 gtI (A1 2) ⇑0 [‹t›,‹u›,‹.int a›,‹.int b›]=some true:=by
    show some (decide ((0:Int) < (a:Int)))=some true;rw[decide_eq_true (by omega)]
   have e2:U9 (.int b) (.int a)=some (.int ((b % a:Nat):Int)):=by
    show(if(0:Int) < (a:Int) then some (dJ ((b:Int) % (a:Int))) else none)=_;rw[if_pos (by omega)];simp
   have e3:bn1 2 3 (A0 (A5 U9 (A1 3) (A1 2)) (A0 (A1 2) A2)) [‹t›,‹u›,‹.int a›,‹.int b›]=some (.nx [‹t›,‹u›,‹.int ((b % a:Nat):Int)›,‹.int a›]):=by
    show((U9 (.int b) (.int a)).bind λd=>(some [dJ (a:Int)]).map λds=>d::ds).bind _=_;rw[e2];rfl
   rw[aZ1 e1 e3,h,← Nat.gcd_rec]
def fr(r:Rat):D:=.tuple [.int r.num,.int r.den]
theorem K6{i:Int}{k:Nat}(h:i.natAbs < 2 ^ k)(hk:k<=8000):E4 i:=aA h (aT (by decide) hk)
theorem aK3(a b:Nat)(hb:0 < b):fr (mkRat a b)=.tuple [.int ((a / bV a b:Nat):Int),.int ((b / bV a b:Nat):Int)]:=by
 unfold fr;rw[Rat.num_mkRat,Rat.den_mkRat,if_neg (by omega),if_neg (by omega)];have e:b.gcd (a:Int).natAbs=bV a b:=by rw[bJ,Nat.gcd_comm]
 rw[e];simp
theorem aZ8(a b x k:Nat)(hb:0 < b)(hk:b < 2 ^ k)(hk8:k<=8000):aa2 (.int x) (.int (bV a b))=some (.int ((x / bV a b:Nat):Int)):=by
 have g0:0 < bV a b:=Nat.gcd_pos_of_pos_right _ hb;have gs:E4 (bV a b:Nat):=K6 (k:=k) (by rw[bJ];exact bT (Nat.le_of_dvd hb (Nat.gcd_dvd_right a b)) hk) hk8;show(if(0:Int) < ((bV a b:Nat):Int)/\E4 (bV a b:Nat) then some (dJ ((x:Int) / ((bV a b:Nat):Int))) else none)=_;rw[if_pos ⟨by omega,gs⟩];simp
theorem aH2(a b k:Nat)(hb:0 < b)(hk:b < 2 ^ k)(hk8:k<=8000):U3 [.int a,.int b]=some (fr (mkRat a b)):=by
 have d:=λx=>aZ8 a b x k hb hk hk8
 have e:Y5 [‹.int a›,‹.int b›,none]=some (.rt (fr (mkRat a b))):=by
  rw[aK3 a b hb];simp only[Y5,F7,P1,A3,A0,A2,A1,xg0,xg1,xbs,xms,bV5,xw1,xw0,C5,p8,A5,d]
 show(Y5 [‹.int a›,‹.int b›,none]).bind _=_;rw[e];rfl
theorem aU4(a b k:Nat)(hb:0 < b)(hk:b < 2 ^ k)(hk8:k<=8000):k8 [.int a,.int b]=some (fr (mkRat a b)):=by
 have d:=λx=>aZ8 a b x k hb hk hk8
 obtain⟨n,h⟩:=be7 a b (.int a) (.int b)
 have e:ah9 [‹.int a›,‹.int b›,none,none]=some (.rt (fr (mkRat a b))):=by
  rw[aK3 a b hb];simp only[ah9,F7,P1,A3,A0,A2,A1,xg0,xg1,xbs,xms,xw1,xw0,C5,p8,A5,d,ai4 h]
 show(ah9 [‹.int a›,‹.int b›,none,none]).bind _=_;rw[e];rfl
structure Bd (k:Nat) (r:Rat):Prop where
 nn:0<=r
 num:r.num.natAbs < 2 ^ k
 den:r.den < 2 ^ k
theorem Bd.mono{j k:Nat}{r:Rat}(h:Bd j r)(l:j<=k):Bd k r:=⟨h.nn,aA h.num (aT (by decide) l),aA h.den (aT (by decide) l)⟩
theorem Bd.nat{k:Nat}{r:Rat}(h:Bd k r):r.num=(r.num.natAbs:Int):=by
 have:=Rat.num_nonneg.mpr h.nn;omega
theorem bs9(a b:Nat):0<=mkRat (a:Int) b:=by
 rw[← Rat.num_nonneg,Rat.num_mkRat];split
 ·exact Int.le_refl _
 ·exact Int.ediv_nonneg (by omega) (by omega)
theorem Bd.of{a b k:Nat}(hb:0 < b)(h1:a < 2 ^ k)(h2:b < 2 ^ k):Bd k (mkRat a b):=by
 refine⟨bs9 a b,?_,?_⟩
 ·rw[Rat.num_mkRat,if_neg (by omega)];rw[show((a:Int) / ((b.gcd (a:Int).natAbs:Nat):Int))=((a / b.gcd (a:Int).natAbs:Nat):Int) by simp,bJ];exact bT (cU _ _) h1
 ·rw[Rat.den_mkRat,if_neg (by omega)];exact bT (cU _ _) h2
theorem M3{a b j k:Nat}(h1:a < 2 ^ j)(h2:b < 2 ^ k):a*b < 2 ^ (j+k):=by
 rw[Nat.pow_add];exact Nat.mul_lt_mul'' h1 h2
theorem aC3{j k:Nat}{r s:Rat}(hr:Bd j r)(hs:Bd k s):r*s=mkRat ((r.num.natAbs*s.num.natAbs:Nat):Int) (r.den*s.den):=by
 rw[Rat.mul_def,Rat.normalize_eq_mkRat,aL,← hr.nat,← hs.nat]
theorem aW7{j k:Nat}{r s:Rat}(hr:Bd j r)(hs:Bd k s):r+s=mkRat ((r.num.natAbs*s.den+s.num.natAbs*r.den:Nat):Int) (r.den*s.den):=by
 rw[Rat.add_def,Rat.normalize_eq_mkRat,Int.natCast_add,aL,aL,← hr.nat,← hs.nat]
theorem bl6{j k:Nat}{r s:Rat}(hr:Bd j r)(hs:Bd k s)(l:s<=r):s.num.natAbs*r.den<=r.num.natAbs*s.den:=by
 have:=(Rat.le_iff s r).mp l;rw[hr.nat,hs.nat]at this
 exact_mod_cast this
theorem aW6{j k:Nat}{r s:Rat}(hr:Bd j r)(hs:Bd k s)(l:s<=r):r - s=mkRat ((r.num.natAbs*s.den - s.num.natAbs*r.den:Nat):Int) (r.den*s.den):=by
 rw[Rat.sub_def,Rat.normalize_eq_mkRat,Int.ofNat_sub (bl6 hr hs l),aL,aL,← hr.nat,← hs.nat]
theorem den_pos(r:Rat):0 < r.den:=cg r.den_nz
theorem Bd.mul{j k:Nat}{r s:Rat}(hr:Bd j r)(hs:Bd k s):Bd (j+k) (r*s):=by
 rw[aC3 hr hs];exact Bd.of (bF (den_pos r) (den_pos s)) (M3 hr.num hs.num) (M3 hr.den hs.den)
theorem Bd.add{j k:Nat}{r s:Rat}(hr:Bd j r)(hs:Bd k s):Bd (j+k+1) (r+s):=by
 rw[aW7 hr hs];have h1:=M3 hr.num hs.den;have h2:=M3 hs.num hr.den;have h3:=M3 hr.den hs.den;rw[Nat.add_comm k j]at h2;exact Bd.of (bF (den_pos r) (den_pos s)) (by rw[bY];omega) (by rw[bY];omega)
theorem Bd.sub{j k:Nat}{r s:Rat}(hr:Bd j r)(hs:Bd k s)(l:s<=r):Bd (j+k) (r - s):=by
 rw[aW6 hr hs l];have h1:=M3 hr.num hs.den;have h3:=M3 hr.den hs.den;exact Bd.of (bF (den_pos r) (den_pos s)) (by omega) (by omega)
theorem Bd.one:Bd 1 1:=⟨by decide,by decide,by decide⟩
theorem Bd.zero:Bd 1 0:=⟨by decide,by decide,by decide⟩
theorem by5:fr 1=.tuple [.int 1,.int 1]:=rfl
theorem Bd.sn{k:Nat}{r:Rat}(h:Bd k r)(hk:k<=8000):E4 r.num:=K6 h.num hk
theorem Bd.sd{k:Nat}{r:Rat}(h:Bd k r)(hk:k<=8000):E4 r.den:=K6 (k:=k) (by rw[bJ];exact h.den) hk
theorem Q7{i j:Int}(h1:E4 i)(h2:E4 j):X1 (.int i) (.int j)=some (.int (i*j)):=by
 show(if E4 i/\E4 j then some (dJ (i*j)) else none)=_;rw[if_pos ⟨h1,h2⟩]
theorem bV3(i j:Int):t8 (.int i) (.int j)=some (.int (i+j)):=rfl
theorem bS1(i j:Int):bl7 (.int i) (.int j)=some (.int (i - j)):=rfl
theorem cx7(i j:Int):leI (.int i) (.int j)=some (.bool (decide (i<=j))):=rfl
theorem cB5(a b:D):L2.atI [a,b] 0=some a:=rfl
theorem cB4(a b:D):L2.atI [a,b] 1=some b:=rfl
theorem ix0{ρ:Rho}{i:Nat}{r:Rat}(h:ρ[i]? = some (‹fr r›)):dIx (B1 i) ⇑0 ρ=some (.int r.num):=by
 simp only[dIx,B1,h,fr,dC,xbs,cB5]
theorem ix1{ρ:Rho}{i:Nat}{r:Rat}(h:ρ[i]? = some (‹fr r›)):dIx (B1 i) ⇑1 ρ=some (.int r.den):=by
 simp only[dIx,B1,h,fr,dC,xbs,cB4]
theorem v0(x:Option B)(l:Rho):(x::l)[0]? = some x:=rfl
theorem v1(y x:Option B)(l:Rho):(y::x::l)[1]? = some x:=rfl
theorem V1{j k:Nat}{r s:Rat}(hr:Bd j r)(hs:Bd k s)(l:j+k<=8000):Y7 [fr r,fr s]=some (fr (r*s)):=by
 have e:ap1 [‹fr r›,‹fr s›]=some (.rt (fr (r*s))):=by
  simp only[ap1,C5,A3,A0,A2,A5,ix0 (v0 _ _),ix1 (v0 _ _),ix0 (v1 _ _ _),ix1 (v1 _ _ _),xbs,xms,Q7 (hr.sn (by omega)) (hs.sn (by omega)),Q7 (hr.sd (by omega)) (hs.sd (by omega))];have:=aH2 (r.num.natAbs*s.num.natAbs) (r.den*s.den) (j+k) (bF (den_pos r) (den_pos s)) (M3 hr.den hs.den) l;rw[← aC3 hr hs,aL,aL,← hr.nat,← hs.nat]at this;rw[this];rfl
 show(ap1 [‹fr r›,‹fr s›]).bind _=_;rw[e];rfl
theorem V5{j k:Nat}{r s:Rat}(hr:Bd j r)(hs:Bd k s)(l:j+k<=8000):W0 [fr r,fr s]=some (fr (r+s)):=by
 have e:ap2 [‹fr r›,‹fr s›]=some (.rt (fr (r+s))):=by
  simp only[ap2,C5,A3,A0,A2,A5,ix0 (v0 _ _),ix1 (v0 _ _),ix0 (v1 _ _ _),ix1 (v1 _ _ _),xbs,xms,Q7 (hr.sn (by omega)) (hs.sd (by omega)),Q7 (hs.sn (by omega)) (hr.sd (by omega)),Q7 (hr.sd (by omega)) (hs.sd (by omega)),bV3];have:=aH2 (r.num.natAbs*s.den+s.num.natAbs*r.den) (r.den*s.den) (j+k) (bF (den_pos r) (den_pos s)) (M3 hr.den hs.den) l;rw[← aW7 hr hs,Int.natCast_add,aL,aL,aL,← hr.nat,← hs.nat]at this;rw[this];rfl
 show(ap2 [‹fr r›,‹fr s›]).bind _=_;rw[e];rfl
theorem i5{j k:Nat}{r s:Rat}(hr:Bd j r)(hs:Bd k s)(l:j+k<=8000)(hl:s<=r):a8 [fr r,fr s]=some (fr (r - s)):=by
 have e:v7 [‹fr r›,‹fr s›]=some (.rt (fr (r - s))):=by
  simp only[v7,C5,A3,A0,A2,A5,ix0 (v0 _ _),ix1 (v0 _ _),ix0 (v1 _ _ _),ix1 (v1 _ _ _),xbs,xms,Q7 (hr.sn (by omega)) (hs.sd (by omega)),Q7 (hs.sn (by omega)) (hr.sd (by omega)),Q7 (hr.sd (by omega)) (hs.sd (by omega)),bS1];have:=aH2 (r.num.natAbs*s.den - s.num.natAbs*r.den) (r.den*s.den) (j+k) (bF (den_pos r) (den_pos s)) (M3 hr.den hs.den) l;rw[← aW6 hr hs hl,Int.ofNat_sub (bl6 hr hs hl),aL,aL,aL,← hr.nat,← hs.nat]at this;rw[this];rfl
 show(v7 [‹fr r›,‹fr s›]).bind _=_;rw[e];rfl
theorem ak5{k:Nat}{s:Rat}(hs:Bd k s)(l:k+1<=8000)(hl:s<=1):k7 [fr s]=some (fr (1 - s)):=by
 have e:ac4 [‹fr s›]=some (.rt (fr (1 - s))):=by
  simp only[ac4,C5,A3,A0,A2,dC,A1,xg0,xbs,xms];rw[← by5,i5 Bd.one hs (by omega) hl];rfl
 show(ac4 [‹fr s›]).bind _=_;rw[e];rfl
theorem g7{j k:Nat}{r s:Rat}(hr:Bd j r)(hs:Bd k s)(l:j+k<=8000):Y8 [fr r,fr s]=some (.bool (decide (r<=s))):=by
 have e:Y6 [‹fr r›,‹fr s›]=some (.rt (.bool (decide (r<=s)))):=by
  simp only[Y6,C5,A3,A0,A2,A5,ix0 (v0 _ _),ix1 (v0 _ _),ix0 (v1 _ _ _),ix1 (v1 _ _ _),xbs,xms,Q7 (hr.sn (by omega)) (hs.sd (by omega)),Q7 (hs.sn (by omega)) (hr.sd (by omega)),cx7];simp only[← Rat.le_iff]
 show(Y6 [‹fr r›,‹fr s›]).bind _=_;rw[e];rfl
theorem aO2{k:Nat}{r:Rat}(hr:Bd k r)(l:k+1<=8000):V9 [fr r]=some (fr (if r<=1 then r else 1)):=by
 have e:V8 [‹fr r›]=some (.rt (fr (if r<=1 then r else 1))):=by
  simp only[V8,C5,ad1,W8,A3,A0,A2,dC,A1,xg0,xbs,xms];rw[← by5,g7 hr Bd.one l];by_cases h:r<=1
  ·simp[h,bc3]
  ·simp[h,bc3]
 show(V8 [‹fr r›]).bind _=_;rw[e];rfl
end Sh
set_option exponentiation.threshold 9000
namespace Sh
open PySem G L2
theorem cF5(i j:Int):ltI (.int i) (.int j)=some (.bool (decide (i < j))):=rfl
theorem cG3(i j:Int):gtI (.int i) (.int j)=some (.bool (decide (j < i))):=rfl
theorem bI7{α:Type}(x:α):aq 0 x=[]:=rfl
theorem bI6{α:Type}(x:α):aq 1 x=[x]:=rfl
theorem bI5{α:Type}(x:α):aq 2 x=[x,x]:=rfl
theorem ba1(a b c d:D):ab0 [a,b,c,d] (some 1) none=[b,c,d]:=rfl
theorem cH7(a b c d:D):L2.atI [a,b,c,d] 0=some a:=rfl
theorem cH6(a b c d:D):L2.atI [a,b,c,d] 1=some b:=rfl
theorem cH5(a b c d:D):L2.atI [a,b,c,d] 2=some c:=rfl
theorem cH4(a b c d:D):L2.atI [a,b,c,d] 3=some d:=rfl
theorem cI0(a b c:D):L2.atI [a,b,c] 0=some a:=rfl
theorem cH9(a b c:D):L2.atI [a,b,c] 1=some b:=rfl
theorem cH8(a b c:D):L2.atI [a,b,c] 2=some c:=rfl
theorem i7{n k:Nat}(h:n < 2 ^ k)(hk:k<=8000):E4 (n:Int):=K6 (k:=k) (by rw[bJ];exact h) hk
theorem aK1{i j:Int}(h:0 < j):U9 (.int i) (.int j)=some (.int (i % j)):=by
 show(if(0:Int) < j then some (dJ (i % j)) else none)=_;rw[if_pos h]
theorem aZ7{i j:Int}(h:0 < j)(s:E4 j):aa2 (.int i) (.int j)=some (.int (i / j)):=by
 show(if(0:Int) < j/\E4 j then some (dJ (i / j)) else none)=_;rw[if_pos ⟨h,s⟩]
theorem B7{g:DS}{n:Nat}{ds:List D}{ρ:Rho}{d:D}(h:P6 n ds=ρ)(e:g ρ=some (.rt d)):M5 g n ds=some d:=by
 unfold M5;rw[h,e];rfl
theorem ae9{j k:Nat}{r s:Rat}(hr:Bd j r)(hs:Bd k s)(l:j+k<=8000):ak6 [fr r,fr s]=some (fr (r*s)):=by
 refine B7 (ρ:=[‹fr r›,‹fr s›]) rfl ?_;simp only[aA1,C5,A3,A0,A2,A5,ix0 (v0 _ _),ix1 (v0 _ _),ix0 (v1 _ _ _),ix1 (v1 _ _ _),xbs,xms,Q7 (hr.sn (by grind)) (hs.sn (by grind)),Q7 (hr.sd (by grind)) (hs.sd (by grind))];have:=aU4 (r.num.natAbs*s.num.natAbs) (r.den*s.den) (j+k) (bF (den_pos r) (den_pos s)) (M3 hr.den hs.den) l;rw[← aC3 hr hs,aL,aL,← hr.nat,← hs.nat]at this;rw[this];rfl
def az2(ns:List Int)(k:Nat):Int:=if ns.length=0 then 7*(k:Int) else ns.getD (k % ns.length) 0+6553*((k / ns.length:Nat):Int)
theorem bz4(ns:List Int):eqD (.list (ns.map dJ)) (.list [])=some (.bool (decide (ns.length=0))):=by
 have h1:dI (.list (ns.map dJ))=true:=by
  have c:∀l:List Int,PyData.canLayAll0 (l.map dJ)=true:=λl=>by
   induction l with
   | nil=>rfl
   | cons a r ih=>simp only[xmc,PyData.canLayAll0,dN,ih];rfl
  have d:∀l:List Int,PyData.depthAll (l.map dJ)=0:=λl=>by
   induction l with
   | nil=>rfl
   | cons a r ih=>simp only[xmc,PyData.depthAll,PyData.depth,ih];rfl
  unfold dI;simp only[dN,c,PyData.depth,d];rfl
 unfold eqD;rw[if_pos ⟨h1,rfl⟩];cases ns with
 | nil=>rfl
 | cons a r=>simp[PyData.eqv,PyData.eqvAll]
end Sh
local macro_rules
  | `(tactic| wp_walk using evP, $ts,*) => `(tactic| simp only [G.F7, G.P1, G.C5, G.sIf, G.W9, G.af9, G.cE8, G.A1, G.dC, G.p8, G.r6, G.A5, G.A3, G.ad2, G.dOr, G.bA4, G.i3, G.y9, G.aM6, G.cH2, G.aj7, G.T7, G.T6, G.bx7, G.A2, G.A0, G.W8, G.tB2, G.aw9, G.ai3, G.Q6, G.bc3, G.ab1, G.K9, G.K5, G.d6, G.O7, G.y8, G.h9, G.bf5, G.xg0, G.xg1, G.xw0, G.xw1, G.xbs, G.xms, G.xmc, G.xmn, G.xna, G.xca, Sh.bV3, Sh.bS1, Sh.cx7, Sh.cg3, Sh.bz3, Sh.cF5, Sh.cG3, Sh.cH7, Sh.cH6, Sh.cH5, Sh.cH4, Sh.cI0, Sh.cH9, Sh.cH8, Sh.cB5, Sh.cB4, G.xnt, G.xnf, G.xft, if_true, if_false, $[$ts:term],*])
local macro_rules
  | `(tactic| wp_walk using evB) => `(tactic| wp_walk using evP, G.dIx, G.ad0, G.B1, G.qE, G.qN, G.aq4)
  | `(tactic| wp_walk using evB, $ts,*) => `(tactic| wp_walk using evP, G.dIx, G.ad0, G.B1, G.qE, G.qN, G.aq4, $ts,*)
local macro_rules
  | `(tactic| wp_walk using evA) => `(tactic| wp_walk using evB, G.ad1, G.av7, G.G4, G.aa0, G.ak0, G.X8, G.au9, Sh.bI7, Sh.bI6, Sh.bI5, Sh.ba1, ite_true, ite_false)
  | `(tactic| wp_walk using evA, $ts,*) => `(tactic| wp_walk using evB, G.ad1, G.av7, G.G4, G.aa0, G.ak0, G.X8, G.au9, Sh.bI7, Sh.bI6, Sh.bI5, Sh.ba1, ite_true, ite_false, $ts,*)
local macro_rules
  | `(tactic| wp_walk using evD) => `(tactic| wp_walk using evB, G.ae7, G.aP2)
  | `(tactic| wp_walk using evD, $ts,*) => `(tactic| wp_walk using evB, G.ae7, G.aP2, $ts,*)
local macro_rules
  | `(tactic| wp_walk using evC) => `(tactic| wp_walk using evD, G.ad1, G.av7, G.G4, G.aa0, G.ak0, G.X8, G.au9, Sh.bI7, Sh.bI6, Sh.bI5, Sh.ba1, ite_true, ite_false)
  | `(tactic| wp_walk using evC, $ts,*) => `(tactic| wp_walk using evD, G.ad1, G.av7, G.G4, G.aa0, G.ak0, G.X8, G.au9, Sh.bI7, Sh.bI6, Sh.bI5, Sh.ba1, ite_true, ite_false, $ts,*)
local macro_rules
  | `(tactic| wp_walk using evQ) => `(tactic| wp_walk using evP, G.ae7, G.aP2)
  | `(tactic| wp_walk using evQ, $ts,*) => `(tactic| wp_walk using evP, G.ae7, G.aP2, $ts,*)
namespace Sh
open PySem G L2
theorem cp5(ns:List Int)(k:Nat)(hn:ns.length<=63)(hk:k < 2 ^ 60):au3 [.list (ns.map dJ),.int k]=some (.int (az2 ns k)):=by
 refine B7 (ρ:=[‹.list (ns.map dJ)›,‹.int k›]) rfl ?_;have sk:E4 (k:Int):=i7 hk (by decide);by_cases h:ns.length=0
 ·have e:az2 ns k=7*(k:Int):=by unfold az2;rw[if_pos h]
  wp_walk using evA,at9,bz4,h,decide_true,Q7 (i:=7) (K6 (k:=3) (by decide) (by decide)) sk,e
 ·have e:az2 ns k=ns.getD (k % ns.length) 0+6553*((k / ns.length:Nat):Int):=by unfold az2;rw[if_neg h]
  have hl:(List.map dJ ns).length=ns.length:=ay ..;have hp:0 < ns.length:=cg h;have m1:U9 (.int k) (.int ns.length)=some (.int ((k % ns.length:Nat):Int)):=by rw[aK1 (by grind)];simp
  have m2:aa2 (.int k) (.int ns.length)=some (.int ((k / ns.length:Nat):Int)):=by rw[aZ7 (by grind) (i7 (k:=6) (by grind) (by decide))];simp
  have m3:L2.atI (List.map dJ ns) ((k % ns.length:Nat):Int)=some (.int (ns.getD (k % ns.length) 0)):=by
   refine L2.bQ8 ?_;have hlt:k % ns.length < ns.length:=cA _ hp;rw[aE,aV hlt];simp[List.getD,hlt]
  have sq:E4 ((k / ns.length:Nat):Int):=i7 (k:=60) (bT (cU _ _) hk) (by decide)
  wp_walk using evA,at9,bz4,h,decide_false,hl,m1,m2,m3,Q7 (i:=6553) (K6 (k:=13) (by decide) (by decide)) sq,e
def ah0(ns:List Int)(k:Nat)(m:Int):Int :=
 let c:=(az2 ns k % 2147483563*69069+104723*((k:Int)+1)) % 2147483563
 let c:=(c*c+c / 3) % 2147483399
 (c*c+c / 7) % 2147483647 / 11 % m
theorem aI7{i:Int}(h0:0<=i)(h:i < 4294967296):E4 i:=K6 (k:=32) (by omega) (by decide)
theorem ap5(ns:List Int)(k:Nat)(m:Int)(hn:ns.length<=63)(hk:k < 2 ^ 60)(hm:0 < m):B2 [.list (ns.map dJ),.int k,.int m]=some (.int (ah0 ns k m)):=by
 refine B7 (ρ:=[‹.list (ns.map dJ)›,‹.int k›,‹.int m›,none]) rfl ?_;have c0:∀x:Int,E4 (x % 2147483563):=λx=>aI7 (by grind) (by grind)
 have c1:∀x:Int,E4 (x % 2147483399):=λx=>aI7 (by grind) (by grind)
 have sk:E4 ((k:Int)+1):=K6 (k:=61) (by grind) (by decide);have s1:E4 69069:=K6 (k:=17) (by decide) (by decide);have s2:E4 104723:=K6 (k:=17) (by decide) (by decide);have s3:E4 3:=K6 (k:=2) (by decide) (by decide);have s7:E4 7:=K6 (k:=3) (by decide) (by decide);have s11:E4 11:=K6 (k:=4) (by decide) (by decide)
 wp_walk using evA,aA3,cp5 ns k hn hk,aK1 (show(0:Int) < 2147483563 by decide),aK1 (show(0:Int) < 2147483399 by decide),aK1 (show(0:Int) < 2147483647 by decide),aK1 hm,Q7 (c0 _) s1,Q7 s2 sk,Q7 (c0 _) (c0 _),Q7 (c1 _) (c1 _),aZ7 (show(0:Int) < 3 by decide) s3,aZ7 (show(0:Int) < 7 by decide) s7,aZ7 (show(0:Int) < 11 by decide) s11
 rfl
theorem ao4(ns:List Int)(k:Nat)(m:Int)(hm:0 < m):0<=ah0 ns k m/\ah0 ns k m < m:=by
 unfold ah0;exact⟨Int.emod_nonneg _ (by omega),Int.emod_lt_of_pos _ hm⟩
structure IsSh (k:Nat) (r:Rat):Prop where
 bd:Bd k r
 le:r<=1
theorem be9{a b:Nat}(hb:0 < b)(h:a<=b):mkRat (a:Int) b<=1:=by
 rw[Rat.le_iff,Rat.num_mkRat,Rat.den_mkRat,if_neg (by omega),if_neg (by omega)];have e0:(1:Rat).num=1:=rfl;have e1:(1:Rat).den=1:=rfl;rw[e0,e1];have:a / b.gcd a<=b / b.gcd a:=Nat.div_le_div_right h;simp
 exact_mod_cast this
theorem ap3(ns:List Int)(at':Nat)(hn:ns.length<=63)(hk:at' < 2 ^ 40):∃r,ac5 [.list (ns.map dJ),.int at']=some (fr r)/\IsSh 4 r:=by
 obtain⟨u0,u1⟩:=ao4 ns at' 12 (by decide);obtain⟨u,hu⟩:∃u:Nat,(1:Int)+ah0 ns at' 12=u/\0 < u/\u<=12:=⟨(1+ah0 ns at' 12).toNat,by grind,by grind,by grind⟩;obtain⟨t0,t1⟩:=ao4 ns (at'+1) ((u:Int)+1) (by grind);obtain⟨t,ht⟩:∃t:Nat,ah0 ns (at'+1) ((u:Int)+1)=t/\t<=u:=⟨(ah0 ns (at'+1) ((u:Int)+1)).toNat,by grind,by grind⟩;obtain⟨p0,p1⟩:=ao4 ns (at'+2) 5 (by decide);have hs:IsSh 4 (mkRat (t:Int) u):=⟨Bd.of (by grind) (by grind) (by grind),be9 (by grind) (by grind)⟩;have e1:=ap5 ns at' 12 hn (by grind) (by decide);have e2:=ap5 ns (at'+1) ((u:Int)+1) hn (by grind) (by grind);have e3:=ap5 ns (at'+2) 5 hn (by grind) (by decide);have e4:=aU4 t u 4 (by grind) (by grind) (by decide);have c1:((at':Int)+1)=((at'+1:Nat):Int):=by grind
 have c2:((at':Int)+2)=((at'+2:Nat):Int):=by grind
 rw[ht.1]at e2
 have pick:∀(j:Int),0<=j->j < 5->∃r,L2.atI [fr (mkRat (t:Int) u),fr (mkRat (t:Int) u),fr (mkRat (t:Int) u),.tuple [.int 0,.int 1],.tuple [.int 1,.int 1]] j=some (fr r)/\IsSh 4 r:=λj h0 h5=>by
  have:j=0\/j=1\/j=2\/j=3\/j=4:=by grind
  rcases this with rfl|rfl|rfl|rfl|rfl
  ·exact⟨_,rfl,hs⟩
  ·exact⟨_,rfl,hs⟩
  ·exact⟨_,rfl,hs⟩
  ·exact⟨0,rfl,Bd.zero.mono (by decide),by decide⟩
  ·exact⟨1,rfl,Bd.one.mono (by decide),by decide⟩
 obtain⟨r,hr1,hr2⟩:=pick _ p0 p1;refine⟨r,B7 (ρ:=[‹.list (ns.map dJ)›,‹.int at'›,none,none]) rfl ?_,hr2⟩
 wp_walk using evA,aA2,e1,hu.1,c1,c2,e2,e3,e4,hr1
end Sh
namespace Sh
open PySem G L2
def sp(c x y z:Rat):D:=.tuple [fr c,fr x,fr y,fr z]
structure Spot (k:Nat) (c x y z:Rat):Prop where
 hc:IsSh k c
 hx:Bd k x
 hy:Bd k y
 hz:Bd k z
 xc:x<=c
 yc:y<=c
 zc:z<=c
theorem IsSh.mono{j k:Nat}{r:Rat}(h:IsSh j r)(l:j<=k):IsSh k r:=⟨h.bd.mono l,h.le⟩
theorem Spot.mono{j k:Nat}{c x y z:Rat}(h:Spot j c x y z)(l:j<=k):Spot k c x y z:=⟨h.hc.mono l,h.hx.mono l,h.hy.mono l,h.hz.mono l,h.xc,h.yc,h.zc⟩
theorem S7{c r:Rat}(hc:0<=c)(hr:r<=1):c*r<=c:=by
 have:=Rat.mul_le_mul_of_nonneg_right hr hc
 grind
theorem cE9:m7 0 3=[.int 0,.int 1,.int 2]:=rfl
theorem bb3(ns:List Int)(k:Nat)(hn:ns.length<=63)(hk:k < 2 ^ 30):∃c a0 a1 a2,U4 [.list (ns.map dJ),.int k]=some (sp c (c*a0) (c*a1) (c*a2))/\IsSh 4 c/\IsSh 4 a0/\IsSh 4 a1/\IsSh 4 a2:=by
 obtain⟨c,ec,hc⟩:=ap3 ns k hn (by grind);obtain⟨a0,e0,h0⟩:=ap3 ns (k+3) hn (by grind);obtain⟨a1,e1,h1⟩:=ap3 ns (k+6) hn (by grind);obtain⟨a2,e2,h2⟩:=ap3 ns (k+9) hn (by grind);refine⟨c,a0,a1,a2,?_,hc,h0,h1,h2⟩;refine B7 (ρ:=[‹.list (ns.map dJ)›,‹.int k›,none]) rfl ?_;have i0:(k:Int)+3+3*0=((k+3:Nat):Int):=by grind
 have i1:(k:Int)+3+3*1=((k+6:Nat):Int):=by grind
 have i2:(k:Int)+3+3*2=((k+9:Nat):Int):=by grind
 have s0:E4 0:=K6 (k:=2) (by decide) (by decide);have s1:E4 1:=K6 (k:=2) (by decide) (by decide);have s2:E4 2:=K6 (k:=2) (by decide) (by decide);have s3:E4 3:=K6 (k:=2) (by decide) (by decide);have m0:=Q7 s3 s0;have m1:=Q7 s3 s1;have m2:=Q7 s3 s2;have r3:((-(2 ^ 62):Int)<=3/\(3:Int) < 2 ^ 62):=by decide
 have l3:([dJ 0,.int 1,.int 2]:List D).length<=16777216:=by decide
 have ct:∀a b c d:D,t8 (.tuple [a]) (.tuple [b,c,d])=some (.tuple [a,b,c,d]):=λa b c d=>rfl
 wp_walk using evA,aO0,ec,r3,and_self,cE9,l3,m0,m1,m2,i0,i1,i2,e0,e1,e2,ae9 hc.bd h0.bd (by decide),ae9 hc.bd h1.bd (by decide),ae9 hc.bd h2.bd (by decide),ct,sp
theorem cp4(ns:List Int)(k:Nat)(hn:ns.length<=63)(hk:k < 2 ^ 30):∃c x y z,U4 [.list (ns.map dJ),.int k]=some (sp c x y z)/\Spot 8 c x y z:=by
 obtain⟨c,a0,a1,a2,e,hc,h0,h1,h2⟩:=bb3 ns k hn hk;exact⟨c,c*a0,c*a1,c*a2,e,⟨hc.mono (by decide),hc.bd.mul h0.bd,hc.bd.mul h1.bd,hc.bd.mul h2.bd,S7 hc.bd.nn h0.le,S7 hc.bd.nn h1.le,S7 hc.bd.nn h2.le⟩⟩
theorem bO5(i:Int):v8 [.int i]=some (.bool true):=rfl
theorem bx4(i:Int):V3 [.int i]=some (.bool true):=rfl
theorem ay7(r:Rat):dI (fr r)=true:=rfl
theorem cA5(r s:Rat):eqD (fr r) (fr s)=some (.bool (decide (r=s))):=by
 unfold eqD;rw[if_pos ⟨ay7 r,ay7 s⟩]
 congr 2
 show((r.num==s.num)&&(((r.den:Int)==(s.den:Int))&&true))=_;rw[cu];simp only[Bool.and_true,ah,beq_iff_eq,decide_eq_true_eq];constructor
 ·intro h;exact Rat.ext h.1 (by exact_mod_cast h.2)
 ·intro h;subst h;exact⟨rfl,rfl⟩
theorem aK2{k:Nat}{r:Rat}(h:Bd k r):mkRat ((r.num.natAbs:Nat):Int) r.den=r:=by
 rw[← h.nat];exact Rat.mkRat_self r
theorem ar2{k:Nat}{r:Rat}(h:IsSh k r):r.num<=r.den:=by
 have:=(Rat.le_iff r 1).mp h.le;have e0:(1:Rat).num=1:=rfl;have e1:(1:Rat).den=1:=rfl;rw[e0,e1]at this;omega
theorem cx6(a b:D):((([a,b]:List D).length:Nat):Int)=2:=rfl
theorem cF7(a b c d:D):((([a,b,c,d]:List D).length:Nat):Int)=4:=rfl
theorem bb2:((2:Int)==2)=true:=rfl
theorem bb4:((4:Int)==4)=true:=rfl
theorem cp1{k:Nat}{r:Rat}(h:IsSh k r)(hk:k<=8000):aH3 [fr r]=some (.bool true):=by
 have n0:=Rat.num_nonneg.mpr h.bd.nn;have nd:=ar2 h;have d0:(0:Int) < r.den:=by have:=den_pos r;omega
 have e:=aU4 r.num.natAbs r.den k (den_pos r) h.bd.den hk;rw[aK2 h.bd,← h.bd.nat]at e;have e2:=cA5 r r;refine B7 (ρ:=[‹fr r›]) rfl ?_;have e':k8 [dJ r.num,dJ r.den]=some (.tuple [.int r.num,.int r.den]):=e
 have e2':eqD (.tuple [.int r.num,.int r.den]) (.tuple [.int r.num,.int r.den])=some (.bool true):=by
  have:=e2;simp only[decide_true]at this;exact this
 wp_walk using evA,ai0,fr,cx6,bb2,bO5,d0,decide_true,n0,nd,e',e2'
theorem u6{k:Nat}{r:Rat}(h:IsSh k r)(hk:k<=8000):af1 [fr r]=some (.bool true):=by
 have n0:=Rat.num_nonneg.mpr h.bd.nn;have nd:=ar2 h;have d0:(0:Int) < r.den:=by have:=den_pos r;omega
 have e:=bV5 r.num.natAbs r.den;rw[← h.bd.nat,show bV r.num.natAbs r.den=1 from r.reduced]at e;have e':O4 [dJ r.num,dJ r.den]=some (.int 1):=e;have b1:((1:Int)==1)=true:=rfl;refine B7 (ρ:=[‹fr r›,none,none]) rfl ?_
 wp_walk using evA,au2,fr,cx6,bb2,bx4,d0,decide_true,n0,nd,e',b1
theorem cB7:aG8 [.bool true,.bool true,.bool true]=some true:=rfl
theorem cB6:aG8 [.bool true,.bool true,.bool true,.bool true]=some true:=rfl
theorem bi1{k:Nat}{c x y z:Rat}(S:Spot k c x y z)(hk:k+k<=8000):ac6 [sp c x y z]=some (.bool true):=by
 have hk1:k<=8000:=by grind
 have lx:IsSh k x:=⟨S.hx,Rat.le_trans S.xc S.hc.le⟩;have ly:IsSh k y:=⟨S.hy,Rat.le_trans S.yc S.hc.le⟩;have lz:IsSh k z:=⟨S.hz,Rat.le_trans S.zc S.hc.le⟩;refine B7 (ρ:=[‹sp c x y z›]) rfl ?_;have f4:([fr c,fr x,fr y,fr z]:List D).length<=16777216:=by show 4<=16777216;decide
 have f3:([fr x,fr y,fr z]:List D).length<=16777216:=by show 3<=16777216;decide
 wp_walk using evA,aA4,sp,cF7,bb4,f4,f3,u6 S.hc hk1,u6 lx hk1,u6 ly hk1,u6 lz hk1,cB7,cB6,g7 S.hx S.hc.bd hk,g7 S.hy S.hc.bd hk,g7 S.hz S.hc.bd hk,S.xc,S.yc,S.zc,decide_true
end Sh
namespace Sh
open PySem G L2
theorem A8{x y:Str}{b:Bool}(hx:dN (.str x)=true)(hy:dN (.str y)=true)(e:(x==y)=b):eqD (.str x) (.str y)=some (.bool b):=by
 unfold eqD;have s:∀z:Str,dN (.str z)=true->dI (.str z)=true:=λz h=>by unfold dI;rw[h];rfl
 rw[if_pos ⟨s x hx,s y hy⟩];show some (dL (x==y))=_;rw[e]
theorem V6{x y:Str}{b:Bool}(hx:dN (.str x)=true)(hy:dN (.str y)=true)(e:(!(x==y))=b):neD (.str x) (.str y)=some (.bool b):=by
 unfold neD;have s:∀z:Str,dN (.str z)=true->dI (.str z)=true:=λz h=>by unfold dI;rw[h];rfl
 rw[if_pos ⟨s x hx,s y hy⟩];show some (dL (!(x==y)))=_;rw[e]
theorem J3:eqD (.str "over") (.str "over")=some (.bool true):=A8 (by decide +kernel) (by decide +kernel) (by decide +kernel)
theorem M7:eqD (.str "over") (.str "multiply")=some (.bool false):=A8 (by decide +kernel) (by decide +kernel) (by decide +kernel)
theorem D6:eqD (.str "over") (.str "screen")=some (.bool false):=A8 (by decide +kernel) (by decide +kernel) (by decide +kernel)
theorem J2:eqD (.str "over") (.str "plus")=some (.bool false):=A8 (by decide +kernel) (by decide +kernel) (by decide +kernel)
theorem J4:eqD (.str "over") (.str "atop")=some (.bool false):=A8 (by decide +kernel) (by decide +kernel) (by decide +kernel)
theorem L1:eqD (.str "over") (.str "cut")=some (.bool false):=A8 (by decide +kernel) (by decide +kernel) (by decide +kernel)
theorem M9:eqD (.str "multiply") (.str "over")=some (.bool false):=A8 (by decide +kernel) (by decide +kernel) (by decide +kernel)
theorem S2:eqD (.str "multiply") (.str "multiply")=some (.bool true):=A8 (by decide +kernel) (by decide +kernel) (by decide +kernel)
theorem J5:eqD (.str "multiply") (.str "screen")=some (.bool false):=A8 (by decide +kernel) (by decide +kernel) (by decide +kernel)
theorem M8:eqD (.str "multiply") (.str "plus")=some (.bool false):=A8 (by decide +kernel) (by decide +kernel) (by decide +kernel)
theorem N3:eqD (.str "multiply") (.str "atop")=some (.bool false):=A8 (by decide +kernel) (by decide +kernel) (by decide +kernel)
theorem P2:eqD (.str "multiply") (.str "cut")=some (.bool false):=A8 (by decide +kernel) (by decide +kernel) (by decide +kernel)
theorem D2:eqD (.str "screen") (.str "over")=some (.bool false):=A8 (by decide +kernel) (by decide +kernel) (by decide +kernel)
theorem G7:eqD (.str "screen") (.str "multiply")=some (.bool false):=A8 (by decide +kernel) (by decide +kernel) (by decide +kernel)
theorem B6:eqD (.str "screen") (.str "screen")=some (.bool true):=A8 (by decide +kernel) (by decide +kernel) (by decide +kernel)
theorem D1:eqD (.str "screen") (.str "plus")=some (.bool false):=A8 (by decide +kernel) (by decide +kernel) (by decide +kernel)
theorem D3:eqD (.str "screen") (.str "atop")=some (.bool false):=A8 (by decide +kernel) (by decide +kernel) (by decide +kernel)
theorem F0:eqD (.str "screen") (.str "cut")=some (.bool false):=A8 (by decide +kernel) (by decide +kernel) (by decide +kernel)
theorem J0:eqD (.str "plus") (.str "over")=some (.bool false):=A8 (by decide +kernel) (by decide +kernel) (by decide +kernel)
theorem M6:eqD (.str "plus") (.str "multiply")=some (.bool false):=A8 (by decide +kernel) (by decide +kernel) (by decide +kernel)
theorem D5:eqD (.str "plus") (.str "screen")=some (.bool false):=A8 (by decide +kernel) (by decide +kernel) (by decide +kernel)
theorem G9:eqD (.str "plus") (.str "plus")=some (.bool true):=A8 (by decide +kernel) (by decide +kernel) (by decide +kernel)
theorem J1:eqD (.str "plus") (.str "atop")=some (.bool false):=A8 (by decide +kernel) (by decide +kernel) (by decide +kernel)
theorem L0:eqD (.str "plus") (.str "cut")=some (.bool false):=A8 (by decide +kernel) (by decide +kernel) (by decide +kernel)
theorem J9:eqD (.str "atop") (.str "over")=some (.bool false):=A8 (by decide +kernel) (by decide +kernel) (by decide +kernel)
theorem N5:eqD (.str "atop") (.str "multiply")=some (.bool false):=A8 (by decide +kernel) (by decide +kernel) (by decide +kernel)
theorem D7:eqD (.str "atop") (.str "screen")=some (.bool false):=A8 (by decide +kernel) (by decide +kernel) (by decide +kernel)
theorem J8:eqD (.str "atop") (.str "plus")=some (.bool false):=A8 (by decide +kernel) (by decide +kernel) (by decide +kernel)
theorem K0:eqD (.str "atop") (.str "atop")=some (.bool true):=A8 (by decide +kernel) (by decide +kernel) (by decide +kernel)
theorem L6:eqD (.str "atop") (.str "cut")=some (.bool false):=A8 (by decide +kernel) (by decide +kernel) (by decide +kernel)
theorem L4:eqD (.str "cut") (.str "over")=some (.bool false):=A8 (by decide +kernel) (by decide +kernel) (by decide +kernel)
theorem P3:eqD (.str "cut") (.str "multiply")=some (.bool false):=A8 (by decide +kernel) (by decide +kernel) (by decide +kernel)
theorem F4:eqD (.str "cut") (.str "screen")=some (.bool false):=A8 (by decide +kernel) (by decide +kernel) (by decide +kernel)
theorem L3:eqD (.str "cut") (.str "plus")=some (.bool false):=A8 (by decide +kernel) (by decide +kernel) (by decide +kernel)
theorem L5:eqD (.str "cut") (.str "atop")=some (.bool false):=A8 (by decide +kernel) (by decide +kernel) (by decide +kernel)
theorem N4:eqD (.str "cut") (.str "cut")=some (.bool true):=A8 (by decide +kernel) (by decide +kernel) (by decide +kernel)
theorem G5:eqD (.str "turn") (.str "turn")=some (.bool true):=A8 (by decide +kernel) (by decide +kernel) (by decide +kernel)
theorem G6:eqD (.str "turn") (.str "grey")=some (.bool false):=A8 (by decide +kernel) (by decide +kernel) (by decide +kernel)
theorem E9:eqD (.str "turn") (.str "round")=some (.bool false):=A8 (by decide +kernel) (by decide +kernel) (by decide +kernel)
theorem J6:eqD (.str "grey") (.str "turn")=some (.bool false):=A8 (by decide +kernel) (by decide +kernel) (by decide +kernel)
theorem J7:eqD (.str "grey") (.str "grey")=some (.bool true):=A8 (by decide +kernel) (by decide +kernel) (by decide +kernel)
theorem F3:eqD (.str "grey") (.str "round")=some (.bool false):=A8 (by decide +kernel) (by decide +kernel) (by decide +kernel)
theorem F1:eqD (.str "round") (.str "turn")=some (.bool false):=A8 (by decide +kernel) (by decide +kernel) (by decide +kernel)
theorem F2:eqD (.str "round") (.str "grey")=some (.bool false):=A8 (by decide +kernel) (by decide +kernel) (by decide +kernel)
theorem D4:eqD (.str "round") (.str "round")=some (.bool true):=A8 (by decide +kernel) (by decide +kernel) (by decide +kernel)
theorem F8:neD (.str "turn") (.str "turn")=some (.bool false):=V6 (by decide +kernel) (by decide +kernel) (by decide +kernel)
theorem F9:neD (.str "turn") (.str "grey")=some (.bool true):=V6 (by decide +kernel) (by decide +kernel) (by decide +kernel)
theorem E5:neD (.str "turn") (.str "round")=some (.bool true):=V6 (by decide +kernel) (by decide +kernel) (by decide +kernel)
theorem G0:neD (.str "grey") (.str "turn")=some (.bool true):=V6 (by decide +kernel) (by decide +kernel) (by decide +kernel)
theorem G3:neD (.str "grey") (.str "grey")=some (.bool false):=V6 (by decide +kernel) (by decide +kernel) (by decide +kernel)
theorem E8:neD (.str "grey") (.str "round")=some (.bool true):=V6 (by decide +kernel) (by decide +kernel) (by decide +kernel)
theorem E6:neD (.str "round") (.str "turn")=some (.bool true):=V6 (by decide +kernel) (by decide +kernel) (by decide +kernel)
theorem E7:neD (.str "round") (.str "grey")=some (.bool true):=V6 (by decide +kernel) (by decide +kernel) (by decide +kernel)
theorem C9:neD (.str "round") (.str "round")=some (.bool false):=V6 (by decide +kernel) (by decide +kernel) (by decide +kernel)
inductive Man where
 | over|mult|screen|plus|atop|cut
def Man.s:Man->Str
 | .over => "over"
 | .mult => "multiply"
 | .screen => "screen"
 | .plus => "plus"
 | .atop => "atop"
 | .cut => "cut"
def aN2(r:Rat):Rat:=if r<=1 then r else 1
def Man.cov:Man->Rat->Rat->Rat
 | .plus,c,d=>aN2 (c+d)
 | .atop,c,d=>d
 | .cut,c,d=>d*(1 - c)
 | _,c,d=>c+d - c*d
def Man.col:Man->Rat->Rat->Rat->Rat->Rat
 | .over,c,d,x,y=>x+y*(1 - c)
 | .mult,c,d,x,y=>x*y+x*(1 - d)+y*(1 - c)
 | .screen,c,d,x,y=>x+y - x*y
 | .plus,c,d,x,y=>aN2 (x+y)
 | .atop,c,d,x,y=>x*d+y*(1 - c)
 | .cut,c,d,x,y=>y*(1 - c)
theorem aC8{k:Nat}{c:Rat}(h:IsSh k c):IsSh (k+1) (1 - c):=by
 have b:=Bd.one.sub h.bd h.le;rw[Nat.add_comm]at b;exact⟨b,by have:=h.bd.nn;grind⟩
theorem ar3{a b:Rat}(ha:0<=a)(hb:0<=b)(ha1:a<=1)(hb1:b<=1):a*b<=a+b:=by
 have:=Rat.mul_le_mul_of_nonneg_right ha1 hb
 grind
theorem bB2{k:Nat}{r:Rat}(h:Bd k r)(hk:1<=k):IsSh k (aN2 r):=by
 unfold aN2;split
 ·rename_i l;exact⟨h,l⟩
 ·exact⟨Bd.one.mono hk,Rat.le_refl⟩
theorem bC3(m:Man){k:Nat}{c d:Rat}(hc:IsSh k c)(hd:IsSh k d)(l:6*k+4<=8000):X5 [.str m.s,fr c,fr d]=some (fr (m.cov c d))/\Bd (6*k+4) (m.cov c d):=by
 have r1:=ak5 hc.bd (by grind) hc.le;have h1:=(aC8 hc);have ml:=ar3 hc.bd.nn hd.bd.nn hc.le hd.le;have e1:=V5 hc.bd hd.bd (by grind);have e2:=V1 hc.bd hd.bd (by grind);have b1:=hc.bd.add hd.bd;have b2:=hc.bd.mul hd.bd;have e3:=i5 b1 b2 (by grind) ml;have e4:=aO2 b1 (by grind);have e5:=V1 hd.bd h1.bd (by grind);cases m with
 | plus=>exact⟨B7 (ρ:=[‹.str "plus"›,‹fr c›,‹fr d›]) rfl (by wp_walk using evA,L8,J3,M7,D6,J2,J4,L1,M9,S2,J5,M8,N3,P2,D2,G7,B6,D1,D3,F0,J0,M6,D5,G9,J1,L0,J9,N5,D7,J8,K0,L6,L4,P3,F4,L3,L5,N4,G5,G6,E9,J6,J7,F3,F1,F2,D4,F8,F9,E5,G0,G3,E8,E6,E7,C9,e1,e4;rfl),(bB2 b1 (by grind)).bd.mono (by grind)⟩
 | atop=>exact⟨B7 (ρ:=[‹.str "atop"›,‹fr c›,‹fr d›]) rfl (by wp_walk using evA,L8,J3,M7,D6,J2,J4,L1,M9,S2,J5,M8,N3,P2,D2,G7,B6,D1,D3,F0,J0,M6,D5,G9,J1,L0,J9,N5,D7,J8,K0,L6,L4,P3,F4,L3,L5,N4,G5,G6,E9,J6,J7,F3,F1,F2,D4,F8,F9,E5,G0,G3,E8,E6,E7,C9;rfl),hd.bd.mono (by grind)⟩
 | cut=>exact⟨B7 (ρ:=[‹.str "cut"›,‹fr c›,‹fr d›]) rfl (by wp_walk using evA,L8,J3,M7,D6,J2,J4,L1,M9,S2,J5,M8,N3,P2,D2,G7,B6,D1,D3,F0,J0,M6,D5,G9,J1,L0,J9,N5,D7,J8,K0,L6,L4,P3,F4,L3,L5,N4,G5,G6,E9,J6,J7,F3,F1,F2,D4,F8,F9,E5,G0,G3,E8,E6,E7,C9,r1,e5;rfl),(hd.bd.mul h1.bd).mono (by grind)⟩
 | over=>exact⟨B7 (ρ:=[‹.str "over"›,‹fr c›,‹fr d›]) rfl (by wp_walk using evA,L8,J3,M7,D6,J2,J4,L1,M9,S2,J5,M8,N3,P2,D2,G7,B6,D1,D3,F0,J0,M6,D5,G9,J1,L0,J9,N5,D7,J8,K0,L6,L4,P3,F4,L3,L5,N4,G5,G6,E9,J6,J7,F3,F1,F2,D4,F8,F9,E5,G0,G3,E8,E6,E7,C9,e1,e2,e3;rfl),(b1.sub b2 ml).mono (by grind)⟩
 | mult=>exact⟨B7 (ρ:=[‹.str "multiply"›,‹fr c›,‹fr d›]) rfl (by wp_walk using evA,L8,J3,M7,D6,J2,J4,L1,M9,S2,J5,M8,N3,P2,D2,G7,B6,D1,D3,F0,J0,M6,D5,G9,J1,L0,J9,N5,D7,J8,K0,L6,L4,P3,F4,L3,L5,N4,G5,G6,E9,J6,J7,F3,F1,F2,D4,F8,F9,E5,G0,G3,E8,E6,E7,C9,e1,e2,e3;rfl),(b1.sub b2 ml).mono (by grind)⟩
 | screen=>exact⟨B7 (ρ:=[‹.str "screen"›,‹fr c›,‹fr d›]) rfl (by wp_walk using evA,L8,J3,M7,D6,J2,J4,L1,M9,S2,J5,M8,N3,P2,D2,G7,B6,D1,D3,F0,J0,M6,D5,G9,J1,L0,J9,N5,D7,J8,K0,L6,L4,P3,F4,L3,L5,N4,G5,G6,E9,J6,J7,F3,F1,F2,D4,F8,F9,E5,G0,G3,E8,E6,E7,C9,e1,e2,e3;rfl),(b1.sub b2 ml).mono (by grind)⟩
theorem au4(m:Man){k:Nat}{c d x y:Rat}(hc:IsSh k c)(hd:IsSh k d)(hx:IsSh k x)(hy:IsSh k y)(l:6*k+4<=8000):V4 [.str m.s,fr c,fr d,fr x,fr y]=some (fr (m.col c d x y))/\Bd (6*k+4) (m.col c d x y):=by
 have r1:=ak5 hc.bd (by grind) hc.le;have r2:=ak5 hd.bd (by grind) hd.le;have h1:=aC8 hc;have h2:=aC8 hd;have ml:=ar3 hx.bd.nn hy.bd.nn hx.le hy.le;have e1:=V5 hx.bd hy.bd (by grind);have e2:=V1 hx.bd hy.bd (by grind);have b1:=hx.bd.add hy.bd;have b2:=hx.bd.mul hy.bd;have e3:=i5 b1 b2 (by grind) ml;have e4:=aO2 b1 (by grind);have bt:=hy.bd.mul h1.bd;have et:=V1 hy.bd h1.bd (by grind);have e6:=V5 hx.bd bt (by grind);have bd:=hx.bd.mul h2.bd;have e7:=V1 hx.bd h2.bd (by grind);have b8:=b2.add bd;have e8:=V5 b2 bd (by grind);have e9:=V5 b8 bt (by grind);have b10:=hx.bd.mul hd.bd;have e10:=V1 hx.bd hd.bd (by grind);have e11:=V5 b10 bt (by grind);cases m with
 | plus=>exact⟨B7 (ρ:=[‹.str "plus"›,‹fr c›,‹fr d›,‹fr x›,‹fr y›,none]) rfl (by wp_walk using evA,K3,J3,M7,D6,J2,J4,L1,M9,S2,J5,M8,N3,P2,D2,G7,B6,D1,D3,F0,J0,M6,D5,G9,J1,L0,J9,N5,D7,J8,K0,L6,L4,P3,F4,L3,L5,N4,G5,G6,E9,J6,J7,F3,F1,F2,D4,F8,F9,E5,G0,G3,E8,E6,E7,C9,e1,e4;rfl),(bB2 b1 (by grind)).bd.mono (by grind)⟩
 | screen=>exact⟨B7 (ρ:=[‹.str "screen"›,‹fr c›,‹fr d›,‹fr x›,‹fr y›,none]) rfl (by wp_walk using evA,K3,J3,M7,D6,J2,J4,L1,M9,S2,J5,M8,N3,P2,D2,G7,B6,D1,D3,F0,J0,M6,D5,G9,J1,L0,J9,N5,D7,J8,K0,L6,L4,P3,F4,L3,L5,N4,G5,G6,E9,J6,J7,F3,F1,F2,D4,F8,F9,E5,G0,G3,E8,E6,E7,C9,e1,e2,e3;rfl),(b1.sub b2 ml).mono (by grind)⟩
 | over=>exact⟨B7 (ρ:=[‹.str "over"›,‹fr c›,‹fr d›,‹fr x›,‹fr y›,none]) rfl (by wp_walk using evA,K3,J3,M7,D6,J2,J4,L1,M9,S2,J5,M8,N3,P2,D2,G7,B6,D1,D3,F0,J0,M6,D5,G9,J1,L0,J9,N5,D7,J8,K0,L6,L4,P3,F4,L3,L5,N4,G5,G6,E9,J6,J7,F3,F1,F2,D4,F8,F9,E5,G0,G3,E8,E6,E7,C9,r1,et,e6;rfl),(hx.bd.add bt).mono (by grind)⟩
 | mult=>exact⟨B7 (ρ:=[‹.str "multiply"›,‹fr c›,‹fr d›,‹fr x›,‹fr y›,none]) rfl (by wp_walk using evA,K3,J3,M7,D6,J2,J4,L1,M9,S2,J5,M8,N3,P2,D2,G7,B6,D1,D3,F0,J0,M6,D5,G9,J1,L0,J9,N5,D7,J8,K0,L6,L4,P3,F4,L3,L5,N4,G5,G6,E9,J6,J7,F3,F1,F2,D4,F8,F9,E5,G0,G3,E8,E6,E7,C9,r1,r2,et,e2,e7,e8,e9;rfl),(b8.add bt).mono (by grind)⟩
 | atop=>exact⟨B7 (ρ:=[‹.str "atop"›,‹fr c›,‹fr d›,‹fr x›,‹fr y›,none]) rfl (by wp_walk using evA,K3,J3,M7,D6,J2,J4,L1,M9,S2,J5,M8,N3,P2,D2,G7,B6,D1,D3,F0,J0,M6,D5,G9,J1,L0,J9,N5,D7,J8,K0,L6,L4,P3,F4,L3,L5,N4,G5,G6,E9,J6,J7,F3,F1,F2,D4,F8,F9,E5,G0,G3,E8,E6,E7,C9,r1,et,e10,e11;rfl),(b10.add bt).mono (by grind)⟩
 | cut=>exact⟨B7 (ρ:=[‹.str "cut"›,‹fr c›,‹fr d›,‹fr x›,‹fr y›,none]) rfl (by wp_walk using evA,K3,J3,M7,D6,J2,J4,L1,M9,S2,J5,M8,N3,P2,D2,G7,B6,D1,D3,F0,J0,M6,D5,G9,J1,L0,J9,N5,D7,J8,K0,L6,L4,P3,F4,L3,L5,N4,G5,G6,E9,J6,J7,F3,F1,F2,D4,F8,F9,E5,G0,G3,E8,E6,E7,C9,r1,et;rfl),bt.mono (by grind)⟩
theorem cn5(m:Man){c d:Rat}(hc:0<=c)(hd:0<=d)(hc1:c<=1)(hd1:d<=1):m.cov c d<=1:=by
 have p:0<=(1 - c)*(1 - d):=Rat.mul_nonneg (by grind) (by grind);have q:d*(1 - c)<=1*(1 - c):=Rat.mul_le_mul_of_nonneg_right hd1 (by grind);cases m<;>simp only[Man.cov,aN2]<;>grind
theorem aS8(m:Man){c d x y:Rat}(hc:0<=c)(hd:0<=d)(hc1:c<=1)(hd1:d<=1)(hx:0<=x)(hy:0<=y)(xc:x<=c)(yd:y<=d):m.col c d x y<=m.cov c d:=by
 have q1:y*(1 - c)<=d*(1 - c):=Rat.mul_le_mul_of_nonneg_right yd (by grind);have q2:x*(y+1 - d)<=c*(y+1 - d):=Rat.mul_le_mul_of_nonneg_right xc (by grind);have q3:x*d<=c*d:=Rat.mul_le_mul_of_nonneg_right xc hd;have q4:(1 - c)*(1 - d)<=(1 - x)*(1 - d):=Rat.mul_le_mul_of_nonneg_right (by grind) (by grind);have q5:(1 - d)*(1 - x)<=(1 - y)*(1 - x):=Rat.mul_le_mul_of_nonneg_right (by grind) (by grind);cases m<;>simp only[Man.cov,Man.col,aN2]<;>grind
theorem cC5(a b c d e f:D):(List.zip [a,b,c] [d,e,f])=[(a,d),(b,e),(c,f)]:=rfl
theorem ln2(a b:D):([a,b]:List D).length=2:=rfl
theorem aT3(m:Man){k:Nat}{c x1 x2 x3 d y1 y2 y3:Rat}(S:Spot k c x1 x2 x3)(T:Spot k d y1 y2 y3)(l:6*k+4<=8000):
  l4 [.str m.s,sp c x1 x2 x3,sp d y1 y2 y3]=some (sp (m.cov c d) (m.col c d x1 y1) (m.col c d x2 y2) (m.col c d x3 y3))/\Spot (6*k+4) (m.cov c d) (m.col c d x1 y1) (m.col c d x2 y2) (m.col c d x3 y3):=by
 have s1:IsSh k x1:=⟨S.hx,Rat.le_trans S.xc S.hc.le⟩;have s2:IsSh k x2:=⟨S.hy,Rat.le_trans S.yc S.hc.le⟩;have s3:IsSh k x3:=⟨S.hz,Rat.le_trans S.zc S.hc.le⟩;have t1:IsSh k y1:=⟨T.hx,Rat.le_trans T.xc T.hc.le⟩;have t2:IsSh k y2:=⟨T.hy,Rat.le_trans T.yc T.hc.le⟩;have t3:IsSh k y3:=⟨T.hz,Rat.le_trans T.zc T.hc.le⟩;have a0:=bC3 m S.hc T.hc l;have a1:=au4 m S.hc T.hc s1 t1 l;have a2:=au4 m S.hc T.hc s2 t2 l;have a3:=au4 m S.hc T.hc s3 t3 l;refine⟨?_,⟨⟨a0.2,cn5 m S.hc.bd.nn T.hc.bd.nn S.hc.le T.hc.le⟩,a1.2,a2.2,a3.2,aS8 m S.hc.bd.nn T.hc.bd.nn S.hc.le T.hc.le S.hx.nn T.hx.nn S.xc T.xc,aS8 m S.hc.bd.nn T.hc.bd.nn S.hc.le T.hc.le S.hy.nn T.hy.nn S.yc T.yc,aS8 m S.hc.bd.nn T.hc.bd.nn S.hc.le T.hc.le S.hz.nn T.hz.nn S.zc T.zc⟩⟩;refine B7 (ρ:=[‹.str m.s›,‹sp c x1 x2 x3›,‹sp d y1 y2 y3›,none,none,none]) rfl ?_;have f3:∀a b c:D,([a,b,c]:List D).length<=16777216:=λa b c=>by show 3<=16777216;decide
 wp_walk using evA,aA7,sp,cC5,f3,ln2,a0.1,a1.1,a2.1,a3.1
end Sh
namespace Sh
open PySem G L2
inductive Rul where
 | turn|grey|round
end Sh
namespace Sh
open PySem G L2
end Sh
namespace Sh
open PySem G L2
theorem z3(a b c d e f:D):(List.zip [a,b,c] [d,e,f]).map (λ(x,y)=>PyData.tuple [x,y])=[.tuple [a,d],.tuple [b,e],.tuple [c,f]]:=rfl
end Sh
namespace Sh
open PySem G L2
structure Q4 where
 c:Rat
 x:Rat
 y:Rat
 z:Rat
def Q4.d(q:Q4):D:=sp q.c q.x q.y q.z
def Q4.ok(k:Nat)(q:Q4):Prop:=Spot k q.c q.x q.y q.z
def q0:Q4:=⟨0,0,0,0⟩
theorem Q4.ok.mono{j k:Nat}{q:Q4}(h:q.ok j)(l:j<=k):q.ok k:=Spot.mono h l
def Ly(n:Nat)(d:D):Prop:=dN d=true/\PyData.depth d<=n
theorem aT8{n:Nat}:∀xs:List D,(∀x∈xs,Ly n x)->PyData.canLayAll0 xs=true/\PyData.depthAll xs<=n
 | [],_=>⟨rfl,aW _⟩
 | x::xs,g=>by
  have a:=g x (aZ ..);have b:=aT8 xs λy hy=>g y (aj _ hy)
  refine⟨?_,?_⟩
  ·show(dN x&&PyData.canLayAll0 xs)=true;rw[a.1,b.1];rfl
  ·show max (PyData.depth x) (PyData.depthAll xs)<=n;have:=a.2;have:=b.2;grind
theorem Ly.tup{n:Nat}{xs:List D}(h:∀x∈xs,Ly n x):Ly (n+1) (.tuple xs):=⟨(aT8 xs h).1,Nat.succ_le_succ (aT8 xs h).2⟩
theorem Ly.int(n:Nat)(i:Int):Ly n (.int i):=⟨rfl,aW _⟩
theorem Ly.shaped{n:Nat}{d:D}(g:Ly n d)(hn:n<=64):dI d=true:=by
 unfold dI;rw[g.1,Bool.true_and];exact decide_eq_true (by have:=g.2;grind)
theorem Ly.q4(q:Q4)(n:Nat):Ly (n+2) q.d:=⟨rfl,by show 2<=n+2;grind⟩
theorem Ly.spots(l:List Q4)(n:Nat):Ly (n+3) (.tuple (l.map Q4.d)):=Ly.tup λx hx=>by
 obtain⟨q,_,rfl⟩:=bc.mp hx;exact Ly.q4 q n
theorem aY3{n:Nat}{d:D}(g:Ly n d)(hn:n<=64):neD d d=some (.bool false):=by
 unfold neD;rw[if_pos ⟨g.shaped hn,g.shaped hn⟩,SeqAt.eqv_refl d g.1];rfl
def shD(w h:Nat)(l:List Q4):D:=.tuple [.int w,.int h,.tuple (l.map Q4.d)]
theorem Ly.sheet(w h:Nat)(l:List Q4):Ly 4 (shD w h l):=Ly.tup λx hx=>by
 simp only[ax,aP,or_false]at hx;rcases hx with rfl|rfl|rfl
 ·exact Ly.int _ _
 ·exact Ly.int _ _
 ·exact Ly.spots l 0
structure ShOk (k:Nat) (w h:Nat) (l:List Q4):Prop where
 w1:1<=w
 w8:w<=8
 h1:1<=h
 h8:h<=8
 len:l.length=w*h
 ok:∀q∈l,q.ok k
theorem bV1{α:Type}{e:DE}{r:Rho}{h f:α->D}:∀(l:List α) (x:Option B),(∀a∈l,e (‹h a›::r)=some (f a))->aa0 (K5 0) K9 e (l.map h) (x::r)=some (l.map f)
 | [],_,_=>rfl
 | a::l,x,H=>by
  simp only[xmc,aa0,K5,xw0,xbs,K9,if_true,H a (aZ ..),bV1 l _ (λb hb=>H b (aj _ hb)),xms]
theorem bV0{α:Type}{e:DE}{r:Rho}{h1 h2 f:α->D}:∀(l:List α) (x y:Option B),(∀a∈l,e (‹h1 a›::‹h2 a›::r)=some (f a))->aa0 (d6 2 (O7 (K5 0) (O7 (K5 1) y8))) K9 e (l.map λa=>.tuple [h1 a,h2 a]) (x::y::r)=some (l.map f)
 | [],_,_,_=>rfl
 | a::l,x,y,H=>by
  have hl:([h1 a,h2 a]:List D).length=2:=rfl;simp only[xmc,aa0,d6,O7,y8,K5,hl,if_true,xw0,xw1,xbs,K9,if_true,H a (aZ ..),bV0 l _ _ (λb hb=>H b (aj _ hb)),xms]
theorem aa8{α:Type}{caps:List Nat}{src:Rho->Option (List D)}{e:DE}{ρ r:Rho}{l:List α}{h f:α->D}(hr:ak0 1 caps ρ=none::r)(hs:src ρ=some (l.map h))(hl:l.length<=1000)(H:∀a∈l,e (‹h a›::r)=some (f a)):
  G4 1 caps src (K5 0) K9 e ρ=some (l.map f):=by
 unfold G4;rw[hs,xbs,if_pos (by rw[ay];grind),hr,bV1 l _ H]
theorem cg6{α:Type}{caps:List Nat}{src:Rho->Option (List D)}{e:DE}{ρ r:Rho}{l:List α}{h1 h2 f:α->D}(hr:ak0 2 caps ρ=none::none::r)(hs:src ρ=some (l.map λa=>.tuple [h1 a,h2 a]))(hl:l.length<=1000)(H:∀a∈l,e (‹h1 a›::‹h2 a›::r)=some (f a)):
  G4 2 caps src (d6 2 (O7 (K5 0) (O7 (K5 1) y8))) K9 e ρ=some (l.map f):=by
 unfold G4;rw[hs,xbs,if_pos (by rw[ay];omega),hr,bV0 l _ _ H]
theorem an4{f:DE}{ρ:Rho}{n:Nat}(h:f ρ=some (.int n))(hn:n<=1000):X8 f ρ=some ((aU n).map λk:Nat=>dJ k):=by
 unfold X8;rw[h,xbs];show(if -(2 ^ 62)<=(n:Int)/\(n:Int) < 2 ^ 62 then some (m7 0 n) else none)=_;rw[if_pos ⟨by grind,by grind⟩];unfold m7
 congr 1
 have e:((n:Int) - 0).toNat=n:=by grind
 rw[e];apply bG;intro k _
 congr 1
 grind
theorem cg8{i j:Int}(h1:E4 i)(h2:E4 j):R6 (.int i) (.int j)=some (.int (i*j)):=Q7 h1 h2
theorem j4{i j:Nat}(h1:i<=1000)(h2:j<=1000):R6 (.int i) (.int j)=some (.int ((i*j:Nat):Int)):=by
 rw[cg8 (i7 (k:=10) (by grind) (by decide)) (i7 (k:=10) (by grind) (by decide)),aL]
theorem cm6{n:Nat}{i:Int}(h0:0<=i)(h1:i < n):ixN n i=some i.toNat:=by unfold ixN;rw[if_pos h0,if_pos h1]
def Man.bl(m:Man)(a b:Q4):Q4:=⟨m.cov a.c b.c,m.col a.c b.c a.x b.x,m.col a.c b.c a.y b.y,m.col a.c b.c a.z b.z⟩
theorem bB6(m:Man){k:Nat}{a b:Q4}(S:a.ok k)(T:b.ok k)(l:6*k+4<=8000):l4 [.str m.s,a.d,b.d]=some (m.bl a b).d/\(m.bl a b).ok (6*k+4):=aT3 m S T l
def blL(m:Man)(a b:List Q4):List Q4:=(a.zip b).map λp=>m.bl p.1 p.2
theorem cp9(a b:List Q4):((a.map Q4.d).zip (b.map Q4.d)).map (λ(x,y)=>PyData.tuple [x,y])=(a.zip b).map λp=>.tuple [p.1.d,p.2.d]:=by
 rw[List.zip_map,aY];rfl
theorem co2(m:Man){k w h:Nat}{a b:List Q4}(S:ShOk k w h a)(T:ShOk k w h b)(l:6*k+4<=8000):M2 [.str m.s,shD w h a,shD w h b]=some (shD w h (blL m a b))/\ShOk (6*k+4) w h (blL m a b):=by
 have wh:w*h<=64:=bI S.w8 S.h8;have hz:(a.zip b).length=w*h:=by rw[List.length_zip,S.len,T.len,Nat.min_self]
 refine⟨?_,S.w1,S.w8,S.h1,S.h8,by unfold blL;rw[ay,hz],λq hq=>?_⟩
 ·refine B7 (ρ:=[‹.str m.s›,‹shD w h a›,‹shD w h b›,none]) rfl ?_;have g:au9 (qE (dIx (B1 1) ⇑2)) (qE (dIx (B1 2) ⇑2)) [‹.str m.s›,‹shD w h a›,‹shD w h b›,none]=some (((a.map Q4.d).zip (b.map Q4.d)).map (λ(x,y)=>PyData.tuple [x,y])):=rfl
  have c:G4 2 [0] (au9 (qE (dIx (B1 1) ⇑2)) (qE (dIx (B1 2) ⇑2))) (d6 2 (O7 (K5 0) (O7 (K5 1) y8))) K9 (A3 l4 (A0 (A1 2) (A0 (A1 0) (A0 (A1 1) A2)))) [‹.str m.s›,‹shD w h a›,‹shD w h b›,none]=some ((blL m a b).map Q4.d):=by
   rw[cg6 (l:=a.zip b) (h1:=λp=>p.1.d) (h2:=λp=>p.2.d) (f:=λp=>(m.bl p.1 p.2).d) (r:=[‹.str m.s›]) rfl (by rw[g,cp9]) (by omega) ?_]
   ·unfold blL;rw[aY];rfl
   ·intro p hp;have pa:=S.ok p.1 (bu hp).1;have pb:=T.ok p.2 (bu hp).2
    wp_walk using evD,(bB6 m pa pb l).1
  have g0:∀v:Option B,dIx (B1 1) ⇑0 [‹.str m.s›,‹shD w h a›,‹shD w h b›,v]=some (.int w):=λ_=>rfl
  have g1:∀v:Option B,dIx (B1 1) ⇑1 [‹.str m.s›,‹shD w h a›,‹shD w h b›,v]=some (.int h):=λ_=>rfl
  simp only[k6,F7,af9,c,g0,g1,C5,p8,A0,A2,y9,B1,xw0,xw1,xms,xbs,xg0,xg1];rfl
 ·obtain⟨p,hp,rfl⟩:=bc.mp hq;exact(bB6 m (S.ok p.1 (bu hp).1) (T.ok p.2 (bu hp).2) l).2
end Sh
namespace Sh
open PySem G L2
abbrev scr(ns:List Int):D:=.list (ns.map dJ)
theorem j6(ns:List Int)(k m:Nat)(hn:ns.length<=63)(hk:k < 2 ^ 60)(hm:0 < m):∃n:Nat,B2 [scr ns,.int k,.int m]=some (.int n)/\n < m:=by
 have a:=ap5 ns k m hn hk (by grind);have b:=ao4 ns k m (by grind);refine⟨(ah0 ns k m).toNat,?_,by grind⟩;rw[a]
 congr 2
 grind
theorem Y4{h:D->D->Option D}{f g:DE}{ρ:Rho}{x y:D}(h1:f ρ=some x)(h2:g ρ=some y):A5 h f g ρ=h x y:=by unfold A5;rw[h1,xbs,h2,xbs]
theorem aq7{α:Type}(a:α):∀n:Nat,(aq n [a]).flatten=aq n a
 | 0=>rfl
 | n+1=>by rw[bv,bN,aq7 a n];rfl
theorem bs6{xs:List D}{n:Nat}(hn:n<=1000)(hx:xs.length<=1000):R6 (.list xs) (.int n)=some (.list (aq n xs).flatten):=by
 show(if 0<=(n:Int)/\(n:Int) < 1000000/\xs.length*((n:Int)).toNat<=16777216 then some (PyData.list (aq ((n:Int)).toNat xs).flatten) else none)=_;rw[ci,if_pos ⟨by omega,by omega,aC (bI hx hn) (by decide)⟩]
theorem cH3(a:D)(r:List D):ab0 (a::r) none (some 1)=[a]:=by
 unfold ab0;have h1:HT.sIx (a::r).length 0 none=0:=by simp[HT.sIx]
 have h2:HT.sIx (a::r).length (a::r).length (some 1)=1:=by simp only[HT.sIx,aO];first|omega|(simp;omega)|simp
 rw[h1,h2];rfl
theorem bb5(ns:List Int)(k:Nat)(hn:ns.length<=63)(hk:k < 2 ^ 30):∃q:Q4,U4 [scr ns,.int k]=some q.d/\q.ok 8:=by
 obtain⟨c,x,y,z,e,S⟩:=cp4 ns k hn hk;exact⟨⟨c,x,y,z⟩,e,S⟩
theorem bm7(ns:List Int)(at':Nat)(hn:ns.length<=63)(ha:at' < 2 ^ 20):∃f:Nat->Q4,∀k,k < 1000->U4 [scr ns,.int ((at'+12*k:Nat):Int)]=some (f k).d/\(f k).ok 8:=by
 refine⟨λk=>if h:k < 1000 then cO (bb5 ns (at'+12*k) hn (by grind)) else q0,λk hk=>?_⟩;simp only[dif_pos hk];exact cq (bb5 ns (at'+12*k) hn (by grind))
theorem al4{P:Q4->Prop}(ns:List Int)(at' w h:Nat)(hn:ns.length<=63)(ha:at' < 2 ^ 20)(w1:1<=w)(w8:w<=8)(h1:1<=h)(h8:h<=8)(hf:∃f:Nat->Q4,∀k,k < 1000->U4 [scr ns,.int ((at'+12*k:Nat):Int)]=some (f k).d/\P (f k)):∃l:List Q4,Q5 [scr ns,.int at',.int w,.int h]=some (shD w h l)/\l.length=w*h/\∀q∈l,P q:=by
 obtain⟨f,hf⟩:=hf;have wh:w*h<=64:=bI w8 h8;have wh1:1<=w*h:=bI w1 h1;obtain⟨t,et,ht⟩:=j6 ns (at'+7) 3 hn (by grind) (by decide);have et':B2 [scr ns,.int ((at':Int)+7),.int 3]=some (.int t):=by rw[← et];simp
 have c:G4 1 [0,1] (X8 (A5 R6 (A1 2) (A1 3))) (K5 0) K9 (A3 U4 (A0 (A1 1) (A0 (A5 L7 (A1 2) (A5 R6 ⇑12 (A1 0))) A2))) [‹scr ns›,‹.int at'›,‹.int w›,‹.int h›,none]=some ((aU (w*h)).map λk=>(f k).d):=by
  refine aa8 (l:=aU (w*h)) (h:=λk:Nat=>dJ k) (r:=[‹scr ns›,‹.int at'›]) rfl (an4 ?_ (by grind)) (by rw[List.length_range];grind) ?_
  ·exact j4 (by grind) (by grind)
  ·intro k hk;have hk:=cC.mp hk;have m12:R6 (.int 12) (.int k)=some (.int ((12*k:Nat):Int)):=j4 (i:=12) (by decide) (by grind);have e1:((at':Int)+((12*k:Nat):Int))=((at'+12*k:Nat):Int):=by grind
   wp_walk using evD,m12,e1,(hf k (by grind)).1
 have mwh:R6 (.int w) (.int h)=some (.int ((w*h:Nat):Int)):=j4 (by grind) (by grind)
 have cv:((t:Int)==0)=decide (t=0):=by cases t with
  | zero=>rfl
  | succ n=>rw[decide_eq_false (by grind)];exact beq_eq_false_iff_ne.mpr (by grind)
 obtain⟨n,en⟩:∃n,w*h=n+1:=⟨w*h - 1,by grind⟩;by_cases t0:t=0
 ·refine⟨aq (w*h) (f 0),?_,bK ..,λq hq=>by rw[(cF.mp hq).2];exact(hf 0 (by decide)).2⟩;refine B7 (ρ:=[‹scr ns›,‹.int at'›,‹.int w›,‹.int h›,none]) rfl ?_
  have hd:(aU (w*h)).map (λk=>(f k).d)=(f 0).d::(aU n).map (λk=>(f (k+1)).d):=by
   rw[en,List.range_succ_eq_map,xmc,aY];rfl
  rw[hd]at c
  have v:A5 R6 (av8 (A1 4) T7 (T6 ⇑1)) (A5 R6 (A1 2) (A1 3)) [‹scr ns›,‹.int at'›,‹.int w›,‹.int h›,‹.list ((f 0).d::(aU n).map (λk=>(f (k+1)).d))›]=some (.list (aq (w*h) (f 0).d)):=by
   have a1:av8 (A1 4) T7 (T6 ⇑1) [‹scr ns›,‹.int at'›,‹.int w›,‹.int h›,‹.list ((f 0).d::(aU n).map (λk=>(f (k+1)).d))›]=some (.list (ab0 ((f 0).d::(aU n).map (λk=>(f (k+1)).d)) none (some 1))):=rfl;have a2:A5 R6 (A1 2) (A1 3) [‹scr ns›,‹.int at'›,‹.int w›,‹.int h›,‹.list ((f 0).d::(aU n).map (λk=>(f (k+1)).d))›]=some (.int ((w*h:Nat):Int)):=(Y4 rfl rfl).trans mwh;rw[cH3]at a1;have a3:=bs6 (xs:=[(f 0).d]) (show w*h<=1000 by grind) (show 1<=1000 by decide);rw[aq7]at a3;exact(Y4 a1 a2).trans a3
  have t1:tB2 eqD (A3 B2 (A0 (A1 0) (A0 (A5 L7 (A1 1) ⇑7) (A0 ⇑3 A2)))) ⇑0 [‹scr ns›,‹.int at'›,‹.int w›,‹.int h›,‹.list ((f 0).d::(aU n).map (λk=>(f (k+1)).d))›]=some true:=by
   simp only[tB2,A5,A3,A0,A2,A1,dC,xms,xbs,xg0,xg1,ae7,et',bz3,cv,decide_eq_true t0,ab1]
  simp only[ak2,F7,af9,c,sIf,t1,P1,v,C5,p8,A0,A2,y9,B1,A1,xms,xbs,xw0,xw1,xg0,xg1,if_true,xft,if_false,shD,List.map_replicate]
 ·refine⟨(aU (w*h)).map f,?_,by rw[ay,List.length_range],λq hq=>by
   obtain⟨k,hk,rfl⟩:=bc.mp hq
   exact(hf k (by have:=cC.mp hk;grind)).2⟩
  refine B7 (ρ:=[‹scr ns›,‹.int at'›,‹.int w›,‹.int h›,none]) rfl ?_
  wp_walk using evD,ak2,c,et',cv,decide_eq_false t0,shD,aY
  rfl
theorem aD7(ns:List Int)(at' w h:Nat)(hn:ns.length<=63)(ha:at' < 2 ^ 20)(w1:1<=w)(w8:w<=8)(h1:1<=h)(h8:h<=8):∃l:List Q4,Q5 [scr ns,.int at',.int w,.int h]=some (shD w h l)/\ShOk 8 w h l:=by
 obtain⟨l,e,n,hl⟩:=al4 ns at' w h hn ha w1 w8 h1 h8 (bm7 ns at' hn ha);exact⟨l,e,w1,w8,h1,h8,n,hl⟩
theorem at5{α:Type}(f:α->Bool):∀l:List α,aG8 (l.map λa=>dL (f a))=some (l.all f)
 | []=>rfl
 | a::l=>by
  show(aG8 (l.map λa=>dL (f a))).map (λc=>f a&&c)=_;rw[at5 f l];rfl
theorem aL8{k w h:Nat}{l:List Q4}(S:ShOk k w h l)(hk:k+k<=8000):a9 [shD w h l]=some (.bool true):=by
 have sz:∀n:Nat,1<=n->n<=8->ac7 [.int n]=some (.bool true):=λn a b=>by
  refine B7 (ρ:=[‹.int n›]) rfl ?_;have w1:V3 [.int n]=some (.bool true):=rfl;have a':(1:Int)<=n:=by grind
  have b':(n:Int)<=8:=by grind
  wp_walk using evD,aA5,w1,a',b',decide_true
 have l3:((([.int w,.int h,.tuple (l.map Q4.d)]:List D).length:Nat):Int)=3:=rfl;have b3:((3:Int)==3)=true:=rfl;have w8:=S.w8;have h8:=S.h8;have wh:w*h<=64:=bI w8 h8
 have zz:af0 [shD w h l]=some (.bool true):=by
  refine B7 (ρ:=[‹shD w h l›]) rfl ?_
  wp_walk using evD,au0,shD,l3,b3,sz w S.w1 S.w8,sz h S.h1 S.h8
 have al:∀q:Option B,G4 1 [] (h9 (A1 1)) (K5 0) K9 (A3 ac6 (A0 (A1 0) A2)) [q,‹.tuple (l.map Q4.d)›]=some (l.map λx=>.bool true):=λq=>by
  refine aa8 (l:=l) (h:=Q4.d) (r:=[]) rfl rfl (by rw[S.len];grind) λx hx=>?_
  have:=bi1 (S.ok x hx) hk
  wp_walk using evD,Q4.d,this
 have mwh:R6 (.int w) (.int h)=some (.int ((w*h:Nat):Int)):=j4 (by grind) (by grind);have hb:((((l.map Q4.d).length:Nat):Int)==((w*h:Nat):Int))=true:=by rw[ay,S.len];simp
 have ab:aG8 (l.map λx=>.bool true)=some true:=by rw[at5 (λ_=>true)];simp
 refine B7 (ρ:=[‹shD w h l›,none]) rfl ?_;simp only[shD]at zz
 wp_walk using evD,au1,shD,zz,al,mwh,hb,ab
end Sh
namespace Sh
open PySem G L2
theorem q4:(4:Nat)<=16777216:=by decide
theorem q3:(3:Nat)<=16777216:=by decide
end Sh
namespace Sh
open PySem G L2
def Dv(N:Nat)(r:Rat):Prop:=∃z:Int,r*(N:Rat)=(z:Rat)
theorem Dv.add{N:Nat}{r s:Rat}(h:Dv N r)(g:Dv N s):Dv N (r+s):=by
 obtain⟨a,ha⟩:=h;obtain⟨b,hb⟩:=g;exact⟨a+b,by rw[Rat.add_mul,ha,hb,Rat.intCast_add]⟩
theorem Dv.sub{N:Nat}{r s:Rat}(h:Dv N r)(g:Dv N s):Dv N (r - s):=by
 obtain⟨a,ha⟩:=h;obtain⟨b,hb⟩:=g;exact⟨a - b,by rw[Rat.intCast_sub,← ha,← hb];grind⟩
theorem Dv.mul{M N:Nat}{r s:Rat}(h:Dv M r)(g:Dv N s):Dv (M*N) (r*s):=by
 obtain⟨a,ha⟩:=h;obtain⟨b,hb⟩:=g;exact⟨a*b,by rw[Rat.intCast_mul,← ha,← hb,Rat.natCast_mul];grind⟩
theorem Dv.int(N:Nat)(i:Int):Dv N (i:Rat):=⟨i*N,by rw[Rat.intCast_mul];rfl⟩
theorem Dv.one(N:Nat):Dv N 1:=Dv.int N 1
theorem Dv.right{N:Nat}{r:Rat}(h:Dv N r)(M:Nat):Dv (N*M) r:=by
 have:=h.mul (Dv.one M);rwa [Rat.mul_one]at this
theorem Dv.left{N:Nat}{r:Rat}(h:Dv N r)(M:Nat):Dv (M*N) r:=by
 have:=(Dv.one M).mul h;rwa [Rat.one_mul]at this
theorem Dv.comm{M N:Nat}{r:Rat}(h:Dv (M*N) r):Dv (N*M) r:=by rwa [cx]
theorem Dv.of(a:Int){N:Nat}(hN:0 < N):Dv N (mkRat a N):=by
 refine⟨a,?_⟩
 have hN':(N:Rat)≠0:=by
  intro h;have:N=0:=by exact_mod_cast h
  omega
 rw[Rat.mkRat_eq_div];exact Rat.div_mul_cancel hN'
theorem Dv.mk{N:Nat}{r:Rat}(hN:0 < N)(h:Dv N r)(h0:0<=r)(h1:r<=1):∃a:Nat,a<=N/\r=mkRat a N:=by
 obtain⟨z,hz⟩:=h;have hN':(0:Rat) < N:=by exact_mod_cast hN
 have z0:0<=z:=by
  have:(0:Rat)<=(z:Rat):=by rw[← hz];exact Rat.mul_nonneg h0 (Rat.le_of_lt hN')
  exact_mod_cast this
 have z1:z<=N:=by
  have:(z:Rat)<=(N:Rat):=by
   rw[← hz];have:=Rat.mul_le_mul_of_nonneg_right h1 (Rat.le_of_lt hN')
   rwa [Rat.one_mul]at this
  exact_mod_cast this
 refine⟨z.toNat,by omega,?_⟩;have e:((z.toNat:Nat):Int)=z:=by omega
 rw[Rat.mkRat_eq_div];have hne:(N:Rat)≠0:=λh=>by rw[h]at hN';exact absurd hN' (by decide)
 have e2:(((z.toNat:Nat):Int):Rat)=r*N:=by rw[e,hz]
 rw[e2];exact(Rat.mul_div_cancel hne).symm
theorem Dv.cap{N:Nat}{r:Rat}(h:Dv N r):Dv N (aN2 r):=by
 unfold aN2;split
 ·exact h
 ·exact Dv.one N
theorem Dv.cov(m:Man){M N:Nat}{c d:Rat}(hc:Dv M c)(hd:Dv N d):Dv (M*N) (m.cov c d):=by
 cases m
 case plus=>exact((hc.right N).add (hd.left M)).cap
 case atop=>exact hd.left M
 case cut=>exact(hd.mul ((Dv.one M).sub hc)).comm
 all_goals exact((hc.right N).add (hd.left M)).sub (hc.mul hd)
theorem Dv.col(m:Man){M N:Nat}{c d x y:Rat}(hc:Dv M c)(hd:Dv N d)(hx:Dv M x)(hy:Dv N y):Dv (M*N) (m.col c d x y):=by
 have r:=(hy.mul ((Dv.one M).sub hc)).comm;cases m
 case over=>exact(hx.right N).add r
 case mult=>exact((hx.mul hy).add (hx.mul ((Dv.one N).sub hd))).add r
 case screen=>exact((hx.right N).add (hy.left M)).sub (hx.mul hy)
 case plus=>exact((hx.right N).add (hy.left M)).cap
 case atop=>exact(hx.mul hd).add r
 case cut=>exact r
def Dn(k:Nat)(q:Q4):Prop:=∃N,0 < N/\N < 2 ^ k/\Dv N q.c/\Dv N q.x/\Dv N q.y/\Dv N q.z
theorem o8{a b j k:Nat}(h1:a < 2 ^ j)(h2:b < 2 ^ k):a*b < 2 ^ (j+k):=by
 rw[Nat.pow_add];exact Nat.mul_lt_mul'' h1 h2
theorem Dn.bl(m:Man){j k:Nat}{a b:Q4}(h:Dn j a)(g:Dn k b):Dn (j+k) (m.bl a b):=by
 obtain⟨M,m0,m1,hc,hx,hy,hz⟩:=h;obtain⟨N,n0,n1,gc,gx,gy,gz⟩:=g;exact⟨M*N,bF m0 n0,o8 m1 n1,hc.cov m gc,hc.col m gc hx gx,hc.col m gc hy gy,hc.col m gc hz gz⟩
theorem Dn.mono{j k:Nat}{q:Q4}(h:Dn j q)(l:j<=k):Dn k q:=by
 obtain⟨N,n0,n1,r⟩:=h;exact⟨N,n0,aA n1 (aT (by decide) l),r⟩
def Q4.or(q:Q4):Prop:=0<=q.x/\0<=q.y/\0<=q.z/\q.x<=q.c/\q.y<=q.c/\q.z<=q.c/\q.c<=1
theorem Q4.ok.or{k:Nat}{q:Q4}(h:q.ok k):q.or:=⟨h.hx.nn,h.hy.nn,h.hz.nn,h.xc,h.yc,h.zc,h.hc.le⟩
structure Dq (k:Nat) (q:Q4):Prop where
 o:q.or
 n:Dn k q
theorem aW2{k N:Nat}{r:Rat}(n0:0 < N)(n1:N < 2 ^ k)(d:Dv N r)(h0:0<=r)(h1:r<=1):IsSh k r:=by
 obtain⟨a,ha,e⟩:=d.mk n0 h0 h1;refine⟨?_,h1⟩;rw[e];exact Bd.of n0 (by omega) n1
theorem Dq.ok{k:Nat}{q:Q4}(h:Dq k q):q.ok k:=by
 obtain⟨⟨x0,y0,z0,xc,yc,zc,c1⟩,N,n0,n1,hc,hx,hy,hz⟩:=h;have c0:=Rat.le_trans x0 xc;exact⟨aW2 n0 n1 hc c0 c1,(aW2 n0 n1 hx x0 (Rat.le_trans xc c1)).bd,(aW2 n0 n1 hy y0 (Rat.le_trans yc c1)).bd,(aW2 n0 n1 hz z0 (Rat.le_trans zc c1)).bd,xc,yc,zc⟩
theorem Dq.mono{j k:Nat}{q:Q4}(h:Dq j q)(l:j<=k):Dq k q:=⟨h.o,h.n.mono l⟩
end Sh
namespace Sh
open PySem G L2
inductive Nd where
 | layer (nm:D) (m:Man) (s:Rat) (sh:Bool) (lf tp:Int) (mk:Option (List Rat)) (w h:Nat) (l:List Q4) (kb:Nat)
 | tone (nm:D) (r:Rul) (s:Rat) (sh:Bool)
 | group (nm:D) (m:Man) (s:Rat) (sh:Bool) (ns:List Nd)
end Sh
namespace Sh
open PySem G L2
end Sh
namespace Sh
open PySem G L2
theorem aq3{f g:DS}{ρ ρ':Rho}(h:f ρ=some (.nx ρ')):F7 f g ρ=g ρ':=by unfold F7;rw[h];rfl
theorem as6{α:Type}(x:α){n:Nat}{P:Nat->α->Prop}(h:∀j,j < n->∃a,P j a):∃f:Nat->α,∀j,j < n->P j (f j):=by
 refine⟨λj=>if hj:j < n then cO (h j hj) else x,λj hj=>?_⟩;simp only[dif_pos hj];exact cq (h j hj)
end Sh
namespace Sh
open PySem G L2
end Sh
namespace Sh
open PySem G L2
def same(a b:D):Bool:=@decide (a=b) (Classical.propDecidable _)
end Sh
namespace Sh
open PySem G L2
end Sh
namespace Sh
open PySem G L2
end Sh
namespace Sh
open PySem G L2
def Low(s:Str):Prop:=∀c∈s.cps.toList,97<=c/\c<=122
def Nm(d:D):Prop:=∃s:Str,d=.str s/\Low s/\1<=s.length/\s.length<=6
theorem ch0(c:Nat)(h1:97<=c)(h2:c<=122):inS false (.str ⟨#[c]⟩) (.str "abcdefghijklmnopqrstuvwxyz")=some (.bool true):=by
 have h:∀k:Fin 26,bf9 ⟨#[97+k.val]⟩ "abcdefghijklmnopqrstuvwxyz" = true:=by decide +kernel
 have:=h ⟨c - 97,by omega⟩;simp only[show 97+(c - 97)=c by omega]at this;show some (dL (bf9 ⟨#[c]⟩ "abcdefghijklmnopqrstuvwxyz"))=_;rw[this]
theorem aN4{α:Type}(l:List α):aG8 (l.map λ_=>dL true)=some true:=by rw[at5 (λ_=>true)];simp
theorem be5{d:D}(h:Nm d):k9 [d]=some (.bool true):=by
 obtain⟨s,rfl,lo,l1,l6⟩:=h
 have as:s.cps.all (· < 128)=true:=by
  rw[cG];intro c hc;have:=lo c (bZ.mpr hc);exact decide_eq_true (by grind)
 have ll:s.cps.toList.length=s.length:=by unfold Str.length;simp
 have al:G4 1 [] (bf7 (A1 0)) (K5 0) K9 (A5 (inS false) (A1 0) (dC (.str "abcdefghijklmnopqrstuvwxyz"))) [‹.str s›]=some (s.cps.toList.map λ_=>.bool true):=by
  refine aa8 (l:=s.cps.toList) (h:=λc=>.str ⟨#[c]⟩) (r:=[]) rfl ?_ (by grind) λc hc=>ch0 c (lo c hc).1 (lo c hc).2
  show(if s.cps.all (· < 128)=true then some (ax3 s) else none)=_;rw[if_pos as];rfl
 have z:s.length<=16777216:=by grind
 have a':(1:Int)<=s.length:=by grind
 have b':(s.length:Int)<=6:=by grind
 refine B7 (ρ:=[‹.str s›]) rfl ?_
 wp_walk using evD,aA6,ay9,if_pos z,al,aN4,a',b',decide_true
end Sh
namespace G
open PySem PySem.Spec PyProof.Rows L2
section
variable {X:Cx}{S:Sg}{c:Kx}
theorem M0{e:Expr}:JE X e dNo:=λρ d h=>by cases h
theorem bU1{e:Expr}:JQ X e qNo:=λρ t d h=>by cases h
theorem aL1{e:Expr}:JN X e aNo:=λρ d h=>by cases h
theorem ay3{e:Expr}:JT X e tNo:=λρ d h=>by cases h
theorem cy6{e:Expr}:JW X e tNo:=λρ d h=>by cases h
theorem aL3{e:Expr}:JG X e gNo:=by
 unfold JG PG
 intros
 rename_i h;obtain⟨d,ρ,ρ',H0,Hf,z,_⟩:=h;cases z
theorem cz4{es:List Expr}:JA X es aNo:=⟨λρ d h=>(nomatch h),λρ d h=>(nomatch h)⟩
theorem cj3{es:List Expr}:JTs X es tNo:=λpins s σ H Q I ⟨ρ,b,h,_⟩=>by cases h
theorem ac2(hu:X.A.units+64 < cLine):∀op:CmpOp,OpD X (dl op) (aS9 op)
 | .Lt=>cw3 | .LtE=>cw4 | .Gt=>cw5 | .GtE=>cw6 | .Eq=>bT0 hu | .NotEq=>bS8 hu | .Is=>bS9 | .IsNot | .In | .NotIn=>λ_ _ _ h=>nomatch h
theorem br2(hu:X.A.units+64 < cLine)(S:Sg)(c:Kx)(op:CmpOp)(b:Expr):OpD X (dl op) (opW S c op b):=by
 unfold opW;split
 ·split
  ·exact cf9
  ·exact be2
  ·exact ac2 hu _
 ·exact ac2 hu op
theorem ag7{f:Expr->DE}(h:∀e,JE X e (f e)):∀es,JA X es (evA f es)
 | []=>bx3
 | e::es=>by
  unfold evA;split
  ·rename_i p;exact aZ0 (h e) (ag7 h es) (B9 p es _)
  ·exact cz4
theorem aY9{f:Expr->DE}(h:∀e,JE X e (f e))(op:BoolOp)(pos:Pos):∀vs,JE X (.BoolOp op vs pos) (bP4 f op vs)
 | []=>M0
 | [a]=>cl3 (h a)
 | a::b::r=>by
  unfold bP4;cases op
  ·exact cm2 (h a) (aY9 h .And pos (b::r))
  ·exact M0
theorem aD8{f:Expr->DT}(h:∀e,JT X e (f e))(op:BoolOp)(pos:Pos):∀vs,JW X (.BoolOp op vs pos) (bz2 f op vs)
 | []=>cy6
 | [a]=>by cases op;exact bM7 (h a);exact cj1 (h a)
 | a::b::r=>by
  unfold bz2;cases op
  ·exact cj2 (h a) (aD8 h .And pos (b::r))
  ·exact cy5 (h a) (aD8 h .Or pos (b::r))
theorem ay4{f:Expr->DE}(h:∀e,JE X e (f e)):∀o,JO X o (evO f o)
 | none=>bN5
 | some e=>bN4 (h e)
theorem cj4{f:Expr->DT}(h:∀e,JT X e (f e)):∀l,JTs X l (aZ4 f l)
 | []=>aD9
 | [t]=>bM8 (h t)
 | _::_::_=>cj3
theorem bw3{f:Expr->DG}(h:∀e,JG X e (f e)):∀es,es.all pl=true->JGs X es (bP3 f es)
 | [],_=>bN7
 | e::es,p=>by
  simp only[aS,ah]at p;refine bw4 (h e) (bw3 h es p.2) ?_;have p1:=p.1;cases e<;>first|rfl|cases p1
theorem ba9{env:Env}:∀{es:List Expr},es.all pl=true->(dy es env).length=es.length/\(dy es env).findIdx? (·.1)=none
 | [],_=>⟨rfl,rfl⟩
 | e::es,p=>by
  simp only[aS,ah]at p;obtain⟨h1,h2⟩:=ba9 (env:=env) p.2;have p1:=p.1;have q:dy (e::es) env=(false,assign e env)::dy es env:=by cases e<;>first|rfl|cases p1
  rw[q];refine⟨by simp[h1],?_⟩;simp[List.findIdx?_cons,h2]
structure Sound (S:Sg) (r:Ev):Prop where
 e:∀{c X},Fit S c X->∀ex,JE X ex (r.e c ex)
 q:∀{c X},Fit S c X->∀ex,JQ X ex (r.q c ex)
 n:∀{c X},Fit S c X->∀ex,JN X ex (r.n c ex)
 t:∀{c X},Fit S c X->∀ex,JT X ex (r.t c ex)
 g:∀{c X},Fit S c X->∀ex,JG X ex (r.g c ex)
 b:∀{c X},Fit S c X->∀sts,JSs X sts (r.b c sts)
theorem Fit.hx(F:Fit S c X):∀e s,X.xe e s->False:=λe s h=>by rw[F.xe]at h;exact h
theorem Fit.po(F:Fit S c X):PassesOwn (dE X.prog X.w) X.A X.env X.xe:=by rw[F.xe];exact PassesOwn.never
theorem Fit.slot(F:Fit S c X){x:Str}{i:Nat}(h:Y1 x c.N=some i):X.N[i]? = some x:=by rw[F.N];exact aL5 h
theorem Fit.inner{tn:List Str}{caps:List Nat}{scope:Scope}{C:dX}{s0:dW}{H0:Hp}{ex:List dX}(F:Fit S c X)(hn:(G.inner c tn caps scope).N.Nodup):Fit S (G.inner c tn caps scope) (B4 X (G.inner c tn caps scope).N scope C s0 H0 ex) :=
 ⟨rfl,by show relabel scope X.env=rl scope c.sc;rw[← F.sc];rfl,hn,F.calm,rfl,F.units,(λh=>by cases h),F.fns,F.css,F.bls⟩
variable {r:Ev}
theorem bw2(R:Sound S r)(F:Fit S c X)(tg it:Expr):JI X tg it (evI S r c tg it):=by
 unfold evI;split
 ·rename_i x p a pos;split
  ·rename_i h;simp only[ah]at h;obtain⟨rfl,h1,h2⟩:=Q0 F h.1;exact bf4 h1 h2 (R.e F a) (B9 h.2 _ _)
  ·exact aR4 (R.e F _)
 ·rename_i x p a b pos;split
  ·rename_i h;simp only[ah]at h;obtain⟨rfl,h1,h2⟩:=Q0 F h.1.1.1;have ht:=h.1.1.2;cases tg<;>first|(exact ck7 h1 h2 (R.e F a) (R.e F b) (by rw[B9 h.1.2,B9 h.2];rfl) (B9 h.2 _ _))|(exact nomatch ht)
  ·exact aR4 (R.e F _)
 ·split
  ·exact ck8 (R.e F _)
  ·exact aR4 (R.e F _)
theorem aF8(R:Sound S r)(F:Fit S c X){elt tgt iter:Expr}{ifs:List Expr}{scope:Scope}{caps:List Nat}
  (h:(r9 c.N (G.inner c (K1 tgt) caps scope).N (K1 tgt).length caps c.sc scope&&o5 (G.inner c (K1 tgt) caps scope).N&&pl iter)=true) :
  CompSc X (G.inner c (K1 tgt) caps scope).N (K1 tgt).length caps scope/\JI X tgt iter (evI S r c tgt iter)/\(∀C s0 H0 ex,JG (B4 X (G.inner c (K1 tgt) caps scope).N scope C s0 H0 ex) tgt (r.g (G.inner c (K1 tgt) caps scope) tgt)) /\
  (∀C s0 H0 ex,JTs (B4 X (G.inner c (K1 tgt) caps scope).N scope C s0 H0 ex) ifs (aZ4 (r.t (G.inner c (K1 tgt) caps scope)) ifs))/\(∀C s0 H0 ex,JE (B4 X (G.inner c (K1 tgt) caps scope).N scope C s0 H0 ex) elt (r.e (G.inner c (K1 tgt) caps scope) elt)) /\
  ∀x,dz iter X.env x=pure x:=by
 simp only[ah]at h;obtain⟨⟨h1,h2⟩,h3⟩:=h;have hn:=i9 h2;exact⟨aj8 h1 F.N F.sc,bw2 R F tgt iter,λC s0 H0 ex=>R.g (F.inner hn) tgt,λC s0 H0 ex=>cj4 (R.t (F.inner hn)) ifs,λC s0 H0 ex=>R.e (F.inner hn) elt,an7 h3 _⟩
theorem cz0(R:Sound S r)(F:Fit S c X)(ex:Expr):JN X ex (evC S r c ex):=by
 unfold evC;split
 ·rename_i elt tgt iter ifs scope pos;dsimp only;split
  ·rename_i h;obtain⟨h1,h2,h3,h4,h5,h6⟩:=aF8 (ifs:=ifs) (elt:=elt) R F h;exact bN6 h1 F.hx h2 h3 h4 h5 F.calm h6
  ·exact aL1
 ·exact aL1
theorem bc0{x:Str}{T:String}(h:bZ4 x=some T):du x=some (.type T)/\x ≠ "__name__" /\ (x==("__debug__" : Str))=false:=by
 unfold bZ4 at h;split at h
 ·rename_i e;cases h;simp only[beq_iff_eq]at e;subst e;exact⟨bB9,by decide,by decide⟩
 ·split at h
  ·rename_i e;cases h;simp only[beq_iff_eq]at e;subst e;exact⟨bQ5,by decide,by decide⟩
  ·split at h
   ·rename_i e;cases h;simp only[beq_iff_eq]at e;subst e;exact⟨aT4,by decide,by decide⟩
   ·split at h
    ·rename_i e;cases h;simp only[beq_iff_eq]at e;subst e;exact⟨aN3,by decide,by decide⟩
    ·split at h
     ·rename_i e;cases h;simp only[beq_iff_eq]at e;subst e;exact⟨ba7,by decide,by decide⟩
     ·cases h
theorem N9(pos:Pos)(env:Env):∀{es:List Expr},es.all pl=true->(di es env).any (·.1)=false
 | [],_=>rfl
 | e::es,h=>by
  simp only[aS,ah]at h;rw[B9 h.1,bP,N9 pos env h.2];rfl
end
end G
namespace G
open PySem PySem.Spec PyProof.Rows L2
section
variable {X:Cx}{S:Sg}{c:Kx}{r:Ev}
theorem aV9(h:cb2 e=some t):∃p,e=.Slice t.1 t.2.1 t.2.2 p:=by
 cases e<;>first|(cases h;exact⟨_,rfl⟩)|cases h
theorem Q9(h:nmP e=some t):e=.Name t.1 t.2:=by
 cases e<;>first|(cases h;rfl)|cases h
theorem bC5(R:Sound S r)(F:Fit S c X)(a i:Expr)(pos:Pos):JE X (.Subscript a i pos) (bV7 r c a i):=by
 unfold bV7;split
 ·rename_i t ht;obtain⟨p,rfl⟩:=aV9 ht;obtain⟨lo,hi,st⟩:=t;cases st with
  | none =>
   dsimp only;split
   ·exact bw8 (R.e F _) (ay4 (R.e F) _) (ay4 (R.e F) _)
   ·exact cl2 (R.e F _) (ay4 (R.e F) _) (ay4 (R.e F) _)
  | some e=>exact M0
 ·split
  ·rename_i h;exact cz2 (R.q F _) (R.e F _) (bo4 h)
  ·exact M0
theorem bb7(R:Sound S r)(F:Fit S c X)(x:Str)(a:Expr)(p pos:Pos):JE X (.Call (.Name x p) [a] [] pos) (aO5 S r c x a):=by
 unfold aO5;split
 ·exact M0
 rename_i hp;have hp:pl a=true:=by simpa using hp
 have hs:=B9 hp [] X.env;split
 ·rename_i h;obtain⟨rfl,h1,h2⟩:=Q0 F h;split
  ·rename_i y py e ppos;split
   ·rename_i hy;simp only[ah]at hy;obtain⟨rfl,g1,g2⟩:=Q0 F hy.1;exact M0
   ·exact bw9 h1 h2 (R.q F _) hs
  ·split
   ·exact bN9 h1 h2 (R.e F a) hs
   ·exact bw9 h1 h2 (R.q F a) hs
 split
 ·rename_i h;obtain⟨rfl,h1,h2⟩:=Q0 F h;exact bN8 h1 h2 (R.q F a) hs
 split
 ·rename_i h;obtain⟨rfl,h1,h2⟩:=Q0 F h;exact cm3 h1 h2 (R.q F a) F.calm hs
 split
 ·rename_i h;obtain⟨rfl,h1,h2⟩:=Q0 F h;split;exact bO1 h1 h2 (R.e F a) hs;exact M0
 split
 ·rename_i h;obtain⟨rfl,h1,h2⟩:=Q0 F h;exact bw6 h1 h2 (R.e F a) hs
 exact M0
theorem bb6(R:Sound S r)(F:Fit S c X)(x:Str)(a b:Expr)(p pos:Pos):JE X (.Call (.Name x p) [a,b] [] pos) (aO4 S r c x a b):=by
 unfold aO4;split
 ·exact M0
 rename_i hp;have hp:pl a=true:=by simpa using hp
 split
 ·rename_i h;obtain⟨rfl,h1,h2⟩:=Q0 F h;split
  ·rename_i y py;split
   ·rename_i T hT;split
    ·rename_i hy;obtain⟨_,g1,g2⟩:=Q0 F hy;obtain⟨t1,t2,t3⟩:=bc0 hT;exact cl7 h1 h2 g1 g2 t1 (R.e F a) t2 t3 (B9 hp _ _) rfl rfl
    ·exact M0
   ·exact M0
  ·exact M0
 exact M0
theorem S0(pos:Pos):∀l:List (Bool×Sem dU),(backTo pos l).any (·.1)=l.any (·.1)
 | []=>rfl
 | (b,t)::r=>by
  have ih:=S0 pos r;unfold backTo at ih ⊢;rw[xmc,bP,bP,ih]
theorem bi3(R:Sound S r)(F:Fit S c X)(x:Str)(args:List Expr)(p pos:Pos):JE X (.Call (.Name x p) args [] pos) (bi4 S r c x args (.Call (.Name x p) args [] pos)):=by
 unfold bi4;split
 ·rename_i Fn n hl;split
  ·rename_i h;simp only[ah,beq_iff_eq]at h;obtain⟨⟨hg,hn⟩,hp⟩:=h;obtain⟨g1,g2⟩:=Y2 F hg;rcases F.fns _ _ _ hl with⟨k,f,fd,ps,hk,hr,hm,hkp,hb⟩|⟨hm,hb⟩
   case inr =>
    cases args with
    | nil=>cases hn;exact absurd hb.1 (bg _)
    | cons e es =>
     simp only[aS,ah]at hp;exact cz3 hb F.units g1 hm (ag7 (R.e F) (e::es)) hn g2 (B9 hp.1 _ _) ((S0 pos _).trans (N9 pos _ hp.2))
   cases args with
   | nil=>cases hn;exact bx2 hk hr g1 hm hkp hb g2
   | cons e es =>
    simp only[aS,ah]at hp;exact bO2 hk hr g1 hm hkp hb (ag7 (R.e F) (e::es)) hn g2 (B9 hp.1 _ _) ((S0 pos _).trans (N9 pos _ hp.2))
  ·exact M0
 ·split
  ·exact bb7 R F _ _ _ _
  ·exact bb6 R F _ _ _ _ _
  ·exact M0
theorem bW1(k:Const)(u:Nat)(pos:Pos):JE X (.Constant k u pos) (xCn k):=by
 unfold xCn;split
 ·exact cl5
 ·exact bU3
 ·exact cl8
 ·exact bw7
 ·exact M0
theorem bD1(R:Sound S r)(F:Fit S c X)(a:Expr)(op:Operator)(b:Expr)(pos:Pos):JE X (.BinOp a op b pos) (bW4 r c a op b):=by
 unfold bW4;split
 ·split
  ·exact aa9 br3 (R.e F _) (R.e F _)
  ·exact aa9 aY0 (R.e F _) (R.e F _)
 ·exact aa9 cf4 (R.e F _) (R.e F _)
 ·split
  ·exact aa9 aD0 (R.e F _) (R.e F _)
  ·exact aa9 bL8 (R.e F _) (R.e F _)
 ·exact aa9 cg0 (R.e F _) (R.e F _)
 ·exact aa9 cf7 (R.e F _) (R.e F _)
 ·exact aa9 cf5 (R.e F _) (R.e F _)
 ·exact M0
theorem bV6(R:Sound S r)(F:Fit S c X)(op:UnaryOp)(a:Expr)(pos:Pos):JE X (.UnaryOp op a pos) (xUn r c op a):=by
 unfold xUn;split
 ·exact cl6 (R.e F _)
 ·exact cl4 (R.e F _)
 ·exact M0
theorem bD0(R:Sound S r)(F:Fit S c X)(a:Expr)(ops:List CmpOp)(bs:List Expr)(pos:Pos):JE X (.Compare a ops bs pos) (bW2 S r c a ops bs):=by
 have hu:=F.units;unfold bW2;split
 ·split
  ·rename_i h;exact cm1 (br2 hu S c _ _) (R.e F _) (R.e F _) (an6 h _)
  ·exact M0
 ·split
  ·rename_i h;exact bx1 (ac2 hu _) (ac2 hu _) (R.e F _) (R.e F _) (R.e F _) (an6 h _)
  ·exact M0
 ·exact M0
theorem cb6(F:Fit S c X){a e:Expr}(h:rvA S c a=some e):∃p1 p2,a=.Call (.Name "reversed" p1) [e] [] p2/\Gl X "reversed" /\ X.mg "reversed" = none/\pl e=true:=by
 unfold rvA at h;split at h
 ·split at h
  ·rename_i b;cases h;simp only[ah]at b;obtain⟨rfl,h1,h2⟩:=Q0 F b.1;exact⟨_,_,rfl,h1,h2,b.2⟩
  ·cases h
 ·cases h
theorem bC9(R:Sound S r)(F:Fit S c X)(o:Expr)(m:Str)(apos cpos:Pos)(args:List Expr):JE X (.Call (.Attribute o m apos) args [] cpos) (bV9 S r c o m apos cpos args):=by
 unfold bV9;split
 ·split
  ·rename_i h;simp only[ah,beq_iff_eq]at h;obtain⟨⟨hn,hl⟩,hp⟩:=h;have hs:=B9 hp [] X.env;have hl:(apos.endLine==cpos.line)=true:=by simpa using hl
   unfold xTx;split
   ·rename_i hm;rw[beq_iff_eq]at hm;subst hm;split
    ·rename_i e he;obtain⟨p1,p2,rfl,h1,h2,h3⟩:=cb6 F he;exact bx0 F.calm h1 h2 (R.e F _) (R.q F _) (S6 hn _ _ _) hl (B9 h3 [] X.env)
    ·exact bO0 (R.e F _) (R.q F _) (S6 hn _ _ _) (by rw[hs];rfl) hl hs
   split
   ·rename_i hm;rw[beq_iff_eq]at hm;subst hm;exact bU2 PySem.F.slot_str_split PySem.F.type_str_split bs7 bx9 (R.e F _) (R.e F _) (S6 hn _ _ _) (by rw[hs];rfl) hl hs
   split
   ·rename_i hm;rw[beq_iff_eq]at hm;subst hm;exact bU2 PySem.F.slot_str_partition PySem.F.type_str_partition bM3 bO7 (R.e F _) (R.e F _) (S6 hn _ _ _) (by rw[hs];rfl) hl hs
   split
   ·rename_i hm;rw[beq_iff_eq]at hm;subst hm;exact cz1 (R.e F _) (R.e F _) (S6 hn _ _ _) (by rw[hs];rfl) hl hs
   exact M0
  ·exact M0
 ·exact M0
theorem bW3(R:Sound S r)(F:Fit S c X)(f:Expr)(args:List Expr)(kw:List dw)(pos:Pos):JE X (.Call f args kw pos) (xCl S r c f args kw pos):=by
 unfold xCl;split
 ·split
  ·exact bi3 R F _ _ _ _
  ·exact bC9 R F _ _ _ _ _
  ·exact M0
 ·exact M0
theorem cq6(R:Sound S r)(F:Fit S c X)(ex:Expr):JE X ex (xE S r c ex):=by
 cases ex
 case Constant=>exact bW1 _ _ _
 case Name x p =>
  unfold xE;dsimp only;split
  ·rename_i i h;split
   ·rename_i v;obtain⟨h1,h2,h3⟩:=S1 F v;exact cl0 i (F.slot h) h1 h2 h3
   ·exact M0
  ·split
   ·rename_i d hd;split
    ·rename_i g;obtain⟨u,k1,k2⟩:=F.css _ _ hd;obtain⟨g1,g2⟩:=Y2 F g;exact cm0 k1 g1 k2 g2
    ·exact M0
   ·exact M0
 case Tuple es _ _ =>
  unfold xE;dsimp only;split
  ·rename_i h;exact cl1 (ag7 (R.e F) _) h
  ·exact M0
 case List=>exact aL4 (R.n F _)
 case ListComp=>exact aL4 (R.n F _)
 case BinOp=>exact bD1 R F _ _ _ _
 case UnaryOp=>exact bV6 R F _ _ _
 case Compare=>exact bD0 R F _ _ _ _
 case BoolOp=>exact aY9 (R.e F) _ _ _
 case IfExp=>exact cl9 (R.t F _) (R.e F _) (R.e F _)
 case Subscript=>exact bC5 R F _ _ _
 case Call=>exact bW3 R F _ _ _ _
 all_goals exact M0
theorem cq3(R:Sound S r)(F:Fit S c X)(ex:Expr):JQ X ex (xQ r c ex):=by
 cases ex
 case Name x p =>
  unfold xQ;dsimp only;split
  ·rename_i i h;split
   ·rename_i v;obtain⟨h1,h2,h3⟩:=S1 F v;exact ck2 i (F.slot h) h1 h2 h3
   ·exact bU1
  ·exact bU0 (R.e F _)
 case List=>exact cy8 (R.n F _)
 case ListComp=>exact cy8 (R.n F _)
 all_goals exact bU0 (R.e F _)
theorem cq4(R:Sound S r)(F:Fit S c X)(ex:Expr):JN X ex (xN S r c ex):=by
 cases ex
 case List es p =>
  unfold xN;dsimp only;split
  ·rename_i h;exact ck3 (ag7 (R.e F) _) h
  ·exact aL1
 case ListComp=>exact cz0 R F _
 all_goals exact aL1
theorem cq1(R:Sound S r)(F:Fit S c X)(ex:Expr):JT X ex (xT S r c ex):=by
 have hu:=F.units
 have oth:∀e:Expr,JT X e (if plT e then W8 (r.e c e) else tNo):=λe=>by
  split
  ·rename_i h;exact cj5 (R.e F _) (bo5 h _)
  ·exact ay3
 cases ex
 case Compare a ops bs p =>
  unfold xT bR2;dsimp only;split
  ·split
   ·rename_i h;exact cj7 (br2 hu S c _ _) (R.e F _) (R.e F _) (an6 h _)
   ·exact ay3
  ·split
   ·rename_i h;exact bv2 (ac2 hu _) (ac2 hu _) (R.e F _) (R.e F _) (R.e F _) (an6 h _)
   ·exact ay3
  ·exact ay3
 case BoolOp=>exact bv1 (aD8 (R.t F) _ _ _)
 case UnaryOp op a p =>
  cases op
  case Not=>exact cj6 (R.t F _)
  all_goals exact ay3
 all_goals exact oth _
theorem cq5(R:Sound S r)(F:Fit S c X)(ex:Expr):JG X ex (xG r c ex):=by
 unfold xG;split
 ·split
  ·rename_i i h;split
   ·rename_i v;obtain⟨h1,h2⟩:=ag4 F v;exact aE0 i (by rw[F.N];exact F.nd) (F.slot h) h1 h2
   ·exact aL3
  ·exact aL3
 ·split
  ·rename_i h;obtain⟨h1,h2⟩:=ba9 (env:=X.env) h;exact ck9 (bw3 (R.g F) _ h) F.calm h1 h2
  ·exact aL3
 ·exact aL3
theorem aY5{st:Stmt}{f:DS}(h:∀ρ,f ρ=none):JS X st f:=λρ fl q=>by rw[h ρ]at q;cases q
theorem aG4(F:Fit S c X)(h:c.df=true):X.env.blockKind=.function:=by
 unfold Env.blockKind;rw[F.sc,(F.df h).2];rfl
theorem ac0(elt:Expr)(gens:List Comprehension)(sc:Scope)(pv p':Pos)(x:Str)(l:Nat)(env:Env):swapsWith (.ListComp elt gens sc pv) (some (.Name x p')) l env =
  pure (env.blockKind == .function&&env.kindOf x==some .local&&p'.line==pv.line && !(sc.names.any λ(n,k)=>n==x&&(k == .local || k == .cell))):=rfl
theorem aY6(R:Sound S r)(F:Fit S c X){x:Str}{p' pv p:Pos}{elt:Expr}{gens:List Comprehension}{sc:Scope}{i:Nat}(hi:Y1 x c.N=some i)(hl:(c.sc.names.lookup x==some .local)=true)
  (h:(c.df&&p'.line==pv.line && !(sc.names.any λ(n,k)=>n==x&&(k == .local || k == .cell)))=true) :
  JS X (.Assign [.Name x p'] (.ListComp elt gens sc pv) p) (bc9 i (evC S r c (.ListComp elt gens sc pv)))/\JS X (.Assign [.Name x p'] (.ListComp elt gens sc pv) p) (af9 i (evC S r c (.ListComp elt gens sc pv))):=by
 unfold evC;simp only[ah]at h;have hl':X.env.scope.names.lookup x=some .local:=by rw[F.sc];simpa using hl
 have hsw:swapsWith (.ListComp elt gens sc pv) (some (.Name x p')) p.line X.env=pure true:=by
  rw[ac0,aG4 F h.1.1,h.1.2,h.2];unfold Env.kindOf;rw[hl'];rfl
 split
 ·rename_i elt tgt iter ifs scope pos he;cases he;dsimp only;split
  ·rename_i hc;obtain⟨h1,h2,h3,h4,h5,h6⟩:=aF8 (ifs:=ifs) (elt:=elt) R F hc;exact⟨bN2 i (by rw[F.N];exact F.nd) h1 F.hx h2 h3 h4 h5 (F.slot hi) hl' hsw F.calm h6,bN3 i (by rw[F.N];exact F.nd) h1 F.hx h2 h3 h4 h5 (F.slot hi) hl' hsw F.calm h6⟩
  ·exact⟨aY5 λρ=>rfl,aY5 λρ=>rfl⟩
 ·exact⟨aY5 λρ=>rfl,aY5 λρ=>rfl⟩
theorem bD4(R:Sound S r)(F:Fit S c X)(x:Str)(p':Pos)(v:Expr)(p:Pos):JS X (.Assign [.Name x p'] v p) (bW6 S r c x p' v):=by
 have nd:X.N.Nodup:=by rw[F.N];exact F.nd
 unfold bW6;split
 ·exact C8
 ·rename_i i hi;split
  ·exact C8
  ·rename_i hlo;have hlo:aK7 c x=true:=by simpa using hlo
   obtain⟨l1,l2⟩:=ag4 F hlo;split
   ·rename_i elt gens sc pv;split
    ·rename_i hl;split
     ·rename_i h;split
      ·exact(aY6 R F hi hl h).1
      ·exact(aY6 R F hi hl h).2
     ·exact C8
    ·rename_i hl;refine bv5 i nd (R.e F _) (F.slot hi) l1 ?_ l2;rw[ac0]
     have:(X.env.kindOf x==some .local)=false:=by
      unfold Env.kindOf;rw[F.sc];simpa using hl
     rw[this,Bool.and_false];rfl
   ·split
    ·exact C8
    ·rename_i hc;have hc:isC v=false:=by simpa using hc
     split
     ·exact ck0 i nd (R.n F _) (F.slot hi) l1 (R5 hc _ _ _) l2
     ·exact bv5 i nd (R.e F _) (F.slot hi) l1 (R5 hc _ _ _) l2
theorem bG5(h:cs0 es=some t):es=[.Name t.1.1 t.1.2,.Name t.2.1 t.2.2]:=by
 match es,h with
 | [a,b],h =>
  obtain⟨x,h1,h⟩:=ae.mp h;obtain⟨y,h2,h⟩:=af.mp h;cases h;rw[Q9 h1,Q9 h2]
theorem bG4(h:cr9 e=some t):∃k p,e=.Tuple [t.1,t.2] k p:=by
 cases e with
 | Tuple es k p =>
  match es,h with
  | [a,b],h=>cases h;exact⟨k,p,rfl⟩
  | [],h=>cases h
  | [_],h=>cases h
  | _::_::_::_,h=>cases h
 | _=>cases h
def stB:Expr->Bool
 | .Starred ..=>true
 | _=>false
def swN(env:Env)(x y:Str)(px py:Pos):List Str:=[(x,px),(y,py)].filterMap λt=>if env.kindOf t.1==some .local&&t.2.line==px.line then some t.1 else none
theorem ct8(env:Env)(x y:Str)(px py pt p2:Pos)(kt k2:Nat)(a b:Expr):swappedStores [.Tuple [.Name x px,.Name y py] kt pt] (.Tuple [a,b] k2 p2) env =
  (if(env.blockKind != .function)=true then pure none else if([a,b].any stB)=true then pure none else if((swN env x y px py).length != 2 || (swN env x y px py).eraseDups.length != (swN env x y px py).length)=true then pure none
   else if([a,b].all (foldedForSure 8))=true then pure none else if([a,b].all (constantsAlone 8))=true then unsupported "assign.tuple-of-constant-expressions:order-of-the-stores" else pure (some (swN env x y px py))):=by rfl
theorem bo3(h:pl e=true):stB e=false:=by cases e<;>first|rfl|cases h
theorem ca4{env:Env}{x y:Str}{px py pt p2:Pos}{kt k2:Nat}{a b:Expr}(hk:env.blockKind=.function)(ha:pl a=true)(hb:pl b=true)(kx:env.kindOf x=some .local)(ky:env.kindOf y=some .local)(hl:px.line=py.line)(hxy:(x==y)=false)
  (hf:([a,b].all (foldedForSure 8))=false) (hc:([a,b].all (constantsAlone 8))=false):swappedStores [.Tuple [.Name x px,.Name y py] kt pt] (.Tuple [a,b] k2 p2) env=pure (some [x,y]):=by
 have hn:swN env x y px py=[x,y]:=by simp[swN,kx,ky,hl]
 have hyx:(y==x)=false:=by
  cases q:(y==x) with
  | false=>rfl
  | true=>simp only[beq_iff_eq]at q;subst q;simp at hxy
 have hd:([x,y]:List Str).eraseDups=[x,y]:=by simp[List.eraseDups,List.eraseDupsBy,List.eraseDupsBy.loop,hxy,hyx]
 rw[ct8,hk,hn,hd,hf,hc];simp[bo3 ha,bo3 hb]
theorem bD3(R:Sound S r)(F:Fit S c X)(es:List Expr)(kt:Nat)(pt:Pos)(v:Expr)(p:Pos):JS X (.Assign [.Tuple es kt pt] v p) (bW5 r c (.Tuple es kt pt) v es):=by
 have nd:X.N.Nodup:=by rw[F.N];exact F.nd
 unfold bW5;split
 ·rename_i x px y py ht;cases bG5 ht;split
  ·split
   ·rename_i a b hab;obtain⟨k2,p2,rfl⟩:=bG4 hab;split
    ·rename_i i hi;split
     ·rename_i j hj;split
      ·rename_i h;unfold cv4 at h;simp only[ah,bp,beq_iff_eq]at h;obtain⟨⟨⟨⟨⟨⟨⟨⟨hd,ha⟩,hb⟩,hxy⟩,hl⟩,hx⟩,hy⟩,hf⟩,hcs⟩:=h;have hx':X.env.scope.names.lookup x=some .local:=by rw[F.sc];exact hx
       have hy':X.env.scope.names.lookup y=some .local:=by rw[F.sc];exact hy
       have hne:i≠j:=λz=>by
        subst z;have:=(F.slot hi).symm.trans (F.slot hj);cases this;simp at hxy
       refine cj9 nd (ag7 (R.e F) [a,b]) ?_ hne (F.slot hi) (F.slot hj) hx' hy' F.calm rfl;exact ca4 (aG4 F hd) ha hb hx' hy' hl hxy hf hcs
      ·exact C8
     ·exact C8
    ·exact C8
   ·exact C8
  ·exact C8
 ·exact C8
theorem bD2(R:Sound S r)(F:Fit S c X)(tg v:Expr)(p:Pos):JS X (.Assign [tg] v p) (cq7 S r c tg v p):=by
 cases tg with
 | Name x p'=>exact bD4 R F x p' v p
 | Tuple es k q=>exact bD3 R F es k q v p
 | _=>exact C8
end
end G
namespace G
open PySem PySem.Spec PyProof.Rows L2
section
variable {X:Cx}{S:Sg}{c:Kx}{r:Ev}
theorem bC8(R:Sound S r)(F:Fit S c X)(x m:Str)(e:Expr)(p apos cpos pos:Pos)(hl:(apos.endLine==cpos.line)=true):JS X (.Expr (.Call (.Attribute (.Name x p) m apos) [e] [] cpos) pos) (bV8 r c x m e):=by
 unfold bV8;split
 ·exact C8
 ·rename_i i hi;split
  ·rename_i h;simp only[ah]at h;obtain⟨h1,h2,h3⟩:=S1 F h.1;have hs:=B9 h.2 [] X.env;split
   ·rename_i hm;simp only[beq_iff_eq]at hm;subst hm;exact ck1 i (R.e F e) (F.slot hi) h1 h2 h3 rfl (by rw[hs];rfl) hl hs rfl
   ·exact C8
  ·exact C8
theorem bW0(R:Sound S r)(F:Fit S c X)(e:Expr)(pos:Pos):JS X (.Expr e pos) (xEx r c e):=by
 unfold xEx;split
 ·split
  ·split
   ·split
    ·split
     ·rename_i h;exact bC8 R F _ _ _ _ _ _ _ h
     ·exact C8
    ·exact C8
   ·exact C8
  ·exact C8
 ·exact C8
theorem cq2(R:Sound S r)(F:Fit S c X)(st:Stmt):JS X st (xS S r c st):=by
 cases st
 case Return o p =>
  cases o
  ·exact C8
  ·exact cj8 (R.e F _)
 case If=>exact cy7 (R.t F _) (R.b F _) (R.b F _)
 case While t a o p =>
  cases o
  ·exact bv4 (R.t F _) (R.b F _) F.po
  ·exact C8
 case Assign ts v p =>
  unfold xS xAs;dsimp only;split
  ·exact bD2 R F _ _ _
  ·exact C8
 case Expr=>exact bW0 R F _ _
 case Pass=>exact bN1
 all_goals exact C8
theorem bz1(h:∀st,JS X st (f st)):∀sts,JSs X sts (evB f sts)
 | []=>bN0
 | [s]=>bM9 (h s)
 | s::t::Z4=>bv3 (h s) (bz1 h (t::Z4))
theorem af7(R:Sound S r):Sound S (step S r) :=
 ⟨λF=>cq6 R F,λF=>cq3 R F,λF=>cq4 R F,λF=>cq1 R F,λF=>cq5 R F,λF=>bz1 (cq2 R F)⟩
theorem ag8(S:Sg):∀n,Sound S (ev S n)
 | 0=>⟨λ_ _=>M0,λ_ _=>bU1,λ_ _=>aL1,λ_ _=>ay3,λ_ _=>aL3,λ_ _ ρ fl q=>by cases q⟩
 | n+1=>af7 (ag8 S n)
end
structure Fd where
 x:Str
 st:Stmt
 ps:List Str
 N:List Str
 own:List Nat:=[]
 tx:List Nat:=[]
 dx:List Nat:=[]
 old:Bool:=false
 fz:List (Nat×List Nat):=[]
 hc:List ((Nat×Nat)×List Nat):=[]
def fdm(x:Str)(st:Stmt)(n:Nat)(N:List Str)(old:Bool:=false):Fd:={ x,st,ps:=N.take n,N,old }
def Fd.c(d:Fd):Kx:={ N:=d.N,sc:=A9 d.st,df:=true,own:=d.own,cpt:=[],tx:=d.tx,dx:=d.dx,old:=d.old,fz:=d.fz,hc:=d.hc }
def Fd.okB(d:Fd):Bool:=let sc:=A9 d.st
 sc.kind == .function && !sc.isCoroutine && !sc.isGenerator&&o5 d.N&&d.N.take d.ps.length==d.ps&&(d.ps.all λx=>match sc.names.lookup x with|some .local=>true|some .cell=>true|_=>false)&&sc.names.all λy=>match y.2 with | .free=>false|_=>true
theorem Fd.sc{d:Fd}(h:d.okB=true):FnScope d.N d.ps (A9 d.st):=by
 unfold Fd.okB at h;simp only[ah,bp,beq_iff_eq,bB]at h;obtain⟨⟨⟨⟨⟨⟨h1,h2⟩,h3⟩,h4⟩,h5⟩,h6⟩,h7⟩:=h;refine⟨h1,h2,h3,i9 h4,h5,λx hx=>?_,λy hy e=>?_⟩
 ·have:=h6 x hx;split at this
  ·rename_i q;exact .inl q
  ·rename_i q;exact .inr q
  ·cases this
 ·have:=h7 y hy;rw[e]at this;cases this
def KF(K:ag)(x:Str)(st:Stmt):Prop:=∃(f:dX) (oc:dU) (od:Option dX) (sl:Array (Option dU)) (kV dc pm:dU) (an:Option dX) (cd ct:dU),
 aH K dn x=some (some (.ref f))/\K.lookup f=some ⟨oc,od,.func (bj x x (T8 st) (C4 st) (A9 st) .none kV dc pm an cd ct),sl⟩/\bR K cd x=true/\aF K (.ref f)=true
theorem cx9{K:ag}{x:Str}{st:Stmt}{f:dX}{oc:dU}{od:Option dX}{sl:Array (Option dU)}{kV dc pm:dU}{an:Option dX}{cd ct:dU}(a:aH K dn x=some (some (.ref f)))
  (l:K.lookup f=some ⟨oc,od,.func (bj x x (T8 st) (C4 st) (A9 st) .none kV dc pm an cd ct),sl⟩) (c:bR K cd x=true) (k:aF K (.ref f)=true):KF K x st:=⟨f,oc,od,sl,kV,dc,pm,an,cd,ct,a,l,c,k⟩
abbrev Tab:=List (Str×FnD×Nat)
section
variable {P:Program}{w:World}{K:PySem.W.Frag}{mg:Str->Option Value}{base:Heap}{cs:List (Str×D)}{bl:List Str}
structure Md (K:ag) (mg:Str->Option dU) (cs:List (Str×D)) (bl:List Str):Prop where
 ns:∀x v,aH K dn x=some (some v)->mg x=some v
 css:∀x d,cs.lookup x=some d->∃u,aN7 K d u/\mg x=some u
 bls:∀x,bl.contains x=true->mg x=none
def TOk(P:dq)(w:World)(K:ag)(mg:Str->Option dU)(base:Heap)(k:Nat)(tab:Tab):Prop:=∀x F n,tab.lookup x=some (F,n)->(∃(f:dX) (fd:dt) (ps:List Str),
 FnOk P w K mg base CX0 k f fd ps (spF K n F)/\mg x=some (.ref f)/\aF K (.ref f)=true/\M4 K fd ps [])\/(mg x=none/\cp6 x F n)
theorem TOk.nil:TOk P w K mg base 0 []:=λx F n h=>by cases h
theorem TOk.mono(T:TOk P w K mg base j tab)(h:j<=k):TOk P w K mg base k tab:=λx F n e =>
 (T x F n e).imp (λ⟨f,fd,ps,h1,h2,h3,h4⟩=>⟨f,fd,ps,h1.mono h,h2,h3,h4⟩) id
def UA:Nat->(List dU->Prop)->Prop
 | 0,P=>P []
 | n+1,P=>∀a,UA n λus=>P (a::us)
theorem ua:∀{n:Nat}{P:List dU->Prop},UA n P->∀us:List dU,us.length=n->P us
 | 0,_,h,[],_=>h
 | _+1,P,h,a::us,e=>ua (P:=λus=>P (a::us)) (h a) us (Nat.succ.inj e)
def Bd(d:Fd):Prop:=∀(kV doc pm:dU) (an:Option dX) (cdv ct:dU),UA d.ps.length λus=>bindArgs (bj d.x d.x (T8 d.st) (C4 d.st) (A9 d.st) .none kV doc pm an cdv ct) ⟨us,[]⟩=pure (d.ps.zip us)
def rd(tab:Tab)(cs:List (Str×D))(bl:List Str)(d:Fd):FnD:=M5 ((ev ⟨tab,cs,bl⟩ 99).b d.c (C4 d.st)) d.N.length
theorem cA2(M:Md K mg cs bl)(T:TOk P w K mg base k tab)(ok:d.okB=true)(Fn:Fun K d.x d.x d.st f fd):FnOk P w K mg base CX0 (k+1) f fd d.ps (spF K d.ps.length (rd tab cs bl d)):=by
 have Sc:=Fd.sc ok;refine bP1 (N:=d.N) Fn Sc λcdv A outer s H E hr=>(ag8 ⟨tab,cs,bl⟩ 99).b (c:=d.c) ?_ _
 refine⟨rfl,rfl,Sc.nd,rfl,rfl,hr.units,λ_=>⟨λ_=>rfl,Sc.kind⟩,λx F n h=>?_,M.css,M.bls⟩;exact(T x F n h).imp (λ⟨f',fd',ps,h1,h2,h3,h4⟩=>⟨k,f',fd',ps,h1,hr,h2,h3,h4⟩) id
theorem ar6{x:Str}{st:Stmt}(h:KF K x st)(M:Md K mg cs bl):∃(f:dX) (kV dc pm:dU) (an:Option dX) (cd ct:dU),Fun K x x st f (bj x x (T8 st) (C4 st) (A9 st) .none kV dc pm an cd ct)/\mg x=some (.ref f):=by
 obtain⟨f,oc,od,sl,kV,dc,pm,an,cd,ct,a,l,cc,kk⟩:=h;exact⟨f,kV,dc,pm,an,cd,ct,as5 l cc kk,M.ns _ _ a⟩
theorem TOk.cons{k:Nat}{tab:Tab}{x:Str}{F:FnD}{n:Nat}(T:TOk P w K mg base k tab)(h:∃(f:dX) (fd:dt) (ps:List Str),FnOk P w K mg base CX0 k f fd ps (spF K n F)/\mg x=some (.ref f)/\aF K (.ref f)=true/\M4 K fd ps []):
  TOk P w K mg base k ((x,F,n)::tab):=λy G m e=>by
 rw[aB]at e;split at e
 ·rename_i q;cases e;simp only[beq_iff_eq]at q;subst q;exact .inl h
 ·exact T y G m e
theorem TOk.add(T:TOk P w K mg base k tab)(M:Md K mg cs bl)(d:Fd)(h:KF K d.x d.st)(F:FnD)(e:rd tab cs bl d=F:=by kernel_rfl)(ok:d.okB=true:=by kernel_rfl)(bd:Bd d:=by repeat (first|exact rfl|intro _)):TOk P w K mg base (k+1) ((d.x,F,d.ps.length)::tab):=by
 subst e;obtain⟨f,kV,dc,pm,an,cd,ct,Fn,hm⟩:=ar6 h M;exact(T.mono (ce k)).cons ⟨f,_,d.ps,cA2 M T ok Fn,hm,Fn.kp,.all (ua (bd kV dc pm an cd ct))⟩
end
end G
namespace G
open PySem PySem.Spec PyProof.Rows L2
inductive Fv where
 | frz (d:D)
 | lst (ds:List D)
 | dic (m:List (D×D))
structure Fo where
 k:Bool
 l:List (Str×Fv)
abbrev CT:=Bool->dX
structure Chg (S:List dX) (H Hf H' Hf':Hp):Prop where
 big:∀b o,b∉S->H b=some o->H' b=some o
 kp:∀b,H b≠none->H' b≠none
 sub:B0 Hf' H'
 ext:B0 Hf Hf'
 new:∀b,Hf' b≠none->Hf b≠none\/H b=none
theorem an3{α:Type}{o:Option α}{x:α}(h:o=some x):o≠none:=by rw[h];exact λz=>by cases z
theorem aY2{α:Type}{o:Option α}(h:o≠none):∃x,o=some x:=by cases o with
 | none=>exact absurd rfl h
 | some x=>exact⟨x,rfl⟩
section
variable {K:PySem.W.Frag}{H H' H0 H1 H2 Hf Hf' Hf0 Hf1 Hf2:Hp}{S S' R:List Addr}{C:CT}{os:List (Addr×Fo)}{a:Addr}
theorem Chg.of(g:Grow H Hf H' Hf'):Chg S H Hf H' Hf':=⟨λb o _ e=>g.big b o e,λb h=>by obtain⟨x,e⟩:=aY2 h;exact an3 (g.big b x e),g.sub,g.ext,g.new⟩
theorem Chg.trans(a:Chg S H Hf H1 Hf1)(b:Chg S' H1 Hf1 H2 Hf2)(h:∀x∈S',x∈S\/H x=none):Chg S H Hf H2 Hf2 where
 big c o hc e:=b.big c o (λz=>(h c z).elim hc λn=>by rw[n]at e;cases e) (a.big c o hc e)
 kp c h:=b.kp c (a.kp c h)
 sub:=b.sub
 ext:=a.ext.trans b.ext
 new c h:=(b.new c h).elim (a.new c) λn=>.inr (aK λz=>a.kp c z n)
theorem Chg.grow(a:Chg [] H Hf H' Hf'):Grow H Hf H' Hf':=⟨λb o e=>a.big b o (by simp) e,a.sub,a.ext,a.new⟩
theorem Chg.wr(ss:B0 Hf H)(hx:x∈S)(hf:Hf x=none):Chg S H Hf (upd H x o) Hf where
 big b u hb e:=by rw[B3 (λz=>hb (by rw[z];exact hx))];exact e
 kp b h:=by
  by_cases q:b=x
  ·subst q;rw[A6];exact λz=>by cases z
  ·rw[B3 q];exact h
 sub b u e:=by rw[B3 (C6 e hf)];exact ss b u e
 ext:=B0.refl _
 new b h:=.inl h
structure Cel where
 dx:dX
 fs:List (Str×V)
 ps:List dX
abbrev cells(a:dX)(c:Cel):List dX:=a::c.ps
def FvA(K:ag)(H Hf:Hp):Fv->V->List dX->Prop
 | .frz d,v,ps=>ps=[]/\Rep K Hf d v
 | .lst ds,v,ps=>∃p vs,v=.ref p/\ps=[p]/\H p=some (.lst vs)/\Reps K Hf ds vs
 | .dic m,v,ps=>∃p kvs,v=.ref p/\ps=[p]/\H p=some (.dK kvs)/\RepKs K Hf m kvs
def Fds(K:ag)(H Hf:Hp):List (Str×Fv)->List (Str×V)->List dX->Prop
 | [],l,ps=>l=[]/\ps=[]
 | (x,f)::r,l,ps=>∃v t p qs,l=(x,v)::t/\ps=p++qs/\FvA K H Hf f v p/\(∀y∈p,y∉qs)/\Fds K H Hf r t qs
theorem FvA.kind(h:FvA K H Hf f v p):∀y∈p,(∃vs,H y=some (.lst vs))\/∃kvs,H y=some (.dK kvs):=by
 cases f with
 | frz d=>obtain⟨rfl,_⟩:=h;simp
 | lst ds=>obtain⟨q,vs,_,rfl,e,_⟩:=h;exact λy hy=>.inl ⟨vs,by rw[aM.mp hy];exact e⟩
 | dic m=>obtain⟨q,vs,_,rfl,e,_⟩:=h;exact λy hy=>.inr ⟨vs,by rw[aM.mp hy];exact e⟩
theorem FvA.keep(h:FvA K H Hf f v p)(k:∀y∈p,H' y=H y)(e:B0 Hf Hf'):FvA K H' Hf' f v p:=by
 cases f with
 | frz d=>exact⟨h.1,Rep.mono e h.2⟩
 | lst ds=>obtain⟨q,vs,h1,rfl,h3,h4⟩:=h;exact⟨q,vs,h1,rfl,by rw[k q (by simp)];exact h3,h4.mono e⟩
 | dic m=>obtain⟨q,vs,h1,rfl,h3,h4⟩:=h;exact⟨q,vs,h1,rfl,by rw[k q (by simp)];exact h3,h4.mono e⟩
theorem Fds.kind:∀{o:List (Str×Fv)}{l:List (Str×V)}{ps:List dX},Fds K H Hf o l ps->∀y∈ps,(∃vs,H y=some (.lst vs))\/∃kvs,H y=some (.dK kvs)
 | [],_,_,h=>by obtain⟨_,rfl⟩:=h;simp
 | (x,f)::r,_,_,⟨v,t,p,qs,_,h2,h3,_,h5⟩=>λy hy=>by
  subst h2;exact(aR.mp hy).elim (h3.kind y) (h5.kind y)
theorem Fds.keep(e:B0 Hf Hf'):∀{o:List (Str×Fv)}{l:List (Str×V)}{ps:List dX},Fds K H Hf o l ps->(∀y∈ps,H' y=H y)->Fds K H' Hf' o l ps
 | [],_,_,h,_=>h
 | (x,f)::r,_,_,⟨v,t,p,qs,h1,h2,h3,h4,h5⟩,k=>by
  subst h2;exact⟨v,t,p,qs,h1,rfl,h3.keep (λy hy=>k y (aI _ hy)) e,h4,h5.keep e λy hy=>k y (au _ hy)⟩
theorem Fds.len:∀{o:List (Str×Fv)}{l:List (Str×V)}{ps:List dX},Fds K H Hf o l ps->l.length=o.length
 | [],_,_,h=>by obtain⟨rfl,_⟩:=h;rfl
 | (x,f)::r,_,_,⟨v,t,p,qs,h1,_,_,_,h5⟩=>by subst h1;simp[h5.len]
theorem Fds.look{f:Str}:∀{o:List (Str×Fv)}{l:List (Str×V)}{ps:List dX},Fds K H Hf o l ps->(o.lookup f=none/\l.lookup f=none)\/∃w v p,o.lookup f=some w/\l.lookup f=some v/\FvA K H Hf w v p/\∀y∈p,y∈ps
 | [],_,_,h=>by obtain⟨rfl,_⟩:=h;exact .inl ⟨rfl,rfl⟩
 | (x,w)::r,_,_,⟨v,t,p,qs,h1,h2,h3,_,h5⟩=>by
  subst h1 h2;rw[aB,aB];cases f==x with
  | true=>exact .inr ⟨w,v,p,rfl,rfl,h3,λy hy=>aI _ hy⟩
  | false=>exact h5.look.imp id λ⟨w,v,p,a,b,c,d⟩=>⟨w,v,p,a,b,c,λy hy=>au _ (d y hy)⟩
def T3(f:Str)(w:Fv):List (Str×Fv)->List (Str×Fv)
 | []=>[(f,w)]
 | (g,x)::r=>if g=f then(g,w)::r else(g,x)::T3 f w r
theorem Fds.put{f:Str}{w:Fv}{v:V}{p':List dX}(q:FvA K H Hf w v p'):∀{o:List (Str×Fv)}{l:List (Str×V)}{ps:List dX},Fds K H Hf o l ps->(∀y∈p',y∉ps)->∃ps',Fds K H Hf (T3 f w o) (i8 f v l) ps'/\∀y∈ps',y∈p'\/y∈ps
 | [],_,_,h,_=>by obtain⟨rfl,rfl⟩:=h;exact⟨p'++[],⟨v,[],p',[],rfl,rfl,q,by simp,rfl,rfl⟩,λy hy=>.inl (by simpa using hy)⟩
 | (x,w0)::o,_,_,⟨v',t,p,qs,h1,h2,h3,h4,h5⟩,n=>by
  subst h1 h2;unfold T3 i8;split
  ·exact⟨p'++qs,⟨v,t,p',qs,rfl,rfl,q,λy hy z=>n y hy (au _ z),h5⟩,λy hy=>(aR.mp hy).imp id (au _)⟩
  ·obtain⟨ps',a,b⟩:=h5.put q λy hy z=>n y hy (au _ z)
   refine⟨p++ps',⟨v',_,p,ps',rfl,rfl,h3,λy hy z=>(b y z).elim (λz=>n y z (aI _ hy)) (h4 y hy),a⟩,λy hy=>?_⟩;rcases aR.mp hy with z|z
   ·exact .inr (aI _ z)
   ·exact(b y z).imp id (au _)
theorem Fds.wr{f:Str}{w:Fv}{y:dX}(k:∀z,z≠y->H' z=H z)(q:FvA K H' Hf w (.ref y) [y]):∀{o:List (Str×Fv)}{l:List (Str×V)}{ps:List dX},Fds K H Hf o l ps->(∃w0,o.lookup f=some w0/\FvA K H Hf w0 (.ref y) [y])->l.lookup f=some (.ref y)->Fds K H' Hf (T3 f w o) l ps
 | [],_,_,_,⟨_,e,_⟩,_=>by cases e
 | (x,w0)::o,_,_,⟨v',t,p,qs,h1,h2,h3,h4,h5⟩,⟨w1,e1,e2⟩,e3=>by
  subst h1 h2;unfold T3;rw[aB]at e1 e3;split
  ·rename_i z;subst z;rw[beq_self_eq_true]at e1 e3;cases e1;cases e3
   have:p=[y]:=by
    cases w0 with
    | frz d=>obtain⟨a,_⟩:=e2;cases a
    | lst ds=>obtain⟨p1,_,a1,a2,_⟩:=h3;cases a1;exact a2
    | dic m=>obtain⟨p1,_,a1,a2,_⟩:=h3;cases a1;exact a2
   subst this;exact⟨_,t,[y],qs,rfl,rfl,q,h4,h5.keep (B0.refl _) λz hz=>k z λe=>h4 y (by simp) (by rw[← e];exact hz)⟩
  ·rename_i z;rw[show(f==x)=false from beq_eq_false_iff_ne.mpr λe=>z e.symm]at e1 e3;dsimp only at e1 e3
   have hy:y∈qs:=by
    rcases h5.look (f:=f) with⟨a,_⟩|⟨w2,v2,p2,a1,a2,a3,a4⟩
    ·rw[e1]at a;cases a
    ·rw[e1]at a1;cases a1;rw[e3]at a2;cases a2;cases w1 with
     | frz d=>obtain⟨a,_⟩:=e2;cases a
     | lst ds=>obtain⟨p1,_,b1,b2,_⟩:=a3;cases b1;exact a4 y (by rw[b2];simp)
     | dic m=>obtain⟨p1,_,b1,b2,_⟩:=a3;cases b1;exact a4 y (by rw[b2];simp)
   exact⟨v',t,p,qs,rfl,rfl,h3.keep (λz hz=>k z λe=>h4 z hz (by rw[e];exact hy)) (B0.refl _),h4,h5.wr k q ⟨w1,e1,e2⟩ e3⟩
structure FoAt (K:ag) (C:CT) (H Hf:Hp) (a:dX) (c:Cel) (o:Fo):Prop where
 ins:H a=some (.ins (C o.k) c.dx c.fs)
 fl:Fds K H Hf o.l c.fs c.ps
 fr:∀x∈cells a c,Hf x=none
theorem FoAt.na(h:FoAt K C H Hf a c o):a∉c.ps:=λz=>by
 rcases h.fl.kind a z with⟨_,e⟩|⟨_,e⟩<;>(rw[h.ins]at e;cases e)
theorem FoAt.there(h:FoAt K C H Hf a c o):∀x∈cells a c,H x≠none:=λx hx=>by
 rcases ax.mp hx with rfl|hx
 ·exact an3 h.ins
 ·rcases h.fl.kind x hx with⟨_,e⟩|⟨_,e⟩<;>exact an3 e
theorem FoAt.chg(h:FoAt K C H Hf a c o)(g:Chg S H Hf H' Hf')(hs:∀x∈cells a c,x∉S):FoAt K C H' Hf' a c o:=by
 have th:=h.there;refine⟨g.big _ _ (hs _ (by simp)) h.ins,h.fl.keep g.ext λy hy=>?_,λx hx=>aK λz=>(g.new x z).elim (λq=>q (h.fr x hx)) (th x hx)⟩;obtain⟨u,e⟩:=aY2 (th y (aj _ hy));rw[e];exact g.big y u (hs y (aj _ hy)) e
theorem FvA.det(h:FvA K H Hf f v p)(g:FvA K H' Hf' f v p'):p=p':=by
 cases f with
 | frz d=>rw[h.1,g.1]
 | lst ds =>
  obtain⟨q,_,rfl,rfl,_⟩:=h;obtain⟨q',_,e,rfl,_⟩:=g;cases e;rfl
 | dic m =>
  obtain⟨q,_,rfl,rfl,_⟩:=h;obtain⟨q',_,e,rfl,_⟩:=g;cases e;rfl
theorem Fds.det:∀{o:List (Str×Fv)}{l:List (Str×V)}{p p':List dX},Fds K H Hf o l p->Fds K H' Hf' o l p'->p=p'
 | [],_,_,_,h,g=>by rw[h.2,g.2]
 | (x,f)::r,_,_,_,⟨v,t,a,b,h1,h2,h3,_,h5⟩,⟨v',t',a',b',g1,g2,g3,_,g5⟩=>by
  subst h1;cases g1;rw[h2,g2,h3.det g3,h5.det g5]
theorem FoAt.same{c c':Cel}{Hf':Hp}(f:FoAt K C H Hf a c o)(g:FoAt K C H Hf' a c' o):c=c':=by
 have e:=f.ins.symm.trans g.ins;obtain⟨d1,d2,d3⟩:=c;obtain⟨x1,x2,x3⟩:=c';cases e;cases f.fl.det g.fl;rfl
theorem FoAt.put(h:FoAt K C H Hf a c o)(q:FvA K H Hf w v p)(n:∀y∈p,y∉cells a c/\Hf y=none):∃ps',FoAt K C (upd H a (.ins (C o.k) c.dx (i8 f v c.fs))) Hf a ⟨c.dx,i8 f v c.fs,ps'⟩ ⟨o.k,T3 f w o.l⟩/\∀y∈ps',y∈p\/y∈c.ps:=by
 obtain⟨ps',r1,r2⟩:=h.fl.put q λy hy z=>(n y hy).1 (aj _ z)
 have na:a∉ps':=λz=>(r2 a z).elim (λz=>(n a z).1 (by simp)) h.na
 refine⟨ps',⟨A6,r1.keep (B0.refl _) λy hy=>B3 λe=>na (by rw[← e];exact hy),λx hx=>?_⟩,r2⟩;rcases ax.mp hx with rfl|hx
 ·exact h.fr x (by simp)
 ·exact(r2 x hx).elim (λz=>(n x z).2) λz=>h.fr x (aj _ z)
theorem FoAt.wr(h:FoAt K C H Hf a c o)(e:o.l.lookup f=some w0)(m:FvA K H Hf w0 (.ref y) [y])(l:c.fs.lookup f=some (.ref y))(hy:y∈c.ps)(q:FvA K (upd H y u) Hf w (.ref y) [y]):FoAt K C (upd H y u) Hf a c ⟨o.k,T3 f w o.l⟩ :=
 ⟨by rw[B3 λz=>h.na (by rw[z];exact hy)];exact h.ins,h.fl.wr (λz hz=>B3 hz) q ⟨w0,e,m⟩ l,h.fr⟩
theorem FoAt.grow(h:FoAt K C H Hf a c o)(g:Grow H Hf H' Hf'):FoAt K C H' Hf' a c o:=h.chg (S:=[]) (Chg.of g) λ_ _=>by simp
inductive Objs (K:ag) (C:CT) (H Hf:Hp):List (dX×Fo)->List dX->Prop
 | nil:Objs K C H Hf [] []
 | cons {a:dX}{c:Cel}{o:Fo}{os:List (dX×Fo)}{R:List dX}:FoAt K C H Hf a c o->(∀x∈cells a c,x∉R)->Objs K C H Hf os R->Objs K C H Hf ((a,o)::os) (cells a c++R)
theorem Objs.there(h:Objs K C H Hf os R):∀x∈R,H x≠none:=by
 induction h with
 | nil=>exact λ_ h=>nomatch h
 | cons f d t ih =>
  intro x hx;rcases aR.mp hx with hx|hx
  ·exact f.there x hx
  ·exact ih x hx
theorem Objs.chg(h:Objs K C H Hf os R)(g:Chg S H Hf H' Hf')(hs:∀x∈R,x∉S):Objs K C H' Hf' os R:=by
 induction h with
 | nil=>exact .nil
 | cons f d t ih=>exact .cons (f.chg g λx hx=>hs x (aI _ hx)) d (ih λx hx=>hs x (au _ hx))
theorem Objs.focus(h:Objs K C H Hf os R):∀{j:Nat}{a:dX}{o:Fo},os[j]? = some (a,o)->∃c,FoAt K C H Hf a c o/\(∀x∈cells a c,x∈R) /\
  ∀{H' Hf':Hp}{c':Cel}{o':Fo},Chg (cells a c) H Hf H' Hf'->FoAt K C H' Hf' a c' o'->(∀x∈cells a c',x∈cells a c\/H x=none)->∃R',Objs K C H' Hf' (os.set j (a,o')) R'/\∀x∈R',(x∈R/\x∉cells a c)\/x∈cells a c':=by
 induction h with
 | nil=>intro j a o e;simp at e
 | @cons a0 c0 o0 os0 R0 f d t ih =>
  intro j a o e;cases j with
  | zero =>
   simp at e;obtain⟨rfl,rfl⟩:=e;refine⟨c0,f,λx hx=>aI _ hx,λ{H' Hf' c' o'} g f' n=>⟨cells a0 c'++R0,.cons f' (λx hx hr=>?_) (t.chg g λx hx z=>d x z hx),λx hx=>?_⟩⟩
   ·rcases n x hx with z|z
    ·exact d x z hr
    ·exact t.there x hr z
   ·rcases aR.mp hx with hx|hx
    ·exact .inr hx
    ·exact .inl ⟨au _ hx,λz=>d x z hx⟩
  | succ j =>
   obtain⟨c,f1,f2,f3⟩:=ih (j:=j) (a:=a) (o:=o) (by simpa using e);refine⟨c,f1,λx hx=>au _ (f2 x hx),λ{H' Hf' c' o'} g f' n=>?_⟩;obtain⟨R',r1,r2⟩:=f3 g f' n;have dis:∀x∈cells a0 c0,x∉cells a c:=λx hx z=>d x hx (f2 x z)
   refine⟨cells a0 c0++R',.cons (f.chg g dis) (λx hx hr=>?_) r1,λx hx=>?_⟩
   ·rcases r2 x hr with z|z
    ·exact d x hx z.1
    ·exact(n x z).elim (dis x hx) (f.there x hx)
   ·rcases aR.mp hx with hx|hx
    ·exact .inl ⟨aI _ hx,dis x hx⟩
    ·exact(r2 x hx).imp (λz=>⟨au _ z.1,z.2⟩) id
theorem Objs.snoc(h:Objs K C H Hf os R)(f:FoAt K C H Hf a c o)(d:∀x∈cells a c,x∉R):∃R',Objs K C H Hf (os++[(a,o)]) R'/\∀x∈R',x∈R\/x∈cells a c:=by
 induction h with
 | nil=>exact⟨cells a c++[],.cons f (by simp) .nil,λx hx=>.inr (by simpa using hx)⟩
 | @cons a0 c0 o0 os0 R0 f0 d0 t ih =>
  obtain⟨R',r1,r2⟩:=ih λx hx=>λz=>d x hx (au _ z)
  refine⟨cells a0 c0++R',.cons f0 (λx hx hr=>?_) r1,λx hx=>?_⟩
  ·rcases r2 x hr with z|z
   ·exact d0 x hx z
   ·exact d x z (aI _ hx)
  ·rcases aR.mp hx with hx|hx
   ·exact .inl (aI _ hx)
   ·exact(r2 x hx).imp (au _) id
end
structure Bs where
 S:List dX
 H:Hp
 Hf:Hp
def hid(b:Bs)(R:List dX):Hp:=λx=>if x∈R then some (.lst []) else b.H x
structure OSt (K:ag) (C:CT) (b:Bs) (ρ:Rho) (os:List (dX×Fo)) (σ:L2.St) (H Hf:Hp):Prop where
 gr:Chg b.S b.H b.Hf H Hf
 ob:∃R,Objs K C H Hf os R/\(∀x∈R,x∈b.S\/b.H x=none)/\Slots K (hid b R) ρ σ H Hf
section
variable {K:PySem.W.Frag}{C:CT}{b:Bs}{ρ:Rho}{os:List (Addr×Fo)}{σ:L2.St}{H Hf H' Hf':Hp}
def ax9(_:Rho):Bool:=true
theorem W4(h:hid b R x=none):x∉R/\b.H x=none:=by
 unfold hid at h;split at h
 ·cases h
 ·rename_i n;exact⟨n,h⟩
theorem aR8(h1:x∉R)(h2:b.H x=none):hid b R x=none:=by unfold hid;rw[if_neg h1];exact h2
theorem Slots.chg{H0 H0':Hp}{S:List dX}(s:Slots K H0 ρ σ H Hf)(g:Chg S H Hf H' Hf')(hS:∀x∈S,H0 x=none->H x=none)(hH:∀x,H0 x=none->H x≠none->H0' x=none):Slots K H0' ρ σ H' Hf':=by
 refine⟨s.len,λi b e=>?_,s.apart⟩;obtain⟨v,h1,h2⟩:=s.is i b e;refine⟨v,h1,?_⟩;cases b with
 | val d=>exact Rep.mono g.ext h2
 | exc C =>
  obtain⟨a,o,C,e,h1,h2⟩:=h2;exact⟨a,o,C,e,g.ext _ _ h1,h2⟩
 | opq _=>exact h2
 | own ds =>
  obtain⟨a,us,e,e1,e2,e3,e4⟩:=h2;have nS:a∉S:=λz=>by rw[hS a z e3]at e1;cases e1
  have nf:Hf' a=none:=aK λz=>(g.new a z).elim (λq=>q e2) λq=>by rw[q]at e1;cases e1
  exact⟨a,us,e,g.big a _ nS e1,nf,hH a e3 (an3 e1),e4.mono g.ext⟩
def OSt.R(s:OSt K C b ρ os σ H Hf):List dX:=s.ob.choose
theorem OSt.obs(s:OSt K C b ρ os σ H Hf):Objs K C H Hf os s.R/\∀x∈s.R,x∈b.S\/b.H x=none:=⟨s.ob.choose_spec.1,s.ob.choose_spec.2.1⟩
theorem OSt.sl(s:OSt K C b ρ os σ H Hf):Slots K (hid b s.R) ρ σ H Hf:=s.ob.choose_spec.2.2
theorem OSt.slots{ρ':Rho}{σ':L2.St}(s:OSt K C b ρ os σ H Hf)(sl:Slots K (hid b s.R) ρ' σ' H Hf):OSt K C b ρ' os σ' H Hf:=⟨s.gr,s.R,s.obs.1,s.obs.2,sl⟩
theorem OSt.same(s:OSt K C b ρ os σ H Hf):B0 Hf H:=s.gr.sub
theorem OSt.grow(s:OSt K C b ρ os σ H Hf)(g:Grow H Hf H' Hf'):OSt K C b ρ os σ H' Hf':=by
 obtain⟨R,r1,r2,r3⟩:=s.ob;exact⟨s.gr.trans (S':=[]) (Chg.of g) (by simp),R,r1.chg (S:=[]) (Chg.of g) (by simp),r2,r3.grow g⟩
theorem OSt.focusN(s:OSt K C b ρ os σ H Hf)(e:os[j]? = some (a,o)):∃c,FoAt K C H Hf a c o /\
  ∀{H' Hf':Hp}{c':Cel}{o':Fo},Chg (cells a c) H Hf H' Hf'->FoAt K C H' Hf' a c' o'->(∀x∈cells a c',x∈cells a c\/H x=none)->OSt K C b ρ (os.set j (a,o')) σ H' Hf' /\
   ∀{a2:dX}{c2:Cel}{o2:Fo},FoAt K C H' Hf' a2 c2 o2->(∀y∈cells a2 c2,(y∈cells a c\/H y=none)/\y∉cells a c')->OSt K C b ρ (os.set j (a,o')++[(a2,o2)]) σ H' Hf':=by
 obtain⟨R,r1,r2,r3⟩:=s.ob;obtain⟨c,f1,f2,f3⟩:=r1.focus e;refine⟨c,f1,λ{H' Hf' c' o'} g f' nn=>?_⟩;obtain⟨R',q1,q2⟩:=f3 g f' nn;have q3:∀x∈R',x∈R\/H x=none:=λx hx=>(q2 x hx).elim (λz=>.inl z.1) λz=>(nn x z).imp (f2 x) id
 have old:∀x,x∈R\/H x=none->x∈b.S\/b.H x=none:=λx h=>h.elim (r2 x) λz=>.inr (aK λq=>s.gr.kp x q z)
 have gr:=s.gr.trans g λx hx=>r2 x (f2 x hx)
 have sl:∀R2:List dX,(∀x∈R2,x∈R\/H x=none)->Slots K (hid b R2) ρ σ H' Hf':=λR2 h2=>r3.chg g (λx hx h=>((W4 h).1 (f2 x hx)).elim) λx h hx=>by
  obtain⟨h1,h3⟩:=W4 h;exact aR8 (λz=>(h2 x z).elim h1 hx) h3
 refine⟨⟨gr,R',q1,λx hx=>old x (q3 x hx),sl R' q3⟩,λ{a2 c2 o2} fo fr=>?_⟩;obtain⟨R2,p1,p2⟩:=q1.snoc fo λy hy z=>(q2 y z).elim (λw=>(fr y hy).1.elim w.2 (r1.there y w.1)) (fr y hy).2
 have p3:∀x∈R2,x∈R\/H x=none:=λx hx=>(p2 x hx).elim (q3 x) λz=>(fr x z).1.imp (f2 x) id
 exact⟨gr,R2,p1,λx hx=>old x (p3 x hx),sl R2 p3⟩
theorem OSt.focus(s:OSt K C b ρ os σ H Hf)(n:ax9 ρ=true)(e:os[j]? = some (a,o)):∃c,FoAt K C H Hf a c o /\
  ∀{H' Hf':Hp}{c':Cel}{o':Fo},Chg (cells a c) H Hf H' Hf'->FoAt K C H' Hf' a c' o'->(∀x∈cells a c',x∈cells a c\/H x=none)->OSt K C b ρ (os.set j (a,o')) σ H' Hf':=by
 obtain⟨c,f1,f3⟩:=s.focusN e;exact⟨c,f1,λg f n=>(f3 g f n).1⟩
end
end G
namespace G
open PySem PySem.Spec PyProof.Rows L2
abbrev Os:=List (dX×Fo)
def OE(X:Cx)(C:CT)(b:Bs)(ρ:Rho)(q:Os)(e:Expr)(d:D)(q':Os):Prop:=PE X e (λσ H Q=>∃Hf,OSt X.K C b ρ q σ H Hf/\∀v H' Hf',OSt X.K C b ρ q' σ H' Hf'->B0 Hf Hf'->Rep X.K Hf' d v->Q v H')
def OT(X:Cx)(C:CT)(b:Bs)(ρ:Rho)(q:Os)(e:Expr)(c:Bool)(q':Os):Prop:=PT X e (λσ H Q=>∃Hf,OSt X.K C b ρ q σ H Hf/\∀H' Hf',OSt X.K C b ρ q' σ H' Hf'->B0 Hf Hf'->Q c H')
inductive OF where
 | nx (ρ:Rho) (q:Os)
 | rt (d:D) (q:Os)
def OF.ends(X:Cx)(C:CT)(b:Bs)(Hf:Hp)(En:Ends):OF->Prop
 | .nx ρ q=>∀σ' H' Hf',OSt X.K C b ρ q σ' H' Hf'->B0 Hf Hf'->En.nx σ' H'
 | .rt d q=>∀ρ' σ' v H' Hf',OSt X.K C b ρ' q σ' H' Hf'->Rep X.K Hf' d v->En.rt v H'
def OS(X:Cx)(C:CT)(b:Bs)(ρ:Rho)(q:Os)(st:Stmt)(fl:OF):Prop:=PS X st (λEn σ H=>∃Hf,OSt X.K C b ρ q σ H Hf/\fl.ends X C b Hf En)
section
variable {X:Cx}{C:CT}{b:Bs}{ρ ρ':Rho}{q q' q1 q2:Os}{st:Stmt}{sts:List Stmt}
theorem cd5(o:OpD X (dl op) h)(ha:OE X C b ρ q ea x q1)(hb:OE X C b ρ q1 eb y q2)(w:h x y=some (.bool c))(hm:behindInMarks op eb=false:=by first|exact aD1 _|rfl):OT X C b ρ q (.Compare ea [op] [eb] pos) c q2:=by
 refine m8 (aX0 (o x y _ w) ha hb hm) λσ H Q ⟨Hf,st,k⟩=>⟨Hf,st,λv H1 Hf1 s1 e1 r1=>⟨Hf1,s1,λu H2 Hf2 s2 e2 r2=>⟨Hf2,s2.same,r1.mono e2,r2,λz H3 Hf3 g r3=>⟨c,r3,k H3 Hf3 (s2.grow g) ((e1.trans e2).trans g.ext)⟩⟩⟩⟩
theorem cf3(o:OpD X (dl op) h)(ha:OE X C b ρ q ea x q1)(hb:OE X C b ρ q1 eb y q2)(w:h x y=some z)(hm:behindInMarks op eb=false:=by first|exact aD1 _|rfl):OE X C b ρ q (.Compare ea [op] [eb] pos) z q2:=by
 refine A4 (aX6 (o x y _ w) ha hb hm) λσ H Q ⟨Hf,st,k⟩=>⟨Hf,st,λv H1 Hf1 s1 e1 r1=>⟨Hf1,s1,λu H2 Hf2 s2 e2 r2=>⟨Hf2,s2.same,r1.mono e2,r2,λz H3 Hf3 g r3=>k z H3 Hf3 (s2.grow g) ((e1.trans e2).trans g.ext) r3⟩⟩⟩
theorem cd4(ha:OE X C b ρ q e (.bool c) q1)(he:∀whole,isTrue e X.env whole=(do let v ← whole;standAt e.pos;holding [v] (truthy v)):=by intro _;rfl):OT X C b ρ q e c q1 :=
 m8 (aJ1 ha he) λσ H Q ⟨Hf,st,k⟩=>⟨Hf,st,λv H1 Hf1 s1 e1 r1=>⟨c,by cases r1;rfl,k H1 Hf1 s1 e1⟩⟩
theorem OSt.set(s:OSt X.K C b ρ q σ H Hf)(r:Rep X.K Hf d v):OSt X.K C b (ρ.set i (‹d›)) q (σ.set i (some v)) H Hf:=s.slots (s.sl.set r)
end
end G
namespace G
open PySem PySem.Spec PyProof.Rows L2
abbrev MD:=List (Option D)
def MxV(K:ag)(Hf:Hp)(a:dX):Option D->V->Prop
 | some d,v=>Rep K Hf d v
 | none,v=>v=.ref a
def Mxs(K:ag)(Hf:Hp)(a:dX):MD->List V->Prop
 | [],vs=>vs=[]
 | m::ms,vs=>∃v r,vs=v::r/\MxV K Hf a m v/\Mxs K Hf a ms r
abbrev DF:=Fo->MD->Option (D×Fo)
def spD(K:ag)(C:CT)(n:Nat)(F:DF):Sp:=λvs H Q _=>vs.length=n/\∃a Hf c o ms r o',B0 Hf H/\FoAt K C H Hf a c o/\Mxs K Hf a ms vs/\F o ms=some (r,o') /\
 ∀v H' Hf' c',Chg (cells a c) H Hf H' Hf'->FoAt K C H' Hf' a c' o'->(∀x∈cells a c',x∈cells a c\/H x=none)->Rep K Hf' r v->Q v H'
theorem aD3{K:ag}{Hf:Hp}{a:dX}:∀{ds:List D}{vs:List V},Reps K Hf ds vs->Mxs K Hf a (ds.map some) vs
 | [],_,h=>h
 | d::ds,_,⟨v,r,h1,h2,h3⟩=>⟨v,r,h1,h2,aD3 h3⟩
structure FoC (K:ag) (C:dX) (fn:List Str):Prop where
 cl:Cls K C
 na:∀f∈fn,ae8 K C f
def at6(X:Cx)(C:CT)(kd:Bool)(m:Str)(n:Nat)(F:DF):Prop:=∃k f fd ps,FnOk X.prog X.w X.K X.mg X.base CX0 k f fd ps (spD X.K C (n+1) F)/\Room k X.A/\Meth X.K (C kd) m f/\M4 X.K fd ps []
section
variable {X:Cx}{C:CT}{b:Bs}{ρ ρ':Rho}{q q' q1 q2:Os}{o o':Fo}{K:PySem.W.Frag}{σ:L2.St}{H Hf:Hp}{fn:List Str}
structure At1 (X:Cx) (ρ:Rho) (q:Os) (x:Str) (i j:Nat) (a:dX) (o:Fo):Prop where
 n:X.N[i]? = some x
 v:Vis X.env.scope x
 d1:(x==("__debug__" : Str))=false
 d2:(x==("__classdict__" : Str))=false
 s:ρ[i]? = some (some (.opq a))
 o:q[j]? = some (a,o)
 w:ax9 ρ=true
theorem X9{i:Nat}{a:dX}(s:OSt K C b ρ q σ H Hf)(e:ρ[i]? = some (some (B.opq a))):σ[i]? = some (some (V.ref a)):=by
 obtain⟨v,h1,h2⟩:=s.sl.is i _ e;cases h2;exact h1
theorem aD2{c:Cel}{m:Str}(f:FoAt K C H Hf a c o)(h:o.l.lookup m=none):c.fs.lookup m=none:=by
 rcases f.fl.look (f:=m) with⟨_,z⟩|⟨d,v,_,z,_⟩
 ·exact z
 ·rw[h]at z;cases z
theorem ay0{ds:List D}{d:D}{F:DF}{E:XK}{Q:VK}(st:OSt X.K C b ρ q σ H Hf)(A:At1 X ρ q x i j a o)(hk:o.k=kd)(nf:o.l.lookup m=none)(r:F o (none::ds.map some)=some (d,o'))(hn:ds.length=n)
  (k:∀v H' Hf',OSt X.K C b ρ (q.set j (a,o')) σ H' Hf'->B0 Hf Hf'->Rep X.K Hf' d v->Q v H') :
  ∃v,σ[i]? = some (some v)/\∃a dx fs,v=.ref a/\H a=some (.ins (C kd) dx fs)/\fs.lookup m=none/\∀vs H1 Hf1,Grow H Hf H1 Hf1->Reps X.K Hf1 ds vs->spD X.K C (n+1) F (v::(vs++[])) H1 Q E:=by
 obtain⟨c,f1,f3⟩:=st.focus A.w A.o;refine⟨_,X9 st A.s,a,c.dx,c.fs,rfl,by rw[← hk];exact f1.ins,aD2 f1 nf,λvs H1 Hf1 g1 r1=>⟨by rw[ar,aO,r1.length,hn],a,Hf1,c,o,none::ds.map some,d,o',g1.sub,f1.grow g1,⟨_,_,rfl,rfl,by rw[ar];exact aD3 r1⟩,r,λv H2 Hf2 c' g2 f2 n2 rv=>k v H2 Hf2 (f3 ((Chg.of g1).trans g2 λ_ h=>.inl h) f2 λy hy=>(n2 y hy).imp id λz=>aK λw=>(Chg.of (S:=[]) g1).kp y w z) (g1.ext.trans g2.ext) rv⟩⟩
theorem ao1{x m:Str}{p apos pos:Pos}{es:List Expr}(hl:(apos.endLine==pos.line)=true)(hf:methodCallForm (es.length+([]:List dw).length) (backTo pos (di es X.env)) (backToKw pos (keywordEach [] X.env))=true):
  eval (.Call (.Attribute (.Name x p) m apos) es [] pos) X.env=(do
   let ov ← eval (.Name x p) X.env
   standAt apos.atName
   let(f,first) ← holding [ov] (getMethod ov m (do return (← importBound (.Name x p) X.env).getD true))
   callWith pos f first (backTo pos (di es X.env)) (backToKw pos (keywordEach [] X.env))):=by
 show(do let ov ← eval (.Name x p) X.env;standAt apos.atName;methodCall (.Name x p) m apos pos X.env ov (es.length+([]:List dw).length) (backTo pos (di es X.env)) (backToKw pos (keywordEach [] X.env)))=_;unfold methodCall;rw[hf];unfold methodCallPos calleeOf;rw[hl];rfl
theorem br0{ρa:Rho}{x m:Str}{e:Expr}{es:List Expr}{p apos pos:Pos}{ds:List D}{d:D}{F:DF}{f:Rho->Option (List D)}(M:at6 X C kd m n F)(c:FoC X.K (C kd) fn)(A:At1 X ρ q x i j a o)(hk:o.k=kd)(nf:o.l.lookup m=none)(ha:JA X (e::es) f)(w:f ρa=some ds)(sb:∀{H0 H Hf:Hp}{σ:L2.St},Slots X.K H0 ρ σ H Hf->Slots X.K H0 ρa σ H Hf)(r:F o (none::ds.map some)=some (d,o'))(hn:(e::es).length=n:=by rfl)
  (hst:di (e::es) X.env=(false,eval e X.env)::di es X.env:=by rfl) (hpl:(backTo pos (di es X.env)).any (·.1)=false:=by rfl)
  (hl:(apos.endLine==pos.line)=true:=by first|assumption|rfl) (hfm:methodCallForm ((e::es).length+([]:List dw).length) (backTo pos (di (e::es) X.env)) (backToKw pos (keywordEach [] X.env))=true:=by rfl) :
  OE X C b ρ q (.Call (.Attribute (.Name x p) m apos) (e::es) [] pos) d (q.set j (a,o')):=by
 obtain⟨k,fa,fd,ps,Fk,hr,hm,hb⟩:=M;refine A4 (aX5 (U8 A.n A.v A.d1 A.d2) c.cl hm Fk hr hb .nil x9 (λpos pins s σ H Q I t=>ha.run ρa ds w pos pins s σ H Q I t) hst hpl (ao1 hl hfm)) λσ H Q ⟨Hf,st,kk⟩=>?_
 obtain⟨v,h1,a',dx,fs,h2,h3,h4,h5⟩:=ay0 (n:=n) (E:=E0) st A hk nf r (by rw[ha.len ρa ds w,hn]) kk;exact⟨v,h1,a',dx,fs,h2,h3,h4,_,Hf,st.same,sb st.sl,λvs H1 Hf1 g1 r1=>h5 vs H1 Hf1 g1 r1⟩
theorem br1{x m:Str}{p apos pos:Pos}{d:D}{F:DF}(M:at6 X C kd m 0 F)(c:FoC X.K (C kd) fn)(A:At1 X ρ q x i j a o)(hk:o.k=kd)(nf:o.l.lookup m=none)(r:F o [none]=some (d,o'))
  (hl:(apos.endLine==pos.line)=true:=by first|assumption|rfl) :
  OE X C b ρ q (.Call (.Attribute (.Name x p) m apos) [] [] pos) d (q.set j (a,o')):=by
 obtain⟨k,fa,fd,ps,Fk,hr,hm,hb⟩:=M;refine A4 (ar1 (U8 A.n A.v A.d1 A.d2) c.cl hm Fk hr hb .nil x9 (ao1 hl rfl)) λσ H Q ⟨Hf,st,kk⟩=>?_
 obtain⟨v,h1,a',dx,fs,h2,h3,h4,h5⟩:=ay0 (n:=0) (ds:=[]) (E:=E0) st A hk nf r rfl kk;exact⟨v,h1,a',dx,fs,h2,h3,h4,h5 [] H Hf (Grow.refl st.same) rfl⟩
theorem Z6(A:At1 X ρ q x i j a o)(c:FoC X.K (C kd) fn)(hk:o.k=kd)(hf:f∈fn)(l:o.l.lookup f=some w)(hb:dB (.Name x p) f X.env (eval (.Name x p) X.env)=eval (.Name x p) X.env):
  PE X (.Attribute (.Name x p) f pos) (λσ H Q=>∃Hf,OSt X.K C b ρ q σ H Hf/\∀cl v ps,FoAt X.K C H Hf a cl o->cl.fs.lookup f=some v->FvA X.K H Hf w v ps->(∀y∈ps,y∈cl.ps)->Q v H) :=
 A4 (cd1 (U8 A.n A.v A.d1 A.d2) hb) λσ H Q ⟨Hf,st,k⟩=>by
  obtain⟨cl,f1,_⟩:=st.focus A.w A.o;rcases f1.fl.look (f:=f) with⟨z,_⟩|⟨w',v,ps,z1,z2,z3,z4⟩
  ·rw[l]at z;cases z
  ·rw[l]at z1;cases z1;exact⟨_,X9 st A.s,a,C kd,cl.dx,cl.fs,v,rfl,by rw[← hk];exact f1.ins,c.cl,c.na f hf,z2,k cl v ps f1 z2 z3 z4⟩
theorem cf2(A:At1 X ρ q x i j a o)(c:FoC X.K (C kd) fn)(hk:o.k=kd)(hf:f∈fn)(l:o.l.lookup f=some (.frz d))(hb:dB (.Name x p) f X.env (eval (.Name x p) X.env)=eval (.Name x p) X.env):OE X C b ρ q (.Attribute (.Name x p) f pos) d q :=
 A4 (Z6 A c hk hf l hb) λσ H Q ⟨Hf,st,k⟩=>⟨Hf,st,λcl v ps _ _ z _=>k v H Hf st (B0.refl _) z.2⟩
theorem cd9(A:At1 X ρ q x i j a o)(c:FoC X.K (C kd) fn)(hf:f∈fn)(h:OE X C b ρ q e d q')(e2:q'[j]? = some (a,o'))(hk:o'.k=kd)(hz:o'.l.length < 1000)(hs:swapsWith e (some (.Attribute (.Name x p) f pos')) pos.line X.env=pure false):
  OS X C b ρ q (.Assign [.Attribute (.Name x p) f pos'] e pos) (.nx ρ (q'.set j (a,⟨o'.k,T3 f (.frz d) o'.l⟩))) :=
 F6 (bo1 (U8 A.n A.v A.d1 A.d2) h hs) λEn σ H ⟨Hf,st,k⟩=>⟨Hf,st,λv H1 Hf1 s1 e1 r=>by
  obtain⟨cl,f1,f3⟩:=s1.focus A.w e2;obtain⟨ps',p1,p2⟩:=f1.put (f:=f) (w:=.frz d) (v:=v) (p:=[]) ⟨rfl,r⟩ (by simp);rw[hk]at p1;refine⟨_,X9 s1 A.s,a,C kd,cl.dx,cl.fs,rfl,by rw[← hk];exact f1.ins,c.cl,c.na f hf,by rw[f1.fl.len];exact hz,k σ _ Hf1 (f3 (Chg.wr s1.same (by simp) (f1.fr _ (by simp))) (by rw[hk];exact p1) λz hz=>.inl ?_) e1⟩;rcases ax.mp hz with rfl|hz
  ·simp
  ·exact aj _ ((p2 z hz).resolve_left (by simp))⟩
end
end G
namespace G
open PySem PySem.Spec PyProof.Rows L2
def ca5(as:List dX):Option B->Option B
 | some (.opq j)=>some (.opq (as.getD j 0))
 | b=>b
abbrev sub(as:List dX)(ρ:Rho):Rho:=ρ.map (ca5 as)
def ag9:Option B->Option B
 | some (.opq _)=>none
 | b=>b
abbrev era(ρ:Rho):Rho:=ρ.map ag9
theorem P8(as:List dX)(ρ:Rho):era (sub as ρ)=era ρ:=by
 unfold era sub;rw[aY];refine bG λb _=>?_
 cases b with
 | none=>rfl
 | some b=>cases b<;>rfl
theorem be4(as:List dX)(ρ:Rho):ax9 (sub as ρ)=ax9 ρ:=rfl
def okR(n:Nat)(ρ:Rho):Bool:=ρ.all λx=>match x with
 | some (.opq j)=>decide (j < n)
 | _=>true
theorem T5(h:okR n ρ=true):ax9 ρ=true:=rfl
theorem bq8(h:okR n ρ=true)(l:n<=m):okR m ρ=true:=by
 unfold okR at h ⊢;rw[bB]at h ⊢;intro x hx;have:=h x hx;split
 ·exact decide_eq_true (aA (of_decide_eq_true this) l)
 ·rfl
theorem aX9{ρ:Rho}{i n:Nat}{x:Option B}(h:okR n ρ=true)(h2:∀j,x=some (.opq j)->j < n):okR n (ρ.set i x)=true:=by
 unfold okR at h ⊢;rw[bB]at h ⊢;intro y hy;rcases List.mem_or_eq_of_mem_set hy with q|rfl
 ·exact h y q
 ·split
  ·exact decide_eq_true (h2 _ rfl)
  ·rfl
theorem ao0{ρ:Rho}{i n:Nat}{d:D}(h:okR n ρ=true):okR n (ρ.set i (‹d›))=true:=aX9 h (by intro _ z;cases z)
theorem bl5(h:okR as.length ρ=true)(ex:List dX):sub (as++ex) ρ=sub as ρ:=by
 unfold sub;refine bG λx hx=>?_
 have:=bB.mp h x hx;cases x with
 | none=>rfl
 | some x =>
  cases x with
  | opq j =>
   have hj:j < as.length:=of_decide_eq_true this;show some (B.opq _)=some (B.opq _);rw[bL,bL,aw hj]
  | _=>rfl
theorem an0(as:List dX)(ρ:Rho)(i:Nat)(d:D):sub as (ρ.set i (‹d›))=(sub as ρ).set i (‹d›):=by unfold sub;rw[List.map_set];rfl
section
variable {K:PySem.W.Frag}{C:CT}{b:Bs}{ρ:Rho}{q:Os}{σ:L2.St}{H Hf H0:Hp}
theorem Slots.era(s:Slots K H0 ρ σ H Hf):Slots K H0 (era ρ) σ H Hf:=by
 have at_:∀(i:Nat) (b:B),(G.era ρ)[i]? = some (some b)->ρ[i]? = some (some b):=λi b e=>by
  unfold G.era at e;rw[aE]at e;obtain⟨x,e1,e2⟩:=af.mp e;rw[e1];cases x with
  | none=>cases e2
  | some x=>cases x<;>first|exact congrArg some e2|cases e2
 exact⟨by rw[ay];exact s.len,λi b e=>s.is i b (at_ i b e),λi j d1 d2 a h1 h2=>s.apart i j d1 d2 a (at_ i _ h1) (at_ j _ h2)⟩
end
abbrev Fs:=List Fo
abbrev UD:=Rho->Fs->Option (D×Fs)
abbrev UB:=Rho->Fs->Option (Bool×Fs)
inductive UF where
 | nx (ρ:Rho) (q:Fs)
 | rt (d:D) (q:Fs)
 | ro (j:Nat) (q:Fs)
def UF.own:UF->Bool
 | .nx ρ q=>okR q.length ρ
 | _=>true
def UF.ends(X:Cx)(C:CT)(b:Bs)(as:List dX)(Hf:Hp)(En:Ends):UF->Prop
 | .nx ρ q=>∀ex σ H' Hf',(as++ex).length=q.length->OSt X.K C b (sub (as++ex) ρ) ((as++ex).zip q) σ H' Hf'->B0 Hf Hf'->En.nx σ H'
 | .rt d q=>∀ex ρ σ v H' Hf',(as++ex).length=q.length->OSt X.K C b ρ ((as++ex).zip q) σ H' Hf'->Rep X.K Hf' d v->En.rt v H'
 | .ro j q=>∀ex ρ σ a H' Hf',(as++ex).length=q.length->OSt X.K C b ρ ((as++ex).zip q) σ H' Hf'->(as++ex)[j]? = some a->En.rt (.ref a) H'
theorem UF.mono{X:Cx}{fl:UF}(h:fl.ends X C b as Hf En)(e:B0 Hf Hf'):fl.ends X C b as Hf' En:=by
 cases fl with
 | nx ρ q=>exact λex σ H' Hf'' l o s=>h ex σ H' Hf'' l o (e.trans s)
 | rt d q=>exact h
 | ro j q=>exact h
theorem UF.more{X:Cx}{fl:UF}(h:fl.ends X C b as Hf En)(ex:List dX):fl.ends X C b (as++ex) Hf En:=by
 cases fl with
 | nx ρ q=>exact λex2 σ H' Hf' l o s=>h (ex++ex2) σ H' Hf' (by rw[← aJ];exact l) (by rw[← aJ];exact o) s
 | rt d q=>exact λex2 ρ σ v H' Hf' l o=>h (ex++ex2) ρ σ v H' Hf' (by rw[← aJ];exact l) (by rw[← aJ];exact o)
 | ro j q=>exact λex2 ρ σ a H' Hf' l o z=>h (ex++ex2) ρ σ a H' Hf' (by rw[← aJ];exact l) (by rw[← aJ];exact o) (by rw[← aJ];exact z)
def UE(X:Cx)(C:CT)(e:Expr)(g:UD):Prop:=∀ρ q d q',g ρ q=some (d,q')->okR q.length ρ=true->q'.length=q.length/\∀b (as:List dX),as.length=q.length->OE X C b (sub as ρ) (as.zip q) e d (as.zip q')
def UT(X:Cx)(C:CT)(e:Expr)(g:UB):Prop:=∀ρ q c q',g ρ q=some (c,q')->okR q.length ρ=true->q'.length=q.length/\∀b (as:List dX),as.length=q.length->OT X C b (sub as ρ) (as.zip q) e c (as.zip q')
def tU(X:Cx)(C:CT)(b:Bs)(as:List dX)(ρ:Rho)(q:Fs)(fl:UF):TS:=λEn σ H=>∃Hf,OSt X.K C b (sub as ρ) (as.zip q) σ H Hf/\fl.ends X C b as Hf En
abbrev UX:=Rho->Fs->Option UF
def US(X:Cx)(C:CT)(st:Stmt)(g:UX):Prop:=∀ρ q fl,g ρ q=some fl->okR q.length ρ=true->fl.own=true/\∀b (as:List dX),as.length=q.length->PS X st (tU X C b as ρ q fl)
def USs(X:Cx)(C:CT)(sts:List Stmt)(g:UX):Prop:=∀ρ q fl,g ρ q=some fl->okR q.length ρ=true->fl.own=true/\∀b (as:List dX),as.length=q.length->PSs X sts (tU X C b as ρ q fl)
section
variable {X:Cx}{C:CT}{st:Stmt}{sts:List Stmt}
def uP(f:DE):UD:=λρ q=>(f (era ρ)).map λd=>(d,q)
theorem aB1(h:JE X e f):UE X C e (uP f):=λρ q d q' w _=>by
 obtain⟨d',e1,e2⟩:=af.mp w;cases e2;exact⟨rfl,λb as _=>A4 (h (era ρ) d e1) λσ H Q ⟨Hf,st,k⟩=>⟨_,Hf,st.same,by rw[← P8 as ρ];exact st.sl.era,λv H' Hf' g r=>k v H' Hf' (st.grow g) g.ext r⟩⟩
def uTP(f:Rho->Option Bool):UB:=λρ q=>(f (era ρ)).map λd=>(d,q)
theorem aU8(h:JT X e f):UT X C e (uTP f):=λρ q d q' w _=>by
 obtain⟨d',e1,e2⟩:=af.mp w;cases e2;exact⟨rfl,λb as _=>m8 (h (era ρ) d e1) λσ H Q ⟨Hf,st,k⟩=>⟨_,Hf,st.same,by rw[← P8 as ρ];exact st.sl.era,λH' Hf' g=>k H' Hf' (st.grow g) g.ext⟩⟩
def S5(i:Nat)(ρ:Rho)(q:Fs):Option (Nat×Fo):=match ρ[i]? with
 | some (some (.opq j))=>(q[j]?).map λo=>(j,o)
 | _=>none
theorem N6{as:List dX}(h:S5 i ρ q=some (j,o))(n:ax9 ρ=true)(l:as.length=q.length)(hn:X.N[i]? = some x)(hv:Vis X.env.scope x)(h1:(x==("__debug__" : Str))=false)(h2:(x==("__classdict__" : Str))=false):
  ∃a,as[j]? = some a/\At1 X (sub as ρ) (as.zip q) x i j a o:=by
 unfold S5 at h;split at h
 ·rename_i j' e;obtain⟨o',e1,e2⟩:=af.mp h;cases e2;have hj:j < as.length:=by rw[l];exact(ak.mp e1).1
  refine⟨as[j],aV hj,hn,hv,h1,h2,?_,?_,by rw[be4];exact n⟩
  ·unfold sub;rw[aE,e];show some (some (B.opq (as.getD j 0)))=_;rw[bL,aV hj];rfl
  ·rw[bi];exact⟨aV hj,e1⟩
 ·cases h
theorem O0{as:List dX}{q:Fs}{j:Nat}{o:Fo}(h:as[j]? = some a):as.zip (q.set j o)=(as.zip q).set j (a,o):=by
 apply List.ext_getElem?;intro i;rw[cK];by_cases e:j=i
 ·subst e;rw[if_pos rfl];by_cases hl:j < (as.zip q).length
  ·rw[if_pos hl];have:j < q.length:=by simp at hl;omega
   rw[bi];exact⟨h,by rw[az this]⟩
  ·rw[if_neg hl];have h1:j < as.length:=(ak.mp h).1;have:¬j < q.length:=λz=>hl (by simp;omega)
   rw[List.getElem?_eq_none];simp;omega
 ·rw[if_neg e];have:(q.set j o)[i]? = q[i]?:=av e;rw[List.zip_eq_zipWith,List.zip_eq_zipWith,List.getElem?_zipWith,List.getElem?_zipWith,this]
def uM(i:Nat)(kd:Bool)(m:Str)(F:DF)(f:Rho->Option (List D)):UD:=λρ q=>(S5 i ρ q).bind λp=>if p.2.k=kd/\(p.2.l.lookup m).isNone=true then(f (era ρ)).bind λds=>(F p.2 (none::ds.map some)).map λr=>(r.1,q.set p.1 r.2) else none
theorem bF5{e:Expr}{es:List Expr}{f:Rho->Option (List D)}(i:Nat)(M:at6 X C kd m n F)(c:FoC X.K (C kd) fn)(hn:X.N[i]? = some x)(hv:Vis X.env.scope x)(h1:(x==("__debug__" : Str))=false)(h2:(x==("__classdict__" : Str))=false)(ha:JA X (e::es) f)(hl:(apos.endLine==pos.line)=true)(hz:(e::es).length=n)
  (hst:di (e::es) X.env=(false,eval e X.env)::di es X.env) (hpl:(backTo pos (di es X.env)).any (·.1)=false) (hfm:methodCallForm ((e::es).length+([]:List dw).length) (backTo pos (di (e::es) X.env)) (backToKw pos (keywordEach [] X.env))=true) :
  UE X C (.Call (.Attribute (.Name x p) m apos) (e::es) [] pos) (uM i kd m F f):=λρ q d q' w no=>by
 obtain⟨⟨j,o⟩,e1,w⟩:=ae.mp w;split at w
 ·rename_i nf;obtain⟨ds,e2,w⟩:=ae.mp w;obtain⟨⟨r,o'⟩,e3,e4⟩:=af.mp w;cases e4;refine⟨by simp,λb as l=>?_⟩;obtain⟨a,ea,A⟩:=N6 e1 (T5 no) l hn hv h1 h2;rw[O0 ea];exact br0 M c A nf.1 (by simpa using nf.2) ha e2 (λs=>by rw[← P8 as ρ];exact s.era) e3 hz hst hpl hl hfm
 ·cases w
def uM0(i:Nat)(kd:Bool)(m:Str)(F:DF):UD:=λρ q=>(S5 i ρ q).bind λp=>if p.2.k=kd/\(p.2.l.lookup m).isNone=true then(F p.2 [none]).map λr=>(r.1,q.set p.1 r.2) else none
theorem bk3(i:Nat)(M:at6 X C kd m 0 F)(c:FoC X.K (C kd) fn)(hn:X.N[i]? = some x)(hv:Vis X.env.scope x)(h1:(x==("__debug__" : Str))=false)(h2:(x==("__classdict__" : Str))=false)(hl:(apos.endLine==pos.line)=true):
  UE X C (.Call (.Attribute (.Name x p) m apos) [] [] pos) (uM0 i kd m F):=λρ q d q' w no=>by
 obtain⟨⟨j,o⟩,e1,w⟩:=ae.mp w;split at w
 ·rename_i nf;obtain⟨⟨r,o'⟩,e3,e4⟩:=af.mp w;cases e4;refine⟨by simp,λb as l=>?_⟩;obtain⟨a,ea,A⟩:=N6 e1 (T5 no) l hn hv h1 h2;rw[O0 ea];exact br1 M c A nf.1 (by simpa using nf.2) e3 hl
 ·cases w
def uB2(h:D->D->Option D)(f g:UD):UD:=λρ q=>(f ρ q).bind λx=>(g ρ x.2).bind λy=>(h x.1 y.1).map λz=>(z,y.2)
theorem bZ2(o:OpD X (dl op) h)(ha:UE X C ea f)(hb:UE X C eb g)(hm:behindInMarks op eb=false):UE X C (.Compare ea [op] [eb] pos) (uB2 h f g):=λρ q d q' w no=>by
 obtain⟨⟨x,q1⟩,w1,w⟩:=ae.mp w;obtain⟨⟨y,q2⟩,w2,w⟩:=ae.mp w;obtain⟨z,w3,w4⟩:=af.mp w;cases w4;obtain⟨l1,a1⟩:=ha ρ q x q1 w1 no;obtain⟨l2,a2⟩:=hb ρ q1 y q2 w2 (by rw[l1];exact no);exact⟨l2.trans l1,λb as l=>cf3 o (a1 b as l) (a2 b as (l.trans l1.symm)) w3 hm⟩
def cB1:D->Option Bool
 | .bool c=>some c
 | _=>none
def uTB(f:UD):UB:=λρ q=>(f ρ q).bind λx=>(cB1 x.1).map λc=>(c,x.2)
theorem bX4(o:OpD X (dl op) h)(ha:UE X C ea f)(hb:UE X C eb g)(hm:behindInMarks op eb=false):UT X C (.Compare ea [op] [eb] pos) (uTB (uB2 h f g)):=λρ q d q' w no=>by
 obtain⟨⟨z,q2⟩,w0,w⟩:=ae.mp w;obtain⟨c,w4,w5⟩:=af.mp w;cases w5;obtain⟨⟨x,q1⟩,w1,w0⟩:=ae.mp w0;obtain⟨⟨y,q2⟩,w2,w0⟩:=ae.mp w0;obtain⟨z,w3,w6⟩:=af.mp w0;cases w6;obtain⟨l1,a1⟩:=ha ρ q x q1 w1 no;obtain⟨l2,a2⟩:=hb ρ q1 y q2 w2 (by rw[l1];exact no);have:z=.bool d:=by cases z<;>cases w4;rfl
 subst this;exact⟨l2.trans l1,λb as l=>cd5 o (a1 b as l) (a2 b as (l.trans l1.symm)) w3 hm⟩
theorem bX3(ha:UE X C e f)(he:∀whole,isTrue e X.env whole=(do let v ← whole;standAt e.pos;holding [v] (truthy v))):UT X C e (uTB f):=λρ q d q' w no=>by
 obtain⟨⟨z,q2⟩,w0,w⟩:=ae.mp w;obtain⟨c,w4,w5⟩:=af.mp w;cases w5;have:z=.bool d:=by cases z<;>cases w4;rfl
 subst this;obtain⟨l1,a1⟩:=ha ρ q _ _ w0 no;exact⟨l1,λb as l=>cd4 (a1 b as l) he⟩
def uOr(f g:UB):UB:=λρ q=>(f ρ q).bind λx=>if x.1 then some (true,x.2) else g ρ x.2
def am2(f g:UB):UB:=λρ q=>(f ρ q).bind λx=>if x.1 then g ρ x.2 else some (false,x.2)
end
end G
namespace G
open PySem PySem.Spec PyProof.Rows L2
section
variable {X:Cx}{C:CT}{st:Stmt}{sts:List Stmt}
def aI0(f g:UD):UD:=λρ q=>(f ρ q).bind λx=>(cB1 x.1).bind λc=>if c then g ρ x.2 else some (.bool false,x.2)
theorem as7{as:List dX}{q':Fs}(h:UF.ends X C b as Hf En (.nx ρ q'))(l:as.length=q'.length):∀σ H' Hf',OSt X.K C b (sub as ρ) (as.zip q') σ H' Hf'->B0 Hf Hf'->En.nx σ H':=λσ H' Hf' s e=>h [] σ H' Hf' (by rw[ar];exact l) (by rw[ar];exact s) e
def uEx(f:UD):UX:=λρ q=>(f ρ q).map λx=>.nx ρ x.2
theorem bE4(h:UE X C e f)(hs:swapsWith e none pos.line X.env=pure false):US X C (.Expr e pos) (uEx f):=λρ q fl w no=>by
 obtain⟨⟨d,q1⟩,w1,w2⟩:=af.mp w;cases w2;obtain⟨l1,a1⟩:=h ρ q d q1 w1 no;exact⟨by show okR q1.length ρ=true;rw[l1];exact no,λb as l=>F6 (an5 (a1 b as l) hs) λEn σ H ⟨Hf,st,k⟩=>⟨Hf,st,λv H' Hf' s' e' _=>as7 k (l.trans l1.symm) σ H' Hf' s' e'⟩⟩
def Z2(i:Nat)(f:UD):UX:=λρ q=>(f ρ q).map λx=>.nx (ρ.set i (‹x.1›)) x.2
theorem bX6(i:Nat)(hN:X.N.Nodup)(h:UE X C e f)(hi:X.N[i]? = some x)(hx:Loc X.env.scope x)(hs:swapsWith e (some (.Name x pos')) pos.line X.env=pure false)(hf:X.fn x=true\/X.env.scope.names.lookup x=some .local):US X C (.Assign [.Name x pos'] e pos) (Z2 i f):=λρ q fl w no=>by
 obtain⟨⟨d,q1⟩,w1,w2⟩:=af.mp w;cases w2;obtain⟨l1,a1⟩:=h ρ q d q1 w1 no;exact⟨ao0 (by rw[l1];exact no),λb as l=>F6 (ai6 hN hi hx (a1 b as l) hs hf) λEn σ H ⟨Hf,st,k⟩=>⟨Hf,st,λv H' Hf' s' e' r=>as7 k (l.trans l1.symm) _ H' Hf' (by rw[an0];exact s'.set r) e'⟩⟩
def T2(f:UD):UX:=λρ q=>(f ρ q).map λx=>.rt x.1 x.2
theorem bj2(h:UE X C e f):US X C (.Return (some e) pos) (T2 f):=λρ q fl w no=>by
 obtain⟨⟨d,q1⟩,w1,w2⟩:=af.mp w;cases w2;obtain⟨l1,a1⟩:=h ρ q d q1 w1 no;exact⟨rfl,λb as l=>F6 (aQ2 (a1 b as l)) λEn σ H ⟨Hf,st,k⟩=>⟨Hf,st,λv H' Hf' s' e' r=>k [] _ σ v H' Hf' (by rw[ar];exact l.trans l1.symm) (by rw[ar];exact s') r⟩⟩
def uRo(i:Nat):UX:=λρ q=>(S5 i ρ q).map λp=>.ro p.1 q
theorem cr2(i:Nat)(hn:X.N[i]? = some x)(hv:Vis X.env.scope x)(h1:(x==("__debug__" : Str))=false)(h2:(x==("__classdict__" : Str))=false):US X C (.Return (some (.Name x p)) pos) (uRo i):=λρ q fl w no=>by
 obtain⟨⟨j,o⟩,w1,w2⟩:=af.mp w;cases w2;refine⟨rfl,λb as l=>?_⟩;obtain⟨a,ea,A⟩:=N6 w1 (T5 no) l hn hv h1 h2;exact F6 (aQ2 (U8 hn hv h1 h2)) λEn σ H ⟨Hf,st,k⟩=>⟨_,X9 st A.s,k [] _ σ a H Hf (by rw[ar];exact l) (by rw[ar];exact st) (by rw[ar];exact ea)⟩
def uIf(t:UB)(f g:UX):UX:=λρ q=>(t ρ q).bind λx=>if x.1 then f ρ x.2 else g ρ x.2
theorem cr4{s1 s2:List Stmt}(t:UT X C e c)(h1:USs X C s1 f)(h2:USs X C s2 g):US X C (.If e s1 s2 pos) (uIf c f g):=λρ q fl w no=>by
 obtain⟨⟨x,q1⟩,w1,w⟩:=ae.mp w;obtain⟨l1,a1⟩:=t ρ q x q1 w1 no;cases x with
 | true =>
  obtain⟨o1,b1⟩:=h1 ρ q1 fl w (by rw[l1];exact no);exact⟨o1,λb as l=>F6 (aX3 (a1 b as l) (b1 b as (l.trans l1.symm)) Q3) λEn σ H ⟨Hf,st,k⟩=>⟨Hf,st,λH' Hf' s' e'=>ae6 ⟨Hf',s',UF.mono (fl:=fl) k e'⟩⟩⟩
 | false =>
  obtain⟨o1,b1⟩:=h2 ρ q1 fl w (by rw[l1];exact no);exact⟨o1,λb as l=>F6 (aX3 (a1 b as l) Q3 (b1 b as (l.trans l1.symm))) λEn σ H ⟨Hf,st,k⟩=>⟨Hf,st,λH' Hf' s' e'=>aj1 ⟨Hf',s',UF.mono (fl:=fl) k e'⟩⟩⟩
def m4:UX:=λρ q=>some (.nx ρ q)
theorem bD8:USs X C [] m4:=λρ q fl w no=>by
 cases w;exact⟨no,λb as l=>Y0 aX2 λEn σ H ⟨Hf,st,k⟩=>as7 k l σ H Hf st (B0.refl _)⟩
theorem aU9(h:US X C st g):USs X C [st] g:=λρ q fl w no=>by
 obtain⟨h1,h2⟩:=h ρ q fl w no;exact⟨h1,λb as l=>aX1 (h2 b as l)⟩
def E2(f g:UX):UX:=λρ q=>(f ρ q).bind λfl=>match fl with
 | .nx ρ' q'=>g ρ' q'
 | r=>some r
theorem cc2{α:Type}{t:α->TS}(h:∀a,PSs X sts (t a)):PSs X sts (λEn σ H=>∃a,t a En σ H):=λpins s σ H D I ⟨a,q⟩=>h a pins s σ H D I q
theorem bJ1{P:Prop}{t:TS}(h:P->PSs X sts t):PSs X sts (λEn σ H=>P/\t En σ H):=λpins s σ H D I ⟨a,q⟩=>h a pins s σ H D I q
theorem bj1(h1:US X C st f)(h2:USs X C sts g):USs X C (st::sts) (E2 f g):=λρ q fl w no=>by
 obtain⟨fl1,w1,w⟩:=ae.mp w;obtain⟨o1,a1⟩:=h1 ρ q fl1 w1 no;cases fl1 with
 | nx ρ' q' =>
  obtain⟨o2,a2⟩:=h2 ρ' q' fl w o1;exact⟨o2,λb as l=>Y0 (Z5 (a1 b as l) (cc2 λex=>bJ1 λ(l2:(as++ex).length=q'.length)=>a2 b (as++ex) l2)) λEn σ H ⟨Hf,s,k⟩=>⟨Hf,s,λex σ' H' Hf' l' s' e'=>⟨ex,l',Hf',s',UF.more (UF.mono (fl:=fl) k e') ex⟩⟩⟩
 | rt d q' =>
  cases w;exact⟨rfl,λb as l=>Y0 (Z5 (a1 b as l) Q3) λEn σ H ⟨Hf,s,k⟩=>⟨Hf,s,k⟩⟩
 | ro j q' =>
  cases w;exact⟨rfl,λb as l=>Y0 (Z5 (a1 b as l) Q3) λEn σ H ⟨Hf,s,k⟩=>⟨Hf,s,k⟩⟩
def Cm(g:D->Rho->Option Rho):Prop:=∀as d ρ ρ1,g d ρ=some ρ1->g d (sub as ρ)=some (sub as ρ1)/\∀n,okR n ρ=true->okR n ρ1=true
def Cms(g:List D->Rho->Option Rho):Prop:=∀as d ρ ρ1,g d ρ=some ρ1->g d (sub as ρ)=some (sub as ρ1)/\∀n,okR n ρ=true->okR n ρ1=true
theorem cn8(i:Nat):Cm (K5 i):=λas d ρ ρ1 h=>by
 cases h;exact⟨by rw[an0];rfl,λn h=>ao0 h⟩
theorem bQ0:Cms y8:=λas d ρ ρ1 h=>by
 cases d with
 | nil=>cases h;exact⟨rfl,λ_ h=>h⟩
 | cons=>cases h
theorem bA9(h1:Cm f)(h2:Cms g):Cms (O7 f g):=λas d ρ ρ1 h=>by
 cases d with
 | nil=>cases h
 | cons d ds =>
  obtain⟨ρ2,e1,e2⟩:=ae.mp h;obtain⟨a1,a2⟩:=h1 as d ρ ρ2 e1;obtain⟨b1,b2⟩:=h2 as ds ρ2 ρ1 e2;exact⟨by show(f d (sub as ρ)).bind _=_;rw[a1];exact b1,λn h=>b2 n (a2 n h)⟩
theorem cn7(h:Cms g):Cm (d6 n g):=λas d ρ ρ1 e=>by
 unfold d6 at e ⊢;split at e
 ·split at e
  ·rename_i hl;rw[if_pos hl];exact h as _ ρ ρ1 e
  ·cases e
 ·cases e
def b9(g:D->Rho->Option Rho)(f:UX):List D->UX
 | [],ρ,q=>some (.nx ρ q)
 | d::ds,ρ,q=>(g d ρ).bind λρ1=>(f ρ1 q).bind λfl=>match fl with
  | .nx ρ' q'=>b9 g f ds ρ' q'
  | r=>some r
def au7(src:Rho->Fs->Option (List D×Fs))(g:D->Rho->Option Rho)(f:UX):UX:=λρ q=>(src ρ q).bind λx=>b9 g f x.1 ρ x.2
theorem aH7{body:List Stmt}(cm:Cm g)(hb:USs X C body f):∀(ds:List D) (ρ:Rho) (q:Fs) (fl:UF),b9 g f ds ρ q=some fl->okR q.length ρ=true->fl.own=true
 | [],ρ,q,fl,h,n=>by cases h;exact n
 | d::ds,ρ,q,fl,h,n=>by
  obtain⟨ρ1,e1,h⟩:=ae.mp h;obtain⟨fl1,e2,h⟩:=ae.mp h;have n1:=(cm [] d ρ ρ1 e1).2 _ n;have o:=(hb ρ1 q fl1 e2 n1).1;cases fl1 with
  | nx ρ' q'=>exact aH7 cm hb ds ρ' q' fl h o
  | rt d q'=>cases h;rfl
  | ro j q'=>cases h;rfl
def UI(X:Cx)(C:CT)(tg iter:Expr)(src:Rho->Fs->Option (List D×Fs)):Prop:=∀ρ q ds q',src ρ q=some (ds,q')->okR q.length ρ=true->q'.length=q.length/\∀b (as:List dX),as.length=q.length->PI X tg iter (λσ H R=>∃Hf,OSt X.K C b (sub as ρ) (as.zip q) σ H Hf/\∀J H1 Hf1,OSt X.K C b (sub as ρ) (as.zip q') σ H1 Hf1->B0 Hf Hf1->aG9 X.K J ds Hf1->R J H1)
def iP(src:Rho->Option (List D)):Rho->Fs->Option (List D×Fs):=λρ q=>(src (era ρ)).map λds=>(ds,q)
theorem bF2(h:JI X tg iter src):UI X C tg iter (iP src):=λρ q ds q' w no=>by
 obtain⟨ds',e1,e2⟩:=af.mp w;cases e2;exact⟨rfl,λb as l=>aC5 (h (era ρ) ds e1) λσ H R ⟨Hf,st,k⟩=>⟨_,Hf,st.same,by rw[← P8 as ρ];exact st.sl.era,λJ H1 Hf1 g1 Y=>k J H1 Hf1 (st.grow g1) g1.ext Y⟩⟩
theorem bX8{body:List Stmt}(hi:UI X C tg iter src)(hg:JG X tg g)(cm:Cm g)(hb:USs X C body f)(hp:PassesOwn (dE X.prog X.w) X.A X.env X.xe)(hc:X.calm=true)(hs:∀x,dz iter X.env x=pure x):US X C (.For tg iter body [] pos) (au7 src g f):=λρ q fl w no=>by
 obtain⟨⟨ds,q1⟩,e1,e2⟩:=ae.mp w;obtain⟨lq,hi'⟩:=hi ρ q ds q1 e1 no;refine⟨aH7 cm hb ds ρ q1 fl e2 (by rw[lq];exact no),λb as l=>?_⟩;have body':PSs X body (λEn σ H=>∃(as':List dX) (ρ':Rho) (q':Fs) (fl':UF),f ρ' q'=some fl'/\okR q'.length ρ'=true/\as'.length=q'.length/\tU X C b as' ρ' q' fl' En σ H):=λpins s σ H D I ⟨as',ρ',q',fl',z1,z2,z3,z4⟩=>(hb ρ' q' fl' z1 z2).2 b as' z3 pins s σ H D I z4
 refine F6 (cc4 hp hc (hi' b as l) hg body' hs) λEn σ H ⟨Hf,st,e⟩=>⟨Hf,st,λJ H1 Hf1 s1 x1 Y=>?_⟩
 refine⟨λi m σ H=>m=ds.length - i/\i<=ds.length/\∃Hf' ex ρ' q',(as++ex).length=q'.length/\okR q'.length ρ'=true/\OSt X.K C b (sub (as++ex) ρ') ((as++ex).zip q') σ H Hf'/\B0 Hf1 Hf'/\b9 g f (ds.drop i) ρ' q'=some fl,
  ⟨ds.length,by simp,aW _,Hf1,[],ρ,q1,by rw[ar];exact l.trans lq.symm,by rw[lq];exact no,by rw[ar];exact s1,B0.refl _,by simpa using e2⟩,?_⟩
 rintro i m σ' H' ⟨rfl,hi,Hf',ex,ρ',q',l',no',a',s',hm⟩
 obtain⟨Ys,Yg⟩:=Y i H' Hf' s' a'.same;rcases bx i ds.length with hlt|hge
 ·right
  obtain⟨go,yl⟩:=Yg ds[i] (by simp[hlt]);rw[bO hlt]at hm;obtain⟨ρ1,c1,hm⟩:=ae.mp hm;obtain⟨fl1,c2,hm⟩:=ae.mp hm;obtain⟨c3,c4⟩:=cm (as++ex) _ _ _ c1;have no1:=c4 _ no';have o1:=(hb ρ1 q' fl1 c2 no1).1;refine⟨go,λσ3 H3=>∃m',m' < ds.length - i/\m'=ds.length - (i+1)/\i+1<=ds.length/\∃Hf' ex ρ' q',(as++ex).length=q'.length/\okR q'.length ρ'=true/\OSt X.K C b (sub (as++ex) ρ') ((as++ex).zip q') σ3 H3 Hf'/\B0 Hf1 Hf'/\b9 g f (ds.drop (i+1)) ρ' q'=some fl,λσ3 H3 ⟨m',z1,z2⟩=>⟨m',z1,z2⟩,λx H2 hy=>?_⟩;obtain⟨Hf2,g2,r2⟩:=yl x H2 hy;have a2:=a'.grow g2;have s2:=s'.trans g2.ext;refine⟨ds[i],sub (as++ex) ρ',sub (as++ex) ρ1,_,Hf2,c3,g2.sub,a2.sl,r2,λσ3 sl3=>⟨as++ex,ρ1,q',fl1,c2,no1,l',Hf2,a2.slots sl3,?_⟩⟩;cases fl1 with
  | nx ρ3 q3=>exact λex2 σ3 H3 Hf3 l3 a3 s3=>⟨_,by omega,rfl,hlt,Hf3,ex++ex2,ρ3,q3,by rw[← aJ];exact l3,o1,by rw[← aJ];exact a3,s2.trans s3,hm⟩
  | rt d q3 =>
   cases hm;exact UF.more (fl:=.rt d q3) e ex
  | ro j q3 =>
   cases hm;exact UF.more (fl:=.ro j q3) e ex
 ·left
  have:i=ds.length:=by omega
  subst this;rw[ck]at hm;cases hm;exact⟨Ys (ai _),e ex σ' H' Hf' l' a' (x1.trans s')⟩
end
end G
namespace G
open PySem PySem.Spec PyProof.Rows L2
theorem W1{H:Hp}{a b:dX}{o:HO}(h:upd H a o b=none):b≠a/\H b=none:=by
 by_cases e:b=a
 ·subst e;rw[A6]at h;cases h
 ·rw[B3 e]at h;exact⟨e,h⟩
section
variable {K:PySem.W.Frag}{C:CT}{b:Bs}{ρ:Rho}{os:Os}{σ:L2.St}{H Hf H' Hf':Hp}
theorem OSt.add(st:OSt K C b ρ os σ H Hf)(g:Grow H Hf H' Hf')(f:FoAt K C H' Hf' x c o)(fr:∀y∈cells x c,H y=none):OSt K C b ρ (os++[(x,o)]) σ H' Hf':=by
 obtain⟨R,r1,r2,r3⟩:=st.ob;have st':=st.grow g;have r1':=r1.chg (S:=[]) (Chg.of g) (by simp);obtain⟨R',q1,q2⟩:=r1'.snoc f λy hy z=>r1.there y z (fr y hy)
 refine⟨st'.gr,R',q1,λy hy=>(q2 y hy).elim (r2 y) λz=>.inr ?_,r3.chg (S:=[]) (Chg.of g) (by simp) λx h hx=>?_⟩
 ·exact aK λw=>st.gr.kp y w (fr y z)
 ·obtain⟨h1,h2⟩:=W4 h;exact aR8 (λz=>(q2 x z).elim h1 λw=>hx (fr x w)) h2
end
theorem Slots.setO{K:ag}{H0 H Hf:Hp}{ρ:Rho}{σ:L2.St}{i:Nat}{a:dX}(s:Slots K H0 ρ σ H Hf):Slots K H0 (ρ.set i (some (.opq a))) (σ.set i (some (.ref a))) H Hf:=by
 have own:∀(j:Nat) (ds:List D),(ρ.set i (some (.opq a)))[j]? = some (some (.own ds))->i≠j/\ρ[j]? = some (some (.own ds)):=λj ds e=>by
  rw[cK]at e;split at e
  ·split at e<;>cases e
  ·rename_i h;exact⟨h,e⟩
 refine⟨by simp[s.len],λj b e=>?_,λj k d1 d2 c h1 h2 h3 h4=>?_⟩
 ·rw[cK]at e;split at e
  ·rename_i h;subst h;split at e
   ·rename_i hl;cases e;exact⟨_,az (by rw[← s.len];exact hl),rfl⟩
   ·cases e
  ·rename_i h;obtain⟨v,v1,v2⟩:=s.is j b e;exact⟨v,by rw[av h];exact v1,v2⟩
 ·obtain⟨n1,e1⟩:=own j d1 h1;obtain⟨n2,e2⟩:=own k d2 h2;rw[av n1]at h3;rw[av n2]at h4;exact s.apart j k d1 d2 c e1 e2 h3 h4
theorem aB3{as:List dX}{ρ:Rho}{n:Nat}(h:okR n ρ=true)(l:as.length=n)(a:dX)(i:Nat):sub (as++[a]) (ρ.set i (some (.opq n)))=(sub as ρ).set i (some (.opq a)):=by
 subst l;have:=bl5 h [a];unfold sub at this ⊢;rw[List.map_set,this]
 congr 1
 show some (B.opq _)=_;rw[bL,am (ai _),aQ];rfl
theorem aA8{as:List dX}{q:Fs}(l:as.length=q.length)(a:dX)(o:Fo):(as++[a]).zip (q++[o])=as.zip q++[(a,o)]:=by rw[List.zip_append l];rfl
def UN(X:Cx)(C:CT)(e:Expr)(g:Rho->Option Fo):Prop:=∀ρ q o,g (era ρ)=some o->∀b (as:List dX),as.length=q.length->PE X e (λσ H Q=>∃Hf,OSt X.K C b (sub as ρ) (as.zip q) σ H Hf/\∀a c H' Hf',Grow H Hf H' Hf'->FoAt X.K C H' Hf' a c o->(∀y∈cells a c,H y=none)->Q (.ref a) H')
def cp0(X:Cx)(C:CT)(kd:Bool)(x:Str)(n:Nat)(F:DF):Prop:=∃k f fd ps,FnOk X.prog X.w X.K X.mg X.base CX0 k f fd ps (spD X.K C (n+1) F)/\Room (k+1) X.A/\Mk X.K (C kd) f/\M4 X.K fd ps []/\X.mg x=some (.ref (C kd))
section
variable {X:Cx}{C:CT}
def am3(kd:Bool)(F:DF)(g:Rho->Option (List D)):Rho->Option Fo:=λρ=>(g ρ).bind λds=>(F ⟨kd,[]⟩ (none::ds.map some)).bind λr=>match r.1 with
 | .none=>some r.2
 | _=>none
theorem bE9{e:Expr}{es:List Expr}(M:cp0 X C kd x n F)(hg:Gl X x)(ha:JA X (e::es) g)(hn:(e::es).length=n)(hdb:(x==("__debug__" : Str))=false)(he:di (e::es) X.env=(false,eval e X.env)::di es X.env)(hpl:(backTo pos (di es X.env)).any (·.1)=false):
  UN X C (.Call (.Name x p) (e::es) [] pos) (am3 kd F g):=λρ q o w b as l=>by
 obtain⟨ds,h1,w⟩:=ae.mp w;obtain⟨⟨r,o'⟩,h2,w⟩:=ae.mp w;have:r=.none/\o'=o:=by cases r<;>cases w;exact⟨rfl,rfl⟩
 obtain⟨rfl,rfl⟩:=this;obtain⟨k,f,fd,ps,Fk,hr,Mk,hb,hm⟩:=M;refine A4 (bJ9 Mk Fk hr hg hm hb .nil x9 (λpos pins s σ H Q I t=>ha.run (era ρ) ds h1 pos pins s σ H Q I t) hdb he hpl) λσ H Q ⟨Hf,st,kk⟩=>⟨_,Hf,st.same,by rw[← P8 as ρ];exact st.sl.era,λvs H1 Hf1 g0 rp y dx y1 y2 y3=>?_⟩
 have g1:Grow H1 Hf1 (upd H1 dx (.own y)) Hf1:=Grow.made g0.sub y2;have g2:Grow (upd H1 dx (.own y)) Hf1 (upd (upd H1 dx (.own y)) y (.ins (C kd) dx [])) Hf1:=Grow.made g1.sub (by rw[B3 y3.symm];exact y1);have g:=g1.trans g2;have fr1:=g0.sub.free y1;refine⟨by rw[ar,aO,rp.length,ha.len _ ds h1,hn],y,Hf1,⟨dx,[],[]⟩,⟨kd,[]⟩,none::ds.map some,.none,o',g.sub,⟨A6,⟨rfl,rfl⟩,λz hz=>by rw[aM.mp hz];exact fr1⟩,⟨_,_,rfl,rfl,by rw[ar];exact aD3 rp⟩,h2,λv H' Hf' c' ch fo cl rv=>?_⟩;cases rv;have hy:H y=none:=g0.big.free y1;refine⟨rfl,kk y c' H' Hf' ⟨λz u e=>?_,ch.sub,g0.ext.trans ch.ext,λz hz=>?_⟩ fo λz hz=>?_⟩
 ·have e1:=g0.big z u e;exact ch.big z u (by simp;exact C6 e hy) (g.big z u e1)
 ·rcases ch.new z hz with w|w
  ·exact g0.new z w
  ·exact .inr (g0.big.free (W1 (W1 w).2).2)
 ·rcases cl z hz with w|w
  ·rw[aM.mp w];exact hy
  ·exact g0.big.free (W1 (W1 w).2).2
theorem bj8(M:cp0 X C kd x 0 F)(hg:Gl X x)(hdb:(x==("__debug__" : Str))=false):UN X C (.Call (.Name x p) [] [] pos) (am3 kd F A2):=λρ q o w b as l=>by
 obtain⟨ds,h1,w⟩:=ae.mp w;cases h1;obtain⟨⟨r,o'⟩,h2,w⟩:=ae.mp w;have:r=.none/\o'=o:=by cases r<;>cases w;exact⟨rfl,rfl⟩
 obtain⟨rfl,rfl⟩:=this;obtain⟨k,f,fd,ps,Fk,hr,Mk,hb,hm⟩:=M;refine A4 (bo9 Mk Fk hr hg hm hb .nil x9 hdb) λσ H Q ⟨Hf,st,kk⟩=>λy dx y1 y2 y3=>?_
 have g1:Grow H Hf (upd H dx (.own y)) Hf:=Grow.made st.same y2;have g2:Grow (upd H dx (.own y)) Hf (upd (upd H dx (.own y)) y (.ins (C kd) dx [])) Hf:=Grow.made g1.sub (by rw[B3 y3.symm];exact y1);have g:=g1.trans g2;have fr1:=st.same.free y1;refine⟨rfl,y,Hf,⟨dx,[],[]⟩,⟨kd,[]⟩,[none],.none,o',g.sub,⟨A6,⟨rfl,rfl⟩,λz hz=>by rw[aM.mp hz];exact fr1⟩,⟨_,_,rfl,rfl,rfl⟩,h2,λv H' Hf' c' ch fo cl rv=>?_⟩;cases rv;refine⟨rfl,kk y c' H' Hf' ⟨λz u e=>ch.big z u (by simp;exact C6 e y1) (g.big z u e),ch.sub,ch.ext,λz hz=>?_⟩ fo λz hz=>?_⟩
 ·rcases ch.new z hz with w|w
  ·exact .inl w
  ·exact .inr (W1 (W1 w).2).2
 ·rcases cl z hz with w|w
  ·rw[aM.mp w];exact y1
  ·exact(W1 (W1 w).2).2
def aB2(i:Nat)(g:Rho->Option Fo):UX:=λρ q=>(g (era ρ)).map λo=>.nx (ρ.set i (some (.opq q.length))) (q++[o])
theorem aC9{ρ:Rho}{q:Fs}(h:okR q.length ρ=true)(i:Nat)(o:Fo):okR (q++[o]).length (ρ.set i (some (.opq q.length)))=true:=aX9 (bq8 h (by simp)) (by intro j z;cases z;simp)
theorem bX7(i:Nat)(hN:X.N.Nodup)(h:UN X C e g)(hi:X.N[i]? = some x)(hx:Loc X.env.scope x)(hs:swapsWith e (some (.Name x pos')) pos.line X.env=pure false)(hf:X.fn x=true\/X.env.scope.names.lookup x=some .local):US X C (.Assign [.Name x pos'] e pos) (aB2 i g):=λρ q fl w no=>by
 obtain⟨o,w1,w2⟩:=af.mp w;cases w2;refine⟨aC9 no i o,λb as l=>F6 (ai6 hN hi hx (h ρ q o w1 b as l) hs hf) λEn σ H ⟨Hf,st,k⟩=>⟨Hf,st,λa c H' Hf' g fo fr=>?_⟩⟩;have st2:=st.add g fo fr;exact k [a] _ H' Hf' (by simp[l]) (by rw[aB3 no l,aA8 l];exact st2.slots st2.sl.setO) g.ext
end
end G
namespace G
open PySem PySem.Spec PyProof.Rows L2
def bI2(g:UX)(n:Nat):List D->Option D:=λds=>(g (P6 n ds) []).bind λfl=>match fl with
 | .rt d _=>some d
 | .nx _ _=>some .none
 | _=>none
theorem ax2(n m:Nat)(ds:List D):okR m (P6 n ds)=true:=by
 unfold okR P6;rw[bB];intro x hx;rcases aR.mp hx with h|h
 ·obtain⟨d,_,rfl⟩:=bc.mp h;rfl
 ·rw[(cF.mp h).2]
theorem aP3(n:Nat)(ds:List D):sub [] (P6 n ds)=P6 n ds:=by
 unfold sub P6;rw[cf,aY,List.map_replicate];rfl
section
variable {P:Program}{w:World}{K:PySem.W.Frag}{mg:Str->Option Value}{base:Heap}{x qual:Str}{st:Stmt}{f:Addr}{fd:FuncData}{N ps:List Str}{k:Nat}{g:UX}{C:CT}
theorem aV7{H Hf:Hp}{ds:List D}{vs:List V}(ss:B0 Hf H)(rp:Reps K Hf ds vs):OSt K C ⟨[],H,Hf⟩ (sub [] (P6 N.length ds)) (([]:List dX).zip ([]:Fs)) (start N vs) H Hf :=
 ⟨Chg.of (Grow.refl ss),[],.nil,by simp,by rw[aP3];exact aa4 rp⟩
theorem by6(F:Fun K x qual st f fd)(S:FnScope N ps (A9 st))
  (hb:∀(cdv:dU) (A:dr) (outer:List Env) (s:dW) (H:Hp) (E:XK),Room k (A.deeper (envOfC qual (A9 st) s.heap.objs.size f cdv))->USs (ah2 CX0 P w K mg base N qual (A9 st) f cdv A outer s H E).nox C (C4 st) g) :
  FnOk P w K mg base CX0 (k+1) f fd ps (spF K ps.length (bI2 g N.length)):=by
 refine F.ok S (λvs H Q E h=>h.1) λcdv A outer s H vs Q E hr hsp=>?_
 obtain⟨hlen,Hf,ds,d,ss,rp,e,kk⟩:=hsp;obtain⟨fl,e1,e2⟩:=ae.mp e;obtain⟨_,h⟩:=hb cdv A outer s H E hr _ [] fl e1 (ax2 _ _ _);refine⟨_,h ⟨[],H,Hf⟩ [] rfl,Hf,aV7 ss rp,?_⟩;cases fl with
 | rt d' q=>cases e2;exact λex ρ σ v H' Hf' l s' r=>kk v H' Hf' s'.gr.grow r
 | nx ρ q=>cases e2;exact λex σ' H' Hf' l s' _=>kk _ H' Hf' s'.gr.grow rfl
 | ro j q=>cases e2
end
end G
namespace G
open PySem PySem.Spec PyProof.Rows L2
section
variable {K:PySem.W.Frag}{C:CT}{b:Bs}{ρ:Rho}{os:List (Addr×Fo)}{σ:L2.St}{H Hf H' Hf' H0:Hp}
theorem Slots.app{i:Nat}{p:dX}{ds:List D}{vs:List V}{d:D}{w:V}(s:Slots K H0 ρ σ H Hf)(eo:ρ[i]? = some (some (.own ds)))(h1:σ[i]? = some (some (.ref p)))(h2:H p=some (.lst vs))(h3:Hf p=none)(h4:H0 p=none)(h5:Reps K Hf ds vs)(r:Rep K Hf d w):
  Slots K H0 (ρ.set i (some (.own (ds++[d])))) σ (upd H p (.lst (vs++[w]))) Hf:=by
 refine⟨by simpa using s.len,λj bb z=>?_,λj k ds1 es c q1 q2 q3 q4=>?_⟩
 ·by_cases qj:i=j
  ·subst qj;have hi:i < ρ.length:=(ak.mp eo).1;rw[az hi]at z;cases z;exact⟨_,h1,p,vs++[w],rfl,A6,h3,h4,h5.append ⟨w,[],rfl,r,rfl⟩⟩
  ·rw[av qj]at z;obtain⟨u,z1,z2⟩:=s.is j bb z;refine⟨u,z1,?_⟩;cases bb with
   | val d=>exact z2
   | exc C=>exact z2
   | opq _=>exact z2
   | own dd =>
    obtain⟨a',vs',y1,y2,y3,y4,y5⟩:=z2
    have ne:a'≠p:=λzz=>by
     subst zz y1;exact qj (s.apart i j ds dd a' eo z h1 z1)
    exact⟨a',vs',y1,by rw[B3 ne];exact y2,y3,y4,y5⟩
 ·have old:∀n:Nat,(∃dd:List D,(ρ.set i (some (B.own (ds++[d]))))[n]? = some (some (B.own dd)))->∃dd:List D,ρ[n]? = some (some (B.own dd)):=λn ⟨dd,z⟩=>by
   by_cases qj:i=n
   ·subst qj;exact⟨ds,eo⟩
   ·rw[av qj]at z;exact⟨_,z⟩
  obtain⟨d1,q1'⟩:=old j ⟨_,q1⟩;obtain⟨d2,q2'⟩:=old k ⟨_,q2⟩;exact s.apart j k d1 d2 c q1' q2' q3 q4
theorem OSt.app{i:Nat}{ds:List D}(s:OSt K C b ρ os σ H Hf)(eo:ρ[i]? = some (some (.own ds))):∃p vs,σ[i]? = some (some (.ref p))/\H p=some (.lst vs)/\Reps K Hf ds vs/\∀w d,Rep K Hf d w->OSt K C b (ρ.set i (some (.own (ds++[d])))) os σ (upd H p (.lst (vs++[w]))) Hf:=by
 obtain⟨R,r1,r2,r3⟩:=s.ob;obtain⟨v,h1,p,vs,rfl,h2,h3,h4,h5⟩:=r3.is i _ eo;refine⟨p,vs,h1,h2,h5,λw d r=>?_⟩;obtain⟨n1,n2⟩:=W4 h4;have g:Chg [p] H Hf (upd H p (.lst (vs++[w]))) Hf:=Chg.wr s.same (by simp) h3;exact⟨s.gr.trans g λx hx=>.inr (by rw[aM.mp hx];exact n2),R,r1.chg g λx hx z=>n1 (by rw[← aM.mp z];exact hx),r2,r3.app eo h1 h2 h3 h4 h5 r⟩
theorem FoAt.frz(h:FoAt K C H Hf a c o)(e:B0 Hf Hf')(n:∀x∈cells a c,Hf' x≠none->Hf x≠none):FoAt K C H Hf' a c o :=
 ⟨h.ins,h.fl.keep e λ_ _=>rfl,λx hx=>aK λz=>n x hx z (h.fr x hx)⟩
theorem Objs.frz(h:Objs K C H Hf os R)(e:B0 Hf Hf')(n:∀x∈R,Hf' x≠none->Hf x≠none):Objs K C H Hf' os R:=by
 induction h with
 | nil=>exact .nil
 | cons f d t ih=>exact .cons (f.frz e λx hx=>n x (aI _ hx)) d (ih λx hx=>n x (au _ hx))
theorem OSt.frz(s:OSt K C b ρ os σ H Hf)(i:Nat):∃Hf',B0 Hf Hf'/\OSt K C b (frz i ρ) os σ H Hf':=by
 obtain⟨R,r1,r2,r3⟩:=s.ob
 let H1:Hp:=λx=>if(hid b R x).isNone then none else H x
 have h1:∀x,hid b R x=none->H1 x=none:=λx h=>by show(if _ then _ else _)=_;rw[h];rfl
 have h2:∀x,H1 x=none->H x≠none->hid b R x=none:=λx h hx=>by
  cases q:hid b R x with
  | none=>rfl
  | some y=>exact(hx (by rw[← h];show _=(if _ then _ else _);rw[q];rfl)).elim
 have g1:Grow H1 Hf H Hf:=⟨λx o e=>by
  cases q:hid b R x with
  | none=>rw[h1 x q]at e;cases e
  | some y=>rw[← e];show _=(if _ then _ else _);rw[q];rfl,s.same,B0.refl _,λ_ h=>.inl h⟩
 obtain⟨Hf',e,a⟩:=by4 i (⟨g1,r3.chg (S:=[]) (Chg.of (Grow.refl s.same)) (by simp) λx h _=>h1 x h⟩:At K H1 Hf ρ σ H Hf);have nR:∀x∈R,Hf' x≠none->Hf x≠none:=λx hx z=>(a.gr.new x z).elim id λy=>((W4 (h2 x y (r1.there x hx))).1 hx).elim
 refine⟨Hf',e,⟨s.gr.big,s.gr.kp,a.gr.sub,s.gr.ext.trans e,λx z=>(a.gr.new x z).elim (s.gr.new x) λy=>.inr ?_⟩,R,r1.frz e nR,r2,a.sl.chg (S:=[]) (Chg.of (Grow.refl a.gr.sub)) (by simp) h2⟩;by_cases hx:H x=none
 ·exact aK λw=>s.gr.kp x w hx
 ·exact(W4 (h2 x y hx)).2
end
section
variable {X:Cx}{C:CT}{st:Stmt}{sts:List Stmt}
abbrev UL:=Rho->Fs->Option (List D×Fs)
def UAs(X:Cx)(C:CT)(es:List Expr)(g:UL):Prop:=∀ρ q ds q',g ρ q=some (ds,q')->okR q.length ρ=true->q'.length=q.length/\ds.length=es.length/\∀b (as:List dX),as.length=q.length ->
 PA X es (λσ H Q=>∃Hf,OSt X.K C b (sub as ρ) (as.zip q) σ H Hf/\∀vs H' Hf',OSt X.K C b (sub as ρ) (as.zip q') σ H' Hf'->B0 Hf Hf'->Reps X.K Hf' ds vs->Q vs H')
def ulN:UL:=λ_ q=>some ([],q)
def ulC(f:UD)(g:UL):UL:=λρ q=>(f ρ q).bind λx=>(g ρ x.2).map λy=>(x.1::y.1,y.2)
theorem bY5:UAs X C [] ulN:=λρ q ds q' w _=>by
 cases w;exact⟨rfl,rfl,λb as l pos pins s σ H Q I ⟨Hf,st,k⟩=>K2 pos pins s σ H Q I (k [] H Hf st (B0.refl _) rfl)⟩
theorem bF1(h:UE X C e f)(r:UAs X C es g)(hs:di (e::es) X.env=(false,eval e X.env)::di es X.env):UAs X C (e::es) (ulC f g):=λρ q ds q' w no=>by
 obtain⟨⟨x,q1⟩,w1,w⟩:=ae.mp w;obtain⟨⟨y,q2⟩,w2,w3⟩:=af.mp w;cases w3;obtain⟨l1,a1⟩:=h ρ q x q1 w1 no;obtain⟨l2,n2,a2⟩:=r ρ q1 y q2 w2 (by rw[l1];exact no);refine⟨l2.trans l1,by simp[n2],λb as l pos pins s σ H Q I ⟨Hf,st,k⟩=>?_⟩;exact C3 (a1 b as l) (a2 b as (l.trans l1.symm)) hs pos pins s σ H Q I ⟨Hf,st,λv H1 Hf1 s1 e1 r1=>⟨Hf1,s1,λvs H2 Hf2 s2 e2 r2=>k (v::vs) H2 Hf2 s2 (e1.trans e2) ⟨v,vs,rfl,r1.mono e2,r2⟩⟩⟩
def bG1(f:UL):UD:=λρ q=>(f ρ q).map λx=>(.tuple x.1,x.2)
theorem bY7(h:UAs X C es f)(hn:es.length<=1000):UE X C (.Tuple es k pos) (bG1 f):=λρ q d q' w no=>by
 obtain⟨⟨ds,q1⟩,w1,w2⟩:=af.mp w;cases w2;obtain⟨l1,n1,a1⟩:=h ρ q ds q1 w1 no;refine⟨l1,λb as l=>A4 (aQ4 (a1 b as l)) λσ H Q ⟨Hf,st,k⟩=>⟨Hf,st,λvs H1 Hf1 s1 e1 r=>⟨?_,λp hp=>?_⟩⟩⟩
 ·rw[r.length,n1];exact bE (U7 hn)
 ·have g:=Grow.laid (o:=.tup vs) s1.same hp;exact k _ _ _ (s1.grow g) (e1.trans g.ext) ⟨p,vs,rfl,SqT.of A6,r.mono g.ext⟩
end
end G
namespace G
open PySem PySem.Spec PyProof.Rows L2
def cC3(X:Cx)(C:CT)(x:Str)(F:DF)(n:Nat):Prop:=∃k f fd ps,FnOk X.prog X.w X.K X.mg X.base CX0 k f fd ps (spD X.K C n F)/\Room k X.A/\X.mg x=some (.ref f)/\aF X.K (.ref f)=true/\M4 X.K fd ps []
section
variable {X:Cx}{C:CT}{K:PySem.W.Frag}{Hf Hf':Hp}{a:Addr}
theorem Mxs.length:∀{ms:MD}{vs:List V},Mxs K Hf a ms vs->vs.length=ms.length
 | [],_,h=>by cases h;rfl
 | m::ms,_,⟨v,r,e,h1,h2⟩=>by subst e;simp[h2.length]
theorem Mxs.get:∀{ms:MD}{vs:List V},Mxs K Hf a ms vs->∀{i:Nat}{m:Option D},ms[i]? = some m->∃v,vs[i]? = some v/\MxV K Hf a m v
 | [],_,h,i,m,e=>by simp at e
 | m::ms,_,⟨v,r,e,h1,h2⟩,i,m',e'=>by
  subst e;cases i with
  | zero=>simp at e';subst e';exact⟨v,rfl,h1⟩
  | succ i=>exact h2.get (i:=i) (by simpa using e')
structure JM (X:Cx) (i:Nat) (es:List Expr) (g:Rho->Option MD):Prop where
 len:∀ρ ms,g ρ=some ms->ms.length=es.length
 run:∀ρ ms,g ρ=some ms->∀a ρ',ρ'[i]? = some (some (.opq a))->(∀{H0 H Hf:Hp}{σ:L2.St},Slots X.K H0 ρ' σ H Hf->Slots X.K H0 ρ σ H Hf) ->
  PA X es (λσ H Q=>∃H0 Hf,B0 Hf H/\Slots X.K H0 ρ' σ H Hf/\∀vs H' Hf',Grow H Hf H' Hf'->Mxs X.K Hf' a ms vs->Q vs H')
def mN:Rho->Option MD:=λ_=>some []
def mC(f:DE)(g:Rho->Option MD):Rho->Option MD:=λρ=>(f ρ).bind λd=>(g ρ).map λms=>some d::ms
def mO(g:Rho->Option MD):Rho->Option MD:=λρ=>(g ρ).map λms=>none::ms
theorem ck6:JM X i [] mN:=⟨λρ ms h=>by cases h;rfl,λρ ms h a ρ' _ _ pos pins s σ H Q I ⟨H0,Hf,ss,sl,k⟩=>by
 cases h
 exact K2 pos pins s σ H Q I (k [] H Hf (Grow.refl ss) rfl)⟩
theorem aY8(h:JE X e f)(r:JM X i es g)(hs:di (e::es) X.env=(false,eval e X.env)::di es X.env):JM X i (e::es) (mC f g):=by
 refine⟨λρ ms q=>?_,λρ ms q a ρ' sa sb=>?_⟩
 ·obtain⟨d,h1,h2⟩:=ae.mp q;obtain⟨es',h3,h4⟩:=af.mp h2;subst h4;simp[r.len ρ es' h3]
 ·obtain⟨d,h1,h2⟩:=ae.mp q;obtain⟨es',h3,h4⟩:=af.mp h2;subst h4;intro pos pins s σ H Q I ⟨H0,Hf,ss,sl,k⟩;refine C3 (h ρ d h1) (r.run ρ es' h3 a ρ' sa sb) hs pos pins s σ H Q I ⟨H0,Hf,ss,sb sl,λv H1 Hf1 g1 r1=>⟨H0,Hf1,g1.sub,sl.grow g1,λvs H2 Hf2 g2 r2=>?_⟩⟩;exact k (v::vs) H2 Hf2 (g1.trans g2) ⟨v,vs,rfl,Rep.mono g2.ext r1,r2⟩
theorem ck5(r:JM X i es g)(hn:X.N[i]? = some x)(hv:Vis X.env.scope x)(h1:(x==("__debug__" : Str))=false)(h2:(x==("__classdict__" : Str))=false)(hs:di (.Name x p::es) X.env=(false,eval (.Name x p) X.env)::di es X.env):JM X i (.Name x p::es) (mO g):=by
 refine⟨λρ ms q=>?_,λρ ms q a ρ' sa sb=>?_⟩
 ·obtain⟨es',h3,h4⟩:=af.mp q;subst h4;simp[r.len ρ es' h3]
 ·obtain⟨es',h3,h4⟩:=af.mp q;subst h4;intro pos pins s σ H Q I ⟨H0,Hf,ss,sl,k⟩;obtain⟨v,w1,w2⟩:=sl.is i _ sa;cases w2;exact C3 (U8 hn hv h1 h2) (r.run ρ es' h3 a ρ' sa sb) hs pos pins s σ H Q I ⟨_,w1,H0,Hf,ss,sl,λvs H2 Hf2 g2 r2=>k (.ref a::vs) H2 Hf2 g2 ⟨_,vs,rfl,rfl,r2⟩⟩
def uD(i:Nat)(F:DF)(g:Rho->Option MD):UD:=λρ q=>(S5 i ρ q).bind λp=>(g (era ρ)).bind λms=>(F p.2 ms).map λr=>(r.1,q.set p.1 r.2)
theorem cr8{e:Expr}{es:List Expr}(i:Nat)(N:cC3 X C y F n)(hg:Gl X y)(hdb:(y==("__debug__" : Str))=false)(hn:X.N[i]? = some x)(hv:Vis X.env.scope x)(h1:(x==("__debug__" : Str))=false)(h2:(x==("__classdict__" : Str))=false)(ha:JM X i (e::es) g)(hz:(e::es).length=n)
  (he:di (e::es) X.env=(false,eval e X.env)::di es X.env) (hpl:(backTo pos (di es X.env)).any (·.1)=false):UE X C (.Call (.Name y p) (e::es) [] pos) (uD i F g):=λρ q d q' w no=>by
 obtain⟨⟨j,o⟩,w1,w⟩:=ae.mp w;obtain⟨ms,w2,w⟩:=ae.mp w;obtain⟨⟨r,o'⟩,w3,w4⟩:=af.mp w;cases w4;refine⟨by simp,λb as l=>?_⟩;obtain⟨a,ea,A⟩:=N6 w1 (T5 no) l hn hv h1 h2;rw[O0 ea];obtain⟨k,f,fd,ps,Fk,hr,hm,hk,hb⟩:=N;refine A4 (an8 Fk hr hg hm hk hb .nil x9 (ha.run (era ρ) ms w2 a (sub as ρ) A.s λs=>by rw[← P8 as ρ];exact s.era) hdb he hpl) λσ H Q ⟨Hf,st,kk⟩=>?_
 obtain⟨c,f1,f3⟩:=st.focus A.w A.o;refine⟨_,Hf,st.same,st.sl,λvs H1 Hf1 g1 r1=>⟨?_,a,Hf1,c,o,ms,r,o',g1.sub,f1.grow g1,by rw[ar];exact r1,w3,λv H2 Hf2 c' g2 f2 n2 rv=>kk v H2 Hf2 (f3 ((Chg.of g1).trans g2 λ_ h=>.inl h) f2 λy hy=>(n2 y hy).imp id λz=>aK λw=>(Chg.of (S:=[]) g1).kp y w z) (g1.ext.trans g2.ext) rv⟩⟩;rw[ar,r1.length,ha.len _ ms w2,hz]
end
def cn9:Option D->Option B
 | some d=>‹d›
 | none=>some (.opq 0)
def O1(n:Nat)(ms:MD):Rho:=ms.map cn9++aq (n - ms.length) none
def N7(g:UX)(n:Nat):DF:=λo ms=>(g (O1 n ms) [o]).bind λfl=>match fl with
 | .rt d q=>(q[0]?).map λo'=>(d,o')
 | .nx _ q=>(q[0]?).map λo'=>(.none,o')
 | _=>none
theorem ae1(n:Nat)(ms:MD):okR 1 (O1 n ms)=true:=by
 unfold okR O1;rw[bB];intro x hx;rcases aR.mp hx with h|h
 ·obtain⟨d,_,rfl⟩:=bc.mp h;cases d<;>rfl
 ·rw[(cF.mp h).2]
theorem ad3{K:ag}{H0 H Hf:Hp}{N:List Str}{ms:MD}{vs:List V}(r:Mxs K Hf a ms vs):Slots K H0 (sub [a] (O1 N.length ms)) (L2.start N vs) H Hf:=by
 have hl:=r.length
 have noown:∀(i:Nat) (b:B),(sub [a] (O1 N.length ms))[i]? = some (some b)->∃m,ms[i]? = some m/\some b=ca5 [a] (cn9 m):=λi b h=>by
  unfold O1 sub at h;rw[cf]at h;rcases bx i ms.length with q|q
  ·rw[aw (by simpa using q),aE,aE]at h;rw[aV q]at h ⊢;simp only[xms,bn.injEq]at h;exact⟨ms[i],rfl,h.symm⟩
  ·rw[am (by simpa using q),aE,be]at h;split at h<;>cases h
 refine⟨by simp[O1,L2.start,hl],λi b e=>?_,λi j d1 d2 a e1 _ _ _=>?_⟩
 ·obtain⟨m,h1,h2⟩:=noown i b e;obtain⟨v,h3,h4⟩:=r.get h1;have hi:i < vs.length:=(ak.mp h3).1;refine⟨v,?_,?_⟩
  ·unfold L2.start;rw[aw (by simpa using hi),aE,h3];rfl
  ·cases m with
   | none=>cases h2;exact h4
   | some d=>cases h2;exact h4
 ·obtain⟨m,_,h2⟩:=noown i _ e1;cases m<;>cases h2
section
variable {P:Program}{w:World}{K:PySem.W.Frag}{mg:Str->Option Value}{base:Heap}{x qual:Str}{st:Stmt}{f:Addr}{fd:FuncData}{N ps:List Str}{k:Nat}{g:UX}{C:CT}
theorem aL9(F:Fun K x qual st f fd)(S:FnScope N ps (A9 st))
  (hb:∀(cdv:dU) (A:dr) (outer:List Env) (s:dW) (H:Hp) (E:XK),Room k (A.deeper (envOfC qual (A9 st) s.heap.objs.size f cdv))->USs (ah2 CX0 P w K mg base N qual (A9 st) f cdv A outer s H E).nox C (C4 st) g) :
  FnOk P w K mg base CX0 (k+1) f fd ps (spD K C ps.length (N7 g N.length)):=by
 refine F.ok S (λvs H Q E h=>h.1) λcdv A outer s H vs Q E hr hsp=>?_
 obtain⟨hlen,a,Hf,c,o,ms,r,o',ss,fo,rp,e,kk⟩:=hsp;obtain⟨fl,e1,e2⟩:=ae.mp e;obtain⟨_,h⟩:=hb cdv A outer s H E hr _ [o] fl e1 (ae1 _ _)
 have fin:∀ex q ρ' σ' v H' Hf',q[0]? = some o'->OSt K C ⟨cells a c,H,Hf⟩ ρ' (([a]++ex).zip q) σ' H' Hf'->Rep K Hf' r v->Q v H':=λex q ρ' σ' v H' Hf' hq s' rv=>by
  obtain⟨R,r1,r2,_⟩:=s'.ob;obtain⟨c',f1,f2,_⟩:=r1.focus (j:=0) (a:=a) (o:=o') (bi.mpr ⟨rfl,hq⟩);exact kk v H' Hf' c' s'.gr f1 (λx hx=>r2 x (f2 x hx)) rv
 refine⟨_,h ⟨cells a c,H,Hf⟩ [a] rfl,Hf,⟨Chg.of (Grow.refl ss),cells a c++[],.cons fo (by simp) .nil,λx hx=>.inl (by simpa using hx),ad3 rp⟩,?_⟩;cases fl with
 | rt d' q =>
  obtain⟨o1,e3,e4⟩:=af.mp e2;cases e4;exact λex ρ σ v H' Hf' l s' r=>fin ex q ρ σ v H' Hf' e3 s' r
 | nx ρ q =>
  obtain⟨o1,e3,e4⟩:=af.mp e2;cases e4;exact λex σ' H' Hf' l s' _=>fin ex q _ σ' _ H' Hf' e3 s' rfl
 | ro j q=>cases e2
end
end G
namespace G
open PySem PySem.Spec PyProof.Rows L2
section
variable {X:Cx}{C:CT}
def UW(X:Cx)(C:CT)(op:BoolOp)(es:List Expr)(g:UB):Prop:=∀ρ q c q',g ρ q=some (c,q')->okR q.length ρ=true->q'.length=q.length/\∀b (as:List dX),as.length=q.length->∀pos,
 PW X (.BoolOp op es pos) (λσ H Q=>∃Hf,OSt X.K C b (sub as ρ) (as.zip q) σ H Hf/\∀H' Hf',OSt X.K C b (sub as ρ) (as.zip q') σ H' Hf'->B0 Hf Hf'->Q c H')
theorem bD7(h:UT X C e f):UW X C .And [e] f:=λρ q c q' w no=>by
 obtain⟨l1,a1⟩:=h ρ q c q' w no;exact⟨l1,λb as l pos=>aW9 (a1 b as l)⟩
theorem bX1(h:UT X C e f):UW X C .Or [e] f:=λρ q c q' w no=>by
 obtain⟨l1,a1⟩:=h ρ q c q' w no;exact⟨l1,λb as l pos=>bn8 (a1 b as l)⟩
theorem bX2(h:UT X C e f)(r:UW X C .And (eb::es) g):UW X C .And (e::eb::es) (am2 f g):=λρ q c q' w no=>by
 obtain⟨⟨x,q1⟩,w1,w⟩:=ae.mp w;obtain⟨l1,a1⟩:=h ρ q x q1 w1 no;cases x with
 | true =>
  obtain⟨l2,a2⟩:=r ρ q1 c q' w (by rw[l1];exact no);exact⟨l2.trans l1,λb as l pos=>aa7 (aC4 (a1 b as l) (a2 b as (l.trans l1.symm) pos)) λσ H Q ⟨Hf,st,k⟩=>⟨Hf,st,λH1 Hf1 s1 e1=>ae6 ⟨Hf1,s1,λH2 Hf2 s2 e2=>k H2 Hf2 s2 (e1.trans e2)⟩⟩⟩
 | false =>
  cases w;exact⟨l1,λb as l pos=>aa7 (aC4 (tB':=λ_ _ _=>False) (a1 b as l) (λ_ _ _ _ _ _ _ h=>h.elim)) λσ H Q ⟨Hf,st,k⟩=>⟨Hf,st,λH1 Hf1 s1 e1=>aj1 (k H1 Hf1 s1 e1)⟩⟩
theorem cr1(h:UT X C e f)(r:UW X C .Or (eb::es) g):UW X C .Or (e::eb::es) (uOr f g):=λρ q c q' w no=>by
 obtain⟨⟨x,q1⟩,w1,w⟩:=ae.mp w;obtain⟨l1,a1⟩:=h ρ q x q1 w1 no;cases x with
 | false =>
  obtain⟨l2,a2⟩:=r ρ q1 c q' w (by rw[l1];exact no);exact⟨l2.trans l1,λb as l pos=>aa7 (aW8 (a1 b as l) (a2 b as (l.trans l1.symm) pos)) λσ H Q ⟨Hf,st,k⟩=>⟨Hf,st,λH1 Hf1 s1 e1=>aj1 ⟨Hf1,s1,λH2 Hf2 s2 e2=>k H2 Hf2 s2 (e1.trans e2)⟩⟩⟩
 | true =>
  cases w;exact⟨l1,λb as l pos=>aa7 (aW8 (tB':=λ_ _ _=>False) (a1 b as l) (λ_ _ _ _ _ _ _ h=>h.elim)) λσ H Q ⟨Hf,st,k⟩=>⟨Hf,st,λH1 Hf1 s1 e1=>ae6 (k H1 Hf1 s1 e1)⟩⟩
theorem UW.ut(h:UW X C op es g):UT X C (.BoolOp op es pos) g:=λρ q c q' w no=>by
 obtain⟨l1,a1⟩:=h ρ q c q' w no;exact⟨l1,λb as l=>(a1 b as l pos).pt⟩
theorem bY9(h:UE X C e f):UE X C (.BoolOp op [e] pos) f:=λρ q d q' w no=>by
 obtain⟨l1,a1⟩:=h ρ q d q' w no;exact⟨l1,λb as l=>bo8 (a1 b as l)⟩
theorem bG0(ha:UE X C ea f)(hb:UE X C (.BoolOp .And (eb::es) pos) g):UE X C (.BoolOp .And (ea::eb::es) pos) (aI0 f g):=λρ q d q' w no=>by
 obtain⟨⟨x,q1⟩,w1,w⟩:=ae.mp w;obtain⟨c,w2,w⟩:=ae.mp w;have:x=.bool c:=by cases x<;>cases w2;rfl
 subst this;obtain⟨l1,a1⟩:=ha ρ q _ q1 w1 no;cases c with
 | true =>
  obtain⟨l2,a2⟩:=hb ρ q1 d q' w (by rw[l1];exact no);exact⟨l2.trans l1,λb as l=>A4 (aC6 (a1 b as l) (a2 b as (l.trans l1.symm))) λσ H Q ⟨Hf,st,k⟩=>⟨Hf,st,λv H1 Hf1 s1 e1 r1=>⟨true,r1,ae6 ⟨Hf1,s1,λu H2 Hf2 s2 e2 r2=>k u H2 Hf2 s2 (e1.trans e2) r2⟩⟩⟩⟩
 | false =>
  cases w;exact⟨l1,λb as l=>A4 (aC6 (tb:=λ_ _ _=>False) (a1 b as l) (λ_ _ _ _ _ _ h=>h.elim)) λσ H Q ⟨Hf,st,k⟩=>⟨Hf,st,λv H1 Hf1 s1 e1 r1=>⟨false,r1,aj1 (k _ H1 Hf1 s1 e1 rfl)⟩⟩⟩
end
end G
namespace G
open PySem PySem.Spec PyProof.Rows L2
section
variable {X:Cx}{C:CT}{fn:List Str}
def frD:Fv->Option D
 | .frz d=>some d
 | _=>none
theorem cm9(h:(o:Option Fv).bind frD=some d):o=some (.frz d):=by
 obtain⟨w,rfl,h⟩:=ae.mp h;cases w<;>cases h;rfl
def ap9(i:Nat)(kd:Bool)(f:Str):UD:=λρ q=>(S5 i ρ q).bind λp=>if p.2.k=kd then((p.2.l.lookup f).bind frD).map λd=>(d,q) else none
theorem bZ1(i:Nat)(c:FoC X.K (C kd) fn)(hf:f∈fn)(hn:X.N[i]? = some x)(hv:Vis X.env.scope x)(h1:(x==("__debug__" : Str))=false)(h2:(x==("__classdict__" : Str))=false)(hb:dB (.Name x p) f X.env (eval (.Name x p) X.env)=eval (.Name x p) X.env):
  UE X C (.Attribute (.Name x p) f pos) (ap9 i kd f):=λρ q d q' w no=>by
 obtain⟨⟨j,o⟩,e1,w⟩:=ae.mp w;split at w
 ·rename_i hk;obtain⟨d',e2,e3⟩:=af.mp w;cases e3;refine⟨rfl,λb as l=>?_⟩;obtain⟨a,ea,A⟩:=N6 e1 (T5 no) l hn hv h1 h2;exact cf2 A c hk hf (cm9 e2) hb
 ·cases w
theorem bm9(h:S5 i ρ q=some (j,o))(l:q'.length=q.length):∃o',S5 i ρ q'=some (j,o'):=by
 unfold S5 at h ⊢;split at h
 ·rename_i j' e;obtain⟨o1,e1,e2⟩:=af.mp h;cases e2;have hj:j < q'.length:=by rw[l];exact(ak.mp e1).1
  exact⟨q'[j],by rw[aV hj];rfl⟩
 ·cases h
def ak8(i:Nat)(kd:Bool)(f:Str)(g:UD):UX:=λρ q=>(g ρ q).bind λx=>(S5 i ρ x.2).bind λp=>if p.2.k=kd/\p.2.l.length < 1000 then some (.nx ρ (x.2.set p.1 ⟨p.2.k,T3 f (.frz x.1) p.2.l⟩)) else none
theorem bE0(i:Nat)(c:FoC X.K (C kd) fn)(hf:f∈fn)(hn:X.N[i]? = some x)(hv:Vis X.env.scope x)(h1:(x==("__debug__" : Str))=false)(h2:(x==("__classdict__" : Str))=false)(h:UE X C e g)(hs:swapsWith e (some (.Attribute (.Name x p) f pos')) pos.line X.env=pure false):
  US X C (.Assign [.Attribute (.Name x p) f pos'] e pos) (ak8 i kd f g):=λρ q fl w no=>by
 obtain⟨⟨d,q1⟩,w1,w⟩:=ae.mp w;obtain⟨⟨j,o1⟩,w2,w⟩:=ae.mp w;split at w
 ·rename_i hz;cases w;obtain⟨l1,a1⟩:=h ρ q d q1 w1 no;obtain⟨o0,w0⟩:=bm9 w2 l1.symm;refine⟨by show okR (q1.set j _).length ρ=true;rw[bw,l1];exact no,λb as l=>?_⟩;obtain⟨a,ea,A⟩:=N6 w0 (T5 no) l hn hv h1 h2;obtain⟨a',ea',A'⟩:=N6 w2 (T5 no) (l.trans l1.symm) hn hv h1 h2;rw[ea]at ea';cases ea';exact F6 (cd9 A c hf (a1 b as l) A'.o hz.1 hz.2 hs) λEn σ H ⟨Hf,st,k⟩=>⟨Hf,st,λσ' H' Hf' s' e'=>as7 k (by rw[bw];exact l.trans l1.symm) σ' H' Hf' (by rw[O0 ea];exact s') e'⟩
 ·cases w
def U6(F:FnD)(g:UL):UD:=λρ q=>(g ρ q).bind λx=>(F x.1).map λd=>(d,x.2)
theorem bk4{e:Expr}{es:List Expr}(hF:cC2 X y F n)(hu:X.A.units+64 < cLine)(hg:Gl X y)(hdb:(y==("__debug__" : Str))=false)(ha:UAs X C (e::es) g)(hz:(e::es).length=n)
  (he:di (e::es) X.env=(false,eval e X.env)::di es X.env) (hpl:(backTo pos (di es X.env)).any (·.1)=false):UE X C (.Call (.Name y p) (e::es) [] pos) (U6 F g):=λρ q d q' w no=>by
 obtain⟨⟨ds,q1⟩,w1,w⟩:=ae.mp w;obtain⟨d',w2,w3⟩:=af.mp w;cases w3;obtain⟨l1,n1,a1⟩:=ha ρ q ds q1 w1 no;refine⟨l1,λb as l=>?_⟩;rcases hF with⟨k,f,fd,ps,hk,hr,hm,hkp,hb⟩|⟨hm,hb⟩
 ·refine A4 (an8 hk hr hg hm hkp hb .nil x9 (a1 b as l) hdb he hpl) λσ H Q ⟨Hf,st,kk⟩=>⟨Hf,st,λvs H1 Hf1 s1 e1 r1=>⟨by rw[ar,r1.length,n1,hz],Hf1,ds,d,s1.same,by rw[ar];exact r1,w2,λv H2 Hf2 g2 r2=>kk v H2 Hf2 (s1.grow g2) (e1.trans g2.ext) r2⟩⟩
 ·obtain⟨_,hnn,nm,hv,hc⟩:=hb;exact A4 (T4 (hc X hu) hg hm hv (a1 b as l) hnn hdb he hpl) λσ H Q ⟨Hf,st,kk⟩=>⟨Hf,st,λvs H1 Hf1 s1 e1 r1=>⟨by rw[r1.length,n1,hz],Hf1,ds,d,s1.same,r1,w2,λv H2 Hf2 g2 r2=>kk v H2 Hf2 (s1.grow g2) (e1.trans g2.ext) r2⟩⟩
def cD0(f:UD)(g:DE):UD:=λρ q=>(f ρ q).bind λx=>(aq4 x.1).bind λs=>(g (era ρ)).bind λk=>match k with
 | .int k=>(atI s.2 k).map λd=>(d,x.2)
 | _=>none
theorem cC9(ha:UE X C a f)(hb:JE X b g)(hs:ah5 b):UE X C (.Subscript a b pos) (cD0 f g):=λρ q d q' w no=>by
 obtain⟨⟨x,q1⟩,w1,w⟩:=ae.mp w;obtain⟨⟨t,ds⟩,w2,w⟩:=ae.mp w;obtain⟨y,w3,w⟩:=ae.mp w;split at w
 ·obtain⟨d',w4,w5⟩:=af.mp w;cases w5;obtain⟨l1,a1⟩:=ha ρ q x q1 w1 no;refine⟨l1,λbb as l=>A4 (bp1 aR5 (a1 bb as l) (hb (era ρ) _ w3) hs) λσ H Q ⟨Hf,st,k⟩=>⟨Hf,st,λv H1 Hf1 s1 e1 r1=>⟨_,Hf1,s1.same,by rw[← P8 as ρ];exact s1.sl.era,λu H2 Hf2 g2 r2=>?_⟩⟩⟩;have s2:=s1.grow g2;have rx:=r1.mono g2.ext;have sq:=s2.same;cases x with
  | tuple xs =>
   cases w2;obtain⟨p,vs,e1',e2,e3⟩:=rx;obtain⟨w,q1,q2⟩:=ag2 e3 w4;exact .inr (.inl ⟨p,vs,_,w,e1',r2,B8 sq e2,q1,k w H2 Hf2 s2 (e1.trans g2.ext) q2⟩)
  | list xs =>
   cases w2;obtain⟨p,vs,e1',e2,e3⟩:=rx;obtain⟨w,q1,q2⟩:=ag2 e3 w4;exact .inl ⟨p,vs,_,w,e1',r2,D9 sq e2,q1,k w H2 Hf2 s2 (e1.trans g2.ext) q2⟩
  | _=>cases w2
 ·cases w
theorem bZ3(o:OpD X (dv op) h)(ha:UE X C ea f)(hb:UE X C eb g):UE X C (.BinOp ea op eb pos) (uB2 h f g):=λρ q d q' w no=>by
 obtain⟨⟨x,q1⟩,w1,w⟩:=ae.mp w;obtain⟨⟨y,q2⟩,w2,w⟩:=ae.mp w;obtain⟨z,w3,w4⟩:=af.mp w;cases w4;obtain⟨l1,a1⟩:=ha ρ q x q1 w1 no;obtain⟨l2,a2⟩:=hb ρ q1 y q2 w2 (by rw[l1];exact no);exact⟨l2.trans l1,λb as l=>A4 (bS6 (o x y _ w3) (a1 b as l) (a2 b as (l.trans l1.symm))) λσ H Q ⟨Hf,st,k⟩=>⟨Hf,st,λv H1 Hf1 s1 e1 r1=>⟨Hf1,s1,λu H2 Hf2 s2 e2 r2=>⟨Hf2,s2.same,r1.mono e2,r2,λz H3 Hf3 g r3=>k z H3 Hf3 (s2.grow g) ((e1.trans e2).trans g.ext) r3⟩⟩⟩⟩
end
end G
namespace G
open PySem PySem.Spec PyProof.Rows L2
section
variable {X:Cx}{C:CT}
def bk5(f g:UD):UD:=λρ q=>(f ρ q).bind λx=>(aq4 x.1).bind λs=>(g ρ x.2).bind λk=>match k.1 with
 | .int n=>(atI s.2 n).map λd=>(d,k.2)
 | _=>none
theorem bZ0(ha:UE X C a f)(hb:UE X C b g)(hs:ah5 b):UE X C (.Subscript a b pos) (bk5 f g):=λρ q d q' w no=>by
 obtain⟨⟨x,q1⟩,w1,w⟩:=ae.mp w;obtain⟨⟨t,ds⟩,w2,w⟩:=ae.mp w;obtain⟨⟨y,q2⟩,w3,w⟩:=ae.mp w;dsimp only at w;split at w
 ·obtain⟨d',w4,w5⟩:=af.mp w;cases w5;obtain⟨l1,a1⟩:=ha ρ q x q1 w1 no;obtain⟨l2,a2⟩:=hb ρ q1 _ _ w3 (by rw[l1];exact no);refine⟨l2.trans l1,λbb as l=>A4 (bp1 aR5 (a1 bb as l) (a2 bb as (l.trans l1.symm)) hs) λσ H Q ⟨Hf,st,k⟩=>⟨Hf,st,λv H1 Hf1 s1 e1 r1=>⟨Hf1,s1,λu H2 Hf2 s2 e2 r2=>?_⟩⟩⟩;have rx:=r1.mono e2;have sq:=s2.same;cases x with
  | tuple xs =>
   cases w2;obtain⟨p,vs,e1',e2',e3⟩:=rx;obtain⟨w,q1,q2⟩:=ag2 e3 w4;exact .inr (.inl ⟨p,vs,_,w,e1',r2,B8 sq e2',q1,k w H2 Hf2 s2 (e1.trans e2) q2⟩)
  | list xs =>
   cases w2;obtain⟨p,vs,e1',e2',e3⟩:=rx;obtain⟨w,q1,q2⟩:=ag2 e3 w4;exact .inl ⟨p,vs,_,w,e1',r2,D9 sq e2',q1,k w H2 Hf2 s2 (e1.trans e2) q2⟩
  | _=>cases w2
 ·cases w
end
end G
namespace G
open PySem PySem.Spec PyProof.Rows L2
section
variable {X:Cx}{C:CT}
def aw8(f:UD):UD:=λρ q=>(f ρ q).bind λx=>(aq4 x.1).map λs=>(.int s.2.length,x.2)
theorem bF7(hg:Gl X "len")(hm:X.mg "len" = none)(h:UE X C e f)(he:di [e] X.env=[(false,eval e X.env)]):UE X C (.Call (.Name "len" p) [e] [] pos) (aw8 f):=λρ q d q' w no=>by
 obtain⟨⟨x,q1⟩,w1,w⟩:=ae.mp w;obtain⟨⟨t,ds⟩,w2,w3⟩:=af.mp w;cases w3;obtain⟨l1,a1⟩:=h ρ q x q1 w1 no;refine⟨l1,λb as l=>A4 (T4 ah4 hg hm aT5 (C3 (a1 b as l) K2 he) (he:=he)) λσ H Q ⟨Hf,st,k⟩=>⟨Hf,st,λv H1 Hf1 s1 e1 r=>?_⟩⟩;have sq:=s1.same;cases x with
 | tuple xs =>
  cases w2;obtain⟨p,vs,rfl,e2,e3⟩:=r;exact⟨p,vs,rfl,.inr (B8 sq e2),k _ H1 Hf1 s1 e1 (by rw[e3.length];rfl)⟩
 | list xs =>
  cases w2;obtain⟨p,vs,rfl,e2,e3⟩:=r;exact⟨p,vs,rfl,.inl (D9 sq e2),k _ H1 Hf1 s1 e1 (by rw[e3.length];rfl)⟩
 | _=>cases w2
end
end G
namespace G
open PySem PySem.Spec PyProof.Rows L2
section
variable {X:Cx}{C:CT}
def hpX:Hp:=λ_=>some (.lst [])
def tEl(K:ag)(C:CT)(a:dX)(gU:UD):TE:=λσ H Q=>∃k o y o' Hf c,gU [‹k›,some (.opq 0)] [o]=some (y,[o'])/\B0 Hf H/\Slots K hpX [‹k›,some (.opq a)] σ H Hf/\FoAt K C H Hf a c o /\
 ∀v H' Hf' c',Chg (cells a c) H Hf H' Hf'->FoAt K C H' Hf' a c' o'->(∀x∈cells a c',x∈cells a c\/H x=none)->Rep K Hf' y v->Q v H'
theorem bS7(h:UE X C elt gU):PE X elt (tEl X.K C a gU):=λpins s σ H Q I ⟨k,o,y,o',Hf,c,e1,ss,sl,fo,kk⟩=>by
 obtain⟨_,a1⟩:=h _ _ _ _ e1 rfl;refine a1 ⟨cells a c,H,Hf⟩ [a] rfl pins s σ H Q I ⟨Hf,⟨Chg.of (Grow.refl ss),cells a c++[],.cons fo (by simp) .nil,λx hx=>.inl (by simpa using hx),sl.chg (S:=[]) (Chg.of (Grow.refl ss)) (by simp) λx h _=>nomatch h⟩,λv H' Hf' s' e' r=>?_⟩;obtain⟨R,r1,r2,_⟩:=s'.ob;obtain⟨c',f1,f2,_⟩:=r1.focus (j:=0) (a:=a) (o:=o') rfl;exact kk v H' Hf' c' s'.gr f1 (λx hx=>r2 x (f2 x hx)) r
theorem aI9{α:Type}{l:List α}{j:Nat}{x:α}(h:l[j]? = some x):l.set j x=l:=by
 obtain⟨hj,e⟩:=ak.mp h;subst e;exact List.set_getElem_self hj
def cpT(g:UD):Fo->List D->Option (List D×Fo)
 | o,[]=>some ([],o)
 | o,k::ks=>(g [‹k›,some (.opq 0)] [o]).bind λr=>match r.2 with
  | [o']=>(cpT g o' ks).map λl=>(r.1::l.1,l.2)
  | _=>none
def bG2(n i:Nat)(src:Rho->Option (List D))(g:UD):UX:=λρ q=>(src (era ρ)).bind λks=>(S5 i ρ q).bind λp=>if ks.length<=1000 then(cpT g p.2 ks).map λl=>.nx (ρ.set n (‹.list l.1›)) (q.set p.1 l.2) else none
theorem Slots.push{K:ag}{H0 H Hf:Hp}{ρ:Rho}{σ:L2.St}{p:dX}(s:Slots K H0 ρ σ H Hf)(n0:H0 p=none)(hp:H p=none)(nf:Hf p=none)(sm:B0 Hf H):Slots K H0 (ρ++[some (.own [])]) (σ++[some (.ref p)]) (upd H p (.lst [])) Hf:=by
 have s2:Slots K H0 (ρ++[none]) (σ++[none]) H Hf:=by
  have at_:∀(i:Nat) (b:B),(ρ++[none])[i]? = some (some b)->ρ[i]? = some (some b)/\i < ρ.length:=λi b e=>by
   rcases bx i ρ.length with q|q
   ·rw[aw q]at e;exact⟨e,q⟩
   ·rw[am q]at e;cases h:i - ρ.length with
    | zero=>rw[h]at e;cases e
    | succ n=>rw[h]at e;cases e
  refine⟨by simp[s.len],λi b e=>?_,λi j d1 d2 a h1 h2 h3 h4=>?_⟩
  ·obtain⟨e1,e2⟩:=at_ i b e;obtain⟨v,v1,v2⟩:=s.is i b e1;exact⟨v,by rw[aw (by rw[← s.len];exact e2)];exact v1,v2⟩
  ·obtain⟨e1,l1⟩:=at_ i _ h1;obtain⟨e2,l2⟩:=at_ j _ h2;rw[aw (by rw[← s.len];exact l1)]at h3;rw[aw (by rw[← s.len];exact l2)]at h4;exact s.apart i j d1 d2 a e1 e2 h3 h4
 have:=s2.setOwn (i:=ρ.length) (ds:=[]) (vs:=[]) (Grow.made sm hp) n0 hp A6 nf rfl;rw[s.len]at this;simpa [← s.len] using this
theorem Slots.pop{K:ag}{H0 H Hf:Hp}{ρ:Rho}{σ:L2.St}{x:Option B}{y:Option V}(s:Slots K H0 (ρ++[x]) (σ++[y]) H Hf):Slots K H0 ρ σ H Hf:=by
 have hl:ρ.length=σ.length:=by have:=s.len;simpa using this
 have up:∀(i:Nat) (b:B),ρ[i]? = some (some b)->(ρ++[x])[i]? = some (some b)/\i < ρ.length:=λi b e=>by
  have:=(ak.mp e).1;exact⟨by rw[aw this];exact e,this⟩
 refine⟨hl,λi b e=>?_,λi j d1 d2 a h1 h2 h3 h4=>?_⟩
 ·obtain⟨e1,l1⟩:=up i b e;obtain⟨v,v1,v2⟩:=s.is i b e1;rw[aw (by rw[← hl];exact l1)]at v1;exact⟨v,v1,v2⟩
 ·obtain⟨e1,l1⟩:=up i _ h1;obtain⟨e2,l2⟩:=up j _ h2;exact s.apart i j d1 d2 a e1 e2 (by rw[aw (by rw[← hl];exact l1)];exact h3) (by rw[aw (by rw[← hl];exact l2)];exact h4)
theorem OSt.push{K:ag}{b:Bs}{ρ:Rho}{os:Os}{σ:L2.St}{H Hf:Hp}{p:dX}(s:OSt K C b ρ os σ H Hf)(hp:H p=none):OSt K C b (ρ++[some (.own [])]) os (σ++[some (.ref p)]) (upd H p (.lst [])) Hf:=by
 obtain⟨R,r1,r2,r3⟩:=s.ob;have g:Grow H Hf (upd H p (.lst [])) Hf:=Grow.made s.same hp;refine⟨(s.grow g).gr,R,r1.chg (S:=[]) (Chg.of g) (by simp),r2,r3.push (aR8 (λz=>r1.there p z hp) ?_) hp (s.same.free hp) s.same⟩;exact aK λz=>s.gr.kp p z hp
theorem OSt.pop{K:ag}{b:Bs}{ρ:Rho}{os:Os}{σ:L2.St}{H Hf:Hp}{x:Option B}{y:Option V}(s:OSt K C b (ρ++[x]) os (σ++[y]) H Hf):OSt K C b ρ os σ H Hf:=by
 obtain⟨R,r1,r2,r3⟩:=s.ob;exact⟨s.gr,R,r1,r2,r3.pop⟩
theorem bj4{gU:UD}(n i:Nat)(hN:X.N.Nodup)(S:CompSc X N' 1 [i] scope)(hx:∀e s,X.xe e s->False)(hit:JI X tgt iter src)(hg:∀C s0 H0 ex,JG (B4 X N' scope C s0 H0 ex) tgt (K5 0))(hel:∀C0 s0 H0 ex,UE (B4 X N' scope C0 s0 H0 ex) C elt gU)
  (hn:X.N[i]? = some x) (hv:Vis X.env.scope x) (h1:(x==("__debug__" : Str))=false) (h2:(x==("__classdict__" : Str))=false) (hm:X.N[n]? = some y) (hl:X.env.scope.names.lookup y=some .local) (hsw:swapsWith (.ListComp elt [⟨tgt,iter,[],0⟩] scope pos) (some (.Name y pos')) spos.line X.env=pure true)
  (hc:X.calm=true) (hs:∀x,dz iter X.env x=pure x):US X C (.Assign [.Name y pos'] (.ListComp elt [⟨tgt,iter,[],0⟩] scope pos) spos) (bG2 n i src gU):=λρ q fl w no=>by
 obtain⟨ks,w1,w⟩:=ae.mp w;obtain⟨⟨j,o⟩,w3,w⟩:=ae.mp w;split at w
 ·rename_i hz;obtain⟨⟨l,oe⟩,w4,w5⟩:=af.mp w;cases w5;refine⟨ao0 (by rw[bw];exact no),λb as len=>?_⟩;obtain⟨a,ea,A⟩:=N6 w3 (T5 no) len hn hv h1 h2
  have zq:∀u:Fo,(as.zip (q.set j u))[j]? = some (a,u):=λu=>by
   rw[O0 ea,az (ak.mp A.o).1]
  have zz:∀u u':Fo,(as.zip (q.set j u)).set j (a,u')=as.zip (q.set j u'):=λu u'=>by
   rw[O0 ea,O0 ea,List.set_set]
  refine F6 (o4 S hx hc hN hm hl (hit (era ρ) ks w1) (g:=tgJ X.K (K5 0)) (tc:=af5 X.K K9) (te:=tEl X.K C a gU) hg (λC s0 H0 ex=>aD9) (λC0 s0 H0 ex=>bS7 (hel C0 s0 H0 ex)) hsw hs) λEn σ H ⟨Hf,st,kk⟩=>?_
  refine⟨_,Hf,st.same,by rw[← P8 as ρ];exact st.sl.era,λJ H1 Hf1 gr1 Y Dd hD=>?_⟩;have st1:=st.grow gr1
  have c0:Slots X.K hpX [none,some (.opq a)] (am9 1 [i] σ) (upd H1 Dd (.lst [])) Hf1:=by
   have:=X9 st1 A.s;refine⟨rfl,λn bb e=>?_,λn m d1 d2 aa e=>?_⟩
   ·cases n with
    | zero=>cases e
    | succ n=>cases n with
     | zero=>cases e;exact⟨.ref a,by show some (σ[i]?).join=_;rw[this];rfl,rfl⟩
     | succ n=>cases e
   ·cases n with
    | zero=>cases e
    | succ n=>cases n with
     | zero=>cases e
     | succ n=>cases e
  have q0:as.zip (q.set j o)=as.zip q:=by rw[O0 ea];exact aI9 A.o
  refine⟨λi m ys σ' H'=>m=ks.length - i/\i<=ks.length/\∃Hf' z o1 o2 u,OSt X.K C b (sub as ρ++[some (.own o1)]) (as.zip (q.set j u)) (σ++[some (.ref Dd)]) H' Hf'/\B0 Hf1 Hf'/\H' Dd=some (.lst ys)/\Slots X.K hpX [z,some (.opq a)] σ' H' Hf'/\o1.length=i/\cpT gU u (ks.drop i)=some (o2,oe)/\o1++o2=l,
   ⟨ks.length,by simp,aW _,Hf1,none,[],l,o,by rw[q0];exact st1.push hD,B0.refl _,A6,c0,rfl,by simpa using w4,rfl⟩,?_⟩
  rintro n m ys σ' H' ⟨rfl,hi,Hf',z,o1,o2,u,st',sm,hd,sl',ho,ec,eo⟩
  obtain⟨Ys,Yg⟩:=Y n H' Hf' sm st'.same;have own:(sub as ρ++[some (B.own o1)])[(sub as ρ).length]? = some (some (.own o1)):=by rw[am (ai _),aQ];rfl
  have hsl:(sub as ρ).length=σ.length:=st1.sl.len;rcases bx n ks.length with hlt|hge
  ·right
   obtain⟨go,yl⟩:=Yg ks[n] (by simp[hlt]);rw[bO hlt]at ec;obtain⟨⟨y,qy⟩,c1,ec⟩:=ae.mp ec;dsimp only at ec;split at ec
   ·rename_i u';obtain⟨⟨o3,oe'⟩,c2,c3⟩:=af.mp ec;cases c3;refine⟨go,λx H2 hy=>?_⟩;obtain⟨Hf2,g2,r2⟩:=yl x H2 hy;refine⟨ks[n],_,_,hpX,Hf2,rfl,g2.sub,sl'.grow g2,r2,λσ3 sl3=>⟨_,true,rfl,hpX,Hf2,g2.sub,sl3,λH4 Hf4 g4=>ae6 ?_⟩⟩;have st4:=(st'.grow g2).grow g4;have hd4:H4 Dd=some (.lst ys):=g4.big _ _ (g2.big _ _ hd);obtain⟨c,f1,f3⟩:=st4.focus rfl (zq u);refine⟨ks[n],u,y,u',Hf4,c,c1,st4.same,sl3.grow g4,f1,λv H5 Hf5 c' ch fo n5 r5=>?_⟩;have st5:=f3 ch fo n5;rw[zz]at st5;obtain⟨p5,vs5,g1,g2',g3,g6⟩:=st5.app own
    have ep:p5=Dd:=by
     rw[hsl,am (ai _),aQ]at g1;cases g1;rfl
    subst ep
    have eys:vs5=ys:=by
     obtain⟨p4,vs4,k1,k2,k3,_⟩:=st4.app own;rw[hsl,am (ai _),aQ]at k1;cases k1
     have nc:p5∉cells a c:=λzz=>by
      obtain⟨R,r1,r2,r3⟩:=st4.ob;obtain⟨c9,f9,f8,_⟩:=r1.focus (zq u);cases FoAt.same f9 f1;obtain⟨v9,v1,p9,us9,rfl,_,_,v4,_⟩:=r3.is _ _ own;rw[hsl,am (ai _),aQ]at v1;cases v1;exact(W4 v4).1 (f8 _ zz)
     have:=ch.big _ _ nc hd4;rw[g2']at this;cases this;rfl
    subst eys;refine⟨g2',by rw[g3.length,ho,dk];omega,ks.length - (n+1),by omega,rfl,hlt,Hf5,some (.val ks[n]),o1++[y],o3,u',?_,?_,A6,?_,by simp[ho],c2,by rw[← eo];simp⟩
    ·have:=g6 v y r5;rw[bX _ _ (ai _),aQ]at this;exact this
    ·exact sm.trans (g2.ext.trans (g4.ext.trans ch.ext))
    ·have s5:=(sl3.grow g4).chg (S:=cells a c) ch (λ_ _ h=>nomatch h) (H0':=hpX) λ_ h _=>nomatch h
     exact s5.chg (S:=[p5]) (Chg.wr st5.same (by simp) (by
      obtain⟨R,r1,r2,r3⟩:=st5.ob;obtain⟨v9,v1,p9,us9,rfl,_,v3,_⟩:=r3.is _ _ own;rw[hsl,am (ai _),aQ]at v1;cases v1
      exact v3)) (λ_ _ h=>nomatch h) λ_ h _=>nomatch h
   ·cases ec
  ·left
   have:n=ks.length:=by omega
   subst this;rw[ck]at ec;cases ec;rw[ar]at eo;subst eo;refine⟨Ys (ai _),?_⟩;obtain⟨Hf6,e6,s6⟩:=st'.frz (sub as ρ).length
   have fz:frz (sub as ρ).length (sub as ρ++[some (.own o1)])=sub as ρ++[‹.list o1›]:=by
    unfold frz;rw[own];dsimp only;rw[bX _ _ (ai _),aQ];rfl
   rw[fz]at s6;obtain⟨v6,v61,v62⟩:=s6.sl.is (sub as ρ).length (.val (.list o1)) (by rw[am (ai _),aQ];rfl);rw[hsl,am (ai _),aQ]at v61;cases v61;exact as7 kk (by rw[bw];exact len) _ H' Hf6 (by rw[an0];exact s6.pop.set v62) (gr1.ext.trans (sm.trans e6))
 ·cases w
def aV1(i:Nat)(f:Rho->Option (List D)):UX:=λρ q=>(f (era ρ)).map λds=>.nx (ρ.set i (‹.list ds›)) q
theorem bj3(i:Nat)(hN:X.N.Nodup)(S:CompSc X N' n caps scope)(hx:∀e s,X.xe e s->False)(hi:JI X tgt iter src)(hg:∀C s0 H0 ex,JG (B4 X N' scope C s0 H0 ex) tgt g)(ht:∀C s0 H0 ex,JTs (B4 X N' scope C s0 H0 ex) ifs c)(he:∀C s0 H0 ex,JE (B4 X N' scope C s0 H0 ex) elt e)
  (hi2:X.N[i]? = some x) (hl:X.env.scope.names.lookup x=some .local) (hsw:swapsWith (.ListComp elt [⟨tgt,iter,ifs,0⟩] scope pos) (some (.Name x pos')) spos.line X.env=pure true)
  (hc:X.calm=true) (hs:∀x,dz iter X.env x=pure x):US X C (.Assign [.Name x pos'] (.ListComp elt [⟨tgt,iter,ifs,0⟩] scope pos) spos) (aV1 i (G4 n caps src g c e)):=λρ q fl w no=>by
 obtain⟨out,e1,e2⟩:=af.mp w;subst e2;obtain⟨ds,e3,k⟩:=r8 (K:=X.K) e1;refine⟨ao0 no,λb as l=>F6 (o4 S hx hc hN hi2 hl (hi (era ρ) ds e3) (g:=tgJ X.K g) (tc:=af5 X.K c) (te:=aI4 X.K e) hg ht (λC s0 H0 ex pins s σ H Q I ⟨ρ,d,e,t⟩=>he C s0 H0 ex ρ d e pins s σ H Q I t) hsw hs) λEn σ H ⟨Hf,st,ee⟩=>k σ H _ ⟨_,Hf,st.same,by rw[← P8 as ρ];exact st.sl.era,λv H' Hf' gg ⟨p,vs,z1,z2,z3,z4,z5⟩=>?_⟩⟩;subst z1;have g2:=gg.freeze z3 z4 z2;exact as7 ee l _ H' _ (by rw[an0];exact(st.grow g2).set ⟨p,vs,rfl,SqL.of A6,z5.mono (C7 z4)⟩) g2.ext
end
end G
namespace G
open PySem PySem.Spec PySem.W PyProof.Rows L2
def evT(lt:Nat->Nat->Bool){α:Type}:KasT α->α
 | .ret a=>a
 | .ask i j k=>evT lt (k (lt i j))
section
variable {lt:Nat->Nat->Bool}
theorem aa6(p:Array Nat)(s e:Nat):(kas_rev p s e).Perm p:=mirror_perm ..
end
end G
namespace G
open PySem PySem.Spec PySem.W PyProof.Rows L2 PySem.SeqAt
def Ask(n:Nat){α:Type}(P:α->Prop):KasT α->Prop
 | .ret a=>P a
 | .ask i j k=>i < n/\j < n/\∀b,Ask n P (k b)
theorem Ask.bind{n:Nat}{α β:Type}{P:α->Prop}{P':β->Prop}{f:α->KasT β}(hf:∀a,P a->Ask n P' (f a)):∀{t:KasT α},Ask n P t->Ask n P' (t.bind f)
 | .ret a,h=>hf a h
 | .ask i j k,h=>⟨h.1,h.2.1,λb=>Ask.bind hf (h.2.2 b)⟩
theorem Ask.ite{n:Nat}{α:Type}{P:α->Prop}{c:Prop}[Decidable c]{s t:KasT α}(h1:Ask n P s)(h2:Ask n P t):Ask n P (if c then s else t):=by split<;>assumption
def LoP(n:Nat)(p:Array Nat):Prop:=p.size=n/\∀x∈p,x < n
section
variable {n:Nat}(hn:0 < n)
include hn
theorem LoP.get{p:Array Nat}(h:LoP n p)(k:Nat):p.getD k 0 < n:=by
 rw[Array.getD_eq_getD_getElem?];rcases bx k p.size with q|q
 ·rw[ca q];exact h.2 _ (Array.getElem_mem q)
 ·rw[cT q];exact hn
omit hn in
theorem LoP.perm{p q:Array Nat}(h:LoP n p)(e:q.Perm p):LoP n q:=⟨e.size_eq.trans h.1,λx hx=>h.2 x (e.mem_iff.mp hx)⟩
theorem aT6{p:Array Nat}(h:LoP n p):∀(f m:Nat),Ask n (λ_=>True) (kas_asc p f m)
 | 0,_=>trivial
 | f+1,m=>⟨h.get hn _,h.get hn _,λb=>.ite (c:=b=true) trivial (aT6 h f (m+1))⟩
theorem ao5:∀(f:Nat) (p:Array Nat) (m q:Nat),LoP n p->Ask n (λr:Array Nat×Nat×Nat=>LoP n r.1) (kas_desc f p m q)
 | 0,_,_,_,h=>h
 | f+1,p,m,q,h=>⟨h.get hn _,h.get hn _,λb=>.ite (c:=b=true) (.ite (ao5 f _ _ _ (h.perm (aa6 ..))) (ao5 f _ _ _ h)) ⟨h.get hn _,h.get hn _,λd=>.ite (c:=d=true) h (ao5 f _ _ _ h)⟩⟩
theorem aI5{p:Array Nat}(m r:Nat)(h:LoP n p):Ask n (λr:Nat×Array Nat=>LoP n r.2) (kas_tail3 m r p):=by
 unfold kas_tail3;refine Ask.bind (P:=λ_=>True) (λm _=>?_) (aT6 hn (h.perm (aa6 ..)) _ _);exact h.perm (aa6 ..)
theorem al8{p:Array Nat}(m r:Nat)(h:LoP n p):Ask n (λr:Nat×Array Nat=>LoP n r.2) (kas_descPart m r p):=by
 unfold kas_descPart;exact Ask.bind (λx hx=>Ask.ite (aI5 hn _ _ (LoP.perm hx (aa6 ..))) (aI5 hn _ _ hx)) (ao5 hn _ _ _ _ h)
theorem bA7{p:Array Nat}(r:Nat)(h:LoP n p):Ask n (λr:Nat×Array Nat=>LoP n r.2) (kas_count r p):=by
 unfold kas_count;refine Ask.bind (λm _=>?_) (aT6 hn h _ _);refine Ask.ite h (Ask.ite ⟨h.get hn _,h.get hn _,λb=>?_⟩ (al8 hn _ _ h));exact Ask.ite (c:=b=true) h (al8 hn _ _ (h.perm (aa6 ..)))
theorem aq8{p:Array Nat}(h:LoP n p)(k:Nat):∀(f l r:Nat),Ask n (λ_=>True) (kas_place p k f l r)
 | 0,_,_=>trivial
 | f+1,l,r=>.ite (c:=l ≥ r) trivial ⟨h.get hn _,h.get hn _,λb=>.ite (c:=b=true) (aq8 h k f _ _) (aq8 h k f _ _)⟩
theorem bB7:∀(f:Nat) (p:Array Nat) (k:Nat),LoP n p->Ask n (LoP n) (kas_bin f p k)
 | 0,_,_,h=>h
 | f+1,p,k,h=>by
  unfold kas_bin;exact Ask.bind (λl _=>bB7 f _ _ (h.perm (bubble_perm ..))) (aq8 hn h k _ _ _)
theorem bH8:Ask n (LoP n) (kas_sort n):=by
 unfold kas_sort;refine Ask.bind (λr hr=>?_) (bA7 hn n (show LoP n (List.toArray (aU n)) from⟨by simp,λx hx=>by simpa using hx⟩));exact Ask.ite (bB7 hn _ _ _ hr) hr
end
theorem ba8{n:Nat}{α:Type}{P:α->Prop}{cmp:Nat->Nat->(Bool->dW->Prop)->dW->Prop}{lt:Nat->Nat->Bool}{Q:α->dW->Prop}{s:dW}(hc:∀i j C,i < n->j < n->C (lt i j) s->cmp i j C s):∀{t:KasT α},Ask n P t->(P (evT lt t)->Q (evT lt t) s)->t.kasWp cmp Q s
 | .ret a,h,q=>q h
 | .ask i j k,h,q=>hc i j _ h.1 h.2.1 (ba8 hc (h.2.2 _) q)
section
variable {prog:Program}{w:World}{A:Around}{E:Value->Shared->Prop}{s:Shared}
theorem bt4{a:dX}{vs out:List dU}{n:Nat}{P:PySem.Fin->dW->Prop}(ho:s.heap.get? a=some (seqObj "list" vs.toArray n))(h64:vs.length < 64)(h1:vs.length < 2->out=vs)
  (hk:2<=vs.length->∀h':Heap,(∀b o,b≠a->s.heap.get? b=some o->h'.get? b=some o) ->
   dD (dE prog w) A (keyKind' vs.toArray) (λκ s'=>(kas_sort vs.length).kasWp (kas_ask prog w A κ vs) (λp s''=>s''={ s with heap:=h' }/\(p.toList.map λi=>vs.getD i dP)=out) s') (λ_ _=>False) { s with heap:=h' })
  (h:∀h' c,(∀b o,b≠a->s.heap.get? b=some o->h'.get? b=some o)->h'.get? a=some (seqObj "list" out.toArray c)->P (.done (.ret .none)) { s with heap:=h' }) :
  dD (dE prog w) A (Builtin.«list.sort» ⟨[.ref a],[]⟩) P E s:=by
 have ha:a < s.heap.objs.size:=dG ho;have hsz:vs.toArray.size=vs.length:=by simp
 obtain⟨e1,ho1⟩:∃e1,(s.heap.update a (Obj.mapSeq λ_=>(#[]:Array dU))).get? a=some (seqObj "list" #[] e1):=⟨_,get?_update_seq ho λ_=>#[]⟩;have s1:=Heap.SameBut.update s.heap a (Obj.mapSeq λ_=>(#[]:Array dU));rw[list_sort_plain];refine cX (listItems_at ho rfl ?_);refine cX (listUpdate_at ho rfl ?_ (by rw[ao,dk];omega) (aW _));refine cX (seqEpoch_at ho1 rfl ?_);refine cX (wpAny_newTuple ?_ (by show vs.length<=_;rw[dk];omega));refine cX (wpAny_newList ?_ (aW _));refine wpAny_holding ?_
 have keep:∀b o,b≠a->s.heap.get? b=some o->(((s.heap.update a (Obj.mapSeq λ_=>(#[]:Array dU))).push (seqObj "tuple" vs.toArray 0)).push (seqObj "list" #[] 0)).get? b=some o:=λb o hb q =>
  dF _ (dF _ (s1.extBut b o hb q))
 have ho3:(((s.heap.update a (Obj.mapSeq λ_=>(#[]:Array dU))).push (seqObj "tuple" vs.toArray 0)).push (seqObj "list" #[] 0)).get? a=some (seqObj "list" #[] e1):=dF _ (dF _ ho1);show dD _ _ _ _ _ { s with heap:=((s.heap.update a (Obj.mapSeq λ_=>(#[]:Array dU))).push (seqObj "tuple" vs.toArray 0)).push (seqObj "list" #[] 0) };generalize ((s.heap.update a (Obj.mapSeq λ_=>(#[]:Array dU))).push (seqObj "tuple" vs.toArray 0)).push (seqObj "list" #[] 0)=h3 at keep ho3;have fin:∃c,(h3.update a (Obj.mapSeq λ_=>out.toArray)).get? a=some (seqObj "list" out.toArray c):=⟨_,get?_update_seq ho3 λ_=>out.toArray⟩;obtain⟨c,hc⟩:=fin;have keep':∀b o,b≠a->s.heap.get? b=some o->(h3.update a (Obj.mapSeq λ_=>out.toArray)).get? b=some o:=λb o hb q=>(Heap.SameBut.update h3 a _).extBut b o hb (keep b o hb q)
 by_cases h2:vs.toArray.size < 2
 ·rw[if_pos h2,if_pos h2];refine cX (cY ?_);dsimp only;rw[StateT.run_pure];refine cX (cY ?_);dsimp only
  have ez:(arrOf (SortSt.mk' general' (vs.toArray.zip vs.toArray) #[] 7 none)).map (·.2)=out.toArray:=by
   rw[h1 (by omega)];show(vs.toArray.zip vs.toArray).map (·.2)=vs.toArray;apply Array.toList_inj.mp;simp[List.map_snd_zip]
  rw[ez];refine cX (seqEpoch_at ho3 rfl ?_);refine cX (listUpdate_at ho3 rfl ?_ (aW _) (by rw[ao,dk,h1 (by omega)];omega));show dD _ _ _ _ _ _;simp only[bne_self_eq_false,xft,if_false];exact cY (h _ c keep' hc)
 ·rw[if_neg h2,if_neg h2];refine cX (cZ (hk (by omega) h3 keep) (λκ s' hκ=>?_) λ_ _ x=>x.elim)
  refine cX (cZ (kat_run (E:=E) (Q:=λst' s''=>∃p:Array Nat,p.size=vs.length/\arrOf st'=p.map (kas_item (vs.toArray.zip vs.toArray))/\failedOf st'=none/\s''={ s with heap:=h3 }/\(p.toList.map λi=>vs.getD i dP)=out) rfl (by omega) h64
   (λp st' s'' a1 a2 a3 a4=>⟨p,a1,a2,a3,a4⟩) hκ) ?_ λ_ _ e=>e)
  rintro⟨⟨⟩,st'⟩ s'' ⟨p,hp,har,hf,rfl,e⟩
  dsimp only;have ez:=kat_snds rfl har;have hol:out.length=vs.length:=by rw[← e,ay,bq,hp]
  rw[e]at ez;rw[ez];refine cX (seqEpoch_at ho3 rfl ?_);refine cX (listUpdate_at ho3 rfl ?_ (aW _) (by rw[ao,dk];omega));rw[hf];simp only[bne_self_eq_false,xft,if_false];exact cY (h _ c keep' hc)
end
theorem bC0{n:Nat}{α:Type}{P:α->Prop}(lt:Nat->Nat->Bool):∀{t:KasT α},Ask n P t->P (evT lt t)
 | .ret _,h=>h
 | .ask i j k,h=>bC0 (n:=n) (P:=P) lt (t:=k (lt i j)) (h.2.2 (lt i j))
end G
namespace G
open PySem PySem.Spec PySem.W PyProof.Rows L2 PySem.SeqAt
theorem aP4{prog:dq}{w:World}{A:dr}{E:dU->dW->Prop}{s:dW}{l:dX}{Q:dU->dW->Prop}
  (hcol:∀{E:dU->dW->Prop}{R:List dU->dW->Prop},(∀(vs out:List dU) (s1:dW),vs.length < 64->(vs.length < 2->out=vs) ->
   (2<=vs.length->∀h':Heap,(∀b o,s1.heap.get? b=some o->h'.get? b=some o)->dD (dE prog w) A.in1.in1 (keyKind' vs.toArray) (λκ s'=>(kas_sort vs.length).kasWp (kas_ask prog w A.in1.in1 κ vs) (λp s''=>s''={ s1 with heap:=h' }/\(p.toList.map λi=>vs.getD i dP)=out) s') (λ_ _=>False) { s1 with heap:=h' }) ->
   (∀h' c,(∀b o,s1.heap.get? b=some o->h'.get? b=some o)->h'.get? s1.heap.objs.size=some (seqObj "list" out.toArray c)->Q (.ref s1.heap.objs.size) { s1 with heap:=h' })->R vs s1)->dD (dE prog w) A.in1 (collect (.ref l)) R E s) :
  dD (dE prog w) A (call (.builtin "sorted") [.ref l]) Q E s:=by
 refine Calls.call_function_entry kind_sorted plain_sorted entry_sorted (args_sorted1 _) ?_;unfold Builtin.«sorted»;refine cX (m:=checkCount "sorted" 1 1 _) (cY ?_);refine cX (hcol λvs out s1 h64 h1 hk h=>?_);refine cX (wpAny_newList ?_ (by rw[dk];omega));have hoL:(s1.heap.push (seqObj "list" vs.toArray 0)).get? s1.heap.objs.size=some (seqObj "list" vs.toArray 0):=dH _ rfl;have keep:∀b o,s1.heap.get? b=some o->(s1.heap.push (seqObj "list" vs.toArray 0)).get? b=some o:=λb o q=>dF _ q
 show dD _ _ _ _ _ { s1 with heap:=s1.heap.push (seqObj "list" vs.toArray 0) };generalize s1.heap.push (seqObj "list" vs.toArray 0)=h3 at hoL keep;have ne:∀b o,s1.heap.get? b=some o->b≠s1.heap.objs.size:=λb o q=>aD (dG q)
 refine cX (wpAny_holding (wpAny_call_entry slot_list_sort ⟨_,hoL,rfl⟩ entry_list_sort ?body (args_list_sort _)))
 case body =>
  refine bt4 (s:={ s1 with heap:=h3 }) (out:=out) hoL h64 h1 (λh2 h' kp=>hk h2 h' λb o q=>kp b o (ne b o q) (keep b o q)) λh' c kp e=>⟨_,rfl,cY ⟨_,rfl,h h' c (λb o q=>kp b o (ne b o q) (keep b o q)) e⟩⟩
end G
namespace G
open PySem PySem.Spec PySem.W PyProof.Rows L2
theorem RepKs.length{K:ag}{H:Hp}:∀{kvs:List (D×D)}{m:List (Key×V)},RepKs K H kvs m->m.length=kvs.length
 | [],_,h=>by cases h;rfl
 | (k,e)::r,_,⟨y,w,t,h1,h2,h3,h4⟩=>by subst h2;simp[RepKs.length h4]
theorem aM8{prog:dq}{w:World}{A:dr}{E:dU->dW->Prop}{s:dW}{T:String}{r d:dX}{n:Nat}{P:Nat->dU->Prop}{OK:Heap->Prop}{Q:List dU->dW->Prop}(K:KdlSrc prog w T r d n P OK)(hh:A.handled=none)(hok:OK s.heap)(hn:n<=dj)
  (h:∀h' tk (vs:List dU),(∀b o,s.heap.get? b=some o->h'.get? b=some o)->vs.length=n->(∀j v,vs[j]? = some v->P j v)->Q vs { s with heap:=h',toks:=tk }):dD (dE prog w) A (collect (.ref r)) Q E s:=by
 have lt:=K.there _ hok;unfold collect;refine cX (wpAny_runValue (codeAny_builtin entry_proto_collect' ?_));rw[Around.under_plainId PySem.F.plain_proto_collect _];show dD _ A.in1 (newList [] >>= λl=>again (.builtin "list.__iadd__" ⟨[l,.ref r],[]⟩)) _ _ s;refine cX (de (cY ⟨plainId_quiet PySem.F.plain_list_iadd _,codeAny_builtin entry_list_iadd' ?_⟩));rw[Around.under_plainId PySem.F.plain_list_iadd _];show dD _ A.in1 (Builtin.List.listExtendWith (.ref s.heap.objs.size) (.ref r) (.ref s.heap.objs.size)) _ _ { s with heap:=s.heap.push { cls:=.type "list", data:=.seq #[] } };have k1:∀b o,s.heap.get? b=some o->(s.heap.push { cls:=.type "list", data:=.seq #[] }).get? b=some o:=λb o q=>dF _ q
 refine kdl_extend (R:=λr s'=>match r with | .ok (.ret v)=>dD (dE prog w) A (match v with | .ref a=>(do let o ← load a;match o.data with | .seq xs _=>pure xs.toList|_=>unsupported "internal:collect")|_=>unsupported "internal:collect") Q E s' | .ok _=>False | .error e=>E e s') (s:={ s with heap:=s.heap.push { cls:=.type "list", data:=.seq #[] } }) K hh (K.keep _ _ hok λb _ o e=>k1 b o e) s.heap.objs.size (bS lt.1) (bS lt.2) (.ref s.heap.objs.size) 0 (dH _ rfl) (λh' tk acc' c' hk hS' hacc=>?_) hn;refine cX (wpAny_load hS' (cY ?_));exact h h' tk acc'.toList (λb o e=>hk b o (aD (dG e)) (k1 b o e)) (by rw[bq];exact hacc.1) λj v e=>hacc.2 j v (by rw[← bA];exact e)
def ltS(ks:List D)(i j:Nat):Bool:=match ks.getD i .none,ks.getD j .none with
 | .str a,.str b=>decide (a.cps.toList < b.cps.toList)
 | _,_=>false
def aI6(ks:List D):Option (List D):=if ks.length < 2 then some ks else if ks.length < 64 then some ((evT (ltS ks) (kas_sort ks.length)).toList.map λi=>ks.getD i .none) else none
section
variable {X:Cx}{pins:List (Addr×Obj)}{σ:L2.St}{H Hf:Hp}{s:Shared}{K:PySem.W.Frag}
theorem RepKs.key:∀{m:List (D×D)}{kvs:List (Key×V)},RepKs K Hf m kvs->∀(j:Nat) (k:Key) (v:V),kvs[j]? = some (k,v)->∃(x:Str) (e:D),k=Sum.inr x/\m[j]? = some (dM x,e)
 | [],_,h,j,k,v,e=>by cases h;cases e
 | (d,e0)::r,_,⟨y,w,t,h1,h2,h3,h4⟩,j,k,v,e=>by
  subst h1 h2;cases j with
  | zero=>cases e;exact⟨_,_,rfl,rfl⟩
  | succ j=>exact RepKs.key h4 j k v e
inductive TxA:List D->List dU->Prop
 | nil:TxA [] []
 | cons {x:Str}{t:Tok}{ds:List D}{vs:List dU}:TxA ds vs->TxA (.str x::ds) (.str x t::vs)
theorem TxA.of:∀{ds:List D}{vs:List dU},vs.length=ds.length->(∀(j:Nat) (v:dU),vs[j]? = some v->∃(x:Str) (t:Tok),v=Value.str x t/\ds[j]? = some (dM x))->TxA ds vs
 | [],[],_,_=>.nil
 | [],_::_,h,_=>by cases h
 | _::_,[],h,_=>by cases h
 | d::ds,v::vs,h,a=>by
  obtain⟨x,t,e1,e2⟩:=a 0 v rfl;cases e1;cases e2;exact .cons (TxA.of (by simpa using h) λj v e=>a (j+1) v (by simpa using e))
theorem TxA.len(h:TxA ds vs):vs.length=ds.length:=by
 induction h with
 | nil=>rfl
 | cons _ ih=>simp[ih]
theorem TxA.at(h:TxA ds vs):∀i,i < ds.length->∃(x:Str) (t:Tok),ds.getD i .none=dM x/\vs.getD i .none=Value.str x t:=by
 induction h with
 | nil=>intro i hi;simp at hi
 | @cons x t ds vs h ih =>
  intro i hi;cases i with
  | zero=>exact⟨x,t,rfl,rfl⟩
  | succ i=>obtain⟨y,u,e1,e2⟩:=ih i (by simpa using hi);exact⟨y,u,by simpa using e1,by simpa using e2⟩
theorem TxA.pick(h:TxA ds vs):∀{p:List Nat},(∀i∈p,i < ds.length)->TxA (p.map λi=>ds.getD i .none) (p.map λi=>vs.getD i dP)
 | [],_=>.nil
 | i::p,hp=>by
  obtain⟨x,t,e1,e2⟩:=h.at i (hp i (.head _));rw[xmc,xmc,e1,e2];exact .cons (TxA.pick h λj hj=>hp j (.tail _ hj))
def ca6:D->V
 | .str x=>.str x
 | _=>.non
theorem TxA.vals(h:TxA ds vs):C2 (ds.map ca6) vs:=by
 induction h with
 | nil=>exact .nil
 | @cons x t ds vs h ih=>exact .cons ⟨t,rfl⟩ ih
theorem TxA.reps(h:TxA ds vs):Reps K Hf ds (ds.map ca6):=by
 induction h with
 | nil=>rfl
 | @cons x t ds vs h ih=>exact⟨_,_,rfl,rfl,ih⟩
theorem kvg{κ:Type}{p:List (κ×V)}{q:List (κ×dU)}(h:KV p q):∀{j:Nat}{y:κ×dU},q[j]? = some y->∃x,p[j]? = some x/\x.1=y.1/\E3 x.2 y.2:=by
 induction h with
 | nil=>intro j y e;cases e
 | cons a _ ih =>
  intro j y e;cases j with
  | zero=>cases e;exact⟨_,rfl,a⟩
  | succ j=>exact ih e
theorem bm5{Q:VK}{d:dX}{kvs:List (Key×V)}{m:List (D×D)}{out:List D}(hc:X.A.handled=none)(I:Inv X pins σ H s)(e:H d=some (.dK kvs))(rk:RepKs X.K Hf m kvs)(e3:aI6 (m.map (·.1))=some out)
  (k:∀l us,H l=none->Reps X.K Hf out us->us.length < 64->Q (.ref l) (upd H l (.lst us))):dD (dE X.prog X.w) X.A (call (.builtin "sorted") [.ref d]) (EP X pins σ Q) X.xe s:=by
 obtain⟨z1,z2,vs,kv,o,es,ep,hd⟩:=aZ6 I.hok e;have nk:=kv.length;have nm:=rk.length;refine aP4 λ{E R} hR=>aM8 (A:=X.A.in1) (kdl_dict (knd:=K8 X.prog X.w) (kvs:=vs) (ep:=ep) z2) hc ⟨o,es,hd⟩ (by rw[← nk];exact z1) λh' tk its kp hl hP=>?_
 have T:TxA (m.map (·.1)) its:=TxA.of (by simp;omega) λj v hj=>by
  obtain⟨k,x,hk,hi⟩:=hP j v hj;obtain⟨⟨k1,y1⟩,hk',r1,r2⟩:=kvg kv hk;cases r1;obtain⟨y,ed,h1,h2⟩:=RepKs.key rk j _ _ hk';cases h1
  obtain⟨t,rfl⟩:∃t,v=Value.str y t:=by
   rcases L2.L9 (show L2.ar8 (Sum.inr y) v=true from hi) with⟨_,_,z,_⟩|⟨_,t,z,z2⟩
   ·cases z
   ·cases z;exact⟨t,z2⟩
  exact⟨y,t,rfl,by rw[aE,h2];rfl⟩
 have I':Inv X pins σ H { s with heap:=h',toks:=tk }:=as3 (ch:=[]) I (λ_ h=>nomatch h) λb u _ q=>kp b u q
 have tl:=T.len
 have fin:∀(ds:List D) (ws:List dU),TxA ds ws->ds.length < 64->ds=out->∀(h2:Heap) (c:Nat),(∀b o,h'.get? b=some o->h2.get? b=some o)->h2.get? h'.objs.size=some (seqObj "list" ws.toArray c)->EP X pins σ Q (.ref h'.objs.size) { s with heap:=h2,toks:=tk }:=λds ws t hz ho h2 c kp2 eo=>by
  subst ho;have fr:=I'.hok.fresh (ai h'.objs.size);exact⟨.ref h'.objs.size,_,I'.laid (t':=tk) kp2 (ai _) (show P4 X.prog X.w _ h2 _ (.lst (ds.map ca6)) from⟨by rw[ay,dk];omega,_,c,t.vals,eo⟩),rfl,k _ _ fr t.reps (by rw[ay];exact hz)⟩
 unfold aI6 at e3;split at e3
 ·rename_i h2;cases e3;exact hR its its _ (by omega) (λ_=>rfl) (λh3=>absurd h3 (by omega)) λh2' c kp2 eo=>fin _ its T (by omega) rfl h2' c kp2 eo
 ·split at e3
  ·rename_i h2 h3;cases e3;have pin:=bH8 (n:=(m.map (·.1)).length) (by omega);have lo:=bC0 (ltS (m.map (·.1))) pin;have plo:∀i∈(evT (ltS (m.map (·.1))) (kas_sort (m.map (·.1)).length)).toList,i < (m.map (·.1)).length:=λi hi=>lo.2 i (by simpa using hi)
   refine hR its ((evT (ltS (m.map (·.1))) (kas_sort (m.map (·.1)).length)).toList.map λi=>its.getD i dP) _ (by omega) (λh3=>absurd h3 (by omega)) (λ_ h4 kp4=>?_) λh2' c kp2 eo=>fin _ _ (T.pick plo) (by rw[ay,bq,lo.1];exact h3) rfl h2' c kp2 eo
   refine kas_kind (T:=.type "str") (by omega) (λv hv=>?_) (by rfl) (by rfl) ?_
   ·obtain⟨j,hj,rfl⟩:=List.getElem_of_mem hv;obtain⟨x,t,e1,e2⟩:=T.at j (by omega);have:its[j]=.str x t:=by rw[← e2];simp[hj]
    rw[this];exact Looks.of_pure rfl
   ·rw[tl];refine ba8 (P:=LoP (m.map (·.1)).length) (lt:=ltS (m.map (·.1))) (λi j C hi hj hC=>?_) pin λ_=>⟨rfl,rfl⟩
    unfold kas_ask;obtain⟨x,t,e1,e2⟩:=T.at i hi;obtain⟨y,u,f1,f2⟩:=T.at j hj;rw[e2,f2];refine kas_lt_str ?_;unfold ltS at hC;rw[e1,f1]at hC;exact hC
  ·cases e3
end
end G
namespace G
open PySem PySem.Spec PyProof.Rows L2
def as9(kvs:List (D×D))(x:Str):List (D×D):=kvs.filter λkv=>!T0 x kv
theorem RepKs.drop{K:ag}{H:Hp}{x:Str}:∀{kvs:List (D×D)}{m:List (Key×V)},RepKs K H kvs m->RepKs K H (as9 kvs x) (al6 m (.inr x))
 | [],_,h=>by cases h;rfl
 | (k,e)::r,_,⟨y,w,t,h1,h2,h3,h4⟩=>by
  subst h1 h2;have ih:=RepKs.drop (x:=x) h4;unfold as9 al6 at ih ⊢;rw[bH,bH];by_cases e:y=x
  ·rw[if_neg (by simp[T0,e]),if_neg (by simp[e])];exact ih
  ·rw[if_pos (by simp[T0,e]),if_pos (by simp[e])];exact⟨y,w,_,rfl,rfl,h3,ih⟩
section
variable {K:PySem.W.Frag}{H Hf:Hp}
theorem ax4:∀{bs:List D}{d:D}{vs:List V},Reps K H (bs++[d]) vs->∃us v,vs=us++[v]/\Reps K H bs us/\Rep K H d v
 | [],d,vs,⟨v,r,e,h1,h2⟩=>by cases h2;exact⟨[],v,e,rfl,h1⟩
 | x::bs,d,vs,⟨v,r,e,h1,h2⟩=>by
  obtain⟨us,u,e1,e2,e3⟩:=ax4 h2;subst e1;exact⟨v::us,u,e,⟨v,us,rfl,h1,e2⟩,e3⟩
end
def ay1(l:List D):Option (List D×D):=l.getLast?.map λd=>(l.dropLast,d)
theorem bu2{l:List D}(h:ay1 l=some (bs,d)):l=bs++[d]:=by
 obtain⟨x,h1,h2⟩:=af.mp h;cases h2;cases l with
 | nil=>cases h1
 | cons y r =>
  rw[List.getLast?_eq_some_getLast (by simp)]at h1;cases h1;exact(List.dropLast_concat_getLast (by simp)).symm
section
variable {X:Cx}{C:CT}{b:Bs}{ρ ρ':Rho}{q q' q1 q2:Os}{o o':Fo}{K:PySem.W.Frag}{σ:L2.St}{H Hf:Hp}{a:Addr}{fn:List Str}{kd:Bool}
theorem bh8(hc:X.calm=true):b0 X (.builtin "sorted") (λvs H Q=>∃d kvs Hf m out,vs=[.ref d]/\H d=some (.dK kvs)/\RepKs X.K Hf m kvs/\aI6 (m.map (·.1))=some out/\∀l us,H l=none->Reps X.K Hf out us->us.length < 64->Q (.ref l) (upd H l (.lst us))):=by
 intro pins s σ H vs us Q I rv ⟨d,kvs,Hf,m,out,e0,e1,rk,e3,k⟩;subst e0;obtain⟨u,rfl,rx⟩:=aa3 rv;cases rx;exact bm5 (I.ok.hd hc) I e1 rk e3 k
def OP(X:Cx)(C:CT)(b:Bs)(ρ:Rho)(q:Os)(e:Expr)(d:D):Prop:=PE X e (λσ H Q=>∃Hf,OSt X.K C b ρ q σ H Hf/\∀v H' Hf',Grow H Hf H' Hf'->Rep X.K Hf' d v->Q v H')
theorem OP.oe(h:OP X C b ρ q e d):OE X C b ρ q e d q:=A4 h λσ H Q ⟨Hf,st,k⟩=>⟨Hf,st,λv H' Hf' g r=>k v H' Hf' (st.grow g) g.ext r⟩
theorem cC4(h:JE X e f)(w:f ρ=some d):OP X C b ρ q e d:=A4 (h ρ d w) λσ H Q ⟨Hf,st,k⟩=>⟨_,Hf,st.same,st.sl,k⟩
structure OPA (X:Cx) (C:CT) (b:Bs) (ρ:Rho) (q:Os) (es:List Expr) (ds:List D):Prop where
 len:ds.length=es.length
 run:PA X es (λσ H Q=>∃Hf,OSt X.K C b ρ q σ H Hf/\∀vs H' Hf',Grow H Hf H' Hf'->Reps X.K Hf' ds vs->Q vs H')
theorem bK6:OPA X C b ρ q [] []:=⟨rfl,λpos pins s σ H Q I ⟨Hf,st,k⟩=>K2 pos pins s σ H Q I (k [] H Hf (Grow.refl st.same) rfl)⟩
theorem bq1(h:OP X C b ρ q e d)(r:OPA X C b ρ q es ds)(hs:di (e::es) X.env=(false,eval e X.env)::di es X.env:=by rfl):OPA X C b ρ q (e::es) (d::ds) :=
 ⟨by simp[r.len],λpos pins s σ H Q I ⟨Hf,st,k⟩=>C3 h r.run hs pos pins s σ H Q I ⟨Hf,st,λv H1 Hf1 g1 r1=>⟨Hf1,st.grow g1,λvs H2 Hf2 g2 r2=>k (v::vs) H2 Hf2 (g1.trans g2) ⟨v,vs,rfl,r1.mono g2.ext,r2⟩⟩⟩⟩
theorem ce1(h:OPA X C b ρ q es ds)(hn:es.length<=1000:=by decide):OP X C b ρ q (.Tuple es k pos) (.tuple ds) :=
 A4 (aQ4 h.run) λσ H Q ⟨Hf,st,k⟩=>⟨Hf,st,λvs H1 Hf1 g r=>⟨by rw[r.length,h.len];exact bE (U7 hn),λp hp=>k _ _ _ (g.trans (Grow.laid g.sub hp)) ⟨p,vs,rfl,SqT.of A6,r.mono (Grow.laid (o:=.tup vs) g.sub hp).ext⟩⟩⟩
theorem FvA.grow(h:FvA K H Hf w v p)(g:Grow H Hf H' Hf'):FvA K H' Hf' w v p:=h.keep (λy hy=>by rcases h.kind y hy with⟨_,e⟩|⟨_,e⟩<;>(rw[e];exact g.big _ _ e)) g.ext
structure At2 (X:Cx) (C:CT) (kd:Bool) (fn:List Str) (ρ:Rho) (q:Os) (x:Str) (i j:Nat) (a:dX) (o:Fo):Prop where
 A:At1 X ρ q x i j a o
 c:FoC X.K (C kd) fn
 k:o.k=kd
theorem Z0{kvs:List (Key×V)}(e1:H y=some (.dK kvs))(r1:RepKs K Hf m kvs)(x:Str):∃r:Option V,ak7 H y (.str x) r/\((O5 m x=none/\r=none)\/∃d v,O5 m x=some d/\r=some v/\Rep K Hf d v):=by
 refine⟨_,ak7.k (k:=Sum.inr x) e1,?_⟩;rcases r1.look x with⟨l1,l2⟩|⟨d,v,l1,l2,l3⟩
 ·exact .inl ⟨l1,l2⟩
 ·exact .inr ⟨d,v,l1,l2,l3⟩
variable {x f:Str}{i j:Nat}{m:List (D×D)}
theorem ce8(hu:X.A.units+64 < cLine)(Z:At2 X C kd fn ρ q x i j a o)(hf:f∈fn)(l:o.l.lookup f=some (.dic m))(he:OP X C b ρ q e (.str k))(mm:M1 X (.Attribute (.Name x p) f pos) "get" apos e cpos)(hb:dB (.Name x p) f X.env (eval (.Name x p) X.env)=eval (.Name x p) X.env):
  OP X C b ρ q (.Call (.Attribute (.Attribute (.Name x p) f pos) "get" apos) [e] [] cpos) ((O5 m k).getD .none) :=
 A4 (bp4 (by omega) (Z6 Z.A Z.c Z.k hf l hb) he mm) λσ H Q ⟨Hf,st,kk⟩=>⟨Hf,st,λcl v ps f1 hl fv hp=>by
  obtain⟨y,kvs,rfl,rfl,e1,r0⟩:=fv;refine⟨y,rfl,.inl ⟨kvs,.inl e1⟩,Hf,st,λu H1 Hf1 g1 r1=>?_⟩;cases r1;obtain⟨r,d1,d2⟩:=Z0 (g1.big _ _ e1) (r0.mono g1.ext) k;refine⟨r,d1,?_⟩;rcases d2 with⟨l1,rfl⟩|⟨d,v,l1,rfl,l3⟩
  ·rw[l1]at kk;exact kk _ _ _ g1 rfl
  ·rw[l1]at kk;exact kk _ _ _ g1 l3⟩
theorem cv9(hu:X.A.units+64 < cLine)(Z:At2 X C kd fn ρ q x i j a o)(hf:f∈fn)(l:o.l.lookup f=some (.dic m))(he:OP X C b ρ q e (.str k))(hb:dB (.Name x p) f X.env (eval (.Name x p) X.env)=eval (.Name x p) X.env)(h1:behindInMarks .In (.Attribute (.Name x p) f pos)=false):
  OP X C b ρ q (.Compare e [.In] [.Attribute (.Name x p) f pos] cpos) (.bool (O5 m k).isSome) :=
 A4 (bp5 (bp8 (by omega) he (Z6 Z.A Z.c Z.k hf l hb)) h1) λσ H Q ⟨Hf,st,kk⟩=>⟨Hf,st,λu H1 Hf1 g1 r1=>⟨Hf1,st.grow g1,λcl v ps f1 hl fv hp=>by
  obtain⟨y,kvs,rfl,rfl,e1,r0⟩:=fv;cases r1;obtain⟨r,d1,d2⟩:=Z0 e1 r0 k;refine⟨y,r,rfl,d1,?_⟩;rcases d2 with⟨l1,rfl⟩|⟨d,v,l1,rfl,l3⟩
  ·rw[l1]at kk;exact kk _ _ _ g1 rfl
  ·rw[l1]at kk;exact kk _ _ _ g1 rfl⟩⟩
theorem bq3(hu:X.A.units+64 < cLine)(Z:At2 X C kd fn ρ q x i j a o)(hf:f∈fn)(l:o.l.lookup f=some (.dic m))(he:OP X C b ρ q e (.str k))(hb:dB (.Name x p) f X.env (eval (.Name x p) X.env)=eval (.Name x p) X.env)(h1:behindInMarks .NotIn (.Attribute (.Name x p) f pos)=false):
  OP X C b ρ q (.Compare e [.NotIn] [.Attribute (.Name x p) f pos] cpos) (.bool (!(O5 m k).isSome)) :=
 A4 (bp5 (ax7 (by omega) he (Z6 Z.A Z.c Z.k hf l hb)) h1) λσ H Q ⟨Hf,st,kk⟩=>⟨Hf,st,λu H1 Hf1 g1 r1=>⟨Hf1,st.grow g1,λcl v ps f1 hl fv hp=>by
  obtain⟨y,kvs,rfl,rfl,e1,r0⟩:=fv;cases r1;obtain⟨r,d1,d2⟩:=Z0 e1 r0 k;refine⟨y,r,rfl,d1,?_⟩;rcases d2 with⟨l1,rfl⟩|⟨d,v,l1,rfl,l3⟩
  ·rw[l1]at kk;exact kk _ _ _ g1 rfl
  ·rw[l1]at kk;exact kk _ _ _ g1 rfl⟩⟩
theorem cv5(hu:X.A.units+64 < cLine)(Z:At2 X C kd fn ρ q x i j a o)(hf:f∈fn)(l:o.l.lookup f=some (.dic m))(he:OP X C b ρ q e (.str k))(hb:dB (.Name x p) f X.env (eval (.Name x p) X.env)=eval (.Name x p) X.env)(h1:behindInMarks .In (.Attribute (.Name x p) f pos)=false):
  OT X C b ρ q (.Compare e [.In] [.Attribute (.Name x p) f pos] cpos) (O5 m k).isSome q :=
 m8 (bn9 (bp8 (by omega) he (Z6 Z.A Z.c Z.k hf l hb)) h1) λσ H Q ⟨Hf,st,kk⟩=>⟨Hf,st,λu H1 Hf1 g1 r1=>⟨Hf1,st.grow g1,λcl v ps f1 hl fv hp=>by
  obtain⟨y,kvs,rfl,rfl,e1,r0⟩:=fv;cases r1;obtain⟨r,d1,d2⟩:=Z0 e1 r0 k;refine⟨y,r,rfl,d1,?_⟩;rcases d2 with⟨l1,rfl⟩|⟨d,v,l1,rfl,l3⟩
  ·rw[l1]at kk;exact⟨_,rfl,kk _ _ (st.grow g1) g1.ext⟩
  ·rw[l1]at kk;exact⟨_,rfl,kk _ _ (st.grow g1) g1.ext⟩⟩⟩
theorem bq0(hu:X.A.units+64 < cLine)(Z:At2 X C kd fn ρ q x i j a o)(hf:f∈fn)(l:o.l.lookup f=some (.dic m))(he:OP X C b ρ q e (.str k))(hb:dB (.Name x p) f X.env (eval (.Name x p) X.env)=eval (.Name x p) X.env)(h1:behindInMarks .NotIn (.Attribute (.Name x p) f pos)=false):
  OT X C b ρ q (.Compare e [.NotIn] [.Attribute (.Name x p) f pos] cpos) (!(O5 m k).isSome) q :=
 m8 (bn9 (ax7 (by omega) he (Z6 Z.A Z.c Z.k hf l hb)) h1) λσ H Q ⟨Hf,st,kk⟩=>⟨Hf,st,λu H1 Hf1 g1 r1=>⟨Hf1,st.grow g1,λcl v ps f1 hl fv hp=>by
  obtain⟨y,kvs,rfl,rfl,e1,r0⟩:=fv;cases r1;obtain⟨r,d1,d2⟩:=Z0 e1 r0 k;refine⟨y,r,rfl,d1,?_⟩;rcases d2 with⟨l1,rfl⟩|⟨d,v,l1,rfl,l3⟩
  ·rw[l1]at kk;exact⟨_,rfl,kk _ _ (st.grow g1) g1.ext⟩
  ·rw[l1]at kk;exact⟨_,rfl,kk _ _ (st.grow g1) g1.ext⟩⟩⟩
theorem bL0(hu:X.A.units+64 < cLine)(Z:At2 X C kd fn ρ q x i j a o)(hf:f∈fn)(l:o.l.lookup f=some (.dic m))(he:OP X C b ρ q e (.str k))(l':O5 m k=some d)(hs:bR0 e)(hb:dB (.Name x p) f X.env (eval (.Name x p) X.env)=eval (.Name x p) X.env):
  OP X C b ρ q (.Subscript (.Attribute (.Name x p) f pos) e cpos) d :=
 A4 (bK1 (by omega) (Z6 Z.A Z.c Z.k hf l hb) he hs) λσ H Q ⟨Hf,st,kk⟩=>⟨Hf,st,λcl v ps f1 hl fv hp=>by
  obtain⟨y,kvs,rfl,rfl,e1,r0⟩:=fv;refine⟨Hf,st,λu H1 Hf1 g1 r1=>?_⟩;cases r1;obtain⟨r,d1,d2⟩:=Z0 (g1.big _ _ e1) (r0.mono g1.ext) k;rcases d2 with⟨l1,rfl⟩|⟨d',v,l1,rfl,l3⟩
  ·rw[l']at l1;cases l1
  ·rw[l']at l1;cases l1
   exact⟨y,v,rfl,d1,kk _ _ _ g1 l3⟩⟩
theorem ce6(Z:At2 X C kd fn ρ q x i j a o)(hf:f∈fn)(l:o.l.lookup f=some (.lst ds))(hg:Gl X "len")(hm:X.mg "len" = none)(hb:dB (.Name x p) f X.env (eval (.Name x p) X.env)=eval (.Name x p) X.env)(hs:di [.Attribute (.Name x p) f pos] X.env=[(false,eval (.Attribute (.Name x p) f pos) X.env)]:=by rfl):OP X C b ρ q (.Call (.Name "len" p1) [.Attribute (.Name x p) f pos] [] cpos) (.int ds.length) :=
 A4 (T4 bB3 hg hm (by rfl) (C3 (Z6 Z.A Z.c Z.k hf l hb) K2 hs) (he:=hs)) λσ H Q ⟨Hf,st,kk⟩=>⟨Hf,st,λcl v ps f1 hl fv hp=>by
  obtain⟨y,vs,rfl,rfl,e0,r0⟩:=fv
  exact⟨_,ds.length,rfl,.inl ⟨vs,SqL.of e0,by rw[r0.length]⟩,kk _ _ _ (Grow.refl st.same) rfl⟩⟩
theorem ce3(hc:X.calm=true)(Z:At2 X C kd fn ρ q x i j a o)(hf:f∈fn)(l:o.l.lookup f=some (.dic m))(ho:aI6 (m.map (·.1))=some out)(hg:Gl X "sorted")(hm:X.mg "sorted" = none)(hb:dB (.Name x p) f X.env (eval (.Name x p) X.env)=eval (.Name x p) X.env)(hs:di [.Attribute (.Name x p) f pos] X.env=[(false,eval (.Attribute (.Name x p) f pos) X.env)]:=by rfl):OP X C b ρ q (.Call (.Name "sorted" p1) [.Attribute (.Name x p) f pos] [] cpos) (.list out) :=
 A4 (T4 (bh8 hc) hg hm (by rfl) (C3 (Z6 Z.A Z.c Z.k hf l hb) K2 hs) (he:=hs)) λσ H Q ⟨Hf,st,kk⟩=>⟨Hf,st,λcl v ps f1 hl fv hp=>by
  obtain⟨y,kvs,rfl,rfl,e1,r1⟩:=fv
  exact⟨y,kvs,Hf,m,out,rfl,e1,r1,ho,λl us hl rs hz=>kk _ _ _ (Grow.laid st.same hl) ⟨l,us,rfl,SqL.of A6,rs.mono (C7 (st.same.free hl))⟩⟩⟩
end
end G
namespace G
open PySem PySem.Spec PyProof.Rows L2
section
variable {X:Cx}{C:CT}{b:Bs}{ρ ρ':Rho}{q q' q1 q2:Os}{o o':Fo}{K:PySem.W.Frag}{σ:L2.St}{H Hf:Hp}{a:Addr}{fn:List Str}{kd:Bool}{x f:Str}{i j:Nat}{m:List (D×D)}
theorem cd6(hu:X.A.units+64 < cLine)(Z:At2 X C kd fn ρ q x i j a o)(hf:f∈fn)(l:o.l.lookup f=some (.dic m))(he:OP X C b ρ q e (.str k))(hv:OP X C b ρ q v d)(hz:m.length < 1000)(hb:dB (.Name x p) f X.env (eval (.Name x p) X.env)=eval (.Name x p) X.env)
  (hs:swapsWith v (some (.Subscript (.Attribute (.Name x p) f pos) e pos')) pos2.line X.env=pure false) :
  OS X C b ρ q (.Assign [.Subscript (.Attribute (.Name x p) f pos) e pos'] v pos2) (.nx ρ (q.set j (a,⟨o.k,T3 f (.dic (aQ1 m k d)) o.l⟩))) :=
 F6 (bJ4 (by omega) (Z6 Z.A Z.c Z.k hf l hb) he hv hs) λEn σ H ⟨Hf,st,kk⟩=>⟨Hf,st,λu H1 Hf1 g1 r1=>⟨Hf1,st.grow g1,λcl v ps f1 hl fv hp=>by
  have fv':=fv;obtain⟨y,kvs,rfl,rfl,e0,r0⟩:=fv;refine⟨Hf1,st.grow g1,λy' H2 Hf2 g2 r2=>?_⟩;cases r2;have st2:=(st.grow g1).grow g2;have f2:=f1.grow g2;have r3:=r0.mono g2.ext;have hy:=hp y (by simp);refine⟨y,_,rfl,bC4.k (k:=Sum.inr k) (g2.big _ _ e0) (by rw[RepKs.length r3];exact U7 (bE hz)),?_⟩;obtain⟨c',f3,k3⟩:=st2.focus Z.A.w Z.A.o;cases FoAt.same f3 f2
  exact kk σ _ Hf2 (k3 (Chg.wr g2.sub (aj _ hy) (f2.fr y (aj _ hy))) (f2.wr l (fv'.grow g2) hl hy ⟨y,_,rfl,rfl,A6,r3.put (r1.mono g2.ext)⟩) λz hz=>.inl hz) (g1.ext.trans g2.ext)⟩⟩
theorem cd7(Z:At2 X C kd fn ρ q x i j a o)(hf:f∈fn)(l:o.l.lookup f=some (.dic m))(he:OP X C b ρ q e (.str k))(hk:(O5 m k).isSome=true)(mm:M1 X (.Attribute (.Name x p) f pos) "pop" apos e cpos)(hb:dB (.Name x p) f X.env (eval (.Name x p) X.env)=eval (.Name x p) X.env)
  (hs:swapsWith (.Call (.Attribute (.Attribute (.Name x p) f pos) "pop" apos) [e] [] cpos) none pos2.line X.env=pure false) :
  OS X C b ρ q (.Expr (.Call (.Attribute (.Attribute (.Name x p) f pos) "pop" apos) [e] [] cpos) pos2) (.nx ρ (q.set j (a,⟨o.k,T3 f (.dic (as9 m k)) o.l⟩))) :=
 F6 (an5 (bp2 (Z6 Z.A Z.c Z.k hf l hb) he mm) hs) λEn σ H ⟨Hf,st,kk⟩=>⟨Hf,st,λcl v ps f1 hl fv hp=>by
  have fv':=fv;obtain⟨y,kvs,rfl,rfl,e0,r0⟩:=fv;refine⟨y,rfl,.inl ⟨kvs,.inl e0⟩,Hf,st,λy' H2 Hf2 g2 r2=>?_⟩;cases r2;have st2:=st.grow g2;have f2:=f1.grow g2;have r3:=r0.mono g2.ext;have hy:=hp y (by simp);rcases r3.look k with⟨l1,_⟩|⟨d,v,l1,l2,l3⟩
  ·rw[l1]at hk;cases hk
  refine⟨kvs,Sum.inr k,v,g2.big _ _ e0,rfl,l2,?_⟩;obtain⟨c',f3,k3⟩:=st2.focus Z.A.w Z.A.o;cases FoAt.same f3 f2
  exact kk σ _ Hf2 (k3 (Chg.wr g2.sub (aj _ hy) (f2.fr y (aj _ hy))) (f2.wr l (fv'.grow g2) hl hy ⟨y,_,rfl,rfl,A6,r3.drop⟩) λz hz=>.inl hz) g2.ext⟩
theorem ce0(Z:At2 X C kd fn ρ q x i j a o)(hf:f∈fn)(l:o.l.lookup f=some (.lst ds))(hv:OP X C b ρ q e d)(hz:ds.length < 1000)(hb:dB (.Name x p) f X.env (eval (.Name x p) X.env)=eval (.Name x p) X.env)
  (hbase:dB (.Attribute (.Name x p) f pos) "append" X.env (eval (.Attribute (.Name x p) f pos) X.env)=eval (.Attribute (.Name x p) f pos) X.env)
  (hfew:((backTo cpos (di [e] X.env)).all (λx=>!x.1)&&(backToKw cpos (keywordEach [] X.env)).all (λx=>x.1.isSome)
   && decide (([e]:List Expr).length+([]:List dw).length+(if([]:List dw).isEmpty then 0 else 1) < 30))=true)
  (hline:(apos.endLine==cpos.line)=true) (hst:di [e] X.env=[(false,eval e X.env)])
  (hs:swapsWith (.Call (.Attribute (.Attribute (.Name x p) f pos) "append" apos) [e] [] cpos) none pos2.line X.env=pure false) :
  OS X C b ρ q (.Expr (.Call (.Attribute (.Attribute (.Name x p) f pos) "append" apos) [e] [] cpos) pos2) (.nx ρ (q.set j (a,⟨o.k,T3 f (.lst (ds++[d])) o.l⟩))) :=
 F6 (an5 (ax6 PySem.F.plainAttrs_list PySem.F.slot_list_append PySem.F.type_list_append ai7 (Z6 Z.A Z.c Z.k hf l hb) (C3 hv K2 hst) hbase hfew hline hst (by rfl)) hs) λEn σ H ⟨Hf,st,kk⟩=>⟨Hf,st,λcl v ps f1 hl fv hp=>by
  have fv':=fv;obtain⟨y,vs,rfl,rfl,e0,r0⟩:=fv;refine⟨.inl ⟨rfl,vs,SqL.of e0⟩,Hf,st,λv H2 Hf2 g2 r2=>?_⟩;have st2:=st.grow g2;have f2:=f1.grow g2;have r3:=r0.mono g2.ext;have hy:=hp y (by simp);refine⟨y,vs,v,rfl,rfl,g2.big _ _ e0,by rw[r3.length];exact U7 (bE hz),?_⟩;obtain⟨c',f3,k3⟩:=st2.focus Z.A.w Z.A.o;cases FoAt.same f3 f2
  exact kk σ _ Hf2 (k3 (Chg.wr g2.sub (aj _ hy) (f2.fr y (aj _ hy))) (f2.wr l (fv'.grow g2) hl hy ⟨y,_,rfl,rfl,A6,r3.append ⟨v,[],rfl,r2,rfl⟩⟩) λz hz=>.inl hz) g2.ext⟩
theorem bL7(Z:At2 X C kd fn ρ q x i j a o)(hf:f∈fn)(l:o.l.lookup f=some (.lst (bs++[d])))(hline:(apos.endLine==cpos.line)=true)(hb:dB (.Name x p) f X.env (eval (.Name x p) X.env)=eval (.Name x p) X.env)
  (hbase:dB (.Attribute (.Name x p) f pos) "pop" X.env (eval (.Attribute (.Name x p) f pos) X.env)=eval (.Attribute (.Name x p) f pos) X.env) :
  OE X C b ρ q (.Call (.Attribute (.Attribute (.Name x p) f pos) "pop" apos) [] [] cpos) d (q.set j (a,⟨o.k,T3 f (.lst bs) o.l⟩)) :=
 A4 (cd3 PySem.F.plainAttrs_list PySem.F.slot_list_pop PySem.F.type_list_pop cg9 (Z6 Z.A Z.c Z.k hf l hb) hbase hline) λσ H Q ⟨Hf,st,kk⟩=>⟨Hf,st,λcl v ps f1 hl fv hp=>by
  have fv':=fv;obtain⟨y,vs,rfl,rfl,e0,r0⟩:=fv;obtain⟨us,v,rfl,r1,r2⟩:=ax4 r0;have hy:=hp y (by simp);refine⟨.inl ⟨rfl,_,SqL.of e0⟩,y,us++[v],v,rfl,rfl,e0,by simp,?_⟩;obtain⟨c',f3,k3⟩:=st.focus Z.A.w Z.A.o;cases FoAt.same f3 f1;rw[List.dropLast_concat]
  exact kk v _ Hf (k3 (Chg.wr st.same (aj _ hy) (f1.fr y (aj _ hy))) (f1.wr l fv' hl hy ⟨y,_,rfl,rfl,A6,r1⟩) λz hz=>.inl hz) (B0.refl _) r2⟩
def OFr(X:Cx)(C:CT)(b:Bs)(ρ:Rho)(q:Os)(e:Expr)(w:Fv):Prop:=PE X e (λσ H Q=>∃Hf,OSt X.K C b ρ q σ H Hf/\∀l u,H l=none->FvA X.K (upd H l u) Hf w (.ref l) [l]->Q (.ref l) (upd H l u))
theorem bL5:OFr X C b ρ q (.List [] lp) (.lst []):=A4 (bp0 K2) λσ H Q ⟨Hf,st,kk⟩=>⟨by show 0<=dj;decide,λl hl=>kk l _ hl ⟨l,[],rfl,rfl,A6,rfl⟩⟩
theorem bq9:OFr X C b ρ q (.Dict [] [] lp) (.dic []):=A4 bp3 λσ H Q ⟨Hf,st,kk⟩ l hl=>kk l _ hl ⟨l,[],rfl,rfl,A6,rfl⟩
theorem aT2:b0 X (.type "dict") (λxs H Q=>∃p kvs,xs=[.ref p]/\H p=some (.dK kvs)/\∀l,H l=none->Q (.ref l) (upd H l (.dK kvs))):=by
 intro pins s σ H vs us Q I rv ⟨p,kvs,e0,e1,k⟩;subst e0;obtain⟨u,rfl,rx⟩:=aa3 rv;cases rx;exact bA3 I (.inl e1) λl s' hl I'=>⟨.ref l,_,I',rfl,k l hl⟩
theorem bd9(Z:At2 X C kd fn ρ q x i j a o)(hf:f∈fn)(l:o.l.lookup f=some (.dic m))(hg:Gl X "dict")(hm:X.mg "dict" = none)(hb:dB (.Name x p) f X.env (eval (.Name x p) X.env)=eval (.Name x p) X.env)(hs:di [.Attribute (.Name x p) f pos] X.env=[(false,eval (.Attribute (.Name x p) f pos) X.env)]:=by rfl):
  OFr X C b ρ q (.Call (.Name "dict" p1) [.Attribute (.Name x p) f pos] [] cpos) (.dic m) :=
 A4 (Y9 aT2 hg hm bQ4 (C3 (Z6 Z.A Z.c Z.k hf l hb) K2 hs) (he:=hs)) λσ H Q ⟨Hf,st,kk⟩=>⟨Hf,st,λcl v ps f1 hl fv hp=>by
  obtain⟨y,kvs,rfl,rfl,e0,r0⟩:=fv
  exact⟨y,kvs,rfl,e0,λl hl=>kk l _ hl ⟨l,kvs,rfl,rfl,A6,r0⟩⟩⟩
theorem bd6(Z:At2 X C kd fn ρ q x i j a o)(hf:f∈fn)(l:o.l.lookup f=some (.lst ds))(hg:Gl X "list")(hm:X.mg "list" = none)(hb:dB (.Name x p) f X.env (eval (.Name x p) X.env)=eval (.Name x p) X.env)(hs:di [.Attribute (.Name x p) f pos] X.env=[(false,eval (.Attribute (.Name x p) f pos) X.env)]:=by rfl):
  OFr X C b ρ q (.Call (.Name "list" p1) [.Attribute (.Name x p) f pos] [] cpos) (.lst ds) :=
 A4 (Y9 aG1 hg hm ba7 (C3 (Z6 Z.A Z.c Z.k hf l hb) K2 hs) (he:=hs)) λσ H Q ⟨Hf,st,kk⟩=>⟨Hf,st,λcl v ps f1 hl fv hp=>by
  obtain⟨y,vs,rfl,rfl,e0,r0⟩:=fv
  exact⟨y,vs,rfl,.inl (SqL.of e0),λl hl=>kk l _ hl ⟨l,vs,rfl,rfl,A6,r0⟩⟩⟩
theorem cd8(Z:At2 X C kd fn ρ q x i j a o)(hf:f∈fn)(h:OFr X C b ρ q e w)(hz:o.l.length < 1000)(hs:swapsWith e (some (.Attribute (.Name x p) f pos')) pos.line X.env=pure false):
  OS X C b ρ q (.Assign [.Attribute (.Name x p) f pos'] e pos) (.nx ρ (q.set j (a,⟨o.k,T3 f w o.l⟩))) :=
 F6 (bo1 (U8 Z.A.n Z.A.v Z.A.d1 Z.A.d2) h hs) λEn σ H ⟨Hf,st,kk⟩=>⟨Hf,st,λl u hl fv=>by
  have g:Grow H Hf (upd H l u) Hf:=Grow.made st.same hl;obtain⟨c',f0,k3⟩:=st.focus Z.A.w Z.A.o;have f3:=f0.grow g;have nl:l∉cells a c':=λhy=>f0.there l hy hl
  obtain⟨ps',p1,p2⟩:=f3.put (f:=f) fv λy hy=>by rw[aM.mp hy];exact⟨nl,st.same.free hl⟩
  refine⟨_,X9 st Z.A.s,a,C kd,c'.dx,c'.fs,rfl,by rw[← Z.k];exact f3.ins,Z.c.cl,Z.c.na f hf,by rw[f3.fl.len];exact hz,?_⟩;have ek:C kd=C o.k:=by rw[Z.k]
  rw[ek];refine kk σ _ Hf (k3 ((Chg.of g).trans (Chg.wr (S:=cells a c') g.sub (by simp) (f3.fr _ (by simp))) λ_ h=>.inl h) p1 λz hz=>?_) (B0.refl _);rcases ax.mp hz with rfl|hz
  ·exact .inl (by simp)
  ·exact(p2 z hz).elim (λh=>.inr (by rw[aM.mp h];exact hl)) λh=>.inl (aj _ h)⟩
end
end G
namespace G
open PySem PySem.Spec PyProof.Rows L2
abbrev UV:=Rho->Fs->Option D
structure Nmd (X:Cx) (i:Nat) (x:Str):Prop where
 n:X.N[i]? = some x
 v:Vis X.env.scope x
 d1:(x==("__debug__" : Str))=false
 d2:(x==("__classdict__" : Str))=false
def UP(X:Cx)(C:CT)(e:Expr)(g:UV):Prop:=∀ρ q d,g ρ q=some d->okR q.length ρ=true->∀b (as:List dX),as.length=q.length->OP X C b (sub as ρ) (as.zip q) e d
def bf3:D->Option Str
 | .str k=>some k
 | _=>none
theorem d5(h:(o:Option D).bind bf3=some k):o=some (.str k):=by
 obtain⟨w,rfl,h⟩:=ae.mp h;cases w<;>cases h;rfl
def av0(i:Nat)(kd:Bool)(f:Str)(ρ:Rho)(q:Fs):Option (Nat×Fo×List (D×D)):=(S5 i ρ q).bind λp=>if p.2.k=kd then(match p.2.l.lookup f with
 | some (.dic m)=>some (p.1,p.2,m)
 | _=>none) else none
def aE4(i:Nat)(kd:Bool)(f:Str)(ρ:Rho)(q:Fs):Option (Nat×Fo×List D):=(S5 i ρ q).bind λp=>if p.2.k=kd then(match p.2.l.lookup f with
 | some (.lst m)=>some (p.1,p.2,m)
 | _=>none) else none
section
variable {X:Cx}{C:CT}{fn:List Str}{kd:Bool}{x f:Str}{i j:Nat}{ρ:Rho}{q:Fs}{o:Fo}{as:List Addr}{b:Bs}
theorem Y3(h:av0 i kd f ρ q=some (j,o,m))(c:FoC X.K (C kd) fn)(no:okR q.length ρ=true)(l:as.length=q.length)(N:Nmd X i x):∃a,as[j]? = some a/\At2 X C kd fn (sub as ρ) (as.zip q) x i j a o/\o.l.lookup f=some (.dic m):=by
 obtain⟨⟨j',o'⟩,e,h⟩:=ae.mp h;split at h
 ·rename_i hk;split at h
  ·rename_i e2;cases h;obtain⟨a,ea,A⟩:=N6 e (T5 no) l N.n N.v N.d1 N.d2;exact⟨a,ea,⟨A,c,hk⟩,e2⟩
  ·cases h
 ·cases h
theorem ao3(h:aE4 i kd f ρ q=some (j,o,m))(c:FoC X.K (C kd) fn)(no:okR q.length ρ=true)(l:as.length=q.length)(N:Nmd X i x):∃a,as[j]? = some a/\At2 X C kd fn (sub as ρ) (as.zip q) x i j a o/\o.l.lookup f=some (.lst m):=by
 obtain⟨⟨j',o'⟩,e,h⟩:=ae.mp h;split at h
 ·rename_i hk;split at h
  ·rename_i e2;cases h;obtain⟨a,ea,A⟩:=N6 e (T5 no) l N.n N.v N.d1 N.d2;exact⟨a,ea,⟨A,c,hk⟩,e2⟩
  ·cases h
 ·cases h
def vP(f:DE):UV:=λρ _=>f (era ρ)
theorem l7{g:DE}(h:JE X e g):UP X C e (vP g):=λρ q d w _ b as _=>A4 (h (era ρ) d w) λσ H Q ⟨Hf,st,k⟩=>⟨_,Hf,st.same,by rw[← P8 as ρ];exact st.sl.era,k⟩
def uL(g:UV):UD:=λρ q=>(g ρ q).map λd=>(d,q)
theorem bF6(h:UP X C e g):UE X C e (uL g):=λρ q d q' w no=>by
 obtain⟨d',e1,e2⟩:=af.mp w;cases e2;exact⟨rfl,λb as l=>(h ρ q d e1 no b as l).oe⟩
def bb9(i:Nat)(kd:Bool)(f:Str)(g:UV):UV:=λρ q=>(av0 i kd f ρ q).bind λt=>((g ρ q).bind bf3).map λk=>(O5 t.2.2 k).getD .none
theorem bY2(hu:X.A.units+64 < cLine)(c:FoC X.K (C kd) fn)(hf:f∈fn)(N:Nmd X i x)(he:UP X C e g)(mm:M1 X (.Attribute (.Name x p) f pos) "get" apos e cpos)(hb:dB (.Name x p) f X.env (eval (.Name x p) X.env)=eval (.Name x p) X.env):
  UP X C (.Call (.Attribute (.Attribute (.Name x p) f pos) "get" apos) [e] [] cpos) (bb9 i kd f g):=λρ q d w no b as l=>by
 obtain⟨⟨j,o,m⟩,e1,w⟩:=ae.mp w;obtain⟨k,e2,w⟩:=af.mp w;subst w;obtain⟨a,ea,Z,z⟩:=Y3 e1 c no l N;exact ce8 hu Z hf z (he ρ q _ (d5 e2) no b as l) mm hb
def vIn(neg:Bool)(i:Nat)(kd:Bool)(f:Str)(g:UV):UV:=λρ q=>(av0 i kd f ρ q).bind λt=>((g ρ q).bind bf3).map λk=>.bool (if neg then !(O5 t.2.2 k).isSome else(O5 t.2.2 k).isSome)
theorem cr6(hu:X.A.units+64 < cLine)(c:FoC X.K (C kd) fn)(hf:f∈fn)(N:Nmd X i x)(he:UP X C e g)(hb:dB (.Name x p) f X.env (eval (.Name x p) X.env)=eval (.Name x p) X.env)(h1:behindInMarks .In (.Attribute (.Name x p) f pos)=false):
  UP X C (.Compare e [.In] [.Attribute (.Name x p) f pos] cpos) (vIn false i kd f g):=λρ q d w no b as l=>by
 obtain⟨⟨j,o,m⟩,e1,w⟩:=ae.mp w;obtain⟨k,e2,w⟩:=af.mp w;subst w;obtain⟨a,ea,Z,z⟩:=Y3 e1 c no l N;exact cv9 hu Z hf z (he ρ q _ (d5 e2) no b as l) hb h1
theorem bj6(hu:X.A.units+64 < cLine)(c:FoC X.K (C kd) fn)(hf:f∈fn)(N:Nmd X i x)(he:UP X C e g)(hb:dB (.Name x p) f X.env (eval (.Name x p) X.env)=eval (.Name x p) X.env)(h1:behindInMarks .NotIn (.Attribute (.Name x p) f pos)=false):
  UP X C (.Compare e [.NotIn] [.Attribute (.Name x p) f pos] cpos) (vIn true i kd f g):=λρ q d w no b as l=>by
 obtain⟨⟨j,o,m⟩,e1,w⟩:=ae.mp w;obtain⟨k,e2,w⟩:=af.mp w;subst w;obtain⟨a,ea,Z,z⟩:=Y3 e1 c no l N;exact bq3 hu Z hf z (he ρ q _ (d5 e2) no b as l) hb h1
theorem bR3(neg:Bool)(hu:X.A.units+64 < cLine)(c:FoC X.K (C kd) fn)(hf:f∈fn)(N:Nmd X i x)(he:UP X C e g)(hb:dB (.Name x p) f X.env (eval (.Name x p) X.env)=eval (.Name x p) X.env)(h1:behindInMarks (if neg then .NotIn else .In) (.Attribute (.Name x p) f pos)=false):
  UT X C (.Compare e [if neg then .NotIn else .In] [.Attribute (.Name x p) f pos] cpos) (uTB (uL (vIn neg i kd f g))):=λρ q d q' w no=>by
 obtain⟨⟨d0,q1⟩,w1,w⟩:=ae.mp w;obtain⟨d1,w2,w3⟩:=af.mp w1;cases w3;obtain⟨c0,w4,w5⟩:=af.mp w;cases w5;obtain⟨⟨j,o,m⟩,e1,w2⟩:=ae.mp w2;obtain⟨k,e2,w2⟩:=af.mp w2;subst w2;cases w4;refine⟨rfl,λb as l=>?_⟩;obtain⟨a,ea,Z,z⟩:=Y3 e1 c no l N;cases neg
 ·exact cv5 hu Z hf z (he ρ q _ (d5 e2) no b as l) hb h1
 ·exact bq0 hu Z hf z (he ρ q _ (d5 e2) no b as l) hb h1
def aU7(i:Nat)(kd:Bool)(f:Str)(g:UV):UV:=λρ q=>(av0 i kd f ρ q).bind λt=>((g ρ q).bind bf3).bind λk=>O5 t.2.2 k
theorem bE8(hu:X.A.units+64 < cLine)(c:FoC X.K (C kd) fn)(hf:f∈fn)(N:Nmd X i x)(he:UP X C e g)(hs:bR0 e)(hb:dB (.Name x p) f X.env (eval (.Name x p) X.env)=eval (.Name x p) X.env):
  UP X C (.Subscript (.Attribute (.Name x p) f pos) e cpos) (aU7 i kd f g):=λρ q d w no b as l=>by
 obtain⟨⟨j,o,m⟩,e1,w⟩:=ae.mp w;obtain⟨k,e2,w⟩:=ae.mp w;obtain⟨a,ea,Z,z⟩:=Y3 e1 c no l N;exact bL0 hu Z hf z (he ρ q _ (d5 e2) no b as l) w hs hb
def ad9(i:Nat)(kd:Bool)(f:Str):UV:=λρ q=>(aE4 i kd f ρ q).map λt=>.int t.2.2.length
theorem bY1(c:FoC X.K (C kd) fn)(hf:f∈fn)(N:Nmd X i x)(hg:Gl X "len")(hm:X.mg "len" = none)(hb:dB (.Name x p) f X.env (eval (.Name x p) X.env)=eval (.Name x p) X.env):UP X C (.Call (.Name "len" p1) [.Attribute (.Name x p) f pos] [] cpos) (ad9 i kd f):=λρ q d w no b as l=>by
 obtain⟨⟨j,o,m⟩,e1,w⟩:=af.mp w;subst w;obtain⟨a,ea,Z,z⟩:=ao3 e1 c no l N;exact ce6 Z hf z hg hm hb
def bD6(i:Nat)(kd:Bool)(f:Str):UV:=λρ q=>(av0 i kd f ρ q).bind λt=>(aI6 (t.2.2.map (·.1))).map PyData.list
theorem bY0(hc:X.calm=true)(c:FoC X.K (C kd) fn)(hf:f∈fn)(N:Nmd X i x)(hg:Gl X "sorted")(hm:X.mg "sorted" = none)(hb:dB (.Name x p) f X.env (eval (.Name x p) X.env)=eval (.Name x p) X.env):UP X C (.Call (.Name "sorted" p1) [.Attribute (.Name x p) f pos] [] cpos) (bD6 i kd f):=λρ q d w no b as l=>by
 obtain⟨⟨j,o,m⟩,e1,w⟩:=ae.mp w;obtain⟨out,e2,w⟩:=af.mp w;subst w;obtain⟨a,ea,Z,z⟩:=Y3 e1 c no l N;exact ce3 hc Z hf z e2 hg hm hb
abbrev VL:=Rho->Fs->Option (List D)
def UPA(X:Cx)(C:CT)(es:List Expr)(g:VL):Prop:=∀ρ q ds,g ρ q=some ds->okR q.length ρ=true->∀b (as:List dX),as.length=q.length->OPA X C b (sub as ρ) (as.zip q) es ds
def vlN:VL:=λ_ _=>some []
def vlC(f:UV)(g:VL):VL:=λρ q=>(f ρ q).bind λd=>(g ρ q).map λds=>d::ds
theorem bE6:UPA X C [] vlN:=λρ q ds w _ b as _=>by cases w;exact bK6
theorem bj5{f:UV}(h:UP X C e f)(r:UPA X C es g)(hs:di (e::es) X.env=(false,eval e X.env)::di es X.env):UPA X C (e::es) (vlC f g):=λρ q ds w no b as l=>by
 obtain⟨d,e1,w⟩:=ae.mp w;obtain⟨ds',e2,w⟩:=af.mp w;subst w;exact bq1 (h ρ q d e1 no b as l) (r ρ q ds' e2 no b as l) hs
def bj0(g:VL):UV:=λρ q=>(g ρ q).map PyData.tuple
theorem bX9(h:UPA X C es g)(hn:es.length<=1000):UP X C (.Tuple es k pos) (bj0 g):=λρ q d w no b as l=>by
 obtain⟨ds,e1,w⟩:=af.mp w;subst w;exact ce1 (h ρ q ds e1 no b as l) hn
theorem aV0{o':Fo}{s0:Stmt}(ea:as[j]? = some a)(h:OS X C b (sub as ρ) (as.zip q) s0 (.nx (sub as ρ) ((as.zip q).set j (a,o'))))(l:as.length=q.length):PS X s0 (tU X C b as ρ q (.nx ρ (q.set j o'))) :=
 F6 h λEn σ H ⟨Hf,st,k⟩=>⟨Hf,st,λσ' H' Hf' s' e'=>as7 k (by rw[bw];exact l) σ' H' Hf' (by rw[O0 ea];exact s') e'⟩
theorem an9{o':Fo}(no:okR q.length ρ=true):(UF.nx ρ (q.set j o')).own=true:=by show okR (q.set j o').length ρ=true;rw[bw];exact no
def bC6(i:Nat)(kd:Bool)(f:Str)(gk gv:UV):UX:=λρ q=>(av0 i kd f ρ q).bind λt=>((gk ρ q).bind bf3).bind λk=>(gv ρ q).bind λd=>if t.2.2.length < 1000 then some (.nx ρ (q.set t.1 ⟨t.2.1.k,T3 f (.dic (aQ1 t.2.2 k d)) t.2.1.l⟩)) else none
theorem bE1(hu:X.A.units+64 < cLine)(c:FoC X.K (C kd) fn)(hf:f∈fn)(N:Nmd X i x)(he:UP X C e gk)(hv:UP X C v gv)(hb:dB (.Name x p) f X.env (eval (.Name x p) X.env)=eval (.Name x p) X.env)(hs:swapsWith v (some (.Subscript (.Attribute (.Name x p) f pos) e pos')) pos2.line X.env=pure false):
  US X C (.Assign [.Subscript (.Attribute (.Name x p) f pos) e pos'] v pos2) (bC6 i kd f gk gv):=λρ q fl w no=>by
 obtain⟨⟨j,o,m⟩,e1,w⟩:=ae.mp w;obtain⟨k,e2,w⟩:=ae.mp w;obtain⟨d,e3,w⟩:=ae.mp w;split at w
 ·rename_i hz;cases w;refine⟨an9 no,λb as l=>?_⟩;obtain⟨a,ea,Z,z⟩:=Y3 e1 c no l N;exact aV0 ea (cd6 hu Z hf z (he ρ q _ (d5 e2) no b as l) (hv ρ q d e3 no b as l) hz hb hs) l
 ·cases w
def bC7(i:Nat)(kd:Bool)(f:Str)(gk:UV):UX:=λρ q=>(av0 i kd f ρ q).bind λt=>((gk ρ q).bind bf3).bind λk=>if(O5 t.2.2 k).isSome then some (.nx ρ (q.set t.1 ⟨t.2.1.k,T3 f (.dic (as9 t.2.2 k)) t.2.1.l⟩)) else none
theorem bE2(c:FoC X.K (C kd) fn)(hf:f∈fn)(N:Nmd X i x)(he:UP X C e gk)(mm:M1 X (.Attribute (.Name x p) f pos) "pop" apos e cpos)(hb:dB (.Name x p) f X.env (eval (.Name x p) X.env)=eval (.Name x p) X.env)(hs:swapsWith (.Call (.Attribute (.Attribute (.Name x p) f pos) "pop" apos) [e] [] cpos) none pos2.line X.env=pure false):
  US X C (.Expr (.Call (.Attribute (.Attribute (.Name x p) f pos) "pop" apos) [e] [] cpos) pos2) (bC7 i kd f gk):=λρ q fl w no=>by
 obtain⟨⟨j,o,m⟩,e1,w⟩:=ae.mp w;obtain⟨k,e2,w⟩:=ae.mp w;split at w
 ·rename_i hz;cases w;refine⟨an9 no,λb as l=>?_⟩;obtain⟨a,ea,Z,z⟩:=Y3 e1 c no l N;exact aV0 ea (cd7 Z hf z (he ρ q _ (d5 e2) no b as l) hz mm hb hs) l
 ·cases w
def bb8(i:Nat)(kd:Bool)(f:Str)(gv:UV):UX:=λρ q=>(aE4 i kd f ρ q).bind λt=>(gv ρ q).bind λd=>if t.2.2.length < 1000 then some (.nx ρ (q.set t.1 ⟨t.2.1.k,T3 f (.lst (t.2.2++[d])) t.2.1.l⟩)) else none
theorem bE5(c:FoC X.K (C kd) fn)(hf:f∈fn)(N:Nmd X i x)(hv:UP X C e gv)(mm:M1 X (.Attribute (.Name x p) f pos) "append" apos e cpos)(hst:di [e] X.env=[(false,eval e X.env)])(hb:dB (.Name x p) f X.env (eval (.Name x p) X.env)=eval (.Name x p) X.env)(hs:swapsWith (.Call (.Attribute (.Attribute (.Name x p) f pos) "append" apos) [e] [] cpos) none pos2.line X.env=pure false):
  US X C (.Expr (.Call (.Attribute (.Attribute (.Name x p) f pos) "append" apos) [e] [] cpos) pos2) (bb8 i kd f gv):=λρ q fl w no=>by
 obtain⟨⟨j,o,m⟩,e1,w⟩:=ae.mp w;obtain⟨d,e2,w⟩:=ae.mp w;split at w
 ·rename_i hz;cases w;refine⟨an9 no,λb as l=>?_⟩;obtain⟨a,ea,Z,z⟩:=ao3 e1 c no l N;exact aV0 ea (ce0 Z hf z (hv ρ q d e2 no b as l) hz hb mm.base mm.few mm.line hst hs) l
 ·cases w
def aV2(i:Nat)(kd:Bool)(f:Str):UD:=λρ q=>(aE4 i kd f ρ q).bind λt=>(ay1 t.2.2).map λp=>(p.2,q.set t.1 ⟨t.2.1.k,T3 f (.lst p.1) t.2.1.l⟩)
theorem bF4(c:FoC X.K (C kd) fn)(hf:f∈fn)(N:Nmd X i x)(hline:(apos.endLine==cpos.line)=true)(hb:dB (.Name x p) f X.env (eval (.Name x p) X.env)=eval (.Name x p) X.env)(hbase:dB (.Attribute (.Name x p) f pos) "pop" X.env (eval (.Attribute (.Name x p) f pos) X.env)=eval (.Attribute (.Name x p) f pos) X.env):
  UE X C (.Call (.Attribute (.Attribute (.Name x p) f pos) "pop" apos) [] [] cpos) (aV2 i kd f):=λρ q d q' w no=>by
 obtain⟨⟨j,o,m⟩,e1,w⟩:=ae.mp w;obtain⟨⟨bs,d'⟩,e2,w⟩:=af.mp w;cases w;refine⟨by rw[bw],λb as l=>?_⟩;obtain⟨a,ea,Z,z⟩:=ao3 e1 c no l N;rw[O0 ea];exact bL7 Z hf (by rw[z,bu2 (show ay1 m=some (bs,d') from e2)]) hline hb hbase
abbrev UFr:=Rho->Fs->Option Fv
def UN2(X:Cx)(C:CT)(e:Expr)(g:UFr):Prop:=∀ρ q w,g ρ q=some w->okR q.length ρ=true->∀b (as:List dX),as.length=q.length->OFr X C b (sub as ρ) (as.zip q) e w
def bi6:UFr:=λ_ _=>some (.lst [])
def bi7:UFr:=λ_ _=>some (.dic [])
def wDC(i:Nat)(kd:Bool)(f:Str):UFr:=λρ q=>(av0 i kd f ρ q).map λt=>.dic t.2.2
def wLC(i:Nat)(kd:Bool)(f:Str):UFr:=λρ q=>(aE4 i kd f ρ q).map λt=>.lst t.2.2
theorem bY3:UN2 X C (.List [] lp) bi6:=λρ q w h _ b as _=>by cases h;exact bL5
theorem bF0:UN2 X C (.Dict [] [] lp) bi7:=λρ q w h _ b as _=>by cases h;exact bq9
theorem bk0(c:FoC X.K (C kd) fn)(hf:f∈fn)(N:Nmd X i x)(hg:Gl X "dict")(hm:X.mg "dict" = none)(hb:dB (.Name x p) f X.env (eval (.Name x p) X.env)=eval (.Name x p) X.env):UN2 X C (.Call (.Name "dict" p1) [.Attribute (.Name x p) f pos] [] cpos) (wDC i kd f):=λρ q w h no b as l=>by
 obtain⟨⟨j,o,m⟩,e1,h⟩:=af.mp h;subst h;obtain⟨a,ea,Z,z⟩:=Y3 e1 c no l N;exact bd9 Z hf z hg hm hb
theorem bj9(c:FoC X.K (C kd) fn)(hf:f∈fn)(N:Nmd X i x)(hg:Gl X "list")(hm:X.mg "list" = none)(hb:dB (.Name x p) f X.env (eval (.Name x p) X.env)=eval (.Name x p) X.env):UN2 X C (.Call (.Name "list" p1) [.Attribute (.Name x p) f pos] [] cpos) (wLC i kd f):=λρ q w h no b as l=>by
 obtain⟨⟨j,o,m⟩,e1,h⟩:=af.mp h;subst h;obtain⟨a,ea,Z,z⟩:=ao3 e1 c no l N;exact bd6 Z hf z hg hm hb
def au5(i:Nat)(kd:Bool)(f:Str)(g:UFr):UX:=λρ q=>(S5 i ρ q).bind λp=>(g ρ q).bind λw=>if p.2.k=kd/\p.2.l.length < 1000 then some (.nx ρ (q.set p.1 ⟨p.2.k,T3 f w p.2.l⟩)) else none
theorem bE3(c:FoC X.K (C kd) fn)(hf:f∈fn)(N:Nmd X i x)(h:UN2 X C e g)(hs:swapsWith e (some (.Attribute (.Name x p) f pos')) pos.line X.env=pure false):US X C (.Assign [.Attribute (.Name x p) f pos'] e pos) (au5 i kd f g):=λρ q fl w no=>by
 obtain⟨⟨j,o⟩,e1,w⟩:=ae.mp w;obtain⟨v,e2,w⟩:=ae.mp w;split at w
 ·rename_i hz;cases w;refine⟨an9 no,λb as l=>?_⟩;obtain⟨a,ea,A⟩:=N6 e1 (T5 no) l N.n N.v N.d1 N.d2;exact aV0 ea (cd8 ⟨A,c,hz.1⟩ hf (h ρ q v e2 no b as l) hz.2 hs) l
 ·cases w
end
end G
namespace G
open PySem PySem.Spec PyProof.Rows L2
def bH7(K:ag)(C:CT)(n:Nat)(F:List D->Option Fo):Sp:=λvs H Q _=>vs.length=n/\∃Hf ds o,B0 Hf H/\Reps K Hf ds vs/\F ds=some o/\∀a c H' Hf',Grow H Hf H' Hf'->FoAt K C H' Hf' a c o->(∀y∈cells a c,H y=none)->Q (.ref a) H'
def cB9(X:Cx)(C:CT)(x:Str)(F:List D->Option Fo)(n:Nat):Prop:=∃k f fd ps,FnOk X.prog X.w X.K X.mg X.base CX0 k f fd ps (bH7 X.K C n F)/\Room k X.A/\X.mg x=some (.ref f)/\aF X.K (.ref f)=true/\M4 X.K fd ps []
def UN3(X:Cx)(C:CT)(e:Expr)(g:Rho->Fs->Option (Fo×Fs)):Prop:=∀ρ q o q',g ρ q=some (o,q')->okR q.length ρ=true->q'.length=q.length/\∀b (as:List dX),as.length=q.length->PE X e (λσ H Q=>∃Hf,OSt X.K C b (sub as ρ) (as.zip q) σ H Hf/\∀a c H1 Hf1 H' Hf',OSt X.K C b (sub as ρ) (as.zip q') σ H1 Hf1->B0 Hf Hf1->Grow H1 Hf1 H' Hf'->FoAt X.K C H' Hf' a c o->(∀y∈cells a c,H1 y=none)->Q (.ref a) H')
section
variable {X:Cx}{C:CT}
def Z7(F:List D->Option Fo)(g:UL):Rho->Fs->Option (Fo×Fs):=λρ q=>(g ρ q).bind λx=>(F x.1).map λo=>(o,x.2)
theorem bk1{e:Expr}{es:List Expr}(N:cB9 X C x F n)(hg:Gl X x)(ha:UAs X C (e::es) g)(hn:(e::es).length=n)(hdb:(x==("__debug__" : Str))=false)(he:di (e::es) X.env=(false,eval e X.env)::di es X.env)(hpl:(backTo pos (di es X.env)).any (·.1)=false):
  UN3 X C (.Call (.Name x p) (e::es) [] pos) (Z7 F g):=λρ q o q' w no=>by
 obtain⟨⟨ds,q1⟩,w1,w⟩:=ae.mp w;obtain⟨o',w2,w3⟩:=af.mp w;cases w3;obtain⟨l1,n1,a1⟩:=ha ρ q ds q1 w1 no;obtain⟨k,f,fd,ps,Fk,hr,hm,hk,hb⟩:=N;exact⟨l1,λb as l=>A4 (an8 Fk hr hg hm hk hb .nil x9 (a1 b as l) hdb he hpl) λσ H Q ⟨Hf,st,kk⟩=>⟨Hf,st,λvs H1 Hf1 s1 e1 r1=>⟨by rw[ar,r1.length,n1,hn],Hf1,ds,o,s1.same,by rw[ar];exact r1,w2,λa c H2 Hf2 g2 fo fr=>kk a c H1 Hf1 H2 Hf2 s1 e1 g2 fo fr⟩⟩⟩
def xNw(i:Nat)(g:Rho->Fs->Option (Fo×Fs)):UX:=λρ q=>(g ρ q).map λo=>.nx (ρ.set i (some (.opq q.length))) (o.2++[o.1])
theorem cr3(i:Nat)(hN:X.N.Nodup)(h:UN3 X C e g)(hi:X.N[i]? = some x)(hx:Loc X.env.scope x)(hs:swapsWith e (some (.Name x pos')) pos.line X.env=pure false)(hf:X.fn x=true\/X.env.scope.names.lookup x=some .local):US X C (.Assign [.Name x pos'] e pos) (xNw i g):=λρ q fl w no=>by
 obtain⟨⟨o,q'⟩,w1,w2⟩:=af.mp w;cases w2;obtain⟨l1,a1⟩:=h ρ q o q' w1 no;refine⟨by rw[← l1];exact aC9 (by rw[l1];exact no) i o,λb as l=>F6 (ai6 hN hi hx (a1 b as l) hs hf) λEn σ H ⟨Hf,st,k⟩=>⟨Hf,st,λa c H1 Hf1 H' Hf' s1 e1 g fo fr=>?_⟩⟩;have st2:=s1.add g fo fr;exact k [a] _ H' Hf' (by simp[l,l1]) (by rw[← l1,aB3 (by rw[l1];exact no) (l.trans l1.symm),aA8 (l.trans l1.symm)];exact st2.slots st2.sl.setO) (e1.trans g.ext)
def au6(g:Rho->Fs->Option (Fo×Fs))(kd:Bool)(m:Str)(F:DF)(f:Rho->Option (List D)):UD:=λρ q=>(g ρ q).bind λp=>if p.1.k=kd/\(p.1.l.lookup m).isNone=true then(f (era ρ)).bind λds=>(F p.1 (none::ds.map some)).map λr=>(r.1,p.2) else none
end
section
variable {P:Program}{w:World}{K:PySem.W.Frag}{mg:Str->Option Value}{base:Heap}{x qual:Str}{s0:Stmt}{f:Addr}{fd:FuncData}{N ps:List Str}{k:Nat}{g:UX}{C:CT}
def bI3(g:UX)(n:Nat):List D->Option Fo:=λds=>(g (P6 n ds) []).bind λfl=>match fl with
 | .ro j q=>q[j]?
 | _=>none
theorem by7(F:Fun K x qual s0 f fd)(S:FnScope N ps (A9 s0))
  (hb:∀(cdv:dU) (A:dr) (outer:List Env) (s:dW) (H:Hp) (E:XK),Room k (A.deeper (envOfC qual (A9 s0) s.heap.objs.size f cdv))->USs (ah2 CX0 P w K mg base N qual (A9 s0) f cdv A outer s H E).nox C (C4 s0) g) :
  FnOk P w K mg base CX0 (k+1) f fd ps (bH7 K C ps.length (bI3 g N.length)):=by
 refine F.ok S (λvs H Q E h=>h.1) λcdv A outer s H vs Q E hr hsp=>?_
 obtain⟨hlen,Hf,ds,o,ss,rp,e,kk⟩:=hsp;obtain⟨fl,e1,e2⟩:=ae.mp e;obtain⟨_,h⟩:=hb cdv A outer s H E hr _ [] fl e1 (ax2 _ _ _);refine⟨_,h ⟨[],H,Hf⟩ [] rfl,Hf,aV7 ss rp,?_⟩;cases fl with
 | rt d' q=>cases e2
 | nx ρ q=>cases e2
 | ro j q =>
  intro ex ρ σ a H' Hf' l s' hj;obtain⟨R,r1,r2,_⟩:=s'.ob;obtain⟨c,f1,f2,_⟩:=r1.focus (bi.mpr ⟨hj,e2⟩);exact kk a c H' Hf' s'.gr.grow f1 λy hy=>(r2 y (f2 y hy)).elim (λz=>nomatch z) id
end
end G
namespace G
open PySem PySem.Spec PyProof.Rows L2
theorem by1{S:List dX}(g:Grow H Hf H1 Hf1)(ch:Chg S H1 Hf1 H2 Hf2)(fr:∀y∈S,H y=none):Grow H Hf H2 Hf2 :=
 ⟨λb u e=>ch.big b u (λz=>by rw[fr b z]at e;cases e) (g.big b u e),ch.sub,g.ext.trans ch.ext,λb hb=>(ch.new b hb).elim (g.new b) λz=>.inr (g.big.free z)⟩
section
variable {X:Cx}{C:CT}{fn:List Str}
theorem aK6{f m:Str}{p p2 apos pos:Pos}{ex0:Expr}{es1 es:List Expr}(hl:(apos.endLine==pos.line)=true)(hf:methodCallForm (es.length+([]:List dw).length) (backTo pos (di es X.env)) (backToKw pos (keywordEach [] X.env))=true):
  eval (.Call (.Attribute (.Call (.Name f p) (ex0::es1) [] p2) m apos) es [] pos) X.env=(do
   let ov ← eval (.Call (.Name f p) (ex0::es1) [] p2) X.env
   standAt apos.atName
   let(f,first) ← holding [ov] (getMethod ov m (do return (← importBound (.Call (.Name f p) (ex0::es1) [] p2) X.env).getD true))
   callWith pos f first (backTo pos (di es X.env)) (backToKw pos (keywordEach [] X.env))):=by
 show(do let ov ← eval (.Call (.Name f p) (ex0::es1) [] p2) X.env;standAt apos.atName;methodCall (.Call (.Name f p) (ex0::es1) [] p2) m apos pos X.env ov (es.length+([]:List dw).length) (backTo pos (di es X.env)) (backToKw pos (keywordEach [] X.env)))=_;unfold methodCall;rw[hf];unfold methodCallPos calleeOf;rw[hl];rfl
theorem aI3{ds:List D}{d:D}{F:DF}{E:XK}{Q:VK}{q:Os}{o o':Fo}(s1:OSt X.K C b ρ q σ H1 Hf1)(g:Grow H1 Hf1 H Hf)(fo:FoAt X.K C H Hf a c o)(fr:∀y∈cells a c,H1 y=none)(hk:o.k=kd)(nf:o.l.lookup m=none)(r:F o (none::ds.map some)=some (d,o'))(hn:ds.length=n)
  (k:∀v H' Hf',OSt X.K C b ρ q σ H' Hf'->B0 Hf1 Hf'->Rep X.K Hf' d v->Q v H') :
  ∃a' dx fs,V.ref a=.ref a'/\H a'=some (.ins (C kd) dx fs)/\fs.lookup m=none/\∀vs H2 Hf2,Grow H Hf H2 Hf2->Reps X.K Hf2 ds vs->spD X.K C (n+1) F (.ref a::(vs++[])) H2 Q E:=by
 refine⟨a,c.dx,c.fs,rfl,by rw[← hk];exact fo.ins,aD2 fo nf,λvs H2 Hf2 g2 r2=>⟨by rw[ar,aO,r2.length,hn],a,Hf2,c,o,none::ds.map some,d,o',g2.sub,fo.grow g2,⟨_,_,rfl,rfl,by rw[ar];exact aD3 r2⟩,r,λv H3 Hf3 c' g3 f3 n3 rv=>?_⟩⟩;have gg:=by1 (g.trans g2) g3 fr;exact k v H3 Hf3 (s1.grow gg) gg.ext rv
theorem bF3{g:Rho->Fs->Option (Fo×Fs)}(h:UN3 X C (.Call (.Name f p) (ex0::es1) [] p2) g)(M:at6 X C kd m 0 F)(c:FoC X.K (C kd) fn)(hl:(apos.endLine==pos.line)=true):UE X C (.Call (.Attribute (.Call (.Name f p) (ex0::es1) [] p2) m apos) [] [] pos) (au6 g kd m F A2):=λρ q d q' w no=>by
 obtain⟨⟨o,q1⟩,w1,w⟩:=ae.mp w;split at w
 ·rename_i hz;obtain⟨ds,w2,w⟩:=ae.mp w;cases w2;obtain⟨⟨r,o'⟩,w3,w4⟩:=af.mp w;cases w4;obtain⟨l1,a1⟩:=h ρ q o q1 w1 no;obtain⟨k,fa,fd,ps,Fk,hr,hm,hb⟩:=M;refine⟨l1,λb as' l=>A4 (ar1 (a1 b as' l) c.cl hm Fk hr hb .nil x9 (aK6 hl rfl)) λσ H Q ⟨Hf,st,kk⟩=>⟨Hf,st,λa c H1 Hf1 H' Hf' s1 e1 g fo fr=>?_⟩⟩;obtain⟨a',dx,fs,z1,z2,z3,z4⟩:=aI3 (n:=0) (ds:=[]) (E:=E0) s1 g fo fr hz.1 (by simpa using hz.2) w3 rfl λv H3 Hf3 s3 e3 r3=>kk v H3 Hf3 s3 (e1.trans e3) r3
  exact⟨a',dx,fs,z1,z2,z3,z4 [] H' Hf' (Grow.refl g.sub) rfl⟩
 ·cases w
theorem bY8{g:Rho->Fs->Option (Fo×Fs)}{e:Expr}{es:List Expr}{fa:Rho->Option (List D)}(h:UN3 X C (.Call (.Name f p) (ex0::es1) [] p2) g)(M:at6 X C kd m n F)(c:FoC X.K (C kd) fn)(ha:JA X (e::es) fa)(hn:(e::es).length=n)(hst:di (e::es) X.env=(false,eval e X.env)::di es X.env)(hpl:(backTo pos (di es X.env)).any (·.1)=false)(hl:(apos.endLine==pos.line)=true)
  (hfm:methodCallForm ((e::es).length+([]:List dw).length) (backTo pos (di (e::es) X.env)) (backToKw pos (keywordEach [] X.env))=true):UE X C (.Call (.Attribute (.Call (.Name f p) (ex0::es1) [] p2) m apos) (e::es) [] pos) (au6 g kd m F fa):=λρ q d q' w no=>by
 obtain⟨⟨o,q1⟩,w1,w⟩:=ae.mp w;split at w
 ·rename_i hz;obtain⟨ds,w2,w⟩:=ae.mp w;obtain⟨⟨r,o'⟩,w3,w4⟩:=af.mp w;cases w4;obtain⟨l1,a1⟩:=h ρ q o q1 w1 no;obtain⟨k,fa',fd,ps,Fk,hr,hm,hb⟩:=M;refine⟨l1,λb as' l=>A4 (aX5 (a1 b as' l) c.cl hm Fk hr hb .nil x9 (λpos pins s σ H Q I t=>ha.run (era ρ) ds w2 pos pins s σ H Q I t) hst hpl (aK6 hl hfm)) λσ H Q ⟨Hf,st,kk⟩=>⟨Hf,st,λa c H1 Hf1 H' Hf' s1 e1 g fo fr=>?_⟩⟩;obtain⟨a',dx,fs,z1,z2,z3,z4⟩:=aI3 (n:=n) (ds:=ds) (E:=E0) s1 g fo fr hz.1 (by simpa using hz.2) w3 (by rw[ha.len _ ds w2,hn]) λv H3 Hf3 s3 e3 r3=>kk v H3 Hf3 s3 (e1.trans e3) r3
  exact⟨a',dx,fs,z1,z2,z3,_,Hf',g.sub,by rw[← P8 as' ρ];exact((s1.grow g).sl).era,z4⟩
 ·cases w
abbrev DO:=Fo->MD->Option (Fo×Fo)
def spO(K:ag)(C:CT)(n:Nat)(F:DO):Sp:=λvs H Q _=>vs.length=n/\∃a Hf c o ms r o',B0 Hf H/\FoAt K C H Hf a c o/\Mxs K Hf a ms vs/\F o ms=some (r,o') /\
 ∀a2 c2 H' Hf' c',Chg (cells a c) H Hf H' Hf'->FoAt K C H' Hf' a c' o'->(∀x∈cells a c',x∈cells a c\/H x=none)->FoAt K C H' Hf' a2 c2 r->(∀y∈cells a2 c2,(y∈cells a c\/H y=none)/\y∉cells a c')->Q (.ref a2) H'
def cC1(X:Cx)(C:CT)(kd:Bool)(m:Str)(F:DO):Prop:=∃k f fd ps,FnOk X.prog X.w X.K X.mg X.base CX0 k f fd ps (spO X.K C 1 F)/\Room k X.A/\Meth X.K (C kd) m f/\M4 X.K fd ps []
def xTw(i j:Nat)(kd:Bool)(m:Str)(F:DO):UX:=λρ q=>(S5 j ρ q).bind λp=>if p.2.k=kd/\(p.2.l.lookup m).isNone=true then(F p.2 [none]).map λr=>.nx (ρ.set i (some (.opq q.length))) (q.set p.1 r.2++[r.1]) else none
theorem bX5(i j:Nat)(M:cC1 X C kd m F)(c:FoC X.K (C kd) fn)(hN:X.N.Nodup)(hi:X.N[i]? = some x)(hx:Loc X.env.scope x)(hf:X.fn x=true\/X.env.scope.names.lookup x=some .local)(Ny:Nmd X j y)(hl:(p2.endLine==p3.line)=true)
  (hs:swapsWith (.Call (.Attribute (.Name y p) m p2) [] [] p3) (some (.Name x pos')) pos.line X.env=pure false):US X C (.Assign [.Name x pos'] (.Call (.Attribute (.Name y p) m p2) [] [] p3) pos) (xTw i j kd m F):=λρ q fl w no=>by
 obtain⟨⟨n,o⟩,w1,w⟩:=ae.mp w;split at w
 ·rename_i hz;obtain⟨⟨r,o'⟩,w2,w3⟩:=af.mp w;cases w3;have lq:(q.set n o').length=q.length:=bw;refine⟨by show okR (q.set n o'++[r]).length _=true;rw[← lq];exact aC9 (by rw[lq];exact no) i r,λb as l=>?_⟩;obtain⟨a,ea,A⟩:=N6 w1 (T5 no) l Ny.n Ny.v Ny.d1 Ny.d2;obtain⟨k,fa,fd,ps,Fk,hr,hm,hb⟩:=M;refine F6 (ai6 hN hi hx (ar1 (E:=E0) (U8 A.n A.v A.d1 A.d2) c.cl hm Fk hr hb .nil x9 (ao1 hl rfl)) hs hf) λEn σ H ⟨Hf,st,kk⟩=>?_
  obtain⟨c1,f1,f3⟩:=st.focusN A.o;refine⟨_,X9 st A.s,a,c1.dx,c1.fs,rfl,by rw[← hz.1];exact f1.ins,aD2 f1 (by simpa using hz.2),rfl,a,Hf,c1,o,[none],r,o',st.same,f1,⟨_,_,rfl,rfl,rfl⟩,w2,λa2 c2 H' Hf' c' ch fo n1 fo2 n2=>?_⟩;have st2:=(f3 ch fo n1).2 fo2 n2;have e1:=aB3 (as:=as) (ρ:=ρ) (n:=(q.set n o').length) (by rw[lq];exact no) (l.trans lq.symm) a2 i;rw[lq]at e1;exact kk [a2] _ H' Hf' (by simp[l,lq]) (by rw[e1,aA8 (l.trans lq.symm),O0 ea];exact st2.slots st2.sl.setO) ch.ext
 ·cases w
end
section
variable {P:Program}{w:World}{K:PySem.W.Frag}{mg:Str->Option Value}{base:Heap}{x qual:Str}{s0:Stmt}{f:Addr}{fd:FuncData}{N ps:List Str}{k:Nat}{g:UX}{C:CT}
def bn2(g:UX)(n:Nat):DO:=λo ms=>(g (O1 n ms) [o]).bind λfl=>match fl with
 | .ro (j+1) (o'::q)=>(q[j]?).map λr=>(r,o')
 | _=>none
theorem bg1(F:Fun K x qual s0 f fd)(S:FnScope N ps (A9 s0))
  (hb:∀(cdv:dU) (A:dr) (outer:List Env) (s:dW) (H:Hp) (E:XK),Room k (A.deeper (envOfC qual (A9 s0) s.heap.objs.size f cdv))->USs (ah2 CX0 P w K mg base N qual (A9 s0) f cdv A outer s H E).nox C (C4 s0) g) :
  FnOk P w K mg base CX0 (k+1) f fd ps (spO K C ps.length (bn2 g N.length)):=by
 refine F.ok S (λvs H Q E h=>h.1) λcdv A outer s H vs Q E hr hsp=>?_
 obtain⟨hlen,a,Hf,c,o,ms,r,o',ss,fo,rp,e,kk⟩:=hsp;obtain⟨fl,e1,e2⟩:=ae.mp e;obtain⟨_,h⟩:=hb cdv A outer s H E hr _ [o] fl e1 (ae1 _ _);refine⟨_,h ⟨cells a c,H,Hf⟩ [a] rfl,Hf,⟨Chg.of (Grow.refl ss),cells a c++[],.cons fo (by simp) .nil,λx hx=>.inl (by simpa using hx),ad3 rp⟩,?_⟩;split at e2
 ·rename_i j o1 q;obtain⟨r1,e3,e4⟩:=af.mp e2;cases e4;intro ex ρ σ a2 H' Hf' l s' hj;obtain⟨R,z1,z2,_⟩:=s'.ob;cases z1 with
  | @cons _ c1 _ _ R0 f0 d t =>
   obtain⟨c2,f1,f2,_⟩:=t.focus (a:=a2) (o:=r) (bi.mpr ⟨by simpa using hj,e3⟩);exact kk a2 c2 H' Hf' c1 s'.gr f0 (λx hx=>z2 x (aI _ hx)) f1 λy hy=>⟨z2 y (au _ (f2 y hy)),λz=>d y z (f2 y hy)⟩
 ·cases e2
end
end G
namespace G
open PySem PySem.Spec PyProof.Rows L2
section
variable {X:Cx}{C:CT}
theorem bK2{wi:TI}{g:TG}{tc:TT}{te:TE}(S:CompSc X N' n caps scope)(hx:∀e s,X.xe e s->False)(hi:PI X tgt iter wi)(hg:∀C s0 H0 ex,PG (B4 X N' scope C s0 H0 ex) tgt g)(ht:∀C s0 H0 ex,PTs (B4 X N' scope C s0 H0 ex) ifs tc)(he:∀C s0 H0 ex,PE (B4 X N' scope C s0 H0 ex) elt te)
  (hc:X.calm=true) (hs:∀x,dz iter X.env x=pure x):PE X (.ListComp elt [⟨tgt,iter,ifs,0⟩] scope pos) (aV4 n caps wi g tc te):=by
 intro pins s σ H Q I t;rw[eval_ListComp];refine wpAny_comprehension_free (use:=none) rfl hs (aF9 S I) S.kind S.loc (at3 (RR:=λacc C=>compPost (dE X.prog X.w) X.A X.xe none (EP X pins σ Q) acc C) S hx hc hi hg ht he I t ?_);intro Dd C r s' hr ⟨m,hn,kk⟩ _;subst hr;exact⟨m,hn,λh' sb=>let⟨H',I',q⟩:=kk h' sb;⟨.ref Dd,H',I',rfl,q⟩⟩
def cx5:D->Option (List D)
 | .list xs=>some xs
 | _=>none
def uCp(i:Nat)(f:UD)(g:UD):UD:=λρ q=>(f ρ q).bind λx=>(cx5 x.1).bind λks=>(S5 i ρ x.2).bind λp=>if ks.length<=1000 then(cpT g p.2 ks).map λl=>(.list l.1,x.2.set p.1 l.2) else none
theorem bF9{f gU:UD}(i:Nat)(S:CompSc X N' 1 [i] scope)(hx:∀e s,X.xe e s->False)(hit:UE X C iter f)(hg:∀C s0 H0 ex,JG (B4 X N' scope C s0 H0 ex) tgt (K5 0))(hel:∀C0 s0 H0 ex,UE (B4 X N' scope C0 s0 H0 ex) C elt gU)
  (hn:X.N[i]? = some x) (hv:Vis X.env.scope x) (h1:(x==("__debug__" : Str))=false) (h2:(x==("__classdict__" : Str))=false) (hc:X.calm=true) (hs:∀x,dz iter X.env x=pure x):UE X C (.ListComp elt [⟨tgt,iter,[],0⟩] scope pos) (uCp i f gU):=λρ q d q' w no=>by
 obtain⟨⟨d0,q1⟩,w1,w⟩:=ae.mp w;obtain⟨ks,w2,w⟩:=ae.mp w;obtain⟨⟨j,o⟩,w3,w⟩:=ae.mp w;split at w
 ·rename_i hz;obtain⟨⟨l,oe⟩,w4,w5⟩:=af.mp w;cases w5;have:d0=.list ks:=by cases d0<;>cases w2;rfl
  subst this;obtain⟨l1,a1⟩:=hit ρ q _ q1 w1 no;refine⟨by show(q1.set j oe).length=_;rw[bw];exact l1,λb as len=>?_⟩;obtain⟨a,ea,A⟩:=N6 w3 (T5 no) (len.trans l1.symm) hn hv h1 h2
  have zq:∀u:Fo,(as.zip (q1.set j u))[j]? = some (a,u):=λu=>by
   rw[O0 ea,az (ak.mp A.o).1]
  have zz:∀u u':Fo,(as.zip (q1.set j u)).set j (a,u')=as.zip (q1.set j u'):=λu u'=>by
   rw[O0 ea,O0 ea,List.set_set]
  refine A4 (bK2 S hx (aX4 (a1 b as len)) (g:=tgJ X.K (K5 0)) (tc:=af5 X.K K9) (te:=tEl X.K C a gU) hg (λC s0 H0 ex=>aD9) (λC0 s0 H0 ex=>bS7 (hel C0 s0 H0 ex)) hc hs) λσ H Q ⟨Hf,st,kk⟩=>?_
  refine⟨Hf,st,λv H1 Hf1 st1 e1 r1=>?_⟩;obtain⟨p,vs,rfl,sq,rs⟩:=r1;refine⟨p,rfl,⟨vs,D9 st1.same sq⟩,λDd hD=>?_⟩
  have c0:Slots X.K hpX [none,some (.opq a)] (am9 1 [i] σ) (upd H1 Dd (.lst [])) Hf1:=by
   have:=X9 st1 A.s;refine⟨rfl,λn bb e=>?_,λn m d1 d2 aa e=>?_⟩
   ·cases n with
    | zero=>cases e
    | succ n=>cases n with
     | zero=>cases e;exact⟨.ref a,by show some (σ[i]?).join=_;rw[this];rfl,rfl⟩
     | succ n=>cases e
   ·cases n with
    | zero=>cases e
    | succ n=>cases n with
     | zero=>cases e
     | succ n=>cases e
  have q0:as.zip (q1.set j o)=as.zip q1:=by rw[O0 ea];exact aI9 A.o
  refine⟨λi m ys σ' H'=>m=ks.length - i/\i<=ks.length/\∃Hf' z o1 o2 u,OSt X.K C b (sub as ρ++[some (.own o1)]) (as.zip (q1.set j u)) (σ++[some (.ref Dd)]) H' Hf'/\B0 Hf1 Hf'/\H' Dd=some (.lst ys)/\Slots X.K hpX [z,some (.opq a)] σ' H' Hf'/\o1.length=i/\cpT gU u (ks.drop i)=some (o2,oe)/\o1++o2=l,
   ⟨ks.length,by simp,aW _,Hf1,none,[],l,o,by rw[q0];exact st1.push hD,B0.refl _,A6,c0,rfl,by simpa using w4,rfl⟩,?_⟩
  rintro n m ys σ' H' ⟨rfl,hi,Hf',z,o1,o2,u,st',sm,hd,sl',ho,ec,eo⟩
  have own:(sub as ρ++[some (B.own o1)])[(sub as ρ).length]? = some (some (.own o1)):=by rw[am (ai _),aQ];rfl
  have hsl:(sub as ρ).length=σ.length:=st1.sl.len;rcases bx n ks.length with hlt|hge
  ·right
   rw[bO hlt]at ec;obtain⟨⟨y,qy⟩,c1,ec⟩:=ae.mp ec;dsimp only at ec;split at ec
   ·rename_i u';obtain⟨⟨o3,oe'⟩,c2,c3⟩:=af.mp ec;cases c3;obtain⟨v0,u1,u2⟩:=rs.get (show ks[n]? = some ks[n] by simp[hlt]);have sq':=D9 (sm.trans st'.same) sq;refine⟨⟨vs,v0,sq',u1⟩,λx H2 hy=>?_⟩;obtain⟨rfl,hy⟩:=hy;have:=hy vs sq';rw[u1]at this;cases this;refine⟨ks[n],_,_,hpX,Hf',rfl,st'.same,sl',u2.mono sm,λσ3 sl3=>⟨_,true,rfl,hpX,Hf',st'.same,sl3,λH4 Hf4 g4=>ae6 ?_⟩⟩;have st4:=st'.grow g4;have hd4:H4 Dd=some (.lst ys):=g4.big _ _ hd;obtain⟨c,f1,f3⟩:=st4.focus rfl (zq u);refine⟨ks[n],u,y,u',Hf4,c,c1,st4.same,sl3.grow g4,f1,λv H5 Hf5 c' ch fo n5 r5=>?_⟩;have st5:=f3 ch fo n5;rw[zz]at st5;obtain⟨p5,vs5,g1,g2',g3,g6⟩:=st5.app own
    have ep:p5=Dd:=by
     rw[hsl,am (ai _),aQ]at g1;cases g1;rfl
    subst ep
    have eys:vs5=ys:=by
     obtain⟨p4,vs4,k1,k2,k3,_⟩:=st4.app own;rw[hsl,am (ai _),aQ]at k1;cases k1
     have nc:p5∉cells a c:=λzz=>by
      obtain⟨R,r1,r2,r3⟩:=st4.ob;obtain⟨c9,f9,f8,_⟩:=r1.focus (zq u);cases FoAt.same f9 f1;obtain⟨v9,v1,p9,us9,rfl,_,_,v4,_⟩:=r3.is _ _ own;rw[hsl,am (ai _),aQ]at v1;cases v1;exact(W4 v4).1 (f8 _ zz)
     have:=ch.big _ _ nc hd4;rw[g2']at this;cases this;rfl
    subst eys;refine⟨g2',by rw[g3.length,ho,dk];omega,ks.length - (n+1),by omega,rfl,hlt,Hf5,some (.val ks[n]),o1++[y],o3,u',?_,?_,A6,?_,by simp[ho],c2,by rw[← eo];simp⟩
    ·have:=g6 v y r5;rw[bX _ _ (ai _),aQ]at this;exact this
    ·exact sm.trans (g4.ext.trans ch.ext)
    ·have s5:=(sl3.grow g4).chg (S:=cells a c) ch (λ_ _ h=>nomatch h) (H0':=hpX) λ_ h _=>nomatch h
     exact s5.chg (S:=[p5]) (Chg.wr st5.same (by simp) (by
      obtain⟨R,r1,r2,r3⟩:=st5.ob;obtain⟨v9,v1,p9,us9,rfl,_,v3,_⟩:=r3.is _ _ own;rw[hsl,am (ai _),aQ]at v1;cases v1
      exact v3)) (λ_ _ h=>nomatch h) λ_ h _=>nomatch h
   ·cases ec
  ·left
   have:n=ks.length:=by omega
   subst this;rw[ck]at ec;cases ec;rw[ar]at eo;subst eo;refine⟨⟨vs,D9 (sm.trans st'.same) sq,by rw[rs.length];exact ai _⟩,?_⟩;obtain⟨Hf6,e6,s6⟩:=st'.frz (sub as ρ).length
   have fz:frz (sub as ρ).length (sub as ρ++[some (.own o1)])=sub as ρ++[‹.list o1›]:=by
    unfold frz;rw[own];dsimp only;rw[bX _ _ (ai _),aQ];rfl
   rw[fz]at s6;obtain⟨v6,v61,v62⟩:=s6.sl.is (sub as ρ).length (.val (.list o1)) (by rw[am (ai _),aQ];rfl);rw[hsl,am (ai _),aQ]at v61;cases v61;exact kk _ H' Hf6 s6.pop (e1.trans (sm.trans e6)) v62
 ·cases w
end
end G
namespace G
open PySem PySem.Spec PyProof.Rows L2
section
variable {X:Cx}{C:CT}
def uJn(f:DE)(g:UD):UD:=λρ q=>(f (era ρ)).bind λs=>(g ρ q).bind λx=>match s,x.1 with
 | .str sep,.list ds=>(w9 ds).bind λys=>if P7 sep ys<=16777216/\(Builtin.Str.glued sep ys).length<=16777216 then some (.str (Builtin.Str.glued sep ys),x.2) else none
 | _,_=>none
theorem bF8(ho:JE X o f)(h:UE X C e g)
  (hbase:dB o "join" X.env (eval o X.env)=eval o X.env)
  (hfew:((backTo cpos (di [e] X.env)).all (λx=>!x.1)&&(backToKw cpos (keywordEach [] X.env)).all (λx=>x.1.isSome)
   && decide (([e]:List Expr).length+([]:List dw).length+(if([]:List dw).isEmpty then 0 else 1) < 30))=true)
  (hline:(apos.endLine==cpos.line)=true) (hs:di [e] X.env=[(false,eval e X.env)]) :
  UE X C (.Call (.Attribute o "join" apos) [e] [] cpos) (uJn f g):=λρ q d q' w no=>by
 obtain⟨s,e1,w⟩:=ae.mp w;obtain⟨⟨d0,q1⟩,e2,w⟩:=ae.mp w;cases s with
 | str sep =>
  cases d0 with
  | list ds =>
   obtain⟨ys,e3,w⟩:=ae.mp w;split at w
   ·rename_i hz;cases w;obtain⟨l1,a1⟩:=h ρ q _ q1 e2 no;refine⟨l1,λb as l=>A4 (ax6 F.plainAttrs_str F.slot_str_join F.type_str_join aY4 (ho (era ρ) _ e1) (C3 (a1 b as l) K2 hs) hbase hfew hline hs) λσ H Q ⟨Hf,st,k⟩=>?_⟩;refine⟨_,Hf,st.same,by rw[← P8 as ρ];exact st.sl.era,λv H1 Hf1 g1 r1=>?_⟩;cases r1;refine⟨rfl,Hf1,st.grow g1,λw H2 Hf2 s2 x2 ⟨p,vs,z1,z2,z3⟩=>?_⟩;subst z1;rw[ac1 e3 z3]at z2;exact⟨sep,p,ys,rfl,rfl,D9 s2.same z2,by rw[dk];exact hz.1,by rw[dk];exact hz.2,k _ H2 Hf2 s2 (g1.ext.trans x2) rfl⟩
   ·cases w
  | _=>cases w
 | _=>cases w
def cs2:D->Option (List D)
 | .tuple xs=>some xs
 | _=>none
def uSl(f:UD)(lo hi:Rho->Option (Option Int)):UD:=λρ q=>(f ρ q).bind λx=>(lo (era ρ)).bind λl=>(hi (era ρ)).bind λh=>(cs2 x.1).map λxs=>(.tuple (ab0 xs l h),x.2)
theorem cr7{lo hi:Option Expr}{l h:Rho->Option (Option Int)}(ha:UE X C e f)(hl:JO X lo l)(hh:JO X hi h):UE X C (.Subscript e (.Slice lo hi none p2) pos) (uSl f l h):=λρ q d q' w no=>by
 obtain⟨⟨x,q1⟩,w1,w⟩:=ae.mp w;obtain⟨y,w2,w⟩:=ae.mp w;obtain⟨z,w3,w⟩:=ae.mp w;obtain⟨xs,w4,w5⟩:=af.mp w;cases w5;have:x=.tuple xs:=by cases x<;>cases w4;rfl
 subst this;obtain⟨l1,a1⟩:=ha ρ q _ q1 w1 no;refine⟨l1,λb as l=>A4 (ar0 (bn0.or af8) (a1 b as l) (hl (era ρ) y w2) (hh (era ρ) z w3)) λσ H Q ⟨Hf,st,k⟩=>⟨Hf,st,λv H1 Hf1 s1 e1 ⟨p,vs,q1,q2,q3⟩=>?_⟩⟩;subst q1;refine⟨_,Hf1,s1.same,by rw[← P8 as ρ];exact s1.sl.era,λH2 Hf2 g2=>?_⟩;have s2:=s1.grow g2;refine⟨_,Hf2,s2.same,by rw[← P8 as ρ];exact s2.sl.era,λH3 Hf3 g3=>?_⟩;have s3:=s2.grow g3;have gg:=g2.trans g3;have q2':=B8 gg.ext q2;have q3':=q3.mono gg.ext;by_cases c:HT.sIx vs.length 0 y=0/\HT.sIx vs.length vs.length z=vs.length
 ·refine .inr ⟨p,vs,rfl,B8 s3.same q2',c,k _ H3 Hf3 s3 (e1.trans gg.ext) ⟨p,vs,rfl,q2',?_⟩⟩
  have:ab0 xs y z=xs:=by
   unfold ab0;rw[← q3.length,c.1,c.2];simp[q3.length]
  rw[this];exact q3'
 ·refine .inl ⟨p,vs,rfl,B8 s3.same q2',c,λp' hp=>?_⟩;have rr:=aq5 q3' y z;exact k _ _ _ (s3.grow (Grow.laid s3.same hp)) (e1.trans (gg.trans (Grow.laid s3.same hp)).ext) ⟨p',_,rfl,SqT.of A6,rr.mono (C7 (s3.same.free hp))⟩
def iZ(f g:UD):Rho->Fs->Option (List D×Fs):=λρ q=>(f ρ q).bind λx=>(aq4 x.1).bind λa=>(g ρ x.2).bind λy=>(aq4 y.1).map λb=>((a.2.zip b.2).map λ(x,y)=>PyData.tuple [x,y],y.2)
theorem bY6{elts:List Expr}{k0:Nat}{tpos:Pos}{a b:Expr}{f g:UD}{p pos:Pos}(hg:Gl X "zip")(hm:X.mg "zip" = none)(ha:UE X C a f)(hb:UE X C b g)(hs:di [a,b] X.env=[(false,eval a X.env),(false,eval b X.env)])(hs2:di [b] X.env=[(false,eval b X.env)]):
  UI X C (.Tuple elts k0 tpos) (.Call (.Name "zip" p) [a,b] [] pos) (iZ f g):=λρ q out q' w no=>by
 obtain⟨⟨d1,q1⟩,e1,w⟩:=ae.mp w;obtain⟨⟨t1,ds⟩,e1',w⟩:=ae.mp w;obtain⟨⟨d2,q2⟩,e2,w⟩:=ae.mp w;obtain⟨⟨t2,es⟩,e2',w⟩:=af.mp w;cases w;obtain⟨l1,o1⟩:=ha ρ q d1 q1 e1 no;obtain⟨l2,o2⟩:=hb ρ q1 d2 q2 e2 (by rw[l1];exact no);refine⟨l2.trans l1,λbb as l=>?_⟩;intro pins s σ H R I ⟨Hf,st,k⟩
 refine Call_ (ae4 I hg hm bB8 (PyProof.Rows.callWith_type1 (thn (C3 (o1 bb as l) (C3 (o2 bb as (l.trans l1.symm)) K2 hs2) (by rw[hs,hs2]) pos pins s σ H
  (λvs H'=>∃v u Hf',vs=[v,u]/\OSt X.K C bb (sub as ρ) (as.zip q2) σ H' Hf'/\B0 Hf Hf'/\Rep X.K Hf' d1 v/\Rep X.K Hf' d2 u) I ⟨Hf,st,λv H1 Hf1 s1 x1 r1=>⟨Hf1,s1,λu H2 Hf2 s2 x2 r2=>⟨v,u,Hf2,rfl,s2,x1.trans x2,r1.mono x2,r2⟩⟩⟩) λus s1 ⟨vs,H1,I1,r1,v,u,Hf1,ev,st1,xx,p1,p2⟩=>?_) (by rw[hs,hs2]) (by rw[hs2];rfl)))
 subst ev;obtain⟨uv,uu,rfl,rv,ru⟩:=bi9 r1;obtain⟨a1,vs1,rfl,w1,w2⟩:=p1.seq (B0.refl Hf1) e1';obtain⟨a2,vs2,rfl,w3,w4⟩:=p2.seq (B0.refl Hf1) e2';cases rv;cases ru
 have mono:∀{t:Bool}{a:dX}{xs:List V}{H H':Hp},B0 H H'->Sq X.K t H a xs->Sq X.K t H' a xs:=λ{t a xs H H'} e h=>by
  cases t with
  | true=>exact B8 e h
  | false=>exact D9 e h
 obtain⟨us1,rr1,hp1,lt1⟩:=d4 I1 (mono st1.same w1);obtain⟨us2,rr2,hp2,lt2⟩:=d4 I1 (mono st1.same w3);refine ax0 hp1 hp2 λh' b1 b2 b3 b4 b5 b6=>?_
 have I2:Inv X pins σ H1 { s1 with heap:=h' }:=I1.kept (t':=s1.toks) b6;refine wpAny_pyIter_zip b1 ⟨_,_,_,_,H1,rfl,I2,aI2 (zipApart_new lt1 lt2),⟨b1,b2,⟨_,_,b3⟩,b4,b5⟩,λb hb=>?_,k _ H1 Hf1 st1 xx (ap8 w1 w3 w2 w4)⟩
 have hb':s1.heap.objs.size<=b:=by
  simp only[ax,aP,or_false]at hb;rcases hb with rfl|rfl|rfl|rfl|rfl
  ·exact bC _ _
  ·exact bC _ _
  ·exact bC _ _
  ·exact ai _
  ·exact bC _ _
 exact I1.fpOk hb' (I1.hok.fresh hb')
end
end G
namespace G
open PySem PySem.Spec PyProof.Rows L2
abbrev bR1:=List (Str×Bool×DF×Nat)
def KM(K:ag)(C:dX)(m qual:Str)(st:Stmt):Prop:=∃(f:dX) (oc:dU) (od:Option dX) (sl:Array (Option dU)) (kV dc pm:dU) (an:Option dX) (cd ct:dU),
 PySem.W.findIn K (.ref C) m=some (some (.ref f))/\PySem.W.isFn K (.ref f)=true/\K.lookup f=some ⟨oc,od,.func (bj m qual (T8 st) (C4 st) (A9 st) .none kV dc pm an cd ct),sl⟩/\bR K cd qual=true/\aF K (.ref f)=true
structure FitO (S:Sg) (ms:bR1) (C:CT) (fn:Bool->List Str) (c:Kx) (X:Cx):Prop where
 fit:Fit S c X
 foc:∀kd,FoC X.K (C kd) (fn kd)
 mts:∀m kd F n,ms.lookup m=some (kd,F,n)->at6 X C kd m n F
def aq0(n:Nat)(a:dX)(ds:List D):Rho:=some (.opq a)::P6 n ds
theorem aB6{K:ag}{H0 H Hf:Hp}{x:Str}{N:List Str}{ds:List D}{vs:List V}(r:Reps K Hf ds vs):Slots K H0 (aq0 N.length a ds) (L2.start (x::N) (.ref a::vs)) H Hf:=by
 have s:=aa4 (H0:=H0) (H:=H) (N:=N) r;have e:L2.start (x::N) (.ref a::vs)=some (.ref a)::L2.start N vs:=by unfold L2.start;simp
 rw[e];refine⟨by unfold aq0;simp[s.len],λi b h=>?_,λi j d1 d2 a h1 h2 h3 h4=>?_⟩
 ·cases i with
  | zero=>cases h;exact⟨_,rfl,rfl⟩
  | succ i=>exact s.is i b h
 ·cases i with
  | zero=>cases h1
  | succ i=>cases j with
   | zero=>cases h2
   | succ j=>exact congrArg _ (s.apart i j d1 d2 a h1 h2 h3 h4)
section
variable {P:Program}{w:World}{K:PySem.W.Frag}{mg:Str->Option Value}{base:Heap}{cs:List (Str×D)}{bl:List Str}{C:CT}{ms:bR1}
def MOk(P:dq)(w:World)(K:ag)(mg:Str->Option dU)(base:Heap)(C:CT)(k:Nat)(ms:bR1):Prop:=∀m kd F n,ms.lookup m=some (kd,F,n)->∃(f:dX) (fd:dt) (ps:List Str),
 FnOk P w K mg base CX0 k f fd ps (spD K C (n+1) F)/\Meth K (C kd) m f/\M4 K fd ps []
theorem MOk.nil:MOk P w K mg base C 0 []:=λx kd F n h=>by cases h
theorem MOk.mono(T:MOk P w K mg base C j ms)(h:j<=k):MOk P w K mg base C k ms:=λx kd F n e=>by
 obtain⟨f,fd,ps,h1,h2⟩:=T x kd F n e;exact⟨f,fd,ps,h1.mono h,h2⟩
theorem MOk.cons(T:MOk P w K mg base C k ms)(h:∃(f:dX) (fd:dt) (ps:List Str),FnOk P w K mg base CX0 k f fd ps (spD K C (n+1) F)/\Meth K (C kd) m f/\M4 K fd ps []):MOk P w K mg base C k ((m,kd,F,n)::ms):=λy kd' G j e=>by
 rw[aB]at e;split at e
 ·rename_i q;cases e;simp only[beq_iff_eq]at q;subst q;exact h
 ·exact T y kd' G j e
def BdM(d:Fd)(qual:Str):Prop:=∀(kV doc pm:dU) (an:Option dX) (cdv ct:dU),UA d.ps.length λus=>bindArgs (bj d.x qual (T8 d.st) (C4 d.st) (A9 d.st) .none kV doc pm an cdv ct) ⟨us,[]⟩=pure (d.ps.zip us)
end
end G
namespace G
open PySem PySem.Spec PyProof.Rows L2
def ak1:Expr->Option (Expr×List Expr×List dw×Pos)
 | .Call f a k p=>some (f,a,k,p)
 | _=>none
def aG5:Expr->Option (Expr×Str×Pos)
 | .Attribute o m p=>some (o,m,p)
 | _=>none
def bB0:Expr->Option (Expr×CmpOp×Expr×Pos)
 | .Compare l [op] [r] p=>some (l,op,r,p)
 | _=>none
def co0:Expr->Option (BoolOp×List Expr×Pos)
 | .BoolOp op l p=>some (op,l,p)
 | _=>none
def bZ6:Expr->Option (List Expr×Nat×Pos)
 | .Tuple es k p=>some (es,k,p)
 | _=>none
theorem aV3(h:bZ6 e=some t):e=.Tuple t.1 t.2.1 t.2.2:=by cases e<;>first|(cases h;rfl)|cases h
theorem ba5(h:co0 e=some t):e=.BoolOp t.1 t.2.1 t.2.2:=by cases e<;>first|(cases h;rfl)|cases h
theorem S3(h:ak1 e=some t):e=.Call t.1 t.2.1 t.2.2.1 t.2.2.2:=by cases e<;>first|(cases h;rfl)|cases h
theorem d7(h:aG5 e=some t):e=.Attribute t.1 t.2.1 t.2.2:=by cases e<;>first|(cases h;rfl)|cases h
theorem ao7(h:bB0 e=some t):e=.Compare t.1 [t.2.1] [t.2.2.1] t.2.2.2:=by
 unfold bB0 at h;split at h
 ·cases h;rfl
 ·cases h
structure Mc where
 x:Str
 p:Pos
 m:Str
 ap:Pos
 a:List Expr
 cp:Pos
def mcV(e:Expr):Option Mc:=(ak1 e).bind λt=>match t.2.2.1 with
 | []=>(aG5 t.1).bind λu=>(nmP u.1).map λv=>⟨v.1,v.2,u.2.1,u.2.2,t.2.1,t.2.2.2⟩
 | _=>none
theorem bt0(h:mcV e=some t):e=.Call (.Attribute (.Name t.x t.p) t.m t.ap) t.a [] t.cp:=by
 obtain⟨⟨f,a,k,p⟩,h1,h⟩:=ae.mp h;cases k with
 | cons=>cases h
 | nil =>
  obtain⟨⟨o,m,ap⟩,h2,h⟩:=ae.mp h;obtain⟨⟨x,q⟩,h3,h⟩:=af.mp h;subst h;rw[S3 h1,d7 h2,Q9 h3]
def uNo:UD:=λ_ _=>none
def uXo:UX:=λ_ _=>none
def opU:CmpOp->Option (D->D->Option D)
 | .Eq=>some eqD
 | .NotEq=>some neD
 | .Is=>some isB
 | _=>none
def bH0:Expr->Option (Expr×Expr×Pos)
 | .Subscript a i p=>some (a,i,p)
 | _=>none
theorem an1(h:bH0 e=some t):e=.Subscript t.1 t.2.1 t.2.2:=by cases e<;>first|(cases h;rfl)|cases h
section
variable (S:Sg) (c:Kx)
def pE(e:Expr):DE:=(ev S 99).e c e
def be6(f:Expr->DE):Nat->List Expr->Rho->Option MD
 | _,[]=>mN
 | 0,_::es=>mO (be6 f es.length es)
 | j+1,e::es=>mC (f e) (be6 f j es)
def ulE(f:Expr->UD):List Expr->UL
 | []=>ulN
 | e::es=>ulC (f e) (ulE f es)
def oCc(r:Expr->UD)(t:Expr×CmpOp×Expr×Pos):UD:=match opU t.2.1 with
 | some h=>if behindInMarks t.2.1 t.2.2.1 then uNo else uB2 h (r t.1) (r t.2.2.1)
 | none=>uNo
end
section
variable {X:Cx}{C:CT}
theorem by9{args:List Expr}{pos:Pos}(h:args.all pl=true)(n:args.length < 20):methodCallForm (args.length+([]:List dw).length) (backTo pos (di args X.env)) (backToKw pos (keywordEach [] X.env))=true:=by
 unfold methodCallForm
 have h1:(backTo pos (di args X.env)).all (!·.1)=true:=by
  have:=(S0 pos (di args X.env)).trans (N9 pos X.env h);rw[List.all_eq_not_any_not];simpa using this
 rw[h1];show(true&&true&&decide _)=true;simp;show args.length+0+0 < 30;omega
theorem bk2:UE X C e uNo:=λ_ _ _ _ h _=>nomatch h
theorem aY7{f:Expr->DE}(h:∀e,JE X e (f e)):∀(es:List Expr) (j:Nat),es.length<=j->es.all pl=true->JM X i es (be6 f j es)
 | [],_,_,_=>by unfold be6;exact ck6
 | e::es,0,l,_=>by simp at l
 | e::es,j+1,l,p=>by
  simp only[aS,ah]at p;exact aY8 (h e) (aY7 h es j (by simpa using l) p.2) (B9 p.1 _ _)
theorem bv8{f:Expr->DE}(h:∀e,JE X e (f e))(hn:X.N[i]? = some x)(hv:Vis X.env.scope x)(h1:(x==("__debug__" : Str))=false)(h2:(x==("__classdict__" : Str))=false):∀(j:Nat) (es:List Expr),es[j]? = some (.Name x p)->es.all pl=true->JM X i es (be6 f j es)
 | _,[],e,_=>by simp at e
 | 0,e::es,q,p=>by
  simp at q;subst q;simp only[aS,ah]at p;exact ck5 (aY7 h es _ (ai _) p.2) hn hv h1 h2 (B9 p.1 _ _)
 | j+1,e::es,q,p=>by
  simp only[aS,ah]at p;exact aY8 (h e) (bv8 h hn hv h1 h2 j es (by simpa using q) p.2) (B9 p.1 _ _)
theorem aB0{f:Expr->UD}(h:∀e,UE X C e (f e)):∀es:List Expr,es.all pl=true->UAs X C es (ulE f es)
 | [],_=>bY5
 | e::es,p=>by
  simp only[aS,ah]at p;exact bF1 (h e) (aB0 h es p.2) (B9 p.1 _ _)
end
def oB(f:Stmt->UX):List Stmt->UX
 | []=>m4
 | [s]=>f s
 | s::t::r=>E2 (f s) (oB f (t::r))
section
variable {X:Cx}{C:CT}{S:Sg}{c:Kx}
theorem i6{st:Stmt}:US X C st uXo:=λ_ _ _ h=>nomatch h
theorem aN0:Cm gNo:=λ_ _ _ _ h=>nomatch h
theorem bA8{f:Expr->DG}(h:∀e,Cm (f e)):∀es:List Expr,Cms (bP3 f es)
 | []=>bQ0
 | e::es=>bA9 (h e) (bA8 h es)
theorem bV2(S:Sg):∀n c ex,Cm ((ev S n).g c ex)
 | 0,c,ex=>aN0
 | n+1,c,ex=>by
  show Cm (xG (ev S n) c ex);unfold xG;split
  ·split
   ·split
    ·exact cn8 _
    ·exact aN0
   ·exact aN0
  ·split
   ·exact cn7 (bA8 (λe=>bV2 S n c e) _)
   ·exact aN0
  ·exact aN0
theorem ax8{f:Stmt->UX}(h:∀st,US X C st (f st)):∀sts,USs X C sts (oB f sts)
 | []=>bD8
 | [s]=>aU9 (h s)
 | s::t::r=>bj1 (h s) (ax8 h (t::r))
end
end G
namespace G
open PySem PySem.Spec PyProof.Rows L2
structure Og5 where
 ms:bR1
 ini:List (Str×Bool×DF×Nat)
 df:List (Str×DF×Nat×Nat)
 fd:List (Str×Bool×Nat)
 ob:List Str
 mf:List (Str×(List D->Option Fo)×Nat)
 mo:List (Str×Bool×DO)
def Og5.fn(O:Og5)(kd:Bool):List Str:=(O.fd.filter λt=>t.2.1==kd).map (·.1)
theorem as6{O:Og5}(h:O.fd.lookup f=some (kd,n)):f∈O.fn kd:=by
 have key:∀l:List (Str×Bool×Nat),l.lookup f=some (kd,n)->(f,kd,n)∈l:=λl=>by
  induction l with
  | nil=>intro h;cases h
  | cons t l ih =>
   intro h;obtain⟨y,w⟩:=t;rw[aB]at h;split at h
   ·rename_i e;cases h;rw[beq_iff_eq.mp e];exact .head _
   ·exact .tail _ (ih h)
 exact bc.mpr ⟨_,bU.mpr ⟨key _ h,by simp⟩,rfl⟩
structure FitZ (S:Sg) (O:Og5) (C:CT) (c:Kx) (X:Cx):Prop where
 o:FitO S O.ms C O.fn c X
 make:∀x kd F n,O.ini.lookup x=some (kd,F,n)->cp0 X C kd x n F
 df:∀x F n j,O.df.lookup x=some (F,n,j)->cC3 X C x F n
 mf:∀x F n,O.mf.lookup x=some (F,n)->cB9 X C x F n
 mo:∀m kd F,O.mo.lookup m=some (kd,F)->cC1 X C kd m F
theorem FitZ.inner{tn:List Str}{caps:List Nat}{scope:Scope}{C0:dX}{s0:dW}{H0:Hp}{ex:List dX}{O:Og5}(F:FitZ S O C c X)(hn:(G.inner c tn caps scope).N.Nodup):FitZ S O C (G.inner c tn caps scope) (B4 X (G.inner c tn caps scope).N scope C0 s0 H0 ex) :=
 ⟨⟨F.o.fit.inner hn,F.o.foc,F.o.mts⟩,F.make,F.df,F.mf,F.mo⟩
def cB3:Expr->Option (Expr×Operator×Expr×Pos)
 | .BinOp a o b p=>some (a,o,b,p)
 | _=>none
theorem bQ3(h:cB3 e=some t):e=.BinOp t.1 t.2.1 t.2.2.1 t.2.2.2:=by cases e<;>first|(cases h;rfl)|cases h
def cz6:Operator->Bool
 | .Add=>true
 | _=>false
section
variable (S:Sg) (O:Og5) (c:Kx)
def kMb(t:Mc)(n:Nat):Bool:=af2 c.sc t.x&&(t.ap.endLine==t.cp.line)&&t.a.all pl&&t.a.length==n&&decide (n < 20)
def kM(e:Expr):Option UD:=(mcV e).bind λt=>(Y1 t.x c.N).bind λi=>(O.ms.lookup t.m).bind λF=>if kMb c t F.2.2 then some (match t.a with|[]=>uM0 i F.1 t.m F.2.1|_=>uM i F.1 t.m F.2.1 (evA (pE S c) t.a)) else none
def kDa(y:Str)(a:List Expr):Option UD:=(O.df.lookup y).bind λF=>(a[F.2.2]?).bind λej=>(nmP ej).bind λv=>(Y1 v.1 c.N).bind λi =>
 if am6 c.sc y&&af2 c.sc v.1&&a.all pl&&(a.length==F.2.1&&decide (F.2.2 < a.length)) then some (uD i F.1 (be6 (pE S c) F.2.2 a)) else none
def kDf(e:Expr):Option UD:=(ak1 e).bind λt=>match t.2.2.1 with
 | []=>(nmP t.1).bind λy=>kDa S O c y.1 t.2.1
 | _=>none
def cG6(e:Expr):Option (Str×Pos×Str×Pos):=(aG5 e).bind λu=>(nmP u.1).map λv=>(v.1,v.2,u.2.1,u.2.2)
def kFd(k:Nat)(e:Expr):Option (Nat×Bool×Str):=(cG6 e).bind λt=>(Y1 t.1 c.N).bind λi=>(O.fd.lookup t.2.2.1).bind λw=>if af2 c.sc t.1&&w.2==k then some (i,w.1,t.2.2.1) else none
def kFl(e:Expr):Option UD:=(kFd O c 0 e).map λw=>ap9 w.1 w.2.1 w.2.2
def kLc(t:Expr×CmpOp×Expr×Pos)(w:Nat×Bool×Str):Option UV:=match t.2.1 with
 | .In=>some (vIn false w.1 w.2.1 w.2.2 (vP (pE S c t.1)))
 | .NotIn=>some (vIn true w.1 w.2.1 w.2.2 (vP (pE S c t.1)))
 | _=>none
def kLa(f a:Expr)(p:Pos):Option UV:=match nmP f with
 | some y=>if biB S c "len" y.1 then(kFd O c 1 a).map λw=>ad9 w.1 w.2.1 w.2.2 else if biB S c "sorted" y.1 then(kFd O c 2 a).map λw=>bD6 w.1 w.2.1 w.2.2 else none
 | none=>(aG5 f).bind λu=>if u.2.1 == "get" && (u.2.2.endLine==p.line)&&pl a then(kFd O c 2 u.1).map λw=>bb9 w.1 w.2.1 w.2.2 (vP (pE S c a)) else none
def kLk(e:Expr):Option UV:=match bB0 e with
 | some t=>(kFd O c 2 t.2.2.1).bind (kLc S c t)
 | none=>(match bH0 e with
  | some t=>(kFd O c 2 t.1).bind λw=>if pl t.2.1 then some (aU7 w.1 w.2.1 w.2.2 (vP (pE S c t.2.1))) else none
  | none=>(ak1 e).bind λt=>match t.2.1,t.2.2.1 with
   | [a],[]=>kLa S O c t.1 a t.2.2.2
   | _,_=>none)
def kQ(e:Expr):UV:=(kLk S O c e).getD (vP (pE S c e))
def vlE(f:Expr->UV):List Expr->VL
 | []=>vlN
 | e::es=>vlC (f e) (vlE f es)
def kPt(e:Expr):UV:=match bZ6 e with
 | some t=>if t.1.all pl&&decide (t.1.length<=1000) then bj0 (vlE (kQ S O c) t.1) else λ_ _=>none
 | none=>kQ S O c e
def kPp(e:Expr):Option UD:=(ak1 e).bind λt=>match t.2.1,t.2.2.1 with
 | [],[]=>(aG5 t.1).bind λu=>if u.2.1 == "pop" && (u.2.2.endLine==t.2.2.2.line) then(kFd O c 1 u.1).map λw=>aV2 w.1 w.2.1 w.2.2 else none
 | _,_=>none
def kO(r:Expr->Option UD)(e:Expr):UD:=(r e).getD (uP (pE S c e))
def kCl(r:Expr->Option UD)(e:Expr):Option UD:=(ak1 e).bind λt=>match t.2.1,t.2.2.1 with
 | a::as,[]=>(nmP t.1).bind λy=>(S.fn.lookup y.1).bind λF=>if(a::as).any (λx=>(r x).isSome)&&am6 c.sc y.1&&(a::as).length==F.2&&(a::as).all pl then some (U6 F.1 (ulE (kO S c r) (a::as))) else none
 | _,_=>none
def kLn(r:Expr->Option UD)(e:Expr):Option UD:=(ak1 e).bind λt=>match t.2.1,t.2.2.1 with
 | [a],[]=>(nmP t.1).bind λy=>(r a).bind λg=>if biB S c "len" y.1&&pl a then some (aw8 g) else none
 | _,_=>none
def lcE:Expr->Option (Expr×Expr×Expr×Scope×Pos)
 | .ListComp elt [⟨tgt,iter,[],0⟩] sc p=>some (elt,tgt,iter,sc,p)
 | _=>none
def kMk(r:Expr->Option UD)(y:Str)(a:List Expr):Option (Rho->Fs->Option (Fo×Fs)):=(O.mf.lookup y).bind λF=>if am6 c.sc y&&a.length==F.2&&a.all pl && !a.isEmpty then some (Z7 F.1 (ulE (kO S c r) a)) else none
def bQ2(e:Expr):Option (Str×Pos×List Expr×Pos):=(ak1 e).bind λt=>match t.2.2.1 with
 | []=>(nmP t.1).map λy=>(y.1,y.2,t.2.1,t.2.2.2)
 | _=>none
def kTm(r:Expr->Option UD)(e:Expr):Option UD:=(ak1 e).bind λt=>match t.2.2.1 with
 | []=>(aG5 t.1).bind λu=>(bQ2 u.1).bind λv=>(kMk S O c r v.1 v.2.2.1).bind λg=>(O.ms.lookup u.2.1).bind λF=>if(u.2.2.endLine==t.2.2.2.line)&&t.2.1.all pl&&t.2.1.length==F.2.2&&decide (F.2.2 < 20) then some (au6 g F.1 u.2.1 F.2.1 (evA (pE S c) t.2.1)) else none
 | _=>none
def kX1(r:Expr->Option UD)(e:Expr):Option UD:=match bB0 e with
 | some t=>if(r t.1).isSome || (r t.2.2.1).isSome then some (oCc (kO S c r) t) else none
 | none=>(match bZ6 e with
  | some t=>if t.1.any (λx=>(r x).isSome)&&t.1.all pl&&decide (t.1.length<=1000) then some (bG1 (ulE (kO S c r) t.1)) else none
  | none=>(match bH0 e with
   | some t=>(match cb2 t.2.1 with
    | some u=>(match u.2.2 with
     | none=>(r t.1).map λg=>uSl g (evO (pE S c) u.1) (evO (pE S c) u.2.1)
     | some _=>none)
    | none=>if pl t.2.1 then(r t.1).map λg=>bk5 g (kO S c r t.2.1) else none)
   | none=>(match cB3 e with
    | some t=>if((r t.1).isSome || (r t.2.2.1).isSome)&&cz6 t.2.1 then some (uB2 L7 (kO S c r t.1) (kO S c r t.2.2.1)) else none
    | none=>(match kCl S c r e with
     | some g=>some g
     | none=>(match kTm S O c r e with
      | some g=>some g
      | none=>kLn S c r e)))))
def kX:Nat->Expr->Option UD
 | 0,_=>none
 | n+1,e=>match kM S O c e with
  | some g=>some g
  | none=>(match kDf S O c e with
   | some g=>some g
   | none=>(match kFl O c e with
    | some g=>some g
    | none=>(match kLk S O c e with
     | some g=>some (uL g)
     | none=>(match kPp O c e with
      | some g=>some g
      | none=>kX1 S O c (kX n) e))))
def jcB(tg it:Expr)(sc:Scope)(i:Nat)(c c':Kx):Bool:=r9 c.N c'.N 1 [i] c.sc sc&&o5 c'.N&&pl it&&af2 c.sc ((c.N[i]?).getD "")&&(c.N[i]? == some ((c.N[i]?).getD ""))
 && (match nmP tg with|some y=>aK7 c' y.1&&Y1 y.1 c'.N==some 0|none=>false)
def kJc(a:Expr):Option UD:=(lcE a).bind λt=>match (c.hc.lookup (t.2.2.2.2.line,t.2.2.2.2.col)).getD [] with
 | [i]=>(kX S O (inner c (K1 t.2.1) [i] t.2.2.2.1) 5 t.1).bind λg=>(kX S O c 5 t.2.2.1).bind λf=>if(K1 t.2.1).length==1&&jcB t.2.1 t.2.2.1 t.2.2.2.1 i c (inner c (K1 t.2.1) [i] t.2.2.2.1) then some (uCp i f g) else none
 | _=>none
def kJ(e:Expr):Option UD:=(ak1 e).bind λt=>match t.2.1,t.2.2.1 with
 | [a],[]=>(aG5 t.1).bind λu=>if u.2.1 == "join" && (u.2.2.endLine==t.2.2.2.line)&&aQ7 u.1 then(kJc S O c a).map λg=>uJn (pE S c u.1) g else none
 | _,_=>none
def kE(e:Expr):UD:=(kJ S O c e).getD (kO S c (kX S O c 5) e)
def kAn:List Expr->UD
 | []=>uNo
 | [e]=>kE S O c e
 | e::es=>aI0 (kE S O c e) (kAn es)
def kV(e:Expr):UD:=match co0 e with
 | some t=>(match t.1 with
  | .And=>if t.2.1.any (λx=>(kX S O c 5 x).isSome) then kAn S O c t.2.1 else uP (pE S c e)
  | .Or=>uP (pE S c e))
 | none=>kE S O c e
def kT0(e:Expr):Option UB:=match bB0 e with
 | some t=>match (kFd O c 2 t.2.2.1).bind (kLc S c t) with
  | some g=>some (uTB (uL g))
  | none=>if(kX S O c 4 t.1).isSome || (kX S O c 4 t.2.2.1).isSome then some (uTB (oCc (kO S c (kX S O c 4)) t)) else none
 | none=>if(ak1 e).isSome then(kX S O c 5 e).map uTB else none
def kT1(e:Expr):UB:=(kT0 S O c e).getD (uTP ((ev S 99).t c e))
def kTc(op:BoolOp):List Expr->UB
 | []=>λ_ _=>none
 | [e]=>kT1 S O c e
 | e::es=>match op with
  | .And=>am2 (kT1 S O c e) (kTc op es)
  | .Or=>uOr (kT1 S O c e) (kTc op es)
def kT(e:Expr):UB:=match co0 e with
 | some t=>if t.2.1.any (λx=>(kT0 S O c x).isSome) then kTc S O c t.1 t.2.1 else uTP ((ev S 99).t c e)
 | none=>kT1 S O c e
def kN(v:Expr):Option (Rho->Option Fo):=(ak1 v).bind λt=>match t.2.2.1 with
 | []=>(nmP t.1).bind λx=>(O.ini.lookup x.1).bind λF=>if am6 c.sc x.1&&t.2.1.length==F.2.2&&t.2.1.all pl then some (am3 F.1 F.2.1 (evA (pE S c) t.2.1)) else none
 | _=>none
def cpB(x:Str)(p' pv:Pos)(tg it:Expr)(sc:Scope)(w:Str)(i:Nat)(c c':Kx):Bool:=r9 c.N c'.N 1 [i] c.sc sc&&o5 c'.N&&pl it&&(c.sc.names.lookup x==some .local)&&(c.df&&p'.line==pv.line && !(sc.names.any λ(n,k)=>n==x&&(k == .local || k == .cell)))&&af2 c.sc w&&(c.N[i]? == some w)
 && (match nmP tg with|some y=>aK7 c' y.1&&Y1 y.1 c'.N==some 0|none=>false)
def kCm(x:Str)(p':Pos)(n:Nat)(v:Expr):Option UX:=(lcE v).bind λt=>match (c.hc.lookup (t.2.2.2.2.line,t.2.2.2.2.col)).getD [] with
 | [i]=>(kX S O (inner c (K1 t.2.1) [i] t.2.2.2.1) 5 t.1).bind λg=>if(K1 t.2.1).length==1&&cpB x p' t.2.2.2.2 t.2.1 t.2.2.1 t.2.2.2.1 ((c.N[i]?).getD "") i c (inner c (K1 t.2.1) [i] t.2.2.2.1) then some (bG2 n i (evI S (ev S 98) c t.2.1 t.2.2.1) g) else none
 | []=>if c.sc.names.lookup x==some .local&&(c.df&&p'.line==t.2.2.2.2.line && !(t.2.2.2.1.names.any λ(n,k)=>n==x&&(k == .local || k == .cell)))&&(r9 c.N (inner c (K1 t.2.1) [] t.2.2.2.1).N (K1 t.2.1).length [] c.sc t.2.2.2.1&&o5 (inner c (K1 t.2.1) [] t.2.2.2.1).N&&pl t.2.2.1) then some (aV1 n (G4 (K1 t.2.1).length [] (evI S (ev S 98) c t.2.1 t.2.2.1) ((ev S 98).g (inner c (K1 t.2.1) [] t.2.2.2.1) t.2.1) (aZ4 ((ev S 98).t (inner c (K1 t.2.1) [] t.2.2.2.1)) []) ((ev S 98).e (inner c (K1 t.2.1) [] t.2.2.2.1) t.1))) else none
 | _=>none
def kTw(i:Nat)(v:Expr):Option UX:=(mcV v).bind λt=>match t.a with
 | []=>(Y1 t.x c.N).bind λj=>(O.mo.lookup t.m).bind λF=>if af2 c.sc t.x&&(t.ap.endLine==t.cp.line) then some (xTw i j F.1 t.m F.2) else none
 | _=>none
def kN2(i:Nat)(v:Expr):Option UX:=match (bQ2 v).bind λt=>kMk S O c (kX S O c 5) t.1 t.2.2.1 with
 | some g=>some (xNw i g)
 | none=>kTw O c i v
def cj0(x:Str)(p':Pos)(v:Expr):UX:=match Y1 x c.N with
 | some i=>if aK7 c x && !(isC v) then(match kN S O c v with
  | some g=>aB2 i g
  | none=>(match kN2 S O c i v with
   | some g=>g
   | none=>Z2 i (kV S O c v))) else(kCm S O c x p' i v).getD uXo
 | none=>uXo
def kFr(v:Expr):Option UFr:=match v with
 | .List [] _=>some bi6
 | .Dict [] [] _=>some bi7
 | .Call (.Name y _) [a] [] _=>if biB S c "dict" y then(kFd O c 2 a).map λw=>wDC w.1 w.2.1 w.2.2 else if biB S c "list" y then(kFd O c 1 a).map λw=>wLC w.1 w.2.1 w.2.2 else none
 | _=>none
def cy4(u:Expr×Str×Pos)(v:Expr):Option UX:=(nmP u.1).bind λw=>(Y1 w.1 c.N).bind λi=>(O.fd.lookup u.2.1).bind λk=>if af2 c.sc w.1 && !(isC v) then(if k.2==0 then some (ak8 i k.1 u.2.1 (kE S O c v)) else(kFr S O c v).map (au5 i k.1 u.2.1)) else none
def cy3(t:Expr×Expr×Pos)(v:Expr):Option UX:=(kFd O c 2 t.1).bind λw=>if isC v then none else some (bC6 w.1 w.2.1 w.2.2 (vP (pE S c t.2.1)) (vP (pE S c v)))
def kFs(e:Expr):Option UX:=(ak1 e).bind λt=>match t.2.1,t.2.2.1 with
 | [a],[]=>(aG5 t.1).bind λu=>if(u.2.2.endLine==t.2.2.2.line)&&pl a then(if u.2.1 == "append" then(kFd O c 1 u.1).map λw=>bb8 w.1 w.2.1 w.2.2 (kPt S O c a) else if u.2.1 == "pop" then(kFd O c 2 u.1).map λw=>bC7 w.1 w.2.1 w.2.2 (vP (pE S c a)) else none) else none
 | _,_=>none
def kRe(e:Expr):UX:=match nmP e with
 | some x=>if O.ob.contains x.1 then(match Y1 x.1 c.N with
  | some i=>if af2 c.sc x.1 then uRo i else uXo
  | none=>uXo) else T2 (kV S O c e)
 | none=>T2 (kV S O c e)
def kAs(v:Expr):List Expr->UX
 | [tg]=>(match nmP tg with
  | some t=>cj0 S O c t.1 t.2 v
  | none=>(match aG5 tg with
   | some u=>(cy4 S O c u v).getD uXo
   | none=>(match bH0 tg with
    | some t=>(cy3 S O c t v).getD uXo
    | none=>uXo)))
 | _=>uXo
def kZ(tg it:Expr):Option (Rho->Fs->Option (List D×Fs)):=(bQ2 it).bind λt=>match t.2.2.1 with
 | [a,b]=>if biB S c "zip" t.1&&bx5 tg&&pl a&&pl b&&((kX S O c 5 a).isSome || (kX S O c 5 b).isSome) then some (iZ (kE S O c a) (kE S O c b)) else none
 | _=>none
def kFo(tg it:Expr)(f:UX):List Stmt->UX
 | []=>if pl it then au7 ((kZ S O c tg it).getD (iP (evI S (ev S 98) c tg it))) ((ev S 98).g c tg) f else uXo
 | _=>uXo
def kSt:Nat->Stmt->UX
 | 0,_=>uXo
 | n+1,st=>match st with
  | .Return (some e) _=>kRe S O c e
  | .If t a b _=>uIf (kT S O c t) (oB (kSt n) a) (oB (kSt n) b)
  | .For tg it a o _=>kFo S O c tg it (oB (kSt n) a) o
  | .Assign ts v _=>kAs S O c v ts
  | .Expr e _=>if isC e then uXo else(match kFs S O c e with
   | some g=>g
   | none=>uEx (kE S O c e))
  | _=>uXo
end
section
variable {X:Cx}{S:Sg}{O:Og5}{C:CT}{c:Kx}
theorem W2(F:FitZ S O C c X)(e:Expr):JE X e (pE S c e):=(ag8 S 99).e F.o.fit e
theorem cy2(F:FitZ S O C c X)(h:kM S O c e=some g):UE X C e g:=by
 obtain⟨t,h1,h0⟩:=ae.mp h
 clear h
 rw[bt0 h1];obtain⟨i,h2,h⟩:=ae.mp h0;obtain⟨⟨kd,Fm,n⟩,h3,h⟩:=ae.mp h;split at h
 ·rename_i hb;unfold kMb at hb;simp only[ah,beq_iff_eq,decide_eq_true_eq]at hb;obtain⟨⟨⟨⟨b1,b3⟩,b4⟩,b5⟩,b6⟩:=hb;obtain⟨v1,v2,v3⟩:=S1 F.o.fit b1;have M:=F.o.mts _ _ _ _ h3;cases h;obtain⟨x,p,m,ap,a,cp⟩:=t;cases a with
  | nil =>
   cases b5;exact bk3 i M (F.o.foc kd) (F.o.fit.slot h2) v1 v2 v3 (by simpa using b3)
  | cons e es =>
   have b4':=b4;simp only[aS,ah]at b4';exact bF5 i M (F.o.foc kd) (F.o.fit.slot h2) v1 v2 v3 (ag7 (W2 F) (e::es)) (by simpa using b3) b5 (B9 b4'.1 _ _) ((S0 cp _).trans (N9 cp _ b4'.2)) (by9 b4 (by rw[b5];exact b6))
 ·cases h
theorem ci5(F:FitZ S O C c X)(h:kDf S O c e=some g):UE X C e g:=by
 obtain⟨⟨f,a,k,p⟩,h1,h0⟩:=ae.mp h
 clear h
 rw[S3 h1];cases k with
 | cons=>cases h0
 | nil =>
  obtain⟨⟨y,py⟩,h2,h⟩:=ae.mp h0;rw[Q9 h2];obtain⟨⟨Fn,n,j⟩,h3,h⟩:=ae.mp h;obtain⟨ej,h4,h⟩:=ae.mp h;obtain⟨⟨v,pv⟩,h5,h⟩:=ae.mp h;obtain⟨i,h6,h⟩:=ae.mp h;split at h
  ·rename_i hb;cases h;simp only[ah,beq_iff_eq,decide_eq_true_eq]at hb;obtain⟨⟨⟨b1,b2⟩,b3⟩,b4,b5⟩:=hb;obtain⟨g1,g2⟩:=Y2 F.o.fit b1;obtain⟨v1,v2,v3⟩:=S1 F.o.fit b2;have hj:a[j]? = some (.Name v pv):=by rw[Q9 h5]at h4;exact h4
   have J:=bv8 (W2 F) (F.o.fit.slot h6) v1 v2 v3 j a hj b3;cases a with
   | nil=>simp at hj
   | cons e es =>
    have b3':=b3;simp only[aS,ah]at b3';exact cr8 i (F.df _ _ _ _ h3) g1 g2 (F.o.fit.slot h6) v1 v2 v3 J b4 (B9 b3'.1 _ _) ((S0 p _).trans (N9 p _ b3'.2))
  ·cases h
theorem V0(F:FitZ S O C c X)(h:kFd O c k e=some w):∃x p pos,e=.Attribute (.Name x p) w.2.2 pos/\Nmd X w.1 x/\w.2.2∈O.fn w.2.1:=by
 obtain⟨⟨x,p,f,pos⟩,h1,h⟩:=ae.mp h;obtain⟨⟨e0,f',p'⟩,g1,g⟩:=ae.mp h1;obtain⟨⟨y,py⟩,g2,g3⟩:=af.mp g;cases g3;obtain⟨i,h2,h⟩:=ae.mp h;obtain⟨⟨kd,n⟩,h3,h⟩:=ae.mp h;split at h
 ·rename_i hb;cases h;simp only[ah]at hb;obtain⟨v1,v2,v3⟩:=S1 F.o.fit hb.1;exact⟨y,py,p',by rw[d7 g1,Q9 g2],⟨F.o.fit.slot h2,v1,v2,v3⟩,as6 h3⟩
 ·cases h
theorem ci4(F:FitZ S O C c X)(h:kFl O c e=some g):UE X C e g:=by
 obtain⟨w,h1,h2⟩:=af.mp h;subst h2;obtain⟨x,p,pos,rfl,N,hf⟩:=V0 F h1;exact bZ1 w.1 (F.o.foc _) hf N.n N.v N.d1 N.d2 rfl
theorem bt3{x f m:Str}{p pos apos cpos:Pos}(hp:pl e=true)(hl:(apos.endLine==cpos.line)=true):M1 X (.Attribute (.Name x p) f pos) m apos e cpos:=⟨rfl,by rw[B9 hp [] X.env];rfl,hl,by rw[B9 hp [] X.env];rfl⟩
theorem bu9(F:FitZ S O C c X)(h:kLk S O c e=some g):UP X C e g:=by
 have pu:∀e,UP X C e (vP (pE S c e)):=λe=>l7 (W2 F e)
 unfold kLk at h;split at h
 ·rename_i t ht;obtain⟨w,h1,h2⟩:=ae.mp h;rw[ao7 ht];obtain⟨x,p,pos,e1,N,hf⟩:=V0 F h1;obtain⟨l,op,r,p4⟩:=t;dsimp only at e1;subst e1;unfold kLc at h2;dsimp only at h2 ⊢;cases op<;>cases h2
  ·exact cr6 F.o.fit.units (F.o.foc _) hf N (pu _) rfl rfl
  ·exact bj6 F.o.fit.units (F.o.foc _) hf N (pu _) rfl rfl
 ·split at h
  ·rename_i t ht;obtain⟨w,h1,h2⟩:=ae.mp h;rw[an1 ht];obtain⟨x,p,pos,e1,N,hf⟩:=V0 F h1;rw[e1];split at h2
   ·rename_i hp;cases h2;exact bE8 F.o.fit.units (F.o.foc _) hf N (pu _) (bo4 hp) rfl
   ·cases h2
  ·obtain⟨⟨f,a,k,p⟩,h1,h0⟩:=ae.mp h;rw[S3 h1];dsimp only at h0 ⊢;split at h0
   ·rename_i a0 _;unfold kLa at h0;split at h0
    ·rename_i y hy;rw[Q9 hy];split at h0
     ·rename_i hb;obtain⟨k0,k1,k2⟩:=Q0 F.o.fit hb;obtain⟨w,h2,h3⟩:=af.mp h0;subst h3;obtain⟨x,p,pos,e1,N,hf⟩:=V0 F h2;rw[e1,k0];exact bY1 (F.o.foc _) hf N k1 k2 rfl
     ·split at h0
      ·rename_i hb;obtain⟨k0,k1,k2⟩:=Q0 F.o.fit hb;obtain⟨w,h2,h3⟩:=af.mp h0;subst h3;obtain⟨x,p,pos,e1,N,hf⟩:=V0 F h2;rw[e1,k0];exact bY0 F.o.fit.calm (F.o.foc _) hf N k1 k2 rfl
      ·cases h0
    ·obtain⟨⟨o,m,ap⟩,h2,h3⟩:=ae.mp h0;rw[d7 h2];split at h3
     ·rename_i hb;simp only[ah]at hb;obtain⟨w,h4,h5⟩:=af.mp h3;subst h5;obtain⟨x,p,pos,e1,N,hf⟩:=V0 F h4;dsimp only at e1 hb ⊢;rw[e1,beq_iff_eq.mp hb.1.1];exact bY2 F.o.fit.units (F.o.foc _) hf N (pu _) (bt3 hb.2 hb.1.2) rfl
     ·cases h3
   ·cases h0
theorem bT9(F:FitZ S O C c X)(e:Expr):UP X C e (kQ S O c e):=by
 unfold kQ;cases h:kLk S O c e with
 | none=>exact l7 (W2 F e)
 | some g=>exact bu9 F h
theorem bi8{f:Expr->UV}(h:∀e,UP X C e (f e)):∀es:List Expr,es.all pl=true->UPA X C es (vlE f es)
 | [],_=>bE6
 | e::es,p=>by
  simp only[aS,ah]at p;exact bj5 (h e) (bi8 h es p.2) (B9 p.1 _ _)
theorem ch8(F:FitZ S O C c X)(e:Expr):UP X C e (kPt S O c e):=by
 unfold kPt;split
 ·rename_i t ht;rw[aV3 ht];split
  ·rename_i hb;simp only[ah,decide_eq_true_eq]at hb;exact bX9 (bi8 (bT9 F) _ hb.1) hb.2
  ·exact λ_ _ _ h=>nomatch h
 ·exact bT9 F e
theorem ch9(F:FitZ S O C c X)(h:kPp O c e=some g):UE X C e g:=by
 obtain⟨⟨f,a,k,p⟩,h1,h0⟩:=ae.mp h
 clear h
 rw[S3 h1];dsimp only at h0 ⊢;split at h0
 ·obtain⟨⟨o,m,ap⟩,h2,h3⟩:=ae.mp h0;rw[d7 h2];split at h3
  ·rename_i hb;simp only[ah]at hb;obtain⟨w,h4,h5⟩:=af.mp h3;subst h5;obtain⟨x,p,pos,e1,N,hf⟩:=V0 F h4;dsimp only at e1 hb ⊢;rw[e1,beq_iff_eq.mp hb.1];exact bF4 (F.o.foc _) hf N hb.2 rfl rfl
  ·cases h3
 ·cases h0
theorem ad4(F:FitZ S O C c X){r:Expr->Option UD}(R:∀e g,r e=some g->UE X C e g)(e:Expr):UE X C e (kO S c r e):=by
 unfold kO;cases h:r e with
 | none=>exact aB1 (W2 F e)
 | some g=>exact R e g h
theorem bu4(F:FitZ S O C c X)(h:opU op=some k):OpD X (dl op) k:=by
 cases op<;>cases h
 ·exact bT0 F.o.fit.units
 ·exact bS8 F.o.fit.units
 ·exact bS9
theorem ci8(F:FitZ S O C c X){r:Expr->UD}(R:∀e,UE X C e (r e))(t:Expr×CmpOp×Expr×Pos):UE X C (.Compare t.1 [t.2.1] [t.2.2.1] t.2.2.2) (oCc r t):=by
 unfold oCc;split
 ·rename_i k hk;split
  ·exact bk2
  ·rename_i hm;exact bZ2 (bu4 F hk) (R _) (R _) (by simpa using hm)
 ·exact bk2
theorem ci7(F:FitZ S O C c X){r:Expr->Option UD}(R:∀e g,r e=some g->UE X C e g)(h:kCl S c r e=some g):UE X C e g:=by
 obtain⟨⟨f,a,k,p⟩,h1,h0⟩:=ae.mp h
 clear h
 rw[S3 h1];dsimp only at h0 ⊢;split at h0
 ·obtain⟨⟨y,py⟩,h2,h⟩:=ae.mp h0;rw[Q9 h2];obtain⟨⟨Fn,n⟩,h3,h⟩:=ae.mp h;split at h
  ·rename_i a as hb;cases h;simp only[ah,beq_iff_eq]at hb;obtain⟨⟨⟨_,b1⟩,b2⟩,b3⟩:=hb;obtain⟨g1,g2⟩:=Y2 F.o.fit b1;have b3':=b3;simp only[aS,ah]at b3';exact bk4 (F.o.fit.fns _ _ _ h3) F.o.fit.units g1 g2 (aB0 (ad4 F R) _ b3) b2 (B9 b3'.1 _ _) ((S0 p _).trans (N9 p _ b3'.2))
  ·cases h
 ·cases h0
theorem ci0(F:FitZ S O C c X){r:Expr->Option UD}(R:∀e g,r e=some g->UE X C e g)(h:kLn S c r e=some g):UE X C e g:=by
 obtain⟨⟨f,a,k,p⟩,h1,h0⟩:=ae.mp h
 clear h
 rw[S3 h1];dsimp only at h0 ⊢;split at h0
 ·obtain⟨⟨y,py⟩,h2,h⟩:=ae.mp h0;obtain⟨g1,h3,h⟩:=ae.mp h;split at h
  ·rename_i hb;cases h;simp only[ah]at hb;obtain⟨k0,k1,k2⟩:=Q0 F.o.fit hb.1;rw[Q9 h2];dsimp only at k0 ⊢;rw[k0];exact bF7 k1 k2 (R _ _ h3) (B9 hb.2 [] _)
  ·cases h
 ·cases h0
theorem aG3(h:bQ2 e=some t):e=.Call (.Name t.1 t.2.1) t.2.2.1 [] t.2.2.2:=by
 obtain⟨⟨f,a,k,p⟩,h1,h⟩:=ae.mp h;cases k with
 | cons=>cases h
 | nil =>
  obtain⟨⟨y,py⟩,h2,h⟩:=af.mp h;subst h;rw[S3 h1,Q9 h2]
theorem bu8(F:FitZ S O C c X){r:Expr->Option UD}(R:∀e g,r e=some g->UE X C e g)(h:kMk S O c r y a=some g):(∃e0 es,a=e0::es)/\∀p pos,UN3 X C (.Call (.Name y p) a [] pos) g:=by
 obtain⟨⟨Fm,n⟩,h3,h⟩:=ae.mp h;split at h
 ·rename_i hb;cases h;simp only[ah,beq_iff_eq]at hb;obtain⟨⟨⟨b1,b2⟩,b3⟩,b4⟩:=hb;obtain⟨g1,g2⟩:=Y2 F.o.fit b1;cases a with
  | nil=>cases b4
  | cons e es =>
   have b3':=b3;simp only[aS,ah]at b3';exact⟨⟨e,es,rfl⟩,λp pos=>bk1 (F.mf _ _ _ h3) g1 (aB0 (ad4 F R) _ b3) b2 g2 (B9 b3'.1 _ _) ((S0 pos _).trans (N9 pos _ b3'.2))⟩
 ·cases h
theorem ch5(F:FitZ S O C c X){r:Expr->Option UD}(R:∀e g,r e=some g->UE X C e g)(h:kTm S O c r e=some g):UE X C e g:=by
 obtain⟨⟨f,a,k,p⟩,h1,h0⟩:=ae.mp h
 clear h
 rw[S3 h1];cases k with
 | cons=>cases h0
 | nil =>
  obtain⟨⟨o,m,ap⟩,h2,h⟩:=ae.mp h0;rw[d7 h2];obtain⟨⟨y,py,as,pp⟩,h3,h⟩:=ae.mp h;obtain⟨g1,h4,h⟩:=ae.mp h;obtain⟨⟨kd,Fm,n⟩,h5,h⟩:=ae.mp h;dsimp only at h3 h4 h5 h ⊢;rw[aG3 h3];obtain⟨⟨e0,es0,ea⟩,hu⟩:=bu8 F R h4;dsimp only;split at h
  ·rename_i hb;cases h;simp only[ah,beq_iff_eq,decide_eq_true_eq]at hb;obtain⟨⟨⟨b1,b2⟩,b3⟩,b4⟩:=hb;have M:=F.o.mts _ _ _ _ h5;subst ea;cases a with
   | nil =>
    cases b3;exact bF3 (hu _ _) M (F.o.foc kd) (by simpa using b1)
   | cons e es =>
    have b2':=b2;simp only[aS,ah]at b2';exact bY8 (hu _ _) M (F.o.foc kd) (ag7 (W2 F) (e::es)) b3 (B9 b2'.1 _ _) ((S0 p _).trans (N9 p _ b2'.2)) (by simpa using b1) (by9 b2 (by rw[b3];exact b4))
  ·cases h
theorem ch4(F:FitZ S O C c X){r:Expr->Option UD}(R:∀e g,r e=some g->UE X C e g)(h:kX1 S O c r e=some g):UE X C e g:=by
 unfold kX1 at h;split at h
 ·rename_i t ht;rw[ao7 ht];split at h
  ·cases h;exact ci8 F (ad4 F R) t
  ·cases h
 ·split at h
  ·rename_i t ht;rw[aV3 ht];split at h
   ·rename_i hb;cases h;simp only[ah,decide_eq_true_eq]at hb;exact bY7 (aB0 (ad4 F R) _ hb.1.2) hb.2
   ·cases h
  ·split at h
   ·rename_i t ht;split at h
    ·rename_i u hu;obtain⟨lo,hi,u2⟩:=u;cases u2 with
     | some=>cases h
     | none =>
      obtain⟨g1,h2,h3⟩:=af.mp h;subst h3;rw[an1 ht];obtain⟨p3,e3⟩:=aV9 hu;rw[e3];exact cr7 (R _ _ h2) (ay4 (W2 F) _) (ay4 (W2 F) _)
    ·split at h
     ·rename_i hp;obtain⟨g1,h2,h3⟩:=af.mp h;subst h3;rw[an1 ht];exact bZ0 (R _ _ h2) (ad4 F R _) (bo4 hp)
     ·cases h
   ·split at h
    ·rename_i t ht;split at h
     ·rename_i hb;cases h;simp only[ah]at hb;obtain⟨a,op,b,p⟩:=t;rw[bQ3 ht];have:op=.Add:=by cases op<;>first|rfl|cases hb.2
      subst this;exact bZ3 aY0 (ad4 F R _) (ad4 F R _)
     ·cases h
    ·split at h
     ·rename_i g1 h1;cases h;exact ci7 F R h1
     ·split at h
      ·rename_i g1 h1;cases h;exact ch5 F R h1
      ·exact ci0 F R h
theorem ag6(F:FitZ S O C c X):∀n e g,kX S O c n e=some g->UE X C e g
 | 0,e,g,h=>by cases h
 | n+1,e,g,h=>by
  unfold kX at h;split at h
  ·rename_i g1 h1;cases h;exact cy2 F h1
  ·split at h
   ·rename_i g1 h1;cases h;exact ci5 F h1
   ·split at h
    ·rename_i g1 h1;cases h;exact ci4 F h1
    ·split at h
     ·rename_i g1 h1;cases h;exact bF6 (bu9 F h1)
     ·split at h
      ·rename_i g1 h1;cases h;exact ch9 F h1
      ·exact ch4 F (ag6 F n) h
theorem aR2(h:lcE e=some t):e=.ListComp t.1 [⟨t.2.1,t.2.2.1,[],0⟩] t.2.2.2.1 t.2.2.2.2:=by
 unfold lcE at h;split at h
 ·cases h;rfl
 ·cases h
theorem bq6{l:List Str}(h:(l.length==1)=true):l.length=1:=by simpa using h
theorem ci1(F:FitZ S O C c X)(h:kJc S O c a=some g):UE X C a g:=by
 obtain⟨⟨elt,tg,it,sc,pv⟩,h1,h0⟩:=ae.mp h
 clear h
 rw[aR2 h1];dsimp only at h0 ⊢;split at h0
 ·rename_i i _;obtain⟨g1,h2,h⟩:=ae.mp h0;obtain⟨g2,h3,h⟩:=ae.mp h;split at h
  ·rename_i hb;cases h;simp only[ah]at hb;obtain⟨l1,hb⟩:=hb;have l1:=bq6 l1;unfold jcB at hb;simp only[ah]at hb;obtain⟨⟨⟨⟨⟨c1,c2⟩,c3⟩,c6⟩,c7⟩,c8⟩:=hb;have hn:=i9 c2;obtain⟨v1,v2,v3⟩:=S1 F.o.fit c6;split at c8
   ·rename_i y hy;simp only[ah]at c8;obtain⟨d1,d2⟩:=c8;refine bF9 i (aj8 c1 F.o.fit.N F.o.fit.sc) F.o.fit.hx (ag6 F 5 it g2 h3) (λC0 s0 H0 ex=>?_) (λC0 s0 H0 ex=>ag6 (F.inner hn) 5 elt g1 h2) (by rw[F.o.fit.N];simpa using c7) v1 v2 v3 F.o.fit.calm (an7 c3 _);have Fi:=F.o.fit.inner (C:=C0) (s0:=s0) (H0:=H0) (ex:=ex) hn;obtain⟨e1,e2⟩:=ag4 Fi d1;have key:∀t,t=Expr.Name y.1 y.2->JG (B4 X (G.inner c (K1 tg) [i] sc).N sc C0 s0 H0 ex) t (K5 0):=λt e=>by subst e;exact aE0 0 hn (Fi.slot (by simpa using d2)) e1 e2
    exact key tg (Q9 hy)
   ·cases c8
  ·cases h
 ·cases h0
theorem as1(F:FitZ S O C c X)(e:Expr):UE X C e (kE S O c e):=by
 unfold kE;cases hj:kJ S O c e with
 | none=>exact ad4 F (ag6 F 5) e
 | some g =>
  obtain⟨⟨f,a,k,p⟩,h1,h0⟩:=ae.mp hj;rw[S3 h1];dsimp only at h0 ⊢
  have z:∀a0 g1,kJc S O c a0=some g1->di [a0] X.env=[(false,eval a0 X.env)]:=λa0 g1 h4=>by
   obtain⟨t,h6,_⟩:=ae.mp h4;rw[aR2 h6];rfl
  split at h0
  ·obtain⟨⟨o,m,ap⟩,h2,h3⟩:=ae.mp h0;rw[d7 h2];split at h3
   ·rename_i hb;simp only[ah]at hb;obtain⟨g1,h4,h5⟩:=af.mp h3;subst h5;dsimp only at hb ⊢;rw[beq_iff_eq.mp hb.1.1];exact bF8 (W2 F o) (ci1 F h4) (S6 hb.2 _ _ _) (by rw[z _ _ h4];rfl) hb.1.2 (z _ _ h4)
   ·cases h3
  ·cases h0
theorem bv0(F:FitZ S O C c X):∀es:List Expr,UE X C (.BoolOp .And es pos) (kAn S O c es)
 | []=>bk2
 | [e]=>bY9 (as1 F e)
 | e::e'::es=>bG0 (as1 F e) (bv0 F (e'::es))
theorem bu7(F:FitZ S O C c X)(e:Expr):UE X C e (kV S O c e):=by
 unfold kV;split
 ·rename_i t ht;have:=ba5 ht;obtain⟨op,l,p⟩:=t;subst this;cases op
  ·dsimp only;split
   ·exact bv0 F l
   ·exact aB1 (W2 F _)
  ·exact aB1 (W2 F _)
 ·exact as1 F e
theorem ch6(F:FitZ S O C c X)(h:kT0 S O c e=some g):UT X C e g:=by
 unfold kT0 at h;split at h
 ·rename_i t ht;split at h
  ·rename_i g0 hg;cases h;obtain⟨w,h1,h2⟩:=ae.mp hg;rw[ao7 ht];obtain⟨x,p,pos,e1,N,hf⟩:=V0 F h1;obtain⟨l,op,r,p4⟩:=t;dsimp only at e1;subst e1;unfold kLc at h2;dsimp only at h2 ⊢;cases op<;>cases h2
   ·exact bR3 false F.o.fit.units (F.o.foc _) hf N (l7 (W2 F _)) rfl rfl
   ·exact bR3 true F.o.fit.units (F.o.foc _) hf N (l7 (W2 F _)) rfl rfl
  split at h
  ·cases h;rw[ao7 ht];unfold oCc;split
   ·rename_i k hk;split
    ·exact λ_ _ _ _ h _=>nomatch h
    ·rename_i hm;exact bX4 (bu4 F hk) (ad4 F (ag6 F 4) _) (ad4 F (ag6 F 4) _) (by simpa using hm)
   ·exact λ_ _ _ _ h _=>nomatch h
  ·cases h
 ·split at h
  ·rename_i hc;obtain⟨g1,h1,h2⟩:=af.mp h;subst h2;obtain⟨t,ht⟩:=bD.mp hc;refine bX3 (ag6 F 5 e g1 h1) ?_;rw[S3 ht];intro _;rfl
  ·cases h
theorem ar9(F:FitZ S O C c X)(e:Expr):UT X C e (kT1 S O c e):=by
 unfold kT1;cases h:kT0 S O c e with
 | none=>exact aU8 ((ag8 S 99).t F.o.fit e)
 | some g =>
  exact ch6 F h
theorem aR3(F:FitZ S O C c X)(op:BoolOp):∀es:List Expr,UW X C op es (kTc S O c op es)
 | []=>λ_ _ _ _ h _=>nomatch h
 | [e]=>by
  cases op
  ·exact bD7 (ar9 F e)
  ·exact bX1 (ar9 F e)
 | e::e'::es=>by
  cases op
  ·exact bX2 (ar9 F e) (aR3 F .And (e'::es))
  ·exact cr1 (ar9 F e) (aR3 F .Or (e'::es))
theorem bT8(F:FitZ S O C c X)(e:Expr):UT X C e (kT S O c e):=by
 unfold kT;split
 ·rename_i t ht;split
  ·rw[ba5 ht];exact(aR3 F _ _).ut
  ·exact aU8 ((ag8 S 99).t F.o.fit e)
 ·exact ar9 F e
theorem cy1(F:FitZ S O C c X)(h:kN S O c v=some g):UN X C v g:=by
 obtain⟨⟨f,a,k,p⟩,h1,h0⟩:=ae.mp h
 clear h
 rw[S3 h1];dsimp only at h0 ⊢;split at h0
 ·obtain⟨⟨x,px⟩,h2,h⟩:=ae.mp h0;rw[Q9 h2];obtain⟨⟨kd,Fm,n⟩,h3,h⟩:=ae.mp h;split at h
  ·rename_i hb;cases h;simp only[ah,beq_iff_eq]at hb;obtain⟨⟨b1,b2⟩,b3⟩:=hb;obtain⟨g1,g2⟩:=Y2 F.o.fit b1;have M:=F.make _ _ _ _ h3;cases a with
   | nil =>
    cases b2;exact bj8 M g1 g2
   | cons e es =>
    have b3':=b3;simp only[aS,ah]at b3';exact bE9 M g1 (ag7 (W2 F) (_::_)) b2 g2 (B9 b3'.1 _ _) ((S0 p _).trans (N9 p _ b3'.2))
  ·cases h
 ·cases h0
theorem ci6(F:FitZ S O C c X)(hi:Y1 x c.N=some n)(h:kCm S O c x p' n v=some g):US X C (.Assign [.Name x p'] v p) g:=by
 obtain⟨⟨elt,tg,it,sc,pv⟩,h1,h0⟩:=ae.mp h
 clear h
 rw[aR2 h1];dsimp only at h0 ⊢;split at h0
 ·rename_i i _;obtain⟨g1,h2,h⟩:=ae.mp h0;split at h
  ·rename_i hb;cases h;simp only[ah]at hb;obtain⟨l1,hb⟩:=hb;have l1:=bq6 l1;unfold cpB at hb;simp only[ah]at hb;obtain⟨⟨⟨⟨⟨⟨⟨c1,c2⟩,c3⟩,c4⟩,c5⟩,c6⟩,c7⟩,c8⟩:=hb;have hn:=i9 c2;have hl':X.env.scope.names.lookup x=some .local:=by rw[F.o.fit.sc];simpa using c4
   have hsw:swapsWith (.ListComp elt [⟨tg,it,[],0⟩] sc pv) (some (.Name x p')) p.line X.env=pure true:=by
    rw[ac0,aG4 F.o.fit c5.1.1,c5.1.2,c5.2];unfold Env.kindOf;rw[hl'];rfl
   obtain⟨v1,v2,v3⟩:=S1 F.o.fit c6;split at c8
   ·rename_i y hy;simp only[ah]at c8;obtain⟨d1,d2⟩:=c8;refine bj4 n i (by rw[F.o.fit.N];exact F.o.fit.nd) (aj8 c1 F.o.fit.N F.o.fit.sc) F.o.fit.hx (bw2 (ag8 S 98) F.o.fit tg it) (λC0 s0 H0 ex=>?_) (λC0 s0 H0 ex=>ag6 (F.inner hn) 5 elt g1 h2) (by rw[F.o.fit.N];simpa using c7) v1 v2 v3 (F.o.fit.slot hi) hl' hsw F.o.fit.calm (an7 c3 _);have Fi:=F.o.fit.inner (C:=C0) (s0:=s0) (H0:=H0) (ex:=ex) hn;obtain⟨e1,e2⟩:=ag4 Fi d1;have key:∀t,t=Expr.Name y.1 y.2->JG (B4 X (G.inner c (K1 tg) [i] sc).N sc C0 s0 H0 ex) t (K5 0):=λt e=>by subst e;exact aE0 0 hn (Fi.slot (by simpa using d2)) e1 e2
    exact key tg (Q9 hy)
   ·cases c8
  ·cases h
 ·split at h0
  ·rename_i hb;cases h0;simp only[ah]at hb;have hl':X.env.scope.names.lookup x=some .local:=by rw[F.o.fit.sc];simpa using hb.1.1
   have hsw:swapsWith (.ListComp elt [⟨tg,it,[],0⟩] sc pv) (some (.Name x p')) p.line X.env=pure true:=by
    rw[ac0,aG4 F.o.fit hb.1.2.1.1,hb.1.2.1.2,hb.1.2.2];unfold Env.kindOf;rw[hl'];rfl
   obtain⟨h1,h2,h3,h4,h5,h6⟩:=aF8 (ifs:=[]) (elt:=elt) (ag8 S 98) F.o.fit (by simp only[ah];exact hb.2);exact bj3 n (by rw[F.o.fit.N];exact F.o.fit.nd) h1 F.o.fit.hx h2 h3 h4 h5 (F.o.fit.slot hi) hl' hsw F.o.fit.calm h6
  ·cases h0
 ·cases h0
theorem bM6(F:FitZ S O C c X)(x:Str)(p':Pos)(v:Expr)(p:Pos):US X C (.Assign [.Name x p'] v p) (cj0 S O c x p' v):=by
 have nd:X.N.Nodup:=by rw[F.o.fit.N];exact F.o.fit.nd
 unfold cj0;split
 ·rename_i i hi;split
  ·rename_i h;simp only[ah,bp]at h;obtain⟨l1,l2⟩:=ag4 F.o.fit h.1;split
   ·rename_i g hg;exact bX7 i nd (cy1 F hg) (F.o.fit.slot hi) l1 (R5 h.2 _ _ _) l2
   ·split
    ·rename_i g hg;unfold kN2 at hg;split at hg
     ·rename_i g1 h1;cases hg;obtain⟨t,h2,h3⟩:=ae.mp h1;have hs:=R5 h.2 (some (.Name x p')) p.line X.env;rw[aG3 h2]at hs ⊢;exact cr3 i nd ((bu8 F (ag6 F 5) h3).2 _ _) (F.o.fit.slot hi) l1 hs l2
     ·obtain⟨⟨y,py,m,ap,a,cp⟩,h1,h0⟩:=ae.mp hg;have hs:=R5 h.2 (some (.Name x p')) p.line X.env;rw[bt0 h1]at hs ⊢;dsimp only at h0 hs ⊢;split at h0
      ·obtain⟨j,h2,h0⟩:=ae.mp h0;obtain⟨⟨kd,Fm⟩,h3,h0⟩:=ae.mp h0;split at h0
       ·rename_i hb;cases h0;simp only[ah]at hb;obtain⟨v1,v2,v3⟩:=S1 F.o.fit hb.1;exact bX5 i j (F.mo _ _ _ h3) (F.o.foc kd) nd (F.o.fit.slot hi) l1 l2 ⟨F.o.fit.slot h2,v1,v2,v3⟩ hb.2 hs
       ·cases h0
      ·cases h0
    ·exact bX6 i nd (bu7 F v) (F.o.fit.slot hi) l1 (R5 h.2 _ _ _) l2
  ·cases hg:kCm S O c x p' i v with
   | none=>exact i6
   | some g=>exact ci6 F hi hg
 ·exact i6
theorem ci3(F:FitZ S O C c X)(h:kFr S O c v=some g):UN2 X C v g:=by
 unfold kFr at h;split at h
 ·cases h;exact bY3
 ·cases h;exact bF0
 ·split at h
  ·rename_i hb;obtain⟨k0,k1,k2⟩:=Q0 F.o.fit hb;obtain⟨w,h2,h3⟩:=af.mp h;subst h3;obtain⟨x,p,pos,e1,N,hf⟩:=V0 F h2;rw[e1,k0];exact bk0 (F.o.foc _) hf N k1 k2 rfl
  ·split at h
   ·rename_i hb;obtain⟨k0,k1,k2⟩:=Q0 F.o.fit hb;obtain⟨w,h2,h3⟩:=af.mp h;subst h3;obtain⟨x,p,pos,e1,N,hf⟩:=V0 F h2;rw[e1,k0];exact bj9 (F.o.foc _) hf N k1 k2 rfl
   ·cases h
 ·cases h
theorem ci9(F:FitZ S O C c X)(v:Expr)(ts:List Expr)(p:Pos):US X C (.Assign ts v p) (kAs S O c v ts):=by
 unfold kAs;split
 ·rename_i tg;split
  ·rename_i t ht;rw[Q9 ht];exact bM6 F _ _ _ _
  ·split
   ·rename_i u hu;cases hg:cy4 S O c u v with
    | none=>exact i6
    | some g =>
     obtain⟨⟨x,px⟩,h2,h⟩:=ae.mp hg;obtain⟨i,h3,h⟩:=ae.mp h;obtain⟨⟨kd,n⟩,h4,h⟩:=ae.mp h;split at h
     ·rename_i hb;simp only[ah,bp]at hb;obtain⟨v1,v2,v3⟩:=S1 F.o.fit hb.1;rw[d7 hu,Q9 h2];split at h
      ·cases h;exact bE0 i (F.o.foc _) (as6 h4) (F.o.fit.slot h3) v1 v2 v3 (as1 F v) (R5 hb.2 _ _ _)
      ·obtain⟨g1,h5,h6⟩:=af.mp h;subst h6;exact bE3 (F.o.foc _) (as6 h4) ⟨F.o.fit.slot h3,v1,v2,v3⟩ (ci3 F h5) (R5 hb.2 _ _ _)
     ·cases h
   ·split
    ·rename_i t ht;cases hg:cy3 S O c t v with
     | none=>exact i6
     | some g =>
      obtain⟨w,h1,h2⟩:=ae.mp hg;rw[an1 ht];obtain⟨x,p,pos,e1,N,hf⟩:=V0 F h1;rw[e1];split at h2
      ·cases h2
      ·rename_i hc;cases h2;exact bE1 F.o.fit.units (F.o.foc _) hf N (l7 (W2 F _)) (l7 (W2 F _)) rfl (R5 (by simpa using hc) _ _ _)
    ·exact i6
 ·exact i6
theorem ci2(F:FitZ S O C c X)(h:kFs S O c e=some g)(hs:swapsWith e none pos.line X.env=pure false):US X C (.Expr e pos) g:=by
 obtain⟨⟨f,a,k,p⟩,h1,h0⟩:=ae.mp h
 clear h
 rw[S3 h1]at hs ⊢;dsimp only at h0 hs ⊢;split at h0
 ·rename_i a0 _;obtain⟨⟨o,m,ap⟩,h2,h3⟩:=ae.mp h0;rw[d7 h2]at hs ⊢;dsimp only at h3 hs ⊢;split at h3
  ·rename_i hb;simp only[ah]at hb;have z:=B9 hb.2 [] X.env;split at h3
   ·rename_i hm;obtain⟨w,h4,h5⟩:=af.mp h3;subst h5;obtain⟨x,p,pos,e1,N,hf⟩:=V0 F h4;rw[e1,beq_iff_eq.mp hm]at hs ⊢;exact bE5 (F.o.foc _) hf N (ch8 F _) (bt3 hb.2 hb.1) z rfl hs
   ·split at h3
    ·rename_i hm;obtain⟨w,h4,h5⟩:=af.mp h3;subst h5;obtain⟨x,p,pos,e1,N,hf⟩:=V0 F h4;rw[e1,beq_iff_eq.mp hm]at hs ⊢;exact bE2 (F.o.foc _) hf N (l7 (W2 F _)) (bt3 hb.2 hb.1) rfl hs
    ·cases h3
  ·cases h3
 ·cases h0
theorem ch7(F:FitZ S O C c X)(e:Expr):US X C (.Return (some e) pos) (kRe S O c e):=by
 unfold kRe;split
 ·rename_i x hx;split
  ·split
   ·rename_i i hi;split
    ·rename_i hv;obtain⟨v1,v2,v3⟩:=S1 F.o.fit hv;rw[Q9 hx];exact cr2 i (F.o.fit.slot hi) v1 v2 v3
    ·exact i6
   ·exact i6
  ·exact bj2 (bu7 F _)
 ·exact bj2 (bu7 F _)
theorem cy0(F:FitZ S O C c X):UI X C tg it ((kZ S O c tg it).getD (iP (evI S (ev S 98) c tg it))):=by
 cases hz:kZ S O c tg it with
 | none=>exact bF2 (bw2 (ag8 S 98) F.o.fit _ _)
 | some g =>
  obtain⟨⟨y,py,a,p⟩,h1,h0⟩:=ae.mp hz;rw[aG3 h1];dsimp only at h0 ⊢;split at h0
  ·split at h0
   ·rename_i hb;cases h0;simp only[ah]at hb;obtain⟨⟨⟨⟨b1,b2⟩,b3⟩,b4⟩,_⟩:=hb;obtain⟨k0,k1,k2⟩:=Q0 F.o.fit b1;rw[k0];cases tg<;>first|(cases b2;done)|skip
    exact bY6 k1 k2 (as1 F _) (as1 F _) (by rw[B9 b3,B9 b4];rfl) (B9 b4 _ _)
   ·cases h0
  ·cases h0
theorem as0(F:FitZ S O C c X):∀n st,US X C st (kSt S O c n st)
 | 0,st=>i6
 | n+1,st=>by
  have ih:=ax8 (as0 F n);unfold kSt;split
  ·exact ch7 F _
  ·exact cr4 (bT8 F _) (ih _) (ih _)
  ·rename_i tg it a o p;unfold kFo;split
   ·split
    ·rename_i h;exact bX8 (cy0 F) ((ag8 S 98).g F.o.fit _) (bV2 S 98 c tg) (ih _) F.o.fit.po F.o.fit.calm (an7 h _)
    ·exact i6
   ·exact i6
  ·exact ci9 F _ _ _
  ·split
   ·exact i6
   ·rename_i e p hc;have hs:=R5 (e:=e) (by simpa using hc) none p.line X.env;split
    ·rename_i g hg;exact ci2 F hg hs
    exact bE4 (as1 F _) hs
  ·exact i6
end
end G
namespace G
open PySem PySem.Spec PyProof.Rows L2
def cA9:Stmt->List Stmt
 | .ClassDef _ _ _ b _ _ _ _ _ _ _=>b
 | _=>[]
structure KCl (K:ag) (C:dX) (cl:Str) (fn:List Str):Prop where
 ns:aH K dn cl=some (some (.ref C))
 make:PySem.W.makesIn K C=true
 kp:aF K (.ref C)=true
 foc:FoC K C fn
theorem bu6{K:ag}{C:dX}{cl:Str}{fn:List Str}(a:aH K dn cl=some (some (.ref C)))(b:PySem.W.makesIn K C=true)(c:aF K (.ref C)=true)(pg:PySem.W.plainGet K C dR=true)(hd:PySem.W.hasDictIn K C=true)(po:PySem.W.plainOver K C=true)
  (sa:PySem.W.findIn K (.ref C) "__setattr__" = some (some (.builtin "object.__setattr__"))) (n:∀f∈fn,PySem.W.findIn K (.ref C) f=some none):KCl K C cl fn:=⟨a,b,c,⟨pg,hd,po,sa⟩,n⟩
theorem cx8{K:ag}{C:dX}{m qual:Str}{st:Stmt}{f:dX}{oc:dU}{od:Option dX}{sl:Array (Option dU)}{kV dc pm:dU}{an:Option dX}{cd ct:dU}(a:PySem.W.findIn K (.ref C) m=some (some (.ref f)))(i:PySem.W.isFn K (.ref f)=true)
  (l:K.lookup f=some ⟨oc,od,.func (bj m qual (T8 st) (C4 st) (A9 st) .none kV dc pm an cd ct),sl⟩) (c:bR K cd qual=true) (k:aF K (.ref f)=true):KM K C m qual st:=⟨f,oc,od,sl,kV,dc,pm,an,cd,ct,a,i,l,c,k⟩
section
variable {P:Program}{w:World}{K:PySem.W.Frag}{mg:Str->Option Value}{base:Heap}{cs:List (Str×D)}{bl:List Str}{C:CT}{tab:Tab}{O:Og5}
def aU5(P:dq)(w:World)(K:ag)(mg:Str->Option dU)(base:Heap)(C:CT)(k:Nat)(df:List (Str×DF×Nat×Nat)):Prop:=∀x F n j,df.lookup x=some (F,n,j)->∃(f:dX) (fd:dt) (ps:List Str),
 FnOk P w K mg base CX0 k f fd ps (spD K C n F)/\mg x=some (.ref f)/\aF K (.ref f)=true/\M4 K fd ps []
theorem aU5.cons{k:Nat}{df:List (Str×DF×Nat×Nat)}{x:Str}{F:DF}{n j:Nat}(T:aU5 P w K mg base C k df)(h:∃(f:dX) (fd:dt) (ps:List Str),FnOk P w K mg base CX0 k f fd ps (spD K C n F)/\mg x=some (.ref f)/\aF K (.ref f)=true/\M4 K fd ps []):
  aU5 P w K mg base C k ((x,F,n,j)::df):=λy G m i e=>by
 rw[aB]at e;split at e
 ·rename_i q;cases e;simp only[beq_iff_eq]at q;subst q;exact h
 ·exact T y G m i e
theorem aU5.mono{df:List (Str×DF×Nat×Nat)}(T:aU5 P w K mg base C j df)(h:j<=k):aU5 P w K mg base C k df:=λx F n i e=>by
 obtain⟨f,fd,ps,h1,h2⟩:=T x F n i e;exact⟨f,fd,ps,h1.mono h,h2⟩
structure ZOk (P:dq) (w:World) (K:ag) (mg:Str->Option dU) (base:Heap) (C:CT) (k:Nat) (tab:Tab) (O:Og5):Prop where
 t:TOk P w K mg base k tab
 m:MOk P w K mg base C k O.ms
 i:∀x kd F n,O.ini.lookup x=some (kd,F,n)->∃j f fd ps,j+1<=k/\FnOk P w K mg base CX0 j f fd ps (spD K C (n+1) F)/\Mk K (C kd) f/\M4 K fd ps []/\mg x=some (.ref (C kd))
 d:aU5 P w K mg base C k O.df
 f:∀x F n,O.mf.lookup x=some (F,n)->∃f fd ps,FnOk P w K mg base CX0 k f fd ps (bH7 K C n F)/\mg x=some (.ref f)/\aF K (.ref f)=true/\M4 K fd ps []
 o:∀m kd F,O.mo.lookup m=some (kd,F)->∃f fd ps,FnOk P w K mg base CX0 k f fd ps (spO K C 1 F)/\Meth K (C kd) m f/\M4 K fd ps []
theorem ZOk.mono(V:ZOk P w K mg base C j tab O)(h:j<=k):ZOk P w K mg base C k tab O where
 t:=V.t.mono h
 m:=V.m.mono h
 i:=λx kd F n e=>by obtain⟨i,f,fd,ps,h1,h2⟩:=V.i x kd F n e;exact⟨i,f,fd,ps,aC h1 h,h2⟩
 d:=V.d.mono h
 f:=λx F n e=>by obtain⟨f,fd,ps,h1,h2⟩:=V.f x F n e;exact⟨f,fd,ps,h1.mono h,h2⟩
 o:=λx kd F e=>by obtain⟨f,fd,ps,h1,h2⟩:=V.o x kd F e;exact⟨f,fd,ps,h1.mono h,h2⟩
theorem by8{f:dX}{cdv:dU}{A:dr}{outer:List Env}{s:dW}{H:Hp}{E:XK}{qual:Str}(M:Md K mg cs bl)(V:ZOk P w K mg base C k tab O)(Fc:∀kd,FoC K (C kd) (O.fn kd)){d:Fd}(ok:d.okB=true)(hr:Room k (A.deeper (envOfC qual (A9 d.st) s.heap.objs.size f cdv))):
  FitZ ⟨tab,cs,bl⟩ O C d.c (ah2 CX0 P w K mg base d.N qual (A9 d.st) f cdv A outer s H E).nox:=by
 have Sc:=Fd.sc ok
 have fit:Fit ⟨tab,cs,bl⟩ d.c (ah2 CX0 P w K mg base d.N qual (A9 d.st) f cdv A outer s H E).nox:=by
  refine⟨rfl,rfl,Sc.nd,rfl,rfl,hr.units,λ_=>⟨λ_=>rfl,Sc.kind⟩,λx F n h=>?_,M.css,M.bls⟩;exact(V.t x F n h).imp (λ⟨f',fd',ps,h1,h2,h3,h4⟩=>⟨k,f',fd',ps,h1,hr,h2,h3,h4⟩) id
 refine⟨⟨fit,Fc,λm kd F n h=>?_⟩,λx kd F n h=>?_,λx F n j h=>?_,λx F n h=>?_,λm kd F h=>?_⟩
 ·obtain⟨f',fd',ps,h1,h2,h3⟩:=V.m m kd F n h;exact⟨k,f',fd',ps,h1,hr,h2,h3⟩
 ·obtain⟨j,f',fd',ps,h1,h2,h3,h4,h5⟩:=V.i x kd F n h;exact⟨j,f',fd',ps,h2,hr.mono h1,h3,h4,h5⟩
 ·obtain⟨f',fd',ps,h1,h2,h3,h4⟩:=V.d x F n j h;exact⟨k,f',fd',ps,h1,hr,h2,h3,h4⟩
 ·obtain⟨f',fd',ps,h1,h2,h3,h4⟩:=V.f x F n h;exact⟨k,f',fd',ps,h1,hr,h2,h3,h4⟩
 ·obtain⟨f',fd',ps,h1,h2,h3⟩:=V.o m kd F h;exact⟨k,f',fd',ps,h1,hr,h2,h3⟩
def rdK(tab:Tab)(cs:List (Str×D))(bl:List Str)(O:Og5)(d:Fd):DF:=N7 (oB (kSt ⟨tab,cs,bl⟩ O d.c 9) (C4 d.st)) d.N.length
def rdJ(tab:Tab)(cs:List (Str×D))(bl:List Str)(O:Og5)(d:Fd):FnD:=bI2 (oB (kSt ⟨tab,cs,bl⟩ O d.c 9) (C4 d.st)) d.N.length
theorem kfn(V:ZOk P w K mg base C k tab O)(M:Md K mg cs bl)(Fc:∀kd,FoC K (C kd) (O.fn kd))(d:Fd)(ok:d.okB=true)(Fn:Fun K d.x qual d.st f fd):FnOk P w K mg base CX0 (k+1) f fd d.ps (spD K C d.ps.length (rdK tab cs bl O d)) :=
 aL9 (N:=d.N) Fn (Fd.sc ok) λcdv A outer s H E hr=>ax8 (as0 (by8 M V Fc ok hr) 9) _
theorem ZOk.addM(V:ZOk P w K mg base C k tab O)(M:Md K mg cs bl)(Fc:∀kd,FoC K (C kd) (O.fn kd))(kd:Bool)(d:Fd)(h:KM K (C kd) d.x qual d.st)(F:DF)(n:Nat)(e:rdK tab cs bl O d=F:=by kernel_rfl)(hp:d.ps.length=n+1:=by rfl)(ok:d.okB=true:=by kernel_rfl)(bd:BdM d qual:=by repeat (first|exact rfl|intro _)):ZOk P w K mg base C (k+1) tab { O with ms:=(d.x,kd,F,n)::O.ms }:=by
 subst e;obtain⟨f,oc,od,sl,kV,dc,pm,an,cd,ct,a,i,l,cc,kk⟩:=h;have Fn:=as5 l cc kk;have U:=V.mono (ce k);have q:=kfn V M Fc d ok Fn;rw[hp]at q;exact⟨U.t,U.m.cons ⟨f,_,d.ps,q,⟨a,i,kk⟩,.all (ua (bd kV dc pm an cd ct))⟩,U.i,U.d,U.f,U.o⟩
def rdO(tab:Tab)(cs:List (Str×D))(bl:List Str)(O:Og5)(d:Fd):DO:=bn2 (oB (kSt ⟨tab,cs,bl⟩ O d.c 9) (C4 d.st)) d.N.length
def rdF(tab:Tab)(cs:List (Str×D))(bl:List Str)(O:Og5)(d:Fd):List D->Option Fo:=bI3 (oB (kSt ⟨tab,cs,bl⟩ O d.c 9) (C4 d.st)) d.N.length
theorem aD5{α:Type}{l:List (Str×α)}{p:Str->α->Prop}{x:Str}{a:α}(h:p x a)(t:∀(y:Str) (b:α),l.lookup y=some b->p y b):∀(y:Str) (b:α),((x,a)::l).lookup y=some b->p y b:=λy b e=>by
 rw[aB]at e;split at e
 ·rename_i q;cases e;rw[beq_iff_eq.mp q];exact h
 ·exact t y b e
theorem ZOk.addO(V:ZOk P w K mg base C k tab O)(M:Md K mg cs bl)(Fc:∀kd,FoC K (C kd) (O.fn kd))(kd:Bool)(d:Fd)(h:KM K (C kd) d.x qual d.st)(F:DO)(e:rdO tab cs bl O d=F:=by kernel_rfl)(hp:d.ps.length=1:=by rfl)(ok:d.okB=true:=by kernel_rfl)(bd:BdM d qual:=by repeat (first|exact rfl|intro _)):ZOk P w K mg base C (k+1) tab { O with mo:=(d.x,kd,F)::O.mo }:=by
 subst e;obtain⟨f,oc,od,sl,kV,dc,pm,an,cd,ct,a,i,l,cc,kk⟩:=h;have Fn:=as5 l cc kk;have U:=V.mono (ce k);have q:FnOk P w K mg base CX0 (k+1) f _ d.ps (spO K C d.ps.length (rdO tab cs bl O d)):=bg1 (N:=d.N) Fn (Fd.sc ok) λcdv A outer s H E hr=>ax8 (as0 (by8 M V Fc ok hr) 9) _
 rw[hp]at q;refine⟨U.t,U.m,U.i,U.d,U.f,λm kd' F' e=>?_⟩;exact aD5 (p:=λm (t:Bool×DO)=>∃f fd ps,FnOk P w K mg base CX0 (k+1) f fd ps (spO K C 1 t.2)/\Meth K (C t.1) m f/\M4 K fd ps []) ⟨f,_,d.ps,q,⟨a,i,kk⟩,.all (ua (bd kV dc pm an cd ct))⟩ (λy t e=>U.o y t.1 t.2 e) m (kd',F') e
theorem ZOk.addF(V:ZOk P w K mg base C k tab O)(M:Md K mg cs bl)(Fc:∀kd,FoC K (C kd) (O.fn kd))(d:Fd)(h:KF K d.x d.st)(F:List D->Option Fo)(e:rdF tab cs bl O d=F:=by kernel_rfl)(ok:d.okB=true:=by kernel_rfl)(bd:Bd d:=by repeat (first|exact rfl|intro _)):ZOk P w K mg base C (k+1) tab { O with mf:=(d.x,F,d.ps.length)::O.mf }:=by
 subst e;obtain⟨f,kV,dc,pm,an,cd,ct,Fn,hm⟩:=ar6 h M;have U:=V.mono (ce k);refine⟨U.t,U.m,U.i,U.d,λx F' n e=>?_,U.o⟩;exact aD5 (p:=λx (t:(List D->Option Fo)×Nat)=>∃f fd ps,FnOk P w K mg base CX0 (k+1) f fd ps (bH7 K C t.2 t.1)/\mg x=some (.ref f)/\aF K (.ref f)=true/\M4 K fd ps []) ⟨f,_,d.ps,by7 (N:=d.N) Fn (Fd.sc ok) λcdv A outer s H E hr=>ax8 (as0 (by8 M V Fc ok hr) 9) _,hm,Fn.kp,.all (ua (bd kV dc pm an cd ct))⟩ (λy t e=>U.f y t.1 t.2 e) x (F',n) e
theorem ZOk.addI(V:ZOk P w K mg base C k tab O)(M:Md K mg cs bl)(Fc:∀kd,FoC K (C kd) (O.fn kd))(kd:Bool){cl:Str}{fn:List Str}(c:KCl K (C kd) cl fn)(d:Fd)(h:KM K (C kd) "__init__" qual d.st)(hx:d.x = "__init__")(F:DF)(n:Nat)(e:rdK tab cs bl O d=F:=by kernel_rfl)(hp:d.ps.length=n+1:=by rfl)(ok:d.okB=true:=by kernel_rfl)(bd:BdM d qual:=by repeat (first|exact rfl|intro _)):ZOk P w K mg base C (k+2) tab { O with ini:=(cl,kd,F,n)::O.ini }:=by
 subst e;obtain⟨f,oc,od,sl,kV,dc,pm,an,cd,ct,a,i,l,cc,kk⟩:=h;rw[← hx]at l;have Fn:=as5 l cc kk;have U:=V.mono (show k<=k+2 by omega);have q:=kfn V M Fc d ok Fn;rw[hp]at q;refine⟨U.t,U.m,λx kd' F' n' e=>?_,U.d,U.f,U.o⟩;exact aD5 (p:=λx (t:Bool×DF×Nat)=>∃j f fd ps,j+1<=k+2/\FnOk P w K mg base CX0 j f fd ps (spD K C (t.2.2+1) t.2.1)/\Mk K (C t.1) f/\M4 K fd ps []/\mg x=some (.ref (C t.1))) ⟨k+1,f,_,d.ps,ai _,q,⟨c.make,a,i,c.kp⟩,.all (ua (bd kV dc pm an cd ct)),M.ns _ _ c.ns⟩ (λy t e=>U.i y t.1 t.2.1 t.2.2 e) x (kd',F',n') e
theorem ZOk.addD(V:ZOk P w K mg base C k tab O)(M:Md K mg cs bl)(Fc:∀kd,FoC K (C kd) (O.fn kd))(d:Fd)(h:KF K d.x d.st)(F:DF)(j:Nat)(e:rdK tab cs bl O d=F:=by kernel_rfl)(ok:d.okB=true:=by kernel_rfl)(bd:Bd d:=by repeat (first|exact rfl|intro _)):ZOk P w K mg base C (k+1) tab { O with df:=(d.x,F,d.ps.length,j)::O.df }:=by
 subst e;obtain⟨f,kV,dc,pm,an,cd,ct,Fn,hm⟩:=ar6 h M;have U:=V.mono (ce k);exact⟨U.t,U.m,U.i,U.d.cons ⟨f,_,d.ps,kfn V M Fc d ok Fn,hm,Fn.kp,.all (ua (bd kV dc pm an cd ct))⟩,U.f,U.o⟩
theorem bt9{F:FnD}{fa:dX}{x:Str}(M:Md K mg cs bl)(Fc:∀kd,FoC K (C kd) (O.fn kd))(V:∀base:Heap,ZOk P w K mg base C k tab O)(d:Fd)(h:KF K d.x d.st)(e:rdJ tab cs bl O d=F)(hm:mg d.x=some (.ref fa))(hp:d.ps=[x]:=by rfl)(ok:d.okB=true:=by kernel_rfl)(bd:Bd d:=by repeat (first|exact rfl|intro _)):
  ∃fd:dt,(∀(s:dW) (u:dU),BindsTo s fd ⟨[u],[]⟩ [(x,u)])/\∀base:Heap,FnOk P w K mg base CX0 (k+1) fa fd [x] (spF K 1 F):=by
 subst e;obtain⟨f,kV,dc,pm,an,cd,ct,Fn,hm'⟩:=ar6 h M;cases hm.symm.trans hm';have Sc:=Fd.sc ok;refine⟨bj d.x d.x (T8 d.st) (C4 d.st) (A9 d.st) .none kV dc pm an cd ct,λs u=>.of_eq ?_,λbase=>?_⟩
 ·have:=ua (bd kV dc pm an cd ct) [u] (by rw[hp];rfl);rw[hp]at this;exact this
 ·have:=by6 (N:=d.N) (ps:=d.ps) (C:=C) (g:=oB (kSt ⟨tab,cs,bl⟩ O d.c 9) (C4 d.st)) Fn Sc λcdv A outer s H E hr=>ax8 (as0 (by8 M (V base) Fc ok hr) 9) _
  rw[hp]at this;exact this
theorem ZOk.start{fd:List (Str×Bool×Nat)}{ob:List Str}(t:TOk P w K mg base k tab):ZOk P w K mg base C k tab ⟨[],[],[],fd,ob,[],[]⟩ :=
 ⟨t,MOk.nil.mono (aW _),(λx kd F n e=>nomatch e),(λx F n j e=>nomatch e),(λx F n e=>nomatch e),λm kd F e=>nomatch e⟩
end
end G
namespace G
open PySem PySem.Spec PyProof.Rows L2
abbrev veB:List dU:=[.type "ValueError", .type "Exception", .type "BaseException", .type "object"]
def aO3(K:ag)(x:Str):Bool:=match clA K x with
 | some C=>cn K C veB "ValueError.__new__"
 | none=>false
theorem noX{α:Type}{t:Sem α}{Q Q':α->dW->Prop}{M:Model}{A:dr}{E E':dU->dW->Prop}{s:dW}(hx:∀e s,E e s->False)(h:dD M A t Q E s)(hQ:∀a s,Q a s->Q' a s):dD M A t Q' E' s:=cZ h hQ λe s z=>(hx e s z).elim
section
variable {M:Model}{A:Around}{E:Value->Shared->Prop}{h:Heap}{g:Array GenState}{d:Drawn}{t:Nat}{os:OsState}
variable {nm qn nm2 qn2:Str}{C N D N2:Addr}{bs bm bs2 bm2:List Value}{hd hd2:Bool}{sn sn2:List Str}{sub sub2:List Value}{ab ab2:Bool}{col col2:Option Bool}{dd dd2:Option Addr}{k0 k1 k2 k3 k5 j0 j1 j2 j3 j5:Option Value}{nid nid2:String}
theorem cG7(hC:h.get? C=some (excClassObj nm qn C N bs bm hd sn sub ab col dd k0 k1 k2 k3 k5 nid))(hD:h.get? D=some (excClassObj nm2 qn2 D N2 bs2 bm2 hd2 sn2 sub2 ab2 col2 dd2 j0 j1 j2 j3 j5 nid2))
  (he:h.get? e=some oe) (hcls:oe.cls=.ref C) (hb:bm2.contains (.type "BaseException")=true) (hq:Q ((dO C::bm).contains (.ref D)) ⟨h,g,d,t,os⟩):dD M A (excMatches (.ref e) (.ref D)) Q E ⟨h,g,d,t,os⟩:=by
 have cB:(dO D::bm2).contains (.type "BaseException")=true:=by rw[cH,hb,Bool.or_true]
 have f:=tc_notTuple;generalize hb:(dO C::bm).contains (.ref D)=b at hq;unfold excMatches
 repeat (first|(with_reducible refine wpAny_loadPart_at he ?_;rw[hcls])|with_reducible refine wpAny_loadPart_at hD ?_|(with_reducible refine wpAny_isSubtype_exc hD ?_;rw[cB])|(with_reducible refine wpAny_isSubtype_exc hC ?_;rw[hb])|wp_step)
 cases b<;>(wp_walk;exact hq)
end
abbrev Cx.held(X:Cx)(e:dU):Cx:={ X with A:=X.A.mark (some e),calm:=false }
theorem Inv.held{X:Cx}(I:Inv X pins σ H s)(e:dU):Inv (Cx.held X e) pins σ H s :=
 ⟨⟨I.ok.mod,I.ok.kind,I.ok.glob,I.ok.blt,I.ok.above,I.ok.inj,I.ok.has,I.ok.cab,(λz=>by cases z),I.ok.frames,I.ok.stk,I.ok.exf,I.ok.bs,I.ok.bsz,I.ok.noex,I.ok.exfs,I.ok.funs,I.ok.frf⟩,I.os,I.bare,I.base,I.loc,I.cell,I.free,I.freeC,I.pin,I.hok,I.len⟩
theorem Inv.unheld{X:Cx}(I:Inv (Cx.held X e) pins σ H s)(ok:X.Ok):Inv X pins σ H s:=⟨ok,I.os,I.bare,I.base,I.loc,I.cell,I.free,I.freeC,I.pin,I.hok,I.len⟩
theorem bB1{K:ag}{mg:Str->Option dU}{x:Str}{C:dX}{cs:List (Str×D)}{bl:List Str}(M:Md K mg cs bl)(h:clA K x=some C):mg x=some (.ref C):=by
 unfold clA at h;split at h
 ·rename_i a e;cases h;exact M.ns _ _ e
 ·cases h
abbrev MR:=Fo->Option Fo
def EN(K:ag)(C:CT)(b:Bs)(q:Os)(D:dX):XK:=λcls _ H'=>cls=.ref D/\∃ρ σ H1 Hf1,OSt K C b ρ q σ H1 Hf1/\B0 H1 H'
def cb1(K:ag)(C:CT)(D:dX)(R:MR):Sp:=λvs H _ E=>∃a Hf c o o',vs=[.ref a]/\B0 Hf H/\FoAt K C H Hf a c o/\R o=some o' /\
 ∀H' Hf' c',Chg (cells a c) H Hf H' Hf'->FoAt K C H' Hf' a c' o'->(∀y∈cells a c',y∈cells a c\/H y=none)->∀H'',B0 H' H''->E (.ref D) none H''
def cC0(X:Cx)(C:CT)(kd:Bool)(m:Str)(D:dX)(R:MR):Prop:=∃k f fd ps,FnOk X.prog X.w X.K X.mg X.base (CX1 X.prog X.w) k f fd ps (cb1 X.K C D R)/\Room k X.A/\Meth X.K (C kd) m f/\M4 X.K fd ps []
section
variable {X:Cx}{C:CT}{b:Bs}{ρ ρ' ρa:Rho}{q q1 q':Os}{st:Stmt}{sts:List Stmt}{o o':Fo}(hx:∀e s,X.xe e s->False)
include hx
theorem aQ5{x:Str}{e e2:Expr}{np cpos pos p2:Pos}{D:dX}(t:OT X C b ρ q e true q1)(hD:clA X.K x=some D)(hq:aO3 X.K x=true)(hg:Gl X x)(hm:X.mg x=some (.ref D))(hc:X.calm=true)(he:JE X e2 (dC d))(hd:(x==("__debug__" : Str))=false)
  (hs:di [e2] X.env=[(false,eval e2 X.env)]) (I:Inv X pins σ H s) (st:OSt X.K C b ρ q σ H Hf) :
  dD (dE X.prog X.w) X.A (execs (.If e (.Raise (some (.Call (.Name x np) [e2] [] cpos)) none pos::r1) r2 p2::sts) X.env) (λ_ _=>False)
   (λe s'=>∃σ1 H1 s1 ρ1 Hf1 h' a vs,Inv X pins σ1 H1 s1/\OSt X.K C b ρ1 q1 σ1 H1 Hf1/\s'={ s1 with heap:=h' }/\e=.ref a/\Heap.MadeExcOf s1.heap h' a (.ref D) vs) s:=by
 refine wpAny_execs_cons (wpAny_If (noX hx (t pins s σ H (λd' H'=>d'=true/\∃Hf',OSt X.K C b ρ q1 σ H' Hf') I ⟨Hf,st,λH' Hf' st' _=>⟨rfl,Hf',st'⟩⟩) λd' s1 ⟨H1,I1,e,Hf1,st1⟩=>?_));subst e;refine wpAny_execs_cons ?_;have hq:cn X.K D veB "ValueError.__new__" = true:=by unfold aO3 at hq;rw[hD]at hq;exact hq
 obtain⟨nm,qn,N,bs,bm,hd',sn,sub,ab,col,dd,k0,k1,k2,k3,k5,mN,g1,g2,g3,g4⟩:=bz0 I1.mod.kin hq;refine wpAny_Raise_call_subT (C:=D) (bm:=bm) (nm:=nm) (q:=qn) (N:=N) (bs:=bs) (hdct:=hd') (sn:=sn) (sub:=sub) (ab:=ab) (col:=col) (dd:=dd) (k0:=k0) (k1:=k1) (k2:=k2) (k3:=k3) (k5:=k5) F.excBase_ValueError (g4.hasType (by decide)) (I1.ok.hd hc) (by rw[hs];rfl) g3 ?_;refine p6 I1 hg hm ⟨rfl,?_⟩ hd;have hA:=(aZ0 he bx3 (by rw[hs];rfl)).run ρ [d] rfl cpos pins s1 σ H1 (λvs H'=>(∃Hf',OSt X.K C b ρ q1 σ H' Hf')/\vs.length=1) I1 ⟨_,Hf1,st1.same,st1.sl,λvs H' Hf' gr rs=>⟨⟨Hf',st1.grow gr⟩,rs.length⟩⟩;rw[hs]at hA ⊢;refine Calls.evalArgs_plain (noX hx hA λus s2 ⟨vs,H2,I2,r2,⟨Hf2,a2⟩,l1⟩=>?_);have ln:us.length=1:=by rw[← r2.length];exact l1
 exact⟨rfl,by show us.length<=_;rw[ln];decide,I2.bk _ _ g1,g2.keeps I2.bk,g4.keeps I2.bk,λh' a hm'=>⟨σ,H2,s2,ρ,Hf2,h',a,us,I2,a2,rfl,rfl,hm'⟩⟩
theorem bp9{x mt:Str}{p apos pos:Pos}{R:MR}{D:dX}(M:cC0 X C kd mt D R)(c:FoC X.K (C kd) fn)(A:At1 X ρ q x i j a o)(hk:o.k=kd)(nf:o.l.lookup mt=none)(r:R o=some o')(hl:(apos.endLine==pos.line)=true)(I:Inv X pins σ H s)(st:OSt X.K C b ρ q σ H Hf):
  dD (dE X.prog X.w) X.A (eval (.Call (.Attribute (.Name x p) mt apos) [] [] pos) X.env) (λ_ _=>False) (λe s'=>∃σ1 H1 s1,Inv X pins σ1 H1 s1/\CX1 X.prog X.w X.stack H1 s1 (EN X.K C b (q.set j (a,o')) D) e s') s:=by
 obtain⟨k,fa,fd,ps,Fk,hr,hm,hb⟩:=M;obtain⟨c0,f1,f3⟩:=st.focus A.w A.o;refine PySem.W.methodCall_KW (noX hx (U8 A.n A.v A.d1 A.d2 pins s σ H (λv H'=>v=.ref a/\H'=H) I ⟨_,X9 st A.s,rfl,rfl⟩) λu s1 ⟨xv,H1,I1,rx,e1,e2⟩=>?_) (ao1 hl rfl);subst e1 e2;obtain rfl:u=dO a:=rx;refine p7 I1 (by rw[← hk];exact f1.ins) c.cl hm (aD2 f1 nf) ?_;refine PySem.W.callWith_K0 (first:=[.ref a]) I1.kIn hm.kp ?_;have sp:cb1 X.K C D R [.ref a] H1 (λ_ _=>False) (EN X.K C b (q.set j (a,o')) D):=⟨a,Hf,c0,o,o',rfl,st.same,f1,r,λH' Hf' c' g3 f4 n3 H'' sm=>⟨rfl,ρ,σ,H',Hf',f3 g3 f4 n3,sm⟩⟩;have rv:C2 [V.ref a] [dO a]:=.cons rfl .nil;have hl2:[dO a].length=ps.length:=by rw[← rv.length];exact Fk.len _ H1 _ _ sp
 have bd:BindsTo s1 fd ⟨[.ref a],[]⟩ (ps.zip [.ref a]):=by
  have:=hb s1 [.ref a] I1.kIn (by rw[ar];exact hl2)
  rwa [ar]at this
 refine wpAny_call (codeAny_mono (Fk.run X.A X.stack s1 H1 ⟨[.ref a],[]⟩ [.ref a] [.ref a] _ _ hr I1.env0 bd rv sp) λrs s' hq=>?_);cases rs with
 | error e=>exact⟨σ,H1,s1,I1,hq⟩
 | ok fl =>
  cases fl with
  | ret u=>obtain⟨_,_,_,_,_,_,_,z⟩:=hq;exact z.elim
  | next=>exact False.elim hq
  | brk=>exact False.elim hq
  | cont=>exact False.elim hq
def aH9(i:Nat)(kd:Bool)(m:Str)(R:MR)(d:D):UX:=λρ q=>(S5 i ρ q).bind λp=>if p.2.k=kd/\(p.2.l.lookup m).isNone=true then(R p.2).map λo'=>.rt d (q.set p.1 o') else none
theorem bD9{y:Str}{D:dX}{R:MR}(hst:X.stack=X.env::X.outer)(hfr:X.env.frame=some X.env.locals)(M:cC0 X C kd m D R)(c:FoC X.K (C kd) fn)(hn:X.N[i]? = some x)(hv:Vis X.env.scope x)(h1:(x==("__debug__" : Str))=false)(h2:(x==("__classdict__" : Str))=false)(hl:(apos.endLine==cpos.line)=true)
  (hD:clA X.K y=some D) (hq:aO3 X.K y=true) (hg:Gl X y) (hm:X.mg y=some (.ref D)) (hd:(y==("__debug__" : Str))=false) (hh:∀a:dX,JE (Cx.held X (.ref a)) e (dC d)) :
  US X C (.Try (.Expr (.Call (.Attribute (.Name x p) m apos) [] [] cpos) epos::r0) [.ExceptHandler (some (.Name y np)) none (.Return (some e) rpos::r2) hpos] [] [] pos) (aH9 i kd m R d):=λρ q fl w no=>by
 obtain⟨⟨j,o⟩,e1,w⟩:=ae.mp w;split at w
 case isFalse=>cases w
 rename_i nf;obtain⟨o',e3,e4⟩:=af.mp w;cases e4;refine⟨rfl,λbb as l pins s σ H En I hw=>?_⟩;obtain⟨Hf,st0,ends⟩:=hw;obtain⟨a0,ea,A⟩:=N6 e1 (T5 no) l hn hv h1 h2;have qC:cn X.K D veB "ValueError.__new__" = true:=by unfold aO3 at hq;rw[hD]at hq;exact hq
 obtain⟨nm,qn,N,bs,bm,hd',sn,sub,ab,col,dd,k0,k1,k2,k3,k5,mN,c1,c2,c3,c4⟩:=bz0 I.mod.kin qC;have hin:(dO D::bm).contains (.ref D)=true:=by rw[cH];simp
 refine wpAny_Try_except (cZ (Q:=λ_ _=>False) (wpAny_execs_cons (thn (wpAny_Expr_any (thn (bp9 hx M c A nf.1 (by simpa using nf.2) e3 hl I st0) λ_ _ z=>z.elim) I.quiet rfl) λ_ _ z=>z)) (λ_ _ z=>z.elim) λex s1 ho=>?_);obtain⟨σ1,H1,s0,I1,hc⟩:=ho;obtain⟨a,C',g,B,H',rfl,os,bare,un,hok,F,cE,ρ2,σ2,H2,Hf2,st2,sm⟩:=hc;cases cE;obtain⟨t,fl0⟩:=F.fly;have nx:∀b:dX,b∉([]:List dX):=λb z=>absurd z (by simp)
 have J:Inv X pins σ1 H' { s1 with heap:=g }:=I1.call' (s':={ s1 with heap:=g }) (ch:=[]) os un hok bare (λb z=>absurd z (nx b))
 have key:∀h'':Heap,B.StaysIn h''->s1.heap.UpToSlots h''->Inv X pins σ1 H' { s1 with heap:=h'' }:=λh'' k1 k2=>by
  refine bP2 (s':={ s1 with heap:=h'' }) I1 os bare un hok F.keep k1 λb o e m=>?_
  obtain⟨z,e2⟩:=F.sl b o e m;obtain⟨_,o',e',hd⟩:=J.stack.mem m;have e':g.get? b=some o':=e';rw[e]at e';cases e';obtain⟨z2,q⟩:=k2 b _ e2 hd;exact⟨z2,q⟩
 rw[hst]at fl0;refine wpAny_looks_onW (outer:=X.outer) (by rw[← hst];exact I.ok.frames) hfr fl0 λh4 held4 up4=>?_
 refine wpAny_landsW held4 λh5 fl5 up5=>?_
 have I5:=key h5 fl5.1 (up4.trans up5);obtain⟨ob,hob,hobc⟩:=fl5.there;have gr:Grow H2 Hf2 H' Hf2:=⟨sm,λb u e=>sm b u (st2.same b u e),B0.refl _,λb z=>.inl z⟩;have st7:=st2.grow gr;refine wpAny_handleBy_cons (codeAny_handlers_test (p6 (Inv.held I5 (.ref a)) hg hm ?_ hd)) (by intro q;cases q);refine cG7 (I5.bk _ _ c1) (I5.bk _ _ c1) hob hobc (c4.hasType (by decide)) ?_;rw[hin];refine codeAny_handlers_suite (lands_againW fl5 λh6 fl6 up6=>?_);have I6:=key h6 fl6.1 ((up4.trans up5).trans up6);have I8:=Inv.held I6 (.ref a)
 have sl0:Slots X.K H' (aq σ1.length none) σ1 H' Hf2:=by
  have no:∀(i:Nat) (b:G.B),(aq σ1.length (none:Option G.B))[i]?≠some (some b):=λi b h=>by
   rw[be]at h;split at h<;>cases h
  exact⟨bK,λi b h=>(no i b h).elim,λi j d1 d2 a h=>(no i _ h).elim⟩
 refine wpAny_execs_cons (wpAny_Return_some (noX hx (hh a _ d rfl pins _ σ1 H' (λv Hz=>∃Hf',Grow H' Hf2 Hz Hf'/\Rep X.K Hf' d v) I8 ⟨_,Hf2,st7.same,sl0,λv H' Hf' g r=>⟨Hf',g,r⟩⟩) λu s9 ⟨v,H9,I9,rv,Hf9,g9,rp⟩=>?_));have I9:=Inv.unheld I9 I.ok;refine⟨v,_,H9,I9,rv,ends [] _ σ2 v H9 Hf9 (by simpa using l) (by rw[ar];show OSt _ _ _ _ (as.zip (cI q j o')) _ _ _;rw[O0 ea];exact st7.grow g9) rp⟩
end
end G
namespace G
open PySem PySem.Spec PyProof.Rows L2
section
variable {P:Program}{w:World}{K:PySem.W.Frag}{mg:Str->Option Value}{base:Heap}{cs:List (Str×D)}{bl:List Str}{C:CT}{tab:Tab}{O:Og5}
def bx8:List Stmt->Option (Expr×Str)
 | .If e (.Raise (some (.Call (.Name x _) [.Constant (.str _) _ _] [] _)) none _::_) _ _::_=>some (e,x)
 | _=>none
def bl0:List Stmt->Option (Str×Str×Bool×Str×Bool)
 | [.Try (.Expr (.Call (.Attribute (.Name x _) m apos) [] [] cpos) _::_) [.ExceptHandler (some (.Name y _)) none (.Return (some (.Constant (.bool b) _ _)) _::_) _] [] [] _]=>some (x,m,apos.endLine==cpos.line,y,b)
 | _=>none
def rsO(t:UB)(n:Nat):MR:=λo=>match t (O1 n [none]) [o] with
 | some (true,[o'])=>some o'
 | _=>none
theorem bc5(n:Nat)(a:dX):sub [a] (O1 (n+1) [none])=aq0 n a []:=by
 unfold sub O1 aq0 P6;simp[cn9,ca5]
theorem bn5{f:dX}{fd:dt}{qual:Str}{D0:dX}(V:ZOk P w K mg base C k tab O)(M:Md K mg cs bl)(Fc:∀kd,FoC K (C kd) (O.fn kd))(d:Fd)(ok:d.okB=true)(hN:d.N.length=n+1)(hp:d.ps.length=1)(Fn:Fun K d.x qual d.st f fd){e:Expr}{x:Str}(hb:bx8 (C4 d.st)=some (e,x))(hD:clA K x=some D0)(hq:aO3 K x=true)(hg:am6 d.c.sc x=true):
  FnOk P w K mg base (CX1 P w) (k+1) f fd d.ps (cb1 K C D0 (rsO (kT ⟨tab,cs,bl⟩ O d.c e) (n+1))):=by
 have Sc:=Fd.sc ok;obtain⟨oc,od,kV,doc,pm,an,cdv,ct,osl,rfl,lk,hcd⟩:=Fn.ex;refine L2.as6 lk hcd Sc (λvs H Q E h=>?_) λA outer s H vs Q E hr hsp=>?_
 ·obtain⟨a,Hf,c,o,o',rfl,_⟩:=h;simp[hp]
 obtain⟨a,Hf,c,o,o',rfl,ss,fo,e1,hE⟩:=hsp
 have X0:FitZ ⟨tab,cs,bl⟩ O C d.c (cx1 P w K mg base d.N qual (A9 d.st) f cdv A outer s H E).nox:=by
  have fit:Fit ⟨tab,cs,bl⟩ d.c (cx1 P w K mg base d.N qual (A9 d.st) f cdv A outer s H E).nox:=by
   refine⟨rfl,rfl,Sc.nd,rfl,rfl,hr.units,λ_=>⟨λ_=>rfl,Sc.kind⟩,λx F n h=>?_,M.css,M.bls⟩;exact(V.t x F n h).imp (λ⟨f',fd',ps,h1,h2,h3,h4⟩=>⟨k,f',fd',ps,h1,hr,h2,h3,h4⟩) id
  refine⟨⟨fit,Fc,λm kd F n h=>?_⟩,λx kd F n h=>?_,λx F n j h=>?_,λx F n h=>?_,λm kd F h=>?_⟩
  ·obtain⟨f',fd',ps,h1,h2,h3⟩:=V.m m kd F n h;exact⟨k,f',fd',ps,h1,hr,h2,h3⟩
  ·obtain⟨j,f',fd',ps,h1,h2,h3,h4,h5⟩:=V.i x kd F n h;exact⟨j,f',fd',ps,h2,hr.mono h1,h3,h4,h5⟩
  ·obtain⟨f',fd',ps,h1,h2,h3,h4⟩:=V.d x F n j h;exact⟨k,f',fd',ps,h1,hr,h2,h3,h4⟩
  ·obtain⟨f',fd',ps,h1,h2,h3,h4⟩:=V.f x F n h;exact⟨k,f',fd',ps,h1,hr,h2,h3,h4⟩
  ·obtain⟨f',fd',ps,h1,h2,h3⟩:=V.o m kd F h;exact⟨k,f',fd',ps,h1,hr,h2,h3⟩
 have st0:OSt K C ⟨cells a c,H,Hf⟩ (aq0 n a []) [(a,o)] (L2.start d.N [.ref a]) H Hf:=by
  refine⟨Chg.of (Grow.refl ss),cells a c++[],.cons fo (by simp) .nil,λx hx=>.inl (by simpa using hx),?_⟩
  match hd:d.N,hN with
  | s0::N,hN =>
   have:N.length=n:=by simpa using hN
   subst this;exact aB6 rfl
 obtain⟨q1,e2',e3⟩:∃q1,kT ⟨tab,cs,bl⟩ O d.c e (O1 (n+1) [none]) [o]=some (true,q1)/\q1=[o']:=by
  unfold rsO at e1;split at e1
  ·rename_i u e0;cases e1;exact⟨_,e0,rfl⟩
  ·cases e1
 subst e3;obtain⟨_,t0⟩:=bT8 X0 e _ _ _ _ e2' (ae1 _ _);have t1:=t0 ⟨cells a c,H,Hf⟩ [a] rfl;rw[bc5]at t1;obtain⟨g1,g2⟩:=Y2 X0.o.fit hg;refine⟨λ_ σ H'=>σ=L2.start d.N [.ref a]/\H'=H,λpins s1 σ H1 D' I z=>?_,rfl,rfl⟩;obtain⟨rfl,rfl⟩:=z;unfold bx8 at hb;split at hb
 case h_2=>cases hb
 rename_i eb;cases hb;rw[eb];refine cZ (aQ5 (X:=(cx1 P w K mg base d.N qual (A9 d.st) f cdv A outer s H1 E).nox) (λe s z=>z) t1 hD hq g1 (bB1 M hD) rfl bw7 g2 rfl (I.wish _) st0) (λ_ _ z=>z.elim) λex s' ho=>?_
 obtain⟨σ1,H2,s2,ρ1,Hf1,h',a',vs,I2,st1,rfl,rfl,hm⟩:=ho;have I2:=I2.unwish;refine bt2 I2 hm ?_;obtain⟨R,ob,hR,_⟩:=st1.ob;cases ob with
 | @cons _ c' _ _ R0 fo' _ _=>exact hE H2 Hf1 c' st1.gr fo' (λx hx=>hR x (aI _ hx)) H2 (B0.refl _)
def okT(dm d:Fd):Bool:=match bx8 (C4 dm.st),bl0 (C4 d.st) with
 | some (_,x),some (n,m,l,y,_)=>d.N[0]? == some n&&m==dm.x&&l&&y==x&&am6 dm.c.sc x&&am6 d.c.sc x&&af2 d.c.sc n
 | _,_=>false
def rsF(tab:Tab)(cs:List (Str×D))(bl:List Str)(O:Og5)(dm:Fd):MR:=match bx8 (C4 dm.st) with
 | some (e,_)=>rsO (kT ⟨tab,cs,bl⟩ O dm.c e) dm.N.length
 | none=>λ_=>none
def rdT(tab:Tab)(cs:List (Str×D))(bl:List Str)(O:Og5)(kd:Bool)(dm d:Fd):DF:=match bl0 (C4 d.st) with
 | some (_,_,_,_,b)=>N7 (aH9 0 kd dm.x (rsF tab cs bl O dm) (.bool b)) d.N.length
 | none=>λ_ _=>none
theorem ZOk.addT{cl:Str}(V:ZOk P w K mg base C k tab O)(M:Md K mg cs bl)(Fc:∀kd,FoC K (C kd) (O.fn kd))(kd:Bool)(dm:Fd)(hm:KM K (C kd) dm.x qual dm.st)(d:Fd)(h:KF K d.x d.st)(hq:aO3 K cl=true)(F:DF)(hc:(bx8 (C4 dm.st)).map (·.2)=some cl:=by rfl)(t:okT dm d=true:=by kernel_rfl)(e:rdT tab cs bl O kd dm d=F:=by kernel_rfl)(hN:∃n,dm.N.length=n+1:=by exact⟨_,rfl⟩)(hp:dm.ps.length=1:=by rfl)(okm:dm.okB=true:=by kernel_rfl)(bm:BdM dm qual:=by repeat (first|exact rfl|intro _))(ok:d.okB=true:=by kernel_rfl)(bd:Bd d:=by repeat (first|exact rfl|intro _)):
  ZOk P w K mg base C (k+2) tab { O with df:=(d.x,F,d.ps.length,0)::O.df }:=by
 obtain⟨n,hN⟩:=hN;unfold okT at t;split at t
 case h_2=>cases t
 rename_i e0 x n0 m l y b h1 h2;simp only[ah,beq_iff_eq]at t;obtain⟨⟨⟨⟨⟨⟨t1,t2⟩,t3⟩,t4⟩,t5⟩,t6⟩,t7⟩:=t;subst t2 t4;rw[h1]at hc;cases hc
 obtain⟨D0,hD⟩:∃D0,clA K y=some D0:=by
  unfold aO3 at hq;cases e:clA K y with
  | none=>rw[e]at hq;cases hq
  | some C=>exact⟨C,rfl⟩
 obtain⟨f,oc,od,sl,kV,dc,pm,an,cd,ct,a,i,lk,cc,kk⟩:=hm;have Fn:=as5 lk cc kk;have q:=bn5 V M Fc dm okm hN hp Fn h1 hD hq t5;have er:rsF tab cs bl O dm=rsO (kT ⟨tab,cs,bl⟩ O dm.c e0) (n+1):=by unfold rsF;rw[h1,hN]
 rw[← er]at q;obtain⟨f2,kV2,dc2,pm2,an2,cd2,ct2,Fn2,hm2⟩:=ar6 h M;have U:=V.mono (show k<=k+2 by omega);have eF:F=N7 (aH9 0 kd dm.x (rsF tab cs bl O dm) (.bool b)) d.N.length:=by rw[← e];unfold rdT;rw[h2]
 rw[eF];refine⟨U.t,U.m,U.i,U.d.cons ⟨f2,_,d.ps,aL9 (k:=k+1) (N:=d.N) Fn2 (Fd.sc ok) λcdv A outer s H E hr=>?_,hm2,Fn2.kp,.all (ua (bd kV2 dc2 pm2 an2 cd2 ct2))⟩,U.f,U.o⟩;have Ft:=by8 (f:=f2) (cdv:=cdv) (A:=A) (outer:=outer) (s:=s) (H:=H) (E:=E) (qual:=d.x) M (V.mono (ce k)) Fc ok hr;obtain⟨v1,v2,v3⟩:=S1 Ft.o.fit t7;obtain⟨g1,g2⟩:=Y2 Ft.o.fit t6
 have sh:∃p apos cpos epos r0 np u1 p1 rpos r2 hpos pos,(apos.endLine==cpos.line)=true/\C4 d.st=[.Try (.Expr (.Call (.Attribute (.Name n0 p) dm.x apos) [] [] cpos) epos::r0) [.ExceptHandler (some (.Name y np)) none (.Return (some (.Constant (.bool b) u1 p1)) rpos::r2) hpos] [] [] pos]:=by
  unfold bl0 at h2;split at h2
  ·rename_i eb;cases h2;exact⟨_,_,_,_,_,_,_,_,_,_,_,_,t3,eb⟩
  ·cases h2
 obtain⟨p,apos,cpos,epos,r0,np,u1,p1,rpos,r2,hpos,pos,hl,eb⟩:=sh;rw[eb];refine aU9 (bD9 (D:=D0) (λe s z=>z) rfl rfl ⟨k+1,f,_,dm.ps,q,hr,⟨a,i,kk⟩,.all (ua (bm kV dc pm an cd ct))⟩ (Fc kd) t1 v1 v2 v3 hl hD hq g1 (bB1 M hD) g2 λa=>bU3)
end
end G
namespace Lk93
open PySem PySem.Spec PyProof.Rows L2 G Sh
def top(i:Nat):Stmt:=PySem.Challenge.pw_glazework_k93_whole_folio_texts.main.body.getD i (.Pass ⟨0,0,0,0⟩)
def cp2:DS:=(Z3 (W8 (dC (.bool true))) W9)
def cp3:List D->Option D:=M5 cp2 1
def d8:DS:=(C5 (ad2 (A5 eqD (dIx (B1 0) ⇑0) (dIx (B1 1) ⇑0)) (A5 eqD (dIx (B1 0) ⇑1) (dIx (B1 1) ⇑1))))
def N8:List D->Option D:=M5 d8 2
def j8:DS:=(F7 (P1 1 (A5 bo2 ⇑10 ⇑60)) (F7 (bc9 2 A2) (F7 (Z3 (tB2 geI (A1 0) (A1 1)) (F7 (aB8 2 (dZf (aF6 (A5 U9 (A1 0) (A1 1))) ⇑60)) (P1 0 (A5 aa2 (A1 0) (A1 1))))) (F7 (aB8 2 (aF6 (A1 0))) (C5 (aF7 (dC (.str "")) (B1 2)))))))
def K4:List D->Option D:=M5 j8 3
def X3:DS:=(F7 (sIf (tB2 eqD (dIx (B1 0) ⇑1) ⇑1) (C5 (A3 K4 (A0 (dIx (B1 0) ⇑0) A2))) W9) (C5 (A5 L7 (A5 L7 (A3 K4 (A0 (dIx (B1 0) ⇑0) A2)) (dC (.str "/"))) (A3 K4 (A0 (dIx (B1 0) ⇑1) A2)))))
def X4:List D->Option D:=M5 X3 1
def ab4:DS:=(C5 (at2 (dC (.str ":")) (qN (G4 1 [] (h9 (A1 0)) (K5 0) K9 (A3 X4 (A0 (A1 0) A2))))))
def U0:List D->Option D:=M5 ab4 1
def ab5:DS:=(C5 (A5 L7 (A5 L7 (A3 K4 (A0 (dIx (B1 0) ⇑0) A2)) (dC (.str "x"))) (A3 K4 (A0 (dIx (B1 0) ⇑1) A2))))
def U1:List D->Option D:=M5 ab5 1
def j9:DS:=(C5 (A5 L7 (r6 (A0 (A3 U1 (A0 (A1 0) A2)) A2)) (r6 (G4 1 [] (h9 (dIx (B1 0) ⇑2)) (K5 0) K9 (A3 U0 (A0 (A1 0) A2))))))
def O3:List D->Option D:=M5 j9 1
def ad6:DS:=(F7 (sIf (ai3 (Q6 (aP2 (i3 leI leI ⇑1 (ay9 (A1 0)) ⇑400))) (Q6 (W8 (aM6 (qN (G4 1 [] (bf7 (A1 0)) (K5 0) K9 (A5 (inS false) (A1 0) (dC (.str "0123456789"))))))))) K7 W9) (C5 (aZ9 (A1 0))))
def P5:List D->Option D:=M5 ad6 1
def u9:DS:=(F7 (P1 1 (dTx txP (A1 0) (dC (.str "/")))) (F7 (P1 2 (ad1 (tB2 eqD (dIx (B1 1) ⇑1) (dC (.str "/"))) (A3 P5 (A0 (dIx (B1 1) ⇑2) A2)) ⇑1)) (C5 (p8 (A0 (A3 P5 (A0 (dIx (B1 1) ⇑0) A2)) (A0 (A1 2) A2))))))
def U2:List D->Option D:=M5 u9 3
def am0:DS:=(C5 (y9 (qN (G4 1 [] (h9 (dTx txS (A1 0) (dC (.str ":")))) (K5 0) K9 (A3 U2 (A0 (A1 0) A2))))))
def d9:List D->Option D:=M5 am0 1
def am1:DS:=(F7 (P1 1 (dTx txP (A1 0) (dC (.str "x")))) (C5 (p8 (A0 (A3 P5 (A0 (dIx (B1 1) ⇑0) A2)) (A0 (A3 P5 (A0 (dIx (B1 1) ⇑2) A2)) A2)))))
def ab9:List D->Option D:=M5 am1 2
def aA0:DS:=(C5 (A5 L7 (at2 (dC (.str " ")) (qE (A5 L7 (r6 (A0 (A1 0) A2)) (A3 O3 (A0 (A1 1) A2))))) (dC (.str "\n"))))
def V2:List D->Option D:=M5 aA0 2
def bb1:DS:=(C5 (A3 Q5 (A0 (A1 0) (A0 (A5 L7 (A1 1) ⇑2) (A0 (A5 L7 ⇑1 (A3 B2 (A0 (A1 0) (A0 (A1 1) (A0 ⇑3 A2))))) (A0 (A5 L7 ⇑1 (A3 B2 (A0 (A1 0) (A0 (A5 L7 (A1 1) ⇑1) (A0 ⇑3 A2))))) A2))))))
def ap4:List D->Option D:=M5 bb1 2
def aw3:UX:=(uIf (uTP (tB2 isB (A1 2) (dC .none))) (bC7 0 true "sheets" (vP (A1 1))) (bC6 0 true "sheets" (vP (A1 1)) (vP (A1 2))))
def W7:DF:=N7 aw3 3
def ad8:UX:=(E2 (bb8 0 true "steps_back" (bj0 (vlC (vP (A1 1)) (vlC (vP (A1 2)) (vlC (bb9 0 true "sheets" (vP (A1 2))) (vlC (vP (A1 3)) vlN)))))) (E2 (au5 0 true "steps_forth" bi6) (uEx (uM 0 true "set_sheet" W7 (A0 (A1 2) (A0 (A1 3) A2))))))
def W6:DF:=N7 ad8 4
def bb0:UX:=(E2 (Z2 3 (uL (vIn false 0 true "sheets" (vP (A1 1))))) (E2 (uEx (uM 0 true "take_step" W6 (A0 (dC (.str "lay")) (A0 (A1 1) (A0 (A1 2) A2))))) (T2 (uP (A1 3)))))
def aN6:DF:=N7 bb0 4
def az8:UX:=(E2 (uIf (uTB (uL (vIn true 0 true "sheets" (vP (A1 1))))) uXo m4) (T2 (uL (aU7 0 true "sheets" (vP (A1 1))))))
def F5:DF:=N7 az8 2
def ah8:UX:=(E2 (Z2 2 (uM 0 true "fetch" F5 (A0 (A1 1) A2))) (E2 (uEx (uM 0 true "take_step" W6 (A0 (dC (.str "take")) (A0 (A1 1) (A0 (dC .none) A2))))) (T2 (uP (A1 2)))))
def u8:DF:=N7 ah8 3
def az9:UX:=(E2 (Z2 4 (uM 0 true "fetch" F5 (A0 (A1 2) A2))) (E2 (Z2 5 (uM 0 true "fetch" F5 (A0 (A1 3) A2))) (E2 (uIf (uTP (Q6 (W8 (A3 N8 (A0 (A1 4) (A0 (A1 5) A2)))))) uXo m4) (E2 (Z2 6 (uP (A3 M2 (A0 (A1 1) (A0 (A1 4) (A0 (A1 5) A2)))))) (E2 (uEx (uM 0 true "take_step" W6 (A0 (dC (.str "blend")) (A0 (A1 3) (A0 (A1 6) A2))))) (T2 (uP (A1 6))))))))
def ap0:DF:=N7 az9 7
def bi2:UX:=(T2 (uL (bD6 0 true "sheets")))
def P9:DF:=N7 bi2 1
def aN8:UX:=(E2 (uIf (uTB (uB2 eqD (uL (ad9 0 true "steps_back")) (uP ⇑0))) uXo m4) (E2 (Z2 1 (aV2 0 true "steps_back")) (E2 (uEx (uM 0 true "set_sheet" W7 (A0 (dIx (B1 1) ⇑1) (A0 (dIx (B1 1) ⇑2) A2)))) (E2 (bb8 0 true "steps_forth" (vP (A1 1))) (T2 (uP (dIx (B1 1) ⇑0)))))))
def aU1:DF:=N7 aN8 2
def aU2:UX:=(T2 (bG1 (ulC (uL (ad9 0 true "steps_back")) (ulC (uL (ad9 0 true "steps_forth")) ulN))))
def at7:DF:=N7 aU2 1
def at8:UX:=(E2 (au5 0 true "sheets" bi7) (E2 (au5 0 true "steps_back" bi6) (au5 0 true "steps_forth" bi6)))
def ah6:DF:=N7 at8 1
def aw4:UX:=(T2 (uB2 eqD (ap9 0 false "words_taken") (aw8 (ap9 0 false "words"))))
def ab3:DF:=N7 aw4 1
def ab7:UX:=(E2 (uIf (uTB (uM0 0 false "is_at_end" ab3)) uXo m4) (T2 (bk5 (ap9 0 false "words") (ap9 0 false "words_taken"))))
def u7:DF:=N7 ab7 1
def ad7:UX:=(E2 (Z2 1 (uM0 0 false "word_ahead" u7)) (E2 (ak8 0 false "words_taken" (uB2 L7 (ap9 0 false "words_taken") (uP ⇑1))) (T2 (uP (A1 1)))))
def Q2:DF:=N7 ad7 2
def ab8:UX:=(E2 (ak8 0 false "words" (uP (dTx txS (A1 1) (dC (.str " "))))) (ak8 0 false "words_taken" (uP ⇑0)))
def ac3:DF:=N7 ab8 2
def bC1:UX:=(E2 (aB2 1 (am3 true ah6 A2)) (E2 (au5 1 true "sheets" (wDC 0 true "sheets")) (E2 (au5 1 true "steps_back" (wLC 0 true "steps_back")) (E2 (au5 1 true "steps_forth" (wLC 0 true "steps_forth")) (uRo 1)))))
def aU0:DO:=bn2 bC1 2
def ah7:UX:=(E2 (Z2 1 (U6 ab9 (ulC (uM0 0 false "take_word" Q2) ulN))) (E2 (bG2 2 0 (X8 (A5 R6 (dIx (B1 1) ⇑0) (dIx (B1 1) ⇑1))) (U6 d9 (ulC (uM0 1 false "take_word" Q2) ulN))) (T2 (uP (A5 L7 (A1 1) (p8 (A0 (y9 (B1 2)) A2)))))))
def u3:DF:=N7 ah7 3
def aH1:UX:=(T2 (uJn (dC (.str "")) (uCp 0 (uM0 0 true "names" P9) (U6 V2 (ulC (uP (A1 0)) (ulC (uM 1 true "fetch" F5 (A0 (A1 0) A2)) ulN))))))
def B5:DF:=N7 aH1 1
def ab6:UX:=(E2 (aB2 2 (am3 false ac3 (A0 (A1 1) A2))) (E2 (Z2 3 (uM0 2 false "take_word" Q2)) (E2 (Z2 4 (uD 2 u3 (mO mN))) (E2 (uIf (uTP (ai3 (Q6 (W8 (A3 k9 (A0 (A1 3) A2)))) (Q6 (W8 (A3 a9 (A0 (A1 4) A2)))))) uXo m4) (uEx (uM 0 true "set_sheet" W7 (A0 (A1 3) (A0 (A1 4) A2))))))))
def Q1:DF:=N7 ab6 5
def v5:UX:=(E2 (aB2 1 (am3 true ah6 A2)) (E2 (au7 (iP (h9 (av8 (dTx txS (A1 0) (dC (.str "\n"))) T7 (T6 (bh5 ⇑1))))) (K5 2) (uEx (uD 1 Q1 (mO (mC (A1 2) mN))))) (E2 (uIf (uTB (uB2 neD (uD 1 B5 (mO mN)) (uP (A1 0)))) uXo m4) (uRo 1))))
def D8:List D->Option Fo:=bI3 v5 3
def aN9:UX:=(E2 (Z2 3 (uM0 2 true "names" P9)) (E2 (Z2 4 (uP (A3 B2 (A0 (A1 0) (A0 (A1 1) (A0 ⇑5 A2)))))) (E2 (Z2 5 (uP (ad1 (tB2 neD (A1 3) (r6 A2)) (dIx (B1 3) (A3 B2 (A0 (A1 0) (A0 (A5 L7 (A1 1) ⇑1) (A0 (ad0 (B1 3)) A2))))) (dC (.str ""))))) (E2 (Z2 6 (uP (ad1 (tB2 neD (A1 3) (r6 A2)) (dIx (B1 3) (A3 B2 (A0 (A1 0) (A0 (A5 L7 (A1 1) ⇑2) (A0 (ad0 (B1 3)) A2))))) (dC (.str ""))))) (uIf (uTP (aw9 (tB2 eqD (A1 4) ⇑0) (tB2 neD (A1 5) (dC (.str ""))))) (uEx (uM 2 true "take_off" u8 (A0 (A1 5) A2))) (uIf (am2 (uTP (tB2 ltI (A1 4) ⇑3)) (am2 (uTP (tB2 neD (A1 5) (dC (.str "")))) (uTB (uB2 eqD (uSl (uM 2 true "fetch" F5 (A0 (A1 5) A2)) T7 (T6 ⇑2)) (uSl (uM 2 true "fetch" F5 (A0 (A1 6) A2)) T7 (T6 ⇑2)))))) (uEx (uM 2 true "blend" ap0 (A0 (dIx (qN (A0 (dC (.str "over")) (A0 (dC (.str "multiply")) (A0 (dC (.str "screen")) (A0 (dC (.str "plus")) A2))))) (A3 B2 (A0 (A1 0) (A0 (A5 L7 (A1 1) ⇑3) (A0 ⇑4 A2))))) (A0 (A1 5) (A0 (A1 6) A2))))) (uEx (uM 2 true "lay" aN6 (A0 (dIx (qN (A0 (dC (.str "a")) (A0 (dC (.str "bo")) (A0 (dC (.str "zzzzzz")) A2)))) (A3 B2 (A0 (A1 0) (A0 (A5 L7 (A1 1) ⇑4) (A0 ⇑3 A2))))) (A0 (A3 Q5 (A0 (A1 0) (A0 (A5 L7 (A1 1) ⇑5) (A0 ⇑2 (A0 ⇑1 A2))))) A2))))))))))
def P0:DF:=N7 aN9 7
def X2:DF:=N7 (aH9 0 true "back" (rsO (uTB (uB2 eqD (uL (ad9 0 true "steps_back")) (uP ⇑0))) 2) (.bool false)) 1
def bm4:UX:=(aB2 1 (am3 true ah6 A2))
def bm3:UX:=(au7 (iP (X8 (A3 B2 (A0 (A1 0) (A0 ⇑0 (A0 ⇑6 A2)))))) (K5 2) (uEx (uD 1 P0 (mC (A1 0) (mC (A5 L7 ⇑10 (A5 R6 ⇑40 (A1 2))) (mO mN))))))
def cb0:UX:=(Z2 3 (uD 1 B5 (mO mN)))
def bm1:UX:=(xNw 4 (Z7 D8 (ulC (uP (A1 3)) ulN)))
def ca9:UX:=(uIf (uOr (uTB (uB2 neD (uD 4 B5 (mO mN)) (uP (A1 3)))) (uOr (uTB (uB2 neD (uM0 4 true "names" P9) (uM0 1 true "names" P9))) (uTB (uD 4 X2 (mO mN))))) (T2 (uP (dC (.bool false)))) m4)
def bm0:UX:=(aV1 5 (G4 1 [] (h9 (av8 (dTx txS (A1 3) (dC (.str "\n"))) T7 (T6 (bh5 ⇑1)))) (K5 0) K9 (A5 L7 (A1 0) (dC (.str "\n")))))
def ca8:UX:=(uIf (uTB (uB2 neD (uP (ad0 (B1 5))) (aw8 (uM0 1 true "names" P9)))) (T2 (uP (dC (.bool false)))) m4)
def bl9:UX:=(au7 (iZ (uP (A1 5)) (uM0 1 true "names" P9)) (d6 2 (O7 (K5 6) (O7 (K5 7) y8))) (E2 (uIf (uTB (uB2 neD (au6 (Z7 D8 (ulC (uP (A1 6)) ulN)) true "names" P9 A2) (uP (r6 (A0 (A1 7) A2))))) (T2 (uP (dC (.bool false)))) m4) (uIf (uTB (uB2 neD (au6 (Z7 D8 (ulC (uP (A1 6)) ulN)) true "fetch" F5 (A0 (A1 7) A2)) (uM 1 true "fetch" F5 (A0 (A1 7) A2)))) (T2 (uP (dC (.bool false)))) m4)))
def bl8:UX:=(au7 (iP (X8 ⇑2)) (K5 2) (E2 (uEx (uD 1 P0 (mC (A1 0) (mC (A5 L7 ⇑500 (A5 R6 ⇑40 (A1 2))) (mO mN))))) (E2 (uEx (uD 4 P0 (mC (A1 0) (mC (A5 L7 ⇑500 (A5 R6 ⇑40 (A1 2))) (mO mN))))) (uIf (uTB (uB2 neD (uD 4 B5 (mO mN)) (uD 1 B5 (mO mN)))) (T2 (uP (dC (.bool false)))) m4))))
def ca7:UX:=(uIf (uTB (uB2 neD (uM0 4 true "counts" at7) (uP (p8 (A0 ⇑2 (A0 ⇑0 A2)))))) (T2 (uP (dC (.bool false)))) m4)
def aV8:UX:=(xTw 8 1 true "twin" aU0)
def bH5:UX:=(uEx (uM 8 true "lay" aN6 (A0 (dC (.str "zz")) (A0 (A3 ap4 (A0 (A1 0) (A0 ⇑700 A2))) A2))))
def bH4:UX:=(uIf (uTB (uB2 eqD (uD 8 B5 (mO mN)) (uD 1 B5 (mO mN)))) (T2 (uP (dC (.bool false)))) m4)
def bH3:UX:=(uIf (uTB (uB2 neD (au6 (Z7 D8 (ulC (uD 8 B5 (mO mN)) ulN)) true "fetch" F5 (A0 (dC (.str "zz")) A2)) (uM 8 true "fetch" F5 (A0 (dC (.str "zz")) A2)))) (T2 (uP (dC (.bool false)))) m4)
def bH2:UX:=(T2 (aI0 (uB2 eqD (uM0 8 true "back" aU1) (uP (dC (.str "lay")))) (uB2 eqD (uD 8 B5 (mO mN)) (uD 1 B5 (mO mN)))))
def bC2:UX:=(E2 bm4 (E2 bm3 (E2 cb0 (E2 bm1 (E2 ca9 (E2 bm0 (E2 ca8 (E2 bl9 (E2 bl8 (E2 ca7 (E2 aV8 (E2 bH5 (E2 bH4 (E2 bH3 bH2))))))))))))))
def aO1:List D->Option D:=bI2 bC2 9
end Lk93
namespace Lk93
open PySem G L2 Sh
abbrev cl(s:Str):List Nat:=s.cps.toList
theorem aj9{a b:Str}(h:cl a=cl b):a=b:=by
 obtain⟨a⟩:=a;obtain⟨b⟩:=b;exact congrArg Str.mk (Array.toList_inj.mp h)
theorem i4(a b:Str):cl (a++b)=cl a++cl b:=by show(a.cps++b.cps).toList=_;rw[Array.toList_append]
theorem T9(a:Str):(cl a).length=a.length:=by simp[cl,Str.length]
abbrev sg(c:Nat):Str:=⟨#[c]⟩
def jl(c:Nat):List (List Nat)->List Nat
 | []=>[]
 | [x]=>x
 | x::y::r=>x++c::jl c (y::r)
theorem ao8(c:Nat):∀ps:List Str,cl (Str.join (sg c) ps)=jl c (ps.map cl)
 | []=>rfl
 | [x]=>rfl
 | x::y::r=>by
  show cl (x++sg c++Str.join (sg c) (y::r))=_;rw[i4,i4,ao8 c (y::r)];show(cl x++[c])++_=cl x++c::_;rw[aJ];rfl
theorem ba0{c:Nat}:∀{p w A B:List Nat},c∉p->c∉w->p++c::A=w++c::B->p=w/\A=B
 | [],[],A,B,_,_,h=>⟨rfl,by simpa using h⟩
 | [],y::w,A,B,_,h2,h=>by simp at h h2;exact(h2.1 h.1).elim
 | x::p,[],A,B,h1,_,h=>by simp at h h1;exact(h1.1 h.1.symm).elim
 | x::p,y::w,A,B,h1,h2,h=>by
  simp only[xca,List.cons.injEq,ax,not_or]at h h1 h2;obtain⟨e1,e2⟩:=ba0 h1.2 h2.2 h.2;exact⟨by rw[h.1,e1],e2⟩
theorem bw0{c:Nat}:∀{ps ws:List (List Nat)},ps≠[]->ws≠[]->(∀p∈ps,c∉p)->(∀p∈ws,c∉p)->jl c ps=jl c ws->ps=ws
 | [],_,h,_,_,_,_=>(h rfl).elim
 | _,[],_,h,_,_,_=>(h rfl).elim
 | [p],[w],_,_,_,_,e=>by rw[show p=w from e]
 | [p],w::v::r,_,_,h,_,e=>by
  have:c∈p:=by rw[show p=w++c::jl c (v::r) from e];simp
  exact(h p (by simp) this).elim
 | p::q::r,[w],_,_,_,h,e=>by
  have:c∈w:=by rw[show w=p++c::jl c (q::r) from e.symm];simp
  exact(h w (by simp) this).elim
 | p::q::r,w::v::s,_,_,h1,h2,e=>by
  obtain⟨e1,e2⟩:=ba0 (h1 p (by simp)) (h2 w (by simp)) (show p++c::jl c (q::r)=w++c::jl c (v::s) from e);rw[e1,bw0 (by simp) (by simp) (λx hx=>h1 x (aj _ hx)) (λx hx=>h2 x (aj _ hx)) e2]
theorem bm8(x y:Str):Txt.split x y≠[]:=by
 unfold Txt.split;split
 ·simp
 ·split
  ·simp
  ·intro h;have:=congrArg List.length h;rw[length_partsBetween]at this;simp at this
theorem ak9(c:Nat){ws:List Str}(hn:ws≠[])(hf:∀w∈ws,c∉cl w):Txt.split (Builtin.Str.glued (sg c) ws) (sg c)=ws:=by
 have e:=StrLaws.join_split (Builtin.Str.glued (sg c) ws) (sg c);have f:=StrLaws.split_free (Builtin.Str.glued (sg c) ws) c;have n:=bm8 (Builtin.Str.glued (sg c) ws) (sg c);generalize Txt.split (Builtin.Str.glued (sg c) ws) (sg c)=ps at e f n;rw[StrLaws.glued_eq_join]at e;have e:=congrArg cl e;rw[ao8,ao8]at e;have key:=bw0 (c:=c) (ps:=ps.map cl) (ws:=ws.map cl) (by simpa using n) (by simpa using hn) (by simpa using f) (by simpa using hf) e
 have inj:∀{a b:List Str},a.map cl=b.map cl->a=b:=by
  intro a
  induction a with
  | nil=>intro b h;cases b with|nil=>rfl|cons=>simp at h
  | cons x a ih =>
   intro b h;cases b with
   | nil=>simp at h
   | cons y b =>
    simp only[xmc,List.cons.injEq]at h;rw[aj9 h.1,ih h.2]
 exact inj key
theorem aG6(x:Str)(c i:Nat):StrLaws.At x (sg c) x.length i↔(cl x)[i]? = some c:=StrLaws.subAt_one x c i
theorem bK5(a b:Str)(c:Nat)(ha:c∉cl a):Txt.partition (a++sg c++b) (sg c)=(a,sg c,b):=by
 have hx:cl (a++sg c++b)=cl a++c::cl b:=by rw[i4,i4,show cl (sg c)=[c] from rfl,aJ];rfl
 have h0:(cl (a++sg c++b))[(cl a).length]? = some c:=by rw[hx,am (ai _),aQ];rfl
 rcases StrLaws.occ_head (a++sg c++b) (sg c) 1 (ai _) with⟨_,h⟩|⟨i,r,e,h1,h2⟩
 ·exact(h _ ((aG6 _ _ _).mpr h0)).elim
 ·have hi:i=(cl a).length:=by
   rcases Nat.lt_trichotomy i (cl a).length with q|q|q
   ·have:=(aG6 _ _ _).mp h1;rw[hx,aw q]at this;exact(ha (bQ this)).elim
   ·exact q
   ·exact(h2 _ q ((aG6 _ _ _).mpr h0)).elim
  subst hi;have len:(a++sg c++b).length=(cl a).length+1+(cl b).length:=by rw[← T9,hx];simp;omega
  have s1:Builtin.Str.strSub (a++sg c++b) 0 (cl a).length=a:=aj9 (by rw[cl,StrLaws.strSub_toList,show(a++sg c++b).cps.toList=cl a++c::cl b from hx];simp)
  have s2:Builtin.Str.strSub (a++sg c++b) ((cl a).length+(sg c).length) (a++sg c++b).length=b:=aj9 (by
   rw[cl,StrLaws.strSub_toList,show(a++sg c++b).cps.toList=cl a++c::cl b from hx,len,show(sg c).length=1 from rfl];have:(cl a++c::cl b).drop ((cl a).length+1)=cl b:=by rw[show cl a++c::cl b=(cl a++[c])++cl b by simp,List.drop_left' (by simp)]
   rw[this]
   exact List.take_of_length_le (by omega))
  unfold Txt.partition;rw[e];show(Builtin.Str.strSub _ 0 (cl a).length,sg c,Builtin.Str.strSub _ _ _)=_;rw[s1,s2]
theorem bK4(a:Str)(c:Nat)(ha:c∉cl a):Txt.partition a (sg c)=(a,dR,dR):=by
 rcases StrLaws.occ_head a (sg c) 1 (ai _) with⟨e,_⟩|⟨i,r,e,h1,h2⟩
 ·unfold Txt.partition;rw[e]
 ·exact(ha (bQ ((aG6 _ _ _).mp h1))).elim
def it(i:Int):Str:=Str.ofString (toString i)
def nt(n:Nat):Str:=it n
theorem az1(n:Nat):cl (nt n)=(cP 10 n).map Char.toNat:=PySem.W.KIN.signs_num n
theorem dch:∀d:Nat,d < 10->(Nat.digitChar d).toNat=48+d:=by decide
theorem bT2{n:Nat}(h:n < 10):cl (nt n)=[48+n]:=by rw[az1,cQ h,xmc,xmn,dch n h]
theorem bT3{n:Nat}(h:10<=n):cl (nt n)=cl (nt (n / 10))++[48+n % 10]:=by
 have hm:n % 10 < 10:=cA n (by decide);have t:cP 10 (n / 10)++cP 10 (n % 10)=cP 10 (10*(n / 10)+n % 10):=Nat.toDigits_append_toDigits (by decide) (by omega) hm;rw[Nat.div_add_mod]at t;rw[az1,az1,← t,cf,cQ hm,xmc,xmn,dch _ hm]
def pd:Nat->Nat->List Nat
 | 0,_=>[]
 | k+1,m=>pd k (m / 10)++[48+m % 10]
theorem bT1(a:Nat)(ha:0 < a):∀(k m:Nat),m < 10 ^ k->cl (nt (a*10 ^ k+m))=cl (nt a)++pd k m
 | 0,m,h=>by
  have:m=0:=by simpa using h
  subst this;simp[pd]
 | k+1,m,h=>by
  have p:0 < 10 ^ k:=Nat.pow_pos (by decide);have e1:a*10 ^ (k+1)=10*(a*10 ^ k):=by rw[bY];rw[cx (10 ^ k) 10,Nat.mul_left_comm]
  have g:10<=a*10 ^ (k+1)+m:=by rw[e1];have:=bI ha p;omega
  have h':m / 10 < 10 ^ k:=by rw[bY]at h;omega
  have i:=bT1 a ha k (m / 10) h';rw[bT3 g,show(a*10 ^ (k+1)+m) / 10=a*10 ^ k+m / 10 by rw[e1];omega,show(a*10 ^ (k+1)+m) % 10=m % 10 by rw[e1];omega,i,pd,aJ]
theorem aX7:∀k,pd k 0=aq k 48
 | 0=>rfl
 | k+1=>by
  show pd k 0++[48]=_;rw[aX7 k,List.replicate_succ']
theorem bp7:∀(k m:Nat),m < 10 ^ (k+1)->(cl (nt m)).length<=k+1/\pd (k+1) m=aq (k+1 - (cl (nt m)).length) 48++cl (nt m)
 | 0,m,h=>by
  have h:m < 10:=by simpa using h
  rw[bT2 h];exact⟨ai _,by show []++[48+m % 10]=_;rw[Nat.mod_eq_of_lt h];rfl⟩
 | k+1,m,h=>by
  by_cases q:m < 10
  ·rw[bT2 q];refine⟨by show 1<=k+1+1;omega,?_⟩;show pd (k+1) (m / 10)++[48+m % 10]=_;rw[Nat.div_eq_of_lt q,Nat.mod_eq_of_lt q,aX7];rfl
  ·have h':m / 10 < 10 ^ (k+1):=by rw[bY]at h;omega
   obtain⟨l,e⟩:=bp7 k (m / 10) h';rw[bT3 (by omega)];refine⟨by rw[aG];show _+1<=_;omega,?_⟩;show pd (k+1) (m / 10)++[48+m % 10]=_;rw[e,aJ,aG]
   congr 2
   show _=k+1+1 - (_+1);omega
structure Dg (s:Str):Prop where
 d:∀c∈cl s,48<=c/\c<=57
 l1:1<=s.length
 l2:s.length<=309
abbrev big:Nat:=2 ^ 1024
theorem co4:big < 10 ^ 309:=by decide +kernel
theorem br4(n:Nat):(∀c∈cl (nt n),48<=c/\c<=57)/\1<=(nt n).length:=by
 refine⟨λc hc=>?_,?_⟩
 ·rw[az1]at hc;obtain⟨ch,hch,rfl⟩:=bc.mp hc;exact PyProof.Rows.digit_range (Nat.isDigit_of_mem_toDigits (by decide) (by decide) hch)
 ·rw[← T9,az1,ay];exact List.length_pos_iff.mpr Nat.toDigits_ne_nil
theorem Z8{n:Nat}(h:n < big):Dg (nt n):=by
 obtain⟨h1,h2⟩:=br4 n;have h3:=(bp7 308 n (Nat.lt_trans h co4)).1;rw[T9]at h3;exact⟨h1,h2,h3⟩
theorem bM0{n:Nat}(h:n < big):intText? (nt n)=some (n:Int):=by
 obtain⟨lo,l1,l2⟩:=Z8 h
 have hne:(nt n).cps.toList≠[]:=λe=>by
  rw[← T9,cl,e]at l1;exact absurd l1 (by decide)
 have e:=intText_digits lo hne (by omega);have v:NumText.digitsVal (cl (nt n))=n:=by rw[az1];exact PySem.W.KIN.val_back n
 rw[show NumText.digitsVal (nt n).cps.toList=n from v]at e;exact e
theorem cA7(c:Nat)(h1:48<=c)(h2:c<=57):inS false (.str ⟨#[c]⟩) (.str "0123456789")=some (.bool true):=by
 have h:∀k:Fin 10,bf9 ⟨#[48+k.val]⟩ "0123456789" = true:=by decide +kernel
 have:=h ⟨c - 48,by omega⟩;simp only[show 48+(c - 48)=c by omega]at this;show some (dL (bf9 ⟨#[c]⟩ "0123456789"))=_;rw[this]
theorem aW5{n:Nat}(h:n < big):P5 [.str (nt n)]=some (.int n):=by
 obtain⟨lo,l1,l2⟩:=Z8 h;have rd:=bM0 h;generalize nt n=s at lo l1 l2 rd
 have as:s.cps.all (· < 128)=true:=by
  rw[cG];intro c hc;have:=lo c (bZ.mpr hc);exact decide_eq_true (by omega)
 have ll:=T9 s
 have al:G4 1 [] (bf7 (A1 0)) (K5 0) K9 (A5 (inS false) (A1 0) (dC (.str "0123456789"))) [‹.str s›]=some (s.cps.toList.map λ_=>.bool true):=by
  refine aa8 (l:=s.cps.toList) (h:=λc=>.str ⟨#[c]⟩) (r:=[]) rfl ?_ (by show(cl s).length<=1000;omega) λc hc=>cA7 c (lo c hc).1 (lo c hc).2
  show(if s.cps.all (· < 128)=true then some (ax3 s) else none)=_;rw[if_pos as];rfl
 have z:s.length<=16777216:=by omega
 have z6:s.length<=640:=by omega
 have a':(1:Int)<=s.length:=by omega
 have b':(s.length:Int)<=400:=by omega
 refine B7 (ρ:=[‹.str s›]) rfl ?_
 wp_walk using evD,ad6,ay9,aZ9,if_pos z,if_pos z6,al,aN4,a',b',decide_true,rd
@[irreducible] def tp:Nat:=10 ^ 60
theorem ae0:tp=10 ^ 60:=by unfold tp;rfl
theorem ai2:0 < tp:=by rw[ae0];decide +kernel
theorem cs4:E4 (tp:Int):=by rw[ae0];decide +kernel
theorem bS2{n:Nat}(h:n < tp){f:DE}{ρ:Rho}(hf:f ρ=some (.int n)):aF6 f ρ=some (.str (nt n)):=by
 have lg:(n:Int).natAbs.log2 < 1920:=by
  rw[bJ];rcases Nat.eq_zero_or_pos n with q|q
  ·rw[q];decide
  ·exact(Nat.log2_lt (by omega)).mpr (aA h (aC (by rw[ae0];decide +kernel:tp<=2 ^ 200) (aT (by decide) (by decide))))
 unfold aF6;rw[hf];show(if(n:Int).natAbs.log2 < 1920 then some (dM (it n)) else none)=_;rw[if_pos lg];rfl
def zf(m:Nat):Str:=Txt.zfill (nt m) 60
theorem cq0{m:Nat}(h:m < tp):cl (zf m)=pd 60 m:=by
 obtain⟨l,e⟩:=bp7 59 m (by rw[ae0]at h;exact h);obtain⟨d,l1⟩:=br4 m;rw[e];rw[T9]at l ⊢;unfold zf Txt.zfill;split
 ·rename_i q;have q:(60:Int)<=((nt m).length:Int):=q;rw[show 59+1 - (nt m).length=0 by omega];rfl
 ·have h0:(nt m).cps[0]?≠some 43/\(nt m).cps[0]?≠some 45:=by
   refine⟨λz=>?_,λz=>?_⟩
   ·rw[← bA]at z;have:=d _ (bQ z);omega
   ·rw[← bA]at z;have:=d _ (bQ z);omega
  unfold zfilled;split
  ·rename_i z;exact(h0.1 z).elim
  ·rename_i z;exact(h0.2 z).elim
  ·show(Array.replicate _ 48++(nt m).cps++Array.replicate 0 48).toList=_;simp[cl]
def cat(l:List Str):List Nat:=l.flatMap cl
theorem aL0:∀l:List Str,cl (Str.join dR l)=cat l
 | []=>rfl
 | [x]=>by simp[cat,Str.join]
 | x::y::r=>by
  show cl (x++dR++Str.join dR (y::r))=_;rw[i4,i4,aL0 (y::r),show cl dR=[] from rfl,ar];rfl
theorem ay6(l:List Str):cl (Builtin.Str.glued "" l)=cat l:=by rw[StrLaws.glued_eq_join];exact aL0 l
theorem aL2:∀l:List Str,P7 "" l=(cat l).length:=λl=>by
 have key:∀(l:List Str) (n:Nat),l.foldl (λn y=>n+y.length+("" : Str).length) n=n+(cat l).length:=by
  intro l
  induction l with
  | nil=>intro n;rfl
  | cons x l ih =>
   intro n;rw[cr,ih,show cat (x::l)=cl x++cat l from rfl,aG,T9,show("" : Str).length=0 from rfl];omega
 unfold P7;rw[List.foldl_toArray,key,Nat.zero_add]
noncomputable abbrev wB:DS:=F7 (aB8 2 (dZf (aF6 (A5 U9 (A1 0) (A1 1))) ⇑60)) (P1 0 (A5 aa2 (A1 0) (A1 1)))
abbrev rW(n:Nat)(ps:List Str):Rho:=[‹.int n›,‹.int (tp:Nat)›,some (.own (ps.map dM))]
theorem cA0(n:Nat):geI (.int (n:Nat)) (.int (tp:Nat))=some (.bool (decide (tp<=n))):=by
 show some (dL (decide ((tp:Int)<=(n:Int))))=_
 congr 2
 rw[decide_eq_decide];omega
theorem cq9{n:Nat}{ps:List Str}(hl:ps.length < 900):wB (rW n ps)=some (.nx (rW (n / tp) (ps++[zf (n % tp)]))):=by
 have hm:n % tp < tp:=cA _ ai2
 have m1:U9 (.int (n:Nat)) (.int (tp:Nat))=some (.int ((n % tp:Nat):Int)):=by
  show(if(0:Int) < (tp:Int) then some (dJ ((n:Int) % (tp:Int))) else none)=_;rw[if_pos (by have:=ai2;omega)];rfl
 have d1:aa2 (.int (n:Nat)) (.int (tp:Nat))=some (.int ((n / tp:Nat):Int)):=by
  show(if(0:Int) < (tp:Int)/\E4 (tp:Int) then some (dJ ((n:Int) / (tp:Int))) else none)=_;rw[if_pos ⟨by have:=ai2;omega,cs4⟩];rfl
 have s1:=bS2 hm (f:=A5 U9 (A1 0) (A1 1)) (ρ:=rW n ps) m1
 have z1:dZf (aF6 (A5 U9 (A1 0) (A1 1))) ⇑60 (rW n ps)=some (.str (zf (n % tp))):=by
  unfold dZf;rw[s1];rfl
 have a1:aB8 2 (dZf (aF6 (A5 U9 (A1 0) (A1 1))) ⇑60) (rW n ps)=some (.nx (rW n (ps++[zf (n % tp)]))):=by
  unfold aB8;rw[z1];show(if(ps.map dM).length < 16777216 then _ else _)=_;rw[if_pos (by rw[ay];omega)];simp
 refine(aq3 a1).trans ?_;unfold P1;rw[show A5 aa2 (A1 0) (A1 1) (rW n (ps++[zf (n % tp)]))=some (.int ((n / tp:Nat):Int)) from d1];rfl
theorem cz5{f:DS}{ρ:Rho}{t:Rho->Option Bool}{k:Nat}(h:t ρ=some false):Q8 t f (k+1) ρ=some (.nx ρ):=by unfold Q8;rw[h];rfl
theorem cG0{f:DS}{ρ ρ':Rho}{t:Rho->Option Bool}{k:Nat}(h:t ρ=some true)(e:f ρ=some (.nx ρ')):Q8 t f (k+1) ρ=Q8 t f k ρ':=by
 show(t ρ).bind _=_;rw[h];show(f ρ).bind _=_;rw[e];rfl
theorem cq8(j:Nat):∀(n:Nat) (ps:List Str),n < tp ^ (j+1)->ps.length+j < 900->∃n' ps',Q8 (tB2 geI (A1 0) (A1 1)) wB (j+1) (rW n ps)=some (.nx (rW n' ps'))/\n' < tp/\cl (nt n')++cat ps'.reverse=cl (nt n)++cat ps.reverse/\ps'.length<=ps.length+j:=by
 have tst:∀n ps,tB2 geI (A1 0) (A1 1) (rW n ps)=some (decide (tp<=n)):=λn ps=>by
  have g:=cA0 n
  wp_walk using evD,g
 induction j with
 | zero =>
  intro n ps h hl;rw[Nat.zero_add,Nat.pow_one]at h;refine⟨n,ps,cz5 ?_,h,rfl,ai _⟩;rw[tst,decide_eq_false (by omega)]
 | succ j ih =>
  intro n ps h hl;by_cases q:tp<=n
  ·have hm:n % tp < tp:=cA _ ai2
   have hd:n / tp < tp ^ (j+1):=by
    rw[Nat.div_lt_iff_lt_mul ai2,← bY];exact h
   obtain⟨n',ps',e,h1,h2,h3⟩:=ih (n / tp) (ps++[zf (n % tp)]) hd (by simp;omega);refine⟨n',ps',(cG0 (by rw[tst,decide_eq_true q]) (cq9 (by omega))).trans e,h1,?_,by simp at h3;omega⟩;rw[h2,List.reverse_append,cat,cat,List.flatMap_append,← aJ]
   congr 1
   show cl (nt (n / tp))++(cl (zf (n % tp))++[])=_;have h0:0 < n / tp:=Nat.div_pos q ai2;have:=bT1 (n / tp) h0 60 (n % tp) (by rw[← ae0];exact hm);rw[← ae0,Nat.div_add_mod' n tp]at this;rw[ar,cq0 hm,this]
  ·refine⟨n,ps,cz5 ?_,by omega,rfl,by omega⟩;rw[tst,decide_eq_false q]
theorem aU6{n:Nat}(h:n < big):K4 [.int n]=some (.str (nt n)):=by
 have p:bo2 (.int 10) (.int 60)=some (.int (tp:Nat)):=by kernel_rfl
 obtain⟨n',ps',e,h1,h2,h3⟩:=cq8 5 n [] (aA h (by rw[ae0];decide +kernel)) (by decide)
 have e2:cat (ps'++[nt n']).reverse=cl (nt n):=by
  rw[List.reverse_append];show cl (nt n')++cat ps'.reverse=_;rw[h2];exact ar _
 have gd:Builtin.Str.glued "" (ps'++[nt n']).reverse=nt n:=aj9 (by rw[ay6,e2]);have l1:=(Z8 h).l2;have l0:(cat (ps'++[nt n']).reverse).length<=309:=by rw[e2,T9];exact l1
 have st:w9 ((ps'++[nt n']).map dM)=some (ps'++[nt n']):=by
  generalize ps'++[nt n']=l
  induction l with
  | nil=>rfl
  | cons x l ih=>show(w9 (l.map dM)).map _=_;rw[ih];rfl
 refine B7 (ρ:=[‹.int n›,none,none]) rfl ?_;unfold j8;refine(aq3 (ρ':=[‹.int n›,‹.int (tp:Nat)›,none]) (by wp_walk using evD,p)).trans ?_;refine(aq3 (ρ':=rW n []) rfl).trans ((aq3 (ai4 e)).trans ?_);refine(aq3 (ρ':=rW n' (ps'++[nt n'])) ?_).trans ?_
 ·unfold aB8;rw[bS2 h1 (f:=A1 0) (ρ:=rW n' ps') rfl];show(if(ps'.map dM).length < 16777216 then _ else _)=_;rw[if_pos (by rw[ay];simp at h3;omega)];simp
 ·unfold C5 aF7;show(((w9 ((ps'++[nt n']).map dM)).bind _).map _)=_;rw[st];show((if P7 "" (ps'++[nt n']).reverse<=16777216/\(Builtin.Str.glued "" (ps'++[nt n']).reverse).length<=16777216/\(ps'++[nt n']).length<=16777216 then some _ else none).map _)=_;rw[if_pos ⟨by rw[aL2];omega,by rw[gd];omega,by simp at h3 ⊢;omega⟩,gd];rfl
end Lk93
namespace Lk93
open PySem G L2 Sh
abbrev gl(c:Nat)(ws:List Str):Str:=Builtin.Str.glued (sg c) ws
abbrev sD(ws:List Str):List D:=ws.map dM
theorem aB4:∀ws:List Str,w9 (sD ws)=some ws
 | []=>rfl
 | w::ws=>by show(w9 (sD ws)).map _=_;rw[aB4 ws];rfl
theorem ba3(c:Nat)(ws:List Str):cl (gl c ws)=jl c (ws.map cl):=by rw[gl,StrLaws.glued_eq_join,ao8]
theorem o9(a b:Str):(a++b).length=a.length+b.length:=by rw[← T9,i4,aG,T9,T9]
theorem bv9{b c:Nat}:∀ws:List (List Nat),(∀w∈ws,w.length<=b)->(jl c ws).length<=(b+1)*ws.length
 | [],_=>aW _
 | [x],h=>by have:=h x (by simp);show x.length<=(b+1)*1;omega
 | x::y::r,h=>by
  have h1:=h x (by simp);have h2:=bv9 (c:=c) (y::r) λw hw=>h w (aj _ hw)
  rw[jl,aG,aO,aO (as:=y::r),Nat.mul_succ];omega
theorem ck4{b c:Nat}(ws:List Str)(h:∀w∈ws,w.length<=b):P7 (sg c) ws<=(b+1)*ws.length:=by
 have key:∀(ws:List Str) (n:Nat),(∀w∈ws,w.length<=b)->ws.foldl (λn y=>n+y.length+(sg c).length) n<=n+(b+1)*ws.length:=by
  intro ws
  induction ws with
  | nil=>intro n _;simp
  | cons w ws ih =>
   intro n hw;have h1:=hw w (by simp);have h2:=ih (n+w.length+(sg c).length) λv hv=>hw v (aj _ hv)
   have h3:(sg c).length=1:=rfl;rw[cr,aO,Nat.mul_succ];omega
 have:=key ws 0 h;unfold P7;rw[List.foldl_toArray];omega
theorem as4{b c:Nat}{ws:List Str}(h:∀w∈ws,w.length<=b):(gl c ws).length<=(b+1)*ws.length:=by
 have:=bv9 (c:=c) (b:=b) (ws.map cl) (λw hw=>by obtain⟨v,hv,rfl⟩:=bc.mp hw;rw[T9];exact h v hv);rw[ay]at this;rw[← T9,ba3];exact this
theorem bU7{c b:Nat}{x:Str}{ws:List Str}{g:Rho->Option (Bool×List D)}{ρ:Rho}(hx:x=sg c)(hg:g ρ=some (false,sD ws))(hb:∀w∈ws,w.length<=b)(hl:(b+1)*ws.length<=16777216):at2 (dC (.str x)) g ρ=some (.str (gl c ws)):=by
 subst hx;have h1:=ck4 (c:=c) ws hb;have h2:=as4 (c:=c) hb;unfold at2;rw[hg];show(if false=true then none else(w9 (sD ws)).bind _)=_;rw[if_neg (by decide),aB4];show(if P7 (sg c) ws<=16777216/\(gl c ws).length<=16777216 then _ else _)=_;rw[if_pos ⟨by omega,by omega⟩]
theorem ao9{a b:Str}(h:a.length+b.length<=16777216):L7 (.str a) (.str b)=some (.str (a++b)):=if_pos h
theorem ba4{a b:List D}(h:a.length+b.length<=16777216):L7 (.list a) (.list b)=some (.list (a++b)):=if_pos h
def Al(p:Nat->Prop)(s:Str):Prop:=∀c∈cl s,p c
theorem Al.app{a b:Str}(h1:Al p a)(h2:Al p b):Al p (a++b):=λc hc=>by
 rw[i4]at hc;exact(aR.mp hc).elim (h1 c) (h2 c)
theorem Al.sg(h:p c):Al p (sg c):=λd hd=>by rw[show d=c by simpa [cl] using hd];exact h
theorem Al.imp(h:Al p s)(i:∀c,p c->q c):Al q s:=λc hc=>i c (h c hc)
theorem bw1{p:Nat->Prop}(hc:p c):∀ws:List (List Nat),(∀w∈ws,∀d∈w,p d)->∀d∈jl c ws,p d
 | [],_,d,hd=>by simp[jl]at hd
 | [x],h,d,hd=>h x (by simp) d hd
 | x::y::r,h,d,hd=>by
  rw[jl]at hd;rcases aR.mp hd with q|q
  ·exact h x (by simp) d q
  ·rcases ax.mp q with rfl|q
   ·exact hc
   ·exact bw1 hc (y::r) (λw hw=>h w (aj _ hw)) d q
theorem Al.gl{ws:List Str}(hc:p c)(h:∀w∈ws,Al p w):Al p (gl c ws):=λd hd=>by
 rw[ba3]at hd;exact bw1 hc _ (λw hw=>by obtain⟨v,hv,rfl⟩:=bc.mp hw;exact h v hv) d hd
theorem Al.no(h:Al p s)(i:¬p c):c∉cl s:=λhc=>i (h c hc)
def shT(r:Rat):Str:=if r.den=1 then nt r.num.natAbs else nt r.num.natAbs++sg 47++nt r.den
theorem sl_:("/" : Str)=sg 47:=by decide +kernel
theorem ex_:("x" : Str)=sg 120:=by decide +kernel
theorem co_:(":" : Str)=sg 58:=by decide +kernel
theorem bl_:(" " : Str)=sg 32:=by decide +kernel
theorem nl_:("\n" : Str)=sg 10:=by decide +kernel
abbrev pN(c:Nat):Prop:=48<=c/\c<=57
abbrev pS(c:Nat):Prop:=47<=c/\c<=57
theorem aP6{r:Rat}(h:Bd 1024 r):r.num.natAbs < big/\r.den < big:=⟨h.num,h.den⟩
theorem g8{n:Nat}(h:n < 1000):n < big:=Nat.lt_trans h (by decide +kernel)
theorem aP7{r:Rat}(h:Bd 1024 r):Al pS (shT r)/\(shT r).length<=619:=by
 obtain⟨n1,n2⟩:=aP6 h;have a1:=Z8 (n:=r.num.natAbs) n1;have a2:=Z8 (n:=r.den) n2;have i:∀c,pN c->pS c:=λc h=>⟨by omega,h.2⟩
 have l1:=a1.l2;have l2:=a2.l2;unfold shT;split
 ·exact⟨Al.imp a1.d i,by omega⟩
 ·refine⟨((Al.imp a1.d i).app (Al.sg ⟨by decide,by decide⟩)).app (Al.imp a2.d i),?_⟩;rw[o9,o9,show(sg 47).length=1 from rfl];omega
theorem cB0(a b:Str)(c:Nat)(ha:a.length<=1000)(hb:b.length<=1000):L7 (.str a) (.str (sg c))=some (.str (a++sg c))/\L7 (.str (a++sg c)) (.str b)=some (.str (a++sg c++b)):=by
 have h1:(sg c).length=1:=rfl;exact⟨ao9 (by omega),ao9 (by rw[o9];omega)⟩
theorem cH0{r:Rat}(d:r.den=1):((r.den:Int)==1)=true:=by rw[d];rfl
theorem cG9{r:Rat}(d:¬r.den=1):((r.den:Int)==1)=false:=beq_eq_false_iff_ne.mpr (by omega)
theorem bX0{r:Rat}(h:Bd 1024 r):X4 [fr r]=some (.str (shT r)):=by
 have hn:=h.nat;obtain⟨n1,n2⟩:=aP6 h;have w1:=aU6 (n:=r.num.natAbs) n1;have w2:=aU6 (n:=r.den) n2;rw[← hn]at w1;have l1:=(Z8 (n:=r.num.natAbs) n1).l2;have l2:=(Z8 (n:=r.den) n2).l2;obtain⟨c1,c2⟩:=cB0 (nt r.num.natAbs) (nt r.den) 47 (by omega) (by omega);refine B7 (ρ:=[‹fr r›]) rfl ?_;unfold shT;by_cases d:r.den=1
 ·rw[if_pos d]
  wp_walk using evD,X3,fr,cH0 d,w1
 ·rw[if_neg d]
  wp_walk using evD,X3,fr,cG9 d,w1,w2,sl_,c1,c2
theorem cn6{F:List D->Option D}(hF:∀r,Bd 1024 r->F [fr r]=some (.str (shT r))){src:Rho->Option (List D)}{ρ:Rho}{rs:List Rat}(hs:src ρ=some (rs.map fr))(hl:rs.length<=1000)(hb:∀r∈rs,Bd 1024 r):qN (G4 1 [] src (K5 0) K9 (A3 F (A0 (A1 0) A2))) ρ=some (false,sD (rs.map shT)):=by
 have:=aa8 (caps:=[]) (e:=A3 F (A0 (A1 0) A2)) (ρ:=ρ) (l:=rs) (h:=fr) (f:=λr=>.str (shT r)) (r:=[]) rfl hs hl λr hr=>by wp_walk using evD,hF r (hb r hr)
 unfold qN;rw[this,sD,aY];rfl
theorem cy9{F:List D->Option D}(hF:∀r,Bd 1024 r->F [fr r]=some (.str (shT r))){x:Str}{c:Nat}(hx:x=sg c){src:Rho->Option (List D)}{ρ:Rho}{rs:List Rat}(hs:src ρ=some (rs.map fr))(hl:rs.length<=1000)(hb:∀r∈rs,Bd 1024 r):at2 (dC (.str x)) (qN (G4 1 [] src (K5 0) K9 (A3 F (A0 (A1 0) A2)))) ρ=some (.str (gl c (rs.map shT))) :=
 bU7 hx (cn6 hF hs hl hb) (b:=619) (λw hw=>by obtain⟨r,hr,rfl⟩:=bc.mp hw;exact(aP7 (hb r hr)).2) (by rw[ay];omega)
def qr(q:Q4):List Rat:=[q.c,q.x,q.y,q.z]
theorem bn7{q:Q4}(h:q.ok 1024):∀r∈qr q,Bd 1024 r:=by
 intro r hr;simp only[qr,ax,aP,or_false]at hr;rcases hr with rfl|rfl|rfl|rfl
 ·exact h.hc.bd
 ·exact h.hx
 ·exact h.hy
 ·exact h.hz
def spT(q:Q4):Str:=gl 58 ((qr q).map shT)
def szT(w h:Nat):Str:=nt w++sg 120++nt h
theorem bW9{q:Q4}(h:q.ok 1024):U0 [q.d]=some (.str (spT q)):=by
 refine B7 (ρ:=[‹q.d›]) rfl ?_;unfold ab4 C5;rw[cy9 (rs:=qr q) (c:=58) (λr hr=>bX0 hr) co_ rfl (show 4<=1000 by decide) (bn7 h)];rfl
theorem bW7{w h:Nat}(hw:w < 1000)(hh:h < 1000)(x:D):U1 [.tuple [.int w,.int h,x]]=some (.str (szT w h)):=by
 have w1:=aU6 (n:=w) (g8 hw);have w2:=aU6 (n:=h) (g8 hh);have l1:=(Z8 (n:=w) (g8 hw)).l2;have l2:=(Z8 (n:=h) (g8 hh)).l2;obtain⟨c1,c2⟩:=cB0 (nt w) (nt h) 120 (by omega) (by omega);refine B7 (ρ:=[‹.tuple [.int w,.int h,x]›]) rfl ?_
 wp_walk using evD,ab5,w1,w2,ex_,c1,c2,szT
theorem bH6{l:List Q4}(hl:l.length<=1000){src:Rho->Option (List D)}{ρ:Rho}{e:DE}(hs:src ρ=some (l.map Q4.d))(he:∀q∈l,e [‹q.d›]=some (.str (spT q))):G4 1 [] src (K5 0) K9 e ρ=some (sD (l.map spT)):=by
 rw[aa8 (l:=l) (h:=Q4.d) (f:=λq=>.str (spT q)) (r:=[]) rfl hs hl he,sD,aY];rfl
theorem cF6{f:DE}{ρ:Rho}{x:D}(h:f ρ=some x):r6 (A0 f A2) ρ=some (.list [x]):=by simp only[r6,A0,A2,h,xbs,xms]
theorem bW8{w h:Nat}(hw:w < 1000)(hh:h < 1000){l:List Q4}(hl:l.length<=1000)(ho:∀q∈l,q.ok 1024):O3 [shD w h l]=some (.list (sD (szT w h::l.map spT))):=by
 have z:A3 U1 (A0 (A1 0) A2) [‹shD w h l›]=some (.str (szT w h)):=by wp_walk using evD,shD,bW7 hw hh
 have c:=bH6 hl (src:=h9 (dIx (B1 0) ⇑2)) (ρ:=[‹shD w h l›]) (e:=A3 U0 (A0 (A1 0) A2)) rfl λq hq=>by wp_walk using evD,bW9 (ho q hq)
 refine B7 (ρ:=[‹shD w h l›]) rfl ?_;unfold j9 C5;rw[Y4 (cF6 z) (show r6 _ _=some (.list (sD (l.map spT))) by unfold r6;rw[c];rfl),ba4 (by simp;omega)];rfl
end Lk93
namespace Lk93
open PySem G L2 Sh
theorem cA4{a b:Nat}{c:Bool}(h:((sg a)==(sg b))=c)(ha:a < 1000)(hb:b < 1000):eqD (.str (sg a)) (.str (sg b))=some (.bool c):=A8 (by show(#[a]:Array Nat).all (· < 0x110000)=true;simp;omega) (by show(#[b]:Array Nat).all (· < 0x110000)=true;simp;omega) h
theorem bk7{m:Str->Str->Option D}{f g:DE}{ρ:Rho}{a y:Str}(hf:f ρ=some (.str a))(hg:g ρ=some (.str y)):dTx m f g ρ=m a y:=by unfold dTx;rw[hf,xbs,hg];rfl
theorem bR4{a b:Str}{c:Nat}(ha:c∉cl a)(h1:a.length<=1000)(h2:b.length<=1000):txP (a++sg c++b) (sg c)=some (.tuple [.str a,.str (sg c),.str b]):=by
 unfold txP;rw[if_pos ⟨show(1:Nat)≠0 by decide,by rw[o9,o9,show(sg c).length=1 from rfl];omega⟩,bK5 a b c ha]
theorem cs5{a:Str}{c:Nat}(ha:c∉cl a)(h1:a.length<=1000):txP a (sg c)=some (.tuple [.str a,.str dR,.str dR]):=by
 unfold txP;rw[if_pos ⟨show(1:Nat)≠0 by decide,by omega⟩,bK4 a c ha]
theorem bk9{ws:List Str}{c b:Nat}(hn:ws≠[])(hf:∀w∈ws,c∉cl w)(hb:∀w∈ws,w.length<=b)(hl:(b+1)*ws.length<=16777216):txS (gl c ws) (sg c)=some (.list (sD ws)):=by
 have h2:=as4 (c:=c) hb;have h3:ws.length<=(b+1)*ws.length:=Nat.le_mul_of_pos_left _ (by omega);unfold txS;rw[ak9 c hn hf,if_pos ⟨show(1:Nat)≠0 by decide,by omega,by omega⟩]
theorem cv1{f:Rho->Option (List D)}{ρ:Rho}{l:List D}(h:f ρ=some l):qN f ρ=some (false,l):=by unfold qN;rw[h];rfl
theorem cb9{r:Rat}(h:Bd 1024 r):U2 [.str (shT r)]=some (fr r):=by
 have hn:=h.nat;obtain⟨n1,n2⟩:=aP6 h;have r1:=aW5 (n:=r.num.natAbs) n1;have r2:=aW5 (n:=r.den) n2;have a1:=Z8 (n:=r.num.natAbs) n1;have a2:=Z8 (n:=r.den) n2;have l1:=a1.l2;have l2:=a2.l2;have no:47∉cl (nt r.num.natAbs):=Al.no a1.d (by decide);have e1:=cA4 (a:=47) (b:=47) (c:=true) (by decide +kernel) (by decide) (by decide);have e2:eqD (.str dR) (.str (sg 47))=some (.bool false):=A8 (by decide +kernel) (by decide +kernel) (by decide +kernel);have t1:=bR4 (b:=nt r.den) no (by omega) (by omega);have t2:=cs5 no (by omega);refine B7 (ρ:=[‹.str (shT r)›,none,none]) rfl ?_;unfold shT;by_cases d:r.den=1
 ·rw[if_pos d]
  wp_walk using evD,u9,ad1,dTx,sl_,t2,e2,r1
  rw[fr,d,← hn];rfl
 ·rw[if_neg d]
  wp_walk using evD,u9,ad1,dTx,sl_,t1,e1,r1,r2
  rw[fr,← hn]
theorem cu5{c:Nat}{x:Str}(hx:x=sg c)(hc:c < 47\/57 < c){rs:List Rat}(hn:rs≠[])(hl:rs.length<=1000)(hb:∀r∈rs,Bd 1024 r){ρ:Rho}(h0:A1 0 ρ=some (.str (gl c (rs.map shT)))):y9 (qN (G4 1 [] (h9 (dTx txS (A1 0) (dC (.str x)))) (K5 0) K9 (A3 U2 (A0 (A1 0) A2)))) ρ=some (.tuple (rs.map fr)):=by
 subst hx
 have w:∀v∈rs.map shT,Al pS v/\v.length<=619:=λv hv=>by
  obtain⟨r,hr,rfl⟩:=bc.mp hv;exact aP7 (hb r hr)
 have s:=bk9 (ws:=rs.map shT) (c:=c) (b:=619) (by simpa using hn) (λv hv=>(w v hv).1.no (by omega)) (λv hv=>(w v hv).2) (by rw[ay];omega)
 have n:=aa8 (caps:=[]) (src:=h9 (dTx txS (A1 0) (dC (.str (sg c))))) (e:=A3 U2 (A0 (A1 0) A2)) (ρ:=ρ) (l:=rs) (h:=λr=>.str (shT r)) (f:=fr) (r:=[]) rfl (by
  unfold h9;rw[bk7 h0 rfl,s,sD,aY]
  rfl) hl λr hr=>by wp_walk using evD,cb9 (hb r hr)
 unfold y9;rw[cv1 n];rfl
theorem cb8{q:Q4}(h:q.ok 1024):d9 [.str (spT q)]=some q.d:=by
 refine B7 (ρ:=[‹.str (spT q)›]) rfl ?_;unfold am0 C5;rw[cu5 (rs:=qr q) (c:=58) co_ (by decide) (by simp[qr]) (show 4<=1000 by decide) (bn7 h) rfl];rfl
theorem ai8{s:Str}{p:Nat->Prop}(h:Al p s)(i:∀c,p c->c < 0x110000):dN (.str s)=true:=by
 show s.cps.all (· < 0x110000)=true;rw[cG];intro c hc;exact decide_eq_true (i c (h c (bZ.mpr hc)))
theorem cb7{w h:Nat}(hw:w < 1000)(hh:h < 1000):ab9 [.str (szT w h)]=some (.tuple [.int w,.int h]):=by
 have r1:=aW5 (n:=w) (g8 hw);have r2:=aW5 (n:=h) (g8 hh);have a1:=Z8 (n:=w) (g8 hw);have a2:=Z8 (n:=h) (g8 hh);have l1:=a1.l2;have l2:=a2.l2;have t1:=bR4 (a:=nt w) (b:=nt h) (c:=120) (Al.no a1.d (by decide)) (by omega) (by omega);refine B7 (ρ:=[‹.str (szT w h)›,none]) rfl ?_
 wp_walk using evD,am1,szT,dTx,ex_,t1,r1,r2
section
variable {i j:Nat}{kd:Bool}{ρ ρ':Rho}{q q' q1 q2:Fs}{o o':Fo}{d x y z:D}{f g:UX}{m:Str}{F:DF}
theorem aa5(hs:ρ[i]? = some (some (.opq j)))(hq:q[j]? = some o):S5 i ρ q=some (j,o):=by unfold S5;rw[hs];show(q[j]?).map _=_;rw[hq];rfl
theorem Z1(hs:ρ[i]? = some (some (.opq j)))(hq:q[j]? = some o)(hm:o.k=kd/\(o.l.lookup m).isNone=true)(hF:F o [none]=some (d,o')):uM0 i kd m F ρ q=some (d,q.set j o'):=by
 unfold uM0;rw[aa5 hs hq,xbs,if_pos hm,hF];rfl
theorem U5{f:Rho->Option (List D)}{ds:List D}(hs:ρ[i]? = some (some (.opq j)))(hq:q[j]? = some o)(hm:o.k=kd/\(o.l.lookup m).isNone=true)(hf:f (era ρ)=some ds)(hF:F o (none::ds.map some)=some (d,o')):uM i kd m F f ρ q=some (d,q.set j o'):=by
 unfold uM;rw[aa5 hs hq,xbs,if_pos hm,hf,xbs,hF];rfl
theorem X6{g:Rho->Option MD}{ms:MD}(hs:ρ[i]? = some (some (.opq j)))(hq:q[j]? = some o)(hg:g (era ρ)=some ms)(hF:F o ms=some (d,o')):uD i F g ρ q=some (d,q.set j o'):=by
 unfold uD;rw[aa5 hs hq,xbs,hg,xbs,hF];rfl
theorem aH8(hs:ρ[i]? = some (some (.opq j)))(hq:q[j]? = some o)(hk:o.k=kd)(h:(o.l.lookup m).bind frD=some d):ap9 i kd m ρ q=some (d,q):=by
 unfold ap9;rw[aa5 hs hq,xbs,if_pos hk,h];rfl
theorem A7(h:f ρ q=some (.nx ρ' q')):E2 f g ρ q=g ρ' q':=by unfold E2;rw[h];rfl
theorem O6{f:UD}(h:f ρ q=some (d,q')):Z2 i f ρ q=some (.nx (ρ.set i (‹d›)) q'):=by unfold Z2;rw[h];rfl
theorem T1{f:UD}(h:f ρ q=some (d,q')):uEx f ρ q=some (.nx ρ q'):=by unfold uEx;rw[h];rfl
theorem l5{f:UD}(h:f ρ q=some (d,q')):T2 f ρ q=some (.rt d q'):=by unfold T2;rw[h];rfl
theorem aH6{f:DE}(h:f (era ρ)=some d):uP f ρ q=some (d,q):=by unfold uP;rw[h];rfl
theorem aw7{g:UV}(h:g ρ q=some d):uL g ρ q=some (d,q):=by unfold uL;rw[h];rfl
theorem W5{h:D->D->Option D}{f g:UD}(h1:f ρ q=some (x,q1))(h2:g ρ q1=some (y,q2))(h3:h x y=some z):uB2 h f g ρ q=some (z,q2):=by
 unfold uB2;rw[h1,xbs,h2,xbs,h3];rfl
theorem X7{f:UD}{c:Bool}(h:f ρ q=some (.bool c,q')):uTB f ρ q=some (c,q'):=by unfold uTB;rw[h];rfl
theorem ac8{t:UB}(h:t ρ q=some (false,q')):uIf t f g ρ q=g ρ q':=by unfold uIf;rw[h];rfl
theorem cz7{t:UB}(h:t ρ q=some (true,q')):uIf t f g ρ q=f ρ q':=by unfold uIf;rw[h];rfl
theorem O2{g:UX}{n:Nat}{ms:MD}{q:Fs}(h:O1 n ms=ρ)(e:g ρ [o]=some (.rt d (o'::q))):N7 g n o ms=some (d,o'):=by unfold N7;rw[h,e];rfl
theorem ag0{g:UX}{n:Nat}{ms:MD}{q:Fs}(h:O1 n ms=ρ)(e:g ρ [o]=some (.nx ρ (o'::q))):N7 g n o ms=some (.none,o'):=by unfold N7;rw[h,e];rfl
theorem bV4{F:FnD}{f:UD}(h:f ρ q=some (x,q'))(hF:F [x]=some d):U6 F (ulC f ulN) ρ q=some (d,q'):=by
 unfold U6 ulC;rw[h];show(F [x]).map _=_;rw[hF];rfl
theorem cm7{f g:UD}{xs:List D}{n:Int}(h1:f ρ q=some (.list xs,q1))(h2:g ρ q1=some (.int n,q2))(h3:atI xs n=some d):bk5 f g ρ q=some (d,q2):=by
 unfold bk5;simp only[h1,xbs,aq4,h2,h3,xms]
theorem bt6{f:UD}{xs:List D}(h:f ρ q=some (.list xs,q')):aw8 f ρ q=some (.int xs.length,q'):=by unfold aw8;rw[h];rfl
end
def ob(ws:List Str)(k:Nat):Fo:=⟨false,[("words", .frz (.list (sD ws))),("words_taken", .frz (.int k))]⟩
theorem lk1(ws:List Str)(k:Nat):(bz ("words" : Str) (ob ws k).l).bind frD=some (.list (sD ws)):=by kernel_rfl
theorem lk2(ws:List Str)(k:Nat):(bz ("words_taken" : Str) (ob ws k).l).bind frD=some (.int k):=by kernel_rfl
theorem pt2(ws:List Str)(k:Nat):(⟨false,T3 "words_taken" (.frz (.int ((k:Int)+1))) (ob ws k).l⟩:Fo)=ob ws (k+1):=by kernel_rfl
theorem lk3(ws:List Str)(k:Nat):(ob ws k).k=false/\(bz ("is_at_end" : Str) (ob ws k).l).isNone=true:=⟨rfl,by kernel_rfl⟩
theorem lk4(ws:List Str)(k:Nat):(ob ws k).k=false/\(bz ("word_ahead" : Str) (ob ws k).l).isNone=true:=⟨rfl,by kernel_rfl⟩
theorem lk5(ws:List Str)(k:Nat):(ob ws k).k=false/\(bz ("take_word" : Str) (ob ws k).l).isNone=true:=⟨rfl,by kernel_rfl⟩
theorem cn1(ws:List Str)(k:Nat):ab3 (ob ws k) [none]=some (.bool ((k:Int)==((sD ws).length:Int)),ob ws k) :=
 O2 (ρ:=[some (.opq 0)]) (q:=[]) rfl (l5 (W5 (aH8 rfl rfl rfl (lk2 ws k)) (bt6 (aH8 rfl rfl rfl (lk1 ws k))) (by simp only[bz3])))
theorem dr0{ws r:List Str}{w:Str}{k:Nat}(h:ws.drop k=w::r):k < ws.length/\atI (sD ws) (k:Int)=some (.str w)/\ws.drop (k+1)=r:=by
 have h0:ws[k]? = some w:=by have:=congrArg (·[0]?) h;simpa using this
 obtain⟨hk,e⟩:=ak.mp h0;refine⟨hk,?_,by rw[← List.tail_drop,h];rfl⟩;unfold atI;rw[cm6 (by omega) (by rw[ay];omega),xbs,ci,aE,h0];rfl
theorem cr0{ws r:List Str}{w:Str}{k:Nat}(h:ws.drop k=w::r):u7 (ob ws k) [none]=some (.str w,ob ws k):=by
 obtain⟨h1,h2,_⟩:=dr0 h;have e:((k:Int)==((sD ws).length:Int))=false:=beq_eq_false_iff_ne.mpr (by rw[ay];omega);have e0:=cn1 ws k;rw[e]at e0;refine O2 (ρ:=[some (.opq 0)]) (q:=[]) rfl ?_;unfold ab7;refine(A7 ((ac8 (X7 (Z1 rfl rfl (lk3 ws k) e0))).trans rfl)).trans (l5 ?_);exact cm7 (aH8 rfl rfl rfl (lk1 ws k)) (aH8 rfl rfl rfl (lk2 ws k)) h2
theorem cs1{ws r:List Str}{w:Str}{k:Nat}(h:ws.drop k=w::r):Q2 (ob ws k) [none]=some (.str w,ob ws (k+1)):=by
 refine O2 (ρ:=[some (.opq 0),none]) (q:=[]) rfl ?_;unfold ad7;refine(A7 (O6 (Z1 rfl rfl (lk4 ws k) (cr0 h)))).trans ?_;refine(A7 (ρ':=[some (.opq 0),‹.str w›]) (q':=[ob ws (k+1)]) ?_).trans rfl;have e:uB2 L7 (ap9 0 false "words_taken") (uP ⇑1) [some (.opq 0),‹.str w›] [ob ws k]=some (.int ((k:Int)+1),[ob ws k]):=W5 (aH8 (j:=0) rfl rfl rfl (lk2 ws k)) rfl (ae7 _ _);unfold ak8;show((uB2 L7 (ap9 0 false "words_taken") (uP ⇑1) [some (.opq 0),‹.str w›] [ob ws k]).bind _)=_;rw[e,← pt2];rfl
section
variable {ws r:List Str}{w:Str}{k i j:Nat}{ρ:Rho}{q:Fs}
theorem tk(hs:ρ[i]? = some (some (.opq j)))(hq:q[j]? = some (ob ws k))(h:ws.drop k=w::r):uM0 i false "take_word" Q2 ρ q=some (.str w,q.set j (ob ws (k+1))):=Z1 hs hq (lk5 ws k) (cs1 h)
end
theorem bU9{ws:List Str}:∀(l:List Q4) (ks:List D) (k:Nat) (r:List Str),ks.length=l.length->ws.drop k=l.map spT++r->(∀q∈l,q.ok 1024)->cpT (U6 d9 (ulC (uM0 1 false "take_word" Q2) ulN)) (ob ws k) ks=some (l.map Q4.d,ob ws (k+l.length))
 | [],[],k,r,_,_,_=>rfl
 | [],_::_,_,_,h,_,_=>by simp at h
 | _::_,[],_,_,h,_,_=>by simp at h
 | q::l,x::ks,k,r,h,hd,ho=>by
  have i:=bU9 l ks (k+1) r (by simpa using h) (dr0 hd).2.2 λq hq=>ho q (aj _ hq)
  unfold cpT;rw[bV4 (tk (i:=1) (j:=0) (ρ:=[‹x›,some (.opq 0)]) (q:=[ob ws k]) rfl rfl hd) (cb8 (ho q (aZ ..)))];show(cpT _ (ob ws (k+1)) ks).map _=_;rw[i,aO,show k+(l.length+1)=k+1+l.length by omega];rfl
theorem cu2{ws r:List Str}{k w h:Nat}{l:List Q4}(w3:w<=3)(h3:h<=3)(len:l.length=w*h)(ho:∀q∈l,q.ok 1024)(hd:ws.drop k=szT w h::l.map spT++r):u3 (ob ws k) [none]=some (shD w h l,ob ws (k+1+l.length)):=by
 have wh:w*h<=9:=bI w3 h3;have mwh:R6 (.int w) (.int h)=some (.int ((w*h:Nat):Int)):=j4 (by omega) (by omega);have rn:X8 (A5 R6 (dIx (B1 1) ⇑0) (dIx (B1 1) ⇑1)) [none,‹.tuple [.int w,.int h]›,none]=some ((aU (w*h)).map λk:Nat=>dJ k):=an4 ((Y4 rfl rfl).trans mwh) (by omega);have c:=bU9 (ws:=ws) l ((aU (w*h)).map λk:Nat=>dJ k) (k+1) r (by simp[len]) (dr0 hd).2.2 ho;refine O2 (ρ:=[some (.opq 0),none,none]) (q:=[]) rfl ?_;unfold ah7;refine(A7 (O6 (bV4 (tk rfl rfl hd) (cb7 (w:=w) (h:=h) (by omega) (by omega))))).trans ?_;refine(A7 (ρ':=[some (.opq 0),‹.tuple [.int w,.int h]›,‹.list (l.map Q4.d)›]) (q':=[ob ws (k+1+l.length)]) ?_).trans rfl;unfold bG2;show((X8 (A5 R6 (dIx (B1 1) ⇑0) (dIx (B1 1) ⇑1)) [none,‹.tuple [.int w,.int h]›,none]).bind _)=_;rw[rn];show(if _<=1000 then(cpT _ (ob ws (k+1)) _).map _ else none)=_;rw[if_pos (by simp;omega),c];rfl
end Lk93
namespace Sh
open PySem G L2
theorem aW3{k:Nat}{r:Rat}(h:IsSh k r):∃N,0 < N/\N < 2 ^ k/\Dv N r:=by
 refine⟨r.den,Rat.den_pos r,h.bd.den,?_⟩;have:=Dv.of r.num (Rat.den_pos r)
 rwa [Rat.mkRat_self]at this
theorem bS3(ns:List Int)(k:Nat)(hn:ns.length<=63)(hk:k < 2 ^ 30):∃q:Q4,U4 [scr ns,.int k]=some q.d/\Dq 16 q:=by
 obtain⟨c,a0,a1,a2,e,hc,h0,h1,h2⟩:=bb3 ns k hn hk;refine⟨⟨c,c*a0,c*a1,c*a2⟩,e,?_,?_⟩
 ·exact⟨Rat.mul_nonneg hc.bd.nn h0.bd.nn,Rat.mul_nonneg hc.bd.nn h1.bd.nn,Rat.mul_nonneg hc.bd.nn h2.bd.nn,S7 hc.bd.nn h0.le,S7 hc.bd.nn h1.le,S7 hc.bd.nn h2.le,hc.le⟩
 ·obtain⟨N,n0,n1,d⟩:=aW3 hc;obtain⟨N0,m0,k0,d0⟩:=aW3 h0;obtain⟨N1,m1,k1,d1⟩:=aW3 h1;obtain⟨N2,m2,k2,d2⟩:=aW3 h2;refine⟨N*(N0*(N1*N2)),bF n0 (bF m0 (bF m1 m2)),o8 n1 (o8 k0 (o8 k1 k2)),d.right _,d.mul (d0.right _),d.mul ((d1.right _).left _),d.mul ((d2.left _).left _)⟩
structure Sh2 (j:Nat) (l:List Q4):Prop where
 len:l.length=2
 ok:∀q∈l,Dq j q
theorem Sh2.sh(h:Sh2 j l):ShOk j 2 1 l:=⟨by decide,by decide,by decide,by decide,h.len,λq hq=>(h.ok q hq).ok⟩
theorem Sh2.mono(h:Sh2 j l)(e:j<=k):Sh2 k l:=⟨h.len,λq hq=>(h.ok q hq).mono e⟩
theorem cb3(ns:List Int)(at':Nat)(hn:ns.length<=63)(ha:at' < 2 ^ 20):∃l:List Q4,Q5 [scr ns,.int at',.int 2,.int 1]=some (shD 2 1 l)/\Sh2 16 l:=by
 obtain⟨l,e,n,hl⟩:=al4 (P:=Dq 16) ns at' 2 1 hn ha (by decide) (by decide) (by decide) (by decide) ⟨λk=>if h:k < 1000 then cO (bS3 ns (at'+12*k) hn (by grind)) else q0,λk hk=>by
  simp only[dif_pos hk]
  exact cq (bS3 ns (at'+12*k) hn (by grind))⟩
 exact⟨l,e,n,hl⟩
theorem Dq.bl2(m:Man){j:Nat}{a b:Q4}(h:Dq j a)(g:Dq j b)(l:j<=1300):Dq (j+j) (m.bl a b):=⟨(bB6 m h.ok g.ok (by omega)).2.or,h.n.bl m g.n⟩
theorem co1(m:Man)(h:Sh2 j a)(g:Sh2 j b)(l:j<=1300):M2 [.str m.s,shD 2 1 a,shD 2 1 b]=some (shD 2 1 (blL m a b))/\Sh2 (j+j) (blL m a b):=by
 obtain⟨e,S⟩:=co2 m h.sh g.sh (by omega);refine⟨e,S.len,λq hq=>?_⟩;obtain⟨p,hp,rfl⟩:=bc.mp hq;exact(h.ok p.1 (bu hp).1).bl2 m (g.ok p.2 (bu hp).2) l
end Sh
namespace Lk93
open PySem G L2 Sh
inductive Nm
 | a|b|y|z
 deriving DecidableEq
def Nm.s:Nm->Str
 | .a => "a"
 | .b => "bo"
 | .y => "zz"
 | .z => "zzzzzz"
theorem Nm.inj:∀{j k:Nm},(j.s==k.s)=decide (j=k):=λ{j k}=>by cases j<;>cases k<;>kernel_rfl
abbrev Fn3:=Nm->Option D
def Fn3.up(s:Fn3)(k:Nm)(d:Option D):Fn3:=λj=>if j=k then d else s j
def no3:Fn3:=λ_=>none
theorem cr5(s:Fn3)(k:Nm)(d e:Option D):(s.up k d).up k e=s.up k e:=by funext j;unfold Fn3.up;split<;>rfl
theorem bE7(s:Fn3)(k:Nm):s.up k (s k)=s:=by
 funext j;unfold Fn3.up;split
 ·rename_i h;rw[h]
 ·rfl
theorem bj7(s:Fn3)(k:Nm)(d:Option D):s.up k d k=d:=by unfold Fn3.up;rw[if_pos rfl]
def enK(s:Fn3)(k:Nm):D×D:=(.str k.s,(s k).getD .none)
def Rp(m:List (D×D))(s:Fn3):Prop:=∃ks:List Nm,ks.Nodup/\(∀k,k∈ks↔(s k).isSome=true)/\m=ks.map (enK s)
theorem ar7(s:Fn3)(j k:Nm):T0 k.s (enK s j)=decide (j=k):=by
 show(match (dM j.s:D) with | .str y=>y==k.s|_=>false)=_;exact Nm.inj
theorem bT4{s:Fn3}{k:Nm}(h:¬(s k).isSome=true):s k=none:=by cases e:s k with
 | none=>rfl
 | some _=>rw[e]at h;exact(h rfl).elim
theorem bc6{α:Type}{o:Option α}(h:o.isSome=true)(d:α):some (o.getD d)=o:=by cases o with
 | none=>cases h
 | some _=>rfl
theorem Rp.look(h:Rp m s)(k:Nm):O5 m k.s=s k:=by
 obtain⟨ks,n,i,rfl⟩:=h;unfold O5;rw[List.find?_map]
 have:∀l:List Nm,(∀j,j∈l->(s j).isSome=true)->(l.find? (T0 k.s ∘ enK s))=if k∈l then some k else none:=λl=>by
  induction l with
  | nil=>intro _;rfl
  | cons j l ih =>
   intro hl;rw[bM];show(match T0 k.s (enK s j) with|true=>some j|false=>_)=_;rw[ar7];by_cases e:j=k
   ·subst e;simp
   ·rw[decide_eq_false e,ih λx hx=>hl x (aj _ hx)];simp[show ¬k=j from λz=>e z.symm]
 rw[this ks λj hj=>(i j).mp hj];split
 ·rename_i hk;exact bc6 ((i k).mp hk) _
 ·rename_i hk;exact(bT4 λz=>hk ((i k).mpr z)).symm
theorem br6:∀{ks:List Nm},ks.Nodup->ks.length<=4
 | [],_=>by decide
 | [_],_=>by show 1<=4;decide
 | [_,_],_=>by show 2<=4;decide
 | [_,_,_],_=>by show 3<=4;decide
 | [_,_,_,_],_=>by show 4<=4;decide
 | x::y::w::v::u::r,n=>by
  exfalso;simp only[br,ax,not_or]at n;obtain⟨⟨n1,n2,n3,n7,_⟩,⟨n4,n5,n8,_⟩,⟨n6,n9,_⟩,⟨n10,_⟩,_⟩:=n;cases x<;>cases y<;>first|exact n1 rfl|(cases w<;>first|exact n2 rfl|exact n4 rfl|(cases v<;>first|exact n3 rfl|exact n5 rfl|exact n6 rfl|(cases u<;>first|exact n7 rfl|exact n8 rfl|exact n9 rfl|exact n10 rfl)))
theorem Rp.len(h:Rp m s):m.length<=4:=by
 obtain⟨ks,n,_,rfl⟩:=h;rw[ay];exact br6 n
theorem Rp.nil:Rp [] no3:=⟨[],.nil,λk=>by simp[no3],rfl⟩
theorem Rp.put(h:Rp m s)(k:Nm)(d:D):Rp (aQ1 m k.s d) (s.up k (some d)):=by
 obtain⟨ks,n,i,rfl⟩:=h
 have an:(ks.map (enK s)).any (T0 k.s)=decide (k∈ks):=by
  rw[List.any_map];rw[cu,List.any_eq_true,decide_eq_true_eq];constructor
  ·rintro⟨j,hj,e⟩
   rw[Function.comp,ar7,decide_eq_true_eq]at e;subst e;exact hj
  ·exact λhk=>⟨k,hk,by rw[Function.comp,ar7,decide_eq_true_eq]⟩
 unfold aQ1;rw[an];by_cases hk:k∈ks
 ·rw[if_pos (decide_eq_true hk)];refine⟨ks,n,λj=>?_,?_⟩
  ·rw[i j];unfold Fn3.up;split
   ·rename_i e;subst e;simp[(i j).mp hk]
   ·rfl
  ·rw[aY];refine bG λj hj=>?_
   show(if T0 k.s (enK s j) then _ else _)=_;rw[ar7];unfold enK Fn3.up;by_cases e:j=k
   ·simp[e]
   ·simp[e]
 ·rw[if_neg (by simpa using hk)];refine⟨ks++[k],?_,λj=>?_,?_⟩
  ·rw[List.nodup_append];exact⟨n,by simp,λx hx y hy=>by rw[aM.mp hy];exact λe=>hk (e ▸ hx)⟩
  ·rw[aR,aM,i j];unfold Fn3.up;split
   ·rename_i e;simp[e]
   ·rename_i e;simp[e]
  ·rw[cf]
   congr 1
   ·refine bG λj hj=>?_
    unfold enK Fn3.up;rw[if_neg (show ¬j=k from λe=>hk (e ▸ hj))]
   ·show _=[enK (s.up k (some d)) k];unfold enK;rw[bj7];rfl
theorem Rp.drop(h:Rp m s)(k:Nm):Rp (as9 m k.s) (s.up k none):=by
 obtain⟨ks,n,i,rfl⟩:=h;refine⟨ks.filter λj=>!decide (j=k),n.filter _,λj=>?_,?_⟩
 ·rw[bU,i j];unfold Fn3.up;split
  ·rename_i e;simp[e]
  ·rename_i e;simp[e]
 ·unfold as9;rw[List.filter_map];have:(λkv=>!T0 k.s kv) ∘ enK s=λj=>!decide (j=k):=by funext j;rw[Function.comp,ar7]
  rw[this];refine bG λj hj=>?_
  have:=(bU.mp hj).2;unfold enK Fn3.up;rw[if_neg (by simpa using this)]
def bd3:List Nm:=[.a,.b,.y,.z]
theorem cE5:∀ks:List Nm,ks.Nodup->aI6 (ks.map λk=>(.str k.s:D))=some ((bd3.filter λk=>decide (k∈ks)).map λk=>.str k.s)
 | [],_=>rfl
 | [x],_=>by cases x<;>kernel_rfl
 | [x,y],n=>by
  simp only[br,ax,aP,or_false]at n;obtain⟨n1,_⟩:=n;cases x<;>cases y<;>first|exact(n1 rfl).elim|kernel_rfl
 | [x,y,w],n=>by
  simp only[br,ax,aP,or_false,not_or]at n;obtain⟨⟨n1,n2⟩,n3,_⟩:=n;cases x<;>cases y<;>first|exact(n1 rfl).elim|(cases w<;>first|exact(n2 rfl).elim|exact(n3 rfl).elim|kernel_rfl)
 | [x,y,w,v],n=>by
  simp only[br,ax,aP,or_false,not_or]at n;obtain⟨⟨n1,n2,n3⟩,⟨n4,n5⟩,n6,_⟩:=n;cases x<;>cases y<;>first|exact(n1 rfl).elim|(cases w<;>first|exact(n2 rfl).elim|exact(n4 rfl).elim|(cases v<;>first|exact(n3 rfl).elim|exact(n5 rfl).elim|exact(n6 rfl).elim|kernel_rfl))
 | x::y::w::v::u::r,n=>by
  have:=br6 n;simp at this
def nms(s:Fn3):List Nm:=bd3.filter λk=>(s k).isSome
theorem Rp.names(h:Rp m s):aI6 (m.map (·.1))=some ((nms s).map λk=>.str k.s):=by
 obtain⟨ks,n,i,rfl⟩:=h;rw[aY];refine(cE5 ks n).trans ?_
 congr 2
 unfold nms;refine List.filter_congr λk _=>?_
 rw[cu,decide_eq_true_eq,i k]
theorem ao2{s:Fn3}{k:Nm}:k∈nms s↔(s k).isSome=true:=by
 unfold nms;rw[bU];exact⟨λh=>h.2,λh=>⟨by cases k<;>simp[bd3],h⟩⟩
theorem aY1(s:Fn3):(nms s).length<=4:=by
 unfold nms;exact List.length_filter_le ..
def fo(m:List (D×D))(b f:List D):Fo:=⟨true,[("sheets", .dic m),("steps_back", .lst b),("steps_forth", .lst f)]⟩
section
variable {m:List (D×D)}{b f:List D}{ρ:Rho}{q:Fs}{i j:Nat}{s:Fn3}
theorem fD(hs:ρ[i]? = some (some (.opq j)))(hq:q[j]? = some (fo m b f)):av0 i true "sheets" ρ q=some (j,fo m b f,m):=by unfold av0;rw[aa5 hs hq];kernel_rfl
theorem fB(hs:ρ[i]? = some (some (.opq j)))(hq:q[j]? = some (fo m b f)):aE4 i true "steps_back" ρ q=some (j,fo m b f,b):=by unfold aE4;rw[aa5 hs hq];kernel_rfl
theorem fF(hs:ρ[i]? = some (some (.opq j)))(hq:q[j]? = some (fo m b f)):aE4 i true "steps_forth" ρ q=some (j,fo m b f,f):=by unfold aE4;rw[aa5 hs hq];kernel_rfl
theorem pS'(m':List (D×D)):(⟨(fo m b f).k,T3 "sheets" (.dic m') (fo m b f).l⟩:Fo)=fo m' b f:=by kernel_rfl
theorem pB(b':List D):(⟨(fo m b f).k,T3 "steps_back" (.lst b') (fo m b f).l⟩:Fo)=fo m b' f:=by kernel_rfl
theorem pF(f':List D):(⟨(fo m b f).k,T3 "steps_forth" (.lst f') (fo m b f).l⟩:Fo)=fo m b f':=by kernel_rfl
theorem bs3:(fo m b f).k=true/\((fo m b f).l.lookup ("set_sheet" : Str)).isNone=true:=⟨rfl,by kernel_rfl⟩
theorem aQ9:(fo m b f).k=true/\((fo m b f).l.lookup ("take_step" : Str)).isNone=true:=⟨rfl,by kernel_rfl⟩
theorem bT5:(fo m b f).k=true/\((fo m b f).l.lookup ("lay" : Str)).isNone=true:=⟨rfl,by kernel_rfl⟩
theorem V7:(fo m b f).k=true/\((fo m b f).l.lookup ("fetch" : Str)).isNone=true:=⟨rfl,by kernel_rfl⟩
theorem cx2:(fo m b f).k=true/\((fo m b f).l.lookup ("take_off" : Str)).isNone=true:=⟨rfl,by kernel_rfl⟩
theorem bM2:(fo m b f).k=true/\((fo m b f).l.lookup ("blend" : Str)).isNone=true:=⟨rfl,by kernel_rfl⟩
theorem o6:(fo m b f).k=true/\((fo m b f).l.lookup ("names" : Str)).isNone=true:=⟨rfl,by kernel_rfl⟩
theorem bs5:(fo m b f).k=true/\((fo m b f).l.lookup ("back" : Str)).isNone=true:=⟨rfl,by kernel_rfl⟩
theorem bs4:(fo m b f).k=true/\((fo m b f).l.lookup ("counts" : Str)).isNone=true:=⟨rfl,by kernel_rfl⟩
theorem cg5:(fo m b f).k=true/\((fo m b f).l.lookup ("twin" : Str)).isNone=true:=⟨rfl,by kernel_rfl⟩
theorem br9:am3 true ah6 A2 ρ=some (fo [] [] []):=by kernel_rfl
def noN(x:Option D):Prop:=∀d,x=some d->isB d .none=some (.bool false)
theorem aP9(h:Rp m s)(k:Nm)(x:Option D)(hx:noN x)(hn:x=none->(s k).isSome=true):∃m',W7 (fo m b f) [none,some (.str k.s),some (x.getD .none)]=some (.none,fo m' b f)/\Rp m' (s.up k x):=by
 cases x with
 | none =>
  refine⟨_,?_,h.drop k⟩;refine ag0 (ρ:=[some (.opq 0),‹.str k.s›,some (.val .none)]) (q:=[]) rfl ((cz7 (q':=[fo m b f]) rfl).trans ?_);unfold bC7;rw[fD (j:=0) (m:=m) (b:=b) (f:=f) rfl rfl];show(if(O5 m k.s).isSome=true then some (UF.nx _ (cI [fo m b f] 0 ⟨(fo m b f).k,T3 "sheets" (.dic (as9 m k.s)) (fo m b f).l⟩)) else none)=_;rw[h.look k,if_pos (hn rfl),pS'];rfl
 | some d =>
  refine⟨_,?_,h.put k d⟩;have l:=h.len
  have e:tB2 isB (A1 2) (dC .none) [none,‹.str k.s›,‹d›]=some false:=by
   have:=hx d rfl;simp only[tB2,A5,A1,dC,xg1,xg0,xbs,this,ab1]
  refine ag0 (ρ:=[some (.opq 0),‹.str k.s›,‹d›]) (q:=[]) rfl ((ac8 (q':=[fo m b f]) (by unfold uTP;show(tB2 isB (A1 2) (dC .none) [none,‹.str k.s›,‹d›]).map _=_;rw[e];rfl)).trans ?_);unfold bC6;rw[fD (j:=0) (m:=m) (b:=b) (f:=f) rfl rfl];show(if m.length < 1000 then some (UF.nx _ (cI [fo m b f] 0 ⟨(fo m b f).k,T3 "sheets" (.dic (aQ1 m k.s d)) (fo m b f).l⟩)) else none)=_;rw[if_pos (by omega),pS'];rfl
abbrev stD(w:Str)(k:Nm)(o x:Option D):D:=.tuple [.str w,.str k.s,o.getD .none,x.getD .none]
theorem af7(h:Rp m s)(w:Str)(k:Nm)(x:Option D)(hx:noN x)(hn:x=none->(s k).isSome=true)(hb:b.length < 900):∃m',W6 (fo m b f) [none,some (.str w),some (.str k.s),some (x.getD .none)]=some (.none,fo m' (b++[stD w k (s k) x]) [])/\Rp m' (s.up k x):=by
 obtain⟨m',e,R⟩:=aP9 (b:=b++[stD w k (s k) x]) (f:=[]) h k x hx hn;refine⟨m',?_,R⟩;refine ag0 (ρ:=[some (.opq 0),‹.str w›,‹.str k.s›,‹x.getD .none›]) (q:=[]) rfl ?_;unfold ad8;refine(A7 (ρ':=[some (.opq 0),‹.str w›,‹.str k.s›,‹x.getD .none›]) (q':=[fo m (b++[stD w k (s k) x]) f]) ?_).trans ?_
 ·unfold bb8;rw[fB (j:=0) (m:=m) (b:=b) (f:=f) rfl rfl]
  have g:bb9 0 true "sheets" (vP (A1 2)) [some (.opq 0),‹.str w›,‹.str k.s›,‹x.getD .none›] [fo m b f]=some ((s k).getD .none):=by
   unfold bb9;rw[fD (j:=0) (m:=m) (b:=b) (f:=f) rfl rfl,← h.look k];rfl
  have t:bj0 (vlC (vP (A1 1)) (vlC (vP (A1 2)) (vlC (bb9 0 true "sheets" (vP (A1 2))) (vlC (vP (A1 3)) vlN)))) [some (.opq 0),‹.str w›,‹.str k.s›,‹x.getD .none›] [fo m b f]=some (stD w k (s k) x):=by
   simp only[bj0,vlC,g,vP,era,ag9,xmc,xmn,A1,xg1,xg0,xbs,xms,vlN]
  rw[xbs,t];show(if b.length < 1000 then some (UF.nx _ (cI [fo m b f] 0 ⟨(fo m b f).k,T3 "steps_back" (.lst (b++[stD w k (s k) x])) (fo m b f).l⟩)) else none)=_;rw[if_pos (by omega),pB];rfl
 ·refine(A7 (ρ':=[some (.opq 0),‹.str w›,‹.str k.s›,‹x.getD .none›]) (q':=[fo m (b++[stD w k (s k) x]) []]) ?_).trans (T1 (U5 (j:=0) (ds:=[.str k.s,x.getD .none]) rfl rfl bs3 rfl e));unfold au5;rw[aa5 (j:=0) (o:=fo m (b++[stD w k (s k) x]) f) rfl rfl];show(if(fo m (b++[stD w k (s k) x]) f).k=true/\(fo m (b++[stD w k (s k) x]) f).l.length < 1000 then some (UF.nx _ (cI [fo m (b++[stD w k (s k) x]) f] 0 ⟨_,T3 "steps_forth" (.lst []) (fo m (b++[stD w k (s k) x]) f).l⟩)) else none)=_;rw[if_pos ⟨rfl,by show 3 < 1000;decide⟩,pF];rfl
theorem R7(h:Rp m s)(k:Nm)(e:s k=some d):F5 (fo m b f) [none,some (.str k.s)]=some (d,fo m b f):=by
 have l:=h.look k;rw[e]at l;refine O2 (ρ:=[some (.opq 0),‹.str k.s›]) (q:=[]) rfl ?_;unfold az8;refine(A7 ((ac8 (q':=[fo m b f]) (X7 (aw7 ?_))).trans rfl)).trans (l5 (aw7 ?_))
 ·unfold vIn;rw[fD (j:=0) (m:=m) (b:=b) (f:=f) rfl rfl];show some (dL (!(O5 m k.s).isSome))=_;rw[l];rfl
 ·unfold aU7;rw[fD (j:=0) (m:=m) (b:=b) (f:=f) rfl rfl];exact l
theorem Z9(h:Rp m s):P9 (fo m b f) [none]=some (.list ((nms s).map λk=>.str k.s),fo m b f):=by
 refine O2 (ρ:=[some (.opq 0)]) (q:=[]) rfl (l5 (aw7 ?_));unfold bD6;rw[fD (j:=0) (m:=m) (b:=b) (f:=f) rfl rfl];show(aI6 (m.map (·.1))).map PyData.list=_;rw[h.names];rfl
theorem bt7(h:Rp m s)(k:Nm)(d:D)(hx:noN (some d))(hb:b.length < 900):∃m' c,aN6 (fo m b f) [none,some (.str k.s),some d]=some (.bool c,fo m' (b++[stD "lay" k (s k) (some d)]) [])/\Rp m' (s.up k (some d)):=by
 obtain⟨m',e,R⟩:=af7 (f:=f) h "lay" k (some d) hx (by simp) hb;refine⟨m',(O5 m k.s).isSome,?_,R⟩;refine O2 (ρ:=[some (.opq 0),‹.str k.s›,‹d›,none]) (q:=[]) rfl ?_;unfold bb0
 have t:vIn false 0 true "sheets" (vP (A1 1)) [some (.opq 0),‹.str k.s›,‹d›,none] [fo m b f]=some (.bool (O5 m k.s).isSome):=by
  unfold vIn;rw[fD (j:=0) (m:=m) (b:=b) (f:=f) rfl rfl];rfl
 refine(A7 (O6 (aw7 t))).trans ((A7 (T1 (U5 (j:=0) (ds:=[.str "lay", .str k.s,d]) rfl rfl aQ9 rfl e))).trans rfl)
theorem cf0(h:Rp m s)(k:Nm)(e:s k=some d)(hb:b.length < 900):∃m',u8 (fo m b f) [none,some (.str k.s)]=some (d,fo m' (b++[stD "take" k (s k) none]) [])/\Rp m' (s.up k none):=by
 obtain⟨m',e1,R⟩:=af7 (f:=f) h "take" k none (λd z=>nomatch z) (λ_=>by rw[e];rfl) hb;refine⟨m',?_,R⟩;refine O2 (ρ:=[some (.opq 0),‹.str k.s›,none]) (q:=[]) rfl ?_;unfold ah8;exact(A7 (O6 (U5 (j:=0) (ds:=[.str k.s]) rfl rfl V7 rfl (R7 h k e)))).trans ((A7 (T1 (U5 (j:=0) (ds:=[.str "take", .str k.s,.none]) rfl rfl aQ9 rfl e1))).trans rfl)
theorem bB5(h:Rp m s)(w:Str)(k k2:Nm)(e:s k=some d)(e2:s k2=some d2)(hs:N8 [d,d2]=some (.bool true))(hd:M2 [.str w,d,d2]=some d3)(hx:noN (some d3))(hb:b.length < 900):∃m',ap0 (fo m b f) [none,some (.str w),some (.str k.s),some (.str k2.s)]=some (d3,fo m' (b++[stD "blend" k2 (s k2) (some d3)]) [])/\Rp m' (s.up k2 (some d3)):=by
 obtain⟨m',e1,R⟩:=af7 (f:=f) h "blend" k2 (some d3) hx (by simp) hb;refine⟨m',?_,R⟩;refine O2 (ρ:=[some (.opq 0),‹.str w›,‹.str k.s›,‹.str k2.s›,none,none,none]) (q:=[]) rfl ?_;unfold az9;refine(A7 (O6 (U5 (j:=0) (ds:=[.str k.s]) rfl rfl V7 rfl (R7 h k e)))).trans ?_;refine(A7 (O6 (U5 (j:=0) (ds:=[.str k2.s]) rfl rfl V7 rfl (R7 h k2 e2)))).trans ?_;refine(A7 ((ac8 (q':=[fo m b f]) ?_).trans rfl)).trans ?_
 ·unfold uTP;show(Q6 (W8 (A3 N8 (A0 (A1 4) (A0 (A1 5) A2)))) [none,‹.str w›,‹.str k.s›,‹.str k2.s›,‹d›,‹d2›,none]).map _=_;simp only[Q6,W8,A3,A0,A2,A1,xg1,xg0,xbs,xms,hs,bc3,xnt];rfl
 refine(A7 (O6 (aH6 (d:=d3) ?_))).trans ((A7 (T1 (U5 (j:=0) (ds:=[.str "blend", .str k2.s,d3]) rfl rfl aQ9 rfl e1))).trans rfl);show A3 M2 (A0 (A1 1) (A0 (A1 4) (A0 (A1 5) A2))) [none,‹.str w›,‹.str k.s›,‹.str k2.s›,‹d›,‹d2›,none]=_;simp only[A3,A0,A2,A1,xg1,xg0,xbs,xms,hd]
theorem bu1(l:List D)(x:D):ay1 (l++[x])=some (l,x):=by
 unfold ay1;simp
theorem bh6:at7 (fo m b f) [none]=some (.tuple [.int b.length,.int f.length],fo m b f):=by
 refine O2 (ρ:=[some (.opq 0)]) (q:=[]) rfl (l5 ?_);have t1:ad9 0 true "steps_back" [some (.opq 0)] [fo m b f]=some (.int b.length):=by unfold ad9;rw[fB (j:=0) (m:=m) (b:=b) (f:=f) rfl rfl];rfl
 have t2:ad9 0 true "steps_forth" [some (.opq 0)] [fo m b f]=some (.int f.length):=by unfold ad9;rw[fF (j:=0) (m:=m) (b:=b) (f:=f) rfl rfl];rfl
 simp only[bG1,ulC,uL,t1,t2,ulN,xbs,xms]
theorem bQ6(h:Rp m s)(k:Nm)(w:Str)(o x:Option D)(ho:noN o)(hn:o=none->(s k).isSome=true)(hf:f.length < 900):∃m',aU1 (fo m (b++[stD w k o x]) f) [none]=some (.str w,fo m' b (f++[stD w k o x]))/\Rp m' (s.up k o):=by
 obtain⟨m',e,R⟩:=aP9 (b:=b) (f:=f) h k o ho hn;refine⟨m',?_,R⟩;refine O2 (ρ:=[some (.opq 0),none]) (q:=[]) rfl ?_;unfold aN8;refine(A7 (q':=[fo m (b++[stD w k o x]) f]) (ρ':=[some (.opq 0),none]) ((ac8 (q':=[fo m (b++[stD w k o x]) f]) (X7 (W5 (aw7 (d:=.int (b++[stD w k o x]).length) ?_) rfl ?_))).trans rfl)).trans ?_
 ·unfold ad9;rw[fB (j:=0) (m:=m) (b:=b++[stD w k o x]) (f:=f) rfl rfl];rfl
 ·rw[bz3,beq_eq_false_iff_ne.mpr (by simp;omega)]
 refine(A7 (ρ':=[some (.opq 0),‹stD w k o x›]) (q':=[fo m b f]) (O6 (q':=[fo m b f]) (d:=stD w k o x) ?_)).trans ?_
 ·unfold aV2;rw[fB (j:=0) (m:=m) (b:=b++[stD w k o x]) (f:=f) rfl rfl];show(ay1 (b++[stD w k o x])).map _=_;rw[bu1];show some (_,cI [fo m (b++[stD w k o x]) f] 0 ⟨_,T3 "steps_back" (.lst b) (fo m (b++[stD w k o x]) f).l⟩)=_;rw[pB];rfl
 refine(A7 (T1 (U5 (j:=0) (ds:=[.str k.s,o.getD .none]) rfl rfl bs3 rfl e))).trans ?_;refine(A7 (ρ':=[some (.opq 0),‹stD w k o x›]) (q':=[fo m' b (f++[stD w k o x])]) ?_).trans rfl;unfold bb8;rw[fF (j:=0) (m:=m') (b:=b) (f:=f) rfl rfl];show(if f.length < 1000 then some (UF.nx _ (cI [fo m' b f] 0 ⟨(fo m' b f).k,T3 "steps_forth" (.lst (f++[stD w k o x])) (fo m' b f).l⟩)) else none)=_;rw[if_pos (by omega),pF];rfl
theorem bG6:aU0 (fo m b f) [none]=some (fo m b f,fo m b f):=by kernel_rfl
theorem bO8:X2 (fo m [] f) [none]=some (.bool false,fo m [] f):=by
 have e:rsO (uTB (uB2 eqD (uL (ad9 0 true "steps_back")) (uP ⇑0))) 2 (fo m [] f)=some (fo m [] f):=by
  unfold rsO;have t:uTB (uB2 eqD (uL (ad9 0 true "steps_back")) (uP ⇑0)) [some (.opq 0),none] [fo m [] f]=some (true,[fo m [] f]):=X7 (W5 (aw7 (d:=.int 0) (by unfold ad9;rw[fB (j:=0) (m:=m) (b:=[]) (f:=f) rfl rfl];rfl)) rfl (by rw[bz3];rfl));show(match uTB (uB2 eqD (uL (ad9 0 true "steps_back")) (uP ⇑0)) [some (.opq 0),none] [fo m [] f] with|some (true,[o'])=>some o'|_=>none)=_;rw[t]
 refine O2 (ρ:=[some (.opq 0)]) (q:=[]) rfl ?_;unfold aH9;rw[aa5 (j:=0) (o:=fo m [] f) rfl rfl,xbs,if_pos bs5,e];rfl
end
end Lk93
namespace Sh
open PySem PySem.W G L2
end Sh
namespace Lk93
open PySem G L2 Sh
structure Good (j:Nat) (s:Fn3):Prop where
 g:∀k d,s k=some d->∃l,d=shD 2 1 l/\Sh2 j l
 y:s .y=none
theorem Good.up(h:Good j s)(k:Nm)(hk:k≠.y)(S:Sh2 i l)(a:j<=n)(b:i<=n):Good n (s.up k (some (shD 2 1 l))):=⟨λk' d e=>by
 unfold Fn3.up at e;split at e
 ·cases e;exact⟨l,rfl,S.mono b⟩
 ·obtain⟨l',e1,S'⟩:=h.g k' d e
  exact⟨l',e1,S'.mono a⟩,by unfold Fn3.up;rw[if_neg (Ne.symm hk)];exact h.y⟩
theorem Good.off(h:Good j s)(k:Nm)(a:j<=n):Good n (s.up k none):=⟨λk' d e=>by
 unfold Fn3.up at e;split at e
 ·cases e
 ·obtain⟨l',e1,S'⟩:=h.g k' d e
  exact⟨l',e1,S'.mono a⟩,by unfold Fn3.up;split;rfl;exact h.y⟩
theorem Good.ny(h:Good j s){k:Nm}{d:D}(e:s k=some d):k≠.y:=λz=>by rw[z,h.y]at e;cases e
abbrev sz(i:Nat):Nat:=16*2 ^ (i - 1)
theorem aV5(i:Nat):sz i<=sz (i+1):=by
 show 16*2 ^ (i - 1)<=16*2 ^ i;exact aX _ (aT (by decide) (by omega))
theorem ca3(h:0 < i):sz i+sz i=sz (i+1):=by
 show 16*2 ^ (i - 1)+16*2 ^ (i - 1)=16*2 ^ i;obtain⟨n,rfl⟩:∃n,i=n+1:=⟨i - 1,by omega⟩;rw[Nat.add_sub_cancel,bY];omega
theorem ct6(i:Nat):16<=sz i:=Nat.le_mul_of_pos_right _ (Nat.pow_pos (by decide))
theorem ct7(h:i<=7):sz i<=1300:=aC (aX _ (aT (n:=2) (by decide) (show i - 1<=6 by omega))) (by decide)
theorem bs0(s:Fn3):neD (.list ((nms s).map λk=>.str k.s)) (.list [])=some (.bool !(nms s).isEmpty):=by
 unfold nms bd3;simp only[bH,cV];cases(s .a).isSome<;>cases(s .b).isSome<;>cases(s .y).isSome<;>cases(s .z).isSome<;>kernel_rfl
theorem cw9(k:Nm):neD (.str k.s) (.str "")=some (.bool true):=by cases k<;>kernel_rfl
theorem bs1:neD (.str "") (.str "")=some (.bool false):=by kernel_rfl
theorem co7{l:List Nm}{n:Nat}(h:n < l.length):atI (l.map λk=>(.str k.s:D)) (n:Int)=some (.str l[n].s):=by
 have:ixN (l.map λk=>(.str k.s:D)).length (n:Int)=some n:=by
  unfold ixN;rw[ay];simp[h]
 unfold atI;rw[this,xbs,aE,aV h];rfl
theorem nm3:∀n:Nat,n < 3->∃k:Nm,k≠.y/\atI ([.str "a", .str "bo", .str "zzzzzz"]:List D) (n:Int)=some (.str k.s)
 | 0,_=>⟨.a,by decide,rfl⟩
 | 1,_=>⟨.b,by decide,rfl⟩
 | 2,_=>⟨.z,by decide,rfl⟩
theorem cF4:∀n:Nat,n < 4->∃m:Man,atI ([.str "over", .str "multiply", .str "screen", .str "plus"]:List D) (n:Int)=some (.str m.s)
 | 0,_=>⟨.over,rfl⟩
 | 1,_=>⟨.mult,rfl⟩
 | 2,_=>⟨.screen,rfl⟩
 | 3,_=>⟨.plus,rfl⟩
section
variable {ns:List Int}{k i:Nat}{s:Fn3}
theorem drw(hn:ns.length<=63)(hk:k < 2 ^ 18)(j m:Nat)(hj:j < 10)(hm:0 < m):∃n:Nat,B2 [scr ns,.int ((k:Int)+(j:Nat)),.int m]=some (.int n)/\n < m:=by
 obtain⟨n,e,l⟩:=j6 ns (k+j) m hn (by omega) hm;exact⟨n,by rw[← e];simp,l⟩
abbrev r4(ns:List Int)(k:Nat)(x:Option B)(y:Option B)(z w:Option B):Rho:=[‹scr ns›,‹.int k›,some (.opq 0),x,y,z,w]
def nmE(j:Int):DE:=ad1 (tB2 neD (A1 3) (r6 A2)) (dIx (B1 3) (A3 B2 (A0 (A1 0) (A0 (A5 L7 (A1 1) (dC (.int j))) (A0 (ad0 (B1 3)) A2))))) (dC (.str ""))
theorem br8(j:Nat)(s:Fn3)(h:nms s=[])(y z:Option B):nmE j [‹scr ns›,‹.int k›,none,‹.list ((nms s).map λk=>.str k.s)›,y,z,none]=some (.str ""):=by
 have e:=bs0 s;rw[h]at e ⊢;have e:neD (.list []) (.list [])=some (.bool false):=e;unfold nmE ad1
 wp_walk using evD,xmn,e
theorem aJ7(hn:ns.length<=63)(hk:k < 2 ^ 18)(j:Nat)(hj:j < 10)(s:Fn3)(h:(nms s).isEmpty=false)(y z:Option B):∃a∈nms s,nmE j [‹scr ns›,‹.int k›,none,‹.list ((nms s).map λk=>.str k.s)›,y,z,none]=some (.str a.s):=by
 have e:=bs0 s;rw[h]at e
 have hl:0 < (nms s).length:=by cases q:nms s with
  | nil=>rw[q]at h;cases h
  | cons=>simp
 obtain⟨n,e1,l1⟩:=drw (k:=k) hn hk j (nms s).length hj hl;refine⟨(nms s)[n],List.getElem_mem l1,?_⟩;have e2:=co7 l1;have e3:((nms s).map λk=>(.str k.s:D)).length=(nms s).length:=ay ..;unfold nmE ad1
 wp_walk using evD,e,xnf,e3,e1,e2
noncomputable abbrev hd4(g:UX):UX:=E2 (Z2 3 (uM0 2 true "names" P9)) (E2 (Z2 4 (uP (A3 B2 (A0 (A1 0) (A0 (A1 1) (A0 ⇑5 A2)))))) (E2 (Z2 5 (uP (nmE 1))) (E2 (Z2 6 (uP (nmE 2))) g)))
theorem cm8(hn:ns.length<=63)(hk:k < 2 ^ 18)(s:Fn3):∃(w:Nat) (nm:D) (x y:Str),w < 5/\((x = "" /\ nms s=[])\/∃a∈nms s,∃b∈nms s,x=a.s/\y=b.s) /\
  ∀m b f g,Rp m s->hd4 g (r4 ns k none none none none) [fo m b f]=g (r4 ns k (‹nm›) (‹.int w›) (‹.str x›) (‹.str y›)) [fo m b f]:=by
 obtain⟨w,e0,lw⟩:=j6 ns k 5 hn (by omega) (by decide);have e0:B2 [scr ns,.int k,.int 5]=some (.int w):=e0
 have go:∀x y:Str,nmE 1 [‹scr ns›,‹.int k›,none,‹.list ((nms s).map λk=>.str k.s)›,‹.int w›,none,none]=some (.str x)->nmE 2 [‹scr ns›,‹.int k›,none,‹.list ((nms s).map λk=>.str k.s)›,‹.int w›,‹.str x›,none]=some (.str y) ->
   ∀m b f g,Rp m s->hd4 g (r4 ns k none none none none) [fo m b f]=g (r4 ns k (‹.list ((nms s).map λk=>.str k.s)›) (‹.int w›) (‹.str x›) (‹.str y›)) [fo m b f]:=λx y e1 e2 m b f g R=>by
  refine(A7 (ρ':=r4 ns k (‹.list ((nms s).map λk=>.str k.s)›) none none none) (q':=[fo m b f]) (O6 (Z1 (j:=0) rfl rfl o6 (Z9 R)))).trans ?_;refine(A7 (ρ':=r4 ns k (‹.list ((nms s).map λk=>.str k.s)›) (‹.int w›) none none) (q':=[fo m b f]) (O6 (aH6 ?_))).trans ?_
  ·wp_walk using evD,era,ag9,e0
  refine(A7 (ρ':=r4 ns k (‹.list ((nms s).map λk=>.str k.s)›) (‹.int w›) (‹.str x›) none) (q':=[fo m b f]) (O6 (aH6 e1))).trans ?_;exact A7 (O6 (aH6 e2))
 cases h:(nms s).isEmpty with
 | true =>
  have h':nms s=[]:=List.isEmpty_iff.mp h;exact⟨w,_, "", "", lw,.inl ⟨rfl,h'⟩,go "" "" (br8 1 _ h' _ _) (br8 2 _ h' _ _)⟩
 | false =>
  obtain⟨a,ha,e1⟩:=aJ7 (k:=k) hn hk 1 (by decide) _ h (‹.int w›) none;obtain⟨b,hb,e2⟩:=aJ7 (k:=k) hn hk 2 (by decide) _ h (‹.int w›) (‹.str a.s›);exact⟨w,_,a.s,b.s,lw,.inr ⟨a,ha,b,hb,rfl,rfl⟩,go a.s b.s e1 e2⟩
def bL9:UX:=uEx (uM 2 true "lay" aN6 (A0 (dIx (qN (A0 (dC (.str "a")) (A0 (dC (.str "bo")) (A0 (dC (.str "zzzzzz")) A2)))) (A3 B2 (A0 (A1 0) (A0 (A5 L7 (A1 1) ⇑4) (A0 ⇑3 A2))))) (A0 (A3 Q5 (A0 (A1 0) (A0 (A5 L7 (A1 1) ⇑5) (A0 ⇑2 (A0 ⇑1 A2))))) A2)))
def cg1:UX:=uEx (uM 2 true "take_off" u8 (A0 (A1 5) A2))
def oBl:UX:=uEx (uM 2 true "blend" ap0 (A0 (dIx (qN (A0 (dC (.str "over")) (A0 (dC (.str "multiply")) (A0 (dC (.str "screen")) (A0 (dC (.str "plus")) A2))))) (A3 B2 (A0 (A1 0) (A0 (A5 L7 (A1 1) ⇑3) (A0 ⇑4 A2))))) (A0 (A1 5) (A0 (A1 6) A2))))
def oTl:UX:=uIf (uTP (aw9 (tB2 eqD (A1 4) ⇑0) (tB2 neD (A1 5) (dC (.str ""))))) cg1 (uIf (am2 (uTP (tB2 ltI (A1 4) ⇑3)) (am2 (uTP (tB2 neD (A1 5) (dC (.str "")))) (uTB (uB2 eqD (uSl (uM 2 true "fetch" F5 (A0 (A1 5) A2)) T7 (T6 ⇑2)) (uSl (uM 2 true "fetch" F5 (A0 (A1 6) A2)) T7 (T6 ⇑2)))))) oBl bL9)
def Res(g:UX)(ρ:Rho)(j:Nat)(s:Fn3):Prop:=∃(s':Fn3) (e:D),Good j s'/\∀m b f,Rp m s->b.length < 800->∃m',g ρ [fo m b f]=some (.nx ρ [fo m' (b++[e]) []])/\Rp m' s'
theorem aC1{g g':UX}{ρ:Rho}(h:∀m b f,Rp m s->g ρ [fo m b f]=g' ρ [fo m b f])(R:Res g' ρ j s):Res g ρ j s:=by
 obtain⟨s',e,G,a⟩:=R;exact⟨s',e,G,λm b f r l=>by rw[h m b f r];exact a m b f r l⟩
theorem bt8(hn:ns.length<=63)(hk:k < 2 ^ 18)(G:Good (sz i) s)(x y z w:Option B):Res bL9 (r4 ns k x y z w) (sz (i+1)) s:=by
 obtain⟨n,e1,l1⟩:=drw (k:=k) hn hk 4 3 (by decide) (by decide);obtain⟨a,hy,e2⟩:=nm3 n l1;obtain⟨l,e3,S⟩:=cb3 ns (k+5) hn (by omega);have e3:Q5 [scr ns,.int ((k:Int)+5),.int 2,.int 1]=some (shD 2 1 l):=by rw[← e3];simp
 have e1:B2 [scr ns,.int ((k:Int)+4),.int 3]=some (.int n):=e1;refine⟨s.up a (some (shD 2 1 l)),stD "lay" a (s a) (some (shD 2 1 l)),G.up a hy S (aV5 i) (aC (ct6 i) (aV5 i)),λm b f r h=>?_⟩;obtain⟨m',c,e4,R⟩:=bt7 (b:=b) (f:=f) r a (shD 2 1 l) (λd e=>by cases e;rfl) (by omega);refine⟨m',T1 (U5 (j:=0) (ds:=[.str a.s,shD 2 1 l]) rfl rfl bT5 ?_ e4),R⟩
 wp_walk using evD,era,ag9,e1,e2,e3
theorem cf1(G:Good (sz i) s)(a:Nm)(ha:(s a).isSome=true)(x y w:Option B):Res cg1 (r4 ns k x y (‹.str a.s›) w) (sz (i+1)) s:=by
 obtain⟨d,hd⟩:=bD.mp ha;refine⟨s.up a none,stD "take" a (s a) none,G.off a (aV5 i),λm b f r h=>?_⟩;obtain⟨m',e4,R⟩:=cf0 (b:=b) (f:=f) r a hd (by omega);exact⟨m',T1 (U5 (j:=0) (ds:=[.str a.s]) rfl rfl cx2 rfl e4),R⟩
theorem cB2(hn:ns.length<=63)(hk:k < 2 ^ 18)(G:Good (sz i) s)(h0:0 < i)(hi:i<=6)(a b:Nm)(ha:s a=some (shD 2 1 la))(Sa:Sh2 (sz i) la)(hb:s b=some (shD 2 1 lb))(Sb:Sh2 (sz i) lb)(x y:Option B):Res oBl (r4 ns k x y (‹.str a.s›) (‹.str b.s›)) (sz (i+1)) s:=by
 obtain⟨n,e1,l1⟩:=drw (k:=k) hn hk 3 4 (by decide) (by decide);have e1:B2 [scr ns,.int ((k:Int)+3),.int 4]=some (.int n):=e1;obtain⟨M,e2⟩:=cF4 n l1;obtain⟨eb,S⟩:=co1 M Sa Sb (ct7 (by omega));rw[ca3 h0]at S
 have z:N8 [shD 2 1 la,shD 2 1 lb]=some (.bool true):=by
  refine B7 (ρ:=[‹shD 2 1 la›,‹shD 2 1 lb›]) rfl ?_
  wp_walk using evD,d8,shD
  first|rfl|simp
 refine⟨s.up b (some (shD 2 1 (blL M la lb))),stD "blend" b (s b) (some (shD 2 1 (blL M la lb))),G.up b (G.ny hb) S (aV5 i) (ai _),λm c f r h=>?_⟩;obtain⟨m',e4,R⟩:=bB5 (f:=f) r M.s a b ha hb z eb (λd e=>by cases e;rfl) (show c.length < 900 by omega);refine⟨m',T1 (U5 (j:=0) (ds:=[.str M.s,.str a.s,.str b.s]) rfl rfl bM2 ?_ e4),R⟩
 wp_walk using evD,era,ag9,e1,e2
theorem cG8:eqD (.tuple [.int 2,.int 1]) (.tuple [.int 2,.int 1])=some (.bool true):=by kernel_rfl
theorem cs6(hn:ns.length<=63)(hk:k < 2 ^ 18)(G:Good (sz i) s)(h0:nms s≠[]->0 < i)(hi:i<=6){w:Nat}{nm:D}{x y:Str}(h:(x = "" /\ nms s=[])\/∃a∈nms s,∃b∈nms s,x=a.s/\y=b.s):
  Res oTl (r4 ns k (‹nm›) (‹.int w›) (‹.str x›) (‹.str y›)) (sz (i+1)) s:=by
 have cw:((w:Int)==0)=decide (w=0):=by cases w with
  | zero=>rfl
  | succ n=>rw[decide_eq_false (by omega)];exact beq_eq_false_iff_ne.mpr (by omega)
 rcases h with⟨rfl,h⟩|⟨a,ha,b,hb,rfl,rfl⟩
 ·refine aC1 (g':=bL9) (λm b f r=>?_) (bt8 hn hk G (‹nm›) (‹.int w›) (‹.str ""›) (‹.str y›));by_cases w0:w=0
  ·subst w0
   wp_walk using evD,oTl,uIf,uTP,am2,era,ag9,bs1,cw,decide_eq_true,show((0:Nat):Int)=0 from rfl,beq_self_eq_true,show decide ((0:Int) < 3)=true from rfl
  ·by_cases w3:(w:Int) < 3
   ·wp_walk using evD,oTl,uIf,uTP,am2,era,ag9,bs1,cw,decide_eq_false w0,decide_eq_true w3
   ·wp_walk using evD,oTl,uIf,uTP,am2,era,ag9,bs1,cw,decide_eq_false w0,decide_eq_false w3
 ·have sa:=ao2.mp ha;have sb:=ao2.mp hb;have na:=cw9 a;by_cases w0:w=0
  ·refine aC1 (g':=cg1) (λm b f r=>?_) (cf1 (ns:=ns) (k:=k) G a sa (‹nm›) (‹.int w›) (‹.str b.s›))
   wp_walk using evD,oTl,uIf,uTP,am2,era,ag9,na,cw,decide_eq_true w0
  ·by_cases w3:(w:Int) < 3
   ·obtain⟨da,ea⟩:=bD.mp sa;obtain⟨db,eb⟩:=bD.mp sb;obtain⟨la,rfl,Sa⟩:=G.g a da ea;obtain⟨lb,rfl,Sb⟩:=G.g b db eb;refine aC1 (g':=oBl) (λm c f r=>?_) (cB2 hn hk G (h0 λz=>by rw[z]at ha;cases ha) hi a b ea Sa eb Sb (‹nm›) (‹.int w›));have u1:uM 2 true "fetch" F5 (A0 (A1 5) A2) (r4 ns k (‹nm›) (‹.int w›) (‹.str a.s›) (‹.str b.s›)) [fo m c f]=some (shD 2 1 la,[fo m c f]):=U5 (j:=0) (ds:=[.str a.s]) rfl rfl V7 rfl (R7 r a ea);have u2:uM 2 true "fetch" F5 (A0 (A1 6) A2) (r4 ns k (‹nm›) (‹.int w›) (‹.str a.s›) (‹.str b.s›)) [fo m c f]=some (shD 2 1 lb,[fo m c f]):=U5 (j:=0) (ds:=[.str b.s]) rfl rfl V7 rfl (R7 r b eb);have t1:∀l:List Q4,cs2 (shD 2 1 l)=some [.int 2,.int 1,.tuple (l.map Q4.d)]:=λ_=>rfl
    have v1:uSl (uM 2 true "fetch" F5 (A0 (A1 5) A2)) T7 (T6 ⇑2) (r4 ns k (‹nm›) (‹.int w›) (‹.str a.s›) (‹.str b.s›)) [fo m c f]=some (.tuple [.int 2,.int 1],[fo m c f]):=by
     unfold uSl;rw[u1];rfl
    have v2:uSl (uM 2 true "fetch" F5 (A0 (A1 6) A2)) T7 (T6 ⇑2) (r4 ns k (‹nm›) (‹.int w›) (‹.str a.s›) (‹.str b.s›)) [fo m c f]=some (.tuple [.int 2,.int 1],[fo m c f]):=by
     unfold uSl;rw[u2];rfl
    have v3:=X7 (W5 v1 v2 cG8);have p1:uTP (aw9 (tB2 eqD (A1 4) ⇑0) (tB2 neD (A1 5) (dC (.str "")))) (r4 ns k (‹nm›) (‹.int w›) (‹.str a.s›) (‹.str b.s›)) [fo m c f]=some (false,[fo m c f]):=by wp_walk using evD,uTP,era,ag9,na,cw,decide_eq_false w0
    have p2:uTP (tB2 ltI (A1 4) ⇑3) (r4 ns k (‹nm›) (‹.int w›) (‹.str a.s›) (‹.str b.s›)) [fo m c f]=some (true,[fo m c f]):=by wp_walk using evD,uTP,era,ag9,na,cw,decide_eq_true w3
    have p3:uTP (tB2 neD (A1 5) (dC (.str ""))) (r4 ns k (‹nm›) (‹.int w›) (‹.str a.s›) (‹.str b.s›)) [fo m c f]=some (true,[fo m c f]):=by wp_walk using evD,uTP,era,ag9,na
    unfold oTl;rw[ac8 p1];refine cz7 (q':=[fo m c f]) ?_;unfold am2;rw[p2];show(uTP _ _ _).bind _=_;rw[p3];exact v3
   ·refine aC1 (g':=bL9) (λm b f r=>?_) (bt8 hn hk G (‹nm›) (‹.int w›) (‹.str a.s›) (‹.str b.s›))
    wp_walk using evD,oTl,uIf,uTP,am2,era,ag9,na,cw,decide_eq_false w0,decide_eq_false w3
theorem aV6(hn:ns.length<=63)(hk:k < 2 ^ 18)(G:Good (sz i) s)(h0:nms s≠[]->0 < i)(hi:i<=6):∃(s':Fn3) (e:D),Good (sz (i+1)) s'/\∀m b f,Rp m s->b.length < 800->∃m',P0 (fo m b f) [some (scr ns),some (.int k),none]=some (.none,fo m' (b++[e]) [])/\Rp m' s':=by
 obtain⟨w,nm,x,y,_,h,e⟩:=cm8 (k:=k) hn hk s;obtain⟨s',e2,G',a⟩:=cs6 (nm:=nm) (w:=w) hn hk G h0 hi h;refine⟨s',e2,G',λm b f r l=>?_⟩;obtain⟨m',e3,R⟩:=a m b f r l;refine⟨m',?_,R⟩;unfold P0 N7;have:aN9 (O1 7 [some (scr ns),some (.int k),none]) [fo m b f]=some (.nx _ [fo m' (b++[e2]) []]):=(e m b f oTl r).trans e3;rw[this];rfl
end
end Lk93
namespace Lk93
open PySem G L2 Sh
structure Tr where
 w:Nat
 h:Nat
 l:List Q4
def Tr.d(t:Tr):D:=shD t.w t.h t.l
structure Tr.ok (t:Tr):Prop where
 w1:1<=t.w
 w3:t.w<=3
 h1:1<=t.h
 h3:t.h<=3
 len:t.l.length=t.w*t.h
 ok:∀q∈t.l,q.ok 1024
theorem Tr.ok.l9{t:Tr}(h:t.ok):t.l.length<=9:=by rw[h.len];exact bI h.w3 h.h3
theorem Tr.ok.sh{t:Tr}(h:t.ok):ShOk 1024 t.w t.h t.l:=⟨h.w1,aC h.w3 (by decide),h.h1,aC h.h3 (by decide),h.len,h.ok⟩
abbrev Ty:=Nm->Option Tr
def dS(S:Ty):Fn3:=λk=>(S k).map Tr.d
def okS(S:Ty):Prop:=∀k t,S k=some t->t.ok
theorem bk6{s:Fn3}(h:Good j s)(hj:j<=1024):∃S:Ty,s=dS S/\okS S:=by
 have key:∀k,∃t:Option Tr,s k=t.map Tr.d/\∀x,t=some x->x.ok:=λk=>by
  cases e:s k with
  | none=>exact⟨none,rfl,λx z=>nomatch z⟩
  | some d =>
   obtain⟨l,rfl,S⟩:=h.g k d e;exact⟨some ⟨2,1,l⟩,rfl,λx z=>by cases z;exact⟨by show 1<=2;decide,by show 2<=3;decide,by show 1<=1;decide,by show 1<=3;decide,S.len,λq hq=>(S.ok q hq).ok.mono hj⟩⟩
 obtain⟨S,hS⟩:=Classical.axiomOfChoice key;exact⟨S,funext λk=>(hS k).1,λk t e=>(hS k).2 t e⟩
def wl(k:Nm)(t:Tr):List Str:=k.s::szT t.w t.h::t.l.map spT
abbrev pW(c:Nat):Prop:=47<=c/\c<=122
theorem br7(k:Nm):Al pW k.s/\k.s.length<=6:=by cases k<;>exact⟨by unfold Al;decide +kernel,by decide +kernel⟩
theorem bS0(t:Tr)(h:t.ok):Al pW (szT t.w t.h)/\(szT t.w t.h).length<=619:=by
 have w3:=h.w3;have h3:=h.h3;have a1:=Z8 (n:=t.w) (g8 (by omega));have a2:=Z8 (n:=t.h) (g8 (by omega));have i:∀c,pN c->pW c:=λc h=>⟨by omega,by omega⟩
 refine⟨((Al.imp a1.d i).app (Al.sg ⟨by decide,by decide⟩)).app (Al.imp a2.d i),?_⟩;have l1:=a1.l2;have l2:=a2.l2;unfold szT;rw[o9,o9,show(sg 120).length=1 from rfl];omega
theorem ct9{q:Q4}(h:q.ok 1024):Al pW (spT q)/\(spT q).length<=2480:=by
 have b:=bn7 h
 have w:∀v∈(qr q).map shT,Al pS v/\v.length<=619:=λv hv=>by
  obtain⟨r,hr,rfl⟩:=bc.mp hv;exact aP7 (b r hr)
 exact⟨Al.gl ⟨by decide,by decide⟩ λv hv=>(w v hv).1.imp λc h=>⟨h.1,by omega⟩,as4 (c:=58) (b:=619) λv hv=>(w v hv).2⟩
theorem aH4{t:Tr}(h:t.ok)(k:Nm):∀v∈wl k t,Al pW v/\v.length<=2480:=λv hv=>by
 rcases ax.mp hv with rfl|hv
 ·exact⟨(br7 k).1,aC (br7 k).2 (by decide)⟩
 ·rcases ax.mp hv with rfl|hv
  ·exact⟨(bS0 t h).1,aC (bS0 t h).2 (by decide)⟩
  ·obtain⟨q,hq,rfl⟩:=bc.mp hv;exact ct9 (h.ok q hq)
theorem aO6{t:Tr}(h:t.ok)(k:Nm):(wl k t).length<=11:=by have:=h.l9;simp[wl];omega
def lnT(k:Nm)(t:Tr):Str:=gl 32 (wl k t)
theorem bT7{t:Tr}(h:t.ok)(k:Nm):Al (λc=>32<=c/\c<=122) (lnT k t)/\(lnT k t).length<=27291:=by
 have l:=as4 (c:=32) (b:=2480) λv hv=>(aH4 h k v hv).2
 have l2:=aO6 h k;refine⟨Al.gl ⟨by decide,by decide⟩ λv hv=>(aH4 h k v hv).1.imp λc h=>⟨by omega,h.2⟩,?_⟩;have:(2480+1)*(wl k t).length<=2481*11:=aX _ l2;unfold lnT;omega
theorem bM4{t:Tr}(h:t.ok)(k:Nm):V2 [.str k.s,t.d]=some (.str (lnT k t++sg 10)):=by
 have w3:=h.w3;have h3:=h.h3;have l9:=h.l9;have ws:=bW8 (w:=t.w) (h:=t.h) (by omega) (by omega) (l:=t.l) (by omega) h.ok;have l11:=aO6 h k
 have e:qE (A5 L7 (r6 (A0 (A1 0) A2)) (A3 O3 (A0 (A1 1) A2))) [‹.str k.s›,‹t.d›]=some (false,sD (wl k t)):=by
  have c:L7 (.list [.str k.s]) (.list (sD (szT t.w t.h::t.l.map spT)))=some (.list (sD (wl k t))):=ba4 (by simp;omega);have a1:r6 (A0 (A1 0) A2) [‹.str k.s›,‹t.d›]=some (.list [.str k.s]):=rfl;have a2:A3 O3 (A0 (A1 1) A2) [‹.str k.s›,‹t.d›]=some (.list (sD (szT t.w t.h::t.l.map spT))):=ws;unfold qE;rw[Y4 a1 a2,c];rfl
 have j:=bU7 (b:=2480) bl_ e (λv hv=>(aH4 h k v hv).2) (aC (aX _ l11) (by decide));have ll:=(bT7 h k).2
 have c2:L7 (.str (lnT k t)) (.str "\n")=some (.str (lnT k t++sg 10)):=by
  rw[nl_];exact ao9 (by rw[show(sg 10).length=1 from rfl];omega)
 refine B7 (ρ:=[‹.str k.s›,‹t.d›]) rfl ?_;unfold aA0 C5;rw[Y4 j rfl,show gl 32 (wl k t)=lnT k t from rfl,c2];rfl
theorem aT0:∀ls:List Str,cat (ls.map (·++sg 10))=cl (gl 10 (ls++[dR]))
 | []=>rfl
 | x::r=>by
  have i:=aT0 r;rw[ba3]at i ⊢;show cl (x++sg 10)++cat (r.map (·++sg 10))=jl 10 (cl x::(r++[dR]).map cl);rw[i,i4,show cl (sg 10)=[10] from rfl];cases r with
  | nil=>simp[jl]
  | cons y r=>simp[jl]
def lns(S:Ty):List Str:=(nms (dS S)).map λk=>lnT k ((S k).getD ⟨0,0,[]⟩)
abbrev txt(S:Ty):Str:=gl 10 (lns S++[dR])
section
variable {S:Ty}{m:List (D×D)}{b f:List D}{s:Fn3}
theorem ar4{k:Nm}(h:k∈nms (dS S)):∃t,S k=some t/\dS S k=some t.d:=by
 have:=ao2.mp h;unfold dS at this ⊢;cases e:S k with
 | none=>rw[e]at this;cases this
 | some t=>exact⟨t,rfl,rfl⟩
theorem bt5(O:okS S):∀v∈lns S,Al (λc=>32<=c/\c<=122) v/\v.length<=27291:=λv hv=>by
 obtain⟨k,hk,rfl⟩:=bc.mp hv;obtain⟨t,e,_⟩:=ar4 hk;rw[e];exact bT7 (O k t e) k
theorem aD4(S:Ty):(lns S).length<=4:=by unfold lns;rw[ay];exact aY1 _
theorem aI1(O:okS S):∀v∈lns S++[dR],Al (λc=>32<=c/\c<=122) v/\v.length<=27291:=λv hv=>by
 rcases aR.mp hv with q|q
 ·exact bt5 O v q
 ·rw[aM.mp q];exact⟨(λc hc=>by simp[cl,dR]at hc),by decide⟩
theorem bG3(O:okS S):(txt S).length<=136460:=by
 have l:=as4 (c:=10) (b:=27291) λv hv=>(aI1 O v hv).2
 have l2:=aD4 S;rw[aG,bW]at l;have:(27291+1)*((lns S).length+1)<=27292*5:=aX _ (by omega);show(gl 10 (lns S++[dR])).length<=_;omega
theorem ai1(O:okS S):Al (λc=>c < 128) (txt S):=Al.gl (by decide) λv hv=>(aI1 O v hv).1.imp λc h=>by omega
theorem bA6(R:Rp m (dS S))(O:okS S):∀l:List Nm,(∀k∈l,k∈nms (dS S))->cpT (U6 V2 (ulC (uP (A1 0)) (ulC (uM 1 true "fetch" F5 (A0 (A1 0) A2)) ulN))) (fo m b f) (l.map λk=>.str k.s)=some (sD ((l.map λk=>lnT k ((S k).getD ⟨0,0,[]⟩)).map (·++sg 10)),fo m b f)
 | [],_=>rfl
 | k::l,hl=>by
  obtain⟨t,e,e2⟩:=ar4 (hl k (by simp));have i:=bA6 R O l λj hj=>hl j (aj _ hj)
  have u:uM 1 true "fetch" F5 (A0 (A1 0) A2) [‹.str k.s›,some (.opq 0)] [fo m b f]=some (t.d,[fo m b f]):=U5 (j:=0) (ds:=[.str k.s]) rfl rfl V7 rfl (R7 R k e2)
  have c:U6 V2 (ulC (uP (A1 0)) (ulC (uM 1 true "fetch" F5 (A0 (A1 0) A2)) ulN)) [‹.str k.s›,some (.opq 0)] [fo m b f]=some (.str (lnT k t++sg 10),[fo m b f]):=by
   have v:uP (A1 0) [‹.str k.s›,some (.opq 0)] [fo m b f]=some (.str k.s,[fo m b f]):=rfl;simp only[U6,ulC,v,u,ulN,xbs,xms,bM4 (O k t e) k]
  show(U6 V2 _ [‹.str k.s›,some (.opq 0)] [fo m b f]).bind _=_;rw[c];show(cpT _ (fo m b f) (l.map λk=>.str k.s)).map _=_;rw[i,xmc,xmc,e];rfl
theorem ad5(R:Rp m (dS S))(O:okS S):B5 (fo m b f) [none]=some (.str (txt S),fo m b f):=by
 have e1:uM0 0 true "names" P9 [some (.opq 0)] [fo m b f]=some (.list ((nms (dS S)).map λk=>.str k.s),[fo m b f]):=Z1 (j:=0) rfl rfl o6 (Z9 R);have e2:=bA6 (b:=b) (f:=f) R O (nms (dS S)) λ_ h=>h
 have e3:uCp 0 (uM0 0 true "names" P9) (U6 V2 (ulC (uP (A1 0)) (ulC (uM 1 true "fetch" F5 (A0 (A1 0) A2)) ulN))) [some (.opq 0)] [fo m b f]=some (.list (sD ((lns S).map (·++sg 10))),[fo m b f]):=by
  unfold uCp;rw[e1,xbs];simp only[cx5,xbs];rw[aa5 (j:=0) (o:=fo m b f) rfl rfl,xbs,if_pos (by rw[ay];exact aC (aY1 _) (by decide)),e2];rfl
 have l:=bG3 O;have gd:Builtin.Str.glued "" ((lns S).map (·++sg 10))=txt S:=aj9 (by rw[ay6,aT0]);have jn:P7 "" ((lns S).map (·++sg 10))=(txt S).length:=by rw[aL2,aT0,T9]
 refine O2 (ρ:=[some (.opq 0)]) (q:=[]) rfl (l5 ?_);unfold uJn;rw[e3];show(w9 (sD ((lns S).map (·++sg 10)))).bind _=_;rw[aB4,xbs,if_pos ⟨by rw[jn];omega,by rw[gd];omega⟩,gd]
theorem bM1(k:Nm):k9 [.str k.s]=some (.bool true):=by
 refine be5 ⟨k.s,rfl,?_,?_,(br7 k).2⟩
 ·cases k<;>(unfold Low;decide +kernel)
 ·cases k<;>decide +kernel
theorem bi5{ρ:Rho}{x:Str}{ws:List Str}(h1:A1 1 ρ=some (.str x))(h2:txS x (sg 32)=some (.list (sD ws))):am3 false ac3 (A0 (A1 1) A2) ρ=some (ob ws 0):=by
 have e:ac3 ⟨false,[]⟩ [none,some (.str x)]=some (.none,ob ws 0):=by
  have e0:dTx txS (A1 1) (dC (.str " ")) [none,‹.str x›]=some (.list (sD ws)):=by
   rw[bl_,bk7 (a:=x) (y:=sg 32) rfl rfl,h2]
  refine ag0 (ρ:=[some (.opq 0),‹.str x›]) (q:=[]) rfl ?_;unfold ab8;refine(A7 (ρ':=[some (.opq 0),‹.str x›]) (q':=[⟨false,[("words", .frz (.list (sD ws)))]⟩]) ?_).trans ?_
  ·unfold ak8;rw[aH6 e0];rfl
  ·unfold ak8
   kernel_rfl
 unfold am3;simp only[A0,A2,h1,xbs,xms,xmc,xmn,e]
theorem cu3(R:Rp m s){t:Tr}(h:t.ok)(k:Nm):∃m',Q1 (fo m b f) [none,some (.str (lnT k t))]=some (.none,fo m' b f)/\Rp m' (s.up k (some t.d)):=by
 obtain⟨m',e,R'⟩:=aP9 (b:=b) (f:=f) R k (some t.d) (λd z=>by cases z;rfl) (by simp);refine⟨m',?_,R'⟩;have l11:=aO6 h k;have sp:=bk9 (ws:=wl k t) (c:=32) (b:=2480) (by simp[wl]) (λv hv=>(aH4 h k v hv).1.no (by decide)) (λv hv=>(aH4 h k v hv).2) (aC (aX _ l11) (by decide));have w0:am3 false ac3 (A0 (A1 1) A2) [none,‹.str (lnT k t)›,none,none,none]=some (ob (wl k t) 0):=bi5 rfl sp;have rs:=cu2 (ws:=wl k t) (k:=1) (r:=[]) h.w3 h.h3 h.len h.ok (by rw[ar];rfl);have n1:=bM1 k;have n2:a9 [t.d]=some (.bool true):=aL8 h.sh (by decide);unfold Q1 N7
 have go:ab6 [some (.opq 0),‹.str (lnT k t)›,none,none,none] [fo m b f]=some (.nx [some (.opq 0),‹.str (lnT k t)›,some (.opq 1),‹.str k.s›,‹t.d›] [fo m' b f,ob (wl k t) (1+1+t.l.length)]):=by
  unfold ab6;refine(A7 (ρ':=[some (.opq 0),‹.str (lnT k t)›,some (.opq 1),none,none]) (q':=[fo m b f,ob (wl k t) 0]) ?_).trans ?_
  ·unfold aB2;show(am3 false ac3 (A0 (A1 1) A2) [none,‹.str (lnT k t)›,none,none,none]).map _=_;rw[w0];rfl
  refine(A7 (O6 (tk (j:=1) (ws:=wl k t) (k:=0) (w:=k.s) (r:=szT t.w t.h::t.l.map spT) rfl rfl rfl))).trans ?_;refine(A7 (O6 (X6 (j:=1) (ms:=[none]) rfl rfl rfl rs))).trans ?_;refine(A7 ((ac8 (q':=[fo m b f,ob (wl k t) (1+1+t.l.length)]) ?_).trans rfl)).trans ?_
  ·unfold uTP;show(ai3 (Q6 (W8 (A3 k9 (A0 (A1 3) A2)))) (Q6 (W8 (A3 a9 (A0 (A1 4) A2)))) [none,‹.str (lnT k t)›,none,‹.str k.s›,‹t.d›]).map _=_
   wp_walk using evD,n1,n2
  ·exact T1 (U5 (j:=0) (ds:=[.str k.s,t.d]) rfl rfl bs3 rfl e)
 rw[show O1 5 [none,some (.str (lnT k t))]=[some (.opq 0),‹.str (lnT k t)›,none,none,none] from rfl,go];rfl
theorem bU6{T:Nm->Tr}{tx:D}:∀(ks:List Nm),(∀k∈ks,(T k).ok)->∀(m:List (D×D)) (s:Fn3) (x:Option B),Rp m s->∃m' x',b9 (K5 2) (uEx (uD 1 Q1 (mO (mC (A1 2) mN)))) (ks.map λk=>.str (lnT k (T k))) [‹tx›,some (.opq 0),x] [fo m [] []]=some (.nx [‹tx›,some (.opq 0),x'] [fo m' [] []])/\Rp m' (ks.foldl (λs k=>s.up k (some (T k).d)) s)
 | [],_,m,s,x,R=>⟨m,x,rfl,R⟩
 | k::ks,h,m,s,x,R=>by
  obtain⟨m1,e1,R1⟩:=cu3 (b:=[]) (f:=[]) R (h k (by simp)) k;obtain⟨m',x',e2,R2⟩:=bU6 (tx:=tx) ks (λj hj=>h j (aj _ hj)) m1 _ (‹.str (lnT k (T k))›) R1;refine⟨m',x',?_,R2⟩;have u:uEx (uD 1 Q1 (mO (mC (A1 2) mN))) [‹tx›,some (.opq 0),‹.str (lnT k (T k))›] [fo m [] []]=some (.nx [‹tx›,some (.opq 0),‹.str (lnT k (T k))›] [fo m1 [] []]):=T1 (X6 (j:=0) (ms:=[none,some (.str (lnT k (T k)))]) rfl rfl rfl e1);rw[xmc];unfold b9;show(uEx (uD 1 Q1 (mO (mC (A1 2) mN))) [‹tx›,some (.opq 0),‹.str (lnT k (T k))›] [fo m [] []]).bind _=_;rw[u];exact e2
theorem aZ3(T:Nm->Tr):∀(ks:List Nm) (s:Fn3) (j:Nm),ks.foldl (λs k=>s.up k (some (T k).d)) s j=if j∈ks then some (T j).d else s j
 | [],s,j=>by simp
 | k::ks,s,j=>by
  rw[cr,aZ3 T ks];unfold Fn3.up;by_cases h1:j∈ks
  ·rw[if_pos h1,if_pos (aj _ h1)]
  ·rw[if_neg h1];by_cases h2:j=k
   ·rw[if_pos h2,if_pos (by rw[h2];simp),h2]
   ·rw[if_neg h2,if_neg (by simp[h1,h2])]
theorem bP0(S:Ty):(nms (dS S)).foldl (λs k=>s.up k (some ((S k).getD ⟨0,0,[]⟩).d)) no3=dS S:=by
 funext j
 rw[aZ3 λk=>(S k).getD ⟨0,0,[]⟩];split
 ·rename_i h;obtain⟨t,e,e2⟩:=ar4 h;rw[e2,e];rfl
 ·rename_i h;exact(bT4 λz=>h (ao2.mpr z)).symm
theorem bA5(l:List D)(x:D):ab0 (l++[x]) none (some (-1))=l:=by
 have e:HT.sIx (l++[x]).length (l++[x]).length (some (-1))=l.length:=by
  rw[aG,bW];unfold HT.sIx;simp
  try omega
 unfold ab0;rw[e,show HT.sIx (l++[x]).length 0 none=0 from rfl,Nat.sub_zero,List.drop_zero,List.take_left]
theorem aK8(O:okS S){f:DE}{ρ:Rho}(hf:f ρ=some (.str (txt S))):h9 (av8 (dTx txS f (dC (.str "\n"))) T7 (T6 (bh5 ⇑1))) ρ=some (sD (lns S)):=by
 have l2:=aD4 S;have sp:=bk9 (ws:=lns S++[dR]) (c:=10) (b:=27291) (by simp) (λv hv=>(aI1 O v hv).1.no (by decide)) (λv hv=>(aI1 O v hv).2) (by rw[aG,bW];exact aC (aX _ (show _<=5 by omega)) (by decide));have e:dTx txS f (dC (.str "\n")) ρ=some (.list (sD (lns S++[dR]))):=by rw[nl_,bk7 hf rfl,sp]
 unfold h9 av8;rw[e];show some (ab0 (sD (lns S++[dR])) none (some (-1)))=_;rw[sD,cf,List.map_singleton,bA5]
theorem aQ8{x:Str}(h:Al (λc=>c < 128) x):neD (.str x) (.str x)=some (.bool false):=V6 (ai8 h λc h=>by omega) (ai8 h λc h=>by omega) (by simp)
theorem cn0{x:Str}(h:Al (λc=>c < 128) x):eqD (.str x) (.str x)=some (.bool true):=A8 (ai8 h λc h=>by omega) (ai8 h λc h=>by omega) (by simp)
theorem bn3(O:okS S):∃m,D8 [.str (txt S)]=some (fo m [] [])/\Rp m (dS S):=by
 obtain⟨m,x',e,R⟩:=bU6 (T:=λk=>(S k).getD ⟨0,0,[]⟩) (tx:=.str (txt S)) (nms (dS S)) (λk hk=>by
  obtain⟨t,e,_⟩:=ar4 hk;show((S k).getD _).ok;rw[e]
  exact O k t e) [] no3 none Rp.nil
 rw[bP0]at R;refine⟨m,?_,R⟩
 have go:v5 [‹.str (txt S)›,none,none] []=some (.ro 0 [fo m [] []]):=by
  unfold v5;refine(A7 (ρ':=[‹.str (txt S)›,some (.opq 0),none]) (q':=[fo [] [] []]) ?_).trans ?_
  ·unfold aB2;rw[br9];rfl
  refine(A7 (ρ':=[‹.str (txt S)›,some (.opq 0),x']) (q':=[fo m [] []]) ?_).trans ?_
  ·unfold au7 iP;rw[aK8 O (show A1 0 (era [‹.str (txt S)›,some (.opq 0),none])=_ from rfl)];show b9 _ _ (sD (lns S)) _ _=_;rw[sD,lns,aY];exact e
  refine(A7 ((ac8 (q':=[fo m [] []]) (X7 (W5 (X6 (j:=0) (ms:=[none]) rfl rfl rfl (ad5 R O)) rfl (aQ8 (ai1 O))))).trans rfl)).trans rfl
 unfold D8 bI3;rw[show P6 3 [.str (txt S)]=[‹.str (txt S)›,none,none] from rfl,go];rfl
end
end Lk93
namespace Lk93
open PySem G L2 Sh
theorem co8{ns:List Int}(hn:ns.length<=63):∃t:Tr,ap4 [scr ns,.int 700]=some t.d/\t.ok:=by
 obtain⟨d0,e0,l0⟩:=j6 ns 700 3 hn (by omega) (by decide);have e0:B2 [scr ns,.int 700,.int 3]=some (.int d0):=e0;obtain⟨d1,e1,l1⟩:=j6 ns 701 3 hn (by omega) (by decide);have e1:B2 [scr ns,.int 701,.int 3]=some (.int d1):=e1;obtain⟨l,el,S⟩:=aD7 ns 702 (1+d0) (1+d1) hn (by omega) (by omega) (by omega) (by omega) (by omega);have el:Q5 [scr ns,.int 702,.int ((1+d0:Nat):Int),.int ((1+d1:Nat):Int)]=some (shD (1+d0) (1+d1) l):=el;have k0:(1+(d0:Int))=((1+d0:Nat):Int):=by omega
 have k1:(1+(d1:Int))=((1+d1:Nat):Int):=by omega
 refine⟨⟨1+d0,1+d1,l⟩,B7 (ρ:=[‹scr ns›,‹.int 700›]) rfl ?_,by show 1<=1+d0;omega,by show 1+d0<=3;omega,by show 1<=1+d1;omega,by show 1+d1<=3;omega,S.len,λq hq=>(S.ok q hq).mono (by decide)⟩;have z1:(700:Int)+1=701:=rfl;have z2:(700:Int)+2=702:=rfl
 wp_walk using evD,bb1,z1,z2,e0,e1,k0,k1,el,Tr.d
def one(k:Nm)(t:Tr):Ty:=λj=>if j=k then some t else none
theorem aX8(k:Nm)(t:Tr):nms (dS (one k t))=[k]:=by cases k<;>rfl
theorem bq7(k:Nm)(t:Tr):one k t k=some t:=if_pos rfl
theorem bL4(k:Nm)(t:Tr):txt (one k t)=lnT k t++sg 10:=aj9 (by
 rw[ba3,lns,aX8,i4,xmc,xmn,bq7]
 simp[jl,dR])
theorem ce9{t:Tr}(h:t.ok)(k:Nm):okS (one k t):=λj u e=>by
 unfold one at e;split at e
 ·cases e;exact h
 ·cases e
section
variable {ns:List Int}{m m2:List (D×D)}{b b2:List D}{s:Fn3}{S:Ty}
abbrev rL(ns:List Int)(x2 x3 x4 x5 x6 x7 x8:Option B):Rho:=[‹scr ns›,some (.opq 0),x2,x3,x4,x5,x6,x7,x8]
theorem cw7(c j:Nat)(hj:j<=10):L7 (.int (c:Nat)) (.int ((40*j:Nat):Int))=some (.int ((c+40*j:Nat):Int)):=by rw[ae7];rfl
theorem cx3(j:Nat)(hj:j<=10):R6 (.int 40) (.int j)=some (.int ((40*j:Nat):Int)):=j4 (i:=40) (by decide) (by omega)
theorem aT7(c j:Nat)(hj:j<=10)(x3 x4 x5 x6 x7 x8:Option B):mC (A1 0) (mC (A5 L7 (dC (.int (c:Nat))) (A5 R6 ⇑40 (A1 2))) (mO mN)) (era (rL ns (‹.int j›) x3 x4 x5 x6 x7 x8))=some [some (scr ns),some (.int ((c+40*j:Nat):Int)),none]:=by
 have e:A5 L7 (dC (.int (c:Nat))) (A5 R6 ⇑40 (A1 2)) (era (rL ns (‹.int j›) x3 x4 x5 x6 x7 x8))=some (.int ((c+40*j:Nat):Int)):=(Y4 rfl ((Y4 rfl rfl).trans (cx3 j hj))).trans (cw7 c j hj);unfold mC;rw[show A1 0 (era (rL ns (‹.int j›) x3 x4 x5 x6 x7 x8))=some (scr ns) from rfl,xbs,e];rfl
noncomputable abbrev bd1:UX:=uEx (uD 1 P0 (mC (A1 0) (mC (A5 L7 ⇑10 (A5 R6 ⇑40 (A1 2))) (mO mN))))
theorem lp1(hn:ns.length<=63):∀(c i:Nat) (m:List (D×D)) (b:List D) (s:Fn3) (x:Option B),i+c<=6->Good (sz i) s->(nms s≠[]->0 < i)->Rp m s->b.length=i->∃m' b' s' x',b9 (K5 2) bd1 ((List.range' i c).map λk:Nat=>.int k) (rL ns x none none none none none none) [fo m b []]=some (.nx (rL ns x' none none none none none none) [fo m' b' []])/\Good (sz (i+c)) s'/\(nms s'≠[]->0 < i+c)/\Rp m' s'/\b'.length=i+c
 | 0,i,m,b,s,x,_,G,z,R,l=>⟨m,b,s,x,rfl,G,z,R,l⟩
 | c+1,i,m,b,s,x,h,G,z,R,l=>by
  obtain⟨s1,e,G1,st⟩:=aV6 (k:=10+40*i) hn (by omega) G z (by omega);obtain⟨m1,e1,R1⟩:=st m b [] R (by omega);obtain⟨m',b',s',x',e2,G2,z2,R2,l2⟩:=lp1 hn c (i+1) m1 (b++[e]) s1 (‹.int i›) (by omega) G1 (λ_=>by omega) R1 (by rw[aG,l];rfl);refine⟨m',b',s',x',?_,by rw[show i+(c+1)=i+1+c by omega];exact G2,λ_=>by omega,R2,by omega⟩;have u:bd1 (rL ns (‹.int i›) none none none none none none) [fo m b []]=some (.nx (rL ns (‹.int i›) none none none none none none) [fo m1 (b++[e]) []]):=T1 (X6 (j:=0) rfl rfl (aT7 10 i (by omega) _ _ _ _ _ _) e1);rw[List.range'_succ,xmc];unfold b9;show(bd1 (rL ns (‹.int i›) none none none none none none) [fo m b []]).bind _=_;rw[u];exact e2
noncomputable abbrev bd8:UX:=E2 (uEx (uD 1 P0 (mC (A1 0) (mC (A5 L7 ⇑500 (A5 R6 ⇑40 (A1 2))) (mO mN))))) (E2 (uEx (uD 4 P0 (mC (A1 0) (mC (A5 L7 ⇑500 (A5 R6 ⇑40 (A1 2))) (mO mN))))) (uIf (uTB (uB2 neD (uD 4 B5 (mO mN)) (uD 1 B5 (mO mN)))) (T2 (uP (dC (.bool false)))) m4))
theorem lp8(hn:ns.length<=63)(x3 x5 x6 x7:Option B):∀(c j n:Nat) (m m2:List (D×D)) (b b2:List D) (s:Fn3) (x:Option B),j+c<=2->n<=5->Good (sz (n+j)) s->(nms s≠[]->0 < n+j)->Rp m s->Rp m2 s->b.length=n+j->b2.length=j->∃m' m2' b' b2' s' x',b9 (K5 2) bd8 ((List.range' j c).map λk:Nat=>.int k) (rL ns x x3 (some (.opq 1)) x5 x6 x7 none) [fo m b [],fo m2 b2 []]=some (.nx (rL ns x' x3 (some (.opq 1)) x5 x6 x7 none) [fo m' b' [],fo m2' b2' []])/\Good (sz (n+j+c)) s'/\Rp m' s'/\Rp m2' s'/\b'.length=n+j+c/\b2'.length=j+c
 | 0,j,n,m,m2,b,b2,s,x,_,_,G,z,R,R2,l,l2=>⟨m,m2,b,b2,s,x,rfl,G,R,R2,l,l2⟩
 | c+1,j,n,m,m2,b,b2,s,x,h,hn5,G,z,R,R2,l,l2=>by
  obtain⟨s1,e,G1,st⟩:=aV6 (k:=500+40*j) hn (by omega) G z (by omega);obtain⟨m1,e1,R1⟩:=st m b [] R (by omega);obtain⟨m3,e3,R3⟩:=st m2 b2 [] R2 (by omega);obtain⟨m',m2',b',b2',s',x',f1,f2,f3,f4,f5,f6⟩:=lp8 hn x3 x5 x6 x7 c (j+1) n m1 m3 (b++[e]) (b2++[e]) s1 (‹.int j›) (by omega) hn5 G1 (λ_=>by omega) R1 R3 (by rw[aG,l];rfl) (by rw[aG,l2];rfl);refine⟨m',m2',b',b2',s',x',?_,by rw[show n+j+(c+1)=n+(j+1)+c by omega];exact f2,f3,f4,by omega,by omega⟩;have sz7:sz (n+j+1)<=1024:=aC (aX 16 (aT (by decide) (show n+j+1 - 1<=6 by omega))) (by decide);obtain⟨S,rfl,O⟩:=bk6 G1 sz7;have t1:uD 4 B5 (mO mN) (rL ns (‹.int j›) x3 (some (.opq 1)) x5 x6 x7 none) [fo m1 (b++[e]) [],fo m3 (b2++[e]) []]=some (.str (txt S),[fo m1 (b++[e]) [],fo m3 (b2++[e]) []]):=X6 (j:=1) (ms:=[none]) rfl rfl rfl (ad5 R3 O);have t2:uD 1 B5 (mO mN) (rL ns (‹.int j›) x3 (some (.opq 1)) x5 x6 x7 none) [fo m1 (b++[e]) [],fo m3 (b2++[e]) []]=some (.str (txt S),[fo m1 (b++[e]) [],fo m3 (b2++[e]) []]):=X6 (j:=0) (ms:=[none]) rfl rfl rfl (ad5 R1 O)
  have u:bd8 (rL ns (‹.int j›) x3 (some (.opq 1)) x5 x6 x7 none) [fo m b [],fo m2 b2 []]=some (.nx (rL ns (‹.int j›) x3 (some (.opq 1)) x5 x6 x7 none) [fo m1 (b++[e]) [],fo m3 (b2++[e]) []]):=by
   refine(A7 (q':=[fo m1 (b++[e]) [],fo m2 b2 []]) (T1 (X6 (j:=0) rfl rfl (aT7 500 j (by omega) _ _ _ _ _ _) e1))).trans ?_;refine(A7 (q':=[fo m1 (b++[e]) [],fo m3 (b2++[e]) []]) (T1 (X6 (j:=1) rfl rfl (aT7 500 j (by omega) _ _ _ _ _ _) e3))).trans ?_;exact(ac8 (X7 (W5 t1 t2 (aQ8 (ai1 O))))).trans rfl
  rw[List.range'_succ,xmc];unfold b9;show(bd8 (rL ns (‹.int j›) x3 (some (.opq 1)) x5 x6 x7 none) [fo m b [],fo m2 b2 []]).bind _=_;rw[u];exact f1
noncomputable abbrev bd7:UX:=E2 (uIf (uTB (uB2 neD (au6 (Z7 D8 (ulC (uP (A1 6)) ulN)) true "names" P9 A2) (uP (r6 (A0 (A1 7) A2))))) (T2 (uP (dC (.bool false)))) m4) (uIf (uTB (uB2 neD (au6 (Z7 D8 (ulC (uP (A1 6)) ulN)) true "fetch" F5 (A0 (A1 7) A2)) (uM 1 true "fetch" F5 (A0 (A1 7) A2)))) (T2 (uP (dC (.bool false)))) m4)
abbrev tS(S:Ty)(k:Nm):Tr:=(S k).getD ⟨0,0,[]⟩
theorem cg4(k:Nm):neD (.list [.str k.s]) (.list [.str k.s])=some (.bool false):=by cases k<;>kernel_rfl
theorem bs8{ρ:Rho}{q:Fs}{f:UD}{x:D}{o:Fo}(h:f ρ q=some (x,q))(e:D8 [x]=some o):Z7 D8 (ulC f ulN) ρ q=some (o,q):=by
 unfold Z7 ulC;rw[h];show(D8 [x]).map _=_;rw[e];rfl
theorem aP1{g:Rho->Fs->Option (Fo×Fs)}{kd:Bool}{mt:Str}{F:DF}{f:Rho->Option (List D)}{ρ:Rho}{q q':Fs}{o o':Fo}{ds:List D}{d:D}(h:g ρ q=some (o,q'))(hm:o.k=kd/\(o.l.lookup mt).isNone=true)(hf:f (era ρ)=some ds)(hF:F o (none::ds.map some)=some (d,o')):au6 g kd mt F f ρ q=some (d,q'):=by
 unfold au6;rw[h,xbs,if_pos hm,hf,xbs,hF];rfl
theorem lp7(R:Rp m (dS S))(O:okS S)(x2 x3 x4 x5:Option B)(o2:Fo):∀(ks:List Nm),(∀k∈ks,k∈nms (dS S))->∀x6 x7:Option B,∃y6 y7,b9 (d6 2 (O7 (K5 6) (O7 (K5 7) y8))) bd7 (ks.map λk=>.tuple [.str (lnT k (tS S k)++sg 10),.str k.s]) (rL ns x2 x3 x4 x5 x6 x7 none) [fo m b [],o2]=some (.nx (rL ns x2 x3 x4 x5 y6 y7 none) [fo m b [],o2])
 | [],_,x6,x7=>⟨x6,x7,rfl⟩
 | k::ks,h,x6,x7=>by
  obtain⟨y6,y7,e⟩:=lp7 R O x2 x3 x4 x5 o2 ks (λj hj=>h j (aj _ hj)) (‹.str (lnT k (tS S k)++sg 10)›) (‹.str k.s›);refine⟨y6,y7,?_⟩;obtain⟨t,et,ed⟩:=ar4 (h k (by simp));have eT:tS S k=t:=by unfold tS;rw[et];rfl
  have ok:=O k t et;obtain⟨m1,e1,R1⟩:=bn3 (ce9 ok k);rw[bL4]at e1;rw[eT]at e
  have n1:P9 (fo m1 [] []) [none]=some (.list [.str k.s],fo m1 [] []):=by
   have:=Z9 (b:=[]) (f:=[]) R1;rw[aX8]at this;exact this
  have n2:F5 (fo m1 [] []) [none,some (.str k.s)]=some (t.d,fo m1 [] []):=R7 R1 k (by unfold dS;rw[bq7];rfl);have g1:Z7 D8 (ulC (uP (A1 6)) ulN) (rL ns x2 x3 x4 x5 (‹.str (lnT k t++sg 10)›) (‹.str k.s›) none) [fo m b [],o2]=some (fo m1 [] [],[fo m b [],o2]):=bs8 rfl e1
  have u:bd7 (rL ns x2 x3 x4 x5 (‹.str (lnT k t++sg 10)›) (‹.str k.s›) none) [fo m b [],o2]=some (.nx (rL ns x2 x3 x4 x5 (‹.str (lnT k t++sg 10)›) (‹.str k.s›) none) [fo m b [],o2]):=by
   refine(A7 ((ac8 (X7 (W5 (aP1 (ds:=[]) g1 o6 rfl n1) rfl (cg4 k)))).trans rfl)).trans ?_;exact(ac8 (X7 (W5 (aP1 (ds:=[.str k.s]) g1 V7 rfl n2) (U5 (j:=0) (ds:=[.str k.s]) rfl rfl V7 rfl (R7 R k ed)) (aY3 (Ly.sheet _ _ _) (by decide))))).trans rfl
  rw[xmc];unfold b9;show(bd7 (rL ns x2 x3 x4 x5 (‹.str (lnT k (tS S k)++sg 10)›) (‹.str k.s›) none) [fo m b [],o2]).bind _=_;rw[eT,u];exact e
end
theorem cg2{s:Fn3}(h:s .y=none)(d:D):(nms (s.up .y (some d))).length=(nms s).length+1:=by
 have a1:(s.up .y (some d)) .a=s .a:=rfl;have a2:(s.up .y (some d)) .b=s .b:=rfl;have a3:(s.up .y (some d)) .z=s .z:=rfl;have a4:(s.up .y (some d)) .y=some d:=rfl;unfold nms bd3;simp only[bH,cV,h,a1,a2,a3,a4];cases(s .a).isSome<;>cases(s .b).isSome<;>cases(s .z).isSome<;>rfl
theorem bZ5{S S':Ty}(O:okS S)(O':okS S')(h:(nms (dS S')).length=(nms (dS S)).length+1):txt S'≠txt S:=λe=>by
 have sp:∀{S:Ty},okS S->Txt.split (txt S) (sg 10)=lns S++[dR]:=λO=>ak9 10 (by simp) λv hv=>(aI1 O v hv).1.no (by decide)
 have e1:=sp O';rw[e,sp O]at e1;have:=congrArg List.length e1;simp[lns]at this;omega
abbrev rL0(ns:List Int):Rho:=[‹scr ns›,none,none,none,none,none,none,none,none]
theorem cv6{f g:UB}{ρ:Rho}{q q':Fs}(h:f ρ q=some (false,q')):uOr f g ρ q=g ρ q':=by unfold uOr;rw[h];rfl
theorem cI1{f g:UD}{ρ:Rho}{q q':Fs}(h:f ρ q=some (.bool true,q')):aI0 f g ρ q=g ρ q':=by unfold aI0;rw[h];rfl
theorem cx0(s:Fn3):neD (.list ((nms s).map λk=>.str k.s)) (.list ((nms s).map λk=>.str k.s))=some (.bool false):=by
 unfold nms bd3;simp only[bH,cV];cases(s .a).isSome<;>cases(s .b).isSome<;>cases(s .y).isSome<;>cases(s .z).isSome<;>kernel_rfl
theorem main(ns:List Int)(hn:ns.length<=63):aO1 [.list (ns.map dJ)]=some (.bool true):=by
 obtain⟨n,e0,l0⟩:=j6 ns 0 6 hn (by omega) (by decide);have e0:B2 [scr ns,.int 0,.int 6]=some (.int n):=e0;obtain⟨m,b,s,x2,e1,G,z,R,lb⟩:=lp1 (ns:=ns) hn n 0 [] [] no3 none (by omega) ⟨(λk d e=>nomatch e),rfl⟩ (λh=>(h rfl).elim) Rp.nil rfl;rw[Nat.zero_add]at G z lb;have sz5:sz n<=1024:=aC (aX 16 (aT (by decide) (show n - 1<=6 by omega))) (by decide);obtain⟨S,es,O⟩:=bk6 G sz5;rw[es]at R;obtain⟨m2,e3,R2⟩:=bn3 O;obtain⟨y6,y7,e7⟩:=lp7 (ns:=ns) (b:=b) R O x2 (‹.str (txt S)›) (some (.opq 1)) (‹.list (sD ((lns S).map (·++sg 10)))›) (fo m2 [] []) (nms (dS S)) (λ_ h=>h) none none;obtain⟨m',m2',b',b2',s',x',e8,G8,R8,R82,l8,l82⟩:=lp8 hn (‹.str (txt S)›) (‹.list (sD ((lns S).map (·++sg 10)))›) y6 y7 2 0 n m m2 b [] s x2 (by decide) (by omega) G z (by rw[es];exact R) (by rw[es];exact R2) lb rfl;have sz7:sz (n+0+2)<=1024:=aC (aX 16 (aT (by decide) (show n+0+2 - 1<=6 by omega))) (by decide);obtain⟨t,ea,ht⟩:=co8 hn;obtain⟨S8,es8,O8⟩:=bk6 G8 sz7;have hy:=G8.y;obtain⟨m9,c9,e11,R9⟩:=bt7 (b:=b') (f:=[]) R8 .y t.d (λd e=>by cases e;rfl) (by omega)
 let S9:Ty:=λj=>if j=.y then some t else S8 j
 have es9:s'.up .y (some t.d)=dS S9:=by
  funext j
  show(if j=Nm.y then some t.d else s' j)=(if j=.y then some t else S8 j).map Tr.d;split
  ·rfl
  ·rw[es8];rfl
 have O9:okS S9:=λj u e=>by
  have e:(if j=Nm.y then some t else S8 j)=some u:=e;split at e
  ·cases e;exact ht
  ·exact O8 j u e
 have R9':=R9;rw[es9]at R9';rw[es8]at R8;obtain⟨m10,e10,R10⟩:=bn3 O9;have f9:dS S9 .y=some t.d:=by rw[← es9];exact bj7 _ _ _
 obtain⟨m11,e14,R11⟩:=bQ6 (b:=b') (f:=[]) R9 .y "lay" (s' .y) (some t.d) (by rw[hy];exact λd z=>nomatch z) (λ_=>by rw[bj7];rfl) (by decide);have eu:(s'.up .y (some t.d)).up .y (s' .y)=dS S8:=by rw[cr5,bE7,es8]
 rw[eu]at R11;have ne9:txt S9≠txt S8:=bZ5 O8 O9 (by rw[← es9,← es8];exact cg2 hy _);have q12:eqD (.str (txt S9)) (.str (txt S8))=some (.bool false):=A8 (ai8 (ai1 O9) λc h=>by omega) (ai8 (ai1 O8) λc h=>by omega) (beq_eq_false_iff_ne.mpr ne9);have el:b2'.length=2:=l82
 have nc:G4 1 [] (h9 (av8 (dTx txS (A1 3) (dC (.str "\n"))) T7 (T6 (bh5 ⇑1)))) (K5 0) K9 (A5 L7 (A1 0) (dC (.str "\n"))) (era (rL ns x2 (‹.str (txt S)›) (some (.opq 1)) none none none none))=some (sD ((lns S).map (·++sg 10))):=by
  rw[aa8 (l:=lns S) (h:=λv=>.str v) (f:=λv=>.str (v++sg 10)) (r:=[]) rfl (aK8 O rfl) (aC (aD4 S) (by decide)) λv hv=>?_,sD,aY]
  ·rfl
  ·have:=(bt5 O v hv).2;rw[nl_];exact(Y4 rfl rfl).trans (ao9 (by rw[show(sg 10).length=1 from rfl];omega))
 have ll:((sD ((lns S).map (·++sg 10))).length:Int)=(((nms (dS S)).map λk=>(.str k.s:D)).length:Int):=by simp[lns]
 have zp:((sD ((lns S).map (·++sg 10))).zip ((nms (dS S)).map λk=>(.str k.s:D))).map (λp=>PyData.tuple [p.1,p.2])=(nms (dS S)).map λk=>.tuple [.str (lnT k (tS S k)++sg 10),.str k.s]:=by
  unfold sD lns;rw[aY,aY,List.zip_map',aY];rfl
 have t9:neD (.tuple [.int (b2'.length:Nat),.int (([]:List D).length:Nat)]) (.tuple [.int 2,.int 0])=some (.bool false):=by rw[el];kernel_rfl
 have go:∃q,bC2 (rL0 ns) []=some (.rt (.bool true) q):=by
  refine⟨[fo m' b' [],fo m2' b2' [],fo m11 b' ([]++[stD "lay" .y (s' .y) (some t.d)])],?_⟩;unfold bC2;refine(A7 (ρ':=rL ns none none none none none none none) (q':=[fo [] [] []]) ?_).trans ?_
  ·unfold bm4 aB2;rw[br9];rfl
  refine(A7 (ρ':=rL ns x2 none none none none none none) (q':=[fo m b []]) ?_).trans ?_
  ·unfold bm3 au7 iP;rw[an4 (n:=n) e0 (by omega),List.range_eq_range'];exact e1
  refine(A7 (ρ':=rL ns x2 (‹.str (txt S)›) none none none none none) (q':=[fo m b []]) (O6 (X6 (j:=0) (ms:=[none]) rfl rfl rfl (ad5 R O)))).trans ?_;refine(A7 (ρ':=rL ns x2 (‹.str (txt S)›) (some (.opq 1)) none none none none) (q':=[fo m b [],fo m2 [] []]) ?_).trans ?_
  ·unfold bm1 xNw;rw[bs8 rfl e3];rfl
  refine(A7 ((ac8 (q':=[fo m b [],fo m2 [] []]) ?_).trans rfl)).trans ?_
  ·refine(cv6 (X7 (W5 (X6 (j:=1) (ms:=[none]) rfl rfl rfl (ad5 R2 O)) rfl (aQ8 (ai1 O))))).trans ?_;refine(cv6 (X7 (W5 (Z1 (j:=1) rfl rfl o6 (Z9 R2)) (Z1 (j:=0) rfl rfl o6 (Z9 R)) (cx0 _)))).trans ?_;exact X7 (X6 (j:=1) (ms:=[none]) rfl rfl rfl bO8)
  refine(A7 (ρ':=rL ns x2 (‹.str (txt S)›) (some (.opq 1)) (‹.list (sD ((lns S).map (·++sg 10)))›) none none none) (q':=[fo m b [],fo m2 [] []]) ?_).trans ?_
  ·unfold bm0 aV1;rw[nc];rfl
  refine(A7 ((ac8 (q':=[fo m b [],fo m2 [] []]) (X7 (W5 (x:=.int ((sD ((lns S).map (·++sg 10))).length:Nat)) rfl (bt6 (Z1 (j:=0) rfl rfl o6 (Z9 R))) ?_))).trans rfl)).trans ?_
  ·rw[ll,cg3];simp
  refine(A7 (ρ':=rL ns x2 (‹.str (txt S)›) (some (.opq 1)) (‹.list (sD ((lns S).map (·++sg 10)))›) y6 y7 none) (q':=[fo m b [],fo m2 [] []]) ?_).trans ?_
  ·unfold bl9 au7 iZ;rw[show uP (A1 5) (rL ns x2 (‹.str (txt S)›) (some (.opq 1)) (‹.list (sD ((lns S).map (·++sg 10)))›) none none none) [fo m b [],fo m2 [] []]=some (.list (sD ((lns S).map (·++sg 10))),[fo m b [],fo m2 [] []]) from rfl,xbs];simp only[aq4,xbs];rw[Z1 (j:=0) (o:=fo m b []) (o':=fo m b []) rfl rfl o6 (Z9 R)];simp only[xbs,xms];rw[zp];exact e7
  refine(A7 (ρ':=rL ns x' (‹.str (txt S)›) (some (.opq 1)) (‹.list (sD ((lns S).map (·++sg 10)))›) y6 y7 none) (q':=[fo m' b' [],fo m2' b2' []]) ?_).trans ?_
  ·unfold bl8 au7 iP;rw[an4 (n:=2) rfl (by decide),List.range_eq_range'];exact e8
  refine(A7 ((ac8 (q':=[fo m' b' [],fo m2' b2' []]) (X7 (W5 (Z1 (j:=1) rfl rfl bs4 bh6) rfl t9))).trans rfl)).trans ?_;refine(A7 (ρ':=rL ns x' (‹.str (txt S)›) (some (.opq 1)) (‹.list (sD ((lns S).map (·++sg 10)))›) y6 y7 (some (.opq 2))) (q':=[fo m' b' [],fo m2' b2' [],fo m' b' []]) ?_).trans ?_
  ·unfold aV8 xTw;rw[aa5 (j:=0) (o:=fo m' b' []) rfl rfl,xbs,if_pos cg5,bG6];rfl
  refine(A7 (q':=[fo m' b' [],fo m2' b2' [],fo m9 (b'++[stD "lay" .y (s' .y) (some t.d)]) []]) (T1 (U5 (j:=2) (ds:=[.str "zz", t.d]) rfl rfl bT5 ?_ e11))).trans ?_
  ·show(A0 (dC (.str "zz")) (A0 (A3 ap4 (A0 (A1 0) (A0 ⇑700 A2))) A2)) _=_;simp only[A0,A2,dC,A3,era,ag9,xmc,A1,xg0,xbs,xms,ea]
  refine(A7 ((ac8 (q':=[fo m' b' [],fo m2' b2' [],fo m9 (b'++[stD "lay" .y (s' .y) (some t.d)]) []]) (X7 (W5 (X6 (j:=2) (ms:=[none]) rfl rfl rfl (ad5 R9' O9)) (X6 (j:=0) (ms:=[none]) rfl rfl rfl (ad5 R8 O8)) q12))).trans rfl)).trans ?_;refine(A7 ((ac8 (q':=[fo m' b' [],fo m2' b2' [],fo m9 (b'++[stD "lay" .y (s' .y) (some t.d)]) []]) (X7 (W5 (aP1 (ds:=[.str "zz"]) (bs8 (X6 (j:=2) (ms:=[none]) rfl rfl rfl (ad5 R9' O9)) e10) V7 rfl (R7 R10 .y f9)) (U5 (j:=2) (ds:=[.str "zz"]) rfl rfl V7 rfl (R7 R9' .y f9)) (aY3 (Ly.sheet _ _ _) (by decide))))).trans rfl)).trans ?_;refine l5 ((cI1 (W5 (Z1 (j:=2) rfl rfl bs5 e14) rfl (by kernel_rfl))).trans ?_);exact W5 (X6 (j:=2) (ms:=[none]) rfl rfl rfl (ad5 R11 O8)) (X6 (j:=0) (ms:=[none]) rfl rfl rfl (ad5 R8 O8)) (cn0 (ai1 O8))
 obtain⟨q,go⟩:=go;unfold aO1 bI2;rw[show P6 9 [.list (ns.map dJ)]=rL0 ns from rfl,go];rfl
end Lk93
namespace Lk93
open PySem PySem.Spec PyProof.Rows L2 G Sh
theorem aK9{K:ag}(x:Str)(t:Tok):aN7 K (.str x) (.str x t):=⟨.str x,⟨t,rfl⟩,λ_=>rfl⟩
def zcs:List (Str×D):=[("ONE", (.tuple [(.int 1),(.int 1)])),("GREATEST", (.int 8)),("LETTERS", (.str "abcdefghijklmnopqrstuvwxyz")),("FIGURES", (.str "0123456789")),("MOST_FIGURES", (.int 400))]
def zbl:List Str:=["ValueError", "all", "bool", "dict", "int", "isinstance", "len", "list", "range", "reversed", "sorted", "str", "tuple", "zip"]
def tb0:Tab:=[]
def cn3:Fd:=fdm "_wall" (top 0) 1 ["k"]
def aS3:Fd:=fdm "is_whole" (top 9) 1 ["thing"] true
def aj4:Fd:=fdm "common_divisor" (top 10) 2 ["one", "other", "left_over"] true
def aS6:Fd:=fdm "is_share" (top 11) 1 ["thing", "top", "under"] true
def aF3:Fd:=fdm "least_form" (top 12) 2 ["top", "under", "divisor"] true
def aF4:Fd:=fdm "is_at_most" (top 13) 2 ["one", "other"] true
def bP9:Fd:=fdm "added" (top 14) 2 ["one", "other"] true
def aS2:Fd:=fdm "lessened" (top 15) 2 ["one", "other"] true
def bP6:Fd:=fdm "times" (top 16) 2 ["one", "other"] true
def bg4:Fd:=fdm "rest_of" (top 17) 1 ["share"] true
def av6:Fd:=fdm "at_most_one" (top 18) 1 ["fraction"] true
def bh0:Fd:={ fdm "is_spot" (top 20) 1 ["thing"] true with hc:=[((54,15),[0])] }
def am8:Fd:=fdm "blended_cover" (top 21) 3 ["manner", "c", "d"] true
def aj6:Fd:=fdm "blended_colour" (top 22) 5 ["manner", "c", "d", "x", "y", "through"] true
def bh4:Fd:={ fdm "blended" (top 23) 3 ["manner", "above", "below", "c", "d", "colours"] true with hc:=[((79,14),[0,3,4])] }
def bh1:Fd:=fdm "is_size" (top 26) 1 ["thing"]
def aS4:Fd:=fdm "is_sized" (top 27) 1 ["thing"]
def aS5:Fd:=fdm "is_sheet" (top 28) 1 ["thing", "spots"]
def ah1:Fd:=fdm "are_of_one_size" (top 29) 2 ["one", "other"]
def aj5:Fd:={ fdm "blended_sheets" (top 30) 3 ["manner", "above", "below", "spots"] with hc:=[((97,12),[0])] }
def bh2:Fd:={ fdm "is_name" (top 35) 1 ["thing"] with tx:=[0] }
def aj2:Fd:={ fdm "written_number" (top 37) 1 ["number", "piece", "pieces"] with own:=[2] }
def am7:Fd:=fdm "written_share" (top 38) 1 ["share"]
def at0:Fd:=fdm "written_spot" (top 39) 1 ["spot"]
def at1:Fd:=fdm "written_size" (top 40) 1 ["thing"]
def aj3:Fd:=fdm "words_of_sheet" (top 41) 1 ["sheet"]
def av4:Fd:={ fdm "read_number" (top 46) 1 ["word"] with tx:=[0] }
def aF1:Fd:=fdm "read_share" (top 47) 1 ["word", "parts", "under"]
def aM3:Fd:=fdm "read_spot" (top 48) 1 ["word"]
def aM4:Fd:=fdm "read_size" (top 49) 1 ["word", "parts"]
def bg5:Fd:=fdm "line_of" (top 52) 2 ["name", "sheet"]
def bA2:Fd:=fdm "_law_cell" (top 57) 2 ["_law_script", "_law_k"] true
def bg9:Fd:=fdm "_law_drawn" (top 58) 3 ["_law_script", "_law_k", "_law_many", "_law_cell_here"] true
def bA1:Fd:=fdm "_law_made" (top 59) 2 ["_law_top", "_law_under", "_law_one", "_law_by"] true
def bg6:Fd:=fdm "_law_times" (top 60) 2 ["_law_one", "_law_other"] true
def bg8:Fd:=fdm "_law_share" (top 61) 2 ["_law_script", "_law_at", "_law_under", "_law_drawn_here"] true
def bA0:Fd:={ fdm "_law_spot" (top 62) 2 ["_law_script", "_law_at", "_law_cover"] true with hc:=[((268,33),[2,0,1])] }
def bg7:Fd:={ fdm "_law_sheet" (top 63) 4 ["_law_script", "_law_at", "_law_wide", "_law_high", "_law_spots"] with hc:=[((270,17),[0,1])] }
def bP8:Fd:=fdm "_law_any" (top 64) 2 ["_law_script", "_law_at"]
def aF0:Fd:={ fdm "read_sheet" (top 50) 1 ["words", "size", "spots"] with hc:=[((224,12),[0])] }
def aF5:Fd:={ fdm "folio_text" (top 53) 1 ["folio"] with hc:=[((230,19),[0])] }
def aM5:Fd:=fdm "read_line" (top 54) 2 ["folio", "line", "words", "name", "sheet"]
def aF2:Fd:=fdm "read_folio" (top 55) 1 ["text", "folio", "line"]
def bz9:Fd:=fdm "_law_step" (top 65) 3 ["_law_script", "_law_at", "_law_folio", "_law_some", "_law_way", "_law_name", "_law_other"]
def av5:Fd:=fdm "_law_goes_back" (top 66) 1 ["_law_folio"]
def bU8:Fd:=fdm "law" (top 67) 1 ["_law_script", "_law_folio", "_law_k", "_law_text", "_law_new", "_law_lines", "_law_line", "_law_name", "_law_other"]
def E1(j:Nat):Stmt:=(cA9 (top 32)).getD j (.Pass ⟨0,0,0,0⟩)
def W3(j:Nat):Stmt:=(cA9 (top 45)).getD j (.Pass ⟨0,0,0,0⟩)
def aE7:Fd:=fdm "set_sheet" (E1 1) 3 ["self", "name", "sheet"]
def aE6:Fd:=fdm "take_step" (E1 2) 4 ["self", "word", "name", "sheet"]
def cn2:Fd:=fdm "lay" (E1 3) 3 ["self", "name", "sheet", "was_there"]
def bz6:Fd:=fdm "fetch" (E1 4) 2 ["self", "name"]
def aM1:Fd:=fdm "take_off" (E1 5) 2 ["self", "name", "sheet"]
def bz7:Fd:=fdm "blend" (E1 6) 4 ["self", "manner", "above", "below", "upper", "lower", "sheet"]
def bz5:Fd:=fdm "names" (E1 7) 1 ["self"]
def aZ5:Fd:=fdm "back" (E1 8) 1 ["self", "step"]
def bg2:Fd:=fdm "counts" (E1 10) 1 ["self"]
def av3:Fd:=fdm "__init__" (E1 0) 1 ["self"]
def aE8:Fd:=fdm "is_at_end" (W3 1) 1 ["self"]
def av1:Fd:=fdm "word_ahead" (W3 2) 1 ["self"]
def aE5:Fd:=fdm "take_word" (W3 3) 1 ["self", "word"]
def av2:Fd:=fdm "__init__" (W3 0) 2 ["self", "text"]
def bP5:Fd:=fdm "twin" (E1 11) 1 ["self", "other"]
structure Ms (K:ag) (ctrue cfalse:dX):Prop where
 m_set_sheet:KM K ctrue "set_sheet" "Folio.set_sheet" (E1 1)
 m_take_step:KM K ctrue "take_step" "Folio.take_step" (E1 2)
 m_lay:KM K ctrue "lay" "Folio.lay" (E1 3)
 m_fetch:KM K ctrue "fetch" "Folio.fetch" (E1 4)
 m_take_off:KM K ctrue "take_off" "Folio.take_off" (E1 5)
 m_blend:KM K ctrue "blend" "Folio.blend" (E1 6)
 m_names:KM K ctrue "names" "Folio.names" (E1 7)
 m_back:KM K ctrue "back" "Folio.back" (E1 8)
 m_counts:KM K ctrue "counts" "Folio.counts" (E1 10)
 m_init_Folio:KM K ctrue "__init__" "Folio.__init__" (E1 0)
 m_is_at_end:KM K cfalse "is_at_end" "Words.is_at_end" (W3 1)
 m_word_ahead:KM K cfalse "word_ahead" "Words.word_ahead" (W3 2)
 m_take_word:KM K cfalse "take_word" "Words.take_word" (W3 3)
 m_init_Words:KM K cfalse "__init__" "Words.__init__" (W3 0)
 m_twin:KM K ctrue "twin" "Folio.twin" (E1 11)
abbrev ap7:List Str:=["sheets", "steps_back", "steps_forth"]
abbrev ap6:List Str:=["words", "words_taken"]
abbrev zfd:List (Str×Bool×Nat):=[("sheets", true,2),("steps_back", true,1),("steps_forth", true,1),("words", false,0),("words_taken", false,0)]
structure Qs (K:ag):Prop where
 h_wall:KF K "_wall" (top 0)
 h_is_whole:KF K "is_whole" (top 9)
 h_common_divisor:KF K "common_divisor" (top 10)
 h_is_share:KF K "is_share" (top 11)
 h_least_form:KF K "least_form" (top 12)
 h_is_at_most:KF K "is_at_most" (top 13)
 h_added:KF K "added" (top 14)
 h_lessened:KF K "lessened" (top 15)
 h_times:KF K "times" (top 16)
 h_rest_of:KF K "rest_of" (top 17)
 h_at_most_one:KF K "at_most_one" (top 18)
 h_is_spot:KF K "is_spot" (top 20)
 h_blended_cover:KF K "blended_cover" (top 21)
 h_blended_colour:KF K "blended_colour" (top 22)
 h_blended:KF K "blended" (top 23)
 h_is_size:KF K "is_size" (top 26)
 h_is_sized:KF K "is_sized" (top 27)
 h_is_sheet:KF K "is_sheet" (top 28)
 h_are_of_one_size:KF K "are_of_one_size" (top 29)
 h_blended_sheets:KF K "blended_sheets" (top 30)
 h_is_name:KF K "is_name" (top 35)
 h_written_number:KF K "written_number" (top 37)
 h_written_share:KF K "written_share" (top 38)
 h_written_spot:KF K "written_spot" (top 39)
 h_written_size:KF K "written_size" (top 40)
 h_words_of_sheet:KF K "words_of_sheet" (top 41)
 h_read_number:KF K "read_number" (top 46)
 h_read_share:KF K "read_share" (top 47)
 h_read_spot:KF K "read_spot" (top 48)
 h_read_size:KF K "read_size" (top 49)
 h_read_sheet:KF K "read_sheet" (top 50)
 h_line_of:KF K "line_of" (top 52)
 h_folio_text:KF K "folio_text" (top 53)
 h_read_line:KF K "read_line" (top 54)
 h_read_folio:KF K "read_folio" (top 55)
 h_l_cell:KF K "_law_cell" (top 57)
 h_l_drawn:KF K "_law_drawn" (top 58)
 h_l_made:KF K "_law_made" (top 59)
 h_l_times:KF K "_law_times" (top 60)
 h_l_share:KF K "_law_share" (top 61)
 h_l_spot:KF K "_law_spot" (top 62)
 h_l_sheet:KF K "_law_sheet" (top 63)
 h_l_any:KF K "_law_any" (top 64)
 h_l_step:KF K "_law_step" (top 65)
 h_l_goes_back:KF K "_law_goes_back" (top 66)
 h_law:KF K "law" (top 67)
 h_cls:∃ctrue cfalse:dX,KCl K ctrue "Folio" ap7/\KCl K cfalse "Words" ap6/\Ms K ctrue cfalse
 h_bad:aO3 K "NoDeed" = true
theorem zfc{K:ag}{C:CT}(cFolio:KCl K (C true) "Folio" ap7)(cWords:KCl K (C false) "Words" ap6):∀kd,FoC K (C kd) (Og5.fn ⟨[],[],[],zfd,[],[],[]⟩ kd)
 | true=>cFolio.foc
 | false=>cWords.foc
theorem cC6{P:dq}{w:World}{K:ag}{mg:Str->Option dU}(M:Md K mg zcs zbl)(q:Qs K){C:CT}(cFolio:KCl K (C true) "Folio" ap7)(cWords:KCl K (C false) "Words" ap6)(z:Ms K (C true) (C false)):∃tab O,O.fd=zfd/\rdJ tab zcs zbl O bU8=aO1/\∀base:Heap,ZOk P w K mg base C 63 tab O:=by
 have Fc:=zfc cFolio cWords;refine⟨?tab,?O,?f,?e,λbase=>?t⟩
 case t =>
  have t:TOk P w K mg base 0 tb0:=TOk.nil;have t:=t.add M cn3 q.h_wall cp3;have t:=t.add M aS3 q.h_is_whole V3;have t:=t.add M aj4 q.h_common_divisor O4;have t:=t.add M aS6 q.h_is_share af1;have t:=t.add M aF3 q.h_least_form U3;have t:=t.add M aF4 q.h_is_at_most Y8;have t:=t.add M bP9 q.h_added W0;have t:=t.add M aS2 q.h_lessened a8;have t:=t.add M bP6 q.h_times Y7;have t:=t.add M bg4 q.h_rest_of k7;have t:=t.add M av6 q.h_at_most_one V9;have t:=t.add M bh0 q.h_is_spot ac6;have t:=t.add M am8 q.h_blended_cover X5;have t:=t.add M aj6 q.h_blended_colour V4;have t:=t.add M bh4 q.h_blended l4;have t:=t.add M bh1 q.h_is_size ac7;have t:=t.add M aS4 q.h_is_sized af0;have t:=t.add M aS5 q.h_is_sheet a9;have t:=t.add M ah1 q.h_are_of_one_size N8;have t:=t.add M aj5 q.h_blended_sheets M2;have t:=t.add M bh2 q.h_is_name k9;have t:=t.add M aj2 q.h_written_number K4;have t:=t.add M am7 q.h_written_share X4;have t:=t.add M at0 q.h_written_spot U0;have t:=t.add M at1 q.h_written_size U1;have t:=t.add M aj3 q.h_words_of_sheet O3;have t:=t.add M av4 q.h_read_number P5;have t:=t.add M aF1 q.h_read_share U2;have t:=t.add M aM3 q.h_read_spot d9;have t:=t.add M aM4 q.h_read_size ab9;have t:=t.add M bg5 q.h_line_of V2;have t:=t.add M bA2 q.h_l_cell au3;have t:=t.add M bg9 q.h_l_drawn B2;have t:=t.add M bA1 q.h_l_made k8;have t:=t.add M bg6 q.h_l_times ak6;have t:=t.add M bg8 q.h_l_share ac5;have t:=t.add M bA0 q.h_l_spot U4;have t:=t.add M bg7 q.h_l_sheet Q5;have t:=t.add M bP8 q.h_l_any ap4;have t:TOk P w K mg base 39 _:=t;have v:ZOk P w K mg base C 39 _ ⟨[],[],[],zfd,["folio", "other"],[],[]⟩:=ZOk.start t;have v:ZOk P w K mg base C 40 _ _:=v.addM M Fc true aE7 z.m_set_sheet W7 2;have v:ZOk P w K mg base C 41 _ _:=v.addM M Fc true aE6 z.m_take_step W6 3;have v:ZOk P w K mg base C 42 _ _:=v.addM M Fc true cn2 z.m_lay aN6 2;have v:ZOk P w K mg base C 43 _ _:=v.addM M Fc true bz6 z.m_fetch F5 1;have v:ZOk P w K mg base C 44 _ _:=v.addM M Fc true aM1 z.m_take_off u8 1;have v:ZOk P w K mg base C 45 _ _:=v.addM M Fc true bz7 z.m_blend ap0 3;have v:ZOk P w K mg base C 46 _ _:=v.addM M Fc true bz5 z.m_names P9 0;have v:ZOk P w K mg base C 47 _ _:=v.addM M Fc true aZ5 z.m_back aU1 0;have v:ZOk P w K mg base C 48 _ _:=v.addM M Fc true bg2 z.m_counts at7 0;have v:ZOk P w K mg base C 50 _ _:=v.addI M Fc true cFolio av3 z.m_init_Folio rfl ah6 0;have v:ZOk P w K mg base C 51 _ _:=v.addM M Fc false aE8 z.m_is_at_end ab3 0;have v:ZOk P w K mg base C 52 _ _:=v.addM M Fc false av1 z.m_word_ahead u7 0;have v:ZOk P w K mg base C 53 _ _:=v.addM M Fc false aE5 z.m_take_word Q2 0;have v:ZOk P w K mg base C 55 _ _:=v.addI M Fc false cWords av2 z.m_init_Words rfl ac3 1;have v:ZOk P w K mg base C 56 _ _:=v.addO M Fc true bP5 z.m_twin aU0;have v:ZOk P w K mg base C 57 _ _:=v.addD M Fc aF0 q.h_read_sheet u3 0;have v:ZOk P w K mg base C 58 _ _:=v.addD M Fc aF5 q.h_folio_text B5 0;have v:ZOk P w K mg base C 59 _ _:=v.addD M Fc aM5 q.h_read_line Q1 0;have v:ZOk P w K mg base C 60 _ _:=v.addF M Fc aF2 q.h_read_folio D8;have v:ZOk P w K mg base C 61 _ _:=v.addD M Fc bz9 q.h_l_step P0 2;have v:ZOk P w K mg base C 63 _ _:=v.addT M Fc true aZ5 z.m_back av5 q.h_l_goes_back q.h_bad X2;exact v
 case f=>rfl
 case e=>kernel_rfl
theorem zmd{K:ag}{h:Heap}{mg:Str->Option dU}{q0:dX}{y0:Array (Option dU)}{g0t0 g0t1 g1 g2 g3 g4:Tok}{n0:Nat}(X:K.In h)(G:h.Ns dn mg)(p0:aH K dn "ONE" = some (some (.ref q0)))(r0:K.lookup q0=some ⟨.type "tuple", none,.seq #[.int 1 g0t0,.int 1 g0t1] n0,y0⟩)(p1:aH K dn "GREATEST" = some (some (.int 8 g1)))(p2:aH K dn "LETTERS" = some (some (.str "abcdefghijklmnopqrstuvwxyz" g2)))(p3:aH K dn "FIGURES" = some (some (.str "0123456789" g3)))(p4:aH K dn "MOST_FIGURES" = some (some (.int 400 g4)))(z0:aH K dn "ValueError" = some none)(z1:aH K dn "all" = some none)(z2:aH K dn "bool" = some none)(z3:aH K dn "dict" = some none)(z4:aH K dn "int" = some none)(z5:aH K dn "isinstance" = some none)(z6:aH K dn "len" = some none)(z7:aH K dn "list" = some none)(z8:aH K dn "range" = some none)(z9:aH K dn "reversed" = some none)(z10:aH K dn "sorted" = some none)(z11:aH K dn "str" = some none)(z12:aH K dn "tuple" = some none)(z13:aH K dn "zip" = some none):Md K mg zcs zbl:=by
 refine⟨λx v e=>cb X G e,λx d e=>?_,λx e=>?_⟩
 ·unfold zcs at e;rw[aB]at e;split at e
  ·rename_i q;cases e;simp only[beq_iff_eq]at q;subst q;exact⟨_,(bu3 r0 rfl rfl rfl (by show 2<=1000;decide) (ar5 (ag5 1 g0t0) (ar5 (ag5 1 g0t1) bf0))),cb X G p0⟩
  rw[aB]at e;split at e
  ·rename_i q;cases e;simp only[beq_iff_eq]at q;subst q;exact⟨_,(ag5 8 g1),cb X G p1⟩
  rw[aB]at e;split at e
  ·rename_i q;cases e;simp only[beq_iff_eq]at q;subst q;exact⟨_,(aK9 "abcdefghijklmnopqrstuvwxyz" g2),cb X G p2⟩
  rw[aB]at e;split at e
  ·rename_i q;cases e;simp only[beq_iff_eq]at q;subst q;exact⟨_,(aK9 "0123456789" g3),cb X G p3⟩
  rw[aB]at e;split at e
  ·rename_i q;cases e;simp only[beq_iff_eq]at q;subst q;exact⟨_,(ag5 400 g4),cb X G p4⟩
  cases e
 ·unfold zbl at e;simp only[cH,List.contains_nil,cW,Bool.or_eq_true,beq_iff_eq]at e;rcases e with e|e|e|e|e|e|e|e|e|e|e|e|e|e
  ·subst e;exact aN X G z0
  ·subst e;exact aN X G z1
  ·subst e;exact aN X G z2
  ·subst e;exact aN X G z3
  ·subst e;exact aN X G z4
  ·subst e;exact aN X G z5
  ·subst e;exact aN X G z6
  ·subst e;exact aN X G z7
  ·subst e;exact aN X G z8
  ·subst e;exact aN X G z9
  ·subst e;exact aN X G z10
  ·subst e;exact aN X G z11
  ·subst e;exact aN X G z12
  ·subst e;exact aN X G z13
theorem cp8{l:PySem.W.OpenLaw}{q:dq}{loose:List Str}{XP:(Str->Option dU)->Heap->Prop}{YP:World->Heap->Prop}{d:DefRec}{K:Params->ag}(hn:l.most=some 63)(hdf:d.params.defaults=[])
  (hY:∀(w:World) (h:Heap),YP w h->(K w.params).In h) (hd:d.name = "law")
  (F:∀(w:World) (mg:Str->Option dU) (h:Heap),(K w.params).In h->h.Ns dn mg->Md (K w.params) mg zcs zbl)
  (Q:∀w:World,Qs (K w.params))
  (M:∀ns:List Int,ns.length<=63->aO1 [.list (ns.map dJ)]=some (.bool true)) :
  PySem.W.WalkO q loose XP YP l.row.toRowW d [] (λf vs=>PySem.call f vs) :=
 L2.bD5 (n:=63) (k:=64) (x := "_law_script") (CX:=λ_=>CX0) (sp:=λw=>spF (K w.params) 1 aO1) hn (by decide) hdf ⟨rfl,by decide,by decide⟩ hY
  (λw mg fa h hk hg hm=>by
   have N:=F w mg h hk hg;have q:=Q w;rw[hd]at hm;obtain⟨ctrue,cfalse,cFolio,cWords,z⟩:=q.h_cls
   let C:CT:=λb=>match b with|true=>ctrue|false=>cfalse
   obtain⟨_,O,ef,e,t⟩:=cC6 (C:=C) N q cFolio cWords z;have Fc:∀kd,FoC (K w.params) (C kd) (O.fn kd):=by unfold Og5.fn;rw[ef];exact zfc (C:=C) cFolio cWords
   obtain⟨fd,b1,b2⟩:=bt9 N Fc t bU8 q.h_law e hm
   exact⟨fd,b1,λbase _ _=>b2 base⟩)
  (λw H a ns hl _ hS=>⟨rfl,H,[.list (ns.map dJ)],.bool true,B0.refl _,⟨.ref a,[],rfl,⟨a,_,rfl,hS,Reps.ints ns⟩,rfl⟩,M ns hl,λv H' Hf' g r=>r⟩) λ_ _ _ _ _ z=>z
end Lk93
def PySem.W.Fast.tw969717842994269165:Unit:=()
def PySem.W.Fast.tw11623881678734911489:Unit:=()
def PySem.W.Fast.tw2603356039481915150:Unit:=()
def PySem.W.Fast.tw3793040105551703122:Unit:=()
def PySem.W.Fast.tw2252711080136684936:Unit:=()
def PySem.W.Fast.tw6419719825728063373:Unit:=()
def PySem.W.Fast.tw5376467606160109895:Unit:=()
def PySem.W.Fast.tw7227187450738707907:Unit:=()
def PySem.W.Fast.tw15294281706335387030:Unit:=()
def PySem.W.Fast.tw14536648620120364997:Unit:=()
def PySem.W.Fast.tw18077186330629734278:Unit:=()
def PySem.W.Fast.tw9620532259620287876:Unit:=()
def PySem.W.Fast.tw5354943816938366430:Unit:=()
def PySem.W.Fast.tw496346287830809940:Unit:=()
def PySem.W.Fast.tw6561185497796980352:Unit:=()
def PySem.W.Fast.tw14616426995978924167:Unit:=()
def PySem.W.Fast.tw12969049392588021115:Unit:=()
def PySem.W.Fast.tw12674811903309405776:Unit:=()
def PySem.W.Fast.tw3650906583069586547:Unit:=()
def PySem.W.Fast.tw12685285872350125362:Unit:=()
def PySem.W.Fast.tw14523397334581277757:Unit:=()
def PySem.W.Fast.tw3476388193752403742:Unit:=()
def PySem.W.Fast.tw8798014832021531240:Unit:=()
def PySem.W.Fast.tw7237196577230184325:Unit:=()
def PySem.W.Fast.tw5163962855455966080:Unit:=()
def PySem.W.Fast.tw7973424577456892777:Unit:=()
def PySem.W.Fast.tw6378835618962495072:Unit:=()
def PySem.W.Fast.tw4599961861390089500:Unit:=()
def PySem.W.Fast.tw554547782902562273:Unit:=()
def PySem.W.Fast.tw4788289910603136582:Unit:=()
def PySem.W.Fast.tw407416148371712369:Unit:=()
def PySem.W.Fast.tw3795073610926116037:Unit:=()
def PySem.W.Fast.tw14155251943899087911:Unit:=()
def PySem.W.Fast.tw2154906605991692306:Unit:=()
def PySem.W.Fast.tw7375169091768885172:Unit:=()
def PySem.W.Fast.tw17804652920046376582:Unit:=()
def PySem.W.Fast.tw7797415964214674795:Unit:=()
def PySem.W.Fast.tw8081252328794004068:Unit:=()
def PySem.W.Fast.tw11026778078919407042:Unit:=()
def PySem.W.Fast.tw17169652198908802750:Unit:=()
def PySem.W.Fast.tw15629339320348349541:Unit:=()
def PySem.W.Fast.tw2328730414691817462:Unit:=()
def PySem.W.Fast.tw3807804071982117342:Unit:=()
def PySem.W.Fast.tw9369401970060177262:Unit:=()
def PySem.W.Fast.tw52524043416676917:Unit:=()
def PySem.W.Fast.tw75601650245590035:Unit:=()
def PySem.W.Fast.tw6154682530429790077:Unit:=()
def PySem.W.Fast.tw9878634451018291885:Unit:=()
def PySem.W.Fast.tw11313876957245553300:Unit:=()
def PySem.W.Fast.tw13151390806183394943:Unit:=()
def PySem.W.Fast.tw18403803128010210067:Unit:=()
def PySem.W.Fast.tw9120886225313256722:Unit:=()
def PySem.W.Fast.tw8102069995123138343:Unit:=()
def PySem.W.Fast.tw2915169534303288399:Unit:=()
def PySem.W.Fast.tw15977322154939911443:Unit:=()
def PySem.W.Fast.tw3102374194835130671:Unit:=()
def PySem.W.Fast.tw4234323747970224738:Unit:=()
def PySem.W.Fast.tw11237884525453511299:Unit:=()
def PySem.W.Fast.tw3888676827344240156:Unit:=()
def PySem.W.Fast.tw4641751598699403538:Unit:=()
def PySem.W.Fast.tw15117780443099936853:Unit:=()
def PySem.W.Fast.tw15260238951407389744:Unit:=()
def PySem.W.Fast.tw1680572718203064210:Unit:=()
def PySem.W.Fast.tw12053939600604835503:Unit:=()
def PySem.W.Fast.tw16037620969539971738:Unit:=()
def PySem.W.Fast.tw8970670534750228036:Unit:=()
def PySem.W.Fast.tw12499165732319406079:Unit:=()
def PySem.W.Fast.tw831277092959259909:Unit:=()
def PySem.W.Fast.tw3323686890325199012:Unit:=()
def PySem.W.Fast.tw18080454843952372279:Unit:=()
def PySem.W.Fast.tw10898877004642646857:Unit:=()
def PySem.W.Fast.tw8417741253720964759:Unit:=()
def PySem.W.Fast.tw4806946248904166060:Unit:=()
def PySem.W.Fast.tw4516713914788392588:Unit:=()
def PySem.W.Fast.tw8761332043401266518:Unit:=()
def PySem.W.Fast.tw16633735140376447471:Unit:=()
def PySem.W.Fast.tw12331905785415705031:Unit:=()
def PySem.W.Fast.tw9867320674766644768:Unit:=()
def PySem.W.Fast.tw15406636903927083237:Unit:=()
def PySem.W.Fast.tw6891657887093562748:Unit:=()
def PySem.W.Fast.tw8953828672552922270:Unit:=()
def PySem.W.Fast.tw17589308708400908568:Unit:=()
def PySem.W.Fast.tw8144162132282090422:Unit:=()
def PySem.W.Fast.tw4640762043050592869:Unit:=()
def PySem.W.Fast.tw5483141572018691878:Unit:=()
def PySem.W.Fast.tw5648222389091790277:Unit:=()
def PySem.W.Fast.tw7100420805674245938:Unit:=()
def PySem.W.Fast.tw6443372547440012523:Unit:=()
def PySem.W.Fast.tw16489968403037776927:Unit:=()
def PySem.W.Fast.tw831157626279689658:Unit:=()
def PySem.W.Fast.tw5266670185524096148:Unit:=()
def PySem.W.Fast.tw633585514660251791:Unit:=()
def PySem.W.Fast.tw6635995200918580382:Unit:=()
def PySem.W.Fast.tw15746974220389238495:Unit:=()
def PySem.W.Fast.tw15304391571962332596:Unit:=()
def PySem.W.Fast.tw5933963123906398283:Unit:=()
def PySem.W.Fast.tw10400922851190106961:Unit:=()
def PySem.W.Fast.tw3475757755959106021:Unit:=()
def PySem.W.Fast.tw13119461808342330575:Unit:=()
def PySem.W.Fast.tw3805910425965019260:Unit:=()
def PySem.W.Fast.tw13853462670145018711:Unit:=()
def PySem.W.Fast.tw8172877791302547872:Unit:=()
def PySem.W.Fast.tw4720013662577287304:Unit:=()
def PySem.W.Fast.tw8399863970035381484:Unit:=()
def PySem.W.Fast.tw6633739591171491557:Unit:=()
def PySem.W.Fast.tw9542318442375735811:Unit:=()
def PySem.W.Fast.tw15512773018761550401:Unit:=()
def PySem.W.Fast.tw14990357452538752386:Unit:=()
def PySem.W.Fast.tw6958280330970270148:Unit:=()
def PySem.W.Fast.tw15907219504849966201:Unit:=()
def PySem.W.Fast.tw7570082854172365981:Unit:=()
def PySem.W.Fast.tw6708962839189952095:Unit:=()
def PySem.W.Fast.tw12454868460958835924:Unit:=()
def PySem.W.Fast.tw12804367460988173764:Unit:=()
def PySem.W.Fast.tw9593212697503865706:Unit:=()
def PySem.W.Fast.tw8664408381000240686:Unit:=()
def PySem.W.Fast.tw16119197974704043296:Unit:=()
def PySem.W.Fast.tw9287517170534499668:Unit:=()
def PySem.W.Fast.tw7196398402865205734:Unit:=()
def PySem.W.Fast.tw7557585606549240648:Unit:=()
def PySem.W.Fast.tw4233281565484532107:Unit:=()
def PySem.W.Fast.tw7526156976906227792:Unit:=()
def PySem.W.Fast.tw17013996828708105280:Unit:=()
def PySem.W.Fast.tw9260159557629498978:Unit:=()
def PySem.W.Fast.tw4338548311639537970:Unit:=()
def PySem.W.Fast.tw12222281187676811943:Unit:=()
def PySem.W.Fast.tw12600467246961079022:Unit:=()
def PySem.W.Fast.tw773171859722928336:Unit:=()
def PySem.W.Fast.tw4929119442819860334:Unit:=()
def PySem.W.Fast.tw11225463390637185304:Unit:=()
def PySem.W.Fast.tw17594216734749932215:Unit:=()
def PySem.W.Fast.tw5881929515109109606:Unit:=()
def PySem.W.Fast.tw17899658408322262899:Unit:=()
def PySem.W.Fast.tw10748265417590060352:Unit:=()
def PySem.W.Fast.tw9743313194422603015:Unit:=()
def PySem.W.Fast.tw11262538512975401655:Unit:=()
def PySem.W.Fast.tw625522217554376147:Unit:=()
def PySem.W.Fast.tw16007160472118888417:Unit:=()
def PySem.W.Fast.tw4017771723832671084:Unit:=()
def PySem.W.Fast.tw714591629952692267:Unit:=()
def PySem.W.Fast.tw11629025156336360758:Unit:=()
def PySem.W.Fast.tw324134813675663090:Unit:=()
def PySem.W.Fast.tw15469919998736724772:Unit:=()
def PySem.W.Fast.tw15291543160119351318:Unit:=()
def PySem.W.Fast.tw16622031998623759181:Unit:=()
def PySem.W.Fast.tw16134691004337436188:Unit:=()
def PySem.W.Fast.tw1738544451578430697:Unit:=()
def PySem.W.Fast.tw16161664727461583451:Unit:=()
def PySem.W.Fast.tw1957629503237689216:Unit:=()
def PySem.W.Fast.tw15151805724530315914:Unit:=()
namespace Lk93
open PySem PySem.W PyProof.Rows
set_option maxHeartbeats 0 in
open_top head for PySem.Challenge.rw_glazework_k93_whole_folio_texts
end Lk93
open PySem PySem.W PyProof.Rows
set_option maxRecDepth 100000 in
set_option maxHeartbeats 0 in
theorem PySem.Challenge.cw_glazework_k93_whole_folio_texts_holds : PySem.Challenge.rw_glazework_k93_whole_folio_texts.Holds := by
 refine Lk93.head ?_
 k_fill
 refine Lk93.cp8 (l:=PySem.Challenge.rw_glazework_k93_whole_folio_texts) rfl rfl (λw h Y=>PySem.W.kIn_of Y) rfl ?F ?Q Lk93.main
 case F =>
  intro w mg h KX G
  refine' Lk93.zmd KX G ?p0 ?r0 ?p1 ?p2 ?p3 ?p4 ?z0 ?z1 ?z2 ?z3 ?z4 ?z5 ?z6 ?z7 ?z8 ?z9 ?z10 ?z11 ?z12 ?z13
  (case p0=>k_is);(case r0=>k_is);(case p1=>k_is);(case p2=>k_is);(case p3=>k_is);(case p4=>k_is);(case z0=>k_is);(case z1=>k_is);(case z2=>k_is);(case z3=>k_is);(case z4=>k_is);(case z5=>k_is);(case z6=>k_is);(case z7=>k_is);(case z8=>k_is);(case z9=>k_is);(case z10=>k_is);(case z11=>k_is);(case z12=>k_is);(case z13=>k_is)
 case Q =>
  intro w;constructor
  case h_bad=>kernel_rfl
  case h_cls =>
   refine' ⟨_,_,G.bu6 ?aFolio ?bFolio ?cFolio ?pgFolio ?hdFolio ?poFolio ?saFolio ?nFolio,G.bu6 ?aWords ?bWords ?cWords ?pgWords ?hdWords ?poWords ?saWords ?nWords,?ms⟩
   (case aFolio=>k_is);(case bFolio=>k_is);(case cFolio=>k_is);(case pgFolio=>k_is);(case hdFolio=>k_is);(case poFolio=>k_is);(case saFolio=>k_is);(case aWords=>k_is);(case bWords=>k_is);(case cWords=>k_is);(case pgWords=>k_is);(case hdWords=>k_is);(case poWords=>k_is);(case saWords=>k_is)
   case nFolio=>intro f hf;simp only[ax,aP,or_false]at hf;rcases hf with rfl|rfl|rfl<;>k_is
   case nWords=>intro f hf;simp only[ax,aP,or_false]at hf;rcases hf with rfl|rfl<;>k_is
   case ms =>
    constructor
    all_goals (refine' G.cx8 ?a ?i ?l ?c ?k;(case a=>k_is);(case i=>k_is);(case l=>k_is);(case c=>k_is);(case k=>k_is))
  all_goals (refine' G.cx9 ?a ?l ?c ?k;(case a=>k_is);(case l=>k_is);(case c=>k_is);(case k=>k_is))
