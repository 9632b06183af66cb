import PyProof.Rows.All
import Wide.All
import OpenK.AllK
import Wide.FinOn
import Lean
import PyProof.EqAt
import PyProof.EqKinds
import PyProof.TupleCall
import PySem.Challenge.RW_glazework_k92_folio_texts
open Option renaming bind_eq_some_iff→ae,map_eq_some_iff→af,some→bg,isSome_map→da,isSome_iff_exists→dj,bind_some→dm,map_some→dy
open PySem.W renaming Frag→ag,keepIn→aD,nsIn→aP,mg_none_of→aT,fnOf→bx,excIn→bO,codeIn→bZ,mg_of→cN
open Bool renaming and_eq_true→ah,false_ne_true→be,false_eq_true→bi,not_eq_true'→bn,true_and→bu,false_and→bv,or_eq_true→cw,and_false→cC,and_assoc→cD,eq_iff_iff→cR,and_true→de,or_false→dG
open List renaming mem_cons_of_mem→ai,length_map→ak,getElem?_eq_some_iff→ao,getElem?_append_right→aq,replicate→au,size_toArray→av,append_nil→aw,mem_cons→ax,mem_append_right→ay,getElem?_append_left→az,getElem?_set_ne→aA,getElem?_set_self→aC,mem_map→aE,getElem?_map→aF,length_append→aG,append_assoc→aH,length_cons→aI,lookup_cons→aJ,all_cons→aL,mem_singleton→aN,all_eq_true→aO,mem_append→aQ,not_mem_nil→aS,map_map→aV,mem_append_left→aX,getElem?_replicate→aY,range→aZ,getElem?_eq_getElem→ba,map_congr_left→bc,map_cons→bh,getElem?_set→br,length_replicate→bA,mem_cons_self→bC,replicate_succ→bE,length_set→bF,lookup→bH,length_take→bI,getElem?_zip_eq_some→bJ,mem_of_getElem?→bM,map_append→bN,any_cons→bP,take_of_length_le→bQ,getD_eq_getElem?_getD→bU,find?_cons→bV,flatten_cons→bW,drop_eq_getElem_cons→bX,length_drop→cb,nodup_cons→cg,set_append_right→ck,getElem_mem→cq,mem_map_of_mem→cu,mem_range→cA,findIdx?_eq_some_iff_getElem→cF,length_range→cG,count_append→cH,length_singleton→cJ,drop_length→cK,filter_cons→cL,getElem?_eq_none→cM,of_mem_zip→cP,foldl_cons→cQ,filterMap_cons→cT,foldl→cU,infix_cons_iff→cW,mem_filterMap→cX,mem_replicate→cY,length→cZ,ext_getElem?→db,append_eq_append_iff→dh,getElem?_take_of_lt→dk,range'_succ→dn,map_reverse→dr,mem_filter→dw,drop_zero→dF
open Nat renaming le_refl→aj,lt_of_lt_of_le→aB,ne_of_lt→aK,le_trans→aM,zero_le→aU,sub_self→aW,lt_irrefl→bf,lt_or_ge→bD,le_of_lt→bG,mul_le_mul→bL,gcd→bR,pow_le_pow_right→bY,mul_le_mul_left→ce,lt_of_le_of_lt→cf,le_succ→ci,lt_trans→cn,pos_of_ne_zero→cy,ne_of_gt→cz,lt_succ_self→cI,pow_succ→cS,mod_lt→cV,min_le_right→dl,mul_comm→dt,toDigits→du,toDigits_of_lt_base→dv,div_le_self→dA
open Classical renaming byContradiction→aR,choose_spec→dB
open Array renaming length_toList→bj,getElem?_toList→bK,getElem?_eq_some_iff→bT,getElem?_eq_getElem→cr,mem_toList_iff→cO,getElem?_eq_none→dz
open Int renaming natCast_mul→bB,natAbs_natCast→bS,toNat_natCast→cj
open PySem renaming wpAny_bind→dH,wpAny_pure→dI,wpAny_mono→dJ,wpAny_newObj_type→dL,wpAny_truthy_bool→dM,wpAny_field→dN,starEach→dO,sizeLine→dP,sizeLine_eq→dQ,compareOp→dR,mainGlobals→dS,Program→dU,Around→dW,FuncData→dX,bootBuiltins→dY,binaryOp→dZ,Keyword→eh,assignEach→ei,foldedSetIterable→em,call_meets→eA,attributeBase→eB,wpAny→eD,model→eE
open PySem.Heap renaming get?_push_of_some→eF,lt_size→eG,get?_push_size→eI
open PySem.SeqAt renaming shaped→eJ
open PySem.PyData renaming eqv→eK,int→eL,bool→eM,str→eN,canLay0→eO
open PySem.Value renaming ref→eP,none→eQ
open PySem.NameKind renaming free→eR
open PySem.Str renaming empty→eT
open PySem renaming Value→eU
open PySem renaming Shared→eV
open PySem renaming Addr→eW
set_option compiler.extract_closed false
noncomputable section
set_option autoImplicit true
set_option Elab.async false
set_option linter.all false
set_option maxRecDepth 100000
namespace L2
open PySem PySem.Spec PyProof.Rows
noncomputable abbrev Key:=Sum Int Str
noncomputable def al0:Key->eU->Bool
 | .inl k,v=>Value.isInt k v
 | .inr x,v=>Value.isStrOf x v
noncomputable def cC7(w:World):Key->Int
 | .inl k=>hashInt k
 | .inr x=>hashStr w x
theorem F2:∀{k:Key}{v:eU},al0 k v=true->(∃i t,k=Sum.inl i/\v=Value.int i t)\/(∃x t,k=Sum.inr x/\v=Value.str x t)
 | .inl i,v,h=>by
  obtain⟨t,e⟩:=Value.isInt_shape (k:=i) (v:=v) h;exact .inl ⟨i,t,rfl,e⟩
 | .inr x,v,h=>by
  obtain⟨t,e⟩:=Value.isStrOf_shape (x:=x) (v:=v) h;exact .inr ⟨x,t,rfl,e⟩
theorem aZ2(i:Int)(t:Tok):al0 (.inl i) (.int i t)=true:=by simp[al0,Value.isInt]
theorem aZ1(x:Str)(t:Tok):al0 (.inr x) (.str x t)=true:=by simp[al0,Value.isStrOf]
theorem cf2(a b:Int):decide ((Sum.inl a:Key)=Sum.inl b)=(a==b):=by
 by_cases e:a=b
 ·subst e;simp
 ·have h:¬(Sum.inl a:Key)=Sum.inl b:=λq=>e (Sum.inl.inj q)
  rw[decide_eq_false h];exact(beq_eq_false_iff_ne.mpr e).symm
theorem bo4(a b:Str):decide ((Sum.inr a:Key)=Sum.inr b)=decide (a=b):=by
 by_cases e:a=b
 ·subst e;simp
 ·have h:¬(Sum.inr a:Key)=Sum.inr b:=λq=>e (Sum.inr.inj q)
  rw[decide_eq_false h,decide_eq_false e]
theorem cf1(a:Int)(b:Str):decide ((Sum.inl a:Key)=Sum.inr b)=false:=decide_eq_false (λq=>nomatch q)
theorem cf0(a:Str)(b:Int):decide ((Sum.inr a:Key)=Sum.inl b)=false:=decide_eq_false (λq=>nomatch q)
noncomputable def E7(prog:dU)(w:World):PySem.KeyKind prog w Key where
 is:=al0
 hash:=cC7 w
 inj:=λv a b ha hb=>by
  rcases F2 ha with⟨i,t,rfl,rfl⟩|⟨x,t,rfl,rfl⟩
  ·rcases F2 hb with⟨j,u,rfl,e⟩|⟨y,u,rfl,e⟩
   ·injection e with e1 _;rw[e1]
   ·exact nomatch e
  ·rcases F2 hb with⟨j,u,rfl,e⟩|⟨y,u,rfl,e⟩
   ·exact nomatch e
   ·injection e with e1 _;rw[e1]
 byValue:=λk v h=>by
  rcases F2 h with⟨i,t,rfl,rfl⟩|⟨x,t,rfl,rfl⟩<;>rfl
 pyHash:=λhv h=>by
  rcases F2 hv with⟨i,t,rfl,rfl⟩|⟨x,t,rfl,rfl⟩
  ·exact wpAny_pyHash_int h
  ·exact wpAny_pyHash_str h
 eqBool:=λhu hv h=>by
  rcases F2 hu with⟨i,t,rfl,rfl⟩|⟨x,t,rfl,rfl⟩
  ·rcases F2 hv with⟨j,u,rfl,rfl⟩|⟨y,u,rfl,rfl⟩
   ·rw[cf2]at h;exact wpAny_eqBool_int h
   ·rw[cf1]at h;exact SeqAt.EqAt.int_str i t y u _ _ _ _ h
  ·rcases F2 hv with⟨j,u,rfl,rfl⟩|⟨y,u,rfl,rfl⟩
   ·rw[cf0]at h;exact SeqAt.EqAt.str_int x t j u _ _ _ _ h
   ·rw[bo4]at h;exact wpAny_eqBool_str h
 «strs»:=λk x t v h=>by
  rcases F2 h with⟨i,u,rfl,e⟩|⟨y,u,rfl,e⟩
  ·exact nomatch e
  ·injection e with e1 _
   subst e1;cases v<;>rfl
theorem aD5(prog:dU)(w:World)(i:Int)(t:Tok):(E7 prog w).is (.inl i) (.int i t)=true:=aZ2 i t
theorem aD4(prog:dU)(w:World)(x:Str)(t:Tok):(E7 prog w).is (.inr x) (.str x t)=true:=aZ1 x t
end L2
namespace L2
open PySem PySem.Spec PyProof.Rows
inductive V where
 | non|bl (b:Bool)|int (i:Int)|str (x:Str)|byt (b:Array UInt8)|flt (b:UInt64)|ref (a:eW)|ty (n:String)
 deriving DecidableEq
noncomputable def C5:V->eU->Prop
 | .non,u=>u=eQ
 | .bl b,u=>u=Value.bool b
 | .int i,u=>∃t,u=Value.int i t
 | .str x,u=>∃t,u=Value.str x t
 | .byt b,u=>∃t,u=Value.bytes b t
 | .flt b,u=>∃t,u=Value.float b t
 | .ref a,u=>u=eP a
 | .ty n,u=>u=Value.type n
noncomputable abbrev C9:List V->List eU->Prop:=Paired C5
theorem C9.length(r:C9 xs us):xs.length=us.length:=Paired.length r
theorem C9.get:∀{xs:List V}{us:List eU}{i:Nat}{x:V},C9 xs us->xs[i]? = some x->∃u,us[i]? = some u/\C5 x u
 | _,_,_,_,.nil,e=>by simp at e
 | _,_,0,_,.cons r _,e=>by simp at e;subst e;exact⟨_,rfl,r⟩
 | _,_,i+1,x,.cons _ t,e=>by
  obtain⟨u,h1,h2⟩:=C9.get (i:=i) (x:=x) t (by simpa using e);exact⟨u,by simpa using h1,h2⟩
theorem C9.append:∀{xs ys:List V}{us ws:List eU},C9 xs us->C9 ys ws->C9 (xs++ys) (us++ws)
 | _,_,_,_,.nil,s=>s
 | _,_,_,_,.cons r t,s=>.cons r (C9.append t s)
theorem C9.take:∀{xs:List V}{us:List eU}(n:Nat),C9 xs us->C9 (xs.take n) (us.take n)
 | _,_,0,_=>.nil
 | _,_,_+1,.nil=>.nil
 | _,_,n+1,.cons r t=>.cons r (C9.take n t)
theorem C9.drop:∀{xs:List V}{us:List eU}(n:Nat),C9 xs us->C9 (xs.drop n) (us.drop n)
 | _,_,0,r=>r
 | _,_,_+1,.nil=>.nil
 | _,_,n+1,.cons _ t=>C9.drop n t
noncomputable def Y1:Option V->Option eU->Prop
 | some v,some u=>C5 v u
 | none,none=>True
 | _,_=>False
noncomputable def KV{κ:Type}:List (κ×V)->List (κ×eU)->Prop:=Paired λ(p:κ×V) (q:κ×eU)=>p.1=q.1/\C5 p.2 q.2
noncomputable def kV:Key->V
 | .inl i=>.int i
 | .inr x=>.str x
inductive HO where
 /-- a list -/
 | lst (xs:List V)
 /-- a tuple (never changes) -/
 | tup (xs:List V)
 /-- a dict whose keys are ints and texts;one whose keys are tuples of ints and texts (the empty one is both) -/
 | dK (kvs:List (Key×V))|dT (kvs:List (List Key×V))
 /-- a set of ints: its members,its size -/
 | set (S:Int->Bool) (n:Nat)
 /-- an instance of the class at C,its dict at dx,its attributes -/
 | ins (C dx:eW) (fs:List (Str×V))
 /-- the dict of the instance at x -/
 | own (x:eW)
 /-- the dict of an exception -/
 | xd (fs:List (Str×V))
 /-- a bound method,f of x -/
 | met (f x:eW)
 /-- a range object lo,lo+1,.. below hi -/
 | rng (lo hi:Int)
 /-- a thing that is known to the object (the script;a dict while a loop walks it): read,never written while it is so -/
 | frz (o:Obj) (u:HO)
 /-- a code object's table -/
 | tbl (ps:Array eU)
 /-- any other thing,by what is true of its one object (a def of one's own: SetO a S n:=HO.ext λh=>..) -/
 | ext (φ:Heap->Prop)
noncomputable abbrev Hp:=eW->Option HO
noncomputable def upd(H:Hp)(a:eW)(o:HO):Hp:=λb=>if b=a then some o else H b
theorem A7:upd H a o a=some o:=by unfold upd;rw[if_pos rfl]
theorem A9(h:b≠a):upd H a o b=H b:=by unfold upd;rw[if_neg h]
theorem ct9{H:Hp}{a b:eW}{o u:HO}(h:H a=some o)(h':H b=some u)(d:o≠u):a≠b:=by
 intro e;subst e;rw[h]at h';exact d (bg.inj h')
theorem B9{H:Hp}{a b:eW}{o:HO}(h:H a=some o)(h':H b=none):a≠b:=by
 intro e;subst e;rw[h]at h';cases h'
noncomputable def ao5(h:Heap)(a:eW)(items:Array eU):Prop:=∃o,h.get? a=some o/\o.cls=.type "tuple" /\ (∃n,o.data=.seq items n)/\o.dict=none
theorem ao5.tup{h:Heap}{a:eW}{items:Array eU}(p:ao5 h a items):IsTup h a items:=let⟨o,e,c,d,_⟩:=p;⟨o,e,c,d⟩
theorem ao5.new(h:Heap)(items:Array eU)(n:Nat:=0):ao5 (h.push { cls:=.type "tuple", data:=.seq items n }) h.objs.size items:=⟨_,eI _ rfl,rfl,⟨_,rfl⟩,rfl⟩
section
variable (P:Program) (w:World)
noncomputable def F9(H:Hp)(h:Heap)(a:eW):HO->Prop
 | .lst xs=>xs.length<=dP/\∃(its:List eU) (n:Nat),C9 xs its/\h.get? a=some { cls:=.type "list", data:=.seq its.toArray n }
 | .tup xs=>xs.length<=dP/\∃its:List eU,C9 xs its/\ao5 h a its.toArray
 | .dK kvs=>kvs.length<=dP/\(a==sysModules)=false/\∃vs,KV kvs vs/\h.DictOf (E7 P w) a vs
 | .dT kvs=>kvs.length<=dP/\(a==sysModules)=false/\∃xs:List (List Key×eW×eU),
   Paired (λ(p:List Key×V) (q:List Key×eW×eU)=>p.1=q.1/\H q.2.1=some (.tup (p.1.map kV))/\C5 p.2 q.2.2) kvs xs /\
   ∃o es ep,h.get? a=some o/\o.ExactDict/\o.data=.dict es ep/\es.toList=xs.map (entryOfKey (tupleKind (E7 P w)))/\(xs.map (·.1)).Nodup
 | .set S n=>h.SetOf (intKind P w) a S n
 | .ins C dx fs=>H dx=some (.own a)/\fs.length<=1000/\dx≠a/\h.get? a=some (PySem.W.instObj C dx) /\
   ∃mA,h.Ns1 dx mA/\(∀f,Y1 (fs.lookup f) (mA f))/\PySem.Within mA (fs.map (·.1))
 | .own _=>∃o,h.get? a=some o
 | .xd fs=>∃mA,h.Ns1 a mA/\∀f,Y1 (fs.lookup f) (mA f)
 | .rng lo hi=>∃t u v,h.get? a=some { cls:=.type "range", data:=.fields #[.int lo t,.int hi u,.int 1 v] }
 | .frz o u=>h.get? a=some o/\F9 H h a u
 | .tbl ps=>h.get? a=some { cls:=.none,data:=.fields ps }
 | .met f x=>h.get? a=some (PySem.W.methodObj (.ref f) (.ref x))
 | .ext φ=>φ h/\(∃o,h.get? a=some o)/\∀h1 h2:Heap,φ h1->(∀o,h1.get? a=some o->h2.get? a=some o)->φ h2
noncomputable def HOk(H:Hp)(h:Heap):Prop:=∀a o,H a=some o->F9 P w H h a o
end
section
variable {P:Program}{w:World}{H H':Hp}{h h':Heap}{a:Addr}{o:HO}
theorem F9.lt(x:F9 P w H h a o):a < h.objs.size:=by
 cases o with
 | lst xs=>obtain⟨_,_,_,_,e⟩:=x;exact eG e
 | tup xs=>obtain⟨_,_,_,p⟩:=x;exact p.tup.lt
 | dK kvs=>obtain⟨_,_,_,_,o,_,_,e,_⟩:=x;exact eG e
 | dT kvs=>obtain⟨_,_,_,_,o,_,_,e,_⟩:=x;exact eG e
 | set S n=>obtain⟨o,_,_,_,e,_⟩:=x;exact eG e
 | ins C dx fs=>obtain⟨_,_,_,e,_⟩:=x;exact eG e
 | own y=>obtain⟨_,e⟩:=x;exact eG e
 | xd fs=>obtain⟨_,⟨_,_,_,e,_⟩,_⟩:=x;exact eG e
 | rng lo hi=>obtain⟨_,_,_,e⟩:=x;exact eG e
 | frz ob u=>obtain⟨e,_⟩:=x;exact eG e
 | tbl ps=>exact eG (show h.get? a=some _ from x)
 | met f y=>exact eG (show h.get? a=some _ from x)
 | ext φ=>obtain⟨_,⟨_,e⟩,_⟩:=x;exact eG e
theorem Paired.mapP{α β:Type}{F G:α->β->Prop}:∀{l₁:List α}{l₂:List β},Paired F l₁ l₂->(∀a b,F a b->G a b)->Paired G l₁ l₂
 | _,_,.nil,_=>.nil
 | _,_,.cons r t,f=>.cons (f _ _ r) (Paired.mapP t f)
theorem F9.stay(x:F9 P w H h a o)(k:∀b u,(b=a\/H b=some (.own a))->h.get? b=some u->h'.get? b=some u)
  (ho:∀b,H b=some (.own a)->H' b=some (.own a)) (ht:∀b xs,H b=some (.tup xs)->H' b=some (.tup xs)):F9 P w H' h' a o:=by
 induction o with
 | lst xs=>obtain⟨z,its,n,r,e⟩:=x;exact⟨z,its,n,r,k _ _ (.inl rfl) e⟩
 | tup xs=>obtain⟨z,its,r,ob,e,c⟩:=x;exact⟨z,its,r,ob,k _ _ (.inl rfl) e,c⟩
 | dK kvs=>obtain⟨z,y,vs,r,ob,es,ep,e,c⟩:=x;exact⟨z,y,vs,r,ob,es,ep,k _ _ (.inl rfl) e,c⟩
 | dT kvs =>
  obtain⟨z,y,xs,r,ob,es,ep,e,c⟩:=x;exact⟨z,y,xs,Paired.mapP r λp q z=>⟨z.1,ht _ _ z.2.1,z.2.2⟩,ob,es,ep,k _ _ (.inl rfl) e,c⟩
 | set S n=>obtain⟨ob,es,ep,t,e,c⟩:=x;exact⟨ob,es,ep,t,k _ _ (.inl rfl) e,c⟩
 | ins C dx fs =>
  obtain⟨d,z,ne,e,mA,⟨od,es,ep,e2,c⟩,r⟩:=x;exact⟨ho _ d,z,ne,k _ _ (.inl rfl) e,mA,⟨od,es,ep,k _ _ (.inr d) e2,c⟩,r⟩
 | own y=>obtain⟨ob,e⟩:=x;exact⟨ob,k _ _ (.inl rfl) e⟩
 | xd fs=>obtain⟨mA,⟨od,es,ep,e,c⟩,r⟩:=x;exact⟨mA,⟨od,es,ep,k _ _ (.inl rfl) e,c⟩,r⟩
 | rng lo hi=>obtain⟨t,u,v,e⟩:=x;exact⟨t,u,v,k _ _ (.inl rfl) e⟩
 | frz ob u ih=>obtain⟨e,q⟩:=x;exact⟨k _ _ (.inl rfl) e,ih q⟩
 | tbl ps =>
  have e:h.get? a=some { cls:=.none,data:=.fields ps }:=x;show h'.get? a=some { cls:=.none,data:=.fields ps };exact k a _ (.inl rfl) e
 | met f y =>
  have e:h.get? a=some (PySem.W.methodObj (.ref f) (.ref y)):=x;show h'.get? a=some (PySem.W.methodObj (.ref f) (.ref y));exact k a _ (.inl rfl) e
 | ext φ=>obtain⟨p,⟨o,e⟩,st⟩:=x;exact⟨st _ _ p λo q=>k _ _ (.inl rfl) q,⟨o,k _ _ (.inl rfl) e⟩,st⟩
theorem HOk.lt(x:HOk P w H h)(e:H a=some o):a < h.objs.size:=(x a o e).lt
theorem HOk.fresh(x:HOk P w H h)(e:h.objs.size<=a):H a=none:=by
 cases q:H a with
 | none=>rfl
 | some u=>exact absurd (aB (x.lt q) e) (bf _)
theorem HOk.kept(x:HOk P w H h)(k:∀b u,h.get? b=some u->h'.get? b=some u):HOk P w H h':=λa o e =>
 (x a o e).stay (λb u _ q=>k b u q) (λ_ q=>q) λ_ _ q=>q
theorem HOk.laid(x:HOk P w H h)(k:∀b u,h.get? b=some u->h'.get? b=some u)(hp:h.objs.size<=a)(new:F9 P w (upd H a o) h' a o):HOk P w (upd H a o) h':=λb u e=>by
 have hn:=x.fresh hp;by_cases hb:b=a
 ·subst hb;rw[A7]at e;cases e;exact new
 ·rw[A9 hb]at e;exact(x b u e).stay (λc v _ q=>k c v q) (λc q=>by rw[A9 (B9 q hn)];exact q) λc xs q=>by rw[A9 (B9 q hn)];exact q
end
noncomputable def Rd(H:Hp)(a:eW)(u:HO):Prop:=H a=some u\/∃o,H a=some (.frz o u)
theorem Rd.ok(r:Rd H a u)(x:HOk P w H h):F9 P w H h a u:=by
 rcases r with r|⟨o,r⟩
 ·exact x a u r
 ·obtain⟨_,q⟩:=x a _ r;exact q
noncomputable def Mut:Option HO->Prop
 | some (.lst _)=>True
 | some (.dK _)=>True
 | some (.dT _)=>True
 | some (.set _ _)=>True
 | some (.ins _ _ _)=>True
 | some (.ext _)=>True
 | _=>False
section
variable {P:Program}{w:World}{H:Hp}{h h':Heap}{x e:Addr}{o':HO}
theorem HOk.write(ok:HOk P w H h)(mu:Mut (H x))(he:e=x\/H e=some (.own x))(k:∀b u,b≠e->h.get? b=some u->h'.get? b=some u)(heo:∃u,h'.get? e=some u)
  (new:F9 P w (upd H x o') h' x o'):HOk P w (upd H x o') h':=λb u q=>by
 have nown:∀c y,H c=some (.own y)->c≠x:=λc y r z=>by subst z;rw[r]at mu;exact mu
 have ntup:∀c xs,H c=some (.tup xs)->c≠x:=λc xs r z=>by subst z;rw[r]at mu;exact mu
 by_cases hb:b=x
 ·subst hb;rw[A7]at q;cases q;exact new
 ·rw[A9 hb]at q;by_cases hbe:b=e
  ·have q':H b=some (.own x):=by
    rcases he with z|z
    ·exact absurd (hbe.trans z) hb
    ·rw[hbe];exact z
   rw[q]at q';cases q';obtain⟨v,hv⟩:=heo;exact⟨v,by rw[hbe];exact hv⟩
  ·refine(ok b u q).stay (λc v hc r=>k c v ?_ r) (λc r=>by rw[A9 (nown c b r)];exact r) λc xs r=>by rw[A9 (ntup c xs r)];exact r
   rcases hc with rfl|hc
   ·exact hbe
   ·rintro rfl
    rcases he with z|z
    ·exact nown c b hc z
    ·rw[hc]at z;cases z;exact hb rfl
end
structure Un (fs ex:List eW) (H H':Hp) (h h':Heap):Prop where
 keep:∀b o,h.get? b=some o->H b=none->b∉fs->b∉ex->h'.get? b=some o
 slot:∀b o,h.get? b=some o->H b=none->b∈fs->b∉ex->∃sl,h'.get? b=some { o with slots:=sl }
 free:∀b o,h.get? b=some o->H b=none->b∉ex->H' b=none
 there:∀b o,h.get? b=some o->b∉ex->∃o',h'.get? b=some o'
 tups:∀b xs,H b=some (.tup xs)->H' b=some (.tup xs)
 frzs:∀b o u,H b=some (.frz o u)->H' b=some (.frz o u)
 tbls:∀b ps,H b=some (.tbl ps)->∃more,H' b=some (.tbl (ps++more))
section
variable {fs fs' ex ex':List Addr}{H H1 H2:Hp}{h h1 h2 h':Heap}{a x e:Addr}{o:HO}
theorem Un.any(u:Un fs ex H H1 h h1)(q:h.get? b=some ob)(n:H b=none)(hx:b∉ex):∃sl,h1.get? b=some { ob with slots:=sl }:=by
 by_cases hb:b∈fs
 ·exact u.slot b ob q n hb hx
 ·exact⟨ob.slots,u.keep b ob q n hb hx⟩
theorem Un.kept(k:∀b u,h.get? b=some u->h'.get? b=some u):Un fs ex H H h h' :=
 ⟨λb ob q _ _ _=>k b ob q,λb ob q _ _ _=>⟨ob.slots,k b ob q⟩,λ_ _ _ n _=>n,λb ob q _=>⟨ob,k b ob q⟩,λ_ _ q=>q,λ_ _ _ q=>q,λ_ ps q=>⟨#[],by rw[q];simp⟩⟩
theorem Un.refl:Un fs ex H H h h:=Un.kept λ_ _ q=>q
theorem Un.laid(k:∀b u,h.get? b=some u->h'.get? b=some u)(hp:h.objs.size<=a)(hn:H a=none):Un fs ex H (upd H a o) h h' where
 keep:=λb u q _ _ _=>k b u q
 slot:=λb u q _ _ _=>⟨u.slots,k b u q⟩
 free:=λb u q n _=>by rw[A9 (aK (aB (eG q) hp))];exact n
 there:=λb u q _=>⟨u,k b u q⟩
 tups:=λb xs q=>by rw[A9 (B9 q hn)];exact q
 frzs:=λb u xs q=>by rw[A9 (B9 q hn)];exact q
 tbls:=λb ps q=>⟨#[],by rw[A9 (B9 q hn),q];simp⟩
theorem Un.write(mu:Mut (H x))(he:e=x\/H e=some (.own x))(k:∀b u,b≠e->h.get? b=some u->h'.get? b=some u)(heo:∃u,h'.get? e=some u):Un fs ex H (upd H x o) h h':=by
 have hx:∀b,H b=none->b≠x:=λb n z=>by subst z;rw[n]at mu;exact mu
 have hb:∀b,H b=none->b≠e:=λb n z=>by
  subst z;rcases he with r|r
  ·exact hx b n r
  ·rw[n]at r;cases r
 have hm:∀b u,H b=some u->¬Mut (some u)->b≠x:=λb u q nm z=>by subst z;rw[q]at mu;exact nm mu
 refine⟨λb u q n _ _=>k b u (hb b n) q,λb u q n _ _=>⟨u.slots,k b u (hb b n) q⟩,λb u q n _=>by rw[A9 (hx b n)];exact n,λb u q _=>?_,
  λb xs q=>by rw[A9 (hm b _ q λz=>z)];exact q,λb u xs q=>by rw[A9 (hm b _ q λz=>z)];exact q,λb ps q=>⟨#[],by rw[A9 (hm b _ q λz=>z),q];simp⟩⟩
 by_cases hbe:b=e
 ·subst hbe;exact heo
 ·exact⟨u,k b u hbe q⟩
end
noncomputable def trk(h:Heap)(H:Hp):List eW:=(aZ h.objs.size).filter λa=>(H a).isSome
noncomputable def aw7(h:Heap)(H:Hp):Heap:=PySem.W.hideAll h (trk h H)
theorem aZ9(h:Heap)(H:Hp):(aw7 h H).objs.size=h.objs.size:=PySem.W.hideAll_size _ _
theorem bt0(e:h.get? b=some o)(n:H b=none):(aw7 h H).get? b=some o :=
 PySem.W.hideAll_get _ e λhm=>by
  have q:(H b).isSome=true:=(dw.mp hm).2;rw[n]at q;simp at q
theorem bH7(e:(aw7 h H).get? b=some o):h.get? b=some o/\H b=none:=by
 have e':h.get? b=some o:=PySem.W.of_hideAll (trk h H) e;refine⟨e',?_⟩;cases q:H b with
 | none=>rfl
 | some x =>
  have hm:b∈trk h H:=dw.mpr ⟨cA.mpr (eG e'),by simp[q]⟩;have z:(aw7 h H).get? b=none:=PySem.W.hideAll_none (trk h H) hm;rw[z]at e;cases e
noncomputable def bN1(g h:Heap)(L:eW):List (eW×Obj):=(aZ h.objs.size).filterMap λa=>if a=L\/(g.get? a).isSome=true then none else(h.get? a).map λo=>(a,o)
noncomputable def P0(g h:Heap)(L d:eW):List (eW×Obj):=(bN1 g h L).filter λp=>decide (p.1≠d)
end L2
namespace L2
open PySem PySem.Spec PyProof.Rows
structure Mod (K:ag) (mg:Str->Option eU) (base:Heap):Prop where
 kin:K.In base
 glob:base.Ns dS mg
 blt:∃mb,base.Ns builtinsNs mb/\∀x:Str,x ≠ "__name__" -> mb x=dY x
 nolimit:base.NoLimit
structure Cx where
 prog:dU
 w:World
 K:ag
 mg:Str->Option eU
 base:Heap
 A:dW
 N:List Str
 s₀:eV
 H₀:Hp
 env:Env
 outer:List Env
 stack:List Env
 ex:List eW
 fn:Str->Bool
 calm:Bool
 pn:List (eW×Obj)
 xe:eU->eV->Prop
noncomputable def frs(l:List Env):List eW:=l.filterMap (·.frame)
noncomputable abbrev Cx.fs(X:Cx):List eW:=frs X.outer
noncomputable def Vis(sc:Scope)(x:Str):Prop:=sc.names.lookup x=some .local\/sc.names.lookup x=some .cell\/sc.names.lookup x=some .free
noncomputable def Loc(sc:Scope)(x:Str):Prop:=sc.names.lookup x=some .local\/sc.names.lookup x=some .cell
noncomputable def cE8(env:Env)(h:Heap)(m:Str->Option eU)(x:Str)(u:eU):Prop :=
 (env.kindOf x=some .local/\m x=some u)\/((env.kindOf x=some .cell\/env.kindOf x=some .free)/\∃c,env.cells.lookup x=some c/\h.IsCell c (some u))
structure Cx.Ok (X:Cx):Prop where
 mod:Mod X.K X.mg X.base
 kind:X.env.scope.kind=.function
 glob:X.env.globals=dS
 blt:X.env.builtins=builtinsNs
 above:X.s₀.heap.objs.size<=X.env.locals
 inj:∀x y c,X.env.cells.lookup x=some c->X.env.cells.lookup y=some c->x=y
 has:∀x,(X.env.kindOf x=some .cell\/X.env.kindOf x=some .free)->∃c,X.env.cells.lookup x=some c
 cab:∀x c,X.fn x=true->X.env.cells.lookup x=some c->X.s₀.heap.objs.size<=c
 hd:X.calm=true->X.A.handled=none
 frames:X.A.frames=some X.stack
 stk:X.stack=X.outer\/(X.stack=X.env::X.outer/\X.env.frame=some X.env.locals)
 exf:∀b∈X.ex,b≠X.env.locals/\∀x c,X.env.cells.lookup x=some c->c≠b
 bs:∀b o,X.base.get? b=some o->X.s₀.heap.get? b=some o/\X.H₀ b=none
 bsz:X.base.objs.size<=X.s₀.heap.objs.size
 noex:∀b o,X.base.get? b=some o->b∉X.ex
 exfs:∀b∈X.ex,b∉X.fs
 funs:X.s₀.heap.FunFrames X.base X.outer
 frf:∀b∈X.fs,X.H₀ b=none
structure Inv (X:Cx) (pins:List (eW×Obj)) (σ:List (Option V)) (H:Hp) (s:eV):Prop where
 ok:X.Ok
 os:s.os=X.s₀.os
 bare:AllBare s.gens
 base:Un X.fs X.ex X.H₀ H X.s₀.heap s.heap
 loc:∃m,s.heap.Ns X.env.locals m/\∀(i:Nat) (x:Str) (v:V),X.N[i]? = some x->σ[i]? = some (some v)->Vis X.env.scope x->∃u,C5 v u/\cE8 X.env s.heap m x u
 cell:∀x c,X.env.cells.lookup x=some c->∃v,s.heap.IsCell c v
 free:H X.env.locals=none
 freeC:∀x c,X.env.cells.lookup x=some c->H c=none
 pin:∀p∈X.pn++pins,s.heap.get? p.1=some p.2/\H p.1=none/\p.1≠X.env.locals/\p.1∉X.fs/\∀v,p.2.data≠.cell v
 hok:HOk X.prog X.w H s.heap
 len:σ.length=X.N.length
section
variable {X:Cx}{pins:List (Addr×Obj)}{σ:List (Option V)}{H H':Hp}{s:Shared}{h':Heap}
theorem Cx.Ok.nofr(ok:X.Ok)(e:X.base.get? b=some o):b∉X.fs:=λhb=>by
 have:=(ok.funs.mem hb).1;rw[e]at this;cases this
theorem Inv.bs(I:Inv X pins σ H s):∀b o,X.base.get? b=some o->s.heap.get? b=some o/\H b=none:=λb o e =>
 ⟨I.base.keep b o (I.ok.bs b o e).1 (I.ok.bs b o e).2 (I.ok.nofr e) (I.ok.noex b o e),I.base.free b o (I.ok.bs b o e).1 (I.ok.bs b o e).2 (I.ok.noex b o e)⟩
theorem Inv.bk(I:Inv X pins σ H s):∀b o,X.base.get? b=some o->s.heap.get? b=some o:=λb o e=>(I.bs b o e).1
theorem Inv.mod(I:Inv X pins σ H s):Mod X.K X.mg X.base:=I.ok.mod
theorem Inv.kIn(I:Inv X pins σ H s):X.K.In s.heap:=I.ok.mod.kin.keeps I.bk
theorem Inv.lt(I:Inv X pins σ H s):X.env.locals < s.heap.objs.size:=let⟨_,hn,_⟩:=I.loc;hn.lt
theorem Inv.sz(I:Inv X pins σ H s):X.s₀.heap.objs.size<=s.heap.objs.size:=aM I.ok.above (bG I.lt)
theorem Inv.nofs(I:Inv X pins σ H s)(h:s.heap.objs.size<=a):a∉X.fs:=λhb=>by
 obtain⟨_,o,ho,_⟩:=I.ok.funs.mem hb;exact absurd (aB (eG ho) (aM I.sz h)) (bf _)
theorem Inv.cne(I:Inv X pins σ H s):∀x c,X.env.cells.lookup x=some c->c≠X.env.locals:=λx c e z=>by
 obtain⟨v,o,ho,hd⟩:=I.cell x c e;obtain⟨m,⟨o',es,ep,ho',hd',_⟩,_⟩:=I.loc;rw[z,ho']at ho;cases ho;rw[hd']at hd;cases hd
theorem Inv.funs(I:Inv X pins σ H s):s.heap.FunFrames X.base X.outer:=by
 have all:∀(l:List Env),(∀b∈frs l,b∈X.fs)->X.s₀.heap.FunFrames X.base l->s.heap.FunFrames X.base l:=by
  intro l
  induction l with
  | nil=>intro _ _;trivial
  | cons env r ih =>
   intro hs hl;obtain⟨hk,⟨L,o,hf,hn,ho,hd⟩,hr⟩:=hl;have hL:L∈X.fs:=hs L (by unfold frs;rw[cT,hf];exact bC);obtain⟨sl,e⟩:=I.base.slot L o ho (I.ok.frf L hL) hL λz=>I.ok.exfs L z hL
   exact⟨hk,⟨L,_,hf,hn,e,hd⟩,ih (λb hb=>hs b (by unfold frs;rw[cT,hf];exact ai _ hb)) hr⟩
 exact all X.outer (λ_ hb=>hb) I.ok.funs
theorem Inv.stack(I:Inv X pins σ H s):s.heap.FunFrames X.base X.stack:=by
 rcases I.ok.stk with e|⟨e,hf⟩
 ·rw[e];exact I.funs
 ·rw[e];obtain⟨m,hn,_⟩:=I.loc;refine .cons (by rw[I.ok.kind];decide) hf hn ?_ I.funs;exact Heap.get?_none_of_le (aM I.ok.bsz I.ok.above)
theorem Inv.stkSub(I:Inv X pins σ H s):∀b∈frs X.stack,b∈X.env.locals::X.fs:=λb hb=>by
 rcases I.ok.stk with e|⟨e,hf⟩
 ·rw[e]at hb;exact ai _ hb
 ·rw[e]at hb;unfold frs at hb;rw[cT,hf]at hb;exact hb
theorem Inv.stkFree(I:Inv X pins σ H s):∀b∈frs X.stack,H b=none:=λb hb=>by
 rcases ax.mp (I.stkSub b hb) with e|hb
 ·rw[e];exact I.free
 ·obtain⟨_,o,ho,_⟩:=I.ok.funs.mem hb;exact I.base.free b o ho (I.ok.frf b hb) λz=>I.ok.exfs b z hb
theorem Inv.step{g':Array GenState}{t':Nat}{d':Drawn}{ch:List eW}(I:Inv X pins σ H s)
  (hch:∀b∈ch,(b∈X.ex\/X.s₀.heap.objs.size<=b)/\b≠X.env.locals/\(∀x c,X.env.cells.lookup x=some c->c≠b)/\∀p∈X.pn++pins,p.1≠b)
  (keep:∀b o,b≠X.env.locals->b∉X.fs->b∉ch->s.heap.get? b=some o->H b=none->h'.get? b=some o)
  (slot:∀b o,b≠X.env.locals->b∈X.fs->b∉ch->s.heap.get? b=some o->H b=none->∃sl,h'.get? b=some { o with slots:=sl }) (free:∀b o,b∉ch->s.heap.get? b=some o->H b=none->H' b=none)
  (there:∀b o,b∉ch->s.heap.get? b=some o->∃o',h'.get? b=some o')
  (tups:∀b xs,H b=some (.tup xs)->H' b=some (.tup xs)) (frzs:∀b o u,H b=some (.frz o u)->H' b=some (.frz o u)) (tbls:∀b ps,H b=some (.tbl ps)->∃more,H' b=some (.tbl (ps++more)))
  (ns:∀m,s.heap.Ns X.env.locals m->h'.Ns X.env.locals m) (hok:HOk X.prog X.w H' h') (hg:AllBare g') :
  Inv X pins σ H' { s with heap:=h',gens:=g',drawn:=d',toks:=t' }:=by
 have neL:∀b o,X.s₀.heap.get? b=some o->b≠X.env.locals:=λb o e=>aK (aB (eG e) I.ok.above)
 have neC:∀b o,X.s₀.heap.get? b=some o->b∉X.ex->b∉ch:=λb o e hx hb=>by
  rcases(hch b hb).1 with z|z
  ·exact hx z
  ·exact absurd (aB (eG e) z) (bf _)
 have cellK:∀x c,X.env.cells.lookup x=some c->∀v,s.heap.IsCell c v->h'.IsCell c v:=λx c e v ⟨o,ho,hd⟩=>by
  have nch:c∉ch:=λz=>(hch c z).2.2.1 x c e rfl
  by_cases hc:c∈X.fs
  ·obtain⟨sl,q⟩:=slot c o (I.cne x c e) hc nch ho (I.freeC x c e);exact⟨_,q,hd⟩
  ·exact⟨o,keep c o (I.cne x c e) hc nch ho (I.freeC x c e),hd⟩
 refine⟨I.ok,I.os,hg,⟨λb o e n hb hx=>?_,λb o e n hb hx=>?_,λb o e n hx=>?_,λb o e hx=>?_,λb xs e=>tups b xs (I.base.tups b xs e),λb o xs e=>frzs b o xs (I.base.frzs b o xs e),λb ps e=>?_⟩,?_,λx c e=>?_,?_,λx c e=>?_,λp hp=>?_,hok,I.len⟩
 ·exact keep b o (neL b o e) hb (neC b o e hx) (I.base.keep b o e n hb hx) (I.base.free b o e n hx)
 ·obtain⟨sl,e1⟩:=I.base.slot b o e n hb hx;obtain⟨sl',e2⟩:=slot b _ (neL b o e) hb (neC b o e hx) e1 (I.base.free b o e n hx);exact⟨sl',e2⟩
 ·obtain⟨o',e1⟩:=I.base.there b o e hx;exact free b o' (neC b o e hx) e1 (I.base.free b o e n hx)
 ·obtain⟨o',e1⟩:=I.base.there b o e hx;exact there b o' (neC b o e hx) e1
 ·obtain⟨m1,e1⟩:=I.base.tbls b ps e;obtain⟨m2,e2⟩:=tbls b _ e1;exact⟨m1++m2,by rw[e2,Array.append_assoc]⟩
 ·obtain⟨m,hn,hl⟩:=I.loc;refine⟨m,ns m hn,λi x v e1 e2 e3=>?_⟩;obtain⟨u,r,l⟩:=hl i x v e1 e2 e3;refine⟨u,r,?_⟩;rcases l with l|⟨k,c,e,z⟩
  ·exact .inl l
  ·exact .inr ⟨k,c,e,cellK x c e _ z⟩
 ·obtain⟨v,z⟩:=I.cell x c e;exact⟨v,cellK x c e v z⟩
 ·obtain⟨m,⟨o,_,_,ho,_⟩,_⟩:=I.loc;exact free _ o (λz=>(hch _ z).2.1 rfl) ho I.free
 ·obtain⟨v,o,ho,hd⟩:=I.cell x c e;exact free c o (λz=>(hch c z).2.2.1 x c e rfl) ho (I.freeC x c e)
 ·obtain⟨e,n,ne,nf,d⟩:=I.pin p hp;have nch:p.1∉ch:=λz=>(hch p.1 z).2.2.2 p hp rfl
  exact⟨keep p.1 p.2 ne nf nch e n,free p.1 p.2 nch e n,ne,nf,d⟩
theorem Inv.un{t':Nat}(I:Inv X pins σ H s)(u:Un X.fs [] H H' s.heap h')(hok:HOk X.prog X.w H' h'):Inv X pins σ H' { s with heap:=h',toks:=t' }:=by
 obtain⟨m,⟨o,es,ep,ho,r⟩,_⟩:=id I.loc;obtain⟨sl,hL⟩:=u.any ho I.free (by simp)
 exact I.step (g':=s.gens) (d':=s.drawn) (ch:=[]) (λ_ z=>nomatch z) (λb o _ hb _ e n=>u.keep b o e n hb (by simp)) (λb o _ hb _ e n=>u.slot b o e n hb (by simp)) (λb o _ e n=>u.free b o e n (by simp)) (λb o _ e=>u.there b o e (by simp)) u.tups u.frzs u.tbls (λm' hm=>by
  obtain⟨o',es',ep',ho',r'⟩:=hm;rw[ho]at ho';cases ho'
  exact⟨_,es',ep',hL,r'⟩) hok I.bare
theorem Inv.call{g':Array GenState}{t':Nat}{d':Drawn}{ch:List eW}(I:Inv X pins σ H s)(u:Un (frs X.stack) ch H H' s.heap h')(hok:HOk X.prog X.w H' h')(hg:AllBare g')
  (hch:∀b∈ch,(b∈X.ex\/X.s₀.heap.objs.size<=b)/\b≠X.env.locals/\(∀x c,X.env.cells.lookup x=some c->c≠b)/\∀p∈X.pn++pins,p.1≠b) :
  Inv X pins σ H' { s with heap:=h',gens:=g',drawn:=d',toks:=t' }:=by
 obtain⟨m,⟨o,es,ep,ho,r⟩,_⟩:=id I.loc;obtain⟨sl,hL⟩:=u.any ho I.free λz=>(hch _ z).2.1 rfl
 exact I.step (ch:=ch) hch (λb o hL hb hc e n=>u.keep b o e n (λz=>(ax.mp (I.stkSub b z)).elim hL hb) hc) (λb o _ _ hc e n=>u.any e n hc) (λb o hc e n=>u.free b o e n hc) (λb o hc e=>u.there b o e hc) u.tups u.frzs u.tbls (λm' hm=>by
  obtain⟨o',es',ep',ho',r'⟩:=hm;rw[ho]at ho';cases ho'
  exact⟨_,es',ep',hL,r'⟩) hok hg
theorem Inv.turned{t':Nat}{it:eW}(I:Inv X pins σ H s)(k:∀b o,b≠it->s.heap.get? b=some o->h'.get? b=some o)(hn:H it=none)(hL:it≠X.env.locals)
  (h1:it∈X.ex\/X.s₀.heap.objs.size<=it) (h2:∀x c,X.env.cells.lookup x=some c->c≠it) (h3:∀p∈X.pn++pins,p.1≠it):Inv X pins σ H { s with heap:=h',toks:=t' }:=by
 have nit:∀b u,H b=some u->b≠it:=λb u e z=>by rw[z,hn]at e;cases e
 refine I.step (g':=s.gens) (d':=s.drawn) (ch:=[it]) (λb hb=>?_) (λb o _ _ hc e _=>k b o (λz=>hc (by simp[z])) e) (λb o _ _ hc e _=>⟨o.slots,k b o (λz=>hc (by simp[z])) e⟩) (λ_ _ _ _ n=>n)
  (λb o hc e=>⟨o,k b o (λz=>hc (by simp[z])) e⟩) (λ_ _ e=>e) (λ_ _ _ e=>e) (λb ps e=>⟨#[],by rw[e];simp⟩) (λm hm=>?_) (λb u e=>?_) I.bare
 ·have e:b=it:=by simpa using hb
  subst e;exact⟨h1,hL,h2,h3⟩
 ·obtain⟨o,es,ep,ho,r⟩:=hm;exact⟨o,es,ep,k _ o (Ne.symm hL) ho,r⟩
 ·refine(I.hok b u e).stay (λc v hc q=>k c v ?_ q) (λ_ q=>q) λ_ _ q=>q
  rcases hc with z|z
  ·rw[z];exact nit b u e
  ·exact nit c _ z
theorem Inv.tok(I:Inv X pins σ H s)(t:Nat):Inv X pins σ H { s with toks:=t }:=I.un (h':=s.heap) (t':=t) Un.refl I.hok
theorem Inv.kept(I:Inv X pins σ H s)(k:∀b u,s.heap.get? b=some u->h'.get? b=some u):Inv X pins σ H { s with heap:=h',toks:=t' }:=I.un (Un.kept k) (I.hok.kept k)
theorem Inv.laid(I:Inv X pins σ H s)(k:∀b u,s.heap.get? b=some u->h'.get? b=some u)(hp:s.heap.objs.size<=a)(new:F9 X.prog X.w (upd H a o) h' a o):
  Inv X pins σ (upd H a o) { s with heap:=h',toks:=t' }:=I.un (Un.laid k hp (I.hok.fresh hp)) (I.hok.laid k hp new)
theorem Inv.write(I:Inv X pins σ H s)(mu:Mut (H x))(he:e=x\/H e=some (.own x))(k:∀b u,b≠e->s.heap.get? b=some u->h'.get? b=some u)(heo:∃u,h'.get? e=some u)
  (new:F9 X.prog X.w (upd H x o) h' x o):Inv X pins σ (upd H x o) { s with heap:=h',toks:=t' }:=I.un (Un.write mu he k heo) (I.hok.write mu he k heo new)
theorem Inv.pins_of(I:Inv X pins σ H s)(h:∀p∈pins',s.heap.get? p.1=some p.2/\H p.1=none/\p.1≠X.env.locals/\p.1∉X.fs/\∀v,p.2.data≠.cell v):Inv X pins' σ H s :=
 ⟨I.ok,I.os,I.bare,I.base,I.loc,I.cell,I.free,I.freeC,λp hp=>(aQ.mp hp).elim (λz=>I.pin p (aX _ z)) (h p),I.hok,I.len⟩
theorem aC6{N:List Str}(hN:N.Nodup){i j:Nat}{x:Str}(a:N[i]? = some x)(b:N[j]? = some x):i=j:=by
 obtain⟨h1,e1⟩:=ao.mp a;obtain⟨h2,e2⟩:=ao.mp b;exact(List.getElem_inj hN).mp (e1.trans e2.symm)
theorem ap1(I:Inv X pins σ H s)(hN:X.N.Nodup)(hi:X.N[i]? = some x)(hx:Loc X.env.scope x)(r:C5 v u)
  (h:∀s',Inv X pins (σ.set i (some v)) H s'->(∃a,Heap.SameBut a s.heap s'.heap/\(a=X.env.locals\/X.env.cells.lookup x=some a))->Q () s') (hf:X.fn x=true\/X.env.scope.names.lookup x=some .local:=by first|exact .inl rfl|exact .inr rfl|assumption):eD M A (storeName X.env x u) Q E s:=by
 obtain⟨m,hn,hl⟩:=id I.loc;have hcls:(X.env.scope.kind == .class || (X.env.scope.kind == .module&&X.env.locals != X.env.globals))=false:=by rw[I.ok.kind];rfl
 have hiσ:i < σ.length:=by rw[I.len];exact(ao.mp hi).1
 have cne:=I.cne
 have tracked:∀{a:eW}{h':Heap},(∃o,s.heap.get? a=some o/\H a=none)->Heap.SameBut a s.heap h'->HOk X.prog X.w H h':=λ{a h'} ha hs b ob e=>by
  obtain⟨_,_,hfree⟩:=ha;refine(I.hok b ob e).stay (λc w' hc q=>(hs.2 c ?_).trans q) (λ_ q=>q) λ_ _ q=>q
  rintro rfl
  rcases hc with rfl|hc
  ·rw[hfree]at e;cases e
  ·rw[hfree]at hc;cases hc
 rcases hx with hk|hk
 ·refine wpAny_storeName_local hk hn (λh' hn' hs=>?_) hcls;obtain⟨oL,_,_,hoL,_⟩:=id hn;refine h _ ⟨I.ok,I.os,I.bare,⟨λb o e n hb hx=>?_,λb o e n hb hx=>?_,I.base.free,λb o e hx=>?_,I.base.tups,I.base.frzs,I.base.tbls⟩,⟨_,hn',λj y v' e1 e2 e3=>?_⟩,λy c e=>?_,I.free,I.freeC,λp hp=>?_,tracked ⟨oL,hoL,I.free⟩ hs,by simpa using I.len⟩ ⟨_,hs,.inl rfl⟩
  ·exact(hs.2 b (aK (aB (eG e) I.ok.above))).trans (I.base.keep b o e n hb hx)
  ·obtain⟨sl,e1⟩:=I.base.slot b o e n hb hx;exact⟨sl,(hs.2 b (aK (aB (eG e) I.ok.above))).trans e1⟩
  ·obtain⟨o',e1⟩:=I.base.there b o e hx;exact⟨o',(hs.2 b (aK (aB (eG e) I.ok.above))).trans e1⟩
  ·by_cases hj:j=i
   ·subst hj;rw[hi]at e1;cases e1;rw[aC hiσ]at e2;cases e2;exact⟨u,r,.inl ⟨hk,by simp⟩⟩
   ·rw[aA (Ne.symm hj)]at e2;obtain⟨u',r',q⟩:=hl j y v' e1 e2 e3;refine⟨u',r',?_⟩;rcases q with⟨k,e⟩|⟨k,c,e,z⟩
    ·refine .inl ⟨k,?_⟩;have:y≠x:=λe=>hj (aC6 hN e1 (e ▸ hi))
     simp[this,e]
    ·exact .inr ⟨k,c,e,z.sameBut hs (cne y c e)⟩
  ·obtain⟨w',z⟩:=I.cell y c e;exact⟨w',z.sameBut hs (cne y c e)⟩
  ·obtain⟨e,n,ne,nf,d⟩:=I.pin p hp;exact⟨(hs.2 p.1 ne).trans e,n,ne,nf,d⟩
 ·have hfn:X.fn x=true:=by
   rcases hf with z|z
   ·exact z
   ·rw[z]at hk;cases hk
  obtain⟨c,hc⟩:=I.ok.has x (.inl hk);obtain⟨w',z⟩:=I.cell x c hc;refine wpAny_storeName_cell I.ok.kind hk hc z (λh' hc' hs=>?_);obtain⟨oc,hoc,hocd⟩:=id z;refine h { s with heap:=h' } ⟨I.ok,I.os,I.bare,⟨λb o e n hb hx=>?_,λb o e n hb hx=>?_,I.base.free,λb o e hx=>?_,I.base.tups,I.base.frzs,I.base.tbls⟩,⟨m,hn.sameBut hs (Ne.symm (cne x c hc)),λj y v' e1 e2 e3=>?_⟩,λy c' e=>?_,I.free,I.freeC,λp hp=>?_,tracked ⟨oc,hoc,I.freeC x c hc⟩ hs,by simpa using I.len⟩ ⟨c,hs,.inr hc⟩
  ·exact(hs.2 b (aK (aB (eG e) (I.ok.cab x c hfn hc)))).trans (I.base.keep b o e n hb hx)
  ·obtain⟨sl,e1⟩:=I.base.slot b o e n hb hx;exact⟨sl,(hs.2 b (aK (aB (eG e) (I.ok.cab x c hfn hc)))).trans e1⟩
  ·obtain⟨o',e1⟩:=I.base.there b o e hx;exact⟨o',(hs.2 b (aK (aB (eG e) (I.ok.cab x c hfn hc)))).trans e1⟩
  ·by_cases hj:j=i
   ·subst hj;rw[hi]at e1;cases e1;rw[aC hiσ]at e2;cases e2;exact⟨u,r,.inr ⟨.inl hk,c,hc,hc'⟩⟩
   ·rw[aA (Ne.symm hj)]at e2;obtain⟨u',r',q⟩:=hl j y v' e1 e2 e3;refine⟨u',r',?_⟩;rcases q with q|⟨k,c',e,z'⟩
    ·exact .inl q
    ·refine .inr ⟨k,c',e,z'.sameBut hs ?_⟩
     rintro rfl
     exact hj (aC6 hN e1 (I.ok.inj _ _ _ e hc ▸ hi))
  ·by_cases hcc:c'=c
   ·subst hcc;exact⟨_,hc'⟩
   ·obtain⟨w2,z2⟩:=I.cell y c' e;exact⟨w2,z2.sameBut hs hcc⟩
  ·obtain⟨e,n,ne,nf,d⟩:=I.pin p hp;refine⟨(hs.2 p.1 ?_).trans e,n,ne,nf,d⟩;intro q;rw[q,hoc]at e;have q':oc=p.2:=bg.inj e;exact d w' (by rw[← q'];exact hocd)
theorem Z9(I:Inv X pins σ H s)(hN:X.N.Nodup)(hi:X.N[i]? = some x)(hx:Loc X.env.scope x)(r:C5 v u)
  (h:∀s',Inv X pins (σ.set i (some v)) H s'->Q () s') (hf:X.fn x=true\/X.env.scope.names.lookup x=some .local:=by first|exact .inl rfl|exact .inr rfl|assumption):eD M A (storeName X.env x u) Q E s :=
 ap1 I hN hi hx r (λs' I' _=>h s' I') hf
theorem Inv.call'(I:Inv X pins σ H s)(ho:s'.os=s.os)(u:Un (frs X.stack) ch H H' s.heap s'.heap)(hok:HOk X.prog X.w H' s'.heap)(hg:AllBare s'.gens)
  (hch:∀b∈ch,(b∈X.ex\/X.s₀.heap.objs.size<=b)/\b≠X.env.locals/\(∀x c,X.env.cells.lookup x=some c->c≠b)/\∀p∈X.pn++pins,p.1≠b):Inv X pins σ H' s':=by
 obtain⟨h',g',d',t',o'⟩:=s';have e:o'=s.os:=ho;subst e;exact I.call (g':=g') (t':=t') (d':=d') u hok hg hch
end
noncomputable abbrev XK:=eU->Option eW->Hp->Prop
noncomputable abbrev St:=List (Option V)
noncomputable abbrev VK:=V->Hp->Prop
noncomputable abbrev TE:=St->Hp->VK->Prop
noncomputable abbrev TT:=St->Hp->(Bool->Hp->Prop)->Prop
noncomputable abbrev TA:=St->Hp->(List V->Hp->Prop)->Prop
structure Ends where
 nx:St->Hp->Prop
 rt:VK
 bk:St->Hp->Prop:=λ_ _=>False
 ct:St->Hp->Prop:=λ_ _=>False
noncomputable abbrev TS:=Ends->St->Hp->Prop
noncomputable def EP(X:Cx)(pins:List (eW×Obj))(σ:St)(Q:VK)(u:eU)(s':eV):Prop:=∃v H',Inv X pins σ H' s'/\C5 v u/\Q v H'
noncomputable def TP(X:Cx)(pins:List (eW×Obj))(σ:St)(Q:Bool->Hp->Prop)(b:Bool)(s':eV):Prop:=∃H',Inv X pins σ H' s'/\Q b H'
noncomputable def AP(X:Cx)(pins:List (eW×Obj))(σ:St)(Q:List V->Hp->Prop)(us:List eU)(s':eV):Prop:=∃vs H',Inv X pins σ H' s'/\C9 vs us/\Q vs H'
noncomputable def SP(X:Cx)(pins:List (eW×Obj))(D:Ends)(f:Flow)(s':eV):Prop :=
 match f with
 | .next=>∃σ' H',Inv X pins σ' H' s'/\D.nx σ' H'
 | .brk=>∃σ' H',Inv X pins σ' H' s'/\D.bk σ' H'
 | .cont=>∃σ' H',Inv X pins σ' H' s'/\D.ct σ' H'
 | .ret u=>∃v σ' H',Inv X pins σ' H' s'/\C5 v u/\D.rt v H'
noncomputable def PE(X:Cx)(e:Expr)(t:TE):Prop :=
 ∀(pins:List (eW×Obj)) (s:eV) (σ:St) (H:Hp) (Q:VK),Inv X pins σ H s->t σ H Q->eD (eE X.prog X.w) X.A (eval e X.env) (EP X pins σ Q) X.xe s
noncomputable def PT(X:Cx)(e:Expr)(t:TT):Prop :=
 ∀(pins:List (eW×Obj)) (s:eV) (σ:St) (H:Hp) (Q:Bool->Hp->Prop),Inv X pins σ H s->t σ H Q->eD (eE X.prog X.w) X.A (isTrue e X.env (eval e X.env)) (TP X pins σ Q) X.xe s
noncomputable def PW(X:Cx)(e:Expr)(t:TT):Prop :=
 ∀(whole:Sem eU) (pins:List (eW×Obj)) (s:eV) (σ:St) (H:Hp) (Q:Bool->Hp->Prop),Inv X pins σ H s->t σ H Q->eD (eE X.prog X.w) X.A (isTrue e X.env whole) (TP X pins σ Q) X.xe s
theorem PW.pt(h:PW X e t):PT X e t:=h _
noncomputable def PA(X:Cx)(es:List Expr)(t:TA):Prop :=
 ∀(pos:Pos) (pins:List (eW×Obj)) (s:eV) (σ:St) (H:Hp) (Q:List V->Hp->Prop),Inv X pins σ H s->t σ H Q->eD (eE X.prog X.w) X.A (spliced (backTo pos (dO es X.env))) (AP X pins σ Q) X.xe s
noncomputable def PS(X:Cx)(st:Stmt)(t:TS):Prop :=
 ∀(pins:List (eW×Obj)) (s:eV) (σ:St) (H:Hp) (D:Ends),Inv X pins σ H s->t D σ H->eD (eE X.prog X.w) X.A (exec st X.env) (SP X pins D) X.xe s
noncomputable def PSs(X:Cx)(st:List Stmt)(t:TS):Prop :=
 ∀(pins:List (eW×Obj)) (s:eV) (σ:St) (H:Hp) (D:Ends),Inv X pins σ H s->t D σ H->eD (eE X.prog X.w) X.A (execs st X.env) (SP X pins D) X.xe s
theorem thn{α:Type}{t:Sem α}{Q Q':α->eV->Prop}{M:Model}{A:dW}{E:eU->eV->Prop}{s:eV}(h:eD M A t Q E s)(hQ:∀a s,Q a s->Q' a s):eD M A t Q' E s:=dJ h hQ λ_ _ x=>x
end L2
namespace L2
open PySem PySem.Spec PyProof.Rows
section
variable {X:Cx}
theorem bin{a b:Expr}{ta tb:TE}(ha:PE X a ta)(hb:PE X b tb){pins:List (eW×Obj)}{s:eV}{σ:St}{H:Hp}{R:V->V->Hp->Prop}(I:Inv X pins σ H s)(h:ta σ H λx H1=>tb σ H1 λy H2=>R x y H2)
  {α:Type}{Q:α->eV->Prop}{f:eU->eU->Sem α}
  (hf:∀v u s2 x y H2,Inv X pins σ H2 s2->C5 x v->C5 y u->R x y H2->eD (eE X.prog X.w) X.A (f v u) Q X.xe s2) :
  eD (eE X.prog X.w) X.A (eval a X.env) (λv s₁=>eD (eE X.prog X.w) X.A (eval b X.env) (λu s₂=>eD (eE X.prog X.w) X.A (f v u) Q X.xe s₂) X.xe s₁) X.xe s:=by
 refine thn (ha pins s σ H _ I h) λv s1 ⟨x,H1,I1,r1,q1⟩=>?_
 refine thn (hb pins s1 σ H1 _ I1 q1) λu s2 ⟨y,H2,I2,r2,q2⟩=>?_
 exact hf v u s2 x y H2 I2 r1 r2 q2
noncomputable def cq1(i:Nat):TE:=λσ H Q=>∃v,σ[i]? = some (some v)/\Q v H
noncomputable def tC(v:V):TE:=λ_ H Q=>Q v H
theorem J9(hN:X.N[i]? = some x)(hv:Vis X.env.scope x)(hd:(x==("__debug__" : Str))=false:=by decide)(hcd:(x==("__classdict__" : Str))=false:=by decide):PE X (.Name x pos) (cq1 i):=by
 intro pins s σ H Q I h;obtain⟨v,e,h⟩:=h;obtain⟨m,hn,hl⟩:=I.loc;obtain⟨u,r,l⟩:=hl i x v hN e hv;have fin:EP X pins σ Q u s:=⟨v,H,I,r,h⟩;rcases l with⟨hk,hm⟩|⟨hk,c,hc,hcell⟩
 ·exact wpAny_Name (wpAny_loadName_local I.ok.kind hk hn hm fin) hd
 ·rcases hk with hk|hk
  ·exact wpAny_Name (wpAny_loadName_cell I.ok.kind hk hc hcell fin) hd
  ·exact wpAny_Name (wpAny_loadName_free I.ok.kind hk hc hcell fin hcd) hd
theorem ca9{i j pos}:PE X (.Constant (.int i) j pos) (tC (.int i)):=λ_ _ _ H _ I h=>wpAny_Constant_int ⟨.int i,H,I.tok _,⟨_,rfl⟩,h⟩
theorem cs5{b j pos}:PE X (.Constant (.bool b) j pos) (tC (.bl b)):=λ_ _ _ H _ I h=>Constant_bool ⟨.bl b,H,I,rfl,h⟩
theorem ca8{j pos}:PE X (.Constant .none j pos) (tC .non):=λ_ _ _ H _ I h=>Constant_none ⟨.non,H,I,rfl,h⟩
theorem ca5{x j pos}:PE X (.Constant (.str x) j pos) (tC (.str x)):=λ_ _ _ H _ I h=>Calls.Constant_str ⟨.str x,H,I.tok _,⟨_,rfl⟩,h⟩
noncomputable def Gl(X:Cx)(x:Str):Prop:=X.env.kindOf x=some .globalImplicit
theorem O7(I:Inv X pins σ H s)(hg:Gl X x)(hm:X.mg x=some u)(h:Q u s)
  (hd:(x==("__debug__" : Str))=false:=by decide):eD (eE X.prog X.w) X.A (eval (.Name x pos) X.env) Q E s :=
 Calls.Name_function_global I.ok.kind hg (Calls.loadGlobal_global (by rw[I.ok.glob];exact I.mod.glob.keeps I.bk) hm h) hd
theorem ac2(I:Inv X pins σ H s)(hg:Gl X x)(hm:X.mg x=none)(hv:dY x=some u)(h:Q u s)
  (hn:x ≠ "__name__" := by decide) (hd:(x==("__debug__" : Str))=false:=by decide):eD (eE X.prog X.w) X.A (eval (.Name x pos) X.env) Q E s:=by
 obtain⟨mb,h1,h2⟩:=I.mod.blt;exact Calls.Name_function_global I.ok.kind hg (Calls.loadGlobal_builtin (by rw[I.ok.glob];exact I.mod.glob.keeps I.bk) hm (by rw[I.ok.blt];exact h1.keeps I.bk) ((h2 x hn).trans hv) h) hd
theorem bG2(hg:Gl X x)(hm:X.mg x=some u)(r:C5 v u)(hd:(x==("__debug__" : Str))=false:=by decide):PE X (.Name x pos) (tC v) :=
 λ_ _ _ H _ I h=>O7 I hg hm ⟨v,H,I,r,h⟩ hd
theorem au6(hg:Gl X x)(hm:X.mg x=none)(hv:dY x=some u)(r:C5 v u)(hn:x ≠ "__name__" := by decide)(hd:(x==("__debug__" : Str))=false:=by decide):PE X (.Name x pos) (tC v) :=
 λ_ _ _ H _ I h=>ac2 I hg hm hv ⟨v,H,I,r,h⟩ hn hd
variable {a b:Expr}{ta tb:TE}{pos:Pos}
noncomputable def PC(X:Cx)(op:CmpOp)(a b:Expr)(t:TE):Prop :=
 ∀(pins:List (eW×Obj)) (s:eV) (σ:St) (H:Hp) (Q:VK),Inv X pins σ H s->t σ H Q ->
  eD (eE X.prog X.w) X.A (eval a X.env) (λv s₁=>eD (eE X.prog X.w) X.A (eval b X.env) (λu s₂=>eD (eE X.prog X.w) X.A (dR op v u) (EP X pins σ Q) X.xe s₂) X.xe s₁) X.xe s
theorem aC7(b:Expr)(h:op≠.In)(h2:op≠.NotIn):behindInMarks op b=false:=by
 have e1:(op==CmpOp.In)=false:=by cases op<;>first|rfl|exact absurd rfl h
 have e2:(op==CmpOp.NotIn)=false:=by cases op<;>first|rfl|exact absurd rfl h2
 cases b<;>simp[behindInMarks,e1,e2]
noncomputable def tB(t:TE):TT:=λσ H Q=>t σ H λx H1=>∃c,x=.bl c/\Q c H1
theorem bk0(h:PC X op a b t)(h1:behindInMarks op b=false:=by first|exact aC7 _ (by decide) (by decide)|rfl):PE X (.Compare a [op] [b] pos) t:=λpins s σ H Q I hw=>wpAny_Compare1 (h pins s σ H Q I hw) h1
theorem bi4(h:PC X op a b t)(h1:behindInMarks op b=false:=by first|exact aC7 _ (by decide) (by decide)|rfl):PT X (.Compare a [op] [b] pos) (tB t):=by
 intro pins s σ H Q I hw;refine wpAny_isTrue_Compare1 (thn (h pins s σ H _ I hw) λv s1 h1=>thn h1 λu s2 h2=>thn h2 λc s3 ⟨x,H1,I1,r1,q1⟩=>?_) h1;obtain⟨d,rfl,q⟩:=q1;cases r1;exact dM ⟨H1,I1,q⟩
variable {tA tB':TT}{P0:List Expr}
noncomputable def cA7(t u:TT):TT:=λσ H Q=>t σ H λc H1=>if c=true then u σ H1 Q else Q false H1
noncomputable def tOr(t u:TT):TT:=λσ H Q=>t σ H λc H1=>if c=true then Q true H1 else u σ H1 Q
noncomputable def cA0(t:TT):TT:=λσ H Q=>t σ H λc H1=>Q (!c) H1
theorem bE8(ha:PT X a tA):PW X (.BoolOp .And [a] pos) tA:=by
 intro wh pins s σ H Q I h;refine isTrue_and (thn (ha pins s σ H Q I h) λc s1 e=>?_);cases c with
 | true=>exact isTrue_and_nil e
 | false=>exact e
theorem bi2(ha:PT X a tA):PW X (.BoolOp .Or [a] pos) tA:=by
 intro wh pins s σ H Q I h;refine isTrue_or (thn (ha pins s σ H Q I h) λc s1 e=>?_);cases c with
 | false=>exact isTrue_or_nil e
 | true=>exact e
theorem au3(ha:PT X a tA)(hb:PW X (.BoolOp .And (b::P0) pos) tB'):PW X (.BoolOp .And (a::b::P0) pos) (cA7 tA tB'):=by
 intro wh pins s σ H Q I h;refine isTrue_and (thn (ha pins s σ H _ I h) λc s1 ⟨H1,I1,q1⟩=>?_);cases c with
 | true=>exact hb wh pins s1 σ H1 Q I1 q1
 | false=>exact⟨H1,I1,q1⟩
theorem aQ7(ha:PT X a tA)(hb:PW X (.BoolOp .Or (b::P0) pos) tB'):PW X (.BoolOp .Or (a::b::P0) pos) (tOr tA tB'):=by
 intro wh pins s σ H Q I h;refine isTrue_or (thn (ha pins s σ H _ I h) λc s1 ⟨H1,I1,q1⟩=>?_);cases c with
 | true=>exact⟨H1,I1,q1⟩
 | false=>exact hb wh pins s1 σ H1 Q I1 q1
theorem bZ7(ha:PT X a tA):PT X (.UnaryOp .Not a pos) (cA0 tA):=by
 intro pins s σ H Q I h;exact isTrue_not (ha pins s σ H (λc H1=>Q (!c) H1) I h)
noncomputable def cq7(ta tb:TE):TE:=λσ H Q=>ta σ H λx H1=>∃c,x=.bl c/\if c=true then tb σ H1 Q else Q (.bl false) H1
noncomputable def cq3(ta:TE):TE:=λσ H Q=>ta σ H λx H1=>∃c,x=.bl c/\Q (.bl (!c)) H1
theorem ca6{op}(h:PE X a t):PE X (.BoolOp op [a] pos) t:=λpins s σ H Q I hw=>BoolOp_one (h pins s σ H Q I hw)
theorem bk3(ha:PE X a ta)(hb:PE X (.BoolOp .And (b::P0) pos) tb):PE X (.BoolOp .And (a::b::P0) pos) (cq7 ta tb):=by
 intro pins s σ H Q I h;refine BoolOp_and (thn (ha pins s σ H _ I h) λv s1 ⟨x,H1,I1,r1,q1⟩=>?_);obtain⟨c,rfl,q1⟩:=q1;cases r1;refine dM ?_;cases c with
 | true=>exact hb pins s1 σ H1 Q I1 q1
 | false=>exact⟨.bl false,H1,I1,rfl,q1⟩
theorem ca7(ha:PE X a ta):PE X (.UnaryOp .Not a pos) (cq3 ta):=by
 intro pins s σ H Q I h;refine UnaryOp_ (thn (ha pins s σ H _ I h) λv s1 ⟨x,H1,I1,r1,q1⟩=>?_);obtain⟨c,rfl,q1⟩:=q1;cases r1;exact not_of (dM ⟨.bl (!c),H1,I1,rfl,q1⟩)
noncomputable def tIf(t:TT)(ta tb:TE):TE:=λσ H Q=>t σ H λc H1=>if c=true then ta σ H1 Q else tb σ H1 Q
theorem aC1(hc:PT X c tA)(ha:PE X a ta)(hb:PE X b tb):PE X (.IfExp c a b pos) (tIf tA ta tb):=by
 intro pins s σ H Q I h;refine wpAny_IfExp (thn (hc pins s σ H _ I h) λd s1 ⟨H1,I1,q1⟩=>?_);cases d with
 | true=>exact ha pins s1 σ H1 Q I1 q1
 | false=>exact hb pins s1 σ H1 Q I1 q1
end
end L2
namespace L2
open PySem PySem.Spec PyProof.Rows
noncomputable def SqL(K:ag)(H:Hp)(a:eW)(xs:List V):Prop :=
 Rd H a (.lst xs) \/
  ∃(o:Obj) (its:Array eU) (n:Nat),K.lookup a=some o/\o.cls=.type "list" /\ o.dict=none/\o.data=.seq its n/\its.size<=dP/\C9 xs its.toList
noncomputable def SqT(K:ag)(H:Hp)(a:eW)(xs:List V):Prop :=
 Rd H a (.tup xs) \/
  ∃(o:Obj) (its:Array eU) (n:Nat),K.lookup a=some o/\o.cls=.type "tuple" /\ o.dict=none/\o.data=.seq its n/\its.size<=dP/\C9 xs its.toList
noncomputable def cE6:eU->Option V
 | .none=>some .non
 | .bool b=>some (.bl b)
 | .int i _=>some (.int i)
 | .str x _=>some (.str x)
 | .bytes b _=>some (.byt b)
 | .float b _=>some (.flt b)
 | .ref a=>some (.ref a)
 | .type n=>some (.ty n)
 | _=>none
theorem C5.abs(r:C5 x u):cE6 u=some x:=by
 cases x with
 | non=>cases r;rfl
 | bl _=>cases r;rfl
 | int _=>obtain⟨t,rfl⟩:=r;rfl
 | str _=>obtain⟨t,rfl⟩:=r;rfl
 | byt _=>obtain⟨t,rfl⟩:=r;rfl
 | flt _=>obtain⟨t,rfl⟩:=r;rfl
 | ref _=>cases r;rfl
 | ty _=>cases r;rfl
theorem C5.inj(r:C5 x u)(q:C5 y u):x=y:=bg.inj (r.abs.symm.trans q.abs)
theorem C9.inj:∀{xs ys:List V}{us:List eU},C9 xs us->C9 ys us->xs=ys
 | _,_,_,.nil,.nil=>rfl
 | _,_,_,.cons r t,.cons r' t'=>by rw[r.inj r',C9.inj t t']
section
variable {X:Cx}{pins:List (Addr×Obj)}{σ:St}{H:Hp}{s:Shared}{a:Addr}{xs ys:List V}
theorem SqL.of{K:ag}(h:H a=some (.lst xs)):SqL K H a xs:=.inl (.inl h)
theorem SqT.of{K:ag}(h:H a=some (.tup xs)):SqT K H a xs:=.inl (.inl h)
theorem Inv.list(I:Inv X pins σ H s)(h:SqL X.K H a xs):∃its:List eU,C9 xs its/\PlainL s.heap a its.toArray/\xs.length<=dP:=by
 rcases h with h|⟨o,its,n,hk,hc,hd,hs,hz,r⟩
 ·obtain⟨z,its,n,r,e⟩:=h.ok I.hok;exact⟨its,r,⟨_,n,e,rfl,rfl,rfl⟩,z⟩
 ·refine⟨its.toList,r,⟨o,n,I.kIn a o hk,hc,hd,by simpa using hs⟩,?_⟩;have e:=r.length;simp only[bj]at e;omega
theorem Inv.tupN(I:Inv X pins σ H s)(h:SqT X.K H a xs):∃its:List eU,C9 xs its/\ao5 s.heap a its.toArray/\xs.length<=dP:=by
 rcases h with h|⟨o,its,n,hk,hc,hd,hs,hz,r⟩
 ·obtain⟨z,its,r,p⟩:=h.ok I.hok;exact⟨its,r,p,z⟩
 ·refine⟨its.toList,r,⟨o,I.kIn a o hk,hc,⟨n,by simpa using hs⟩,hd⟩,?_⟩;have e:=r.length;simp only[bj]at e;omega
theorem Inv.tuple(I:Inv X pins σ H s)(h:SqT X.K H a xs):∃its:List eU,C9 xs its/\IsTup s.heap a its.toArray/\xs.length<=dP :=
 let⟨its,r,p,z⟩:=I.tupN h;⟨its,r,p.tup,z⟩
theorem Inv.list_inj(I:Inv X pins σ H s)(h:SqL X.K H a xs)(h':SqL X.K H a ys):xs=ys:=by
 obtain⟨its,r,⟨o,n,e,_,_,d⟩,_⟩:=I.list h;obtain⟨its',r',⟨o',n',e',_,_,d'⟩,_⟩:=I.list h';rw[e]at e';cases e';rw[d]at d';injection d' with d1 _
 have:its=its':=by simpa using congrArg Array.toList d1
 subst this;exact r.inj r'
theorem Inv.tuple_inj(I:Inv X pins σ H s)(h:SqT X.K H a xs)(h':SqT X.K H a ys):xs=ys:=by
 obtain⟨its,r,⟨o,e,_,n,d⟩,_⟩:=I.tuple h;obtain⟨its',r',⟨o',e',_,n',d'⟩,_⟩:=I.tuple h';rw[e]at e';cases e';rw[d]at d';injection d' with d1 _
 have:its=its':=by simpa using congrArg Array.toList d1
 subst this;exact r.inj r'
end
noncomputable abbrev Cx.wish(X:Cx)(E:eU->eV->Prop):Cx:={ X with xe:=E }
noncomputable abbrev Cx.nox(X:Cx):Cx:=X.wish λ_ _=>False
theorem Cx.Ok.wish{X:Cx}(ok:X.Ok)(E:eU->eV->Prop):(X.wish E).Ok :=
 ⟨ok.mod,ok.kind,ok.glob,ok.blt,ok.above,ok.inj,ok.has,ok.cab,ok.hd,ok.frames,ok.stk,ok.exf,ok.bs,ok.bsz,ok.noex,ok.exfs,ok.funs,ok.frf⟩
theorem Cx.Ok.unwish{X:Cx}{E:eU->eV->Prop}(ok:(X.wish E).Ok):X.Ok :=
 ⟨ok.mod,ok.kind,ok.glob,ok.blt,ok.above,ok.inj,ok.has,ok.cab,ok.hd,ok.frames,ok.stk,ok.exf,ok.bs,ok.bsz,ok.noex,ok.exfs,ok.funs,ok.frf⟩
section
variable {X:Cx}{pins:List (Addr×Obj)}{σ:St}{H:Hp}{s:Shared}{E:Value->Shared->Prop}
theorem Inv.wish(I:Inv X pins σ H s)(E:eU->eV->Prop):Inv (X.wish E) pins σ H s:=⟨I.ok.wish E,I.os,I.bare,I.base,I.loc,I.cell,I.free,I.freeC,I.pin,I.hok,I.len⟩
theorem Inv.unwish(I:Inv (X.wish E) pins σ H s):Inv X pins σ H s:=⟨I.ok.unwish,I.os,I.bare,I.base,I.loc,I.cell,I.free,I.freeC,I.pin,I.hok,I.len⟩
theorem SP.unwish(h:SP (X.wish E) pins D f s'):SP X pins D f s':=by
 cases f with
 | next=>obtain⟨σ',H',I,q⟩:=h;exact⟨σ',H',I.unwish,q⟩
 | brk=>obtain⟨σ',H',I,q⟩:=h;exact⟨σ',H',I.unwish,q⟩
 | cont=>obtain⟨σ',H',I,q⟩:=h;exact⟨σ',H',I.unwish,q⟩
 | ret u=>obtain⟨v,σ',H',I,r,q⟩:=h;exact⟨v,σ',H',I.unwish,r,q⟩
end
section
variable {X:Cx}{st:Stmt}{P0:List Stmt}{t u:TS}{e:Expr}{te:TE}{pos:Pos}
noncomputable def bO4:TS:=λD σ H=>D.nx σ H
noncomputable def cz7(t u:TS):TS:=λD σ H=>t { D with nx:=u D } σ H
theorem aQ9:PSs X [] bO4:=λ_ _ σ H _ I h=>wpAny_execs_nil ⟨σ,H,I,h⟩
theorem S6(h1:PS X st t)(h2:PSs X P0 u):PSs X (st::P0) (cz7 t u):=by
 intro pins s σ H D I h;refine wpAny_execs_cons (thn (h1 pins s σ H { D with nx:=u D } I h) λf s1 q=>?_);cases f with
 | next =>
  obtain⟨σ',H',I',q⟩:=q;exact h2 pins s1 σ' H' D I' q
 | ret v=>exact q
 | brk=>exact q
 | cont=>exact q
theorem ah2(h1:PS X st t):PSs X [st] t:=by
 intro pins s σ H D I h;refine wpAny_execs_cons (thn (h1 pins s σ H D I h) λf s1 q=>?_);cases f with
 | next=>exact wpAny_execs_nil q
 | ret v=>exact q
 | brk=>exact q
 | cont=>exact q
theorem bF5:PS X (.Pass pos) bO4:=λ_ _ σ H _ I h=>wpAny_Pass ⟨σ,H,I,h⟩
theorem Inv.quiet(I:Inv X pins σ H s):interactive X.env=false:=by simp[interactive,I.ok.kind]
noncomputable def cq4(te:TE):TS:=λD σ H=>te σ H λ_ H1=>D.nx σ H1
theorem u4(he:PE X e te)(hs:swapsWith e none pos.line X.env=pure false:=by rfl):PS X (.Expr e pos) (cq4 te):=by
 intro pins s σ H D I h;exact wpAny_Expr_any (thn (he pins s σ H _ I h) λv s1 ⟨x,H1,I1,r1,q1⟩=>⟨σ,H1,I1,q1⟩) I.quiet hs
noncomputable def cz8(te:TE):TS:=λD σ H=>te σ H D.rt
theorem au4(he:PE X e te):PS X (.Return (some e) pos) (cz8 te):=by
 intro pins s σ H D I h;exact wpAny_Return_some (thn (he pins s σ H _ I h) λv s1 ⟨x,H1,I1,r1,q1⟩=>⟨x,σ,H1,I1,r1,q1⟩)
noncomputable def cA2(c:TT)(t u:TS):TS:=λD σ H=>c σ H λb H1=>if b=true then t D σ H1 else u D σ H1
theorem aR0(hc:PT X c tc)(ha:PSs X a t)(hb:PSs X b u):PS X (.If c a b pos) (cA2 tc t u):=by
 intro pins s σ H D I h;refine wpAny_If (thn (hc pins s σ H _ I h) λd s1 ⟨H1,I1,q1⟩=>?_);cases d with
 | true=>exact ha pins s1 σ H1 D I1 q1
 | false=>exact hb pins s1 σ H1 D I1 q1
noncomputable def bX0:TS:=λ_ _ _=>False
theorem K1:PSs X sts bX0:=λ_ _ _ _ _ _ h=>h.elim
end
noncomputable abbrev TG:=V->St->Hp->(St->Hp->Prop)->Prop
noncomputable abbrev TGs:=List V->St->Hp->(St->Hp->Prop)->Prop
noncomputable def PG(X:Cx)(target:Expr)(t:TG):Prop :=
 ∀(pins:List (eW×Obj)) (s:eV) (σ:St) (H:Hp) (v:V) (u:eU) (Q:St->Hp->Prop),Inv X pins σ H s->C5 v u->t v σ H Q ->
  eD (eE X.prog X.w) X.A (assign target X.env u) (λ_ s'=>∃σ' H',Inv X pins σ' H' s'/\Q σ' H') X.xe s
noncomputable def PGs(X:Cx)(ts:List Expr)(t:TGs):Prop :=
 ∀(pins:List (eW×Obj)) (s:eV) (σ:St) (H:Hp) (vs:List V) (us:List eU) (Q:St->Hp->Prop),Inv X pins σ H s->C9 vs us->t vs σ H Q ->
  eD (eE X.prog X.w) X.A (assignInOrder ((ei ts X.env).map (·.2)) us) (λ_ s'=>∃σ' H',Inv X pins σ' H' s'/\Q σ' H') X.xe s
section
variable {X:Cx}{pos:Pos}
noncomputable def bR2(i:Nat):TG:=λv σ H Q=>Q (σ.set i (some v)) H
theorem bG0(hN:X.N.Nodup)(hi:X.N[i]? = some x)(hx:Loc X.env.scope x)(hf:X.fn x=true\/X.env.scope.names.lookup x=some .local:=by first|exact .inl rfl|exact .inr rfl|assumption):PG X (.Name x pos) (bR2 i):=by
 intro pins s σ H v u Q I r h;exact wpAny_assign_Name (Z9 I hN hi hx r (λs' I'=>⟨_,H,I',h⟩) hf)
noncomputable def cD3:TGs:=λvs σ H Q=>vs=[]/\Q σ H
noncomputable def cw6(t:TG)(u:TGs):TGs:=λvs σ H Q=>∃v r,vs=v::r/\t v σ H λσ' H'=>u r σ' H' Q
theorem bF9:PGs X [] cD3:=by
 intro pins s σ H vs us Q I r h;obtain⟨e,h⟩:=h;subst e;cases r;exact assignInOrder_nil ⟨σ,H,I,h⟩
theorem bj2(h1:PG X e t)(h2:PGs X es u)
  (hs:(ei (e::es) X.env).map (·.2)=assign e X.env::(ei es X.env).map (·.2):=by rfl):PGs X (e::es) (cw6 t u):=by
 intro pins s σ H vs us Q I r h;obtain⟨v,vr,e1,h⟩:=h;subst e1;cases r with
 | cons r rr =>
  rw[hs];refine assignInOrder_cons (thn (h1 pins s σ H _ _ _ I r h) λ_ s1 ⟨σ1,H1,I1,q1⟩=>?_);exact h2 pins s1 σ1 H1 _ _ Q I1 rr q1
noncomputable def cD2(K:ag)(n:Nat)(t:TGs):TG:=λv σ H Q=>∃a xs,v=.ref a/\SqT K H a xs/\xs.length=n/\t xs σ H Q
theorem ca4(hc:X.calm=true)(h:PGs X es t)
  (hn:(ei es X.env).length=n:=by rfl) (hst:(ei es X.env).findIdx? (·.1)=none:=by rfl):PG X (.Tuple es k pos) (cD2 X.K n t):=by
 intro pins s σ H v u Q I r hw;obtain⟨a,xs,e1,hq,hl,hw⟩:=hw;subst e1;cases r;obtain⟨its,rv,ht,hz⟩:=I.tuple hq;refine assign_Tuple_tuple (I.ok.hd hc) ht (by simp[hn,← hl,rv.length]) hst λh' hx=>?_
 have I1:Inv X pins σ H { s with heap:=h' }:=I.kept (t':=s.toks) λb o e=>hx b o (aK (eG e)) e
 exact h pins _ σ H xs _ Q I1 (by simpa using rv) hw
noncomputable def cA6(te:TE)(g:TG):TS:=λD σ H=>te σ H λx H1=>g x σ H1 D.nx
theorem m7(hN:X.N.Nodup)(hi:X.N[i]? = some x)(hx:Loc X.env.scope x)(he:PE X e te)(hs:swapsWith e (some (.Name x pos')) pos.line X.env=pure false:=by rfl)(hf:X.fn x=true\/X.env.scope.names.lookup x=some .local:=by first|exact .inl rfl|exact .inr rfl|assumption):
  PS X (.Assign [.Name x pos'] e pos) (cA6 te (bR2 i)):=by
 intro pins s σ H D I h;refine wpAny_Assign_Name (thn (he pins s σ H _ I h) λv s1 ⟨y,H1,I1,r1,q1⟩=>?_) hs;exact Z9 I1 hN hi hx r1 (λs2 I2=>⟨_,H1,I2,q1⟩) hf
noncomputable def cz9(i j:Nat)(ta:TA):TS:=λD σ H=>ta σ H λvs H1=>∃v w,vs=[v,w]/\D.nx ((σ.set i (some v)).set j (some w)) H1
theorem ca0{kt k2 pt2}(hc:X.calm=true)(hN:X.N.Nodup)(hi:X.N[i]? = some x)(hj:X.N[j]? = some y)(hij:i≠j)
  (hx:X.env.scope.names.lookup x=some .local) (hy:X.env.scope.names.lookup y=some .local) (ha:PA X [a,b] ta)
  (hw:swappedStores [.Tuple [.Name x px,.Name y py] kt pt] (.Tuple [a,b] k2 pt2) X.env=pure (some [x,y]))
  (hs:swapsWithSole [.Tuple [.Name x px,.Name y py] kt pt] (.Tuple [a,b] k2 pt2) pos.line X.env=pure false:=by rfl) :
  PS X (.Assign [.Tuple [.Name x px,.Name y py] kt pt] (.Tuple [a,b] k2 pt2) pos) (cz9 i j ta):=by
 intro pins s σ H D I h;rw[exec_Assign_arm];refine dH (wpAny_standAt ?_);rw[hs];refine dH (dI ?_);rw[if_neg (by decide)];refine dH (Tuple_ (thn (ha _ pins s σ H _ I h) λus s1 ⟨vs,H1,I1,r1,q1⟩=>?_));obtain⟨v,w,e1,q1⟩:=q1;subst e1
 obtain⟨u1,u2,rfl,rv,rw'⟩:∃u1 u2,us=[u1,u2]/\C5 v u1/\C5 w u2:=by
  cases r1 with
  | cons p q =>
   cases q with
   | cons p' q' =>
    cases q';exact⟨_,_,rfl,p,p'⟩
 refine dL ?_ (by show 2<=dP;decide);have I2:Inv X pins σ H1 { s1 with heap:=s1.heap.push { cls:=.type "tuple", data:=.seq [u1,u2].toArray } }:=I1.kept (t':=s1.toks) λb o e=>eF _ e
 rw[hw];refine dH (dI ?_);show eD (eE X.prog X.w) X.A (do rule "assign.swapped-stores";let items ← unpackItems (.ref s1.heap.objs.size) 2 none;assignInOrder [λv=>bindName X.env y v,λv=>bindName X.env x v] items.reverse;pure Flow.next) _ _ _;refine dH (wpAny_rule (dH (unpackItems_tuple (items:=#[u1,u2]) (I.ok.hd hc) (IsTup.new s1.heap _) λh' hx'=>?_)));have I3:=I2.kept (h':=h') (t':=s1.toks) λb o e=>hx' b o (aK (eG e)) e
 show eD _ _ (assignInOrder [λv=>bindName X.env y v,λv=>bindName X.env x v] [u2,u1] >>= λ_=>pure Flow.next) _ _ _;refine dH (assignInOrder_cons (wpAny_bindName (Z9 I3 hN hj (.inl hy) rw' (λs2 I4=>?_) (.inr hy))));refine assignInOrder_cons (wpAny_bindName (Z9 I4 hN hi (.inl hx) rv (λs3 I5=>assignInOrder_nil (dI ?_)) (.inr hx)));rw[List.set_comm _ _ (Ne.symm hij)]at I5;exact⟨_,H1,I5,q1⟩
end
section
variable {X:Cx}{pos:Pos}
noncomputable def bW9(c:TT)(tb:TS):TS:=λD σ H=>∃W:Nat->St->Hp->Prop,(∃m,W m σ H)/\∀m σ H,W m σ H ->
 c σ H λb H1=>if b=true then ∃N:St->Hp->Prop,(∀σ' H',N σ' H'->∃m',m' < m/\W m' σ' H')/\tb { D with nx:=N,ct:=N,bk:=D.nx } σ H1 else D.nx σ H1
theorem bi5(hp:PassesOwn (eE X.prog X.w) X.A X.env X.xe)(hc:PT X c tc)(hb:PSs X body tb):PS X (.While c body [] pos) (bW9 tc tb):=by
 intro pins s σ H D I h;obtain⟨W,⟨m0,w0⟩,turn⟩:=h;refine wpAny_While (codeAny_whileLoop (λn s'=>∃σ' H',Inv X pins σ' H' s'/\W n σ' H') ?_ m0 ⟨σ,H,I,w0⟩)
 rintro n s1 ⟨σ1,H1,I1,w1⟩
 refine wpAny_passesOwn hp (thn (hc pins s1 σ1 H1 _ I1 (turn n σ1 H1 w1)) λb s2 ⟨H2,I2,q2⟩=>?_);cases b with
 | true =>
  obtain⟨N,hN,q2⟩:=q2;rw[if_pos rfl];refine wpAny_passesOwn hp (thn (hb pins s2 σ1 H2 _ I2 q2) λf s3 q3=>?_);cases f with
  | next =>
   obtain⟨σ3,H3,I3,n3⟩:=q3;obtain⟨m',hm,w3⟩:=hN σ3 H3 n3;exact⟨m',hm,σ3,H3,I3,w3⟩
  | cont =>
   obtain⟨σ3,H3,I3,n3⟩:=q3;obtain⟨m',hm,w3⟩:=hN σ3 H3 n3;exact⟨m',hm,σ3,H3,I3,w3⟩
  | brk=>exact q3
  | ret v=>exact q3
 | false =>
  rw[if_neg be];exact wpAny_execs_nil ⟨σ1,H2,I2,q2⟩
end
structure It where
 go:Nat->Hp->Prop
 yld:Nat->Hp->V->Hp->Prop
 stop:Nat->Hp->Prop
noncomputable def ad7(X:Cx)(pins:List (eW×Obj))(H:Hp)(b:eW):Prop :=
 H b=none/\b≠X.env.locals/\b∉X.fs/\(b∈X.ex\/X.s₀.heap.objs.size<=b)/\(∀x c,X.env.cells.lookup x=some c->c≠b)/\∀p∈X.pn++pins,p.1≠b
theorem Inv.fpOk(I:Inv X pins σ H s)(hb:s.heap.objs.size<=b)(hn:H' b=none):ad7 X pins H' b:=by
 refine⟨hn,cz (aB I.lt hb),I.nofs hb,.inr (aM I.sz hb),λx c e z=>?_,λp hp z=>?_⟩
 ·obtain⟨v,q⟩:=I.cell x c e;exact absurd (aB q.lt (by rw[z];exact hb)) (bf _)
 ·exact absurd (aB (eG (I.pin p hp).1) (by rw[z];exact hb)) (bf _)
structure Turn (P:dU) (w:World) (K:ag) (tg:Expr) (J:It) (fp:List eW) (it:eW) (tn:Nat->Heap->Prop):Prop where
 mem:it∈fp
 obj:∀i h,tn i h->∀b∈fp,∃o,h.get? b=some o/\∀v,o.data≠.cell v
 keep:∀i h h',tn i h->(∀b∈fp,∀o,h.get? b=some o->h'.get? b=some o)->tn i h'
 item:∀(X:Cx),X.prog=P->X.w=w->X.K=K->X.calm=true->∀(i:Nat) (pins:List (eW×Obj)) (s:eV) (σ:St) (H:Hp) (E:eU->eV->Prop),Inv X pins σ H s->(∀b∈fp,ad7 X pins H b)->tn i s.heap->J.go i H ->
  eD (eE P w) X.A (pyNext (.ref it)) (λr s1=>∃u,r=some u /\
   eD (eE P w) X.A (letOwnedTupleGo tg (.ref it) u) (λ_ s2=>∃x H',Inv X pins σ H' s2/\C5 x u/\J.yld i H x H'/\tn (i+1) s2.heap/\∀b∈fp,H' b=none) E s1) E s
 done:∀(X:Cx),X.prog=P->X.w=w->X.K=K->X.calm=true->∀(i:Nat) (pins:List (eW×Obj)) (s:eV) (σ:St) (H:Hp) (E:eU->eV->Prop),Inv X pins σ H s->(∀b∈fp,ad7 X pins H b)->tn i s.heap->J.stop i H ->
  eD (eE P w) X.A (pyNext (.ref it)) (λr s1=>r=none/\Inv X pins σ H s1) E s
 self:∀(A:dW) (i:Nat) (s:eV) (Q:eU->eV->Prop) (E:eU->eV->Prop),tn i s.heap->Q (.ref it) s->eD (eE P w) A (pyIter (.ref it)) Q E s
noncomputable abbrev TI:=St->Hp->(It->Hp->Prop)->Prop
noncomputable def PIE(X:Cx)(pins:List (eW×Obj))(σ:St)(tg:Expr)(R:It->Hp->Prop)(itv:eU)(s2:eV):Prop :=
 ∃(it:eW) (fp:List eW) (tn:Nat->Heap->Prop) (J:It) (H':Hp),itv=.ref it/\Inv X pins σ H' s2/\Turn X.prog X.w X.K tg J fp it tn/\tn 0 s2.heap/\(∀b∈fp,ad7 X pins H' b)/\R J H'
noncomputable def PI(X:Cx)(tg iter:Expr)(wi:TI):Prop :=
 ∀(pins:List (eW×Obj)) (s:eV) (σ:St) (H:Hp) (R:It->Hp->Prop),Inv X pins σ H s->wi σ H R ->
  eD (eE X.prog X.w) X.A (eval iter X.env) (λv s1=>eD (eE X.prog X.w) X.A (pyIter v) (PIE X pins σ tg R) X.xe s1) X.xe s
theorem aU0(ho:s.heap.get? it=some o)(hc:o.cls=.type n)(hd:o.data=.fields vs)
    (hn:["enumerate", "zip", "dict_itemiterator", "dict_reverseitemiterator", "odict_iterator", "itertools.zip_longest", "itertools.pairwise"].contains n=false) (hQ:Q () s):eD M A (letOwnedTupleGo tg (.ref it) u) Q E s:=by
  unfold letOwnedTupleGo
  cases tg<;>first
    | exact dI hQ
    | (cases u<;>first
        | exact dI hQ
        | (refine dH (wpAny_load ho ?_)
           rw[hc,hd];show eD M A (if(["enumerate", "zip", "dict_itemiterator", "dict_reverseitemiterator", "odict_iterator", "itertools.zip_longest", "itertools.pairwise"].contains n&&vs[0]? == some (rawInt _))=true then _ else _) Q E s;rw[if_neg (by intro h;rw[hn,bv]at h;cases h)]
           exact dI hQ))
noncomputable def Itl(K:ag)(a:eW):It :=
 ⟨λi H=>∃xs x,SqL K H a xs/\xs[i]? = some x,λi H x H'=>H'=H/\∀xs,SqL K H a xs->xs[i]? = some x,λi H=>∃xs,SqL K H a xs/\xs.length<=i⟩
noncomputable def Itt(K:ag)(a:eW):It :=
 ⟨λi H=>∃xs x,SqT K H a xs/\xs[i]? = some x,λi H x H'=>H'=H/\∀xs,SqT K H a xs->xs[i]? = some x,λi H=>∃xs,SqT K H a xs/\xs.length<=i⟩
noncomputable def Itr(lo:Int)(n:Nat):It:=⟨λi _=>i < n,λi H x H'=>H'=H/\x=.int (lo+i),λi _=>n<=i⟩
theorem aX0{P:dU}{w:World}{K:ag}{tg:Expr}(a it:eW):Turn P w K tg (Itl K a) [it] it (λi h=>h.IsListIter it a i) where
 mem:=by simp
 obj:=λi h st b hb=>by
  have e:b=it:=by simpa using hb
  subst e;obtain⟨o,e,c,d⟩:=st;exact⟨o,e,λv z=>by rw[d]at z;cases z⟩
 keep:=λi h h' st k=>st.at λo e=>k it (by simp) o e
 item:=by
  intro X hP hw hK hc i pins s σ H E I hf st hg;subst hP hw hK;obtain⟨xs,x,hq,hx⟩:=hg;obtain⟨its,rv,p,hz⟩:=I.list hq;obtain⟨u,hu,ru⟩:=rv.get hx;obtain⟨f0,f1,f2,f3,f4,f5⟩:=hf it (by simp);refine wpAny_pyNext_list_item st p.isList (x:=u) (by simpa using hu) λh' st' sb=>?_
  have I1:Inv X pins σ H { s with heap:=h' }:=I.turned (t':=s.toks) (λb o hb e=>(sb.2 b hb).trans e) f0 f1 f3 f4 f5;obtain⟨o,e,c,d⟩:=id st';exact⟨u,rfl,aU0 (s:={ s with heap:=h' }) e c d (by decide) ⟨x,H,I1,ru,⟨rfl,λys hy=>by rw[I.list_inj hy hq];exact hx⟩,st',λb hb=>(hf b hb).1⟩⟩
 done:=by
  intro X hP hw hK hc i pins s σ H E I hf st hg;subst hP hw hK;obtain⟨xs,hq,hx⟩:=hg;obtain⟨its,rv,p,hz⟩:=I.list hq;obtain⟨f0,f1,f2,f3,f4,f5⟩:=hf it (by simp);have hl:=rv.length;exact wpAny_pyNext_list_end (I.ok.hd hc) st p.isList (by simp;omega) λh' eb=>⟨rfl,I.turned (t':=s.toks) (λb o hb e=>eb b o hb e) f0 f1 f3 f4 f5⟩
 self:=λ_ _ _ _ _ st h=>wpAny_pyIter_listiter st h
theorem aH5{P:dU}{w:World}{K:ag}{tg:Expr}(a it:eW):Turn P w K tg (Itt K a) [it] it (λi h=>h.IsTupleIter it a i) where
 mem:=by simp
 obj:=λi h st b hb=>by
  have e:b=it:=by simpa using hb
  subst e;obtain⟨o,e,c,d⟩:=st;exact⟨o,e,λv z=>by rw[d]at z;cases z⟩
 keep:=λi h h' st k=>st.at λo e=>k it (by simp) o e
 item:=by
  intro X hP hw hK hc i pins s σ H E I hf st hg;subst hP hw hK;obtain⟨xs,x,hq,hx⟩:=hg;obtain⟨its,rv,p,hz⟩:=I.tuple hq;obtain⟨u,hu,ru⟩:=rv.get hx;obtain⟨f0,f1,f2,f3,f4,f5⟩:=hf it (by simp);refine wpAny_pyNext_tuple_item st (show s.heap.IsTuple a its.toArray from p) (x:=u) (by simpa using hu) λh' st' sb=>?_
  have I1:Inv X pins σ H { s with heap:=h' }:=I.turned (t':=s.toks) (λb o hb e=>(sb.2 b hb).trans e) f0 f1 f3 f4 f5;obtain⟨o,e,c,d⟩:=id st';exact⟨u,rfl,aU0 (s:={ s with heap:=h' }) e c d (by decide) ⟨x,H,I1,ru,⟨rfl,λys hy=>by rw[I.tuple_inj hy hq];exact hx⟩,st',λb hb=>(hf b hb).1⟩⟩
 done:=by
  intro X hP hw hK hc i pins s σ H E I hf st hg;subst hP hw hK;obtain⟨xs,hq,hx⟩:=hg;obtain⟨its,rv,p,hz⟩:=I.tuple hq;obtain⟨f0,f1,f2,f3,f4,f5⟩:=hf it (by simp);have hl:=rv.length;exact wpAny_pyNext_tuple_end (I.ok.hd hc) st (show s.heap.IsTuple a its.toArray from p) (by simp;omega) λh' eb=>⟨rfl,I.turned (t':=s.toks) (λb o hb e=>eb b o hb e) f0 f1 f3 f4 f5⟩
 self:=λ_ _ _ _ _ st h=>wpAny_pyIter_tupleiter st h
theorem aH6{P:dU}{w:World}{K:ag}{tg:Expr}(it:eW)(lo:Int)(n:Nat):Turn P w K tg (Itr lo n) [it] it (λi h=>IsRangeIter h it (lo+(i:Nat)*1) ((n:Int) - (i:Nat)) 1) where
 mem:=by simp
 obj:=λi h st b hb=>by
  have e:b=it:=by simpa using hb
  subst e
  exact⟨_,st,λv z=>by
   have z':Data.fields _=Data.cell v:=z
   cases z'⟩
 keep:=λi h h' st k=>k it (by simp) _ st
 item:=by
  intro X hP hw hK hc i pins s σ H E I hf st hg;subst hP hw hK;obtain⟨f0,f1,f2,f3,f4,f5⟩:=hf it (by simp);have W:=Walks.range (prog:=X.prog) (w:=X.w) (I.ok.hd hc) it lo 1 n;refine W.item i s _ _ hg st λv h' tk hv st' kk=>?_
  obtain⟨t,rfl⟩:=hv;have I1:Inv X pins σ H { s with heap:=h',toks:=tk }:=I.turned (λb o hb e=>kk b o (by simpa using hb) e) f0 f1 f3 f4 f5;refine⟨_,rfl,aU0 (s:={ s with heap:=h',toks:=tk }) (n := "range_iterator") st' rfl rfl (by decide) ⟨.int (lo+i),H,I1,⟨t,?_⟩,⟨rfl,rfl⟩,st',λb hb=>(hf b hb).1⟩⟩;rw[Int.mul_one]
 done:=by
  intro X hP hw hK hc i pins s σ H E I hf st hg;subst hP hw hK;obtain⟨f0,f1,f2,f3,f4,f5⟩:=hf it (by simp);exact wpAny_pyNext_range_end (I.ok.hd hc) st (by have:n<=i:=hg;omega) λh' eb=>⟨rfl,I.turned (t':=s.toks) (λb o hb e=>eb b o hb e) f0 f1 f3 f4 f5⟩
 self:=λ_ _ _ _ _ st h=>wpAny_pyIter_rangeiter st h
end L2
namespace L2
open PySem PySem.Spec PyProof.Rows
section
variable {X:Cx}{tg:Expr}
noncomputable def cw3(K:ag)(tl:TE):TI:=λσ H R=>tl σ H λx H1=>∃a,x=.ref a/\(∃xs,SqL K H1 a xs)/\R (Itl K a) H1
noncomputable def cD1(K:ag)(tl:TE):TI:=λσ H R=>tl σ H λx H1=>∃a,x=.ref a/\(∃xs,SqT K H1 a xs)/\R (Itt K a) H1
theorem aR2{l:Expr}{tl:TE}(hl:PE X l tl):PI X tg l (cw3 X.K tl):=by
 intro pins s σ H R I h;refine thn (hl pins s σ H _ I h) λv s1 ⟨x,H1,I1,r1,q1⟩=>?_
 obtain⟨a,e,⟨xs,hq⟩,q⟩:=q1;subst e;cases r1;obtain⟨its,rv,p,hz⟩:=I1.list hq;refine wpAny_pyIter_list p.isList ?_;refine⟨s1.heap.objs.size,[s1.heap.objs.size],_,_,H1,rfl,I1.kept (t':=s1.toks) λb o e=>eF _ e,aX0 a _,⟨_,eI _ rfl,rfl,rfl⟩,λb hb=>?_,q⟩;have e:b=s1.heap.objs.size:=by simpa using hb
 subst e;exact I1.fpOk (aj _) (I1.hok.fresh (aj _))
theorem ca3{l:Expr}{tl:TE}(hl:PE X l tl):PI X tg l (cD1 X.K tl):=by
 intro pins s σ H R I h;refine thn (hl pins s σ H _ I h) λv s1 ⟨x,H1,I1,r1,q1⟩=>?_
 obtain⟨a,e,⟨xs,hq⟩,q⟩:=q1;subst e;cases r1;obtain⟨its,rv,p,hz⟩:=I1.tuple hq;refine wpAny_pyIter_tuple (show s1.heap.IsTuple a its.toArray from p) ?_;refine⟨s1.heap.objs.size,[s1.heap.objs.size],_,_,H1,rfl,I1.kept (t':=s1.toks) λb o e=>eF _ e,aH5 a _,⟨_,eI _ rfl,rfl,rfl⟩,λb hb=>?_,q⟩;have e:b=s1.heap.objs.size:=by simpa using hb
 subst e;exact I1.fpOk (aj _) (I1.hok.fresh (aj _))
theorem bh9{pins:List (eW×Obj)}{σ:St}{H:Hp}{s:eV}{R:It->Hp->Prop}{E:eU->eV->Prop}{lo hi:Int}{t u v:Tok}{tk:Nat}(I:Inv X pins σ H s)(h1:-(2 ^ 62)<=lo)(h2:lo < 2 ^ 62)(h3:-(2 ^ 62)<=hi)(h4:hi < 2 ^ 62)
  (q:R (Itr lo (hi - lo).toNat) H):eD (eE X.prog X.w) X.A (pyIter (.ref s.heap.objs.size)) (PIE X pins σ tg R) E { s with heap:=s.heap.push { cls:=.type "range", data:=.fields #[.int lo t,.int hi u,.int 1 v] },toks:=tk }:=by
 refine wpAny_pyIter_range (IsRange.new ..) (small_one h1 h2 h3 h4) ?_;have I1:Inv X pins σ H { s with heap:=s.heap.push { cls:=.type "range", data:=.fields #[.int lo t,.int hi u,.int 1 v] },toks:=tk }:=I.kept λb o e=>eF _ e
 refine⟨(s.heap.push { cls:=.type "range", data:=.fields #[.int lo t,.int hi u,.int 1 v] }).objs.size,[(s.heap.push { cls:=.type "range", data:=.fields #[.int lo t,.int hi u,.int 1 v] }).objs.size],_,_,H,rfl,
  I1.kept (t':=tk) λb o e=>eF _ e,aH6 _ lo (hi - lo).toNat,?_,λb hb=>?_,q⟩
 ·have e1:lo+((0:Nat):Int)*1=lo:=by simp
  have e2:(((hi - lo).toNat:Nat):Int) - ((0:Nat):Int)=Builtin.Range.rangeSize lo hi 1:=by rw[rangeSize_one];split<;>omega
  show IsRangeIter _ _ (lo+((0:Nat):Int)*1) ((((hi - lo).toNat:Nat):Int) - ((0:Nat):Int)) 1;rw[e1,e2];exact eI _ rfl
 ·have e:b=(s.heap.push { cls:=.type "range", data:=.fields #[.int lo t,.int hi u,.int 1 v] }).objs.size:=by simpa using hb
  subst e;exact I1.fpOk (aj _) (I1.hok.fresh (aj _))
noncomputable def cw2(ta:TA):TI:=λσ H R=>ta σ H λvs H1=>∃j:Int,vs=[.int j]/\-(2 ^ 62)<=j/\j < 2 ^ 62/\R (Itr 0 j.toNat) H1
theorem aX7{a:Expr}{ta:TA}{p pos:Pos}(hg:Gl X "range")(hm:X.mg "range" = none)(ha:PA X [a] ta)(hs:dO [a] X.env=[(false,eval a X.env)]:=by rfl):PI X tg (.Call (.Name "range" p) [a] [] pos) (cw2 ta):=by
 intro pins s σ H R I h;refine Call_ (ac2 I hg hm boot_range (PyProof.Rows.callWith_type1 (thn (ha pos pins s σ H _ I h) λus s1 ⟨vs,H1,I1,r1,q1⟩=>?_) hs rfl));obtain⟨j,e,q1,q2,q⟩:=q1;subst e;cases r1 with
 | cons r rr =>
  cases rr;obtain⟨t,rfl⟩:=r;exact call_range_1 (bh9 I1 (by omega) (by omega) q1 q2 (by simpa using q))
noncomputable def cA3(wi:TI)(g:TG)(tb:TS):TS:=λD σ H=>wi σ H λJ H1=>∃W:Nat->Nat->St->Hp->Prop,(∃m,W 0 m σ H1)/\∀i m σ H,W i m σ H ->
 (J.stop i H/\D.nx σ H)\/(J.go i H/\∃N:St->Hp->Prop,(∀σ' H',N σ' H'->∃m',m' < m/\W (i+1) m' σ' H')/\∀x H',J.yld i H x H'->g x σ H' λσ2 H2=>tb { D with nx:=N,ct:=N,bk:=D.nx } σ2 H2)
noncomputable def ak3(fp:List eW)(h:Heap):List (eW×Obj):=fp.filterMap λb=>(h.get? b).map λo=>(b,o)
theorem X6(hb:b∈fp)(e:h.get? b=some o):(b,o)∈ak3 fp h:=cX.mpr ⟨b,hb,by rw[e];rfl⟩
theorem aY1(hp:p∈ak3 fp h):p.1∈fp/\h.get? p.1=some p.2:=by
 obtain⟨b,hb,e⟩:=cX.mp hp;cases q:h.get? b with
 | none=>rw[q]at e;cases e
 | some o =>
  rw[q]at e;have e':(b,o)=p:=bg.inj e;subst e';exact⟨hb,q⟩
theorem Inv.pinned(I:Inv X pins σ H s)(hf:∀b∈fp,ad7 X pins H b)(ho:∀b∈fp,∃o,s.heap.get? b=some o/\∀v,o.data≠.cell v):Inv X (pins++ak3 fp s.heap) σ H s :=
 I.pins_of λp hp=>(aQ.mp hp).elim (λz=>I.pin p (ay _ z)) λz=>by
  obtain⟨hb,e⟩:=aY1 z;obtain⟨f0,f1,f2,_⟩:=hf p.1 hb;obtain⟨o,e',d⟩:=ho p.1 hb;rw[e]at e';cases e';exact⟨e,f0,f1,f2,d⟩
theorem Inv.unpinned(I:Inv X (pins++pl) σ H s):Inv X pins σ H s:=I.pins_of λp hp=>I.pin p (ay _ (aX _ hp))
theorem ca1(hp:PassesOwn (eE X.prog X.w) X.A X.env X.xe)(hc:X.calm=true)(hi:PI X tg iter wi)(hg:PG X tg g)(hb:PSs X body tb)
  (hs:∀x,em iter X.env x=pure x:=by intro _;rfl):PS X (.For tg iter body [] pos) (cA3 wi g tb):=by
 intro pins s σ H D I h;refine wpAny_For (thn (hi pins s σ H _ I h) λv s1 h1=>thn h1 λitv s2 h2=>?_) hs;obtain⟨it,fp,tn,J,H2,e,I2,T,st2,f2,W,⟨m0,w0⟩,turn⟩:=h2;subst e;have stat:∀{H':Hp},(∀b∈fp,H' b=none)->∀b∈fp,ad7 X pins H' b:=λhn b hb=>⟨hn b hb,(f2 b hb).2⟩
 refine codeAny_forLoop_any (λn s'=>∃i σ' H',Inv X pins σ' H' s'/\tn i s'.heap/\(∀b∈fp,H' b=none)/\W i n σ' H') ?_ m0 ⟨0,σ,H2,I2,st2,λb hb=>(f2 b hb).1,w0⟩
 rintro n s3 ⟨i,σ3,H3,I3,st3,fr3,w3⟩
 rcases turn i n σ3 H3 w3 with⟨stop,qn⟩|⟨go,N,hN,step⟩
 ·refine wpAny_passesOwn hp (thn (T.done X rfl rfl rfl hc i pins s3 σ3 H3 X.xe I3 (stat fr3) st3 stop) λr s4 ⟨hr,I4⟩=>?_);subst hr;exact wpAny_execs_nil ⟨σ3,H3,I4,qn⟩
 ·refine wpAny_passesOwn hp (thn (T.item X rfl rfl rfl hc i pins s3 σ3 H3 X.xe I3 (stat fr3) st3 go) λr s4 ⟨u,hr,h4⟩=>?_);subst hr;refine wpAny_passesOwn hp (thn h4 λ_ s5 ⟨x,H5,I5,r5,y5,st5,fr5⟩=>?_);have I5':=I5.pinned (stat fr5) (T.obj _ _ st5);refine wpAny_passesOwn hp (thn (hg _ s5 σ3 H5 x u _ I5' r5 (step x H5 y5)) λ_ s6 ⟨σ6,H6,I6,q6⟩=>?_);refine wpAny_passesOwn hp (thn (hb _ s6 σ6 H6 _ I6 q6) λf s7 q7=>?_)
  have again:∀{σ7:St}{H7:Hp},Inv X (pins++ak3 fp s5.heap) σ7 H7 s7->N σ7 H7->∃m,m < n/\∃i σ' H',Inv X pins σ' H' s7/\tn i s7.heap/\(∀b∈fp,H' b=none)/\W i m σ' H':=λ{σ7 H7} I7 n7=>by
   obtain⟨m',hm,w7⟩:=hN σ7 H7 n7;refine⟨m',hm,i+1,σ7,H7,I7.unpinned,T.keep _ _ _ st5 λb hb o e=>(I7.pin (b,o) (ay _ (ay _ (X6 hb e)))).1,λb hb=>?_,w7⟩;obtain⟨o,e,d⟩:=T.obj _ _ st5 b hb;exact(I7.pin (b,o) (ay _ (ay _ (X6 hb e)))).2.1
  cases f with
  | next=>obtain⟨σ7,H7,I7,n7⟩:=q7;exact again I7 n7
  | cont=>obtain⟨σ7,H7,I7,n7⟩:=q7;exact again I7 n7
  | brk=>obtain⟨σ7,H7,I7,q7⟩:=q7;exact⟨σ7,H7,I7.unpinned,q7⟩
  | ret v=>obtain⟨x7,σ7,H7,I7,r7,q7⟩:=q7;exact⟨x7,σ7,H7,I7.unpinned,r7,q7⟩
end
end L2
namespace L2
open PySem PySem.Spec PyProof.Rows
noncomputable abbrev R2:=V->V->Hp->VK->Prop
noncomputable def OpR(X:Cx)(f:eU->eU->Sem eU)(r:R2):Prop :=
 ∀(pins:List (eW×Obj)) (s:eV) (σ:St) (H:Hp) (x y:V) (v u:eU) (Q:VK),Inv X pins σ H s->C5 x v->C5 y u->r x y H Q ->
  eD (eE X.prog X.w) X.A (f v u) (EP X pins σ Q) X.xe s
noncomputable def UnR(X:Cx)(f:eU->Sem eU)(r:V->Hp->VK->Prop):Prop :=
 ∀(pins:List (eW×Obj)) (s:eV) (σ:St) (H:Hp) (x:V) (v:eU) (Q:VK),Inv X pins σ H s->C5 x v->r x H Q ->
  eD (eE X.prog X.w) X.A (f v) (EP X pins σ Q) X.xe s
noncomputable def Q5(X:Cx)(f:eU)(r:List V->Hp->VK->Prop):Prop :=
 ∀(pins:List (eW×Obj)) (s:eV) (σ:St) (H:Hp) (xs:List V) (us:List eU) (Q:VK),Inv X pins σ H s->C9 xs us->r xs H Q ->
  eD (eE X.prog X.w) X.A (call f us) (EP X pins σ Q) X.xe s
noncomputable def cE7(X:Cx)(r:V->Hp->(Bool->Hp->Prop)->Prop):Prop :=
 ∀(pins:List (eW×Obj)) (s:eV) (σ:St) (H:Hp) (x:V) (v:eU) (Q:Bool->Hp->Prop),Inv X pins σ H s->C5 x v->r x H Q ->
  eD (eE X.prog X.w) X.A (truthy v) (TP X pins σ Q) X.xe s
noncomputable def tOp(r:R2)(ta tb:TE):TE:=λσ H Q=>ta σ H λx H1=>tb σ H1 λy H2=>r x y H2 Q
noncomputable def tUn(r:V->Hp->VK->Prop)(ta:TE):TE:=λσ H Q=>ta σ H λx H1=>r x H1 Q
noncomputable def rI(C:Int->Int->Prop)(g:Int->Int->V):R2:=λx y H Q=>∃i j,x=.int i/\y=.int j/\C i j/\Q (g i j) H
noncomputable def rI0(g:Int->Int->V):R2:=λx y H Q=>∃i j,x=.int i/\y=.int j/\Q (g i j) H
noncomputable def rU(g:Int->V):V->Hp->VK->Prop:=λx H Q=>∃i,x=.int i/\Q (g i) H
section
variable {X:Cx}{a b c:Expr}{ta tb tc:TE}{pos:Pos}
theorem cl4(ha:PE X a ta)(hb:PE X b tb){pins:List (eW×Obj)}{s:eV}{σ:St}{H:Hp}{R:V->V->Hp->Prop}(I:Inv X pins σ H s)
  (h:ta σ H λx H1=>tb σ H1 λy H2=>R x y H2) {Q:eU->eV->Prop}{f:eU->eU->Sem eU}
  (hf:∀v u s2 x y H2,Inv X pins σ H2 s2->C5 x v->C5 y u->R x y H2->eD (eE X.prog X.w) X.A (f v u) Q X.xe s2) :
  eD (eE X.prog X.w) X.A (eval a X.env) (λv s₁=>eD (eE X.prog X.w) X.A (eval b X.env) (λu s₂=>eD (eE X.prog X.w) X.A (f v u) Q X.xe s₂) X.xe s₁) X.xe s:=by
 refine thn (ha pins s σ H _ I h) λv s1 ⟨x,H1,I1,r1,q1⟩=>?_
 refine thn (hb pins s1 σ H1 _ I1 q1) λu s2 ⟨y,H2,I2,r2,q2⟩=>?_
 exact hf v u s2 x y H2 I2 r1 r2 q2
theorem bj3(ho:OpR X (dZ op) r)(ha:PE X a ta)(hb:PE X b tb):PE X (.BinOp a op b pos) (tOp r ta tb):=by
 intro pins s σ H Q I h;exact wpAny_BinOp (cl4 ha hb I h λv u s2 x y H2 I2 rx ry q=>ho pins s2 σ H2 x y v u Q I2 rx ry q)
theorem cs4(ho:UnR X (unaryOp op) r)(ha:PE X a ta):PE X (.UnaryOp op a pos) (tUn r ta):=by
 intro pins s σ H Q I h;exact UnaryOp_ (thn (ha pins s σ H _ I h) λv s1 ⟨x,H1,I1,r1,q1⟩=>ho pins s1 σ H1 x v Q I1 r1 q1)
theorem opI{f:eU->eU->Sem eU}{C:Int->Int->Prop}{g:Int->Int->Int}
  (rule:∀(i j:Int) (t u:Tok) (s:eV) (Q:eU->eV->Prop) (E:eU->eV->Prop),C i j->Q (.int (g i j) s.toks) { s with toks:=s.toks+1 }->eD (eE X.prog X.w) X.A (f (.int i t) (.int j u)) Q E s) :
  OpR X f (rI C λi j=>.int (g i j)):=by
 intro pins s σ H x y v u Q I rx ry h;obtain⟨i,j,rfl,rfl,hc,q⟩:=h;obtain⟨t,rfl⟩:=rx;obtain⟨t',rfl⟩:=ry;exact rule i j t t' s _ _ hc ⟨.int (g i j),H,I.tok _,⟨_,rfl⟩,q⟩
theorem cC3{f:eU->eU->Sem eU}{g:Int->Int->Int}
  (rule:∀(i j:Int) (t u:Tok) (s:eV) (Q:eU->eV->Prop) (E:eU->eV->Prop),Q (.int (g i j) s.toks) { s with toks:=s.toks+1 }->eD (eE X.prog X.w) X.A (f (.int i t) (.int j u)) Q E s) :
  OpR X f (rI0 λi j=>.int (g i j)):=by
 intro pins s σ H x y v u Q I rx ry h;obtain⟨i,j,rfl,rfl,q⟩:=h;obtain⟨t,rfl⟩:=rx;obtain⟨t',rfl⟩:=ry;exact rule i j t t' s _ _ ⟨.int (g i j),H,I.tok _,⟨_,rfl⟩,q⟩
theorem bH4{f:eU->eU->Sem eU}{g:Int->Int->Bool}
  (rule:∀(i j:Int) (t u:Tok) (s:eV) (Q:eU->eV->Prop) (E:eU->eV->Prop),Q (.bool (g i j)) s->eD (eE X.prog X.w) X.A (f (.int i t) (.int j u)) Q E s) :
  OpR X f (rI0 λi j=>.bl (g i j)):=by
 intro pins s σ H x y v u Q I rx ry h;obtain⟨i,j,rfl,rfl,q⟩:=h;obtain⟨t,rfl⟩:=rx;obtain⟨t',rfl⟩:=ry;exact rule i j t t' s _ _ ⟨.bl (g i j),H,I,rfl,q⟩
noncomputable def cF0(i j:Int):Prop:=0<=j/\j<=1000000/\i.natAbs < 2 ^ 64
theorem bl0:OpR X (dZ .Add) (rI0 λi j=>.int (i+j)):=cC3 λ_ _ _ _ _ _ _ q=>add_int q
theorem cc3:OpR X (dZ .Mod) (rI (λ_ j=>0 < j) λi j=>.int (i % j)):=opI λi j _ _ _ _ _ hc q=>by
 have h1:(0:Int) < j:=hc;exact mod_int' (by omega) (by rw[Int.fmod_eq_emod_of_nonneg i (by omega)];exact q)
theorem cc2:OpR X (dZ .Pow) (rI cF0 λi j=>.int (i ^ j.toNat)):=opI λ_ _ _ _ _ _ _ hc q=>pow_int_small hc.1 hc.2.1 hc.2.2 q
theorem unI{f:eU->Sem eU}{g:Int->Int}
  (rule:∀(i:Int) (t:Tok) (s:eV) (Q:eU->eV->Prop) (E:eU->eV->Prop),Q (.int (g i) s.toks) { s with toks:=s.toks+1 }->eD (eE X.prog X.w) X.A (f (.int i t)) Q E s) :
  UnR X f (rU λi=>.int (g i)):=by
 intro pins s σ H x v Q I rx h;obtain⟨i,rfl,q⟩:=h;obtain⟨t,rfl⟩:=rx;exact rule i t s _ _ ⟨.int (g i),H,I.tok _,⟨_,rfl⟩,q⟩
theorem bV2:UnR X (unaryOp .USub) (rU λi=>.int (-i)):=unI λ_ _ _ _ _ q=>neg_int q
end
section
variable {X:Cx}{a b c:Expr}{ta tb tc:TE}{pos:Pos}
theorem aL7(I:Inv X pins σ H s)(q:Q (.bl k) H)(e:k=k'):EP X pins σ Q (.bool k') s:=by
 subst e;exact⟨.bl k,H,I,rfl,q⟩
theorem cs9:OpR X (dR .Lt) (rI0 λi j=>.bl (decide (i < j))):=bH4 λ_ _ _ _ _ _ _ q=>lt_int q
theorem ct0:OpR X (dR .LtE) (rI0 λi j=>.bl (decide (i<=j))):=bH4 λ_ _ _ _ _ _ _ q=>le_int q
theorem ct2:OpR X (dR .Gt) (rI0 λi j=>.bl (decide (j < i))):=bH4 λ_ _ _ _ _ _ _ q=>gt_int q
theorem ct3:OpR X (dR .GtE) (rI0 λi j=>.bl (decide (j<=i))):=bH4 λ_ _ _ _ _ _ _ q=>ge_int q
theorem aX8:OpR X (dR .In) (λx y H Q=>∃i j,x=.str i/\y=.str j/\Q (.bl (!(Builtin.Str.occurrences j i 0 j.length 1).isEmpty)) H):=by
 intro pins s σ H x y v u Q I rx ry h;obtain⟨i,j,rfl,rfl,q⟩:=h;obtain⟨t,rfl⟩:=rx;obtain⟨t',rfl⟩:=ry;exact in_str (aL7 I q rfl)
theorem cc5:OpR X (dR .Is) (λx y H Q=>y=.non/\Q (.bl (decide (x=.non))) H):=by
 intro pins s σ H x y v u Q I rx ry h;obtain⟨rfl,q⟩:=h;cases ry;refine is_none_gen (aL7 I q ?_)
 cases x<;>first
  | (cases rx;rfl)
  | (obtain⟨t,rfl⟩:=rx;rfl)
theorem au8:OpR X (dR .NotIn) (λx y H Q=>∃i j,x=.str i/\y=.str j/\Q (.bl (!(!(Builtin.Str.occurrences j i 0 j.length 1).isEmpty))) H):=by
 intro pins s σ H x y v u Q I rx ry h;obtain⟨i,j,rfl,rfl,q⟩:=h;obtain⟨t,rfl⟩:=rx;obtain⟨t',rfl⟩:=ry;exact notIn_str (aL7 I q rfl)
theorem av3(b:Expr)(h:op≠.In:=by decide)(h2:op≠.NotIn:=by decide):behindInMarks op b=false:=by
 have e1:(op==CmpOp.In)=false:=by cases op<;>first|rfl|exact absurd rfl h
 have e2:(op==CmpOp.NotIn)=false:=by cases op<;>first|rfl|exact absurd rfl h2
 cases b<;>simp[behindInMarks,e1,e2]
theorem aR4(ho:OpR X (dR op) r)(ha:PE X a ta)(hb:PE X b tb)(hm:behindInMarks op b=false):PE X (.Compare a [op] [b] pos) (tOp r ta tb):=by
 intro pins s σ H Q I h;exact wpAny_Compare1 (cl4 ha hb I h λv u s2 x y H2 I2 rx ry q=>ho pins s2 σ H2 x y v u Q I2 rx ry q) hm
noncomputable def bO2(t:TE):TT:=λσ H Q=>t σ H λx H'=>∃k,x=.bl k/\Q k H'
theorem aQ8(ho:OpR X (dR op) r)(ha:PE X a ta)(hb:PE X b tb)(hm:behindInMarks op b=false):PT X (.Compare a [op] [b] pos) (bO2 (tOp r ta tb)):=by
 intro pins s σ H Q I h
 refine wpAny_isTrue_Compare1 (thn (ha pins s σ H _ I h) λv s1 ⟨x,H1,I1,r1,q1⟩=>thn (hb pins s1 σ H1 _ I1 q1) λu s2 ⟨y,H2,I2,r2,q2⟩ =>
  thn (ho pins s2 σ H2 x y v u _ I2 r1 r2 q2) λc s3 ⟨z,H3,I3,r3,k,e,q3⟩=>?_) hm
 subst e;cases r3;exact dM ⟨H3,I3,q3⟩
noncomputable def bf8(r r':R2)(ta tb tc:TE):TE:=λσ H Q=>ta σ H λx H1=>tb σ H1 λy H2=>r x y H2 λz H3=>∃k,z=.bl k /\
 (if k=true then tc σ H3 λw' H4=>r' y w' H4 Q else Q (.bl false) H3)
theorem aC2(ho:OpR X (dR op) r)(ho':OpR X (dR op') r')(ha:PE X a ta)(hb:PE X b tb)(hc:PE X c tc)
  (hm:lastMarks [op,op'] [b,c]=false:=by with_unfolding_all rfl):PE X (.Compare a [op,op'] [b,c] pos) (bf8 r r' ta tb tc):=by
 intro pins s σ H Q I h
 refine Compare_chain (thn (ha pins s σ H _ I h) λv s1 ⟨x,H1,I1,r1,q1⟩=>chain_link (thn (hb pins s1 σ H1 _ I1 q1) λu s2 ⟨y,H2,I2,r2,q2⟩ =>
  thn (ho pins s2 σ H2 x y v u _ I2 r1 r2 q2) λd s3 ⟨z,H3,I3,r3,k,e,q3⟩=>?_)) hm
 subst e;cases r3;refine dM ?_;cases k with
 | false=>exact ite_ff ⟨.bl false,H3,I3,rfl,q3⟩
 | true=>exact ite_tt (chain_last (thn (hc pins s3 σ H3 _ I3 q3) λw' s4 ⟨z',H4,I4,r4,q4⟩=>ho' pins s4 σ H4 y z' u w' Q I4 r2 r4 q4))
theorem aB8(ho:OpR X (dR op) r)(ho':OpR X (dR op') r')(ha:PE X a ta)(hb:PE X b tb)(hc:PE X c tc)
  (hm:lastMarks [op,op'] [b,c]=false:=by with_unfolding_all rfl):PT X (.Compare a [op,op'] [b,c] pos) (bO2 (bf8 r r' ta tb tc)):=by
 intro pins s σ H Q I h
 refine isTrue_chain (thn (ha pins s σ H _ I h) λv s1 ⟨x,H1,I1,r1,q1⟩=>test_link (thn (hb pins s1 σ H1 _ I1 q1) λu s2 ⟨y,H2,I2,r2,q2⟩ =>
  thn (ho pins s2 σ H2 x y v u _ I2 r1 r2 q2) λd s3 ⟨z,H3,I3,r3,k,e,q3⟩=>?_)) hm
 subst e;cases r3;refine dM ?_;cases k with
 | false =>
  obtain⟨k',e',q'⟩:=q3;cases e';exact ite_ff ⟨H3,I3,q'⟩
 | true =>
  refine ite_tt (test_last (thn (hc pins s3 σ H3 _ I3 q3) λw' s4 ⟨z',H4,I4,r4,q4⟩=>thn (ho' pins s4 σ H4 y z' u w' _ I4 r2 r4 q4) λd' s5 ⟨z2,H5,I5,r5,k2,e2,q5⟩=>?_));subst e2;cases r5;exact dM ⟨H5,I5,q5⟩
noncomputable def cy5(K:ag)(x:V)(H:Hp)(k:Bool):Prop :=
 match x with
 | .non=>k=false
 | .bl b=>k=b
 | .int i=>k=(i != 0)
 | .str y=>y.length<=dP/\k=((y.length:Int) != 0)
 | .byt y=>y.size<=dP/\k=((y.size:Int) != 0)
 | .ref p=>(∃xs,SqL K H p xs/\k = !xs.isEmpty)\/(∃xs,SqT K H p xs/\k = !xs.isEmpty)\/∃kvs,H p=some (.dK kvs)/\k = !kvs.isEmpty
 | _=>False
theorem aL0{κ:Type}{kvs:List (κ×V)}{vs:List (κ×eU)}(r:KV kvs vs):(!vs.isEmpty) = !kvs.isEmpty:=by
 cases r<;>rfl
theorem al6(r:C9 xs its):(!its.toArray.isEmpty) = !xs.isEmpty:=by
 cases r<;>simp
theorem b9:(dP:Nat) < 2 ^ 63:=by rw[dQ];decide
theorem bW6:cE7 X (λx H Q=>∃k,cy5 X.K x H k/\Q k H):=by
 intro pins s σ H x v Q I rx h;obtain⟨k,e,q⟩:=h;have hl:=b9;have hs:dP=16777216:=dQ;cases x with
 | non =>
  cases rx;have e':k=false:=e;subst e';exact truthy_none ⟨H,I,q⟩
 | bl b =>
  cases rx;have e':k=b:=e;subst e';exact dM ⟨H,I,q⟩
 | int i =>
  obtain⟨t,rfl⟩:=rx;have e':k=(i != 0):=e;subst e';exact PySem.P.truthy_int ⟨H,I,q⟩
 | str y =>
  obtain⟨t,rfl⟩:=rx;obtain⟨hy,e'⟩:y.length<=dP/\k=((y.length:Int) != 0):=e;subst e';exact PySem.P.truthy_str (by omega) ⟨H,I.tok _,q⟩
 | byt y =>
  obtain⟨t,rfl⟩:=rx;obtain⟨hy,e'⟩:y.size<=dP/\k=((y.size:Int) != 0):=e;subst e';exact PySem.W.truthy_bytes (by omega) ⟨H,I.tok _,q⟩
 | ref p =>
  cases rx;have e':(∃xs,SqL X.K H p xs/\k = !xs.isEmpty)\/(∃xs,SqT X.K H p xs/\k = !xs.isEmpty)\/∃kvs,H p=some (.dK kvs)/\k = !kvs.isEmpty:=e;rcases e' with⟨xs,hx,e'⟩|⟨xs,hx,e'⟩|⟨kvs,hx,e'⟩
  ·subst e';obtain⟨its,r,pl,hz⟩:=I.list hx;have hlen:=r.length;exact wpAny_truthy_list pl.isList (by simp only[av];omega) ⟨H,I.tok _,by rw[al6 r];exact q⟩
  ·subst e';obtain⟨its,r,pl,hz⟩:=I.tuple hx;have hlen:=r.length;exact truthy_tuple pl (by simp only[av];omega) ⟨H,I.tok _,by rw[al6 r];exact q⟩
  ·subst e';obtain⟨hz,hS,vs,r,m⟩:kvs.length<=dP/\(p==sysModules)=false/\∃vs,KV kvs vs/\s.heap.DictOf (E7 X.prog X.w) p vs:=I.hok p _ hx;have hlen:kvs.length=vs.length:=Paired.length r;exact wpAny_truthy_dict hS m (by omega) ⟨H,I.tok _,by rw[aL0 r];exact q⟩
 | _=>exact(show False from e).elim
theorem aB7(ha:PE X a ta)(he:∀whole,isTrue a X.env whole=(do let v ← whole;standAt a.pos;holding [v] (truthy v))):
  PT X a (λσ H Q=>ta σ H λx H'=>∃k,cy5 X.K x H' k/\Q k H'):=by
 intro pins s σ H Q I h;exact isTrue_plain (thn (ha pins s σ H _ I h) λv s1 ⟨x,H1,I1,r1,q1⟩=>bW6 pins s1 σ H1 x v Q I1 r1 q1) (he _)
theorem aJ5:OpR X (dZ .Add) (λx y H Q=>∃i j,x=.str i/\y=.str j/\i.length+j.length<=dP/\Q (.str (i++j)) H):=by
 intro pins s σ H x y v u Q I rx ry h;obtain⟨i,j,rfl,rfl,hz,q⟩:=h;obtain⟨t,rfl⟩:=rx;obtain⟨t',rfl⟩:=ry;exact add_str (λt' tk=>⟨.str (i++j),H,I.tok _,⟨_,rfl⟩,q⟩) hz
theorem T6(r:C9 [x] us):∃u,us=[u]/\C5 x u:=by
 cases r with
 | cons r1 r2=>cases r2;exact⟨_,rfl,r1⟩
theorem bd5(r:C9 [x,y] us):∃u w',us=[u,w']/\C5 x u/\C5 y w':=by
 cases r with
 | cons r1 r2 =>
  cases r2 with
  | cons r3 r4=>cases r4;exact⟨_,_,rfl,r1,r3⟩
theorem ar7:Q5 X (.type "int") (λxs H Q=>(∃i,xs=[.int i]/\Q (.int i) H)\/∃k,xs=[.bl k]/\Q (.int (if k then 1 else 0)) H):=by
 intro pins s σ H xs us Q I r h;rcases h with⟨i,rfl,q⟩|⟨k,rfl,q⟩
 ·obtain⟨u,rfl,t,rfl⟩:=T6 r;exact call_int_int ⟨.int i,H,I,⟨_,rfl⟩,q⟩
 ·obtain⟨u,rfl,r1⟩:=T6 r;cases r1;exact call_int_bool ⟨.int (if k then 1 else 0),H,I.tok _,⟨_,rfl⟩,q⟩
theorem ay6:Q5 X (.type "str") (λxs H Q=>∃i,xs=[.int i]/\i.natAbs.log2 < 1920/\Q (.str (toString i)) H):=by
 intro pins s σ H xs us Q I r h;obtain⟨i,rfl,hz,q⟩:=h;obtain⟨u,rfl,t,rfl⟩:=T6 r;exact PySem.P.str_of_int hz ⟨.str _,H,I.tok _,⟨_,rfl⟩,q⟩
noncomputable def cE9(K:ag)(x:V)(H:Hp)(n:Nat):Prop :=
 match x with
 | .str y=>y.length<=dP/\n=y.length
 | .byt y=>y.size<=dP/\n=y.size
 | .ref p=>(∃xs,SqL K H p xs/\n=xs.length)\/∃xs,SqT K H p xs/\n=xs.length
 | _=>False
theorem bw8:Q5 X (.builtin "len") (λxs H Q=>∃x n,xs=[x]/\cE9 X.K x H n/\Q (.int n) H):=by
 intro pins s σ H xs us Q I r h;obtain⟨x,n,rfl,e,q⟩:=h;obtain⟨u,rfl,rx⟩:=T6 r;have hl:=b9;have hs:dP=16777216:=dQ;cases x with
 | str y =>
  obtain⟨t,rfl⟩:=rx;obtain⟨hy,e'⟩:y.length<=dP/\n=y.length:=e;subst e';exact len_str (by omega) ⟨.int _,H,I.tok _,⟨_,rfl⟩,q⟩
 | byt y =>
  obtain⟨t,rfl⟩:=rx;obtain⟨hy,e'⟩:y.size<=dP/\n=y.size:=e;subst e';exact PySem.W.len_bytes (by omega) ⟨.int _,H,I.tok _,⟨_,rfl⟩,q⟩
 | ref p =>
  cases rx;have e':(∃xs,SqL X.K H p xs/\n=xs.length)\/∃xs,SqT X.K H p xs/\n=xs.length:=e;rcases e' with⟨xs,hx,e'⟩|⟨xs,hx,e'⟩
  ·subst e';obtain⟨its,r',pl,hz⟩:=I.list hx;have hlen:=r'.length;exact Calls.call_len_list pl.isList (by simp only[av];omega) ⟨.int xs.length,H,I.tok _,⟨_,by simp only[av];rw[hlen]⟩,q⟩
  ·subst e';obtain⟨its,r',pl,hz⟩:=I.tuple hx;have hlen:=r'.length;exact len_tuple pl (by simp only[av];omega) ⟨.int xs.length,H,I.tok _,⟨_,by simp only[av];rw[hlen]⟩,q⟩
 | _=>exact(show False from e).elim
end
end L2
namespace L2
open PySem PySem.Spec PyProof.Rows
structure ObjM (h:Heap) (x dx C:eW) (mA:Str->Option eU):Prop where
 obj:h.get? x=some (PySem.W.instObj C dx)
 ns:h.Ns1 dx mA
 ne:dx≠x
theorem aY8{h:Heap}{dx:eW}{mA:Str->Option eU}(n:h.Ns1 dx mA):∃od,h.get? dx=some od/\∀name,PySem.W.lookIn name od=some (mA name):=by
 obtain⟨o,es,ep,ho,hd,hk,_,hm⟩:=n;refine⟨o,ho,λname=>?_⟩;have e:=hm name;unfold nsFind findBy at e;rw[← Array.find?_toList]at e;unfold PySem.W.lookIn;rw[hd];dsimp only;split
 ·rename_i y q;rw[q]at e;exact congrArg some e
 ·rename_i q;rw[q]at e
  have a:es.toList.any (·.refKey)=false:=by
   rw[List.any_eq_false];intro y hy;obtain⟨z,t,hkey⟩:=hk y (cO.mp hy);simp[DictEntry.refKey,hkey]
  have a':¬es.toList.any (·.refKey)=true:=by rw[a];exact be
  rw[if_neg a'];exact congrArg some e
theorem ObjM.look(I:ObjM h x dx C mA):∃od,PySem.W.InstAt h x (PySem.W.instObj C dx) C (some od)/\∀name,PySem.W.lookIn name od=some (mA name) :=
 let⟨od,ho,hl⟩:=aY8 I.ns
 ⟨od,⟨I.obj,rfl,rfl,ho⟩,hl⟩
section
variable {prog:Program}{w:World}{A:Around}{E:Value->Shared->Prop}{s:Shared}{K:PySem.W.Frag}{x dx C f:Addr}{mA:Str->Option Value}{name:Str}{v:Value}
theorem bL3(X:K.In s.heap)(I:ObjM s.heap x dx C mA)(hg:PySem.W.plainGet K C name=true)(hh:PySem.W.hasDictIn K C=true)
  (ha:PySem.W.findIn K (.ref C) name=some none) (hv:mA name=some v) (hv':PySem.W.handedIn v=true) (h:Q v { s with toks:=s.toks+1 }) :
  eD (eE prog w) A (getAttr (.ref x) name expr) Q E s:=by
 obtain⟨od,J,hl⟩:=I.look;exact PySem.W.get_value X J (PySem.W.plainGet_of hg).1 (PySem.W.findObj_own hh ha rfl (by rw[hl,hv])) hv' h
theorem bt3(X:K.In s.heap)(I:ObjM s.heap x dx C mA)(hg:PySem.W.plainGet K C name=true)
  (hf:PySem.W.findIn K (.ref C) name=some (some (.ref f))) (ht:PySem.W.isFn K (.ref f)=true) (hv:mA name=none) (h:Q (.ref f,[.ref x]) s) :
  eD (eE prog w) A (getMethod (.ref x) name pl) Q E s:=by
 obtain⟨od,J,hl⟩:=I.look;exact PySem.W.method_fn X J (PySem.W.plainGet_of hg).1 (PySem.W.plainGet_of hg).2 hf (beq_iff_eq.mp ht) (by show(PySem.W.lookIn name od).map (·.isSome)=some false;rw[hl,hv];rfl) h
theorem bD5(X:K.In s.heap)(I:ObjM s.heap x dx C mA)
  (hs:PySem.W.findIn K (.ref C) "__setattr__" = some (some (.builtin "object.__setattr__"))) (hp:PySem.W.plainOver K C=true) (ht:PySem.W.takerIn K C name=some none) (hh:PySem.W.hasDictIn K C=true)
  (hw:PySem.Within mA ns) (hsz:ns.length<=dP)
  (h:∀h',ObjM h' x dx C (λy=>if y=name then some v else mA y)->Heap.SameBut dx s.heap h'->Q () { s with heap:=h',toks:=s.toks+2 }) :
  eD (eE prog w) A (setAttr (.ref x) name v) Q E s:=by
 obtain⟨od,J,hl⟩:=I.look;refine PySem.W.set_plain X J hs (PySem.W.osa_open (s:={ s with toks:=s.toks+1 }) (r:=none) X J hp ht λb=>?_);obtain⟨cd,hc,hd'⟩:=PySem.W.any_some hh;have hx:s.heap.get? x=some ⟨.ref C,some dx,.plain,#[]⟩:=I.obj;refine dH (dI (dH (dH (wpAny_loadPart hx (dH (PySem.W.Looks.here (s:={ s with toks:=s.toks+1 }) (PySem.W.looks_clsIn X hc) ?_))))));rw[hd'];refine dI (a:=some dx) (dH (dI (dH ?_)));refine wpAny_nsSet1 (s:={ s with toks:=s.toks+1 }) I.ns λh' hn2 hs2=>?_
 obtain⟨oD,esD,epD,hoD,hdD,hcD⟩:=hn2.count (PySem.Within.cons name v hw);refine dH (wpAny_lookBehind hoD (by rw[hdD];exact pastItsLine_dict (aM hcD (by rw[aI];omega))) ?_);exact dI (h _ ⟨(hs2.2 _ (Ne.symm I.ne)).trans I.obj,hn2,I.ne⟩ hs2)
theorem bn4(X:K.In s.heap)(hm:PySem.W.makesIn K C=true)
  (hi:PySem.W.findIn K (.ref C) "__init__" = some (some (.ref f))) (hf:PySem.W.typeIn K (.ref f)=some (.type "function"))
  (h:codeAny (eE prog w) (A.under (.builtin "type.__call__" ⟨.ref C::vs,kw⟩)) (.call (.ref f) ⟨.ref (s.heap.objs.size+1)::vs,kw⟩) (PySem.W.InitBack (s.heap.objs.size+1) R)
   { s with heap:=(s.heap.push PySem.W.emptyDict).push (PySem.W.instObj C s.heap.objs.size) }) :
  codeAny (eE prog w) A (.call (.ref C) ⟨vs,kw⟩) R s:=by
 obtain⟨hh,g,d,t,os⟩:=s;exact PySem.W.make_core (PySem.W.makes_of X hm) (PySem.W.looks_findIn X hi) (λself=>PySem.W.bind_fn X self hf) (.inl rfl) h
end
noncomputable def V0(f:Str)(v:V):List (Str×V)->List (Str×V)
 | []=>[(f,v)]
 | (g,x)::r=>if g=f then(g,v)::r else(g,x)::V0 f v r
theorem ae4(f g:Str)(v:V):∀fs:List (Str×V),(V0 f v fs).lookup g=if g=f then some v else fs.lookup g
 | []=>by
  show bH g [(f,v)]=_;by_cases h:g=f
  ·have hb:(g==f)=true:=beq_iff_eq.mpr h;simp only[bH,hb,if_pos h]
  ·have hb:(g==f)=false:=beq_eq_false_iff_ne.mpr h;simp only[bH,hb,if_neg h]
 | (k,x)::r=>by
  have ih:=ae4 f g v r;rw[show V0 f v ((k,x)::r)=(if k=f then(k,v)::r else(k,x)::V0 f v r) from rfl];by_cases hk:k=f
  ·rw[if_pos hk];by_cases h:g=k
   ·have hb:(g==k)=true:=beq_iff_eq.mpr h;simp only[bH,hb,if_pos (h.trans hk)]
   ·have hb:(g==k)=false:=beq_eq_false_iff_ne.mpr h;simp only[bH,hb,if_neg (λe:g=f=>h (e.trans hk.symm))]
  ·rw[if_neg hk];by_cases h:g=k
   ·have hb:(g==k)=true:=beq_iff_eq.mpr h;simp only[bH,hb,if_neg (λe:g=f=>hk (h.symm.trans e))]
   ·have hb:(g==k)=false:=beq_eq_false_iff_ne.mpr h;simp only[bH,hb];exact ih
theorem ac3(f:Str)(v:V):∀fs:List (Str×V),f∈(V0 f v fs).map (·.1)/\∀g,g∈fs.map (·.1)->g∈(V0 f v fs).map (·.1)
 | []=>⟨by simp[V0],λg h=>by simp at h⟩
 | (k,x)::r=>by
  obtain⟨i1,i2⟩:=ac3 f v r;rw[show V0 f v ((k,x)::r)=(if k=f then(k,v)::r else(k,x)::V0 f v r) from rfl];by_cases hk:k=f
  ·rw[if_pos hk];subst hk;exact⟨by simp,λg h=>by simpa using h⟩
  ·rw[if_neg hk];refine⟨?_,λg h=>?_⟩
   ·rw[bh];exact ai _ i1
   ·rw[bh]at h ⊢;rcases ax.mp h with e|e
    ·exact ax.mpr (.inl e)
    ·exact ai _ (i2 g e)
theorem ae6(f:Str)(v:V):∀fs:List (Str×V),(V0 f v fs).length<=fs.length+1
 | []=>by simp[V0]
 | (k,x)::r=>by
  have ih:=ae6 f v r;rw[show V0 f v ((k,x)::r)=(if k=f then(k,v)::r else(k,x)::V0 f v r) from rfl];by_cases hk:k=f
  ·rw[if_pos hk,aI,aI];omega
  ·rw[if_neg hk,aI,aI];omega
theorem Y1.some_of(r:Y1 (some v) o):∃u,o=some u/\C5 v u:=by
 cases o with
 | none=>exact(show False from r).elim
 | some u=>exact⟨u,rfl,r⟩
theorem Y1.none_of(r:Y1 none o):o=none:=by
 cases o with
 | none=>rfl
 | some u=>exact(show False from r).elim
theorem ba0(r:C5 v u):PySem.W.handedIn u=true:=by
 cases v with
 | non=>cases(show u=eQ from r);rfl
 | bl b=>cases(show u=Value.bool b from r);rfl
 | int i=>obtain⟨t,e⟩:=(show ∃t,u=Value.int i t from r);cases e;rfl
 | str x=>obtain⟨t,e⟩:=(show ∃t,u=Value.str x t from r);cases e;rfl
 | byt b=>obtain⟨t,e⟩:=(show ∃t,u=Value.bytes b t from r);cases e;rfl
 | flt b=>obtain⟨t,e⟩:=(show ∃t,u=Value.float b t from r);cases e;rfl
 | ref a=>cases(show u=eP a from r);rfl
 | ty n=>cases(show u=Value.type n from r);rfl
section
variable {P:Program}{w:World}{H H':Hp}{h h':Heap}{a C dx:Addr}{fs fs':List (Str×V)}
theorem ah7(hok:HOk P w H h)(e:H a=some (.ins C dx fs)):∃mA,ObjM h a dx C mA/\(∀f,Y1 (fs.lookup f) (mA f))/\PySem.Within mA (fs.map (·.1))/\fs.length<=1000/\H dx=some (.own a):=by
 obtain⟨d,z,ne,ob,mA,n,r,q⟩:=(show F9 P w H h a (.ins C dx fs) from hok a _ e);exact⟨mA,⟨ob,n,ne⟩,r,q,z,d⟩
end
structure Cls (K:ag) (C:eW):Prop where
 pg:PySem.W.plainGet K C eT=true
 hd:PySem.W.hasDictIn K C=true
 po:PySem.W.plainOver K C=true
 sa:PySem.W.findIn K (.ref C) "__setattr__" = some (some (.builtin "object.__setattr__"))
theorem Cls.get{K:ag}{C:eW}(c:Cls K C)(f:Str):PySem.W.plainGet K C f=true:=c.pg
noncomputable def r6(K:ag)(C:eW)(f:Str):Prop:=PySem.W.findIn K (.ref C) f=some none
theorem r6.taker{K:ag}{C:eW}{f:Str}(n:r6 K C f):PySem.W.takerIn K C f=some none:=by
 unfold PySem.W.takerIn;rw[show PySem.W.findIn K (.ref C) f=some none from n];rfl
structure Meth (K:ag) (C:eW) (m:Str) (f:eW):Prop where
 at_:PySem.W.findIn K (.ref C) m=some (some (.ref f))
 fn:PySem.W.isFn K (.ref f)=true
 kp:aD K (.ref f)=true
section
variable {X:Cx}{pins:List (Addr×Obj)}{σ:St}{H:Hp}{s:Shared}{a C dx:Addr}{fs:List (Str×V)}{f:Str}{v:V}{A:Around}{E:Value->Shared->Prop}
theorem aL4(I:Inv X pins σ H s)(e:H a=some (.ins C dx fs))(c:Cls X.K C)(n:r6 X.K C f)(l:fs.lookup f=some v)
  (h:∀u s',Inv X pins σ H s'->C5 v u->Q u s'):eD (eE X.prog X.w) A (getAttr (.ref a) f b) Q E s:=by
 obtain⟨mA,O,r,_,_,_⟩:=ah7 I.hok e;obtain⟨u,hu,ru⟩:=Y1.some_of (v:=v) (o:=mA f) (by rw[← l];exact r f);exact bL3 I.kIn O (c.get f) c.hd n hu (ba0 ru) (h u _ (I.tok _) ru)
theorem p6(I:Inv X pins σ H s)(e:H a=some (.ins C dx fs))(c:Cls X.K C)(k:Meth X.K C m g)(l:fs.lookup m=none)
  (h:Q (.ref g,[.ref a]) s):eD (eE X.prog X.w) A (getMethod (.ref a) m pl) Q E s:=by
 obtain⟨mA,O,r,_,_,_⟩:=ah7 I.hok e;have hn:mA m=none:=Y1.none_of (by rw[← l];exact r m);exact bt3 I.kIn O (c.get m) k.at_ k.fn hn h
theorem aI5(I:Inv X pins σ H s)(e:H a=some (.ins C dx fs))(c:Cls X.K C)(n:r6 X.K C f)(hl:fs.length < 1000)(ry:C5 y u)
  (h:∀s',Inv X pins σ (upd H a (.ins C dx (V0 f y fs))) s'->Q () s'):eD (eE X.prog X.w) A (setAttr (.ref a) f u) Q E s:=by
 obtain⟨mA,O,r,wi,_,ho⟩:=ah7 I.hok e;have hz:(fs.map (·.1)).length<=dP:=by rw[ak,dQ];omega
 refine bD5 I.kIn O c.sa c.po n.taker c.hd wi hz λh' O' sb=>h _ ?_
 have hd:∃o,h'.get? dx=some o:=let⟨o,_,_,e',_⟩:=O'.ns;⟨o,e'⟩
 refine I.write (x:=a) (e:=dx) (by rw[e];exact True.intro) (.inr ho) (λb q hb z=>(sb.2 b hb).trans z) hd ?_;refine⟨by rw[A9 O.ne];exact ho,?_,O.ne,O'.obj,_,O'.ns,λg=>?_,λg hg=>?_⟩
 ·have:=ae6 f y fs;omega
 ·show Y1 ((V0 f y fs).lookup g) (if g=f then some u else mA g);rw[ae4];by_cases q:g=f
  ·rw[if_pos q,if_pos q];exact ry
  ·rw[if_neg q,if_neg q];exact r g
 ·by_cases q:g=f
  ·rw[q];exact(ac3 f y fs).1
  ·refine(ac3 f y fs).2 g (wi g λz=>hg ?_);show(if g=f then some u else mA g)=none;rw[if_neg q];exact z
theorem Inv.made(I:Inv X pins σ H s):Inv X pins σ (upd (upd H s.heap.objs.size (.own (s.heap.objs.size+1))) (s.heap.objs.size+1) (.ins C s.heap.objs.size []))
  { s with heap:=(s.heap.push PySem.W.emptyDict).push (PySem.W.instObj C s.heap.objs.size) }:=by
 have e1:(s.heap.push PySem.W.emptyDict).get? s.heap.objs.size=some PySem.W.emptyDict:=eI s.heap rfl
 have e2:((s.heap.push PySem.W.emptyDict).push (PySem.W.instObj C s.heap.objs.size)).get? (s.heap.objs.size+1)=some (PySem.W.instObj C s.heap.objs.size):=by
  have:=eI (s.heap.push PySem.W.emptyDict) (o:=PySem.W.instObj C s.heap.objs.size) rfl
  rwa [Heap.size_push]at this
 have e3:(s.heap.push PySem.W.emptyDict).Ns s.heap.objs.size (λ_=>none):=⟨PySem.W.emptyDict,#[],_,e1,rfl,(λe he=>absurd he (by simp)),λ_=>rfl⟩;have I1:=I.laid (a:=s.heap.objs.size) (o:=.own (s.heap.objs.size+1)) (h':=s.heap.push PySem.W.emptyDict) (t':=s.toks) (λb u q=>eF _ q) (aj _) ⟨_,e1⟩;refine I1.laid (a:=s.heap.objs.size+1) (o:=.ins C s.heap.objs.size []) (t':=s.toks) (λb u q=>eF _ q) (Nat.le_of_eq (Heap.size_push _ _)) ?_;have ne:s.heap.objs.size≠s.heap.objs.size+1:=aK (cI _);refine⟨by rw[A9 ne,A7],aU _,ne,e2,λ_=>none,(Heap.Ns1.of_empty e3).at λo q=>eF _ q,λ_=>True.intro,λy hy=>absurd rfl hy⟩
theorem bN0(hb:eB e f env (eval e env)=eval e env)
  (h:eD (eE prog w) A (eval e env) (λo s₁=>eD (eE prog w) A (getAttr o f true) Q E s₁) E s):eD (eE prog w) A (eval (.Attribute e f pos) env) Q E s :=
 Attribute_any_ h (by rw[arm_eval_Attribute,hb])
end
noncomputable def cA4(K:ag)(ta:TE)(f:Str):TE:=λσ H Q=>ta σ H λx H1=>∃a C dx fs v,x=.ref a/\H1 a=some (.ins C dx fs)/\Cls K C/\r6 K C f/\fs.lookup f=some v/\Q v H1
noncomputable def cB4(K:ag)(ta tv:TE)(f:Str):TS:=λD σ H=>tv σ H λy H1=>ta σ H1 λx H2=>∃a C dx fs,x=.ref a/\H2 a=some (.ins C dx fs)/\Cls K C/\r6 K C f/\fs.length < 1000 /\
 D.nx σ (upd H2 a (.ins C dx (V0 f y fs)))
section
variable {X:Cx}{o e value:Expr}{f:Str}{pos pos' tpos:Pos}{ta tv:TE}
theorem cb0(he:PE X e ta)(hb:eB e f X.env (eval e X.env)=eval e X.env):PE X (.Attribute e f pos) (cA4 X.K ta f):=by
 intro pins s σ H Q I h;refine bN0 hb (thn (he pins s σ H _ I h) λu s1 ⟨x,H1,I1,rx,a,C,dx,fs,v,ex,ea,c,n,l,q⟩=>?_);subst ex;obtain rfl:u=eP a:=rx;exact aL4 I1 ea c n l λu' s2 I2 ru=>⟨v,H1,I2,ru,q⟩
theorem bi6(ha:PE X o ta)(hv:PE X value tv)(hs:swapsWith value (some (.Attribute o f pos')) pos.line X.env=pure false):PS X (.Assign [.Attribute o f pos'] value pos) (cB4 X.K ta tv f):=by
 intro pins s σ H D I h;refine plainObj_wpAny_Assign_Attribute (thn (hv pins s σ H _ I h) λu s1 ⟨y,H1,I1,ry,q⟩=>thn (ha pins s1 σ H1 _ I1 q) λov s2 ⟨x,H2,I2,rx,a,C,dx,fs,ex,ea,c,n,l,q2⟩=>?_) hs;subst ex;obtain rfl:ov=eP a:=rx;exact aI5 I2 ea c n l ry λs3 I3=>⟨σ,_,I3,q2⟩
theorem bQ0(he:PE X e te)(I:Inv X pins σ H s)
  (h:te σ H λx H1=>∃a C dx fs g,x=.ref a/\H1 a=some (.ins C dx fs)/\Cls X.K C/\Meth X.K C m g/\fs.lookup m=none /\
   ∀s1,Inv X pins σ H1 s1->eD (eE X.prog X.w) X.A (callWith pos (.ref g) [.ref a] (backTo pos (dO args X.env)) (backToKw pos (keywordEach [] X.env))) Q X.xe s1)
  (ht:eval (.Call (.Attribute e m apos) args [] pos) X.env=(do
   let ov ← eval e X.env
   standAt apos.atName
   let(f,first) ← holding [ov] (getMethod ov m pl)
   callWith pos f first (backTo pos (dO args X.env)) (backToKw pos (keywordEach [] X.env)))) :
  eD (eE X.prog X.w) X.A (eval (.Call (.Attribute e m apos) args [] pos) X.env) Q X.xe s:=by
 refine PySem.W.methodCall_KW (pl:=pl) (thn (he pins s σ H _ I h) λu s1 ⟨x,H1,I1,rx,a,C,dx,fs,g,ex,ea,c,k,l,q⟩=>?_) ht;subst ex;obtain rfl:u=eP a:=rx;exact p6 I1 ea c k l (q s1 I1)
end
end L2
namespace L2
open PySem PySem.Spec PyProof.Rows
structure Room (k:Nat) (A:dW):Prop where
 hd:A.handled=none
 dp:A.depth+3*k+5 < recursionLimit
 un:A.units+16*k+200 < cLine
theorem Room.mono(r:Room k A)(h:j<=k):Room j A:=⟨r.hd,by have:=r.dp;omega,by have:=r.un;omega⟩
theorem Room.deeper(r:Room (k+1) A)(env:Env):Room k (A.deeper env) :=
 ⟨r.hd,by have:=r.dp;show A.depth+1+3*k+5 < _;omega,by have:=r.un;show A.units+3+16*k+200 < _;omega⟩
theorem aJ8{A:dW}{C:eW}{us:List eU}{kw:List (Str×eU)}:(A.under (.builtin "type.__call__" ⟨.ref C::us,kw⟩)).depth=A.depth+1:=by
 first|rfl|simp[Around.under,Code.weight,Code.isCreation,Code.isGuard,Code.isCaller,Code.frames,Code.isFrame,guardIds]
theorem aJ7{A:dW}{C:eW}{us:List eU}{kw:List (Str×eU)}:(A.under (.builtin "type.__call__" ⟨.ref C::us,kw⟩)).units=A.units+1:=by
 first|rfl|simp[Around.under,Code.cUnits,Code.frames,Code.isFrame]
theorem Room.make(r:Room (k+1) A)(C:eW)(us:List eU)(kw:List (Str×eU)):Room k (A.under (.builtin "type.__call__" ⟨.ref C::us,kw⟩)) :=
 ⟨r.hd,by have:=r.dp;rw[aJ8];omega,by have:=r.un;rw[aJ7];omega⟩
theorem Room.depth(r:Room k A):A.depth < recursionLimit:=by have:=r.dp;omega
theorem Room.units(r:Room k A):A.units+64 < cLine:=by have:=r.un;omega
noncomputable def bC3:TA:=λ_ H Q=>Q [] H
noncomputable def cq6(ta:TE)(tr:TA):TA:=λσ H Q=>ta σ H λx H1=>tr σ H1 λxs H2=>Q (x::xs) H2
section
variable {X:Cx}{e:Expr}{es:List Expr}{te:TE}{t:TA}{pos:Pos}
theorem D3:PA X [] bC3:=λ_ _ _ _ H Q I h=>Calls.spliced_nil ⟨[],H,I,.nil,h⟩
theorem B6(ha:PE X e te)(hr:PA X es t)(hs:dO (e::es) X.env=(false,eval e X.env)::dO es X.env:=by rfl):PA X (e::es) (cq6 te t):=by
 intro pos pins s σ H Q I h;rw[hs];show eD _ _ (spliced ((false,eval e X.env)::backTo pos (dO es X.env))) _ _ s;refine Calls.spliced_cons (thn (ha pins s σ H _ I h) λu s1 ⟨x,H1,I1,r1,q1⟩=>?_);exact thn (hr pos pins s1 σ H1 _ I1 q1) λus s2 ⟨xs,H2,I2,r2,q2⟩=>⟨x::xs,H2,I2,.cons r1 r2,q2⟩
noncomputable def cz6(t:TA):TE:=λσ H Q=>t σ H λxs H1=>xs.length<=dP/\∀p,H1 p=none->Q (.ref p) (upd H1 p (.tup xs))
noncomputable def cA1(t:TA):TE:=λσ H Q=>t σ H λxs H1=>xs.length<=dP/\∀p,H1 p=none->Q (.ref p) (upd H1 p (.lst xs))
theorem aJ3{x1}(h:PA X es t):PE X (.Tuple es x1 pos) (cz6 t):=by
 intro pins s σ H Q I hq;refine wpAny_Tuple_spliced (thn (h pos pins s σ H _ I hq) λus s1 ⟨xs,H1,I1,r,z,q⟩=>⟨by rw[← r.length];exact z,?_⟩);have hf:H1 s1.heap.objs.size=none:=I1.hok.fresh (aj _);refine⟨.ref s1.heap.objs.size,upd H1 s1.heap.objs.size (.tup xs),I1.laid (t':=s1.toks) (λb u e=>eF _ e) (aj _) ?_,rfl,q _ hf⟩;exact⟨z,us,r,⟨_,eI _ rfl,rfl,⟨_,rfl⟩,rfl⟩⟩
theorem bj5(h:PA X es t):PE X (.List es pos) (cA1 t):=by
 intro pins s σ H Q I hq;refine wpAny_List_spliced (thn (h pos pins s σ H _ I hq) λus s1 ⟨xs,H1,I1,r,z,q⟩=>⟨by rw[← r.length];exact z,?_⟩);have hf:H1 s1.heap.objs.size=none:=I1.hok.fresh (aj _);refine⟨.ref s1.heap.objs.size,upd H1 s1.heap.objs.size (.lst xs),I1.laid (t':=s1.toks) (λb u e=>eF _ e) (aj _) ?_,rfl,q _ hf⟩;exact⟨z,us,0,r,eI _ rfl⟩
end
noncomputable abbrev Sp:=List V->Hp->VK->XK->Prop
noncomputable abbrev CXT:=List Env->Hp->eV->XK->eU->eV->Prop
structure Env0 (P:dU) (w:World) (K:ag) (mg:Str->Option eU) (base:Heap) (A:dW) (outer:List Env) (s:eV) (H:Hp):Prop where
 frames:A.frames=some outer
 mod:Mod K mg base
 bs:∀b o,base.get? b=some o->s.heap.get? b=some o/\H b=none
 bsz:base.objs.size<=s.heap.objs.size
 funs:s.heap.FunFrames base outer
 frf:∀b∈frs outer,H b=none
 hok:HOk P w H s.heap
 bare:AllBare s.gens
noncomputable def CE(outer:List Env)(P:dU)(w:World)(H:Hp)(s:eV)(Q:VK)(u:eU)(s':eV):Prop :=
 ∃v H',s'.os=s.os/\AllBare s'.gens/\Un (frs outer) [] H H' s.heap s'.heap/\HOk P w H' s'.heap/\C5 v u/\Q v H'
noncomputable def CR(CX:CXT)(outer:List Env)(P:dU)(w:World)(H:Hp)(s:eV)(Q:VK)(E:XK)(r:Result)(s':eV):Prop :=
 match r with
 | .ok (.ret u)=>CE outer P w H s Q u s'
 | .ok _=>False
 | .error e=>CX outer H s E e s'
structure FnOk (P:dU) (w:World) (K:ag) (mg:Str->Option eU) (base:Heap) (CX:CXT) (k:Nat) (f:eW) (fd:dX) (ps:List Str) (sp:Sp):Prop where
 len:∀vs H Q E,sp vs H Q E->vs.length=ps.length
 run:∀(A:dW) (outer:List Env) (s:eV) (H:Hp) (args:Args) (us:List eU) (vs:List V) (Q:VK) (E:XK),Room k A->Env0 P w K mg base A outer s H->BindsTo s fd args (ps.zip us)->C9 vs us->sp vs H Q E ->
  codeAny (eE P w) A (.call (.ref f) args) (CR CX outer P w H s Q E) s
theorem FnOk.mono{P:dU}{w:World}{K:ag}{mg:Str->Option eU}{base:Heap}{CX:CXT}{j k:Nat}{f:eW}{fd:dX}{ps:List Str}{sp:Sp}(F:FnOk P w K mg base CX j f fd ps sp)(h:j<=k):
  FnOk P w K mg base CX k f fd ps sp:=⟨F.len,λA outer s H args us vs Q E hr=>F.run A outer s H args us vs Q E (hr.mono h)⟩
theorem Env0.make{P:dU}{w:World}{K:ag}{mg:Str->Option eU}{base:Heap}{A:dW}{outer:List Env}{s:eV}{H:Hp}(e:Env0 P w K mg base A outer s H)(C:eW)(us:List eU)(kw:List (Str×eU)):
  Env0 P w K mg base (A.under (.builtin "type.__call__" ⟨.ref C::us,kw⟩)) outer s H:=⟨by first|exact e.frames|(simpa [Around.under,Code.envs,Code.isFrame,pushEnvs] using e.frames),e.mod,e.bs,e.bsz,e.funs,e.frf,e.hok,e.bare⟩
section
variable {X:Cx}{pins:List (Addr×Obj)}{σ:St}{H:Hp}{s s':Shared}
theorem Inv.env0(I:Inv X pins σ H s):Env0 X.prog X.w X.K X.mg X.base X.A X.stack s H :=
 ⟨I.ok.frames,I.ok.mod,I.bs,aM I.ok.bsz I.sz,I.stack,I.stkFree,I.hok,I.bare⟩
theorem Inv.after(I:Inv X pins σ H s)(h:CE X.stack X.prog X.w H s Q u s'):EP X pins σ Q u s':=by
 obtain⟨v,H',os,bare,un,hok,r,q⟩:=h;obtain⟨hh,g,d,t,os'⟩:=s';obtain rfl:os'=s.os:=os;exact⟨v,H',I.call (h':=hh) (g':=g) (d':=d) (t':=t) (ch:=[]) un hok bare (λb z=>absurd z (by simp)),r,q⟩
end
noncomputable def bO7(sp:Sp)(dvs:List V)(E:XK)(t:TA):TE:=λσ H Q=>t σ H λvs H1=>sp (vs++dvs) H1 Q E
noncomputable def bO5(C:eW)(m:Str)(sp:Sp)(dvs:List V)(E:XK)(ta:TE)(t:TA):TE:=λσ H Q=>ta σ H λx H1=>∃a dx fs,x=.ref a/\H1 a=some (.ins C dx fs)/\fs.lookup m=none /\
 t σ H1 λvs H2=>sp (x::(vs++dvs)) H2 Q E
noncomputable def bO6(C:eW)(sp:Sp)(dvs:List V)(E:XK)(t:TA):TE:=λσ H Q=>t σ H λvs H1=>∀x dx,H1 x=none->H1 dx=none->dx≠x ->
 sp (.ref x::(vs++dvs)) (upd (upd H1 dx (.own x)) x (.ins C dx [])) (λv H2=>v=.non/\Q (.ref x) H2) E
noncomputable def E8(K:ag)(fd:dX)(ps:List Str)(ds:List eU):Prop :=
 ∀(s:eV) (us:List eU),K.In s.heap->(us++ds).length=ps.length->BindsTo s fd ⟨us,[]⟩ (ps.zip (us++ds))
theorem E8.all{K:ag}{fd:dX}{ps:List Str}(h:∀us:List eU,us.length=ps.length->bindArgs fd ⟨us,[]⟩=pure (ps.zip us)):E8 K fd ps []:=λs us _ hl=>by
 rw[aw]at hl ⊢;exact .of_eq (h us hl)
noncomputable def U8(CX:CXT)(X:Cx)(E:XK):Prop:=∀(pins:List (eW×Obj)) (σ:St) (H:Hp) (s:eV) (e:eU) (s':eV),Inv X pins σ H s->CX X.stack H s E e s'->X.xe e s'
section
variable {X:Cx}{CX:CXT}{k:Nat}{f C:Addr}{fd:FuncData}{ps:List Str}{sp:Sp}{dvs:List V}{ds:List Value}{E:XK}{x m:Str}{p pos apos:Pos}{e o:Expr}{es:List Expr}{ta:TE}{t:TA}
theorem at8(F:FnOk X.prog X.w X.K X.mg X.base CX k f fd ps sp)(hr:Room k X.A)(hb:E8 X.K fd ps ds)(hd:C9 dvs ds)(hx:U8 CX X E)
  (I:Inv X pins σ H s) (r:C9 vs us) (h:sp (vs++dvs) H Q E):eD (eE X.prog X.w) X.A (call (.ref f) us) (EP X pins σ Q) X.xe s:=by
 have r2:C9 (vs++dvs) (us++ds):=r.append hd;have hl:(us++ds).length=ps.length:=by rw[← r2.length];exact F.len _ _ _ _ h
 refine wpAny_call (codeAny_mono (F.run X.A X.stack s H ⟨us,[]⟩ (us++ds) (vs++dvs) Q E hr I.env0 (hb s us I.kIn hl) r2 h) λr s' hq=>?_);cases r with
 | error e=>exact hx pins σ H s e s' I hq
 | ok fl =>
  cases fl with
  | ret u=>exact I.after hq
  | next=>exact False.elim hq
  | brk=>exact False.elim hq
  | cont=>exact False.elim hq
theorem i9(F:FnOk X.prog X.w X.K X.mg X.base CX k f fd ps sp)(hr:Room k X.A)(hg:Gl X x)(hm:X.mg x=some (.ref f))(hk:aD X.K (.ref f)=true)(hb:E8 X.K fd ps ds)(hd:C9 dvs ds)(hx:U8 CX X E)
  (ha:PA X (e::es) t) (hdb:(x==("__debug__" : Str))=false:=by decide) (he:dO (e::es) X.env=(false,eval e X.env)::dO es X.env:=by rfl) (hpl:(backTo pos (dO es X.env)).any (·.1)=false:=by rfl) :
  PE X (.Call (.Name x p) (e::es) [] pos) (bO7 sp dvs E t):=by
 intro pins s σ H Q I h;refine wpAny_Call_Name_kw (O7 I hg hm ?_ hdb);refine PySem.W.callWith_K (h₀:=X.base) I.ok.mod.kin hk (thn (ha pos pins s σ H _ I h) λus s1 ⟨vs,H1,I1,r,q⟩=>⟨I1.kIn,?_⟩) he hpl;exact at8 F hr hb hd hx I1 r q
theorem bk2(F:FnOk X.prog X.w X.K X.mg X.base CX k f fd ps sp)(hr:Room k X.A)(hg:Gl X x)(hm:X.mg x=some (.ref f))(hk:aD X.K (.ref f)=true)(hb:E8 X.K fd ps ds)(hd:C9 dvs ds)(hx:U8 CX X E)
  (hdb:(x==("__debug__" : Str))=false:=by decide):PE X (.Call (.Name x p) [] [] pos) (bO7 sp dvs E bC3):=by
 intro pins s σ H Q I h;refine wpAny_Call_Name_kw (O7 I hg hm ?_ hdb);exact PySem.W.callWith_K0 I.kIn hk (at8 (us:=[]) F hr hb hd hx I .nil h)
theorem aR3(he:PE X o ta)(c:Cls X.K C)(hm:Meth X.K C m f)(F:FnOk X.prog X.w X.K X.mg X.base CX k f fd ps sp)(hr:Room k X.A)(hb:E8 X.K fd ps ds)(hd:C9 dvs ds)(hx:U8 CX X E)(ha:PA X (e::es) t)
  (hst:dO (e::es) X.env=(false,eval e X.env)::dO es X.env:=by rfl) (hpl:(backTo pos (dO es X.env)).any (·.1)=false:=by rfl)
  (ht:eval (.Call (.Attribute o m apos) (e::es) [] pos) X.env=(do
   let ov ← eval o X.env
   standAt apos.atName
   let(f,first) ← holding [ov] (getMethod ov m pl)
   callWith pos f first (backTo pos (dO (e::es) X.env)) (backToKw pos (keywordEach [] X.env))):=by rfl) :
  PE X (.Call (.Attribute o m apos) (e::es) [] pos) (bO5 C m sp dvs E ta t):=by
 intro pins s σ H Q I h;refine PySem.W.methodCall_KW (pl:=pl) (thn (he pins s σ H _ I h) λu s1 ⟨x,H1,I1,rx,a,dx,fs,ex,ea,l,q⟩=>?_) ht;subst ex;obtain rfl:u=eP a:=rx;refine p6 I1 ea c hm l ?_;refine PySem.W.callWith_K (first:=[.ref a]) (h₀:=X.base) I.ok.mod.kin hm.kp (thn (ha pos pins s1 σ H1 _ I1 q) λus s2 ⟨vs,H2,I2,r,q2⟩=>⟨I2.kIn,?_⟩) hst hpl;exact at8 (us:=.ref a::us) (vs:=.ref a::vs) F hr hb hd hx I2 (.cons rfl r) q2
theorem aC0(he:PE X o ta)(c:Cls X.K C)(hm:Meth X.K C m f)(F:FnOk X.prog X.w X.K X.mg X.base CX k f fd ps sp)(hr:Room k X.A)(hb:E8 X.K fd ps ds)(hd:C9 dvs ds)(hx:U8 CX X E)
  (ht:eval (.Call (.Attribute o m apos) [] [] pos) X.env=(do
   let ov ← eval o X.env
   standAt apos.atName
   let(f,first) ← holding [ov] (getMethod ov m pl)
   callWith pos f first (backTo pos (dO [] X.env)) (backToKw pos (keywordEach [] X.env))):=by rfl) :
  PE X (.Call (.Attribute o m apos) [] [] pos) (bO5 C m sp dvs E ta bC3):=by
 intro pins s σ H Q I h;refine PySem.W.methodCall_KW (pl:=pl) (thn (he pins s σ H _ I h) λu s1 ⟨x,H1,I1,rx,a,dx,fs,ex,ea,l,q⟩=>?_) ht;subst ex;obtain rfl:u=eP a:=rx;refine p6 I1 ea c hm l ?_;exact PySem.W.callWith_K0 (first:=[.ref a]) I1.kIn hm.kp (at8 (us:=[.ref a]) (vs:=[.ref a]) F hr hb hd hx I1 (.cons rfl .nil) q)
structure Mk (K:ag) (C f:eW):Prop where
 makes:PySem.W.makesIn K C=true
 init:PySem.W.findIn K (.ref C) "__init__" = some (some (.ref f))
 fn:PySem.W.isFn K (.ref f)=true
 kp:aD K (.ref C)=true
theorem aB5(M:Mk X.K C f)(F:FnOk X.prog X.w X.K X.mg X.base CX k f fd ps sp)(hr:Room (k+1) X.A)(hb:E8 X.K fd ps ds)(hd:C9 dvs ds)
  (hx:U8 CX X E) (I:Inv X pins σ H s) (r:C9 vs us)
  (h:∀x dx,H x=none->H dx=none->dx≠x->sp (.ref x::(vs++dvs)) (upd (upd H dx (.own x)) x (.ins C dx [])) (λv H2=>v=.non/\Q (.ref x) H2) E) :
  eD (eE X.prog X.w) X.A (call (.ref C) us) (EP X pins σ Q) X.xe s:=by
 have hq:=h (s.heap.objs.size+1) s.heap.objs.size (I.hok.fresh (ci _)) (I.hok.fresh (aj _)) (aK (cI _));have I2:=Inv.made (C:=C) I;have r2:C9 (V.ref (s.heap.objs.size+1)::(vs++dvs)) (eP (s.heap.objs.size+1)::(us++ds)):=.cons rfl (r.append hd)
 have hl:(eP (s.heap.objs.size+1)::us++ds).length=ps.length:=by
  have e:=r2.length;rw[F.len _ _ _ _ hq]at e;exact e.symm
 refine wpAny_call (bn4 (f:=f) I.kIn M.makes M.init (beq_iff_eq.mp M.fn) (codeAny_mono (F.run _ X.stack _ _ ⟨eP (s.heap.objs.size+1)::us,[]⟩ (eP (s.heap.objs.size+1)::(us++ds)) _ _ E (hr.make C us [])
  (I2.env0.make C us []) (hb _ (eP (s.heap.objs.size+1)::us) I2.kIn hl) r2 hq) λr s' hq'=>?_))
 cases r with
 | error e=>exact hx pins σ _ _ e s' I2 hq'
 | ok fl =>
  cases fl with
  | ret u =>
   obtain⟨v,H',I3,rv,ev,q3⟩:=I2.after hq';subst ev;exact⟨rv,⟨V.ref (s.heap.objs.size+1),H',I3,rfl,q3⟩⟩
  | next=>exact False.elim hq'
  | brk=>exact False.elim hq'
  | cont=>exact False.elim hq'
theorem bG1(M:Mk X.K C f)(F:FnOk X.prog X.w X.K X.mg X.base CX k f fd ps sp)(hr:Room (k+1) X.A)(hg:Gl X x)(hm:X.mg x=some (.ref C))(hb:E8 X.K fd ps ds)(hd:C9 dvs ds)(hx:U8 CX X E)
  (ha:PA X (e::es) t) (hdb:(x==("__debug__" : Str))=false:=by decide) (he:dO (e::es) X.env=(false,eval e X.env)::dO es X.env:=by rfl) (hpl:(backTo pos (dO es X.env)).any (·.1)=false:=by rfl) :
  PE X (.Call (.Name x p) (e::es) [] pos) (bO6 C sp dvs E t):=by
 intro pins s σ H Q I h;refine wpAny_Call_Name_kw (O7 I hg hm ?_ hdb);refine PySem.W.callWith_K (h₀:=X.base) I.ok.mod.kin M.kp (thn (ha pos pins s σ H _ I h) λus s1 ⟨vs,H1,I1,r,q⟩=>⟨I1.kIn,?_⟩) he hpl;exact aB5 M F hr hb hd hx I1 r q
theorem bj4(M:Mk X.K C f)(F:FnOk X.prog X.w X.K X.mg X.base CX k f fd ps sp)(hr:Room (k+1) X.A)(hg:Gl X x)(hm:X.mg x=some (.ref C))(hb:E8 X.K fd ps ds)(hd:C9 dvs ds)(hx:U8 CX X E)
  (hdb:(x==("__debug__" : Str))=false:=by decide):PE X (.Call (.Name x p) [] [] pos) (bO6 C sp dvs E bC3):=by
 intro pins s σ H Q I h;refine wpAny_Call_Name_kw (O7 I hg hm ?_ hdb);exact PySem.W.callWith_K0 I.kIn M.kp (aB5 (us:=[]) M F hr hb hd hx I .nil h)
end
structure FnScope (N P:List Str) (sc:Scope):Prop where
 kind:sc.kind=.function
 co:sc.isCoroutine=false
 gen:sc.isGenerator=false
 nd:N.Nodup
 pre:N.take P.length=P
 par:∀x∈P,sc.names.lookup x=some .local\/sc.names.lookup x=some .cell
 nofree:∀y∈sc.names,y.2≠.free
theorem ar8{kindOf:Str->Option NameKind}{x:Str}:∀{binds:List (Str×eU)}{m:Str->Option eU},(∀v,(x,v)∉binds)->bindL kindOf binds m x=m x
 | [],_,_=>rfl
 | (n,v)::r,m,h=>by
  unfold bindL;rw[ar8 λw hw=>h w (ai _ hw)];split
  ·have:x≠n:=by rintro rfl;exact h v bC
   simp[this]
  ·rfl
theorem ar9{kindOf:Str->Option NameKind}{x:Str}:∀{binds:List (Str×eU)}{m:Str->Option eU},(∀v,(x,v)∉binds)->bindC kindOf binds m x=m x
 | [],_,_=>rfl
 | (n,v)::r,m,h=>by
  unfold bindC;rw[ar9 λw hw=>h w (ai _ hw)];split
  ·rfl
  ·have:x≠n:=by rintro rfl;exact h v bC
   simp[this]
theorem ad3{kindOf:Str->Option NameKind}{x:Str}{v:eU}:∀{P:List Str}{vs:List eU}{i:Nat}{m:Str->Option eU},P.Nodup->P[i]? = some x->vs[i]? = some v->kindOf x=some .local ->
  bindL kindOf (P.zip vs) m x=some v
 | [],_,_,_,_,h,_,_=>by simp at h
 | _::_,[],_,_,_,_,h,_=>by simp at h
 | p::P,w::vs,0,m,nd,h1,h2,hk=>by
  simp at h1 h2;subst h1;subst h2;show bindL kindOf ((p,w)::P.zip vs) m p=_;unfold bindL;rw[ar8 λv hv=>(cg.mp nd).1 (cP hv).1,if_pos hk];simp
 | p::P,w::vs,i+1,m,nd,h1,h2,hk=>by
  show bindL kindOf ((p,w)::P.zip vs) m x=_;unfold bindL;exact ad3 (i:=i) (cg.mp nd).2 (by simpa using h1) (by simpa using h2) hk
theorem ad4{kindOf:Str->Option NameKind}{x:Str}{v:eU}:∀{P:List Str}{vs:List eU}{i:Nat}{m:Str->Option eU},P.Nodup->P[i]? = some x->vs[i]? = some v->kindOf x≠some .local ->
  bindC kindOf (P.zip vs) m x=some v
 | [],_,_,_,_,h,_,_=>by simp at h
 | _::_,[],_,_,_,_,h,_=>by simp at h
 | p::P,w::vs,0,m,nd,h1,h2,hk=>by
  simp at h1 h2;subst h1;subst h2;show bindC kindOf ((p,w)::P.zip vs) m p=_;unfold bindC;rw[ar9 λv hv=>(cg.mp nd).1 (cP hv).1,if_neg hk];simp
 | p::P,w::vs,i+1,m,nd,h1,h2,hk=>by
  show bindC kindOf ((p,w)::P.zip vs) m x=_;unfold bindC;exact ad4 (i:=i) (cg.mp nd).2 (by simpa using h1) (by simpa using h2) hk
noncomputable def start(N:List Str)(vs:List V):St:=vs.map some++au (N.length - vs.length) none
noncomputable def ay1(CX:CXT)(P:dU)(w:World)(K:ag)(mg:Str->Option eU)(base:Heap)(N:List Str)(qual:Str)(scope:Scope)(f:eW)(cd:eU)(A:dW)(outer:List Env)(s:eV)(H:Hp)(E:XK):Cx where
 prog:=P
 w:=w
 K:=K
 mg:=mg
 base:=base
 A:=A.deeper (envOfC qual scope s.heap.objs.size f cd)
 N:=N
 s₀:=s
 H₀:=H
 env:=envOfC qual scope s.heap.objs.size f cd
 outer:=outer
 stack:=envOfC qual scope s.heap.objs.size f cd::outer
 ex:=[]
 calm:=true
 fn:=λ_=>true
 pn:=[]
 xe:=λe s'=>eD (eE P w) (A.deeper (envOfC qual scope s.heap.objs.size f cd)) (leaving (envOfC qual scope s.heap.objs.size f cd) e) (λ_ s''=>CX outer H s E e s'') (λe' s''=>CX outer H s E e' s'') s'
theorem aa7{sc:Scope}{n:Nat}{x:Str}(h:sc.names.lookup x=some .cell):∃c,(cellsFrom n sc.names []).lookup x=some c:=by
 have q:=PySem.W.cellsFrom_some sc.names n [] (.inl h);exact dj.mp q
theorem aZ8{CX:CXT}{P:dU}{w:World}{K:ag}{mg:Str->Option eU}{base:Heap}{N ps:List Str}{qual:Str}{scope:Scope}{f:eW}{cd:eU}{A:dW}{outer:List Env}{s s1:eV}{H:Hp}{E:XK}{us:List eU}{vs:List V}
  (S:FnScope N ps scope) (hd:A.handled=none) (e0:Env0 P w K mg base A outer s H) (hl:vs.length=ps.length) (r:C9 vs us)
  (x:InCallC s s.heap.objs.size (bindL (envOfC qual scope s.heap.objs.size f cd).kindOf (ps.zip us) λ_=>none) (cellsFrom (s.heap.objs.size+1) scope.names []) (bindC (envOfC qual scope s.heap.objs.size f cd).kindOf (ps.zip us) λ_=>none) s1) :
  Inv (ay1 CX P w K mg base N qual scope f cd A outer s H E) [] (start N vs) H s1:=by
 have hpl:ps.length<=N.length:=by have:=congrArg cZ S.pre;rw[bI]at this;omega
 obtain⟨h1,tk,rfl,hk⟩:=x.done;have noA:∀b:eW,b∉(ay1 CX P w K mg base N qual scope f cd A outer s H E).ex:=λb z=>absurd (show b∈([]:List eW) from z) (by simp)
 refine⟨⟨e0.mod,S.kind,rfl,rfl,aj _,λy z c h1 h2=>?_,λy hy=>?_,λy c _ h=>?_,λ_=>hd,Around.frames_deeper e0.frames,.inr ⟨rfl,rfl⟩,λb z=>absurd z (noA b),e0.bs,e0.bsz,λb _ _=>noA b,λb z=>absurd z (noA b),e0.funs,e0.frf⟩,
  rfl,e0.bare,Un.kept hk,⟨_,x.toInCall.ns,λi y v h1 h2 h3=>?_⟩,λy c h=>⟨_,x.cell y c h⟩,e0.hok.fresh (aj _),λy c h=>?_,λp hp=>absurd (show p∈([]:List (eW×Obj)) from hp) (by simp),e0.hok.kept hk,?_⟩
 ·exact name_of_addr x.apart (PySem.mem_of_lookup h1) (PySem.mem_of_lookup h2)
 ·have hy:scope.names.lookup y=some .cell\/scope.names.lookup y=some .free:=hy;rcases hy with hy|hy
  ·exact aa7 hy
  ·exact absurd rfl (S.nofree _ (PySem.mem_of_lookup hy))
 ·exact bG (x.above y c (PySem.mem_of_lookup h))
 ·have hi:i < vs.length:=by
   unfold start at h2;by_cases hi:i < vs.length
   ·exact hi
   ·rw[aq (by simpa using hi)]at h2;rw[aY]at h2;split at h2<;>cases h2
  have ha:vs[i]? = some v:=by
   unfold start at h2;rw[az (by simpa using hi),aF]at h2;cases e:vs[i]? with
   | none=>rw[e]at h2;cases h2
   | some a=>rw[e]at h2;cases h2;rfl
  obtain⟨u,hu,rv⟩:=r.get ha
  have hp:ps[i]? = some y:=by
   rw[← S.pre,dk (by omega)];exact h1
  have ndP:ps.Nodup:=by rw[← S.pre];exact S.nd.sublist (List.take_sublist _ _)
  refine⟨u,rv,?_⟩;rcases S.par y (bM hp) with k|k
  ·exact .inl ⟨k,ad3 ndP hp hu k⟩
  ·obtain⟨c,e⟩:=aa7 (n:=s.heap.objs.size+1) k;refine .inr ⟨.inl k,c,e,?_⟩;have q:=x.cell y c e;rw[ad4 ndP hp hu (by show scope.names.lookup y≠_;rw[k];decide)]at q;exact q
 ·exact e0.hok.fresh (bG (x.above y c (PySem.mem_of_lookup h)))
 ·unfold start;show _=N.length;rw[aG,ak,bA];omega
theorem ar2{CX:CXT}{P:dU}{w:World}{K:ag}{mg:Str->Option eU}{base:Heap}{k:Nat}{f:eW}{name qual:Str}{params:Arguments}{body:List Stmt}{scope:Scope}{dV kV doc pm cdv ct oc:eU}{an od:Option eW}
  {osl:Array (Option eU)}{N ps:List Str}{sp:Sp}(lk:K.lookup f=some ⟨oc,od,.func (bx name qual params body scope dV kV doc pm an cdv ct),osl⟩) (hcd:bZ K cdv qual=true) (S:FnScope N ps scope)
  (len:∀vs H Q E,sp vs H Q E->vs.length=ps.length)
  (hbody:∀(A:dW) (outer:List Env) (s:eV) (H:Hp) (vs:List V) (Q:VK) (E:XK),Room k (A.deeper (envOfC qual scope s.heap.objs.size f cdv))->sp vs H Q E ->
   ∃t,PSs (ay1 CX P w K mg base N qual scope f cdv A outer s H E) body t/\t { nx:=λ_ H'=>Q .non H',rt:=Q } (start N vs) H) :
  FnOk P w K mg base CX (k+1) f (bx name qual params body scope dV kV doc pm an cdv ct) ps sp:=by
 refine⟨len,λA outer s H args us vs Q E hr e0 hb r hsp=>?_⟩;have hl:=len _ _ _ _ hsp;have KX:K.In s.heap:=e0.mod.kin.keeps λb o e=>(e0.bs b o e).1
 have lim:s.heap.NoLimit:=e0.mod.nolimit.keeps λb o e=>(e0.bs b o e).1
 have hkind:∀y∈ps.zip us,scope.names.lookup y.1=some .local\/(scope.names.lookup y.1=some .cell/\((cellsFrom (s.heap.objs.size+1) scope.names []).lookup y.1).isSome=true):=λ⟨n,v⟩ hy=>by
  rcases S.par n (cP hy).1 with q|q
  ·exact .inl q
  ·exact .inr ⟨q,PySem.W.cellsFrom_some _ _ _ (.inl q)⟩
 refine codeAny_call_function hr.depth (KX _ _ lk) rfl S.co S.gen rfl (PySem.W.codeRec_of KX hcd) (hb _ _ _ _ ?_);refine wpAny_newFunctionEnv_cells S.kind hkind λenv he s1 x=>?_
 subst he;refine⟨lim.keeps x.toInCall.keep,codeAny_func ?_⟩;obtain⟨t,ht,hq⟩:=hbody A outer s H vs Q E (hr.deeper _) hsp;have I:Inv (ay1 CX P w K mg base N qual scope f cdv A outer s H E) [] (start N vs) H s1:=aZ8 S hr.hd e0 hl r x;refine dJ (ht [] s1 (start N vs) H _ I hq) (λfl s' hs=>?_) λe s' hs=>hs
 have fin:∀{σ':St}{H':Hp}{v:V}{u:eU},Inv (ay1 CX P w K mg base N qual scope f cdv A outer s H E) [] σ' H' s'->C5 v u->Q v H'->CE outer P w H s Q u s' :=
  λ{σ' H' v u} J rv q=>⟨v,H',J.os,J.bare,J.base,J.hok,rv,q⟩
 cases fl with
 | ret u =>
  obtain⟨v,σ',H',J,rv,q⟩:=hs;exact fin J rv q
 | next =>
  obtain⟨σ',H',J,q⟩:=hs;exact fin (v:=V.non) (u:=eQ) J rfl q
 | brk =>
  obtain⟨_,_,_,q⟩:=hs;exact False.elim q
 | cont =>
  obtain⟨_,_,_,q⟩:=hs;exact False.elim q
end L2
namespace L2
open PySem PySem.Spec PyProof.Rows
section
variable {X:Cx}{x:Str}{p pos:Pos}{e:Expr}{es:List Expr}{t:TA}{id T:String}{r:List V->Hp->VK->Prop}
noncomputable def tCB(r:List V->Hp->VK->Prop)(t:TA):TE:=λσ H Q=>t σ H λvs H1=>r vs H1 Q
theorem J1(hc:Q5 X (.builtin id) r)(hg:Gl X x)(hm:X.mg x=none)(hv:dY x=some (.builtin id))(ha:PA X (e::es) t)(hn:x ≠ "__name__" := by decide)(hdb:(x==("__debug__" : Str))=false:=by decide)
  (he:dO (e::es) X.env=(false,eval e X.env)::dO es X.env:=by rfl) (hpl:(backTo pos (dO es X.env)).any (·.1)=false:=by rfl):PE X (.Call (.Name x p) (e::es) [] pos) (tCB r t):=by
 intro pins s σ H Q I h;refine wpAny_Call_Name_kw (ac2 I hg hm hv ?_ hn hdb);exact PyProof.Rows.callWith_builtin1 (thn (ha pos pins s σ H _ I h) λus s1 ⟨vs,H1,I1,r1,q1⟩=>hc pins s1 σ H1 vs us Q I1 r1 q1) he hpl
theorem R8(hc:Q5 X (.type T) r)(hg:Gl X x)(hm:X.mg x=none)(hv:dY x=some (.type T))(ha:PA X (e::es) t)(hn:x ≠ "__name__" := by decide)(hdb:(x==("__debug__" : Str))=false:=by decide)
  (he:dO (e::es) X.env=(false,eval e X.env)::dO es X.env:=by rfl) (hpl:(backTo pos (dO es X.env)).any (·.1)=false:=by rfl):PE X (.Call (.Name x p) (e::es) [] pos) (tCB r t):=by
 intro pins s σ H Q I h;refine wpAny_Call_Name_kw (ac2 I hg hm hv ?_ hn hdb);exact PyProof.Rows.callWith_type1 (thn (ha pos pins s σ H _ I h) λus s1 ⟨vs,H1,I1,r1,q1⟩=>hc pins s1 σ H1 vs us Q I1 r1 q1) he hpl
end
end L2
namespace HT
open PySem PyProof.Rows
section
variable {prog:Program}{w:World}{A:Around}{E:Value->Shared->Prop}{s:Shared}
theorem cat_tup(ht:IsTup s.heap t vs.toArray)(hb:IsTup s.heap b ws.toArray)(hv:vs≠[])
  (h1:ws=[]->Q (.ref t) s) (h2:ws≠[]->Q (.ref s.heap.objs.size) { s with heap:=s.heap.push { cls:=.type "tuple", data:=.seq (vs++ws).toArray } })
  (hsz:vs.length+ws.length<=dP):eD (eE prog w) A (dZ .Add (.ref t) (.ref b)) Q E s:=by
 obtain⟨⟨cls,dd,data,sl⟩,ho,hc,n,hd⟩:=id ht;obtain⟨⟨cls2,dd2,data2,sl2⟩,ho2,hc2,n2,hd2⟩:=id hb;simp only at hc hd hc2 hd2;subst hc hd hc2 hd2;have e:vs.toArray++ws.toArray=(vs++ws).toArray:=by simp
 by_cases hw:ws=[]
 ·exact concat_meets ⟨_,ho,rfl⟩ ⟨_,ho2,rfl⟩ noFill_tuple_add seq_tuple_add PySem.F.slot_tuple_add PySem.F.entry_tuple_add (PySem.F.args_tuple_add_2 _ _)
   (tuple_addW1 t b vs.toArray ws.toArray n n2 dd dd2 sl sl2 (by simpa using hv) (by simp[hw])) ⟨ho,ho2,h1 hw⟩
 ·refine concat_meets ⟨_,ho,rfl⟩ ⟨_,ho2,rfl⟩ noFill_tuple_add seq_tuple_add PySem.F.slot_tuple_add PySem.F.entry_tuple_add (PySem.F.args_tuple_add_2 _ _)
   (tuple_addW2 t b vs.toArray ws.toArray n n2 dd dd2 sl sl2 (by simpa using hv) (by simpa using hw) (by rw[av,av];exact hsz)) ⟨ho,ho2,?_⟩
  rw[e];exact h2 hw
noncomputable def sIx(n d:Nat):Option Int->Nat
 | none=>d
 | some v=>if v < 0 then(v+(n:Int)).toNat else min v.toNat n
theorem bY7(n d:Nat)(hd:d<=n)(o:Option Int):sIx n d o<=n:=by
 cases o with
 | none=>exact hd
 | some v =>
  show(if v < 0 then(v+(n:Int)).toNat else min v.toNat n)<=n;by_cases hv:v < 0
  ·rw[if_pos hv];omega
  ·rw[if_neg hv];exact dl _ _
theorem aV6(v:Int)(n d:Nat):(if v < 0 then max (v+(n:Int)) 0 else min v (n:Int))=((sIx n d (some v):Nat):Int):=by
 show(if v < 0 then max (v+(n:Int)) 0 else min v (n:Int))=(((if v < 0 then(v+(n:Int)).toNat else min v.toNat n):Nat):Int);by_cases hv:v < 0
 ·simp only[if_pos hv];omega
 ·simp only[if_neg hv];omega
theorem aN3(lo hi:Option Int)(n:Nat):Builtin.Slice.sliceAdjust lo hi 1 (n:Int)=(((sIx n 0 lo:Nat):Int),((sIx n n hi:Nat):Int)):=by
 have h1:¬((1:Int) < 0):=by omega
 unfold Builtin.Slice.sliceAdjust;simp only[h1,if_false];refine Prod.ext ?_ ?_
 ·cases lo with
  | none=>rfl
  | some v=>exact aV6 v n 0
 ·cases hi with
  | none=>rfl
  | some v=>exact aV6 v n n
theorem aJ2(i j:Nat):Builtin.Slice.slicePlaces (i:Int) (j:Int) 1=j - i:=by
 unfold Builtin.Slice.slicePlaces;have h1:(1:Int) > 0:=by omega
 simp only[h1,if_true,Int.ediv_one];split<;>omega
theorem aj4(p:IsPart v o)(h:Q o s):eD (eE prog w) A (Builtin.Slice.slicePartIndex v) Q E s:=by
 cases p with
 | none=>exact slicePart_none h
 | int i t=>exact slicePart_int h
theorem sliceApplied_gen{sl:eW}{vl vu:eU}{lo hi:Option Int}{n:Nat}{Q:Int×Int×Nat->eV->Prop}(hs:s.heap.IsSliceOf sl vl vu .none)(pl:IsPart vl lo)(pu:IsPart vu hi)
  (h:Q (((sIx n 0 lo:Nat):Int),1,sIx n n hi - sIx n 0 lo) s):eD (eE prog w) A (Builtin.Slice.sliceApplied (.ref sl) (pure (n:Int))) Q E s:=by
 obtain⟨os,hos,hcs,hds⟩:=id hs;unfold Builtin.Slice.sliceApplied Builtin.Slice.sliceFields;refine dH (dH (dN hos hds (x:=vl) rfl (dH (dN hos hds (x:=vu) rfl (dH (dN hos hds (x:=.none) rfl (dI ?_)))))));refine dH (slicePart_none ?_);show eD _ _ (if((1:Int)==0)=true then _ else _) _ _ s;rw[if_neg (by decide)];refine dH (aj4 pl (dH (aj4 pu (dH (dI ?_)))));show eD _ _ (match Builtin.Slice.sliceAdjust lo hi 1 (n:Int) with|(lo,hi)=>pure (lo,(1:Int),Builtin.Slice.slicePlaces lo hi 1)) _ _ s;rw[aN3 lo hi n];show eD _ _ (pure (((sIx n 0 lo:Nat):Int),(1:Int),Builtin.Slice.slicePlaces ((sIx n 0 lo:Nat):Int) ((sIx n n hi:Nat):Int) 1)) _ _ s;rw[aJ2];exact dI h
theorem bj1(xs:Array eU)(i k:Nat):((aZ k).filterMap λ(m:Nat)=>xs[((i:Int)+(m:Int)*1).toNat]?).toArray=((xs.toList.drop i).take k).toArray:=by
 have e:(λ(m:Nat)=>xs[((i:Int)+(m:Int)*1).toNat]?)=λm=>xs[i+m]?:=by
  funext m
  have:((i:Int)+(m:Int)*1).toNat=i+m:=by omega
  rw[this]
 rw[e];have:=pick_run xs i k;rw[List.filterMap_map]at this;have e2:((λx=>xs[x]?) ∘ λx=>i+x)=λm=>xs[i+m]?:=rfl
 rw[e2]at this;rw[this]
theorem getItem_tuple_cut{t sl:eW}{items:Array eU}{vl vu:eU}{lo hi:Option Int}{Q:eU->eV->Prop}(ht:IsTup s.heap t items)(hs:s.heap.IsSliceOf sl vl vu .none)(pl:IsPart vl lo)(pu:IsPart vu hi)
  (hw:¬(sIx items.size 0 lo=0/\sIx items.size items.size hi=items.size))
  (h:Q (.ref s.heap.objs.size) { s with heap:=s.heap.push { cls:=.type "tuple", data:=.seq ((items.toList.drop (sIx items.size 0 lo)).take (sIx items.size items.size hi - sIx items.size 0 lo)).toArray } })
  (hsz:items.size<=dP):eD (eE prog w) A (getItem (.ref t) (.ref sl)) Q E s:=by
 have htake:sizeOk (.seq ((items.toList.drop (sIx items.size 0 lo)).take (sIx items.size items.size hi - sIx items.size 0 lo)).toArray):=by
  show((items.toList.drop (sIx items.size 0 lo)).take (sIx items.size items.size hi - sIx items.size 0 lo)).toArray.size<=dP;rw[av,bI,cb,bj];omega
 have hj:sIx items.size items.size hi<=items.size:=bY7 _ _ (aj _) hi;obtain⟨os,hos,hcs,hds⟩:=id hs;have hTs:s.TypeIs (.ref sl) "slice" := ⟨os,hos,hcs⟩;unfold getItem
 try with_reducible refine wpAny_holding ?_
 first|refine dH (dI ?_)|skip
 refine dH (wpAny_sequenceKey ht.typeIs (by decide) ?_)
 refine dH (wpAny_callSpecial?_slot (name:=Str.ofString "__getitem__") ht.typeIs PyProof.Rows.slot_tuple_getitem
  (wpAny_call_entry PyProof.Rows.slot_tuple_getitem ht.typeIs entry_tuple_getitem ?_ (args_tuple_getitem _ _)))
 show eD _ _ (Builtin.Tuple.tupleItemsOf (.ref t) >>= _) _ _ s;refine dH (tupleItemsOf_ ht ?_);refine dH (wpAny_typeOf hTs ?_);rw[if_pos (by decide)];refine dH (sliceApplied_gen hs pl pu ?_)
 have hno:¬((((sIx items.size 0 lo:Nat):Int)==0&&(1:Int)==1&&(sIx items.size items.size hi - sIx items.size 0 lo)==items.size)=true):=by
  intro q;rw[ah,ah]at q;have q1:((sIx items.size 0 lo:Nat):Int)=0:=eq_of_beq q.1.1;have q2:sIx items.size items.size hi - sIx items.size 0 lo=items.size:=eq_of_beq q.2;exact hw ⟨by omega,by omega⟩
 show eD _ _ (if(((sIx items.size 0 lo:Nat):Int)==0&&(1:Int)==1&&(sIx items.size items.size hi - sIx items.size 0 lo)==items.size)=true then _ else _) _ _ s;rw[if_neg hno,bj1]
 first
  | exact dH (m:=Builtin.Tuple.tupleExact _) (dL (dI ⟨_,rfl,dI h⟩) htake)
  | exact dH (m:=Builtin.Tuple.tupleExact _) (dL (dH (dI (dI ⟨_,rfl,dI h⟩))) htake)
  | exact dH (dH (m:=Builtin.Tuple.tupleExact _) (dL (dI (dI ⟨_,rfl,dI h⟩)) htake))
  | exact dH (dH (m:=Builtin.Tuple.tupleExact _) (dL (dI ⟨_,rfl,dI h⟩) htake))
end
end HT
namespace L2
open PySem PySem.Spec PyProof.Rows
noncomputable abbrev TO:=St->Hp->(Option Int->Hp->Prop)->Prop
noncomputable def PO(X:Cx)(e:Option Expr)(t:TO):Prop :=
 ∀(pins:List (eW×Obj)) (s:eV) (σ:St) (H:Hp) (Q:Option Int->Hp->Prop),Inv X pins σ H s->t σ H Q ->
  eD (eE X.prog X.w) X.A (evalPart e X.env) (λu s'=>∃o H',Inv X pins σ H' s'/\IsPart u o/\Q o H') X.xe s
noncomputable def bC2:TO:=λ_ H Q=>Q none H
noncomputable def cq2(t:TE):TO:=λσ H Q=>t σ H λx H1=>∃i,x=.int i/\Q (some i) H1
section
variable {X:Cx}{e:Expr}{te:TE}{lo hi:Option Expr}{tl th:TO}{pos p2:Pos}
theorem bF8:PO X none bC2:=by
 intro pins s σ H Q I h;rw[evalPart_none];exact dI ⟨none,H,I,.none,h⟩
theorem bF7(h:PE X e te):PO X (some e) (cq2 te):=by
 intro pins s σ H Q I hw;rw[evalPart_some];refine thn (h pins s σ H _ I hw) λu s1 ⟨x,H1,I1,r1,q1⟩=>?_
 obtain⟨i,rfl,q⟩:=q1;obtain⟨t,rfl⟩:=r1;exact⟨some i,H1,I1,.int i t,q⟩
noncomputable def SlR(X:Cx)(r:V->Option Int->Option Int->Hp->VK->Prop):Prop :=
 ∀(pins:List (eW×Obj)) (s:eV) (σ:St) (H:Hp) (x:V) (v vl vu:eU) (lo hi:Option Int) (sl:eW) (Q:VK),Inv X pins σ H s->C5 x v->s.heap.IsSliceOf sl vl vu .none->IsPart vl lo->IsPart vu hi->r x lo hi H Q ->
  ∃T id,typeLookup (.type T) "__getitem__" = pure (some (.builtin id))/\s.TypeIs v T/\eD (eE X.prog X.w) X.A (getItem v (.ref sl)) (EP X pins σ Q) X.xe s
theorem SlR.or(h:SlR X r)(h':SlR X r'):SlR X (λx lo hi H Q=>r x lo hi H Q\/r' x lo hi H Q):=by
 intro pins s σ H x v vl vu lo hi sl Q I rx hs pl pu q;rcases q with q|q
 ·exact h pins s σ H x v vl vu lo hi sl Q I rx hs pl pu q
 ·exact h' pins s σ H x v vl vu lo hi sl Q I rx hs pl pu q
noncomputable def tSl(r:V->Option Int->Option Int->Hp->VK->Prop)(te:TE)(tl th:TO):TE:=λσ H Q=>te σ H λx H1=>tl σ H1 λl H2=>th σ H2 λu H3=>r x l u H3 Q
theorem ak4(hr:SlR X r)(he:PE X e te)(hl:PO X lo tl)(hu:PO X hi th):PE X (.Subscript e (.Slice lo hi none p2) pos) (tSl r te tl th):=by
 intro pins s σ H Q I h;refine Subscript_ (thn (he pins s σ H _ I h) λv s1 ⟨x,H1,I1,r1,q1⟩=>?_);refine wpAny_Slice (thn (hl pins s1 σ H1 _ I1 q1) λvl s2 ⟨l,H2,I2,pl,q2⟩=>thn (hu pins s2 σ H2 _ I2 q2) λvu s3 ⟨u,H3,I3,pu,q3⟩=>?_);rw[evalPart_none];refine dI ?_;have I4:Inv X pins σ H3 { s3 with heap:=s3.heap.push { cls:=.type "slice", data:=.fields #[vl,vu,.none] } }:=I3.kept (t':=s3.toks) λb ob q=>eF _ q
 obtain⟨T,id,hT,ht,hg⟩:=hr pins { s3 with heap:=s3.heap.push { cls:=.type "slice", data:=.fields #[vl,vu,.none] } } σ H3 x v vl vu l u s3.heap.objs.size Q I4 r1 (Heap.IsSliceOf.new ..) pl pu q3;show eD (eE X.prog X.w) X.A (subscriptTail e (.Slice lo hi none p2) v (.ref s3.heap.objs.size)) (EP X pins σ Q) X.xe { s3 with heap:=s3.heap.push { cls:=.type "slice", data:=.fields #[vl,vu,.none] } };exact tail_any (ops:=[.ref s3.heap.objs.size,v]) ht hT hg (by with_unfolding_all rfl)
noncomputable def aF6(xs:List V)(lo hi:Option Int):List V:=(xs.drop (HT.sIx xs.length 0 lo)).take (HT.sIx xs.length xs.length hi - HT.sIx xs.length 0 lo)
theorem af7(xs:List V)(lo hi:Option Int):(aF6 xs lo hi).length<=xs.length:=by
 unfold aF6;rw[bI,cb];omega
noncomputable def cB7(K:ag):V->Option Int->Option Int->Hp->VK->Prop:=λx lo hi H Q=>∃a xs,x=.ref a/\SqT K H a xs /\
 ¬(HT.sIx xs.length 0 lo=0/\HT.sIx xs.length xs.length hi=xs.length)/\∀p,H p=none->Q (.ref p) (upd H p (.tup (aF6 xs lo hi)))
theorem bY5:SlR X (cB7 X.K):=by
 intro pins s σ H x v vl vu lo hi sl Q I rx hs pl pu h;obtain⟨a,xs,rfl,hx,hw,q⟩:=h;cases rx;obtain⟨its,r,ht,hz⟩:=I.tuple hx;have hlen:its.toArray.size=xs.length:=by rw[av];exact r.length.symm
 refine⟨"tuple", _,PyProof.Rows.slot_tuple_getitem.lookup,ht.typeIs,?_⟩;refine HT.getItem_tuple_cut ht hs pl pu (by rw[hlen];exact hw) ?_ (by rw[hlen];exact hz);rw[hlen];refine⟨.ref s.heap.objs.size,_,I.laid (t':=s.toks) (o:=.tup (aF6 xs lo hi)) (λb ob q=>eF _ q) (aj _) ?_,rfl,q _ (I.hok.fresh (aj _))⟩;exact⟨aM (af7 xs lo hi) hz,_,(r.drop (HT.sIx xs.length 0 lo)).take (HT.sIx xs.length xs.length hi - HT.sIx xs.length 0 lo),ao5.new _ _⟩
noncomputable def cs0(K:ag):R2:=λx y H Q=>∃a b xs ys,x=.ref a/\y=.ref b/\SqT K H a xs/\SqT K H b ys/\xs≠[]/\xs.length+ys.length<=dP /\
 (ys=[]->Q (.ref a) H)/\(ys≠[]->∀p,H p=none->Q (.ref p) (upd H p (.tup (xs++ys))))
theorem C9.nil_iff(r:C9 xs us):us=[]↔xs=[]:=by
 cases r with
 | nil=>simp
 | cons _ _=>simp
theorem bH3:OpR X (dZ .Add) (cs0 X.K):=by
 intro pins s σ H x y v u Q I rx ry h;obtain⟨a,b,xs,ys,rfl,rfl,ha,hb,hx,hz,q1,q2⟩:=h;cases rx;cases ry;obtain⟨its,r1,p1,_⟩:=I.tuple ha;obtain⟨its2,r2,p2,_⟩:=I.tuple hb;refine HT.cat_tup p1 p2 (λz=>hx (r1.nil_iff.mp z)) (λz=>⟨.ref a,H,I,rfl,q1 (r2.nil_iff.mp z)⟩) (λz=>?_) (by rw[← r1.length,← r2.length];exact hz);refine⟨.ref s.heap.objs.size,_,I.laid (t':=s.toks) (o:=.tup (xs++ys)) (λb ob q=>eF _ q) (aj _) ?_,rfl,q2 (λw=>z (r2.nil_iff.mpr w)) _ (I.hok.fresh (aj _))⟩;exact⟨by rw[aG];exact hz,_,r1.append r2,ao5.new _ _⟩
end
end L2
namespace L2
open PySem PySem.Spec PyProof.Rows
noncomputable def ixN(n:Nat)(i:Int):Option Nat:=if 0<=i then(if i < n then some i.toNat else none) else if -(n:Int)<=i then some (i+n).toNat else none
noncomputable def atI{α:Type}(xs:List α)(i:Int):Option α:=(ixN xs.length i).bind λj=>xs[j]?
theorem bK5(h:ixN n i=some j):seqIndex? i n=some j/\j < n/\-(n:Int)<=i/\i < n:=by
 unfold ixN at h;by_cases h0:0<=i
 ·rw[if_pos h0]at h;by_cases h1:i < n
  ·rw[if_pos h1]at h;have e:i.toNat=j:=bg.inj h;exact⟨by rw[seqIndex_of h0 h1,e],by omega,by omega,h1⟩
  ·rw[if_neg h1]at h;cases h
 ·rw[if_neg h0]at h;by_cases h1:-(n:Int)<=i
  ·rw[if_pos h1]at h;have e:(i+n).toNat=j:=bg.inj h;exact⟨by rw[seqIndex_neg (by omega) h1,e],by omega,h1,by omega⟩
  ·rw[if_neg h1]at h;cases h
theorem az3{α:Type}{xs:List α}{i:Int}{v:α}(h:atI xs i=some v):∃j,seqIndex? i xs.length=some j/\xs[j]? = some v/\j < xs.length/\-(xs.length:Int)<=i/\i < xs.length:=by
 unfold atI at h;cases e:ixN xs.length i with
 | none=>rw[e]at h;cases h
 | some j =>
  rw[e]at h;obtain⟨h1,h2,h3,h4⟩:=bK5 e;exact⟨j,h1,h,h2,h3,h4⟩
theorem aV9{α:Type}{xs:List α}{j:Nat}{v:α}(h:xs[j]? = some v):atI xs (j:Int)=some v:=by
 have hj:j < xs.length:=(ao.mp h).1
 have e:ixN xs.length (j:Int)=some j:=by
  unfold ixN;rw[if_pos (by omega),if_pos (by omega)];simp
 unfold atI;rw[e];exact h
noncomputable def aa9(b:Expr):Prop:=∀o i,subscripted b false o i=operate [o,i] (getItem o i)
noncomputable def IxR(X:Cx)(r:R2):Prop :=
 ∀(value slice:Expr) (pins:List (eW×Obj)) (s:eV) (σ:St) (H:Hp) (x y:V) (v u:eU) (Q:VK),Inv X pins σ H s->C5 x v->C5 y u->r x y H Q ->
  subscripted slice false v u=operate [v,u] (getItem v u)->eD (eE X.prog X.w) X.A (subscriptTail value slice v u) (EP X pins σ Q) X.xe s
noncomputable def MtR(X:Cx)(id:String)(r:V->List V->Hp->VK->Prop):Prop :=
 ∀(pins:List (eW×Obj)) (s:eV) (σ:St) (H:Hp) (x:V) (xs:List V) (v:eU) (us:List eU) (Q:VK),Inv X pins σ H s->C5 x v->C9 xs us->r x xs H Q ->
  eD (eE X.prog X.w) X.A (call (.builtin id) (v::us)) (EP X pins σ Q) X.xe s
section
variable {X:Cx}{a b:Expr}{ta tb:TE}{pos:Pos}
theorem IxR.or(h:IxR X r)(h':IxR X r'):IxR X (λx y H Q=>r x y H Q\/r' x y H Q):=by
 intro value slice pins s σ H x y v u Q I rx ry q hs;rcases q with q|q
 ·exact h value slice pins s σ H x y v u Q I rx ry q hs
 ·exact h' value slice pins s σ H x y v u Q I rx ry q hs
theorem bj6(hr:IxR X r)(ha:PE X a ta)(hb:PE X b tb)(hs:aa9 b):PE X (.Subscript a b pos) (tOp r ta tb):=by
 intro pins s σ H Q I h;exact Subscript_ (cl4 ha hb I h λv u s2 x y H2 I2 rx ry q=>hr a b pins s2 σ H2 x y v u Q I2 rx ry q (hs _ _))
noncomputable def cr9(K:ag):R2:=λx y H Q=>∃p xs i v,x=.ref p/\y=.int i/\SqL K H p xs/\atI xs i=some v/\Q v H
noncomputable def cr7(K:ag):R2:=λx y H Q=>∃p xs i v,x=.ref p/\y=.int i/\SqT K H p xs/\atI xs i=some v/\Q v H
noncomputable def cr8:R2:=λx y H Q=>∃z i c,x=.str z/\y=.int i/\z.length<=dP/\atI z.cps.toList i=some c/\Q (.str ⟨#[c]⟩) H
theorem bK4:IxR X (cr9 X.K):=by
 intro value slice pins s σ H x y v u Q I rx ry h hs;obtain⟨p,xs,i,z,rfl,rfl,hq,he,q⟩:=h;cases rx;obtain⟨t,rfl⟩:=ry;obtain⟨its,r,pl,hz⟩:=I.list hq;obtain⟨j,h1,h2,h3,h4,h5⟩:=az3 he;obtain⟨w,ew,rw'⟩:=r.get h2;have hl:=r.length;have hn:=b9;have fin:EP X pins σ Q w s:=⟨z,H,I,rw',q⟩;by_cases h0:0<=i
 ·have hj:i.toNat=j:=by
   rw[seqIndex_of h0 h5]at h1;exact bg.inj h1
  exact item_listR pl.isList h0 (by omega) (by rw[hj];simpa using ew) fin hs
 ·have hj:(i+(its.toArray.size:Int)).toNat=j:=by
   rw[seqIndex_neg (by omega) h4]at h1;rw[av,← hl];exact bg.inj h1
  exact subscriptTail_builtinR (x:=w) pl.isList.typeIs slot_list_getitem.lookup
   (wpAny_getItem_list_neg (Q:=λr s'=>r=w/\EP X pins σ Q r s') pl.isList (by omega) (by rw[av]<;>omega) (by omega) (by rw[hj];simpa using ew) ⟨rfl,fin⟩) hs
theorem cj5:IxR X (cr7 X.K):=by
 intro value slice pins s σ H x y v u Q I rx ry h hs;obtain⟨p,xs,i,z,rfl,rfl,hq,he,q⟩:=h;cases rx;obtain⟨t,rfl⟩:=ry;obtain⟨its,r,pl,hz⟩:=I.tuple hq;obtain⟨j,h1,h2,h3,h4,h5⟩:=az3 he;obtain⟨w,ew,rw'⟩:=r.get h2;have hl:=r.length;have hn:=b9;have fin:EP X pins σ Q w s:=⟨z,H,I,rw',q⟩
 exact subscriptTail_builtinR (x:=w) pl.typeIs slot_tuple_getitem.lookup
  (getItem_tuple (j:=j) (Q:=λr s'=>r=w/\EP X pins σ Q r s') pl (by omega) (by omega) (by rw[av,← hl];exact h1) (by simpa using ew) ⟨rfl,fin⟩) hs
theorem cj6:IxR X cr8:=by
 intro value slice pins s σ H x y v u Q I rx ry h hs;obtain⟨z,i,c,rfl,rfl,hz,he,q⟩:=h;obtain⟨t,rfl⟩:=rx;obtain⟨t',rfl⟩:=ry;obtain⟨j,h1,h2,h3,h4,h5⟩:=az3 he;have hl:z.cps.toList.length=z.length:=by simp[Str.length]
 rw[hl]at h1 h4 h5;have hn:=b9
 exact tail_any (typeIs_str s z t) slot_str_getitem.lookup (getItem_str (c:=c) (by
  have e1:decide (i < -(2 ^ 63:Int))=false:=decide_eq_false (by omega);have e2:decide (i ≥ 2 ^ 63)=false:=decide_eq_false (by omega)
  rw[e1,e2,dG]) (by rw[h1];simpa using h2) ⟨.str ⟨#[c]⟩,H,I.tok _,⟨_,rfl⟩,q⟩) hs
noncomputable def rIx(K:ag):R2:=λx y H Q=>cr9 K x y H Q\/cr7 K x y H Q\/cr8 x y H Q
theorem aK7:IxR X (rIx X.K):=bK4.or (cj5.or cj6)
theorem at4(lo hi:Option Int)(n:Nat):(sliceBounds lo hi none n).1=((HT.sIx n 0 lo:Nat):Int)/\(sliceBounds lo hi none n).2.1=((HT.sIx n n hi:Nat):Int)/\(sliceBounds lo hi none n).2.2=1:=by
 refine⟨?_,?_,rfl⟩
 ·cases lo with
  | none=>simp[sliceBounds,HT.sIx]
  | some i =>
   simp only[sliceBounds,HT.sIx,Option.getD_none,show(1:Int) > 0 by decide,if_true];by_cases h:i < 0
   ·simp only[h,if_true]<;>omega
   ·simp only[h,if_false]<;>omega
 ·cases hi with
  | none=>simp[sliceBounds,HT.sIx]
  | some i =>
   simp only[sliceBounds,HT.sIx,Option.getD_none,show(1:Int) > 0 by decide,if_true];by_cases h:i < 0
   ·simp only[h,if_true]<;>omega
   ·simp only[h,if_false]<;>omega
theorem an6(its:List eU)(lo hi:Option Int):slicePick its.toArray lo hi none=((its.drop (HT.sIx its.length 0 lo)).take (HT.sIx its.length its.length hi - HT.sIx its.length 0 lo)).toArray:=by
 obtain⟨h1,h2,h3⟩:=at4 lo hi its.toArray.size;unfold slicePick;rw[h1,h2,h3];simp only[sliceRange_one,pick_run,av]<;>rfl
noncomputable def cB8(K:ag):V->Option Int->Option Int->Hp->VK->Prop:=λx lo hi H Q=>∃a xs,x=.ref a/\SqL K H a xs/\∀p,H p=none->Q (.ref p) (upd H p (.lst (aF6 xs lo hi)))
theorem bD2:SlR X (cB8 X.K):=by
 intro pins s σ H x v vl vu lo hi sl Q I rx hs pl pu h;obtain⟨a,xs,rfl,hx,q⟩:=h;cases rx;obtain⟨its,r,ht,hz⟩:=I.list hx;have hlen:=r.length;refine⟨"list", _,slot_list_getitem.lookup,ht.isList.typeIs,?_⟩;refine wpAny_getItem_list_slice ht.isList hs pl pu .none (by simp) ?_ (by rw[av]<;>omega);rw[an6,← hlen];refine⟨.ref s.heap.objs.size,_,I.laid (t':=s.toks) (o:=.lst (aF6 xs lo hi)) (λb ob q=>eF _ q) (aj _) ?_,rfl,q _ (I.hok.fresh (aj _))⟩;exact⟨aM (af7 xs lo hi) hz,_,0,(r.drop (HT.sIx xs.length 0 lo)).take (HT.sIx xs.length xs.length hi - HT.sIx xs.length 0 lo),eI _ rfl⟩
noncomputable def bR3:V->Bool
 | .non=>true
 | .bl _=>true
 | .int _=>true
 | .str _=>true
 | _=>false
theorem aa8:Q5 X (.builtin "len") (λxs H Q=>∃p ys,xs=[.ref p]/\(SqL X.K H p ys\/SqT X.K H p ys)/\Q (.int ys.length) H):=by
 intro pins s σ H xs us Q I r h;obtain⟨p,ys,rfl,hq,q⟩:=h;obtain⟨u,rfl,rx⟩:=T6 r;cases rx;have hn:=b9;rcases hq with hq|hq
 ·obtain⟨its,r',pl,hz⟩:=I.list hq;have hlen:=r'.length;exact Calls.call_len_list pl.isList (by simp only[av]<;>omega) ⟨.int ys.length,H,I.tok _,⟨s.toks+1,by rw[av,hlen]⟩,q⟩
 ·obtain⟨its,r',pl,hz⟩:=I.tuple hq;have hlen:=r'.length;exact len_tuple pl (by simp only[av]<;>omega) ⟨.int ys.length,H,I.tok _,⟨s.toks+1,by rw[av,hlen]⟩,q⟩
theorem ay7:Q5 X (.builtin "len") (λxs H Q=>∃z,xs=[.str z]/\z.length<=dP/\Q (.int z.length) H):=by
 intro pins s σ H xs us Q I r h;obtain⟨z,rfl,hz,q⟩:=h;obtain⟨u,rfl,t,rfl⟩:=T6 r;have hn:=b9;exact len_str (by omega) ⟨.int z.length,H,I.tok _,⟨_,rfl⟩,q⟩
theorem ao2:Q5 X (.type "tuple") (λxs H Q=>∃p ys,xs=[.ref p]/\((SqL X.K H p ys/\∀l,H l=none->Q (.ref l) (upd H l (.tup ys)))\/(SqT X.K H p ys/\Q (.ref p) H))):=by
 intro pins s σ H xs us Q I r h;obtain⟨p,ys,rfl,h⟩:=h;obtain⟨u,rfl,rx⟩:=T6 r;cases rx;rcases h with⟨hq,q⟩|⟨hq,q⟩
 ·obtain⟨its,r',pl,hz⟩:=I.list hq;have hlen:=r'.length;refine call_tuple_list pl.isList (λh' kp=>?_) (by simp only[av]<;>omega);have I1:Inv X pins σ H { s with heap:=h' }:=I.kept (t':=s.toks) kp
  have I2:Inv X pins σ (upd H h'.objs.size (.tup ys)) { s with heap:=h'.push { cls:=.type "tuple", data:=.seq its.toArray } } :=
   I1.laid (t':=s.toks) (λb o e=>eF _ e) (aj _) (show F9 X.prog X.w _ _ _ (.tup ys) from⟨hz,its,r',ao5.new _ _⟩)
  exact⟨.ref h'.objs.size,_,I2,rfl,q _ (I1.hok.fresh (aj _))⟩
 ·obtain⟨its,r',pl,hz⟩:=I.tuple hq;exact call_tuple_same pl ⟨.ref p,H,I,rfl,q⟩
noncomputable def tyV(K:ag)(T:String)(x:V)(H:Hp):Prop:=match x with
 | .str _=>T = "str"
 | .int _=>T = "int"
 | .ref p=>(T = "list" /\ ∃xs,SqL K H p xs)\/(T = "tuple" /\ ∃o,K.lookup p=some o/\o.cls=.type "tuple" /\ o.dict=none) \/
   (T = "dict" /\ ((∃kvs,H p=some (.dK kvs))\/∃kvs,H p=some (.dT kvs)))\/(T = "set" /\ ∃S n,H p=some (.set S n))
 | _=>False
theorem bf2(I:Inv X pins σ H s)(r:C5 x v)(ty:tyV X.K T x H):
  s.TypeIs v T/\∀a,v=.ref a->∃ob,s.heap.get? a=some ob/\ob.dict=none:=by
 cases x with
 | str z =>
  obtain⟨t,rfl⟩:=r;cases(show T = "str" from ty);exact⟨typeIs_str s z t,λ_ e=>nomatch e⟩
 | int i =>
  obtain⟨t,rfl⟩:=r;cases(show T = "int" from ty);exact⟨typeIs_int s i t,λ_ e=>nomatch e⟩
 | ref p =>
  cases r;rcases ty with⟨rfl,xs,hq⟩|⟨rfl,o,hk,hc,hd⟩|⟨rfl,hk⟩|⟨rfl,S,n,hk⟩
  ·obtain⟨its,_,pl,_⟩:=I.list hq;refine⟨pl.isList.typeIs,λa e=>?_⟩;cases e;obtain⟨o,n,e,c,hd,_⟩:=pl;exact⟨o,e,hd⟩
  ·refine⟨⟨o,I.kIn p o hk,hc⟩,λa e=>?_⟩;cases e;exact⟨o,I.kIn _ o hk,hd⟩
  ·have z:∃o,s.heap.get? p=some o/\o.ExactDict:=by
    rcases hk with⟨kvs,hk⟩|⟨kvs,hk⟩
    ·obtain⟨_,_,_,_,o,_,_,e,ex,_⟩:=I.hok p _ hk;exact⟨o,e,ex⟩
    ·obtain⟨_,_,_,_,o,_,_,e,ex,_⟩:=I.hok p _ hk;exact⟨o,e,ex⟩
   obtain⟨o,e,ex⟩:=z;refine⟨⟨o,e,ex.1⟩,λa e2=>?_⟩;cases e2;exact⟨o,e,ex.2.1⟩
  ·obtain⟨o,_,_,_,e,ex,_⟩:=I.hok p _ hk;refine⟨⟨o,e,ex.1⟩,λa e2=>?_⟩;cases e2;exact⟨o,e,ex.2.1⟩
 | _=>exact False.elim ty
noncomputable def tBM(K:ag)(T:String)(r:V->List V->Hp->VK->Prop)(to:TE)(t:TA):TE:=λσ H Q=>to σ H λx H1=>tyV K T x H1/\t σ H1 λxs H2=>r x xs H2 Q
variable {o e:Expr}{es:List Expr}{to:TE}{t:TA}{name:Str}{apos cpos:Pos}{T id:String}{r:V->List V->Hp->VK->Prop}
theorem ak5(pa:PlainAttrs T)(slot:Slot T name id)(hty:typeOf (.builtin id)=pure (.type "method_descriptor"))(hm:MtR X id r)(ho:PE X o to)(ha:PA X (e::es) t)
  (hbase:eB o name X.env (eval o X.env)=eval o X.env:=by rfl)
  (hfew:((backTo cpos (dO (e::es) X.env)).all (λx=>!x.1)&&(backToKw cpos (keywordEach [] X.env)).all (λx=>x.1.isSome)
   && decide ((e::es).length+([]:List eh).length+(if([]:List eh).isEmpty then 0 else 1) < 30))=true:=by rfl)
  (hline:(apos.endLine==cpos.line)=true:=by rfl) (hs:dO (e::es) X.env=(false,eval e X.env)::dO es X.env:=by rfl) (hplain:(backTo cpos (dO es X.env)).any (·.1)=false:=by rfl) :
  PE X (.Call (.Attribute o name apos) (e::es) [] cpos) (tBM X.K T r to t):=by
 intro pins s σ H Q I h;refine wpAny_Call_method_late hbase hfew hline rfl (thn (ho pins s σ H _ I h) λv s1 ⟨x,H1,I1,r1,ty,q1⟩=>?_);obtain⟨h1,h2⟩:=bf2 I1 r1 ty;refine⟨T,id,pa,slot,hty,h1,h2,?_⟩;have hA:=ha cpos pins s1 σ H1 _ I1 q1;rw[hs]at hA ⊢;refine Calls.callWith_builtin (by show(false || (backTo cpos (dO es X.env)).any (·.1))=false;rw[hplain]<;>rfl) (Calls.evalArgs_plain ?_);exact thn hA λus s2 ⟨vs,H2,I2,r2,q2⟩=>hm pins s2 σ H2 x vs v us Q I2 r1 r2 q2
end
end L2
namespace L2
open PySem PySem.Spec PyProof.Rows
noncomputable def MtM(X:Cx)(id:String)(r:V->List V->Hp->VK->Prop):Prop :=
 ∀(pins:List (eW×Obj)) (s:eV) (σ:St) (H:Hp) (x:V) (xs:List V) (v:eU) (us:List eU) (Q:VK),Inv X pins σ H s->C5 x v->C9 xs us->r x xs H Q ->
  eD (eE X.prog X.w) X.A (call (.builtin id) (v::us)) (EP X pins σ Q) X.xe s
theorem C9.one:∀{x:V}{us:List eU},C9 [x] us->∃u,us=[u]/\C5 x u
 | _,_,.cons r .nil=>⟨_,rfl,r⟩
theorem C9.rep(h:C9 xs us):∀k:Nat,C9 (au k xs).flatten (au k us).flatten
 | 0=>.nil
 | k+1=>by
  rw[bE,bE,bW,bW];exact C9.append h (C9.rep h k)
theorem ar1(its:List eU):∀(k:Nat) (acc:List eU),
  cU (λx1 x2=>x1++x2) acc.toArray (au k its.toArray)=(acc++(au k its).flatten).toArray
 | 0,acc=>by simp
 | k+1,acc=>by
  have e:acc.toArray++its.toArray=(acc++its).toArray:=by simp
  have e2:(acc++its)++(au k its).flatten=acc++(au (k+1) its).flatten:=by
   rw[bE,bW,aH]
  rw[← e2,← ar1 its k (acc++its),← e,bE,cQ]
section
variable {X:Cx}{pins:List (Addr×Obj)}{σ:St}{H:Hp}{s:Shared}{l b:Addr}{xs ys zs:List V}
theorem Inv.lset{its its':List eU}{n:Nat}{f:Array eU->Array eU}{t':Nat}(I:Inv X pins σ H s)(hH:H l=some (.lst xs))
  (e:s.heap.get? l=some { cls:=.type "list", data:=.seq its.toArray n }) (hf:f its.toArray=its'.toArray) (hv:C9 ys its') (hz:ys.length<=dP) :
  Inv X pins σ (upd H l (.lst ys)) { s with heap:=s.heap.update l (Obj.mapSeq f),toks:=t' }:=by
 have q:=PySem.IsL.update e f;rw[hf]at q;refine I.write (x:=l) (e:=l) (by rw[hH];exact trivial) (.inl rfl) (λb' u hb hu=>(Heap.get?_update_other s.heap (Obj.mapSeq f) (Ne.symm hb)).trans hu) ⟨_,q⟩ ?_;exact⟨hz,its',_,hv,q⟩
theorem Inv.lnew(I:Inv X pins σ H s)(hv:C9 ys its)(hz:ys.length<=dP):
  Inv X pins σ (upd H s.heap.objs.size (.lst ys)) { s with heap:=s.heap.push { cls:=.type "list", data:=.seq its.toArray },toks:=t' } :=
 I.laid (λ_ _ q=>eF _ q) (aj _) ⟨hz,its,0,hv,eI _ rfl⟩
theorem Inv.fresh(I:Inv X pins σ H s):H s.heap.objs.size=none:=I.hok.fresh (aj _)
theorem Inv.lstM(I:Inv X pins σ H s)(hH:H l=some (.lst xs)):xs.length<=dP/\∃(its:List eU) (n:Nat),C9 xs its/\xs.length=its.length/\s.heap.get? l=some { cls:=.type "list", data:=.seq its.toArray n }:=by
 obtain⟨z,its,n,r,e⟩:=I.hok l _ hH;exact⟨z,its,n,r,r.length,e⟩
theorem bm3(h:n<=dP):Builtin.List.listTooLong n=false:=by
 unfold Builtin.List.listTooLong;exact decide_eq_false (by omega)
end
section
variable {X:Cx}
noncomputable def bE7:V->List V->Hp->VK->Prop:=λx vs H Q=>∃l xs y,x=.ref l/\vs=[y]/\H l=some (.lst xs)/\xs.length < dP/\Q .non (upd H l (.lst (xs++[y])))
theorem j6:MtM X "list.append" bE7:=by
 intro pins s σ H x vs v us Q I rx rv h;obtain⟨l,xs,y,rfl,rfl,hH,hz,q⟩:=h;cases rx;obtain⟨u,rfl,ru⟩:=rv.one;obtain⟨z,its,n,r,hl,e⟩:=I.lstM hH;refine eA F.slot_list_append ⟨_,e,rfl⟩ F.entry_list_append (F.args_list_append_2 _ _) (PySem.list_append l its.toArray n u (by rw[av];omega)) ⟨e,?_⟩;refine⟨.non,_,I.lset (its':=its++[u]) hH e (by simp) (r.append (.cons ru .nil)) ?_,rfl,q⟩;rw[aG,cJ];omega
theorem av9{α:Type}(xs:List α)(k:Nat):(au k xs).flatten.length=k*xs.length:=by
 induction k with
 | zero=>simp
 | succ k ih=>rw[bE,bW,aG,ih,Nat.succ_mul,Nat.add_comm]
end
end L2
namespace Att
open PySem PySem.W PySem.Calls PyProof.Rows
theorem ag5:∀(ns:List Int) (vs:List eU),WellAll P h vs (ns.map WData.int)->IntsAre vs ns:=by
 intro ns
 induction ns with
 | nil =>
  intro vs w;rw[List.map_nil]at w;cases w;exact .nil
 | cons n ns ih =>
  intro vs w;rw[bh]at w;cases w with
  | cons a b =>
   cases a;exact .cons _ _ (ih _ b)
theorem aX4{l:OpenLaw}{n:Nat}(hn:l.most=some n){P:Params}{h:Heap}{args:List WData}{vals:List eU}
  (hpre:l.row.toRowW.claim.pre args=true) (hwl:WellAll P h vals args) :
  ∃a vs ns,vals=[eP a]/\args=[WData.list (ns.map WData.int)]/\h.get? a=some { cls:=.type "list", data:=.seq vs.toArray }/\IntsAre vs ns/\ns.length<=n:=by
 have hsh:WShape.hasAll [] args [.list .int]=true:=(pre_splitW hpre).1;have hc:l.pre.holds [] { args:=args }=true:=(pre_splitW hpre).2;obtain⟨d,r,rfl,h1,h2⟩:=hasAllW_cons hsh;obtain rfl:=hasAllW_nil h2;obtain⟨xs,rfl,h3⟩:=hasW_list h1;obtain⟨ns,rfl⟩:=items_int h3
 have hlen:ns.length<=n:=by
  unfold OpenLaw.pre at hc
  have h4:(WTm.not (.lt (.lit (.int (n:Int))) (.len (.arg 0)))).holds [] { args:=[.list (ns.map .int)] }=true:=by
   have h4:=(holds_andW hc).1;rw[hn]at h4;exact h4
  have h5:=condW_of h4 (w_not (w_lt w_lit (w_len_list (w_arg rfl))));rw[ak]at h5;refine Nat.le_of_not_lt λq=>?_
  have q':(n:Int) < ((ns.length:Nat):Int):=by omega
  first
   | (rw[decide_eq_true q']at h5;exact absurd h5 (by decide))
   | (simp at h5;omega)
 cases hwl with
 | cons w1 w2 =>
  cases w2;cases w1 with
  | list ho hall=>exact⟨_,_,ns,rfl,rfl,ho,ag5 ns _ hall,hlen⟩
theorem aX6(l:OpenLaw)(args:List WData):l.row.toRowW.claim.post args (.bool true) args=true :=
 postW_of (r:=l.row.toRowW) (X:=(true==true))
  (show WShape.has [] (.bool true) .bool=true by first|rfl|decide|simp[WShape.has,WShape.arms,WShape.armsAll])
  (show(WTm.eq .res (.lit (.bool true))).value [] { args:=args,res:=some (.bool true),after:=args }=some (.bool (true==true)) from w_eq_bool (w_res rfl) w_lit) rfl
theorem attach_call{l:OpenLaw}{n:Nat}{q:dU}{loose:List Str}{XP:(Str->Option eU)->Heap->Prop}{YP:World->Heap->Prop}{d:DefRec}
  (hn:l.most=some n) (hdf:d.params.defaults=[])
  (call:∀(w:World) (s₀ s₁:eV) (mg mb:Str->Option eU) (fa:eW) (o:Obj) (pm cd doc:eU) (a:eW) (vs:List eU) (ns:List Int),
   Ground q loose [] XP w s₀ mg mb s₁.heap->YP w s₁.heap ->
   s₁.heap.get? fa=some o->o.data=.func (docDef d.name d.params d.body d.scope pm cd doc)->s₁.heap.CodeRec cd d.name->mg d.name=some (.ref fa) ->
   s₁.heap.get? a=some { cls:=.type "list", data:=.seq vs.toArray }->IntsAre vs ns->ns.length<=n->s₁.gens = #[] ->
   codeAny (eE l.prog w) callerA (.call (.ref fa) ⟨[.ref a],[]⟩) (λr s'=>r=.ok (.ret (.bool true))/\OldK s₁.heap s'.heap/\s'.os=s₁.os/\AllBare s'.gens) s₁) :
  WalkO q loose XP YP l.row.toRowW d [] (λf vs=>PySem.call f vs):=by
 intro w s₀ s₁ mg mb G Y fa o pm cd doc dV kV ho hd hcd hD hmg hg args vals as hpre hlay hrd hwl hlo;obtain rfl:dV=.none:=Dflts.none hD hdf;obtain rfl:kV=.none:=Dflts.noKw hD;obtain⟨a,vs,ns,rfl,rfl,hobj,hints,hlen⟩:=aX4 hn hpre hwl;refine enter_call (codeAny_mono (call w s₀ s₁ mg mb fa o pm cd doc a vs ns G Y ho (fd_plain hd) hcd hmg hobj hints hlen hg) λr s' hq=>?_);obtain⟨rfl,h2,h3,h4⟩:=hq;exact⟨.inl ⟨.bool true,.bool true,[],rfl,λ_=>rfl,.bool true,aX6 l _,λ_=>⟨List.Pairwise.nil,λ_ hm=>(nomatch hm)⟩⟩,h2,h3,h4⟩
end Att
namespace L2
open PySem PySem.Spec PyProof.Rows
theorem ao8:∀{vs:List eU}{ns:List Int},IntsAre vs ns->C9 (ns.map V.int) vs
 | _,_,.nil=>.nil
 | _,_,.cons n t h=>.cons ⟨t,rfl⟩ (ao8 h)
noncomputable def cm0(H:Hp):Prop:=∀b,H b=none\/∃o xs,H b=some (.frz o (.lst xs))
theorem bo1{P:dU}{w:World}{K:ag}{mg mb:Str->Option eU}{CX:CXT}{k:Nat}{fa a:eW}{fd:dX}{x:Str}{sp:Sp}{s₁:eV}{vs:List eU}{ns:List Int}
  (KX:K.In s₁.heap) (hns:s₁.heap.Ns dS mg) (hb:s₁.heap.Ns builtinsNs mb) (hbb:∀x:Str,x ≠ "__name__" -> mb x=dY x) (hlim:s₁.heap.NoLimit) (hg:s₁.gens = #[])
  (ha:s₁.heap.get? a=some { cls:=.type "list", data:=.seq vs.toArray }) (hi:IntsAre vs ns) (hl:ns.length<=dP) (hr:Room k callerA)
  (F:∀base:Heap,K.In base->base.Ns dS mg->FnOk P w K mg base CX k fa fd [x] sp) (hbind:∀(s:eV) (u:eU),BindsTo s fd ⟨[u],[]⟩ [(x,u)])
  (hsp:∀H:Hp,cm0 H->SqL K H a (ns.map V.int)->sp [.ref a] H (λv _=>v=.bl true) λ_ _ _=>False)
  (hCX:∀H e s',CX [] H s₁ (λ_ _ _=>False) e s'->False) :
  codeAny (eE P w) callerA (.call (.ref fa) ⟨[.ref a],[]⟩) (λr s'=>r=.ok (.ret (.bool true))/\OldK s₁.heap s'.heap/\s'.os=s₁.os/\AllBare s'.gens) s₁:=by
 have rv:=ao8 hi;have lenV:=hi.length
 have core:∀H:Hp,cm0 H->SqL K H a (ns.map V.int)->HOk P w H s₁.heap->(∀b,H b≠none->b=a)->(H a≠none->K.lookup a=none) ->
   codeAny (eE P w) callerA (.call (.ref fa) ⟨[.ref a],[]⟩) (λr s'=>r=.ok (.ret (.bool true))/\OldK s₁.heap s'.heap/\s'.os=s₁.os/\AllBare s'.gens) s₁:=by
  intro H hO hS hok hA hK;have base_of:∀{b:eW}{o:Obj},s₁.heap.get? b=some o->H b=none->(aw7 s₁.heap H).get? b=some o:=λe n=>bt0 e n
  have noA:∀{b:eW}{o:Obj}{es:Array DictEntry}{ep:Nat},s₁.heap.get? b=some o->o.data=.dict es ep->H b=none:=λ{b o es ep} e d=>by
   cases q:H b with
   | none=>rfl
   | some u =>
    have e':b=a:=hA b (by rw[q];simp);subst e';rw[ha]at e;cases e;have d':Data.seq vs.toArray _=Data.dict es ep:=d;cases d'
  have nsK:∀{b:eW}{m:Str->Option eU},s₁.heap.Ns b m->(aw7 s₁.heap H).Ns b m:=λ{b m} ⟨o,es,ep,e,d,r⟩=>⟨o,es,ep,base_of e (noA e d),d,r⟩
  have hKb:K.In (aw7 s₁.heap H):=λb o e=>base_of (KX b o e) (by
   cases q:H b with
   | none=>rfl
   | some u =>
    have e':b=a:=hA b (by rw[q];simp);subst e'
    rw[hK (by rw[q];simp)]at e;cases e)
  have hM:Mod K mg (aw7 s₁.heap H):=⟨hKb,nsK hns,⟨mb,nsK hb,hbb⟩,let⟨mc,h1,h2⟩:=hlim;⟨mc,nsK h1,h2⟩⟩;have e0:Env0 P w K mg (aw7 s₁.heap H) callerA [] s₁ H:=⟨rfl,hM,λb o e=>bH7 e,Nat.le_of_eq (aZ9 _ _),trivial,λb hb=>absurd (show b∈([]:List eW) from hb) (by simp),hok,.of_eq hg⟩;refine codeAny_mono ((F _ hKb (nsK hns)).run callerA [] s₁ H ⟨[.ref a],[]⟩ [.ref a] [.ref a] _ _ hr e0 (hbind s₁ (.ref a)) (.cons rfl .nil) (hsp H hO hS)) λr s' h=>?_
  cases r with
  | error e=>exact(hCX H e s' h).elim
  | ok fl =>
   cases fl with
   | next=>exact False.elim h
   | brk=>exact False.elim h
   | cont=>exact False.elim h
   | ret u =>
    obtain⟨v,H',os,bare,un,hok',r',q⟩:=h;have q':v=.bl true:=q;subst q';obtain rfl:u=Value.bool true:=r';refine⟨rfl,OldK.of_keep λb o e=>?_,os,bare⟩;cases q:H b with
    | none=>exact un.keep b o e q (by intro z;exact absurd (show b∈([]:List eW) from z) (by simp)) (by simp)
    | some u =>
     rcases hO b with z|⟨ob,xs,z⟩
     ·rw[q]at z;cases z
     ·have z2:=un.frzs b ob _ z;obtain⟨e1,_⟩:=hok b _ z;obtain⟨e2,_⟩:=hok' b _ z2;rw[e]at e1;cases e1;exact e2
 cases hk:K.lookup a with
 | some o =>
  have e:=KX a o hk;rw[ha]at e;cases e;refine core (λ_=>none) (λ_=>.inl rfl) (.inr ⟨_,vs.toArray,_,hk,rfl,rfl,rfl,by rw[av,lenV];exact hl,by simpa using rv⟩) (λb u z=>by have z':(none:Option HO)=some u:=z;cases z') (λb z=>absurd rfl z) λz=>absurd rfl z
 | none =>
  refine core (λb=>if b=a then some (.frz { cls:=.type "list", data:=.seq vs.toArray } (.lst (ns.map V.int))) else none) (λb=>?_) (.inl (.inr ⟨{ cls:=.type "list", data:=.seq vs.toArray },if_pos rfl⟩)) (λb u z=>?_) (λb z=>?_) λ_=>hk
  ·by_cases hb:b=a
   ·exact .inr ⟨_,_,if_pos hb⟩
   ·exact .inl (if_neg hb)
  ·by_cases hb:b=a
   ·have z':=(if_pos hb).symm.trans z;cases z';subst hb;exact⟨ha,by rw[ak];exact hl,vs,_,rv,ha⟩
   ·have z':=(if_neg hb).symm.trans z;cases z'
  ·by_cases hb:b=a
   ·exact hb
   ·exact absurd (if_neg hb) z
end L2
namespace L2
open PySem PySem.Spec PyProof.Rows
theorem bz1{l:PySem.W.OpenLaw}{n k:Nat}{q:dU}{loose:List Str}{XP:(Str->Option eU)->Heap->Prop}{YP:World->Heap->Prop}{d:DefRec}{K:Params->ag}{CX:World->CXT}{sp:World->Sp}{x:Str}
  (hn:l.most=some n) (hn2:n<=dP) (hdf:d.params.defaults=[]) (hr:Room k callerA)
  (hY:∀(w:World) (h:Heap),YP w h->(K w.params).In h)
  (F:∀(w:World) (mg:Str->Option eU) (fa:eW) (h:Heap),(K w.params).In h->h.Ns dS mg->mg d.name=some (.ref fa) ->
   ∃fd:dX,(∀(s:eV) (u:eU),BindsTo s fd ⟨[u],[]⟩ [(x,u)]) /\
    ∀base:Heap,(K w.params).In base->base.Ns dS mg->FnOk l.prog w (K w.params) mg base (CX w) k fa fd [x] (sp w))
  (hsp:∀(w:World) (H:Hp) (a:eW) (ns:List Int),ns.length<=n->cm0 H->SqL (K w.params) H a (ns.map V.int)->sp w [.ref a] H (λv _=>v=.bl true) λ_ _ _=>False)
  (hCX:∀(w:World) (H:Hp) (s:eV) (e:eU) (s':eV),CX w [] H s (λ_ _ _=>False) e s'->False) :
  PySem.W.WalkO q loose XP YP l.row.toRowW d [] (λf vs=>PySem.call f vs):=by
 refine Att.attach_call hn hdf λw s₀ s₁ mg mb fa o pm cd doc a vs ns G Y ho hd hcd hmg hobj hints hlen hg=>?_
 have KX:=hY w _ Y;obtain⟨fd,hb,hF⟩:=F w mg fa _ KX G.T.g hmg;exact bo1 KX G.T.g G.T.b G.T.builtins G.T.nolimit hg hobj hints (aM hlen hn2) hr hF hb (λH hO hS=>hsp w H a ns hlen hO hS) λH e s'=>hCX w H s₁ e s'
end L2
namespace L2
open PySem PySem.Spec PyProof.Rows
noncomputable def M5(s:Stmt):Arguments:=match s with
 | .FunctionDef _ a _ _ _ _ _ _ _ _=>a
 | _=>{ posonlyargs:=[],args:=[],vararg:=none,kwonlyargs:=[],kw_defaults:=[],kwarg:=none,defaults:=[] }
noncomputable def C8(s:Stmt):List Stmt:=match s with
 | .FunctionDef _ _ b _ _ _ _ _ _ _=>b
 | _=>[]
noncomputable def A2(s:Stmt):Scope:=match s with
 | .FunctionDef _ _ _ _ _ _ sc _ _ _=>sc
 | _=>{ kind:=.function,names:=[],isGenerator:=false,isCoroutine:=false }
noncomputable abbrev CX0:CXT:=λ_ _ _ _ _ _=>False
noncomputable abbrev E0:XK:=λ_ _ _=>False
theorem cs6:U8 CX0 X E0:=λ_ _ _ _ _ _ _ h=>h.elim
structure Fun (K:ag) (x qual:Str) (st:Stmt) (f:eW) (fd:dX):Prop where
 ex:∃(oc:eU) (od:Option eW) (kV doc pm:eU) (an:Option eW) (cdv ct:eU) (osl:Array (Option eU)),
  fd=bx x qual (M5 st) (C8 st) (A2 st) .none kV doc pm an cdv ct/\K.lookup f=some ⟨oc,od,.func fd,osl⟩/\bZ K cdv qual=true
 kp:aD K (.ref f)=true
section
variable {P:Program}{w:World}{K:PySem.W.Frag}{mg:Str->Option Value}{base:Heap}
theorem aL5{x qual:Str}{st:Stmt}{f:eW}{oc:eU}{od an:Option eW}{osl:Array (Option eU)}{kV doc pm cdv ct:eU}(l:K.lookup f=some ⟨oc,od,.func (bx x qual (M5 st) (C8 st) (A2 st) .none kV doc pm an cdv ct),osl⟩)
  (c:bZ K cdv qual=true) (k:aD K (.ref f)=true):Fun K x qual st f (bx x qual (M5 st) (C8 st) (A2 st) .none kV doc pm an cdv ct):=⟨⟨oc,od,kV,doc,pm,an,cdv,ct,osl,rfl,l,c⟩,k⟩
end
theorem R7(h:n<=1000):n < dP:=cf h (by decide)
section
variable {X:Cx}
theorem pv(i:Nat)(hN:X.N[i]? = some x:=by rfl)(hv:Vis X.env.scope x:=by first|exact Or.inl rfl|exact Or.inr (Or.inl rfl)|exact Or.inr (Or.inr rfl))(hd:(x==("__debug__" : Str))=false:=by decide)
  (hcd:(x==("__classdict__" : Str))=false:=by decide):PE X (.Name x pos) (cq1 i):=J9 hN hv hd hcd
end
theorem ag3{A B:Prop}(h:B):if false=true then A else B:=by
 rw[if_neg be];exact h
theorem v5{A B:Prop}(h:A):if true=true then A else B:=by
 rw[if_pos rfl];exact h
noncomputable def B0(H H':Hp):Prop:=∀b o,H b=some o->H' b=some o
theorem B0.refl(H:Hp):B0 H H:=λ_ _ h=>h
theorem B0.trans(a:B0 H H1)(b:B0 H1 H2):B0 H H2:=λc o h=>b c o (a c o h)
theorem B0.free(e:B0 H H')(h:H' l=Option.none):H l=Option.none:=by
 cases q:H l with
 | none=>rfl
 | some o =>
  rw[e l o q]at h;cases h
end L2
set_option maxHeartbeats 4000000
namespace G
theorem xbm{α β:Type}{o:Option α}{f:α->Option β}{b:β}(h:o.bind f=some b):∃a,o=some a/\f a=some b:=ae.mp h
open PySem PySem.Spec PyProof.Rows L2
noncomputable abbrev D:=PyData
mutual
noncomputable def Rep(K:ag) (H:Hp):D->V->Prop
 | .none,v=>v=.non
 | .bool b,v=>v=.bl b
 | .int i,v=>v=.int i
 | .str x,v=>v=.str x
 | .tuple ds,v=>∃a vs,v=.ref a/\SqT K H a vs/\Reps K H ds vs
 | .list ds,v=>∃a vs,v=.ref a/\SqL K H a vs/\Reps K H ds vs
 | .dict kvs,v=>∃a m,v=.ref a/\H a=some (.dK m)/\RepKs K H kvs m
noncomputable def Reps(K:ag) (H:Hp):List D->List V->Prop
 | [],vs=>vs=[]
 | d::ds,vs=>∃v r,vs=v::r/\Rep K H d v/\Reps K H ds r
/-- a dict by texts -/
noncomputable def RepKs(K:ag) (H:Hp):List (D×D)->List (Key×V)->Prop
 | [],m=>m=[]
 | (k,d)::r,m=>∃x v t,k=.str x/\m=(.inr x,v)::t/\Rep K H d v/\RepKs K H r t
end
section
variable {K:PySem.W.Frag}{H H' H0 H1 H2 Hf Hf' Hf1 Hf2:Hp}
theorem aQ4(e:B0 H H')(h:Rd H a u):Rd H' a u:=by
 rcases h with h|⟨o,h⟩
 ·exact .inl (e _ _ h)
 ·exact .inr ⟨o,e _ _ h⟩
theorem C6(e:B0 H H')(h:SqT K H a xs):SqT K H' a xs:=h.imp (aQ4 e) id
theorem C7(e:B0 H H')(h:SqL K H a xs):SqL K H' a xs:=h.imp (aQ4 e) id
mutual
theorem Rep.mono(e:B0 H H'):∀{d:D}{v:V},Rep K H d v->Rep K H' d v
 | .none,_,h=>h
 | .bool _,_,h=>h
 | .int _,_,h=>h
 | .str _,_,h=>h
 | .tuple _,_,⟨a,vs,h1,h2,h3⟩=>⟨a,vs,h1,C6 e h2,Reps.mono e h3⟩
 | .list _,_,⟨a,vs,h1,h2,h3⟩=>⟨a,vs,h1,C7 e h2,Reps.mono e h3⟩
 | .dict _,_,⟨a,m,h1,h2,h3⟩=>⟨a,m,h1,e _ _ h2,RepKs.mono e h3⟩
theorem Reps.mono(e:B0 H H'):∀{ds:List D}{vs:List V},Reps K H ds vs->Reps K H' ds vs
 | [],_,h=>h
 | _::_,_,⟨v,r,h1,h2,h3⟩=>⟨v,r,h1,Rep.mono e h2,Reps.mono e h3⟩
theorem RepKs.mono(e:B0 H H'):∀{ds:List (D×D)}{vs:List (Key×V)},RepKs K H ds vs->RepKs K H' ds vs
 | [],_,h=>h
 | (_,_)::_,_,⟨x,v,t,h1,h2,h3,h4⟩=>⟨x,v,t,h1,h2,Rep.mono e h3,RepKs.mono e h4⟩
end
theorem Reps.length:∀{ds:List D}{vs:List V},Reps K H ds vs->vs.length=ds.length
 | [],_,h=>by cases h;rfl
 | _::_,_,⟨v,r,h1,h2,h3⟩=>by subst h1;simp[Reps.length h3]
theorem Reps.get:∀{ds:List D}{vs:List V}{i:Nat}{d:D},Reps K H ds vs->ds[i]? = some d->∃v,vs[i]? = some v/\Rep K H d v
 | [],_,_,_,_,e=>by simp at e
 | x::_,_,0,_,⟨v,r,h1,h2,h3⟩,e=>by subst h1;simp at e;subst e;exact⟨v,rfl,h2⟩
 | x::_,_,i+1,_,⟨v,r,h1,h2,h3⟩,e=>by
  subst h1;obtain⟨u,q1,q2⟩:=Reps.get (i:=i) h3 (by simpa using e);exact⟨u,by simpa using q1,q2⟩
theorem Reps.append:∀{ds es:List D}{vs us:List V},Reps K H ds vs->Reps K H es us->Reps K H (ds++es) (vs++us)
 | [],_,_,_,h,q=>by cases h;exact q
 | _::_,_,_,_,⟨v,r,h1,h2,h3⟩,q=>by subst h1;exact⟨v,r++_,rfl,h2,Reps.append h3 q⟩
theorem Reps.take:∀{ds:List D}{vs:List V}(n:Nat),Reps K H ds vs->Reps K H (ds.take n) (vs.take n)
 | [],_,n,h=>by cases h;simp[Reps]
 | _::_,_,0,h=>by simp[Reps]
 | _::_,_,n+1,⟨v,r,h1,h2,h3⟩=>by subst h1;exact⟨v,r.take n,rfl,h2,Reps.take n h3⟩
theorem Reps.drop:∀{ds:List D}{vs:List V}(n:Nat),Reps K H ds vs->Reps K H (ds.drop n) (vs.drop n)
 | [],_,n,h=>by cases h;simp[Reps]
 | _::_,_,0,h=>h
 | _::_,_,n+1,⟨v,r,h1,h2,h3⟩=>by subst h1;exact Reps.drop n h3
theorem Reps.ints:∀(ns:List Int),Reps K H (ns.map eL) (ns.map V.int)
 | []=>rfl
 | n::r=>⟨.int n,r.map V.int,rfl,rfl,Reps.ints r⟩
theorem Reps.flatten(h:Reps K H ds vs):∀k:Nat,Reps K H (au k ds).flatten (au k vs).flatten
 | 0=>rfl
 | k+1=>by simp only[bE,bW];exact h.append (Reps.flatten h k)
structure Grow (H Hf H' Hf':Hp):Prop where
 big:B0 H H'
 sub:B0 Hf' H'
 ext:B0 Hf Hf'
 new:∀b,Hf' b≠none->Hf b≠none\/H b=none
theorem Grow.refl(h:B0 Hf H):Grow H Hf H Hf:=⟨B0.refl _,h,B0.refl _,λ_ h=>.inl h⟩
theorem Grow.trans(a:Grow H Hf H1 Hf1)(b:Grow H1 Hf1 H2 Hf2):Grow H Hf H2 Hf2 :=
 ⟨a.big.trans b.big,b.sub,a.ext.trans b.ext,λx h=>(b.new x h).elim (a.new x) λz=>.inr (a.big.free z)⟩
theorem D5(h:H p=none):B0 H (upd H p o):=λb u e=>by rw[A9 (B9 e h)];exact e
theorem Grow.laid(s:B0 Hf H)(h:H p=none):Grow H Hf (upd H p o) (upd Hf p o):=by
 refine⟨D5 h,λb u e=>?_,D5 (s.free h),λb e=>?_⟩
 ·by_cases q:b=p
  ·subst q;rw[A7]at e;rw[A7];exact e
  ·rw[A9 q]at e;rw[A9 q];exact s b u e
 ·by_cases q:b=p
  ·subst q;exact .inr h
  ·rw[A9 q]at e;exact .inl e
theorem Grow.made(s:B0 Hf H)(h:H p=none):Grow H Hf (upd H p o) Hf :=
 ⟨D5 h,s.trans (D5 h),B0.refl _,λ_ e=>.inl e⟩
theorem Grow.freeze(g:Grow H Hf H1 Hf1)(h:H1 p=some o)(n:Hf1 p=none)(f:H p=none):Grow H Hf H1 (upd Hf1 p o):=by
 refine⟨g.big,λb u e=>?_,g.ext.trans (D5 n),λb e=>?_⟩
 ·by_cases q:b=p
  ·subst q;rw[A7]at e;rw[h];exact e
  ·rw[A9 q]at e;exact g.sub b u e
 ·by_cases q:b=p
  ·subst q;exact .inr f
  ·rw[A9 q]at e;exact g.new b e
end
inductive B where
 | val (d:D)
 | own (ds:List D)
 | exc (x:Str)
 | opq (a:eW)
noncomputable abbrev Rho:=List (Option B)
noncomputable def clA(K:ag)(x:Str):Option eW:=match aP K dS x with
 | some (some (.ref C))=>some C
 | _=>none
noncomputable def SB(K:ag)(H0 H Hf:Hp):B->V->Prop
 | .val d,v=>Rep K Hf d v
 | .own ds,v=>∃a vs,v=.ref a/\H a=some (.lst vs)/\Hf a=none/\H0 a=none/\Reps K Hf ds vs
 | .exc x,v=>∃a o C,v=.ref a/\Hf a=some (.frz o (.own a))/\clA K x=some C/\o.cls=.ref C
 | .opq a,v=>v=.ref a
structure Slots (K:ag) (H0:Hp) (ρ:Rho) (σ:L2.St) (H Hf:Hp):Prop where
 len:ρ.length=σ.length
 is:∀(i:Nat) (b:B),ρ[i]? = some (some b)->∃v,σ[i]? = some (some v)/\SB K H0 H Hf b v
 apart:∀(i j:Nat) (ds es:List D) (a:eW),ρ[i]? = some (some (.own ds))->ρ[j]? = some (some (.own es))->σ[i]? = some (some (V.ref a))->σ[j]? = some (some (V.ref a))->i=j
section
variable {K:PySem.W.Frag}{H H' H0 H1 H2 Hf Hf' Hf1 Hf2:Hp}{ρ:Rho}{σ:L2.St}
theorem SB.grow(h:SB K H0 H Hf b v)(g:Grow H Hf H' Hf'):SB K H0 H' Hf' b v:=by
 cases b with
 | val d=>exact Rep.mono g.ext h
 | opq a=>exact h
 | exc C =>
  obtain⟨a,o,C,e,h1,h2⟩:=h;exact⟨a,o,C,e,g.ext _ _ h1,h2⟩
 | own ds =>
  obtain⟨a,vs,e,h1,h2,h3,h4⟩:=h;refine⟨a,vs,e,g.big _ _ h1,?_,h3,h4.mono g.ext⟩;cases q:Hf' a with
  | none=>rfl
  | some u =>
   rcases g.new a (by rw[q];simp) with z|z
   ·exact absurd h2 z
   ·rw[h1]at z;cases z
theorem Slots.grow(s:Slots K H0 ρ σ H Hf)(g:Grow H Hf H' Hf'):Slots K H0 ρ σ H' Hf' :=
 ⟨s.len,λi b e=>let⟨v,h1,h2⟩:=s.is i b e;⟨v,h1,h2.grow g⟩,s.apart⟩
end
noncomputable abbrev DE:=Rho->Option D
noncomputable def tJ(K:ag)(ρ:Rho)(R:Hp->V->Hp->Hp->Prop):TE:=λσ H Q=>∃H0 Hf,B0 Hf H/\Slots K H0 ρ σ H Hf/\∀v H' Hf',Grow H Hf H' Hf'->R H v H' Hf'->Q v H'
noncomputable def JE(X:Cx)(e:Expr)(f:DE):Prop:=∀ρ d,f ρ=some d->PE X e (tJ X.K ρ λ_ v _ Hf=>Rep X.K Hf d v)
noncomputable def Sq(K:ag):Bool->Hp->eW->List V->Prop
 | true=>SqT K
 | false=>SqL K
noncomputable def RQ(K:ag)(t:Bool)(ds:List D)(v:V)(H Hf:Hp):Prop:=∃a vs,v=.ref a/\Sq K t H a vs/\Reps K Hf ds vs
noncomputable def JQ(X:Cx)(e:Expr)(f:Rho->Option (Bool×List D)):Prop:=∀ρ t ds,f ρ=some (t,ds)->PE X e (tJ X.K ρ λ_ v H Hf=>RQ X.K t ds v H Hf)
noncomputable def JN(X:Cx)(e:Expr)(f:Rho->Option (List D)):Prop:=∀ρ ds,f ρ=some ds->PE X e (tJ X.K ρ λH v H' Hf'=>∃a vs,v=.ref a/\H a=none/\H' a=some (.lst vs)/\Hf' a=none/\Reps X.K Hf' ds vs)
noncomputable def tJA(K:ag)(ρ:Rho)(ds:List D):TA:=λσ H Q=>∃H0 Hf,B0 Hf H/\Slots K H0 ρ σ H Hf/\∀vs H' Hf',Grow H Hf H' Hf'->Reps K Hf' ds vs->Q vs H'
structure JA (X:Cx) (es:List Expr) (f:Rho->Option (List D)):Prop where
 len:∀ρ ds,f ρ=some ds->ds.length=es.length
 run:∀ρ ds,f ρ=some ds->PA X es (tJA X.K ρ ds)
noncomputable def JT(X:Cx)(e:Expr)(f:Rho->Option Bool):Prop:=∀ρ c,f ρ=some c->PT X e (λσ H Q=>∃H0 Hf,B0 Hf H/\Slots X.K H0 ρ σ H Hf/\∀H' Hf',Grow H Hf H' Hf'->Q c H')
noncomputable def JW(X:Cx)(e:Expr)(f:Rho->Option Bool):Prop:=∀ρ c,f ρ=some c->PW X e (λσ H Q=>∃H0 Hf,B0 Hf H/\Slots X.K H0 ρ σ H Hf/\∀H' Hf',Grow H Hf H' Hf'->Q c H')
section
variable {X:Cx}
theorem A5(h:PE X e t)(i:∀σ H Q,t' σ H Q->t σ H Q):PE X e t':=λpins s σ H Q I q=>h pins s σ H Q I (i σ H Q q)
theorem X0(h:PT X e t)(i:∀σ H Q,t' σ H Q->t σ H Q):PT X e t':=λpins s σ H Q I q=>h pins s σ H Q I (i σ H Q q)
noncomputable def dC(d:D):DE:=λ_=>some d
noncomputable def A1(i:Nat):DE:=λρ=>match ρ[i]? with
 | some (some (.val d))=>some d
 | _=>none
noncomputable def B2(i:Nat):Rho->Option (Bool×List D):=λρ=>match ρ[i]? with
 | some (some (.own ds))=>some (false,ds)
 | some (some (.val (.list ds)))=>some (false,ds)
 | some (some (.val (.tuple ds)))=>some (true,ds)
 | _=>none
noncomputable def aB4:D->Option (Bool×List D)
 | .list ds=>some (false,ds)
 | .tuple ds=>some (true,ds)
 | _=>none
theorem aK6:JE X (.Constant (.int i) j pos) (dC (.int i)):=λρ d h=>by
 cases h;exact A5 ca9 λσ H Q ⟨H0,Hf,s,sl,k⟩=>k _ H Hf (Grow.refl s) rfl
theorem bs0:JE X (.Constant (.bool b) j pos) (dC (.bool b)):=λρ d h=>by
 cases h;exact A5 cs5 λσ H Q ⟨H0,Hf,s,sl,k⟩=>k _ H Hf (Grow.refl s) rfl
theorem ci7:JE X (.Constant .none j pos) (dC .none):=λρ d h=>by
 cases h;exact A5 ca8 λσ H Q ⟨H0,Hf,s,sl,k⟩=>k _ H Hf (Grow.refl s) rfl
theorem al3:JE X (.Constant (.str x) j pos) (dC (.str x)):=λρ d h=>by
 cases h;exact A5 ca5 λσ H Q ⟨H0,Hf,s,sl,k⟩=>k _ H Hf (Grow.refl s) rfl
theorem bq8(i:Nat)(hN:X.N[i]? = some x:=by rfl)(hv:Vis X.env.scope x:=by first|exact Or.inl rfl|exact Or.inr (Or.inl rfl)|exact Or.inr (Or.inr rfl))(hd:(x==("__debug__" : Str))=false:=by decide)
  (hcd:(x==("__classdict__" : Str))=false:=by decide):JE X (.Name x pos) (A1 i):=λρ d h=>by
 refine A5 (J9 hN hv hd hcd) λσ H Q ⟨H0,Hf,s,sl,k⟩=>?_
 unfold A1 at h;split at h
 ·rename_i d' e;cases h;obtain⟨v,h1,h2⟩:=sl.is i _ e;exact⟨v,h1,k v H Hf (Grow.refl s) h2⟩
 ·cases h
theorem ch6(i:Nat)(hN:X.N[i]? = some x:=by rfl)(hv:Vis X.env.scope x:=by first|exact Or.inl rfl|exact Or.inr (Or.inl rfl)|exact Or.inr (Or.inr rfl))(hd:(x==("__debug__" : Str))=false:=by decide)
  (hcd:(x==("__classdict__" : Str))=false:=by decide):JQ X (.Name x pos) (B2 i):=λρ t ds h=>by
 refine A5 (J9 hN hv hd hcd) λσ H Q ⟨H0,Hf,s,sl,k⟩=>?_
 unfold B2 at h;split at h
 ·rename_i d' e;cases h;obtain⟨v,h1,a,vs,rfl,h2,h3,h4,h5⟩:=sl.is i _ e;exact⟨_,h1,k _ H Hf (Grow.refl s) ⟨a,vs,rfl,SqL.of h2,h5⟩⟩
 ·rename_i d' e;cases h;obtain⟨v,h1,a,vs,rfl,h2,h3⟩:=sl.is i _ e;exact⟨_,h1,k _ H Hf (Grow.refl s) ⟨a,vs,rfl,C7 s h2,h3⟩⟩
 ·rename_i d' e;cases h;obtain⟨v,h1,a,vs,rfl,h2,h3⟩:=sl.is i _ e;exact⟨_,h1,k _ H Hf (Grow.refl s) ⟨a,vs,rfl,C6 s h2,h3⟩⟩
 ·cases h
theorem Rep.seq{K:ag}{H Hf:Hp}{d:D}{v:V}{t:Bool}{ds:List D}(h:Rep K Hf d v)(s:B0 Hf H)(e:aB4 d=some (t,ds)):RQ K t ds v H Hf:=by
 cases d with
 | list xs=>cases e;obtain⟨a,vs,e1,e2,e3⟩:=h;exact⟨a,vs,e1,C7 s e2,e3⟩
 | tuple xs=>cases e;obtain⟨a,vs,e1,e2,e3⟩:=h;exact⟨a,vs,e1,C6 s e2,e3⟩
 | _=>cases e
noncomputable def qE(f:DE):Rho->Option (Bool×List D):=λρ=>(f ρ).bind aB4
theorem bQ6(h:JE X e f):JQ X e (qE f):=λρ t ds q=>by
 obtain⟨d,h1,h2⟩:=xbm q;exact A5 (h ρ d h1) λσ H Q ⟨H0,Hf,s,sl,k⟩=>⟨H0,Hf,s,sl,λv H' Hf' g r=>k v H' Hf' g (r.seq g.sub h2)⟩
noncomputable def A4:Rho->Option (List D):=λ_=>some []
noncomputable def A0(f:DE)(g:Rho->Option (List D)):Rho->Option (List D):=λρ=>(f ρ).bind λd=>(g ρ).map λds=>d::ds
theorem al5:JA X [] A4:=⟨λρ ds h=>by cases h;rfl,λρ ds h pos pins s σ H Q I ⟨H0,Hf,ss,sl,k⟩=>by
 cases h
 exact D3 pos pins s σ H Q I (k [] H Hf (Grow.refl ss) rfl)⟩
theorem U0(h:JE X e f)(r:JA X es g)(hs:dO (e::es) X.env=(false,eval e X.env)::dO es X.env:=by rfl):JA X (e::es) (A0 f g):=by
 refine⟨λρ ds q=>?_,λρ ds q=>?_⟩
 ·obtain⟨d,h1,h2⟩:=xbm q;obtain⟨es',h3,h4⟩:=af.mp h2;subst h4;simp[r.len ρ es' h3]
 ·obtain⟨d,h1,h2⟩:=xbm q;obtain⟨es',h3,h4⟩:=af.mp h2;subst h4;intro pos pins s σ H Q I ⟨H0,Hf,ss,sl,k⟩;refine B6 (h ρ d h1) (r.run ρ es' h3) hs pos pins s σ H Q I ⟨H0,Hf,ss,sl,λv H1 Hf1 g1 r1=>⟨H0,Hf1,g1.sub,sl.grow g1,λvs H2 Hf2 g2 r2=>?_⟩⟩;exact k (v::vs) H2 Hf2 (g1.trans g2) ⟨v,vs,rfl,r1.mono g2.ext,r2⟩
noncomputable def M6(f:Rho->Option (List D)):DE:=λρ=>(f ρ).map PyData.tuple
theorem aK4(h:JA X es f)(hn:es.length<=1000:=by decide):JE X (.Tuple es k pos) (M6 f):=λρ d q=>by
 obtain⟨ds,h1,h2⟩:=af.mp q;subst h2;refine A5 (aJ3 λpos pins s σ H Q I t=>h.run ρ ds h1 pos pins s σ H Q I t) λσ H Q ⟨H0,Hf,s,sl,k⟩=>?_
 refine⟨H0,Hf,s,sl,λvs H1 Hf1 g r=>⟨?_,λp hp=>?_⟩⟩
 ·rw[r.length,h.len ρ ds h1];exact bG (R7 hn)
 ·exact k _ _ _ (g.trans (Grow.laid g.sub hp)) ⟨p,vs,rfl,SqT.of A7,r.mono (Grow.laid (o:=.tup vs) g.sub hp).ext⟩
theorem bp9(h:JA X es f)(hn:es.length<=1000:=by decide):JN X (.List es pos) f:=λρ ds h1=>by
 refine A5 (bj5 λpos pins s σ H Q I t=>h.run ρ ds h1 pos pins s σ H Q I t) λσ H Q ⟨H0,Hf,s,sl,k⟩=>?_
 refine⟨H0,Hf,s,sl,λvs H1 Hf1 g r=>⟨?_,λp hp=>?_⟩⟩
 ·rw[r.length,h.len ρ ds h1];exact bG (R7 hn)
 ·exact k _ _ _ (g.trans (Grow.made g.sub hp)) ⟨p,vs,rfl,g.big.free hp,A7,g.sub.free hp,r⟩
noncomputable def N7(f:Rho->Option (List D)):DE:=λρ=>(f ρ).map PyData.list
theorem al4(h:JN X e f):JE X e (N7 f):=λρ d q=>by
 obtain⟨ds,h1,h2⟩:=af.mp q;subst h2;refine A5 (h ρ ds h1) λσ H Q ⟨H0,Hf,s,sl,k⟩=>⟨H0,Hf,s,sl,λv H' Hf' g ⟨a,vs,e1,e2,e3,e4,e5⟩=>?_⟩
 subst e1;exact k _ _ _ (g.freeze e3 e4 e2) ⟨a,vs,rfl,SqL.of A7,e5.mono (D5 e4)⟩
theorem bp7(h:JN X e f):JQ X e (λρ=>(f ρ).map λds=>(false,ds)):=λρ t ds q=>by
 obtain⟨ds',h1,h2⟩:=af.mp q;cases h2;refine A5 (h ρ ds h1) λσ H Q ⟨H0,Hf,s,sl,k⟩=>⟨H0,Hf,s,sl,λv H' Hf' g ⟨a,vs,e1,e2,e3,e4,e5⟩=>?_⟩
 subst e1;exact k _ _ _ g ⟨a,vs,rfl,SqL.of e3,e5⟩
noncomputable def OpD(X:Cx)(F:eU->eU->Sem eU)(h:D->D->Option D):Prop:=∀x y z,h x y=some z ->
 OpR X F λvx vy H Q=>∃Hf,B0 Hf H/\Rep X.K Hf x vx/\Rep X.K Hf y vy/\∀v H' Hf',Grow H Hf H' Hf'->Rep X.K Hf' z v->Q v H'
noncomputable def A3(h:D->D->Option D)(f g:DE):DE:=λρ=>(f ρ).bind λx=>(g ρ).bind λy=>h x y
theorem n8(o:OpD X (dZ op) h)(ha:JE X a f)(hb:JE X b g):JE X (.BinOp a op b pos) (A3 h f g):=λρ d q=>by
 obtain⟨x,h1,q⟩:=xbm q;obtain⟨y,h2,h3⟩:=xbm q;refine A5 (bj3 (o x y d h3) (ha ρ x h1) (hb ρ y h2)) λσ H Q ⟨H0,Hf,s,sl,k⟩=>?_
 refine⟨H0,Hf,s,sl,λv H1 Hf1 g1 r1=>⟨H0,Hf1,g1.sub,sl.grow g1,λu H2 Hf2 g2 r2=>?_⟩⟩;exact⟨Hf2,g2.sub,r1.mono g2.ext,r2,λw H3 Hf3 g3 r3=>k w H3 Hf3 ((g1.trans g2).trans g3) r3⟩
theorem cj2(o:OpD X (dR op) h)(ha:JE X a f)(hb:JE X b g)(hm:behindInMarks op b=false:=by first|exact av3 _|rfl):JE X (.Compare a [op] [b] pos) (A3 h f g):=λρ d q=>by
 obtain⟨x,h1,q⟩:=xbm q;obtain⟨y,h2,h3⟩:=xbm q;refine A5 (aR4 (o x y d h3) (ha ρ x h1) (hb ρ y h2) hm) λσ H Q ⟨H0,Hf,s,sl,k⟩=>?_
 refine⟨H0,Hf,s,sl,λv H1 Hf1 g1 r1=>⟨H0,Hf1,g1.sub,sl.grow g1,λu H2 Hf2 g2 r2=>?_⟩⟩;exact⟨Hf2,g2.sub,r1.mono g2.ext,r2,λw H3 Hf3 g3 r3=>k w H3 Hf3 ((g1.trans g2).trans g3) r3⟩
theorem OpR.imp(h:OpR X F r)(i:∀x y H Q,r' x y H Q->r x y H Q):OpR X F r':=λpins s σ H x y v u Q I rx ry q=>h pins s σ H x y v u Q I rx ry (i x y H Q q)
end
end G
namespace G
open PySem PySem.Spec PyProof.Rows L2
section
variable {X:Cx}
noncomputable def D6(i:Int):Prop:=i.natAbs < 2 ^ 8000
instance:DecidablePred D6:=λi=>inferInstanceAs (Decidable (i.natAbs < 2 ^ 8000))
theorem D6.log(h:D6 i)(h0:i.natAbs≠0):i.natAbs.log2 < 8000:=(Nat.log2_lt h0).mpr h
theorem D6.bits(h:D6 i):Builtin.Int.intBits i<=2 ^ 20:=by
 unfold Builtin.Int.intBits;split
 ·exact aU _
 ·rename_i h0;have:=h.log (by simpa using h0)
  grind
theorem bH1:OpR X (dZ .Mult) (rI (λi j=>D6 i/\D6 j) λi j=>.int (i*j)):=opI λ_ _ _ _ _ _ _ hc q=>mul_int q (PySem.IntMulOk.of_bits hc.1.bits hc.2.bits)
noncomputable def addI(x y:D):Option D:=match x,y with
 | .int i,.int j=>some (.int (i+j))
 | _,_=>none
noncomputable def cA8(x y:D):Option D:=match x,y with
 | .int i,.int j=>some (.int (i - j))
 | .int i,.bool b=>some (.int (i - if b=true then 1 else 0))
 | .bool a,.int j=>some (.int ((if a=true then 1 else 0) - j))
 | _,_=>none
noncomputable def ce0(x y:D):Option D:=match x,y with
 | .int i,.int j=>if D6 i/\D6 j then some (.int (i*j)) else none
 | _,_=>none
noncomputable def Z3(x y:D):Option D:=match x,y with
 | .int i,.int j=>if 0 < j/\D6 j then some (.int (i / j)) else none
 | _,_=>none
noncomputable def O2(x y:D):Option D:=match x,y with
 | .int i,.int j=>if 0 < j then some (.int (i % j)) else none
 | _,_=>none
noncomputable def bi7(x y:D):Option D:=match x,y with
 | .int i,.int j=>if 0<=j/\j<=1000000/\i.natAbs < 2 ^ 64 then some (.int (i ^ j.toNat)) else none
 | _,_=>none
theorem cC5:OpD X (dZ .Add) addI:=λx y z h=>by
 unfold addI at h;split at h
 ·cases h;exact OpR.imp bl0 λvx vy H Q ⟨Hf,s,r1,r2,k⟩=>⟨_,_,r1,r2,k _ H Hf (Grow.refl s) rfl⟩
 ·cases h
theorem cd2:OpD X (dZ .Mult) ce0:=λx y z h=>by
 unfold ce0 at h;split at h
 ·split at h
  ·rename_i c;cases h;exact OpR.imp bH1 λvx vy H Q ⟨Hf,s,r1,r2,k⟩=>⟨_,_,r1,r2,c,k _ H Hf (Grow.refl s) rfl⟩
  ·cases h
 ·cases h
theorem aX9:OpR X (dZ .FloorDiv) (rI (λ_ j=>0 < j/\D6 j) λi j=>.int (i / j)):=opI λi j _ _ s Q E hc q=>by
 have e:i.fdiv j=i / j:=Int.fdiv_eq_ediv_of_nonneg i (Int.le_of_lt hc.1);refine floordiv_int (by grind) (by rw[e];exact q) (.inl (PyProof.noPylong_of_log2 ?_));have h2:=hc.2.log (by grind)
 grind
theorem cd6:OpD X (dZ .FloorDiv) Z3:=λx y z h=>by
 unfold Z3 at h;split at h
 ·split at h
  ·rename_i c;cases h;exact OpR.imp aX9 λvx vy H Q ⟨Hf,s,r1,r2,k⟩=>⟨_,_,r1,r2,c,k _ H Hf (Grow.refl s) rfl⟩
  ·cases h
 ·cases h
theorem cd3:OpD X (dZ .Mod) O2:=λx y z h=>by
 unfold O2 at h;split at h
 ·split at h
  ·rename_i c;cases h;exact OpR.imp cc3 λvx vy H Q ⟨Hf,s,r1,r2,k⟩=>⟨_,_,r1,r2,c,k _ H Hf (Grow.refl s) rfl⟩
  ·cases h
 ·cases h
theorem cd1:OpD X (dZ .Pow) bi7:=λx y z h=>by
 unfold bi7 at h;split at h
 ·split at h
  ·rename_i c;cases h;exact OpR.imp cc2 λvx vy H Q ⟨Hf,s,r1,r2,k⟩=>⟨_,_,r1,r2,c,k _ H Hf (Grow.refl s) rfl⟩
  ·cases h
 ·cases h
theorem bk9:OpR X (dZ .Add) (λx y H Q=>∃a b ys,x=.ref a/\y=.ref b/\SqT X.K H a []/\SqT X.K H b ys/\Q (.ref b) H):=by
 intro pins s σ H x y v u Q I rx ry h;obtain⟨a,b,ys,rfl,rfl,ha,hb,q⟩:=h;cases rx;cases ry;obtain⟨its,r1,p1,_⟩:=I.tuple ha;obtain⟨its2,r2,p2,_⟩:=I.tuple hb;cases r1;obtain⟨⟨cls,dd,data,sl⟩,ho,hc,n,hd⟩:=id p1;obtain⟨⟨cls2,dd2,data2,sl2⟩,ho2,hc2,n2,hd2⟩:=id p2;simp only at hc hd hc2 hd2;subst hc hd hc2 hd2
 exact concat_meets ⟨_,ho,rfl⟩ ⟨_,ho2,rfl⟩ noFill_tuple_add seq_tuple_add PySem.F.slot_tuple_add PySem.F.entry_tuple_add (PySem.F.args_tuple_add_2 _ _)
   (tuple_addW0 a b _ its2.toArray n n2 dd dd2 sl sl2 (by rfl)) ⟨ho,ho2,⟨.ref b,H,I,rfl,q⟩⟩
noncomputable def Z4(x y:D):Option D:=match x,y with
 | .tuple xs,.tuple ys=>if xs.length+ys.length<=16777216 then some (.tuple (xs++ys)) else none
 | .str a,.str b=>if a.length+b.length<=16777216 then some (.str (a++b)) else none
 | .int i,.int j=>some (.int (i+j))
 | .bool a,.int j=>some (.int ((if a=true then 1 else 0)+j))
 | _,_=>none
theorem bl8:OpD X (dZ .Add) Z4:=λx y z h=>by
 unfold Z4 at h;split at h
 ·split at h
  ·rename_i xs ys c;cases h;cases xs with
   | nil =>
    refine OpR.imp bk9 λvx vy H Q ⟨Hf,s,r1,r2,k⟩=>?_
    obtain⟨a,vs,rfl,h2,h3⟩:=r1;obtain⟨b,us,rfl,h5,h6⟩:=r2;cases h3;exact⟨a,b,us,rfl,rfl,C6 s h2,C6 s h5,k _ H Hf (Grow.refl s) ⟨b,us,rfl,h5,h6⟩⟩
   | cons d0 ds0 =>
    refine OpR.imp bH3 λvx vy H Q ⟨Hf,s,r1,r2,k⟩=>?_
    obtain⟨a,vs,rfl,h2,h3⟩:=r1;obtain⟨b,us,rfl,h5,h6⟩:=r2;have l1:=h3.length;have l2:=h6.length;refine⟨a,b,vs,us,rfl,rfl,C6 s h2,C6 s h5,?_,by rw[dQ];grind,λe=>?_,λe p hp=>?_⟩
    ·intro e;subst e;simp at l1
    ·subst e;have:ys=[]:=by cases ys<;>simp_all
     subst this;exact k _ H Hf (Grow.refl s) ⟨a,vs,rfl,h2,by rw[aw];exact h3⟩
    ·exact k _ _ _ (Grow.laid s hp) ⟨p,vs++us,rfl,SqT.of A7,(h3.append h6).mono (D5 (s.free hp))⟩
  ·cases h
 ·split at h
  ·rename_i c;cases h;exact OpR.imp aJ5 λvx vy H Q ⟨Hf,s,r1,r2,k⟩=>⟨_,_,r1,r2,by rw[dQ];exact c,k _ H Hf (Grow.refl s) rfl⟩
  ·cases h
 ·cases h;exact OpR.imp bl0 λvx vy H Q ⟨Hf,s,r1,r2,k⟩=>⟨_,_,r1,r2,k _ H Hf (Grow.refl s) rfl⟩
 ·cases h;intro pins s σ H vx vy v u Q I rx ry ⟨Hf,ss,r1,r2,k⟩;cases r1;cases r2;obtain⟨t,rfl⟩:=ry;obtain rfl:v=Value.bool _:=rx;exact PySem.IntBool.add_bool_int ⟨.int _,H,I.tok _,⟨_,rfl⟩,k _ H Hf (Grow.refl ss) rfl⟩
 ·cases h
noncomputable def ltI(x y:D):Option D:=match x,y with
 | .int i,.int j=>some (.bool (decide (i < j)))
 | _,_=>none
noncomputable def leI(x y:D):Option D:=match x,y with
 | .int i,.int j=>some (.bool (decide (i<=j)))
 | _,_=>none
noncomputable def gtI(x y:D):Option D:=match x,y with
 | .int i,.int j=>some (.bool (decide (j < i)))
 | _,_=>none
noncomputable def geI(x y:D):Option D:=match x,y with
 | .int i,.int j=>some (.bool (decide (j<=i)))
 | _,_=>none
theorem ct4:OpD X (dR .Lt) ltI:=λx y z h=>by
 unfold ltI at h;split at h
 ·cases h;exact OpR.imp cs9 λvx vy H Q ⟨Hf,s,r1,r2,k⟩=>⟨_,_,r1,r2,k _ H Hf (Grow.refl s) rfl⟩
 ·cases h
theorem ct5:OpD X (dR .LtE) leI:=λx y z h=>by
 unfold leI at h;split at h
 ·cases h;exact OpR.imp ct0 λvx vy H Q ⟨Hf,s,r1,r2,k⟩=>⟨_,_,r1,r2,k _ H Hf (Grow.refl s) rfl⟩
 ·cases h
theorem ct6:OpD X (dR .Gt) gtI:=λx y z h=>by
 unfold gtI at h;split at h
 ·cases h;exact OpR.imp ct2 λvx vy H Q ⟨Hf,s,r1,r2,k⟩=>⟨_,_,r1,r2,k _ H Hf (Grow.refl s) rfl⟩
 ·cases h
theorem ct7:OpD X (dR .GtE) geI:=λx y z h=>by
 unfold geI at h;split at h
 ·cases h;exact OpR.imp ct3 λvx vy H Q ⟨Hf,s,r1,r2,k⟩=>⟨_,_,r1,r2,k _ H Hf (Grow.refl s) rfl⟩
 ·cases h
mutual
theorem Rep.reads(I:Inv X pins σ H s):∀{d:D}{v:V}{u:eU},Rep X.K H d v->C5 v u->∃as,Reads s.heap u d as
 | .none,_,_,h,r=>by cases h;cases r;exact⟨_,.none⟩
 | .bool b,_,_,h,r=>by cases h;cases r;exact⟨_,.bool b⟩
 | .int i,_,_,h,r=>by cases h;obtain⟨t,rfl⟩:=r;exact⟨_,.int i t⟩
 | .str x,_,_,h,r=>by cases h;obtain⟨t,rfl⟩:=r;exact⟨_,.str x t⟩
 | .tuple ds,_,_,⟨a,vs,h1,h2,h3⟩,r=>by
  subst h1;cases r;obtain⟨its,rv,⟨o,ho,hc,n,hd⟩,_⟩:=I.tuple h2;obtain⟨as,q⟩:=Reps.reads I h3 rv;exact⟨_,.tuple ho hc hd (by simpa using q)⟩
 | .list ds,_,_,⟨a,vs,h1,h2,h3⟩,r=>by
  subst h1;cases r;obtain⟨its,rv,pl,_⟩:=I.list h2;obtain⟨o,ho,hc,n,hd⟩:=pl.isList;obtain⟨as,q⟩:=Reps.reads I h3 rv;exact⟨_,.list ho hc hd (by simpa using q)⟩
 | .dict kvs,_,_,⟨a,m,h1,h2,h3⟩,r=>by
  subst h1;cases r;obtain⟨_,_,vs,rk,o,es,ep,ho,hx,hd,_,hp,_⟩:=(show F9 X.prog X.w H s.heap a (.dK m) from I.hok a _ h2);obtain⟨as,bs,q1,q2⟩:=RepKs.reads I h3 rk hp;exact⟨_,.dict ho hx.1 hd q1 q2⟩
theorem RepKs.reads(I:Inv X pins σ H s):∀{kvs:List (D×D)}{m:List (Key×V)}{vs:List (Key×eU)}{es:List DictEntry},RepKs X.K H kvs m->KV m vs->Pairs (E7 X.prog X.w) es vs ->
  ∃as bs,ReadsAll s.heap (es.map (·.key)) (kvs.map (·.1)) as/\ReadsAll s.heap (es.map (·.val)) (kvs.map (·.2)) bs
 | [],_,_,_,h,r,p=>by cases h;cases r;cases p;exact⟨_,_,.nil,.nil⟩
 | (k,d)::kvs,_,_,_,⟨x,v,t,h1,h2,h3,h4⟩,r,p=>by
  subst h1 h2;cases r with
  | @cons _ b _ bs r1 r2 =>
   cases p with
   | @cons e kv es _ p1 p2 p3 =>
    obtain⟨as,cs,q1,q2⟩:=RepKs.reads I h4 r2 p3;obtain⟨r1,r3⟩:=r1;rw[← p2]at r3;obtain⟨ds,q3⟩:=Rep.reads I h3 r3;rw[← r1]at p1;have hk:∃t,e.key=.str x t:=Value.isStrOf_shape (x:=x) (v:=e.key) p1;obtain⟨t,hk⟩:=hk;refine⟨_,_,.cons (as:=[]) ?_ q1,.cons q3 q2⟩;show Reads s.heap e.key (.str x) [];rw[hk];exact .str x t
theorem Reps.reads(I:Inv X pins σ H s):∀{ds:List D}{vs:List V}{us:List eU},Reps X.K H ds vs->C9 vs us->∃as,ReadsAll s.heap us ds as
 | [],_,_,h,r=>by cases h;cases r;exact⟨_,.nil⟩
 | d::ds,_,_,⟨v,vr,h1,h2,h3⟩,r=>by
  subst h1;cases r with
  | cons r1 r2 =>
   obtain⟨as,q1⟩:=Rep.reads I h2 r1;obtain⟨bs,q2⟩:=Reps.reads I h3 r2;exact⟨_,.cons q1 q2⟩
end
noncomputable def eqD(x y:D):Option D:=if eJ x=true/\eJ y=true then some (.bool (eK x y)) else none
noncomputable def neD(x y:D):Option D:=if eJ x=true/\eJ y=true then some (.bool (!PyData.eqv x y)) else none
theorem bP5(hu:X.A.units+64 < cLine):OpD X (dR .Eq) eqD:=λx y z h=>by
 unfold eqD at h;split at h
 ·rename_i c;cases h;intro pins s σ H vx vy v u Q I rx ry ⟨Hf,ss,r1,r2,k⟩;obtain⟨as,q1⟩:=Rep.reads I (r1.mono ss) rx;obtain⟨bs,q2⟩:=Rep.reads I (r2.mono ss) ry;exact eq_dataH q1 q2 c.1 c.2 hu ⟨.bl _,H,I,rfl,k _ H Hf (Grow.refl ss) rfl⟩
 ·cases h
theorem bl7(hu:X.A.units+64 < cLine):OpD X (dR .NotEq) neD:=λx y z h=>by
 unfold neD at h;split at h
 ·rename_i c;cases h;intro pins s σ H vx vy v u Q I rx ry ⟨Hf,ss,r1,r2,k⟩;obtain⟨as,q1⟩:=Rep.reads I (r1.mono ss) rx;obtain⟨bs,q2⟩:=Rep.reads I (r2.mono ss) ry;exact ne_dataH q1 q2 c.1 c.2 hu ⟨.bl _,H,I,rfl,k _ H Hf (Grow.refl ss) rfl⟩
 ·cases h
noncomputable def isN(x y:D):Option D:=match x,y with
 | .none,.none=>some (.bool true)
 | _,.none=>some (.bool false)
 | _,_=>none
theorem bE2{K:ag}{H:Hp}{d:D}{v:V}(h:Rep K H d v):(decide (v=.non))=(match d with | .none=>true|_=>false):=by
 cases d with
 | none=>cases h;rfl
 | bool b=>cases h;rfl
 | int b=>cases h;rfl
 | str b=>cases h;rfl
 | tuple ds=>obtain⟨a,vs,rfl,_⟩:=h;rfl
 | list ds=>obtain⟨a,vs,rfl,_⟩:=h;rfl
 | dict ds=>obtain⟨a,m,rfl,_⟩:=h;rfl
theorem cd4:OpD X (dR .Is) isN:=λx y z h=>by
 refine OpR.imp cc5 λvx vy H Q ⟨Hf,s,r1,r2,k⟩=>?_
 have e:=bE2 r1
 cases y<;>cases x<;>simp only[isN,bg.injEq,reduceCtorEq]at h <;>
  (subst h;simp only at e;rw[e];exact⟨r2,k _ H Hf (Grow.refl s) rfl⟩)
noncomputable def U6(h1 h2:D->D->Option D)(f g k:DE):DE:=λρ=>(f ρ).bind λx=>(g ρ).bind λy=>(h1 x y).bind λz=>match z with
 | .bool true=>(k ρ).bind λw=>h2 y w
 | .bool false=>some (.bool false)
 | _=>none
theorem br7(o1:OpD X (dR op) h1)(o2:OpD X (dR op') h2)(ha:JE X a f)(hb:JE X b g)(hc:JE X c k)
  (hm:lastMarks [op,op'] [b,c]=false:=by with_unfolding_all rfl):JE X (.Compare a [op,op'] [b,c] pos) (U6 h1 h2 f g k):=λρ d q=>by
 obtain⟨x,e1,q⟩:=xbm q;obtain⟨y,e2,q⟩:=xbm q;obtain⟨z,e3,q⟩:=xbm q;split at q
 ·obtain⟨w,e4,e5⟩:=xbm q;refine A5 (aC2 (o1 x y _ e3) (o2 y w d e5) (ha ρ x e1) (hb ρ y e2) (hc ρ w e4) hm) λσ H Q ⟨H0,Hf,s,sl,kk⟩=>?_
  refine⟨H0,Hf,s,sl,λv H1 Hf1 g1 r1=>⟨H0,Hf1,g1.sub,sl.grow g1,λu H2 Hf2 g2 r2=>⟨Hf2,g2.sub,r1.mono g2.ext,r2,λz' H3 Hf3 g3 r3=>?_⟩⟩⟩;refine⟨true,r3,v5 ⟨H0,Hf3,g3.sub,sl.grow ((g1.trans g2).trans g3),λw' H4 Hf4 g4 r4=>⟨Hf4,g4.sub,r2.mono (g3.trans g4).ext,r4,λz2 H5 Hf5 g5 r5=>?_⟩⟩⟩;exact kk z2 H5 Hf5 ((((g1.trans g2).trans g3).trans g4).trans g5) r5
 ·cases q;intro pins s σ H Q I ⟨H0,Hf,ss,sl,kk⟩;refine aC2 (tc:=λ_ _ _=>False) (r':=λ_ _ _ _=>False) (o1 x y _ e3) (λ_ _ _ _ _ _ _ _ _ _ _ _ h=>h.elim) (ha ρ x e1) (hb ρ y e2) (λ_ _ _ _ _ _ h=>h.elim) hm pins s σ H Q I ?_;refine⟨H0,Hf,ss,sl,λv H1 Hf1 g1 r1=>⟨H0,Hf1,g1.sub,sl.grow g1,λu H2 Hf2 g2 r2=>⟨Hf2,g2.sub,r1.mono g2.ext,r2,λz' H3 Hf3 g3 r3=>?_⟩⟩⟩;exact⟨false,r3,ag3 (kk _ H3 Hf3 ((g1.trans g2).trans g3) rfl)⟩
 ·cases q
theorem ci5(h:JE X a f):JE X (.BoolOp op [a] pos) f:=λρ d q=>ca6 (h ρ d q)
noncomputable def p7(f g:DE):DE:=λρ=>(f ρ).bind λx=>match x with
 | .bool true=>g ρ
 | .bool false=>some (.bool false)
 | _=>none
noncomputable def dOr(f g:DE):DE:=λρ=>(f ρ).bind λx=>match x with
 | .bool true=>some (.bool true)
 | .bool false=>g ρ
 | .none=>g ρ
 | .tuple (y::r)=>some (.tuple (y::r))
 | _=>none
noncomputable def bv7(f:DE):DE:=λρ=>(f ρ).bind λx=>match x with
 | .bool c=>some (.bool (!c))
 | _=>none
theorem cj3{a b:Expr}{P0:List Expr}{f g:DE}{pos:Pos}(ha:JE X a f)(hb:JE X (.BoolOp .And (b::P0) pos) g):JE X (.BoolOp .And (a::b::P0) pos) (p7 f g):=λρ d q=>by
 obtain⟨x,e1,q⟩:=xbm q;split at q
 ·refine A5 (bk3 (ha ρ _ e1) (hb ρ d q)) λσ H Q ⟨H0,Hf,s,sl,k⟩=>⟨H0,Hf,s,sl,λv H1 Hf1 g1 r1=>⟨true,r1,v5 ⟨H0,Hf1,g1.sub,sl.grow g1,λu H2 Hf2 g2 r2=>k u H2 Hf2 (g1.trans g2) r2⟩⟩⟩
 ·cases q;refine A5 (bk3 (tb:=λ_ _ _=>False) (ha ρ _ e1) (λ_ _ _ _ _ _ h=>h.elim)) λσ H Q ⟨H0,Hf,s,sl,k⟩=>⟨H0,Hf,s,sl,λv H1 Hf1 g1 r1=>⟨false,r1,ag3 (k _ H1 Hf1 g1 rfl)⟩⟩
 ·cases q
theorem ci6(ha:JE X a f):JE X (.UnaryOp .Not a pos) (bv7 f):=λρ d q=>by
 obtain⟨x,e1,q⟩:=xbm q;split at q
 ·cases q;exact A5 (ca7 (ha ρ _ e1)) λσ H Q ⟨H0,Hf,s,sl,k⟩=>⟨H0,Hf,s,sl,λv H1 Hf1 g1 r1=>⟨_,r1,k _ H1 Hf1 g1 rfl⟩⟩
 ·cases q
noncomputable def bW7:D->Option Bool
 | .none=>some false
 | .bool b=>some b
 | .int i=>some (i != 0)
 | .str x=>if x.length<=16777216 then some ((x.length:Int) != 0) else none
 | .list ds=>some (!ds.isEmpty)
 | .tuple ds=>some (!ds.isEmpty)
 | .dict _=>none
noncomputable def S4(f:DE):Rho->Option Bool:=λρ=>(f ρ).bind bW7
theorem bp1(ha:JE X a f)(he:∀whole,isTrue a X.env whole=(do let v ← whole;standAt a.pos;holding [v] (truthy v)):=by intro _;rfl):JT X a (S4 f):=λρ c q=>by
 obtain⟨d,e1,e2⟩:=xbm q;refine X0 (aB7 (ha ρ d e1) he) λσ H Q ⟨H0,Hf,s,sl,k⟩=>⟨H0,Hf,s,sl,λv H1 Hf1 g1 r1=>⟨c,?_,k H1 Hf1 g1⟩⟩
 cases d with
 | none=>cases e2;cases r1;rfl
 | bool b=>cases e2;cases r1;rfl
 | int i=>cases e2;cases r1;rfl
 | str x =>
  simp only[bW7]at e2;split at e2
  ·rename_i hx;cases e2;cases r1;exact⟨by rw[dQ];exact hx,rfl⟩
  ·cases e2
 | list ds =>
  cases e2;obtain⟨a,vs,rfl,h2,h3⟩:=r1;refine .inl ⟨vs,C7 g1.sub h2,?_⟩;have:=h3.length;cases ds<;>cases vs<;>simp_all
 | tuple ds =>
  cases e2;obtain⟨a,vs,rfl,h2,h3⟩:=r1;refine .inr (.inl ⟨vs,C6 g1.sub h2,?_⟩);have:=h3.length;cases ds<;>cases vs<;>simp_all
 | dict _=>cases e2
noncomputable def d7:D->Option Bool
 | .bool b=>some b
 | _=>none
noncomputable def tB2(h:D->D->Option D)(f g:DE):Rho->Option Bool:=λρ=>(A3 h f g ρ).bind d7
theorem aV8(h:d7 d=some c):d=.bool c:=by
 cases d<;>simp[d7]at h;subst h;rfl
theorem bp3(o:OpD X (dR op) h)(ha:JE X a f)(hb:JE X b g)(hm:behindInMarks op b=false:=by first|exact av3 _|rfl):JT X (.Compare a [op] [b] pos) (tB2 h f g):=λρ c q=>by
 obtain⟨d,q,e⟩:=xbm q;obtain⟨x,h1,q⟩:=xbm q;obtain⟨y,h2,h3⟩:=xbm q;have:=aV8 e;subst this;refine X0 (aQ8 (o x y _ h3) (ha ρ x h1) (hb ρ y h2) hm) λσ H Q ⟨H0,Hf,s,sl,k⟩=>?_
 refine⟨H0,Hf,s,sl,λv H1 Hf1 g1 r1=>⟨H0,Hf1,g1.sub,sl.grow g1,λu H2 Hf2 g2 r2=>?_⟩⟩;exact⟨Hf2,g2.sub,r1.mono g2.ext,r2,λw H3 Hf3 g3 r3=>⟨c,r3,k H3 Hf3 ((g1.trans g2).trans g3)⟩⟩
noncomputable def bf9(f g:Rho->Option Bool):Rho->Option Bool:=λρ=>(f ρ).bind λc=>if c then g ρ else some false
noncomputable def Z8(f g:Rho->Option Bool):Rho->Option Bool:=λρ=>(f ρ).bind λc=>if c then some true else g ρ
noncomputable def K5(f:Rho->Option Bool):Rho->Option Bool:=λρ=>(f ρ).map λc=>!c
theorem a9(h:PW X e t)(i:∀σ H Q,t' σ H Q->t σ H Q):PW X e t':=λwhole pins s σ H Q I q=>h whole pins s σ H Q I (i σ H Q q)
theorem aE1(h:JW X e f):JT X e f:=λρ c q=>(h ρ c q).pt
theorem bI7(h:JT X a f):JW X (.BoolOp .And [a] pos) f:=λρ c q=>bE8 (h ρ c q)
theorem bp0(h:JT X a f):JW X (.BoolOp .Or [a] pos) f:=λρ c q=>bi2 (h ρ c q)
theorem cg9{a b:Expr}{P0:List Expr}{f g:Rho->Option Bool}{pos:Pos}(ha:JT X a f)(hb:JW X (.BoolOp .And (b::P0) pos) g):JW X (.BoolOp .And (a::b::P0) pos) (bf9 f g):=λρ c q=>by
 obtain⟨x,e1,q⟩:=xbm q;cases x with
 | true=>exact a9 (au3 (ha ρ _ e1) (hb ρ c (by simpa using q))) λσ H Q ⟨H0,Hf,s,sl,k⟩=>⟨H0,Hf,s,sl,λH1 Hf1 g1=>v5 ⟨H0,Hf1,g1.sub,sl.grow g1,λH2 Hf2 g2=>k H2 Hf2 (g1.trans g2)⟩⟩
 | false =>
  have:c=false:=by simpa using q.symm
  subst this;exact a9 (au3 (tB':=λ_ _ _=>False) (ha ρ _ e1) (λ_ _ _ _ _ _ _ h=>h.elim)) λσ H Q ⟨H0,Hf,s,sl,k⟩=>⟨H0,Hf,s,sl,λH1 Hf1 g1=>ag3 (k H1 Hf1 g1)⟩
theorem bQ4{a b:Expr}{P0:List Expr}{f g:Rho->Option Bool}{pos:Pos}(ha:JT X a f)(hb:JW X (.BoolOp .Or (b::P0) pos) g):JW X (.BoolOp .Or (a::b::P0) pos) (Z8 f g):=λρ c q=>by
 obtain⟨x,e1,q⟩:=xbm q;cases x with
 | false=>exact a9 (aQ7 (ha ρ _ e1) (hb ρ c (by simpa using q))) λσ H Q ⟨H0,Hf,s,sl,k⟩=>⟨H0,Hf,s,sl,λH1 Hf1 g1=>ag3 ⟨H0,Hf1,g1.sub,sl.grow g1,λH2 Hf2 g2=>k H2 Hf2 (g1.trans g2)⟩⟩
 | true =>
  have:c=true:=by simpa using q.symm
  subst this;exact a9 (aQ7 (tB':=λ_ _ _=>False) (ha ρ _ e1) (λ_ _ _ _ _ _ _ h=>h.elim)) λσ H Q ⟨H0,Hf,s,sl,k⟩=>⟨H0,Hf,s,sl,λH1 Hf1 g1=>v5 (k H1 Hf1 g1)⟩
theorem bp2(ha:JT X a f):JT X (.UnaryOp .Not a pos) (K5 f):=λρ c q=>by
 obtain⟨x,e1,e2⟩:=af.mp q;subst e2;exact X0 (bZ7 (ha ρ x e1)) λσ H Q ⟨H0,Hf,s,sl,k⟩=>⟨H0,Hf,s,sl,λH1 Hf1 g1=>k H1 Hf1 g1⟩
noncomputable def ax8(t:Rho->Option Bool)(f g:DE):DE:=λρ=>(t ρ).bind λc=>if c then f ρ else g ρ
theorem cj0(hc:JT X c t)(ha:JE X a f)(hb:JE X b g):JE X (.IfExp c a b pos) (ax8 t f g):=λρ d q=>by
 obtain⟨x,e1,q⟩:=xbm q;cases x with
 | true=>exact A5 (aC1 (tb:=λ_ _ _=>False) (hc ρ _ e1) (ha ρ d (by simpa using q)) (λ_ _ _ _ _ _ h=>h.elim)) λσ H Q ⟨H0,Hf,s,sl,k⟩=>⟨H0,Hf,s,sl,λH1 Hf1 g1=>v5 ⟨H0,Hf1,g1.sub,sl.grow g1,λu H2 Hf2 g2 r2=>k u H2 Hf2 (g1.trans g2) r2⟩⟩
 | false=>exact A5 (aC1 (ta:=λ_ _ _=>False) (hc ρ _ e1) (λ_ _ _ _ _ _ h=>h.elim) (hb ρ d (by simpa using q))) λσ H Q ⟨H0,Hf,s,sl,k⟩=>⟨H0,Hf,s,sl,λH1 Hf1 g1=>ag3 ⟨H0,Hf1,g1.sub,sl.grow g1,λu H2 Hf2 g2 r2=>k u H2 Hf2 (g1.trans g2) r2⟩⟩
noncomputable def dIx(f:Rho->Option (Bool×List D))(g:DE):DE:=λρ=>(f ρ).bind λq=>(g ρ).bind λi=>match i with
 | .int i=>atI q.2 i
 | _=>none
theorem t8{K:ag}{H:Hp}{ds:List D}{vs:List V}{i:Int}{d:D}(h:Reps K H ds vs)(e:atI ds i=some d):∃v,atI vs i=some v/\Rep K H d v:=by
 unfold atI at e ⊢;rw[h.length];obtain⟨j,h1,h2⟩:=xbm e;obtain⟨v,h3,h4⟩:=h.get h2;exact⟨v,by rw[h1];exact h3,h4⟩
theorem cv7{a b:Expr}{f:Rho->Option (Bool×List D)}{g:DE}{pos:Pos}(ha:JQ X a f)(hb:JE X b g)(hs:aa9 b:=by intro _ _;rfl):JE X (.Subscript a b pos) (dIx f g):=λρ d q=>by
 obtain⟨⟨t,ds⟩,h1,q⟩:=xbm q;obtain⟨y,h2,h3⟩:=xbm q;split at h3
 ·refine A5 (bj6 aK7 (ha ρ t ds h1) (hb ρ _ h2) hs) λσ H Q ⟨H0,Hf,s,sl,k⟩=>?_
  refine⟨H0,Hf,s,sl,λv H1 Hf1 g1 ⟨p,vs,e1,e2,e3⟩=>⟨H0,Hf1,g1.sub,sl.grow g1,λu H2 Hf2 g2 r2=>?_⟩⟩;obtain⟨w,q1,q2⟩:=t8 (e3.mono g2.ext) h3;cases t with
  | true=>exact .inr (.inl ⟨p,vs,_,w,e1,r2,C6 g2.big e2,q1,k w H2 Hf2 (g1.trans g2) q2⟩)
  | false=>exact .inl ⟨p,vs,_,w,e1,r2,C7 g2.big e2,q1,k w H2 Hf2 (g1.trans g2) q2⟩
 ·cases h3
noncomputable def aa4(xs:List D)(lo hi:Option Int):List D:=(xs.drop (HT.sIx xs.length 0 lo)).take (HT.sIx xs.length xs.length hi - HT.sIx xs.length 0 lo)
theorem aB6{K:ag}{H:Hp}{ds:List D}{vs:List V}(h:Reps K H ds vs)(lo hi:Option Int):Reps K H (aa4 ds lo hi) (aF6 vs lo hi):=by
 unfold aa4 aF6;rw[h.length];exact(h.drop _).take _
noncomputable def JO(X:Cx)(e:Option Expr)(f:Rho->Option (Option Int)):Prop:=∀ρ o,f ρ=some o->PO X e (λσ H Q=>∃H0 Hf,B0 Hf H/\Slots X.K H0 ρ σ H Hf/\∀H' Hf',Grow H Hf H' Hf'->Q o H')
noncomputable def L0:Rho->Option (Option Int):=λ_=>some none
noncomputable def bs3:D->Option Int
 | .int i=>some i
 | _=>none
noncomputable def K6(f:DE):Rho->Option (Option Int):=λρ=>(f ρ).bind λd=>(bs3 d).map some
theorem bJ5:JO X none L0:=λρ o q=>by
 cases q;intro pins s σ H Q I ⟨H0,Hf,ss,sl,k⟩;exact bF8 pins s σ H Q I (k H Hf (Grow.refl ss))
theorem bJ4(h:JE X e f):JO X (some e) (K6 f):=λρ o q=>by
 obtain⟨d,e1,e2⟩:=xbm q;obtain⟨i,e3,e4⟩:=af.mp e2;subst e4;cases d<;>simp[bs3]at e3;subst e3;intro pins s σ H Q I ⟨H0,Hf,ss,sl,k⟩;exact bF7 (h ρ _ e1) pins s σ H Q I ⟨H0,Hf,ss,sl,λv H1 Hf1 g1 r1=>⟨_,r1,k H1 Hf1 g1⟩⟩
noncomputable def ax6(f:DE)(lo hi:Rho->Option (Option Int)):DE:=λρ=>(f ρ).bind λd=>(lo ρ).bind λl=>(hi ρ).bind λh=>match d with
 | .tuple xs=>some (.tuple (aa4 xs l h))
 | _=>none
theorem k9{prog:dU}{w:World}{A:dW}{E:eU->eV->Prop}{s:eV}{t sl:eW}{items:Array eU}{vl vu:eU}{lo hi:Option Int}{Q:eU->eV->Prop}(ht:IsTup s.heap t items)(hs:s.heap.IsSliceOf sl vl vu .none)(pl:IsPart vl lo)(pu:IsPart vu hi)
  (hw:HT.sIx items.size 0 lo=0/\HT.sIx items.size items.size hi=items.size) (h:Q (.ref t) s):eD (eE prog w) A (getItem (.ref t) (.ref sl)) Q E s:=by
 obtain⟨os,hos,hcs,hds⟩:=id hs;have hTs:s.TypeIs (.ref sl) "slice" := ⟨os,hos,hcs⟩;unfold getItem
 try with_reducible refine wpAny_holding ?_
 first|refine dH (dI ?_)|skip
 refine dH (wpAny_sequenceKey ht.typeIs (by decide) ?_)
 refine dH (wpAny_callSpecial?_slot (name:=Str.ofString "__getitem__") ht.typeIs PyProof.Rows.slot_tuple_getitem
  (wpAny_call_entry PyProof.Rows.slot_tuple_getitem ht.typeIs entry_tuple_getitem ?_ (args_tuple_getitem _ _)))
 show eD _ _ (Builtin.Tuple.tupleItemsOf (.ref t) >>= _) _ _ s;refine dH (tupleItemsOf_ ht ?_);refine dH (wpAny_typeOf hTs ?_);rw[if_pos (by decide)];refine dH (HT.sliceApplied_gen hs pl pu ?_)
 have hyes:((((HT.sIx items.size 0 lo:Nat):Int)==0&&(1:Int)==1&&(HT.sIx items.size items.size hi - HT.sIx items.size 0 lo)==items.size)=true):=by
  rw[hw.1,hw.2];simp
 show eD _ _ (if(((HT.sIx items.size 0 lo:Nat):Int)==0&&(1:Int)==1&&(HT.sIx items.size items.size hi - HT.sIx items.size 0 lo)==items.size)=true then _ else _) _ _ s;rw[if_pos hyes];unfold Builtin.Tuple.tupleIsExact;refine dH (dH (wpAny_typeOf ht.typeIs (dI ?_)));rw[if_pos (by decide +kernel)];exact dH (wpAny_rule (dI ⟨_,rfl,dI h⟩))
theorem at5:SlR X (λx lo hi H Q=>∃a xs,x=.ref a/\SqT X.K H a xs/\(HT.sIx xs.length 0 lo=0/\HT.sIx xs.length xs.length hi=xs.length)/\Q (.ref a) H):=by
 intro pins s σ H x v vl vu lo hi sl Q I rx hs pl pu h;obtain⟨a,xs,rfl,hx,hw,q⟩:=h;cases rx;obtain⟨its,r,ht,hz⟩:=I.tuple hx;have hlen:its.toArray.size=xs.length:=by rw[av];exact r.length.symm
 refine⟨"tuple", _,PyProof.Rows.slot_tuple_getitem.lookup,ht.typeIs,?_⟩;exact k9 ht hs pl pu (by rw[hlen];exact hw) ⟨.ref a,H,I,rfl,q⟩
theorem br1{a:Expr}{lo hi:Option Expr}{f:DE}{l h:Rho->Option (Option Int)}{pos p2:Pos}(ha:JE X a f)(hl:JO X lo l)(hh:JO X hi h):JE X (.Subscript a (.Slice lo hi none p2) pos) (ax6 f l h):=λρ d q=>by
 obtain⟨x,e1,q⟩:=xbm q;obtain⟨y,e2,q⟩:=xbm q;obtain⟨z,e3,q⟩:=xbm q;cases x with
 | tuple xs =>
  cases q;refine A5 (ak4 (bY5.or at5) (ha ρ _ e1) (hl ρ y e2) (hh ρ z e3)) λσ H Q ⟨H0,Hf,s,sl,k⟩=>?_
  refine⟨H0,Hf,s,sl,λv H1 Hf1 g1 ⟨p,vs,q1,q2,q3⟩=>⟨H0,Hf1,g1.sub,sl.grow g1,λH2 Hf2 g2=>⟨H0,Hf2,g2.sub,sl.grow (g1.trans g2),λH3 Hf3 g3=>?_⟩⟩⟩;subst q1;have q2':=C6 (g2.trans g3).ext q2;have q3':=q3.mono (g2.trans g3).ext;by_cases c:HT.sIx vs.length 0 y=0/\HT.sIx vs.length vs.length z=vs.length
  ·refine .inr ⟨p,vs,rfl,C6 g3.sub q2',c,k _ H3 Hf3 ((g1.trans g2).trans g3) ⟨p,vs,rfl,q2',?_⟩⟩
   have:aa4 xs y z=xs:=by
    unfold aa4;rw[← q3.length,c.1,c.2];simp[q3.length]
   rw[this];exact q3'
  ·refine .inl ⟨p,vs,rfl,C6 g3.sub q2',c,λp' hp=>?_⟩;exact k _ _ _ (((g1.trans g2).trans g3).trans (Grow.laid g3.sub hp)) ⟨p',_,rfl,SqT.of A7,(aB6 q3' y z).mono (D5 (g3.sub.free hp))⟩
 | _=>cases q
end
end G
namespace G
open PySem PySem.Spec PyProof.Rows L2
theorem al9{K:ag}{h:Heap}{C:eW}{bb:List eU}{nid:String}(kin:K.In h)(q:bO K C bb nid=true):
  ∃nm qn N bs bm hd sn sub ab col dd k0 k1 k2 k3 k5 mN,h.get? C=some (excClassObj nm qn C N bs bm hd sn sub ab col dd k0 k1 k2 k3 k5 nid)/\h.Ns N mN/\mN "__init__" = none/\OwnTail h bb bm:=by
 unfold bO at q;split at q
 case h_2=>cases q
 rename_i d0 c0 sl0 lk;split at q
 case h_2=>cases q
 rename_i C1 tl p0 p1 p2 p3 n1 p5 e1 e2;simp only[ah,beq_iff_eq,bn]at q;obtain⟨⟨⟨⟨⟨q1,q2⟩,q3⟩,q4⟩,q5⟩,q6⟩:=q;subst q1 q2;obtain⟨f1,f2,f3,f4,f5,f6,f7,f8,f9,f10,f11⟩:=c0;dsimp only at e1 q3 q5 q6;subst e1 q3;obtain⟨sll⟩:=sl0;dsimp only at e2;subst e2;exact⟨f1,f5,f4,f2,tl,f6,f7,f8,f9,f10,d0,p0,p1,p2,p3,p5,_,kin _ _ lk,.of_isNs (PySem.W.isNs_of_in kin q5),PySem.W.nsMap_none_of_in kin q5 q6,PySem.W.tail_of_in kin q4⟩
structure Fly (R:eW->Prop) (l:List Env) (g B:Heap) (C a:eW) (h:Heap):Prop where
 keep:∀b o,R b->g.get? b=some o->b∉frs l->B.get? b=some o
 fly:∃t,Heap.FlyingW B l a (.ref C) (.ref t) h
 sl:∀b o,g.get? b=some o->b∈frs l->∃z,h.get? b=some { o with slots:=z }
noncomputable def Rl(s:eV)(H':Hp)(b:eW):Prop:=s.heap.get? b≠none\/H' b≠none
noncomputable def CX1(P:dU)(w:World):CXT:=λouter H s E e s'=>∃a C g B H',e=.ref a/\s'.os=s.os/\AllBare s'.gens/\Un (frs outer) [] H H' s.heap g/\HOk P w H' g/\Fly (Rl s H') outer g B C a s'.heap/\E (.ref C) none H'
section
variable {X:Cx}{pins:List (Addr×Obj)}{σ:L2.St}{H H':Hp}{s s':Shared}{g B:Heap}
theorem bL4(I:Inv X pins σ H s)(os:s'.os=s.os)(bare:AllBare s'.gens)(un:Un (frs X.stack) [] H H' s.heap g)(hok:HOk X.prog X.w H' g)(keep:∀b o,Rl s H' b->g.get? b=some o->b∉frs X.stack->B.get? b=some o)
  (hB:B.StaysIn s'.heap) (sl:∀b o,g.get? b=some o->b∈frs X.stack->∃z,s'.heap.get? b=some { o with slots:=z }):Inv X pins σ H' s':=by
 have nx:∀b:eW,b∉([]:List eW):=λb z=>absurd z (by simp)
 refine I.call' (ch:=[]) os ⟨λb o e n m z=>hB b o (keep b o (.inl (by rw[e];simp)) (un.keep b o e n m z) m),λb o e n m z=>?_,un.free,λb o e z=>?_,un.tups,un.frzs,un.tbls⟩ ?_ bare (λb z=>absurd z (nx b))
 ·obtain⟨z1,q⟩:=un.slot b o e n m z;obtain⟨z2,q2⟩:=sl b _ q m;exact⟨z2,q2⟩
 ·obtain⟨o',q⟩:=un.there b o e z;by_cases m:b∈frs X.stack
  ·obtain⟨z2,q2⟩:=sl b _ q m;exact⟨_,q2⟩
  ·exact⟨o',hB b o' (keep b o' (.inl (by rw[e];simp)) q m)⟩
 ·intro a o e
  have fr0:∀b,b∈frs X.stack->H' b=none:=λb m=>by
   obtain⟨_,o1,h1,_⟩:=I.stack.mem m;exact un.free b o1 h1 (I.stkFree b m) (nx b)
  refine(hok a o e).stay (λb u hb q=>?_) (λ_ q=>q) λ_ _ q=>q
  have hn:H' b≠none:=by
   rcases hb with rfl|hb
   ·rw[e];simp
   ·rw[hb];simp
  exact hB b u (keep b u (.inr hn) q λm=>hn (fr0 b m))
end
section
variable {P:Program}{w:World}{K:PySem.W.Frag}{mg:Str->Option Value}{base:Heap}{N:List Str}{qual:Str}{scope:Scope}{f:Addr}{cd:Value}{A:Around}{outer:List Env}{s:Shared}{H H1:Hp}{E:XK}
 {pins:List (eW×Obj)}{σ:L2.St}{s1 s':eV}{h2:Heap}{a C:eW}{vs:List eU}
noncomputable abbrev cx1(P:dU)(w:World)(K:ag)(mg:Str->Option eU)(base:Heap)(N:List Str)(qual:Str)(scope:Scope)(f:eW)(cd:eU)(A:dW)(outer:List Env)(s:eV)(H:Hp)(E:XK):Cx:=ay1 (CX1 P w) P w K mg base N qual scope f cd A outer s H E
theorem bh7(I:Inv (cx1 P w K mg base N qual scope f cd A outer s H E) pins σ H1 s1)(r:Rl s H1 b):b≠s.heap.objs.size:=by
 rintro rfl
 rcases r with r|r
 ·exact r (Heap.get?_none_of_le (aj _))
 ·exact r I.free
theorem ac0(h1:b∉frs outer)(h2:b≠s.heap.objs.size):b∉frs (cx1 P w K mg base N qual scope f cd A outer s H E).stack:=λm=>by
 have m:b∈s.heap.objs.size::frs outer:=m;rcases ax.mp m with z|z
 ·exact h2 z
 ·exact h1 z
theorem bn5(I:Inv (cx1 P w K mg base N qual scope f cd A outer s H E) pins σ H1 s1)(hm:Heap.MadeExcOf s1.heap h2 a (.ref C) vs)(hE:E (.ref C) none H1):(cx1 P w K mg base N qual scope f cd A outer s H E).xe (.ref a) { s1 with heap:=h2 }:=by
 have hin:∀env∈(cx1 P w K mg base N qual scope f cd A outer s H E).stack,∀b,env.frame=some b->b∈frs (cx1 P w K mg base N qual scope f cd A outer s H E).stack:=λenv he b hb=>cX.mpr ⟨env,he,hb⟩
 refine wpAny_leaves_madeW (base:=PySem.W.hideAll s1.heap (frs (cx1 P w K mg base N qual scope f cd A outer s H E).stack)) (h:=s1.heap) (outer:=outer) I.ok.frames rfl (λb o q=>PySem.W.of_hideAll _ q) (PySem.W.funFrames_hide I.stack hin) hm λh' t x1 _ _ x4=>?_
 refine⟨a,C,s1.heap,_,H1,rfl,I.os,I.bare,I.base,I.hok,⟨λb o r e m=>PySem.W.hideAll_get _ e (ac0 m (bh7 I r)),⟨t,x1⟩,λb o e m=>?_⟩,hE⟩;obtain⟨_,o',e',hd⟩:=I.stack.mem (ai _ m);rw[e]at e';cases e';exact x4 b o (hm.keeps b o e) hd
theorem bG5(I:Inv (cx1 P w K mg base N qual scope f cd A outer s H E) pins σ H1 s1)(hx:CX1 P w (cx1 P w K mg base N qual scope f cd A outer s H E).stack H1 s1 E e s'):(cx1 P w K mg base N qual scope f cd A outer s H E).xe e s':=by
 obtain⟨a,C,g,B,H',rfl,os,bare,un,hok,F,hE⟩:=hx;have J:Inv (cx1 P w K mg base N qual scope f cd A outer s H E) pins σ H' { s' with heap:=g }:=I.call' (s':={ s' with heap:=g }) (ch:=[]) os un hok bare (λb z=>absurd z (by simp));obtain⟨t,fl⟩:=F.fly;refine wpAny_leaves_onW (outer:=outer) I.ok.frames rfl fl λh' x1 x2=>?_
 have up:∀b,Rl s H' b->Rl s1 H' b:=λb r=>r.imp (λz q=>by
  cases e:s.heap.get? b with
  | none=>exact z e
  | some o =>
   obtain⟨o',q'⟩:=I.base.there b o e (λz=>absurd (show b∈([]:List eW) from z) (by simp))
   rw[q]at q';cases q') id
 refine⟨a,C,g,B,H',rfl,J.os,bare,J.base,J.hok,⟨λb o r e m=>F.keep b o (up b r) e (ac0 m (bh7 J r)),⟨t,x1⟩,λb o e m=>?_⟩,hE⟩;obtain⟨z,e2⟩:=F.sl b o e (ai _ m);obtain⟨_,o',e',hd⟩:=J.stack.mem (ai _ m);have e':g.get? b=some o':=e';rw[e]at e';cases e';obtain⟨z2,q⟩:=x2 b _ e2 hd;exact⟨z2,q⟩
end
end G
namespace G
open PySem PySem.Spec PyProof.Rows L2
noncomputable abbrev veB:List eU:=[.type "ValueError", .type "Exception", .type "BaseException", .type "object"]
noncomputable def Ef(K:ag):XK:=λcls _ _=>∃D,clA K "NoText" = some D/\cls=.ref D
noncomputable def CXb(K:ag)(P:dU)(w:World):Bool->CXT
 | true=>λouter H s _ e s'=>CX1 P w outer H s (Ef K) e s'
 | false=>CX0
noncomputable def Ps(X:Cx)(b:Bool):Prop:=U8 (CXb X.K X.prog X.w b) X E0
theorem bP2:Ps X false:=cs6
noncomputable def xeY(X:Cx):Bool->eU->eV->Prop
 | true=>X.xe
 | false=>λ_ _=>False
noncomputable abbrev cxY(b:Bool)(P:dU)(w:World)(K:ag)(mg:Str->Option eU)(base:Heap)(N:List Str)(qual:Str)(scope:Scope)(f:eW)(cd:eU)(A:dW)(outer:List Env)(s:eV)(H:Hp)(E:XK):Cx :=
 (ay1 (CXb K P w b) P w K mg base N qual scope f cd A outer s H E).wish (xeY (ay1 (CXb K P w b) P w K mg base N qual scope f cd A outer s H E) b)
theorem v8{P:dU}{w:World}{K:ag}{mg:Str->Option eU}{base:Heap}{x qual:Str}{st:Stmt}{f:eW}{fd:dX}{N ps:List Str}{k:Nat}{sp:Sp}(F:Fun K x qual st f fd)(S:FnScope N ps (A2 st))(len:∀vs H Q E,sp vs H Q E->vs.length=ps.length)
  (hb:∀(cdv:eU) (A:dW) (outer:List Env) (s:eV) (H:Hp) (vs:List V) (Q:VK) (E:XK),Room k (A.deeper (envOfC qual (A2 st) s.heap.objs.size f cdv))->sp vs H Q E ->
   ∃t,PSs (cxY b P w K mg base N qual (A2 st) f cdv A outer s H E) (C8 st) t/\t { nx:=λ_ H'=>Q .non H',rt:=Q } (L2.start N vs) H):FnOk P w K mg base (CXb K P w b) (k+1) f fd ps sp:=by
 obtain⟨oc,od,kV,doc,pm,an,cdv,ct,osl,rfl,lk,hcd⟩:=F.ex;refine ar2 lk hcd S len λA outer s H vs Q E hr hsp=>?_
 obtain⟨t,h,q⟩:=hb cdv A outer s H vs Q E hr hsp;refine⟨t,λpins s σ H D I hw=>dJ (h pins s σ H D (I.wish _) hw) (λ_ _ q=>q.unwish) λe s z=>?_,q⟩;cases b
 ·exact z.elim
 ·exact z
section
variable {M:Model}{A:Around}{E:Value->Shared->Prop}{s:Shared}{base:Heap}{env:Env}{outer l:List Env}{e L:Addr}{cls a0 fl:Value}{Q:Unit->Shared->Prop}
noncomputable def Hld(base:Heap)(l:List Env)(e:eW)(cls a0 fl:eU)(h:Heap):Prop:=base.StaysIn h/\base.get? e=none/\h.FunFrames base l/\h.TracedAtW base e cls a0 fl
theorem ax0{fr:Option eW}(R:Hld base l e cls a0 fl s.heap)(k:∀h',Hld base l e cls a0 (fr.elim .none λf=>rawInt f) h'->s.heap.UpToSlots h'->Q () { s with heap:=h' }):eD M A (setFlight (.ref e) fr) Q E s:=by
 obtain⟨r1,r2,r3,oe,ws,T,oT,ts,he,hc,hd,h1,nT,Te,hT,dT,h3⟩:=R;have ot:∀b,b≠T->(s.heap.update T (Obj.mapFields (·.setIfInBounds 3 (fr.elim eQ λf=>rawInt f)))).get? b=s.heap.get? b:=λb n=>Heap.get?_update_other _ _ n.symm
 have nr:∀b o,s.heap.get? b=some o->(∀vs,o.data≠.fields vs)->b≠T:=λb o q n z=>by
  subst z;rw[hT]at q;cases q;exact n ts dT
 have l3:=(bT.mp h3).1;unfold setFlight;refine dH (dN he hd h1 ?_);rw[if_pos (by simp)];refine wpAny_setField hT dT l3 (k _ ⟨λb o q=>(ot b λz=>by rw[z,nT]at q;cases q).trans (r1 b o q),r2,r3.of_keeps λb o q n=>⟨o,(ot b (nr b o q n)).trans q,rfl⟩,?_⟩ λb o q n=>⟨o.slots,(ot b (nr b o q n)).trans q⟩);exact⟨oe,ws,T,_,_,(ot e Te.symm).trans he,hc,hd,h1,nT,Te,Heap.get?_update_self _ hT (Obj.isFreed_of_fields (Obj.data_mapFields dT _)),Obj.data_mapFields dT _,by simp[l3]⟩
theorem aJ9(hfr:A.frames=some (env::outer))(hf:env.frame=some L)(R:Hld base (env::outer) e cls a0 fl s.heap)(k:∀h',Heap.FlyingW base outer e cls a0 h'->s.heap.UpToSlots h'->Q () { s with heap:=h' }):eD M A (leaving env (.ref e)) Q E s:=by
 have fin:∀h4,Heap.HeldW base (env::outer) e cls a0 L h4->s.heap.UpToSlots h4->eD M A (setFlight (.ref e) none) Q E { s with heap:=h4 }:=λh4 hd up=>wpAny_landsW (s:={ s with heap:=h4 }) hd λh' z up'=>by
  obtain⟨k1,k2,⟨_,_,k3⟩,k4⟩:=z;exact k h' ⟨k1,k2,k3,k4⟩ (up.trans up')
 unfold leaving;obtain⟨r1,r2,r3,r4⟩:=R;by_cases q:fl=rawInt L
 ·subst q;exact dH (wpAny_noteFrame_againW hf r4 (fin s.heap ⟨r1,r2,r3,r4⟩ λb o e _=>⟨o.slots,e⟩))
 obtain⟨oe,ws,T,oT,ts,he,⟨hc,h0⟩,hd,h1,nT,Te,hT,dT,h3⟩:=r4;subst hc;have ot:∀b,b≠T->(s.heap.update T (Obj.mapFields (·.setIfInBounds 3 eQ))).get? b=s.heap.get? b:=λb n=>Heap.get?_update_other _ _ n.symm
 have nr:∀b o,s.heap.get? b=some o->(∀vs,o.data≠.fields vs)->b≠T:=λb o q n z=>by
  subst z;rw[hT]at q;cases q;exact n ts dT
 unfold noteFrame;simp only[hf];refine dH (dH (dN he hd h1 ?_));rw[if_pos (by simp)];refine dH (dN hT dT h3 ?_);rw[if_neg (by simpa using q)];refine dH (wpAny_setField hT dT (bT.mp h3).1 ?_);refine wpAny_entryW hfr (r3.of_keeps λb o q n=>⟨o,(ot b (nr b o q n)).trans q,rfl⟩) hf ((ot e Te.symm).trans he) (λb o q=>(ot b λz=>by rw[z,nT]at q;cases q).trans (r1 b o q)) r2 hd (bT.mp h1).1 h0 λh' ⟨x1,x2,x3,x4⟩=>?_
 exact fin h' ⟨x1,r2,x2,x3⟩ λb o q n=>x4 b o ((ot b (nr b o q n)).trans q) n
end
theorem bu0{h h' B:Heap}{C:eW}(hB:B.get? C=some o)(sb:Heap.SameBut C h h'):∀{l:List Env},h.FunFrames B l->h'.FunFrames B l
 | [],_=>trivial
 | _::_,⟨hk,⟨L,o,hf,hn,ho,hd⟩,hr⟩=>⟨hk,⟨L,o,hf,hn,(sb.2 L λz=>by rw[z,hB]at hn;cases hn).trans ho,hd⟩,bu0 hB sb hr⟩
noncomputable abbrev CmE(X:Cx)(C:eW)(e:eU)(s3:eV):Prop:=∃m,s3.heap.Ns C m/\∀h',Heap.SameBut C s3.heap h'->∀cenv:Env,cenv.locals=C->eD (eE X.prog X.w) X.A (PySem.passOn "comprehension.variables-let-go" e cenv:Sem eU) (λ_ _=>False) X.xe { s3 with heap:=h' }
section
variable {P:Program}{w:World}{K:PySem.W.Frag}{mg:Str->Option Value}{base:Heap}{N:List Str}{qual:Str}{scope:Scope}{f:Addr}{cd:Value}{A:Around}{outer:List Env}{s:Shared}{H H1:Hp}{E:XK}
 {pins:List (eW×Obj)}{σ:L2.St}{s1 s':eV}{C:eW}
theorem bM1(I:Inv (cx1 P w K mg base N qual scope f cd A outer s H E) pins σ H1 s1)(hN:s1.heap.Ns C m)(hH:H1 C=none)(hs:C∉frs (cx1 P w K mg base N qual scope f cd A outer s H E).stack)(h0:s.heap.get? C=none)
  (hx:CX1 P w (cx1 P w K mg base N qual scope f cd A outer s H E).stack H1 s1 E e s'):eD (eE P w) (cx1 P w K mg base N qual scope f cd A outer s H E).A (noteFrame e (cx1 P w K mg base N qual scope f cd A outer s H E).env) (λ_ s3=>CmE (cx1 P w K mg base N qual scope f cd A outer s H E) C e s3) E' s':=by
 obtain⟨a,Cc,g,B,H',rfl,os,bare,un,hok,F,hE⟩:=hx;have J:Inv (cx1 P w K mg base N qual scope f cd A outer s H E) pins σ H' { s' with heap:=g }:=I.call' (s':={ s' with heap:=g }) (ch:=[]) os un hok bare (λb z=>absurd z (by simp));obtain⟨t,fl⟩:=F.fly;obtain⟨oC,es,ep,gC,nC⟩:=hN;have gg:=un.keep C oC gC hH hs (by simp);have hB:=F.keep C oC (.inl (by rw[gC];simp)) gg hs;refine wpAny_looks_onW (outer:=outer) I.ok.frames rfl fl λh4 hd4 up4=>⟨m,⟨oC,es,ep,hd4.1 C oC hB,nC⟩,λh' sb cenv _=>?_⟩
 obtain⟨r1,r2,r3,oe,ws,T,oT,ts,he,hc,hd,h1,nT,Te,hT,dT,h3⟩:=hd4;have nc:∀b,B.get? b=none->b≠C:=λb z q=>by rw[q,hB]at z;cases z
 have st:(PySem.W.hideAll B [C]).StaysIn B:=λb o q=>PySem.W.of_hideAll _ q
 have tr:h'.TracedAtW (PySem.W.hideAll B [C]) a (.ref Cc) (.ref t) (rawInt s.heap.objs.size):=⟨oe,ws,T,oT,ts,(sb.2 a (nc a r2)).trans he,hc,hd,h1,PySem.W.fresh_of_stays st nT,Te,(sb.2 T (nc T nT)).trans hT,dT,h3⟩
 have R1:Hld (PySem.W.hideAll B [C]) (cx1 P w K mg base N qual scope f cd A outer s H E).stack a (.ref Cc) (.ref t) (rawInt s.heap.objs.size) h' :=
  ⟨λb o q=>(sb.2 b λz=>by rw[z,PySem.W.hideAll_none _ (.head _)]at q;cases q).trans (r1 b o (PySem.W.of_hideAll _ q)),PySem.W.fresh_of_stays st r2,PySem.W.funFrames_base st (bu0 hB sb r3),tr⟩
 unfold PySem.passOn;refine dH (dN ((sb.2 a (nc a r2)).trans he) hd h1 ?_);rw[if_neg (by simp)];refine dH (ax0 (s:={ s' with heap:=h' }) R1 λh5 R5 up5=>wpAny_throw (aJ9 (s:={ s' with heap:=h5 }) I.ok.frames rfl R5 λh6 f6 up6=>?_))
 have up:∀b,Rl s H' b->Rl s1 H' b:=λb r=>r.imp (λz q=>by
  cases e:s.heap.get? b with
  | none=>exact z e
  | some o =>
   obtain⟨o',q'⟩:=I.base.there b o e (λz=>absurd (show b∈([]:List eW) from z) (by simp))
   rw[q]at q';cases q') id
 have HC:H' C=none:=un.free C oC gC hH (by simp);refine⟨a,Cc,g,_,H',rfl,J.os,bare,J.base,J.hok,⟨λb o r e m=>?_,⟨t,f6⟩,λb o e m=>?_⟩,hE⟩
 ·refine PySem.W.hideAll_get _ (F.keep b o (up b r) e (ac0 m (bh7 J r))) λz=>?_
  rcases aN.mp z with rfl
  rcases r with r|r
  ·exact r h0
  ·exact r HC
 ·have m':=ai s.heap.objs.size m;obtain⟨z,e2⟩:=F.sl b o e m';obtain⟨_,o',e',hdf⟩:=J.stack.mem m';have e':g.get? b=some o':=e';rw[e]at e';cases e';obtain⟨z4,e4⟩:=up4 b _ e2 hdf;obtain⟨z5,e5⟩:=up5 b _ ((sb.2 b λq=>hs (by rw[← q];exact m')).trans e4) hdf;obtain⟨z6,e6⟩:=up6 b _ e5 hdf;exact⟨z6,e6⟩
theorem aJ1:Ps (cxY b P w K mg base N qual scope f cd A outer s H E) b:=by
 cases b
 ·exact bP2
 ·exact λpins σ H1 s1 e s' I hx=>bG5 (E:=Ef K) (I.wish (cx1 P w K mg base N qual scope f cd A outer s H (Ef K)).xe) hx
theorem ca2:PassesOwn (eE P w) (cxY b P w K mg base N qual scope f cd A outer s H E).A (cxY b P w K mg base N qual scope f cd A outer s H E).env (cxY b P w K mg base N qual scope f cd A outer s H E).xe:=by
 cases b
 ·exact PassesOwn.never
 ·exact PassesOwn.leaving
end
structure Th (X:Cx):Prop where
 mo:∀{pins:List (eW×Obj)}{σ:L2.St}{H:Hp}{s:eV}{h:Heap}{a D:eW}{vs:List eU},Inv X pins σ H s->clA X.K "NoText" = some D->Heap.MadeExcOf s.heap h a (.ref D) vs->X.xe (.ref a) { s with heap:=h }
 cm:∀{pins:List (eW×Obj)}{σ:L2.St}{H:Hp}{s s':eV}{C:eW}{m:Str->Option eU}{e:eU}{E:eU->eV->Prop},Inv X pins σ H s->s.heap.Ns C m->H C=none->C∉frs X.stack->X.s₀.heap.get? C=none ->
  CX1 X.prog X.w X.stack H s (Ef X.K) e s'->eD (eE X.prog X.w) X.A (noteFrame e X.env) (λ_ s3=>CmE X C e s3) E s'
theorem cp8{P:dU}{w:World}{K:ag}{mg:Str->Option eU}{base:Heap}{N:List Str}{qual:Str}{scope:Scope}{f:eW}{cd:eU}{A:dW}{outer:List Env}{s:eV}{H:Hp}{E:XK}:Th (cxY true P w K mg base N qual scope f cd A outer s H E) :=
 ⟨λI hD hm=>bn5 (E:=Ef K) (I.wish (cx1 P w K mg base N qual scope f cd A outer s H (Ef K)).xe) hm ⟨_,hD,rfl⟩,λI hn hH hs h0 hx=>bM1 (E:=Ef K) (I.wish (cx1 P w K mg base N qual scope f cd A outer s H (Ef K)).xe) hn hH hs h0 hx⟩
end G
namespace G
open PySem PySem.Spec PyProof.Rows L2
section
variable {X:Cx}
theorem aM9:dY "len" = some (.builtin "len"):=PySem.boot_len
theorem cl6:dY "all" = some (.builtin "all"):=by decide +kernel
theorem aN0:dY "isinstance" = some (.builtin "isinstance"):=by decide +kernel
theorem az0:dY "int" = some (.type "int"):=by decide +kernel
theorem bM9:dY "bool" = some (.type "bool"):=by decide +kernel
theorem aM8:dY "str" = some (.type "str"):=by decide +kernel
theorem bM8:dY "list" = some (.type "list"):=by decide +kernel
theorem am8:dY "tuple" = some (.type "tuple"):=by decide +kernel
noncomputable def am5(f:Rho->Option (Bool×List D)):DE:=λρ=>(f ρ).map λq=>.int q.2.length
theorem ci8(hg:Gl X "len")(hm:X.mg "len" = none)(h:JQ X e f)(he:dO [e] X.env=[(false,eval e X.env)]:=by rfl):JE X (.Call (.Name "len" p) [e] [] pos) (am5 f):=λρ d q=>by
 obtain⟨⟨t,ds⟩,h1,h2⟩:=af.mp q;subst h2;refine A5 (J1 aa8 hg hm aM9 (B6 (h ρ t ds h1) D3 he) (he:=he)) λσ H Q ⟨H0,Hf,s,sl,k⟩=>?_
 refine⟨H0,Hf,s,sl,λv H1 Hf1 g1 ⟨a,vs,e1,e2,e3⟩=>⟨a,vs,by rw[e1],?_,?_⟩⟩
 ·cases t with
  | true=>exact .inr e2
  | false=>exact .inl e2
 ·exact k _ H1 Hf1 g1 (by rw[e3.length];rfl)
theorem bq9(hg:Gl X "tuple")(hm:X.mg "tuple" = none)(h:JQ X e f)(hz:∀ρ ds,f ρ≠some (true,ds)\/True:=by intros;exact .inr trivial)(he:dO [e] X.env=[(false,eval e X.env)]:=by rfl):
  JE X (.Call (.Name "tuple" p) [e] [] pos) (λρ=>(f ρ).bind λq=>if q.1=true then none else some (.tuple q.2)):=λρ d q=>by
 obtain⟨⟨t,ds⟩,h1,h2⟩:=xbm q;cases t with
 | true=>simp at h2
 | false =>
  simp only[bi,if_false,bg.injEq]at h2;subst h2;refine A5 (R8 ao2 hg hm am8 (B6 (h ρ false ds h1) D3 he) (he:=he)) λσ H Q ⟨H0,Hf,s,sl,k⟩=>?_
  refine⟨H0,Hf,s,sl,λv H1 Hf1 g1 ⟨a,vs,e1,e2,e3⟩=>⟨a,vs,by rw[e1],.inl ⟨e2,λl hl=>?_⟩⟩⟩;exact k _ _ _ (g1.trans (Grow.laid g1.sub hl)) ⟨l,vs,rfl,SqT.of A7,e3.mono (D5 (g1.sub.free hl))⟩
noncomputable def bb6(f:DE):DE:=λρ=>(f ρ).bind λd=>match d with
 | .int i=>some (.int i)
 | .bool b=>some (.int (if b then 1 else 0))
 | _=>none
theorem br4(hg:Gl X "int")(hm:X.mg "int" = none)(h:JE X e f)(he:dO [e] X.env=[(false,eval e X.env)]:=by rfl):JE X (.Call (.Name "int" p) [e] [] pos) (bb6 f):=λρ d q=>by
 obtain⟨x,h1,h2⟩:=xbm q;split at h2
 ·cases h2
  exact A5 (R8 ar7 hg hm az0 (B6 (h ρ _ h1) D3 he) (he:=he)) λσ H Q ⟨H0,Hf,s,sl,k⟩ =>
   ⟨H0,Hf,s,sl,λv H1 Hf1 g1 r=>.inl ⟨_,by rw[show v=_ from r],k _ H1 Hf1 g1 rfl⟩⟩
 ·cases h2
  exact A5 (R8 ar7 hg hm az0 (B6 (h ρ _ h1) D3 he) (he:=he)) λσ H Q ⟨H0,Hf,s,sl,k⟩ =>
   ⟨H0,Hf,s,sl,λv H1 Hf1 g1 r=>.inr ⟨_,by rw[show v=_ from r],k _ H1 Hf1 g1 rfl⟩⟩
 ·cases h2
noncomputable def M7(f:DE):DE:=λρ=>(f ρ).bind λd=>match d with
 | .int i=>if i.natAbs.log2 < 1920 then some (.str (toString i)) else none
 | .bool b=>some (.str (if b=true then "True" else "False"))
 | _=>none
theorem ao3:Q5 X (.type "str") (λxs H Q=>∃b,xs=[.bl b]/\Q (.str (if b=true then "True" else "False")) H):=by
 intro pins s σ H xs us Q I r h;obtain⟨b,rfl,q⟩:=h;obtain⟨u,rfl,e⟩:=T6 r;obtain rfl:u=Value.bool b:=e;exact PySem.P.str_of_bool ⟨.str _,H,I.tok _,⟨_,rfl⟩,q⟩
theorem br0(hg:Gl X "str")(hm:X.mg "str" = none)(h:JE X e f)(he:dO [e] X.env=[(false,eval e X.env)]:=by rfl):JE X (.Call (.Name "str" p) [e] [] pos) (M7 f):=λρ d q=>by
 obtain⟨x,h1,h2⟩:=xbm q;split at h2
 ·split at h2
  ·rename_i c;cases h2
   exact A5 (R8 ay6 hg hm aM8 (B6 (h ρ _ h1) D3 he) (he:=he)) λσ H Q ⟨H0,Hf,s,sl,k⟩ =>
    ⟨H0,Hf,s,sl,λv H1 Hf1 g1 r=>⟨_,by rw[show v=_ from r],c,k _ H1 Hf1 g1 rfl⟩⟩
  ·cases h2
 ·cases h2
  exact A5 (R8 ao3 hg hm aM8 (B6 (h ρ _ h1) D3 he) (he:=he)) λσ H Q ⟨H0,Hf,s,sl,k⟩ =>
   ⟨H0,Hf,s,sl,λv H1 Hf1 g1 r=>⟨_,by rw[show v=_ from r],k _ H1 Hf1 g1 rfl⟩⟩
 ·cases h2
noncomputable def az4:List D->Option Bool
 | []=>some true
 | .bool b::r=>(az4 r).map λc=>b&&c
 | _::_=>none
theorem aG3:∀{ds:List D}{c:Bool},az4 ds=some c->∃bs:List Bool,ds=bs.map eM/\c=bs.all id
 | [],c,h=>by cases h;exact⟨[],rfl,rfl⟩
 | .bool b::r,c,h=>by
  obtain⟨c',h1,h2⟩:=af.mp h;obtain⟨bs,h3,h4⟩:=aG3 h1;exact⟨b::bs,by simp[h3],by simp[← h2,h4]⟩
theorem aj8{K:ag}{H:Hp}:∀{bs:List Bool}{vs:List V},Reps K H (bs.map eM) vs->vs=bs.map V.bl
 | [],_,h=>h
 | _::_,_,⟨v,r,h1,h2,h3⟩=>by subst h1;rw[show v=_ from h2,aj8 h3];rfl
theorem bc0:Q5 X (.builtin "all") (λxs H Q=>X.calm=true/\∃(p:eW) (bs:List Bool),xs=[.ref p]/\SqL X.K H p (bs.map V.bl)/\Q (.bl (bs.all id)) H):=by
 intro pins s σ H xs us Q I r h;obtain⟨hc,p,bs,rfl,hq,q⟩:=h;obtain⟨u,rfl,rx⟩:=T6 r;cases rx;obtain⟨its,rv,pl,hz⟩:=I.list hq;have hlen:=rv.length;have hh:X.A.in1.handled=none:=I.ok.hd hc;have hlt:p < s.heap.objs.size:=by obtain⟨_,e,_⟩:=pl.isList;exact eG e
 refine call_all_walk (wpAny_pyIter_list pl.isList ?_);refine⟨s.heap.objs.size,_,_,_,_,_,λi=>(bs[i]?).getD false,rfl,Walks.list hh _ p (aK hlt) its.toArray,⟨⟨_,eI _ rfl,rfl,rfl⟩,pl.isList.at λo e=>eF _ e⟩,?_,?_⟩
 ·intro i v s' Q' E' hv hQ;have hv':its[i]? = some v:=by simpa using hv
  have:∃b,bs[i]? = some b:=by
   have:i < its.length:=(ao.mp hv').1;have:i < bs.length:=by simpa using (by grind:i < (bs.map V.bl).length)
   exact⟨bs[i],by simp[this]⟩
  obtain⟨b,hb⟩:=this;obtain⟨u,hu,ru⟩:=rv.get (i:=i) (x:=.bl b) (by simp[hb]);rw[hv']at hu;cases hu;cases ru;exact dM (by simpa [hb] using hQ)
 ·intro h' tk hk
  have e:((aZ its.toArray.size).all λi=>(bs[i]?).getD false)=bs.all id:=by
   have hn:its.toArray.size=bs.length:=by simpa using hlen.symm
   rw[hn,cR];simp only[aO,cA,id];constructor
   ·intro h x hx;obtain⟨i,hi,rfl⟩:=List.mem_iff_getElem.mp hx;simpa [hi] using h i hi
   ·intro h i hi;simpa [hi] using h bs[i] (cq hi)
  rw[e]
  have I1:Inv X pins σ H { s with heap:=h',toks:=tk }:=by
   have I0:Inv X pins σ H { s with heap:=s.heap.push { cls:=.type "list_iterator", data:=.fields #[.ref p,rawInt 0] } }:=I.kept (t':=s.toks) λb o e=>eF _ e
   refine I.kept (t':=tk) λb o e=>hk b o ?_ (eF _ e)
   intro hb;have:b=s.heap.objs.size:=by simpa using hb
   subst this;exact absurd (eG e) (bf _)
  exact⟨.bl (bs.all id),H,I1,rfl,q⟩
noncomputable def aF5(f:Rho->Option (Bool×List D)):DE:=λρ=>(f ρ).bind λq=>if q.1=true then none else(az4 q.2).map eM
theorem cj4(hg:Gl X "all")(hm:X.mg "all" = none)(h:JQ X e f)(hc:X.calm=true:=by rfl)(he:dO [e] X.env=[(false,eval e X.env)]:=by rfl):JE X (.Call (.Name "all" p) [e] [] pos) (aF5 f):=λρ d q=>by
 obtain⟨⟨t,ds⟩,h1,h2⟩:=xbm q;cases t with
 | true=>simp at h2
 | false =>
  simp only[bi,if_false]at h2;obtain⟨c,h3,h4⟩:=af.mp h2;subst h4;obtain⟨bs,h5,h6⟩:=aG3 h3;subst h5 h6;refine A5 (J1 bc0 hg hm cl6 (B6 (h ρ false _ h1) D3 he) (he:=he)) λσ H Q ⟨H0,Hf,s,sl,k⟩=>?_
  refine⟨H0,Hf,s,sl,λv H1 Hf1 g1 ⟨a,vs,e1,e2,e3⟩=>⟨hc,a,bs,by rw[e1],?_,k _ H1 Hf1 g1 rfl⟩⟩;rw[aj8 e3]at e2;exact e2
noncomputable def aZ7(T:String)(d:D):Option Bool:=match d with
 | .int _=>(match T with | "int" => some true | "bool" => some false | "str" => some false | "tuple" => some false | "list" => some false|_=>none)
 | .bool _=>(match T with | "int" => some true | "bool" => some true | "str" => some false | "tuple" => some false | "list" => some false|_=>none)
 | .none=>(match T with | "int" => some false | "bool" => some false | "str" => some false | "tuple" => some false | "list" => some false|_=>none)
 | .str _=>(match T with | "int" => some false | "bool" => some false | "str" => some true | "tuple" => some false | "list" => some false|_=>none)
 | .tuple _=>(match T with | "int" => some false | "bool" => some false | "str" => some false | "tuple" => some true | "list" => some false|_=>none)
 | .list _=>(match T with | "int" => some false | "bool" => some false | "str" => some false | "tuple" => some false | "list" => some true|_=>none)
 | _=>none
noncomputable def tyD:D->String
 | .int _ => "int"
 | .bool _ => "bool"
 | .none => "NoneType"
 | .str _ => "str"
 | .tuple _ => "tuple"
 | .list _ => "list"
 | .dict _ => "dict"
theorem bK7{K:ag}{T:String}{d:D}{b:Bool}(h:aZ7 T d=some b):PySem.W.kitOne K (.type (tyD d)) (.type T)=some b:=by
 unfold aZ7 at h
 cases d<;>first
  | (dsimp only at h;split at h<;>first
   | (cases h;rfl)
   | cases h)
  | cases h
theorem bx0{T:String}:Q5 X (.builtin "isinstance") (λxs H Q=>∃d x b,xs=[x,.ty T]/\Rep X.K H d x/\aZ7 T d=some b/\Q (.bl b) H):=by
 intro pins s σ H xs us Q I r h;obtain⟨d,x,b,rfl,hd,hb,q⟩:=h;obtain⟨u,c,rfl,rx,rc⟩:=bd5 r;cases rc;have e:=bK7 (K:=X.K) hb;have fin:∀tk,EP X pins σ Q (.bool b) { s with toks:=tk }:=λtk=>⟨.bl b,H,I.tok tk,rfl,q⟩
 cases d with
 | none=>cases hd;cases rx;exact PySem.W.kia_one PySem.W.kitx_none I.kIn True.intro e (λz=>nomatch z) fin
 | bool y=>cases hd;cases rx;exact PySem.W.kia_one PySem.W.kitx_bool I.kIn True.intro e (λz=>nomatch z) fin
 | int i=>cases hd;obtain⟨t,rfl⟩:=rx;exact PySem.W.kia_one PySem.W.kitx_int I.kIn True.intro e (λz=>nomatch z) fin
 | str i=>cases hd;obtain⟨t,rfl⟩:=rx;exact PySem.W.kia_one PySem.W.kitx_str I.kIn True.intro e (λz=>nomatch z) fin
 | tuple ds =>
  obtain⟨a,vs,rfl,h2,h3⟩:=hd;cases rx;obtain⟨its,rv,⟨o,ho,hc,_⟩,_⟩:=I.tuple h2;exact PySem.W.kia_one PySem.W.kitx_tuple I.kIn ⟨o,ho,hc⟩ e (λz=>nomatch z) fin
 | list ds =>
  obtain⟨a,vs,rfl,h2,h3⟩:=hd;cases rx;obtain⟨its,rv,pl,_⟩:=I.list h2;obtain⟨o,ho,hc,_⟩:=pl.isList;exact PySem.W.kia_one PySem.W.kitx_list I.kIn ⟨o,ho,hc⟩ e (λz=>nomatch z) fin
 | dict ds=>simp[aZ7]at hb
noncomputable def aa3(T:String)(f:DE):DE:=λρ=>(f ρ).bind λd=>(aZ7 T d).map eM
theorem ci9(hg:Gl X "isinstance")(hm:X.mg "isinstance" = none)(hgT:Gl X x)(hmT:X.mg x=none)(hvT:dY x=some (.type T))(h:JE X e f)
  (hn:x ≠ "__name__" := by decide) (hd:(x==("__debug__" : Str))=false:=by decide)
  (he:dO [e,.Name x p2] X.env=(false,eval e X.env)::dO [.Name x p2] X.env:=by rfl) (he2:dO [.Name x p2] X.env=[(false,eval (.Name x p2) X.env)]:=by rfl) (hpl:(backTo pos (dO [.Name x p2] X.env)).any (·.1)=false:=by rfl) :
  JE X (.Call (.Name "isinstance" p) [e,.Name x p2] [] pos) (aa3 T f):=λρ d q=>by
 obtain⟨y,h1,h2⟩:=xbm q;obtain⟨b,h3,h4⟩:=af.mp h2;subst h4;refine A5 (J1 (bx0 (T:=T)) hg hm aN0 (B6 (h ρ y h1) (B6 (au6 (v:=.ty T) hgT hmT hvT rfl hn hd) D3 he2) he) (he:=he) (hpl:=hpl)) λσ H Q ⟨H0,Hf,s,sl,k⟩=>?_
 exact⟨H0,Hf,s,sl,λv H1 Hf1 g1 r=>⟨y,v,b,rfl,r.mono g1.sub,h3,k _ H1 Hf1 g1 rfl⟩⟩
noncomputable def spF(K:ag)(n:Nat)(F:List D->Option D):Sp:=λvs H Q _=>vs.length=n/\∃Hf ds d,B0 Hf H/\Reps K Hf ds vs/\F ds=some d/\∀v H' Hf',Grow H Hf H' Hf'->Rep K Hf' d v->Q v H'
noncomputable def A6(F:List D->Option D)(f:Rho->Option (List D)):DE:=λρ=>(f ρ).bind F
theorem bK3(Fk:FnOk X.prog X.w X.K X.mg X.base (CXb X.K X.prog X.w b) k f fd ps (spF X.K n F))(hq:Ps X b)(hr:Room k X.A)(hg:Gl X x)(hm:X.mg x=some (.ref f))(hk:aD X.K (.ref f)=true)(hb:E8 X.K fd ps [])
  (ha:JA X (e::es) g) (hn:(e::es).length=n:=by rfl) (hdb:(x==("__debug__" : Str))=false:=by decide) (he:dO (e::es) X.env=(false,eval e X.env)::dO es X.env:=by rfl) (hpl:(backTo pos (dO es X.env)).any (·.1)=false:=by rfl) :
  JE X (.Call (.Name x p) (e::es) [] pos) (A6 F g):=λρ d q=>by
 obtain⟨ds,h1,h2⟩:=xbm q;refine A5 (i9 Fk hr hg hm hk hb .nil hq (λpos pins s σ H Q I t=>ha.run ρ ds h1 pos pins s σ H Q I t) hdb he hpl) λσ H Q ⟨H0,Hf,s,sl,kk⟩=>?_
 refine⟨H0,Hf,s,sl,λvs H1 Hf1 g1 r1=>⟨?_,Hf1,ds,d,g1.sub,by rw[aw];exact r1,h2,λv H2 Hf2 g2 r2=>kk v H2 Hf2 (g1.trans g2) r2⟩⟩;rw[aw,r1.length,ha.len ρ ds h1,hn]
inductive Fl where
 | nx (ρ:Rho)
 | rt (d:D)
 | bk (ρ:Rho)
 | ct (ρ:Rho)
noncomputable abbrev DS:=Rho->Option Fl
structure At (K:ag) (H0 Hf0:Hp) (ρ:Rho) (σ:L2.St) (H Hf:Hp):Prop where
 gr:Grow H0 Hf0 H Hf
 sl:Slots K H0 ρ σ H Hf
noncomputable def Fl.ends(K:ag)(H0 Hf0 Hf:Hp)(En:Ends):Fl->Prop
 | .nx ρ=>∀σ' H' Hf',At K H0 Hf0 ρ σ' H' Hf'->B0 Hf Hf'->En.nx σ' H'
 | .bk ρ=>∀σ' H' Hf',At K H0 Hf0 ρ σ' H' Hf'->B0 Hf Hf'->En.bk σ' H'
 | .ct ρ=>∀σ' H' Hf',At K H0 Hf0 ρ σ' H' Hf'->B0 Hf Hf'->En.ct σ' H'
 | .rt d=>∀v H' Hf',Grow H0 Hf0 H' Hf'->Rep K Hf' d v->En.rt v H'
noncomputable def tJS(K:ag)(H0 Hf0:Hp)(ρ:Rho)(fl:Fl):TS:=λEn σ H=>∃Hf,At K H0 Hf0 ρ σ H Hf/\fl.ends K H0 Hf0 Hf En
noncomputable def JS(X:Cx)(st:Stmt)(f:DS):Prop:=∀ρ fl,f ρ=some fl->∀H0 Hf0,PS X st (tJS X.K H0 Hf0 ρ fl)
noncomputable def JSs(X:Cx)(sts:List Stmt)(f:DS):Prop:=∀ρ fl,f ρ=some fl->∀H0 Hf0,PSs X sts (tJS X.K H0 Hf0 ρ fl)
theorem D0{st:Stmt}{t t':TS}(h:PS X st t)(i:∀En σ H,t' En σ H->t En σ H):PS X st t':=λpins s σ H En I q=>h pins s σ H En I (i En σ H q)
theorem Q8{st:List Stmt}{t t':TS}(h:PSs X st t)(i:∀En σ H,t' En σ H->t En σ H):PSs X st t':=λpins s σ H En I q=>h pins s σ H En I (i En σ H q)
theorem At.grow{K:ag}{H0 Hf0 H Hf H' Hf':Hp}{ρ:Rho}{σ:L2.St}(a:At K H0 Hf0 ρ σ H Hf)(g:Grow H Hf H' Hf'):At K H0 Hf0 ρ σ H' Hf':=⟨a.gr.trans g,a.sl.grow g⟩
theorem Fl.ends_mono{K:ag}{H0 Hf0 Hf Hf':Hp}{En:Ends}{fl:Fl}(h:fl.ends K H0 Hf0 Hf En)(e:B0 Hf Hf'):fl.ends K H0 Hf0 Hf' En:=by
 cases fl with
 | nx ρ=>exact λσ' H' Hf'' a s=>h σ' H' Hf'' a (e.trans s)
 | bk ρ=>exact λσ' H' Hf'' a s=>h σ' H' Hf'' a (e.trans s)
 | ct ρ=>exact λσ' H' Hf'' a s=>h σ' H' Hf'' a (e.trans s)
 | rt d=>exact h
noncomputable def Z2:DS:=λρ=>some (.nx ρ)
noncomputable def E9(f g:DS):DS:=λρ=>(f ρ).bind λfl=>match fl with
 | .nx ρ'=>g ρ'
 | fl=>some fl
theorem aT0:JSs X [] Z2:=λρ fl q H0 Hf0=>by
 cases q;exact Q8 aQ9 λEn σ H ⟨Hf,a,e⟩=>e σ H Hf a (B0.refl _)
theorem al2{st:Stmt}{sts:List Stmt}{f g:DS}(h1:JS X st f)(h2:JSs X sts g):JSs X (st::sts) (E9 f g):=λρ fl q H0 Hf0=>by
 obtain⟨fl1,e1,q⟩:=xbm q;cases fl1 with
 | nx ρ' =>
  refine Q8 (S6 (h1 ρ _ e1 H0 Hf0) (h2 ρ' fl q H0 Hf0)) λEn σ H ⟨Hf,a,e⟩=>⟨Hf,a,λσ' H' Hf' a' s'=>⟨Hf',a',Fl.ends_mono e s'⟩⟩
 | rt d=>cases q;exact Q8 (S6 (h1 ρ _ e1 H0 Hf0) K1) λEn σ H ⟨Hf,a,e⟩=>⟨Hf,a,e⟩
 | bk ρ'=>cases q;exact Q8 (S6 (h1 ρ _ e1 H0 Hf0) K1) λEn σ H ⟨Hf,a,e⟩=>⟨Hf,a,e⟩
 | ct ρ'=>cases q;exact Q8 (S6 (h1 ρ _ e1 H0 Hf0) K1) λEn σ H ⟨Hf,a,e⟩=>⟨Hf,a,e⟩
theorem u8{st:Stmt}{f:DS}(h1:JS X st f):JSs X [st] f:=λρ fl q H0 Hf0=>ah2 (h1 ρ fl q H0 Hf0)
noncomputable def D9(f:DE):DS:=λρ=>(f ρ).map Fl.rt
theorem aw4{e:Expr}{f:DE}{pos:Pos}(h:JE X e f):JS X (.Return (some e) pos) (D9 f):=λρ fl q H0 Hf0=>by
 obtain⟨d,e1,e2⟩:=af.mp q;subst e2;exact D0 (au4 (h ρ d e1)) λEn σ H ⟨Hf,a,e⟩=>⟨H0,Hf,a.gr.sub,a.sl,λv H' Hf' g r=>e v H' Hf' (a.gr.trans g) r⟩
noncomputable def sIf(t:Rho->Option Bool)(f g:DS):DS:=λρ=>(t ρ).bind λc=>if c then f ρ else g ρ
theorem bQ5{c:Expr}{a b:List Stmt}{t:Rho->Option Bool}{f g:DS}{pos:Pos}(hc:JT X c t)(ha:JSs X a f)(hb:JSs X b g):JS X (.If c a b pos) (sIf t f g):=λρ fl q H0 Hf0=>by
 obtain⟨x,e1,q⟩:=xbm q;cases x with
 | true =>
  refine D0 (aR0 (hc ρ _ e1) (ha ρ fl (by simpa using q) H0 Hf0) K1) λEn σ H ⟨Hf,a,e⟩=>⟨H0,Hf,a.gr.sub,a.sl,λH' Hf' g=>v5 ⟨Hf',a.grow g,Fl.ends_mono e g.ext⟩⟩
 | false =>
  refine D0 (aR0 (hc ρ _ e1) K1 (hb ρ fl (by simpa using q) H0 Hf0)) λEn σ H ⟨Hf,a,e⟩=>⟨H0,Hf,a.gr.sub,a.sl,λH' Hf' g=>ag3 ⟨Hf',a.grow g,Fl.ends_mono e g.ext⟩⟩
theorem Slots.set{K:ag}{H0 H Hf:Hp}{ρ:Rho}{σ:L2.St}{i:Nat}{d:D}{v:V}(s:Slots K H0 ρ σ H Hf)(r:Rep K Hf d v):Slots K H0 (ρ.set i (some (.val d))) (σ.set i (some v)) H Hf:=by
 refine⟨by simp[s.len],λj b e=>?_,λj k ds es a h1 h2 h3 h4=>?_⟩
 ·by_cases q:i=j
  ·subst q
   have hi:i < ρ.length:=by
    have:=(ao.mp e).1;simpa using this
   have hi':i < σ.length:=by rw[← s.len];exact hi
   rw[aC hi]at e;cases e;exact⟨v,aC hi',r⟩
  ·rw[aA q]at e;obtain⟨u,h1,h2⟩:=s.is j b e;exact⟨u,by rw[aA q];exact h1,h2⟩
 ·have hj:i≠j:=by
   intro q;subst q
   have hi:i < ρ.length:=by
    have:=(ao.mp h1).1;simpa using this
   rw[aC hi]at h1;cases h1
  have hk:i≠k:=by
   intro q;subst q
   have hi:i < ρ.length:=by
    have:=(ao.mp h2).1;simpa using this
   rw[aC hi]at h2;cases h2
  rw[aA hj]at h1 h3;rw[aA hk]at h2 h4;exact s.apart j k ds es a h1 h2 h3 h4
noncomputable def J8(i:Nat)(f:DE):DS:=λρ=>(f ρ).map λd=>.nx (ρ.set i (some (.val d)))
theorem aK3(i:Nat){x:Str}{e:Expr}{f:DE}{pos pos':Pos}(hN:X.N.Nodup)(h:JE X e f)(hi:X.N[i]? = some x:=by rfl)(hx:Loc X.env.scope x:=by first|exact Or.inl rfl|exact Or.inr rfl)
  (hs:swapsWith e (some (.Name x pos')) pos.line X.env=pure false:=by rfl) (hf:X.fn x=true\/X.env.scope.names.lookup x=some .local:=by first|exact .inl rfl|exact .inr rfl):JS X (.Assign [.Name x pos'] e pos) (J8 i f):=λρ fl q H0 Hf0=>by
 obtain⟨d,e1,e2⟩:=af.mp q;subst e2;exact D0 (m7 hN hi hx (h ρ d e1) hs hf) λEn σ H ⟨Hf,a,e⟩=>⟨H0,Hf,a.gr.sub,a.sl,λv H' Hf' g r=>e _ H' Hf' ⟨a.gr.trans g,(a.sl.grow g).set r⟩ g.ext⟩
noncomputable def bh6(i j:Nat)(f:Rho->Option (List D)):DS:=λρ=>(f ρ).bind λds=>match ds with
 | [a,b]=>some (.nx ((ρ.set i (some (.val a))).set j (some (.val b))))
 | _=>none
end
end G
namespace G
open PySem PySem.Spec PyProof.Rows L2
theorem bb8(I:Nat->eV->Prop)
  (turn:∀n s,I n s->eD (eE prog w) A (pyNext it) (λr s1=>match r with
   | none=>R (.ok .next) s1
   | some v=>eD (eE prog w) A (letOwnedTupleGo target it v) (λ_ s1'=>eD (eE prog w) A (assign target env v) (λ_ s2 =>
     eD (eE prog w) A (forIn ifs true λc r=>if r=true then do let ok ← isTrue c env (eval c env);pure (ForInStep.yield ok) else pure (ForInStep.yield r)) (λok s3 =>
      if ok=true then eD (eE prog w) A (eval elt env) (λx s4 =>
       eD (eE prog w) A (call (.builtin "list.append") [acc,x]) (λ_ s5=>∃m,m < n/\I m s5) Ei s4) Ei s3
      else ∃m,m < n/\I m s3) Ei s2) Ei s1') Ei s1) Ei s)
  (hE:∀e s,Ei e s->notedBy (eE prog w) A env (λx s'=>R (.error x) s') e s) (n:Nat) (h:I n s) :
  codeAny (eE prog w) A (.compLoop (.ListComp elt [⟨target,iter,ifs,0⟩] scope pos) 0 it acc env) R s:=by
 refine codeAny_loop rfl I (λn s hI=>?_) n h;show eD _ A ((compTurn (.ListComp elt [⟨target,iter,ifs,0⟩] scope pos) 0 it acc env).onRaise (λx=>do noteFrame x env;theTreesLotGoes x)) _ _ s;refine wpAny_noted ?_;rw[compTurn_list];refine dH (wpAny_standAt (dH (dJ (turn n s hI) (λr s1 h1=>?_) hE)));cases r with
 | none=>exact dI h1
 | some v =>
  refine dH (dJ h1 (λ_ s1' h1'=>?_) hE);refine dH (dJ h1' (λ_ s2 h2=>dH (dJ h2 (λok s3 h3=>?_) hE)) hE);cases ok with
  | false=>exact dI ⟨rfl,h3⟩
  | true =>
   exact dH (dH (dJ h3 (λx s4 h4=>dH (dJ h4 (λ_ s5 h5=>dI (dI ⟨rfl,h5⟩)) hE)) hE))
noncomputable def K8(cells:List (Str×eW)):List (Str×NameKind)->List (Str×eW)->List (Str×eW)
 | [],cs=>cs
 | (n,k)::r,cs=>if(k==eR)=true then K8 cells r ((n,(cells.lookup n).getD 0)::cs) else K8 cells r cs
theorem am7:∀(names:List (Str×NameKind)) (cs:List (Str×eW)),(∀y∈names,y.2=.free->∃c,env.cells.lookup y.1=some c) ->
  (forIn names cs λ(x:Str×NameKind) (r:List (Str×eW))=>if(x.2==eR)=true then do let a ← cellOf env x.1;pure (ForInStep.yield ((x.1,a)::r)) else pure (ForInStep.yield r):Sem (List (Str×eW)))=pure (K8 env.cells names cs)
 | [],cs,_=>rfl
 | (n,k)::r,cs,h=>by
  rw[List.forIn_cons];have hr:∀y∈r,y.2=.free->∃c,env.cells.lookup y.1=some c:=λy hy=>h y (ai _ hy)
  by_cases hk:(k==eR)=true
  ·obtain⟨c,hc⟩:=h (n,k) bC (by simpa using hk);have hc':env.cells.lookup n=some c:=hc;simp only[hk,if_true];have e:cellOf env n=pure c:=by unfold cellOf;rw[hc']
   rw[e];show(forIn r ((n,c)::cs) _:Sem _)=_;rw[am7 r _ hr];simp only[K8,hk,if_true,hc',Option.getD_some]
  ·have hk':(k==eR)=false:=by simpa using hk
   simp only[hk',bi,if_false];show(forIn r cs _:Sem _)=_;rw[am7 r _ hr];simp only[K8,hk',bi,if_false]
theorem bM3(h:∀y∈scope.names,y.2=.free->∃c,env.cells.lookup y.1=some c):closureFor scope env=pure (K8 env.cells scope.names []):=by
 have:=am7 (env:=env) scope.names [] h;unfold closureFor;exact congrArg (λz=>z >>= λcs=>pure cs) this
theorem aa5:∀{names:List (Str×NameKind)}{cs:List (Str×eW)}{x:Str}{c:eW},(x,c)∈K8 cells names cs->(x,c)∈cs\/((x,eR)∈names/\c=(cells.lookup x).getD 0)
 | [],cs,x,c,h=>.inl h
 | (n,k)::r,cs,x,c,h=>by
  unfold K8 at h;split at h
  ·rename_i hk;rcases aa5 h with q|⟨q1,q2⟩
   ·rcases ax.mp q with q|q
    ·cases q;have:k=.free:=by simpa using hk
     subst this;exact .inr ⟨bC,rfl⟩
    ·exact .inl q
   ·exact .inr ⟨ai _ q1,q2⟩
  ·rcases aa5 h with q|⟨q1,q2⟩
   ·exact .inl q
   ·exact .inr ⟨ai _ q1,q2⟩
theorem V4:∀{names:List (Str×NameKind)}{cs:List (Str×eW)}{x:Str},((x,eR)∈names\/∃c,(x,c)∈cs)->∃c,(x,c)∈K8 cells names cs
 | [],cs,x,h=>by
  rcases h with h|h
  ·cases h
  ·exact h
 | (n,k)::r,cs,x,h=>by
  unfold K8;rcases h with h|⟨c,h⟩
  ·rcases ax.mp h with q|q
   ·cases q;rw[if_pos (by rfl)];exact V4 (.inr ⟨_,bC⟩)
   ·split
    ·exact V4 (.inl q)
    ·exact V4 (.inl q)
  ·split
   ·exact V4 (.inr ⟨c,ai _ h⟩)
   ·exact V4 (.inr ⟨c,h⟩)
theorem m8{l:List (Str×eW)}{x:Str}{c:eW}(h:(x,c)∈l):∃c',l.lookup x=some c':=by
 induction l with
 | nil=>cases h
 | cons p r ih =>
  obtain⟨n,a⟩:=p;rw[aJ];cases e:x==n with
  | true=>exact⟨a,rfl⟩
  | false =>
   rcases ax.mp h with q|q
   ·cases q;simp at e
   ·exact ih q
theorem u3:(relabel scope env).names.lookup x=some k->∃k0,scope.names.lookup x=some k0/\(k=k0\/k0=.free):=by
 unfold relabel;simp only;generalize scope.names=names
 induction names with
 | nil=>intro h;simp at h
 | cons p r ih =>
  obtain⟨n,k1⟩:=p;intro h;rw[bh]at h;by_cases hc:(k1==eR&&env.scope.kind == .function&&env.kindOf n==some .cell)=true
  ·simp only[hc,if_true,aJ]at h;rw[aJ];cases e:x==n with
   | true =>
    rw[e]at h;rw[ah,ah]at hc;exact⟨k1,rfl,.inr (by simpa using hc.1.1)⟩
   | false=>rw[e]at h;exact ih h
  ·have hc':(k1==eR&&env.scope.kind == .function&&env.kindOf n==some .cell)=false:=by simpa using hc
   simp only[hc',bi,if_false,aJ]at h;rw[aJ];cases e:x==n with
   | true=>rw[e]at h;cases h;exact⟨_,rfl,.inl rfl⟩
   | false=>rw[e]at h;exact ih h
theorem au1:scope.names.lookup x=some .free->(relabel scope env).names.lookup x=some .cell\/(relabel scope env).names.lookup x=some .free:=by
 unfold relabel;simp only;generalize scope.names=names
 induction names with
 | nil=>intro h;simp at h
 | cons p r ih =>
  obtain⟨n,k1⟩:=p;intro h;rw[aJ]at h;rw[bh];cases e:x==n with
  | true =>
   rw[e]at h;cases h;have en:x=n:=by simpa using e
   subst en;by_cases hc:(eR==eR&&env.scope.kind == .function&&env.kindOf x==some .cell)=true
   ·simp only[hc,if_true,aJ,e];exact .inl trivial
   ·have hc':(eR==eR&&env.scope.kind == .function&&env.kindOf x==some .cell)=false:=by simpa using hc
    simp only[hc',bi,if_false,aJ,e];exact .inr trivial
  | false =>
   rw[e]at h;by_cases hc:(k1==eR&&env.scope.kind == .function&&env.kindOf n==some .cell)=true
   ·simp only[hc,if_true,aJ,e];exact ih h
   ·have hc':(k1==eR&&env.scope.kind == .function&&env.kindOf n==some .cell)=false:=by simpa using hc
    simp only[hc',bi,if_false,aJ,e];exact ih h
noncomputable def aM5(X:Cx)(N':List Str)(scope:Scope)(C:eW)(s₀:eV)(H₀:Hp)(ex:List eW):Cx where
 prog:=X.prog
 w:=X.w
 K:=X.K
 mg:=X.mg
 base:=X.base
 A:=X.A
 N:=N'
 s₀:=s₀
 H₀:=H₀
 env:=compEnvC scope (K8 X.env.cells scope.names []) C X.env
 outer:=X.stack
 stack:=X.stack
 ex:=ex
 fn:=λ_=>false
 calm:=X.calm
 pn:=[]
 xe:=λ_ _=>False
noncomputable def arr(u:Bool)(Y:Cx):eU->eV->Prop:=λe s'=>u=true/\∃pins σ H s,Inv Y pins σ H s/\CX1 Y.prog Y.w Y.stack H s (Ef Y.K) e s'
noncomputable abbrev B3(u:Bool)(X:Cx)(N':List Str)(scope:Scope)(C:eW)(s₀:eV)(H₀:Hp)(ex:List eW):Cx:=(aM5 X N' scope C s₀ H₀ ex).wish (arr u (aM5 X N' scope C s₀ H₀ ex))
theorem u5:Ps (B3 ub X N' scope C s₀ H₀ ex) ub:=by
 cases ub
 ·exact bP2
 ·exact λpins σ H s e s' I hx=>⟨rfl,pins,σ,H,s,I.unwish,hx⟩
structure CompSc (X:Cx) (N':List Str) (n:Nat) (caps:List Nat) (scope:Scope):Prop where
 kind:scope.kind=.function
 cell:∀y∈scope.names,y.2≠.cell
 loc:∀y∈scope.names,y.2=.local->scope.names.lookup y.1=some .local
 free:∀y∈scope.names,y.2=.free->X.env.scope.names.lookup y.1=some .cell\/X.env.scope.names.lookup y.1=some .free
 len:N'.length=n+caps.length
 cap:∀(i j:Nat),caps[i]? = some j->∃x,X.N[j]? = some x/\N'[n+i]? = some x/\scope.names.lookup x=some .free
section
variable {ub:Bool}{X:Cx}{N':List Str}{n:Nat}{caps:List Nat}{scope:Scope}
theorem L7{l:List (Str×NameKind)}{x:Str}{k:NameKind}(h:l.lookup x=some k):(x,k)∈l:=PySem.mem_of_lookup h
noncomputable def ag7(n:Nat)(caps:List Nat)(σ:L2.St):L2.St:=au n none++caps.map λj=>(σ[j]?).join
theorem aM4(S:CompSc X N' n caps scope)(I:Inv X pins σ H s)(hf:∀b∈fp,ad7 X pins H b)(hlt:∀b∈fp,b < s.heap.objs.size)
  (hns:h1.Ns s.heap.objs.size m) (hk:∀b o,s.heap.get? b=some o->h1.get? b=some o) :
  Inv (B3 ub X N' scope s.heap.objs.size s H fp) [] (ag7 n caps σ) H { s with heap:=h1,toks:=tk }:=by
 have cl_of:∀x c,(K8 X.env.cells scope.names []).lookup x=some c->X.env.cells.lookup x=some c:=λx c h=>by
  have hm:=PySem.mem_of_lookup h;rcases aa5 hm with q|⟨q1,q2⟩
  ·cases q
  ·obtain⟨c',hc'⟩:=I.ok.has x (S.free _ q1 rfl);rw[hc']at q2;rw[hc',q2];rfl
 have cl_has:∀x,(x,eR)∈scope.names->∃c,(K8 X.env.cells scope.names []).lookup x=some c:=λx h=>by
  obtain⟨c,hc⟩:=V4 (cells:=X.env.cells) (cs:=[]) (.inl h);exact m8 hc
 have kind_free:∀x,((relabel scope X.env).names.lookup x=some .cell\/(relabel scope X.env).names.lookup x=some .free)->(x,eR)∈scope.names:=λx h=>by
  rcases h with h|h
  ·obtain⟨k0,e1,e2⟩:=u3 h;rcases e2 with e2|e2
   ·subst e2;exact absurd rfl (S.cell _ (L7 e1))
   ·subst e2;exact L7 e1
  ·obtain⟨k0,e1,e2⟩:=u3 h;rcases e2 with e2|e2
   ·subst e2;exact L7 e1
   ·subst e2;exact L7 e1
 have cell_lt:∀x c,X.env.cells.lookup x=some c->c < s.heap.objs.size:=λx c e=>by
  obtain⟨v,q⟩:=I.cell x c e;exact q.lt
 have ok:(B3 ub X N' scope s.heap.objs.size s H fp).Ok:=by
  refine⟨I.ok.mod,S.kind,I.ok.glob,I.ok.blt,aj _,λx y c e1 e2=>I.ok.inj x y c (cl_of x c e1) (cl_of y c e2),λx hx=>cl_has x (kind_free x hx),λx c e _=>(be e).elim,I.ok.hd,I.ok.frames,.inl rfl,λb hb=>⟨aK (hlt b hb),λx c e=>(hf b hb).2.2.2.2.1 x c (cl_of x c e)⟩,
   I.bs,aM I.ok.bsz I.sz,λb o e hb=>?_,λb hb hb2=>?_,I.stack,I.stkFree⟩
  ·rcases(hf b hb).2.2.2.1 with z|z
   ·exact I.ok.noex b o e z
   ·exact absurd (aB (eG e) (aM I.ok.bsz z)) (bf _)
  ·rcases ax.mp (I.stkSub b hb2) with z|z
   ·exact(hf b hb).2.1 z
   ·exact(hf b hb).2.2.1 z
 refine⟨ok,rfl,I.bare,Un.kept hk,⟨m,hns,λi x v e1 e2 e3=>?_⟩,λx c e=>?_,I.hok.fresh (aj _),λx c e=>I.freeC x c (cl_of x c e),λp hp=>absurd (show p∈([]:List (eW×Obj)) from hp) (by simp),I.hok.kept hk,?_⟩
 ·have hi:n<=i:=by
   rcases bD i n with h|h
   ·unfold ag7 at e2;rw[az (by simpa using h),aY,if_pos h]at e2;cases e2
   ·exact h
  unfold ag7 at e2;rw[aq (by simpa using hi),aF]at e2;simp only[bA]at e2;cases hj:caps[i - n]? with
  | none=>rw[hj]at e2;cases e2
  | some j =>
   rw[hj]at e2;have e2':(σ[j]?).join=some v:=by simpa using e2
   have e2'':σ[j]? = some (some v):=by
    cases q:σ[j]? with
    | none=>rw[q]at e2';cases e2'
    | some o=>rw[q]at e2';simp at e2';rw[e2']
   obtain⟨y,q1,q2,q3⟩:=S.cap _ _ hj
   have:y=x:=by
    have e1':N'[i]? = some x:=e1;rw[show n+(i - n)=i by grind,e1']at q2;cases q2;rfl
   subst this;obtain⟨m0,hn0,hl0⟩:=I.loc
   have hv:Vis X.env.scope y:=by
    rcases S.free _ (L7 q3) rfl with z|z
    ·exact .inr (.inl z)
    ·exact .inr (.inr z)
   obtain⟨u,ru,lk⟩:=hl0 j y v q1 e2'' hv;refine⟨u,ru,.inr ⟨au1 q3,?_⟩⟩;rcases lk with⟨lk,_⟩|⟨_,c,hc,hcell⟩
   ·rcases S.free _ (L7 q3) rfl with z|z
    ·have:X.env.scope.names.lookup y=some .local:=lk;rw[z]at this;cases this
    ·have:X.env.scope.names.lookup y=some .local:=lk;rw[z]at this;cases this
   ·obtain⟨c',hc'⟩:=cl_has y (L7 q3);have:=cl_of y c' hc';rw[hc]at this;cases this;obtain⟨o,ho,hd⟩:=hcell;exact⟨c,hc',o,hk c o ho,hd⟩
 ·obtain⟨v,o,ho,hd⟩:=I.cell x c (cl_of x c e);exact⟨v,o,hk c o ho,hd⟩
 ·show(ag7 n caps σ).length=N'.length;unfold ag7;rw[S.len];simp
theorem ad0(I:Inv X pins σ H s)(hf:∀b∈fp,ad7 X pins H b)
  (I':Inv (B3 ub X N' scope s.heap.objs.size s H fp) [] σ' H' s') (sb:Heap.SameBut s.heap.objs.size s'.heap h'):Inv X pins σ H' { s' with heap:=h' }:=by
 have ne:∀b o,s.heap.get? b=some o->b≠s.heap.objs.size:=λb o e=>aK (eG e)
 refine I.call' (s':={ s' with heap:=h' }) (ch:=fp) I'.os ?_ ?_ I'.bare λb hb=>⟨(hf b hb).2.2.2.1,(hf b hb).2.1,(hf b hb).2.2.2.2.1,(hf b hb).2.2.2.2.2⟩
 ·refine⟨λb o e n hb hx=>sb.extBut b o (ne b o e) (I'.base.keep b o e n hb hx),λb o e n hb hx=>?_,I'.base.free,λb o e hx=>?_,I'.base.tups,I'.base.frzs,I'.base.tbls⟩
  ·obtain⟨sl,q⟩:=I'.base.slot b o e n hb hx;exact⟨sl,sb.extBut b _ (ne b o e) q⟩
  ·obtain⟨o',q⟩:=I'.base.there b o e hx;exact⟨o',sb.extBut b _ (ne b o e) q⟩
 ·intro b u e
  have nC:∀c v,H' c=some v->c≠s.heap.objs.size:=λc v q z=>by
   have:=I'.free;have z':H' c=none:=by rw[z];exact this
   rw[z']at q;cases q
  refine(I'.hok b u e).stay (λc v hc q=>sb.extBut c v ?_ q) (λ_ q=>q) λ_ _ q=>q
  rcases hc with z|z
  ·rw[z];exact nC b u e
  ·exact nC c _ z
noncomputable def PTs(X:Cx)(ifs:List Expr)(t:TT):Prop :=
 ∀(pins:List (eW×Obj)) (s:eV) (σ:L2.St) (H:Hp) (Q:Bool->Hp->Prop),Inv X pins σ H s->t σ H Q ->
  eD (eE X.prog X.w) X.A (forIn ifs true λc r=>if r=true then do let ok ← isTrue c X.env (eval c X.env);pure (ForInStep.yield ok) else pure (ForInStep.yield r)) (TP X pins σ Q) X.xe s
theorem bF2:PTs X [] (λ_ H Q=>Q true H):=λpins s σ H Q I h=>wpAny_tests_nil ⟨H,I,h⟩
theorem bF1(h:PT X c t):PTs X [c] t:=λpins s σ H Q I q=>wpAny_tests_one (h pins s σ H Q I q)
noncomputable def aO9(n:Nat)(caps:List Nat)(wi:TI)(g:TG)(tc:TT)(te:TE):TE:=λσ H Q=>wi σ H λJ H1=>∀Dd,H1 Dd=none->∃W:Nat->Nat->List V->L2.St->Hp->Prop,
 (∃m,W 0 m [] (ag7 n caps σ) (upd H1 Dd (.lst []))) /\
 ∀i m ys σ' H',W i m ys σ' H' ->
  (J.stop i H'/\Q (.ref Dd) H') \/
  (J.go i H'/\∀x H2,J.yld i H' x H2->g x σ' H2 λσ3 H3=>tc σ3 H3 λb H4 =>
   if b=true then te σ3 H4 λy H5=>H5 Dd=some (.lst ys)/\ys.length < dP/\∃m',m' < m/\W (i+1) m' (ys++[y]) σ3 (upd H5 Dd (.lst (ys++[y])))
   else ∃m',m' < m/\W (i+1) m' ys σ3 H4)
theorem am6{elt tgt iter:Expr}{ifs:List Expr}{pos:Pos}{wi:TI}{g:TG}{tc:TT}{te:TE}{RR:eU->eW->Result->eV->Prop}(S:CompSc X N' n caps scope)(hu:ub=true->Th X)(hc:X.calm=true)
  (hi:PI X tgt iter wi) (hg:∀C s0 H0 ex,PG (B3 ub X N' scope C s0 H0 ex) tgt g) (ht:∀C s0 H0 ex,PTs (B3 ub X N' scope C s0 H0 ex) ifs tc) (he:∀C s0 H0 ex,PE (B3 ub X N' scope C s0 H0 ex) elt te)
  {pins:List (eW×Obj)}{s:eV}{σ:L2.St}{H:Hp}{Q:VK}(I:Inv X pins σ H s) (h:aO9 n caps wi g tc te σ H Q)
  (hRR:∀D C r s',r=.ok .next->(∃m,s'.heap.Ns C m/\∀h',Heap.SameBut C s'.heap h'->∃H',Inv X pins σ H' { s' with heap:=h' }/\Q (.ref D) H') ->
   (∃s2 fp σ' H2 H',s2.heap.objs.size=C/\Inv X pins σ H2 s2/\(∀b∈fp,ad7 X pins H2 b)/\Inv (B3 ub X N' scope s2.heap.objs.size s2 H2 fp) [] σ' H' s'/\Q (.ref D) H')->RR (.ref D) C r s') (hRE:∀D C e s',CmE X C e s'->RR (.ref D) C (.error e) s') :
  eD (eE X.prog X.w) X.A (eval iter X.env) (λx s₁=>eD (eE X.prog X.w) X.A (pyIter x) (λit s₂=>eD (eE X.prog X.w) X.A (newList []) (λacc s₃ =>
   eD (eE X.prog X.w) X.A (newFunctionEnv scope X.env.globals (K8 X.env.cells scope.names []) [] X.env.qual none .none (some X.env)) (λcenv s₄ =>
    codeAny (eE X.prog X.w) X.A (.compStart (.ListComp elt [⟨tgt,iter,ifs,0⟩] scope pos) 0 it acc { cenv with scope:=relabel scope X.env }) (RR acc cenv.locals) s₄) X.xe s₃) X.xe s₂) X.xe s₁) X.xe s:=by
 refine dJ (hi pins s σ H _ I h) (λv s1 h1=>dJ h1 (λitv s2 h2=>?_) λ_ _ z=>z) λ_ _ z=>z
 obtain⟨it,fp,tn,J,H2,e,I2,T,st2,f2,R⟩:=h2;subst e;refine dL (wpAny_newFunctionEnv S.cell (by intro y hy;simp at hy) (λh₁ hns₁ hsb₁=>?_) S.kind);dsimp only at hns₁ hsb₁ ⊢;obtain⟨W,⟨m0,w0⟩,turn⟩:=R s2.heap.objs.size (I2.hok.fresh (aj _))
 have lt2:∀b∈fp,b < s2.heap.objs.size:=λb hb=>by
  obtain⟨o,ho,_⟩:=T.obj _ _ st2 b hb;exact eG ho
 have I3:Inv X pins σ (upd H2 s2.heap.objs.size (.lst [])) { s2 with heap:=s2.heap.push { cls:=.type "list", dict:=none,data:=.seq ([]:List eU).toArray } } :=
  I2.laid (t':=s2.toks) (λb u e=>eF _ e) (aj _) ⟨aU _,[],0,.nil,eI _ rfl⟩
 generalize hs3:({ s2 with heap:=s2.heap.push { cls:=.type "list", dict:=none,data:=.seq ([]:List eU).toArray } }:eV)=s3 at I3;have es3:s3.heap=s2.heap.push { cls:=.type "list", dict:=none,data:=.seq ([]:List eU).toArray }:=by rw[← hs3]
 rw[← es3]at hns₁ hsb₁ ⊢;have keep3:∀b o,s3.heap.get? b=some o->h₁.get? b=some o:=λb o e=>hsb₁.extBut b o (aK (eG e)) (eF _ e)
 have lt3:∀b∈fp,b < s3.heap.objs.size:=λb hb=>by rw[es3,Heap.size_push];exact Nat.lt_succ_of_lt (lt2 b hb)
 have f3:∀b∈fp,ad7 X pins (upd H2 s2.heap.objs.size (.lst [])) b:=λb hb=>⟨by rw[A9 (aK (lt2 b hb))];exact(f2 b hb).1,(f2 b hb).2⟩
 generalize hH3:upd H2 s2.heap.objs.size (HO.lst [])=H3 at I3 f3 w0
 have fin3:∀{σ':L2.St}{H':Hp}{pl:List (eW×Obj)},(∀b∈fp,H' b=none)->(∀p∈pl,False)->∀b∈fp,ad7 (B3 ub X N' scope s3.heap.objs.size s3 H3 fp) pl H' b:=λ{σ' H' pl} hn hp b hb=>by
  refine⟨hn b hb,aK (lt3 b hb),λz=>?_,.inl hb,λx c e=>?_,λp hp'=>?_⟩
  ·rcases ax.mp (I3.stkSub b z) with z|z
   ·exact(f3 b hb).2.1 z
   ·exact(f3 b hb).2.2.1 z
  ·have hm:=PySem.mem_of_lookup e;rcases aa5 hm with q|⟨q1,q2⟩
   ·cases q
   ·obtain⟨c',hc'⟩:=I3.ok.has x (S.free _ q1 rfl);rw[hc']at q2;have q2':c=c':=q2;subst q2';exact(f3 b hb).2.2.2.2.1 x c hc'
  ·exact(hp p (by simpa [aM5] using hp')).elim
 have toks:∃tk,({ s2 with heap:=h₁,toks:=s2.toks+([]:List (Str×eU)).length }:eV)={ s3 with heap:=h₁,toks:=tk }:=⟨s2.toks,by rw[← hs3];rfl⟩;obtain⟨tk,htk⟩:=toks;have st4:tn 0 h₁:=T.keep 0 s2.heap h₁ st2 λb hb o e=>keep3 b o (by rw[es3];exact eF _ e)
 have I4:Inv (B3 ub X N' scope s3.heap.objs.size s3 H3 fp) [] (ag7 n caps σ) H3 { s3 with heap:=h₁,toks:=tk }:=aM4 S I3 f3 lt3 hns₁ keep3
 have loop:codeAny (eE X.prog X.w) X.A (.compLoop (.ListComp elt [⟨tgt,iter,ifs,0⟩] scope pos) 0 (.ref it) (.ref s2.heap.objs.size) (compEnvC scope (K8 X.env.cells scope.names []) s3.heap.objs.size X.env)) (RR (.ref s2.heap.objs.size) s3.heap.objs.size) { s3 with heap:=h₁,toks:=tk }:=by
  refine bb8 (λk s'=>∃i ys σ' H',Inv (B3 ub X N' scope s3.heap.objs.size s3 H3 fp) [] σ' H' s'/\tn i s'.heap/\(∀b∈fp,H' b=none)/\W i k ys σ' H') ?_ (Ei:=(B3 ub X N' scope s3.heap.objs.size s3 H3 fp).xe) ?_ m0 ⟨0,[],_,H3,I4,st4,λb hb=>(f3 b hb).1,w0⟩
  case refine_2 =>
   rintro e s6 ⟨hu',pz,σz,Hz,sz,Iz,hx⟩
   have Iz:Inv (B3 ub X N' scope s3.heap.objs.size s3 H3 fp) [] σz Hz sz:=((Iz.wish _).pins_of λp hp=>absurd hp (by simp));obtain⟨mz,nz,_⟩:=Iz.loc;refine dJ ((hu hu').cm (ad0 I3 f3 Iz (Heap.SameBut.refl ..)) nz Iz.free (λm=>?_) (Heap.get?_none_of_le I3.sz) hx) (λ_ s7 z=>hRE _ _ _ _ z) λ_ _ z=>z
   obtain⟨_,o',e',_⟩:=I3.stack.mem m;exact absurd (eG e') (bf _)
  rintro k s5 ⟨i,ys,σ5,H5,I5,st5,fr5,w5⟩
  have pz:∀p∈([]:List (eW×Obj)),False:=λp hp=>by cases hp
  rcases turn i k ys σ5 H5 w5 with⟨stop,qn⟩|⟨go,step⟩
  ·refine dJ (T.done (B3 ub X N' scope s3.heap.objs.size s3 H3 fp) rfl rfl rfl hc i [] s5 σ5 H5 (B3 ub X N' scope s3.heap.objs.size s3 H3 fp).xe I5 (fin3 (σ':=σ5) fr5 pz) st5 stop) (λr s6 ⟨hr,I6⟩=>?_) λ_ _ z=>z
   subst hr;obtain⟨m6,hn6,_⟩:=I6.loc;refine hRR _ _ _ s6 rfl ⟨m6,hn6,λh' sb=>⟨H5,ad0 I3 f3 I6 sb,qn⟩⟩ ⟨s3,fp,σ5,H3,H5,rfl,I3,f3,I6,qn⟩
  ·refine dJ (T.item (B3 ub X N' scope s3.heap.objs.size s3 H3 fp) rfl rfl rfl hc i [] s5 σ5 H5 (B3 ub X N' scope s3.heap.objs.size s3 H3 fp).xe I5 (fin3 (σ':=σ5) fr5 pz) st5 go) (λr s6 ⟨u,hr,h6⟩=>?_) λ_ _ z=>z
   subst hr;refine dJ h6 (λ_ s7 ⟨x,H7,I7,r7,y7,st7,fr7⟩=>?_) λ_ _ z=>z
   have I7':=I7.pinned (fin3 (σ':=σ5) fr7 pz) (T.obj _ _ st7);refine dJ (hg _ _ _ _ _ s7 σ5 H7 x u _ I7' r7 (step x H7 y7)) (λ_ s8 ⟨σ8,H8,I8,q8⟩=>?_) λ_ _ z=>z
   refine dJ (ht _ _ _ _ _ s8 σ8 H8 _ I8 q8) (λok s9 ⟨H9,I9,q9⟩=>?_) λ_ _ z=>z
   have again:∀{σ':L2.St}{H':Hp}{s':eV},Inv (B3 ub X N' scope s3.heap.objs.size s3 H3 fp) ([]++ak3 fp s7.heap) σ' H' s'->Inv (B3 ub X N' scope s3.heap.objs.size s3 H3 fp) [] σ' H' s'/\tn (i+1) s'.heap/\∀b∈fp,H' b=none:=λ{σ' H' s'} I'=>by
    refine⟨I'.unpinned,T.keep _ _ _ st7 λb hb o e=>(I'.pin (b,o) (ay _ (ay _ (X6 hb e)))).1,λb hb=>?_⟩;obtain⟨o,e,d⟩:=T.obj _ _ st7 b hb;exact(I'.pin (b,o) (ay _ (ay _ (X6 hb e)))).2.1
   cases ok with
   | false =>
    rw[if_neg be]at q9 ⊢;obtain⟨m',hm,w'⟩:=q9;obtain⟨a1,a2,a3⟩:=again I9;exact⟨m',hm,i+1,ys,σ8,H9,a1,a2,a3,w'⟩
   | true =>
    rw[if_pos rfl]at q9 ⊢;refine dJ (he _ _ _ _ _ s9 σ8 H9 _ I9 q9) (λy s10 ⟨vy,H10,I10,r10,q10,z10,m',hm,w'⟩=>?_) λ_ _ z=>z
    refine dJ (j6 (X:=B3 ub X N' scope s3.heap.objs.size s3 H3 fp) _ s10 σ8 H10 (.ref s2.heap.objs.size) [vy] _ _ (λv H'=>v=.non/\H'=upd H10 s2.heap.objs.size (.lst (ys++[vy]))) I10 rfl (.cons r10 .nil) ⟨_,ys,vy,rfl,rfl,q10,z10,rfl,rfl⟩) (λ_ s11 ⟨v11,H11,I11,r11,e11,e12⟩=>?_) λ_ _ z=>z
    subst e12;obtain⟨a1,a2,a3⟩:=again I11;exact⟨m',hm,i+1,ys++[vy],σ8,_,a1,a2,a3,w'⟩
 show codeAny (eE X.prog X.w) X.A _ _ ({ s2 with heap:=h₁,toks:=s2.toks+([]:List (Str×eU)).length }:eV);rw[htk];exact codeAny_compStart_list loop (T.self _ _ _ _ _ st4 loop)
end
end G
namespace G
open PySem PySem.Spec PyProof.Rows L2
section
variable {X:Cx}
noncomputable def tgJ(K:ag)(f:D->Rho->Option Rho):TG:=λv σ H Q=>∃d ρ ρ' H0 Hf,f d ρ=some ρ'/\B0 Hf H/\Slots K H0 ρ σ H Hf/\Rep K Hf d v/\∀σ',Slots K H0 ρ' σ' H Hf->Q σ' H
noncomputable def JG(X:Cx)(tg:Expr)(f:D->Rho->Option Rho):Prop:=PG X tg (tgJ X.K f)
noncomputable def cz4(K:ag)(f:List D->Rho->Option Rho):TGs:=λvs σ H Q=>∃ds ρ ρ' H0 Hf,f ds ρ=some ρ'/\B0 Hf H/\Slots K H0 ρ σ H Hf/\Reps K Hf ds vs/\∀σ',Slots K H0 ρ' σ' H Hf->Q σ' H
noncomputable def JGs(X:Cx)(tg:List Expr)(f:List D->Rho->Option Rho):Prop:=PGs X tg (cz4 X.K f)
noncomputable def F4(i:Nat):D->Rho->Option Rho:=λd ρ=>some (ρ.set i (some (.val d)))
theorem aw5(i:Nat)(hN:X.N.Nodup)(hi:X.N[i]? = some x:=by rfl)(hx:Loc X.env.scope x:=by first|exact Or.inl rfl|exact Or.inr rfl)(hf:X.fn x=true\/X.env.scope.names.lookup x=some .local:=by first|exact .inl rfl|exact .inr rfl):JG X (.Name x pos) (F4 i):=by
 intro pins s σ H v u Q I r ⟨d,ρ,ρ',H0,Hf,e,ss,sl,rp,k⟩;cases e;exact bG0 hN hi hx hf pins s σ H v u Q I r (k _ (sl.set rp))
noncomputable def aq8:List D->Rho->Option Rho:=λds ρ=>match ds with
 | []=>some ρ
 | _=>none
noncomputable def d5(f:D->Rho->Option Rho)(g:List D->Rho->Option Rho):List D->Rho->Option Rho:=λds ρ=>match ds with
 | d::r=>(f d ρ).bind λρ'=>g r ρ'
 | []=>none
theorem bJ8:JGs X [] aq8:=by
 intro pins s σ H vs us Q I r ⟨ds,ρ,ρ',H0,Hf,e,ss,sl,rp,k⟩;cases ds with
 | nil=>cases e;exact bF9 pins s σ H vs us Q I r ⟨rp,k _ sl⟩
 | cons d ds=>cases e
theorem bq7(h1:JG X e f)(h2:JGs X es g)(hs:(ei (e::es) X.env).map (·.2)=assign e X.env::(ei es X.env).map (·.2):=by rfl):JGs X (e::es) (d5 f g):=by
 intro pins s σ H vs us Q I r ⟨ds,ρ,ρ',H0,Hf,e,ss,sl,rp,k⟩;cases ds with
 | nil=>cases e
 | cons d ds =>
  obtain⟨ρ1,e1,e2⟩:=xbm e;obtain⟨v,vr,rfl,q1,q2⟩:=rp;exact bj2 h1 h2 hs pins s σ H _ us Q I r ⟨v,vr,rfl,d,ρ,ρ1,H0,Hf,e1,ss,sl,q1,λσ' sl'=>⟨ds,ρ1,ρ',H0,Hf,e2,ss,sl',q2,k⟩⟩
noncomputable def af0(n:Nat)(g:List D->Rho->Option Rho):D->Rho->Option Rho:=λd ρ=>match d with
 | .tuple ds=>if ds.length=n then g ds ρ else none
 | _=>none
theorem ci2(h:JGs X es g)(hc:X.calm=true:=by rfl)(hn:(ei es X.env).length=n:=by rfl)(hst:(ei es X.env).findIdx? (·.1)=none:=by rfl):JG X (.Tuple es k pos) (af0 n g):=by
 intro pins s σ H v u Q I r ⟨d,ρ,ρ',H0,Hf,e,ss,sl,rp,kk⟩;cases d with
 | tuple ds =>
  simp only[af0]at e;split at e
  ·rename_i hl;obtain⟨a,vs,rfl,q1,q2⟩:=rp;exact ca4 hc h hn hst pins s σ H _ u Q I r ⟨a,vs,rfl,C6 ss q1,by rw[q2.length,hl],ds,ρ,ρ',H0,Hf,e,ss,sl,q2,kk⟩
  ·cases e
 | _=>cases e
noncomputable def az5(K:ag)(J:It)(ds:List D)(Hf1:Hp):Prop:=∀(i:Nat) (H Hf:Hp),B0 Hf1 Hf->B0 Hf H->(ds.length<=i->J.stop i H)/\∀d,ds[i]? = some d->J.go i H/\∀x H',J.yld i H x H'->∃Hf',Grow H Hf H' Hf'/\Rep K Hf' d x
noncomputable def tiJ(K:ag)(ρ:Rho)(ds:List D):TI:=λσ H R=>∃H0 Hf,B0 Hf H/\Slots K H0 ρ σ H Hf/\∀J H' Hf',Grow H Hf H' Hf'->az5 K J ds Hf'->R J H'
noncomputable def JI(X:Cx)(tg iter:Expr)(f:Rho->Option (List D)):Prop:=∀ρ ds,f ρ=some ds->PI X tg iter (tiJ X.K ρ ds)
theorem au5(h:PI X tg iter t)(i:∀σ H R,t' σ H R->t σ H R):PI X tg iter t':=λpins s σ H R I q=>h pins s σ H R I (i σ H R q)
noncomputable def L3(f:DE):Rho->Option (List D):=λρ=>(f ρ).bind λd=>match d with
 | .list ds=>some ds
 | .tuple ds=>some ds
 | _=>none
theorem bq4(h:JE X e f):JI X tg e (L3 f):=λρ ds q=>by
 obtain⟨d,e1,e2⟩:=xbm q;cases d with
 | list xs =>
  cases e2;refine au5 (aR2 (h ρ _ e1)) λσ H R ⟨H0,Hf,s,sl,k⟩=>⟨H0,Hf,s,sl,λv H1 Hf1 g1 ⟨a,vs,h1,h2,h3⟩=>⟨a,h1,⟨vs,C7 g1.sub h2⟩,k _ H1 Hf1 g1 ?_⟩⟩
  intro i H' Hf' sa sb;have q':SqL X.K H' a vs:=C7 (sa.trans sb) h2;refine⟨λhi=>⟨vs,q',by rw[h3.length];exact hi⟩,λd hd=>?_⟩;obtain⟨v,w1,w2⟩:=h3.get hd;refine⟨⟨vs,v,q',w1⟩,λx H'' hy=>?_⟩;obtain⟨rfl,hy⟩:=hy;have:=hy vs q';rw[w1]at this;cases this;exact⟨Hf',Grow.refl sb,w2.mono sa⟩
 | tuple xs =>
  cases e2;refine au5 (ca3 (h ρ _ e1)) λσ H R ⟨H0,Hf,s,sl,k⟩=>⟨H0,Hf,s,sl,λv H1 Hf1 g1 ⟨a,vs,h1,h2,h3⟩=>⟨a,h1,⟨vs,C6 g1.sub h2⟩,k _ H1 Hf1 g1 ?_⟩⟩
  intro i H' Hf' sa sb;have q':SqT X.K H' a vs:=C6 (sa.trans sb) h2;refine⟨λhi=>⟨vs,q',by rw[h3.length];exact hi⟩,λd hd=>?_⟩;obtain⟨v,w1,w2⟩:=h3.get hd;refine⟨⟨vs,v,q',w1⟩,λx H'' hy=>?_⟩;obtain⟨rfl,hy⟩:=hy;have:=hy vs q';rw[w1]at this;cases this;exact⟨Hf',Grow.refl sb,w2.mono sa⟩
 | _=>cases e2
noncomputable def O0(lo hi:Int):List D:=(aZ (hi - lo).toNat).map λ(i:Nat)=>eL (lo+i)
theorem as5{K:ag}{lo hi:Int}{Hf1:Hp}:az5 K (Itr lo (hi - lo).toNat) (O0 lo hi) Hf1:=by
 intro i H Hf sa sb;have hl:(O0 lo hi).length=(hi - lo).toNat:=by simp[O0]
 refine⟨λh=>by rw[hl]at h;exact h,λd hd=>?_⟩
 have hi':i < (hi - lo).toNat:=by
  have:=(ao.mp hd).1;rw[hl]at this;exact this
 refine⟨hi',λx H' hy=>?_⟩;obtain⟨e1,e2⟩:=hy;subst e1 e2
 have:d=.int (lo+i):=by
  have:(O0 lo hi)[i]? = some (.int (lo+i)):=by simp[O0,hi']
  rw[hd]at this;cases this;rfl
 subst this;exact⟨Hf,Grow.refl sb,rfl⟩
noncomputable def P4(f:DE):Rho->Option (List D):=λρ=>(f ρ).bind λd=>match d with
 | .int j=>if -(2 ^ 62)<=j/\j < 2 ^ 62 then some (O0 0 j) else none
 | _=>none
theorem aZ4{tg e:Expr}{f:DE}{p pos:Pos}(hg:Gl X "range")(hm:X.mg "range" = none)(h:JE X e f)(hs:dO [e] X.env=[(false,eval e X.env)]:=by rfl):JI X tg (.Call (.Name "range" p) [e] [] pos) (P4 f):=λρ ds q=>by
 obtain⟨d,e1,e2⟩:=xbm q;split at e2
 ·split at e2
  ·rename_i j c;cases e2;refine au5 (aX7 hg hm (B6 (h ρ _ e1) D3 hs) hs) λσ H R ⟨H0,Hf,s,sl,k⟩=>⟨H0,Hf,s,sl,λv H1 Hf1 g1 r=>⟨j,by rw[show v=_ from r],c.1,c.2,k _ H1 Hf1 g1 ?_⟩⟩
   have:=as5 (K:=X.K) (lo:=0) (hi:=j) (Hf1:=Hf1);rw[Int.sub_zero]at this;exact this
  ·cases e2
 ·cases e2
theorem Grow.nofr(g:Grow H Hf H' Hf')(h:H a=some o)(n:Hf a=none):Hf' a=none:=by
 cases q:Hf' a with
 | none=>rfl
 | some u =>
  rcases g.new a (by rw[q];simp) with z|z
  ·exact absurd n z
  ·rw[h]at z;cases z
noncomputable def ag8(n:Nat)(caps:List Nat)(ρ:Rho):Rho:=au n none++caps.map λj=>match ρ[j]? with
 | some (some (.val d))=>some (.val d)
 | _=>none
noncomputable def Z0(g:D->Rho->Option Rho)(c:Rho->Option Bool)(e:DE):List D->Rho->Option (List D)
 | [],_=>some []
 | d::ds,ρ=>(g d ρ).bind λρ1=>(c ρ1).bind λb=>if b then(e ρ1).bind λy=>(Z0 g c e ds ρ1).map λr=>y::r else Z0 g c e ds ρ1
noncomputable def E4(n:Nat)(caps:List Nat)(src:Rho->Option (List D))(g:D->Rho->Option Rho)(c:Rho->Option Bool)(e:DE):Rho->Option (List D):=λρ=>(src ρ).bind λds=>if ds.length<=16777216 then Z0 g c e ds (ag8 n caps ρ) else none
noncomputable def t5(K:ag)(c:Rho->Option Bool):TT:=λσ H Q=>∃ρ b,c ρ=some b/\∃H0 Hf,B0 Hf H/\Slots K H0 ρ σ H Hf/\∀H' Hf',Grow H Hf H' Hf'->Q b H'
noncomputable def aA8(K:ag)(e:DE):TE:=λσ H Q=>∃ρ d,e ρ=some d/\tJ K ρ (λ_ v _ Hf=>Rep K Hf d v) σ H Q
noncomputable def JTs(X:Cx)(ifs:List Expr)(c:Rho->Option Bool):Prop:=PTs X ifs (t5 X.K c)
noncomputable def G7:Rho->Option Bool:=λ_=>some true
theorem aw3:JTs X [] G7:=λpins s σ H Q I ⟨ρ,b,e,H0,Hf,ss,sl,k⟩=>by
 cases e;exact bF2 pins s σ H Q I (k H Hf (Grow.refl ss))
theorem bI8(h:JT X e c):JTs X [e] c:=λpins s σ H Q I ⟨ρ,b,e,H0,Hf,ss,sl,k⟩=>bF1 (h ρ b e) pins s σ H Q I ⟨H0,Hf,ss,sl,k⟩
theorem aM7{K:ag}{n:Nat}{caps:List Nat}{H0 H H1 H' Hf:Hp}{ρ:Rho}{σ:L2.St}(sl:Slots K H0 ρ σ H Hf):Slots K H1 (ag8 n caps ρ) (ag7 n caps σ) H' Hf:=by
 have noown:∀(i:Nat) (ds:List D),(ag8 n caps ρ)[i]?≠some (some (.own ds)):=λi ds h=>by
  unfold ag8 at h;rcases bD i n with q|q
  ·rw[az (by simpa using q),aY,if_pos q]at h;cases h
  ·rw[aq (by simpa using q),aF]at h;cases hj:caps[i - (au n (none:Option B)).length]? with
   | none=>rw[hj]at h;cases h
   | some j =>
    rw[hj]at h;simp only[dy,bg.injEq]at h;split at h<;>cases h
 refine⟨by simp[ag8,ag7],λi b e=>?_,λi j ds es a h1=>(noown i ds h1).elim⟩;unfold ag8 at e;unfold ag7;rcases bD i n with q|q
 ·rw[az (by simpa using q),aY,if_pos q]at e;cases e
 ·rw[aq (by simpa using q),aF]at e;rw[aq (by simpa using q),aF];simp only[bA]at e ⊢;cases hj:caps[i - n]? with
  | none=>rw[hj]at e;cases e
  | some j =>
   rw[hj]at e;simp only[dy,bg.injEq]at e ⊢;split at e
   ·rename_i d hd;cases e;obtain⟨v,h1,h2⟩:=sl.is j _ hd;exact⟨v,by rw[h1];rfl,h2⟩
   ·cases e
theorem X7{K:ag}{n:Nat}{caps:List Nat}{ρ:Rho}{src:Rho->Option (List D)}{g:D->Rho->Option Rho}{c:Rho->Option Bool}{e:DE}{out:List D}(h:E4 n caps src g c e ρ=some out):
  ∃ds,src ρ=some ds/\∀σ H Q,tJ K ρ (λH v H' Hf'=>∃a vs,v=.ref a/\H a=none/\H' a=some (.lst vs)/\Hf' a=none/\Reps K Hf' out vs) σ H Q->aO9 n caps (tiJ K ρ ds) (tgJ K g) (t5 K c) (aA8 K e) σ H Q:=by
 obtain⟨ds,e1,e2⟩:=xbm h;split at e2
 ·rename_i hz;refine⟨ds,e1,λσ H Q ⟨H0,Hf,s,sl,k⟩=>⟨H0,Hf,s,sl,λJ H1 Hf1 g1 Y Dd hD=>?_⟩⟩
  refine⟨λi m ys σ' H'=>m=ds.length - i/\i<=ds.length/\∃Hf' ρ' o1 o2,Grow H1 Hf1 H' Hf'/\H' Dd=some (.lst ys)/\Hf' Dd=none/\Slots K (upd H1 Dd (.lst [])) ρ' σ' H' Hf'/\Reps K Hf' o1 ys/\o1.length<=i/\Z0 g c e (ds.drop i) ρ'=some o2/\o1++o2=out,
   ⟨ds.length,by simp,aU _,Hf1,ag8 n caps ρ,[],out,Grow.made g1.sub hD,A7,g1.sub.free hD,aM7 (sl.grow g1),rfl,aj _,by simpa using e2,rfl⟩,?_⟩
  rintro i m ys σ' H' ⟨rfl,hi,Hf',ρ',o1,o2,gr,hd1,hd2,sl',rp,ho,ec,eo⟩
  obtain⟨Ys,Yg⟩:=Y i H' Hf' gr.ext gr.sub;rcases bD i ds.length with hlt|hge
  ·right
   obtain⟨go,yl⟩:=Yg ds[i] (by simp[hlt]);refine⟨go,λx H2 hy=>?_⟩;obtain⟨Hf2,g2,r2⟩:=yl x H2 hy;rw[bX hlt]at ec;obtain⟨ρ1,c1,ec⟩:=xbm ec;obtain⟨b,c2,ec⟩:=xbm ec;refine⟨ds[i],ρ',ρ1,_,Hf2,c1,g2.sub,sl'.grow g2,r2,λσ3 sl3=>⟨ρ1,b,c2,_,Hf2,g2.sub,sl3,λH4 Hf4 g4=>?_⟩⟩;have gr4:=(gr.trans g2).trans g4;have hd4:H4 Dd=some (.lst ys):=g4.big _ _ (g2.big _ _ hd1);have hf4:Hf4 Dd=none:=(g2.trans g4).nofr hd1 hd2;have rp4:=rp.mono (g2.trans g4).ext;cases b with
   | false =>
    rw[if_neg be]at ec;refine ag3 ?_;exact⟨ds.length - (i+1),by grind,rfl,hlt,Hf4,ρ1,o1,o2,gr4,hd4,hf4,sl3.grow g4,rp4,by grind,ec,eo⟩
   | true =>
    rw[if_pos rfl]at ec;refine v5 ?_;obtain⟨y,c3,ec⟩:=xbm ec;obtain⟨o3,c4,rfl⟩:=af.mp ec;refine⟨ρ1,y,c3,_,Hf4,g4.sub,sl3.grow g4,λv H5 Hf5 g5 r5=>⟨g5.big _ _ hd4,?_,?_⟩⟩
    ·rw[rp.length,dQ];grind
    ·have hf5:Hf5 Dd=none:=g5.nofr hd4 hf4;have gr5:=gr4.trans g5;refine⟨ds.length - (i+1),by grind,rfl,hlt,Hf5,ρ1,o1++[y],o3,⟨λb u q=>?_,λb u q=>?_,gr5.ext,gr5.new⟩,A7,hf5,?_,(rp4.mono g5.ext).append ⟨v,[],rfl,r5,rfl⟩,by simp;grind,c4,by simp[← eo]⟩
     ·rw[A9 (B9 q hD)];exact gr5.big b u q
     ·rw[A9 (B9 q hf5)];exact gr5.sub b u q
     ·have sl5:=(sl3.grow g4).grow g5;refine⟨sl5.len,λj bb q=>?_,sl5.apart⟩;obtain⟨w,q1,q2⟩:=sl5.is j bb q;refine⟨w,q1,?_⟩;cases bb with
      | val d=>exact q2
      | exc C=>exact q2
      | opq _=>exact q2
      | own dd =>
       obtain⟨a,vs,z1,z2,z3,z4,z5⟩:=q2;have ne:a≠Dd:=λz=>by rw[z,A7]at z4;cases z4
       exact⟨a,vs,z1,by rw[A9 ne];exact z2,z3,z4,z5⟩
  ·left
   have:i=ds.length:=by grind
   subst this;rw[cK]at ec;cases ec;rw[aw]at eo;subst eo;exact⟨Ys (aj _),k _ H' Hf' (g1.trans gr) ⟨Dd,ys,rfl,g1.big.free hD,hd1,hd2,rp⟩⟩
 ·cases e2
end
end G
namespace G
open PySem PySem.Spec PyProof.Rows L2
section
variable {X:Cx}
noncomputable def X8(N N':List Str)(n:Nat)(caps:List Nat)(sc scope:Scope):Bool :=
 (match scope.kind with | .function=>true|_=>false) &&
 (scope.names.all λy=>(match y.2 with | .cell=>false | .local=>scope.names.lookup y.1==some .local | .free=>sc.names.lookup y.1==some .cell || sc.names.lookup y.1==some .free|_=>true)) &&
 (N'.length==n+caps.length) &&
 ((aZ caps.length).all λi=>match caps[i]? with
  | some j=>(match N[j]? with|some x=>N'[n+i]? == some x&&scope.names.lookup x==some .free|none=>false)
  | none=>true)
theorem ad1(h:X8 N N' n caps sc scope=true)(hN:X.N=N)(hS:X.env.scope=sc):CompSc X N' n caps scope:=by
 subst hN hS;unfold X8 at h;simp only[ah,aO]at h;obtain⟨⟨⟨h1,h2⟩,h3⟩,h4⟩:=h;refine⟨?_,λy hy e=>?_,λy hy e=>?_,λy hy e=>?_,by simpa using h3,λi j e=>?_⟩
 ·cases q:scope.kind<;>rw[q]at h1<;>first|rfl|cases h1
 ·have:=h2 y hy;rw[e]at this;cases this
 ·have:=h2 y hy;rw[e]at this;simpa using this
 ·have:=h2 y hy;rw[e]at this;simpa using this
 ·have hi:i < caps.length:=(ao.mp e).1;have:=h4 i (by simpa using hi);rw[e]at this;simp only at this;cases q:X.N[j]? with
  | none=>rw[q]at this;cases this
  | some x =>
   rw[q]at this;simp only[ah]at this;exact⟨x,rfl,by simpa using this.1,by simpa using this.2⟩
theorem ay3(S:CompSc X N' n caps scope)(I:Inv X pins σ H s):closureFor scope X.env=pure (K8 X.env.cells scope.names []) :=
 bM3 λy hy e=>I.ok.has y.1 (S.free y hy e)
theorem bJ6(S:CompSc X N' n caps scope)(hu:ub=true->Th X)
  (hi:JI X tgt iter src) (hg:∀C s0 H0 ex,JG (B3 ub X N' scope C s0 H0 ex) tgt g) (ht:∀C s0 H0 ex,JTs (B3 ub X N' scope C s0 H0 ex) ifs c) (he:∀C s0 H0 ex,JE (B3 ub X N' scope C s0 H0 ex) elt e)
  (hc:X.calm=true:=by rfl) (hs:∀x,em iter X.env x=pure x:=by intro _;rfl):JN X (.ListComp elt [⟨tgt,iter,ifs,0⟩] scope pos) (E4 n caps src g c e):=by
 intro ρ out h;obtain⟨ds,e1,k⟩:=X7 (K:=X.K) h;intro pins s σ H Q I t;rw[eval_ListComp];refine wpAny_comprehension_free (use:=none) rfl hs (ay3 S I) S.kind S.loc (am6 (RR:=λacc C=>compPost (eE X.prog X.w) X.A X.xe none (EP X pins σ Q) acc C) S hu hc (hi ρ ds e1) (g:=tgJ X.K g) (tc:=t5 X.K c) (te:=aA8 X.K e) hg ht (λC s0 H0 ex pins s σ H Q I ⟨ρ,d,e,t⟩=>he C s0 H0 ex ρ d e pins s σ H Q I t) I (k σ H Q t) ?_ λ_ _ _ _ z=>z);intro Dd C r s' hr ⟨m,hn,kk⟩ _;subst hr;exact⟨m,hn,λh' sb=>let⟨H',I',q⟩:=kk h' sb;⟨.ref Dd,H',I',rfl,q⟩⟩
theorem X1(S:CompSc X N' n caps scope)(hu:ub=true->Th X)(hc:X.calm=true)
  (hN:X.N.Nodup) (hi:X.N[i]? = some x) (hl:X.env.scope.names.lookup x=some .local) (hsrc:PI X tgt iter wi) (hg:∀C s0 H0 ex,PG (B3 ub X N' scope C s0 H0 ex) tgt g) (ht:∀C s0 H0 ex,PTs (B3 ub X N' scope C s0 H0 ex) ifs tc) (he:∀C s0 H0 ex,PE (B3 ub X N' scope C s0 H0 ex) elt te)
  (hsw:swapsWith (.ListComp elt [⟨tgt,iter,ifs,0⟩] scope pos) (some (.Name x pos')) spos.line X.env=pure true) (hs:∀x,em iter X.env x=pure x) :
  PS X (.Assign [.Name x pos'] (.ListComp elt [⟨tgt,iter,ifs,0⟩] scope pos) spos) (λEn σ H=>aO9 n caps wi g tc te σ H λv H'=>En.nx (σ.set i (some v)) H'):=by
 intro pins s σ H En I h;rw[exec_Assign_Name_used _ _ _ _ hsw];refine dH (wpAny_standAt (dH ?_));show eD _ X.A (do let _ ← comprehension (.ListComp elt [⟨tgt,iter,ifs,0⟩] scope pos) scope X.env _ (newList []) false (eval iter X.env) (some (assign (.Name x pos') X.env))) _ _ s
 refine dH (dJ (wpAny_comprehension_free (use:=some (assign (.Name x pos') X.env)) (Q:=λ_ s'=>SP X pins En .next s') rfl hs (ay3 S I) S.kind S.loc
  (am6 (RR:=λacc C=>compPost (eE X.prog X.w) X.A X.xe (some (assign (.Name x pos') X.env)) (λ_ s'=>SP X pins En .next s') acc C) S hu hc hsrc hg ht he I h ?_ λ_ _ _ _ z=>z)) (λ_ s' hq=>dI (dI hq)) λ_ _ z=>z)
 intro Dd C r s' hr _ ⟨s2,fp,σ',H2,H',eC,I2,f2,I',q⟩;subst hr eC;have IX:Inv X pins σ H' s':=ad0 (h':=s'.heap) I2 f2 I' (Heap.SameBut.refl ..);obtain⟨mC,hnC,_⟩:=I'.loc
 have hCL:s2.heap.objs.size≠X.env.locals:=λz=>by
  have:=I2.lt;rw[← z]at this;exact bf _ this
 show eD _ X.A (assign (.Name x pos') X.env (.ref Dd)) _ _ _;refine wpAny_assign_Name (ap1 (v:=.ref Dd) IX hN hi (.inl hl) rfl (λs3 I3 ⟨a,sb,ha⟩=>?_) (.inr hl))
 have hCa:s2.heap.objs.size≠a:=λz=>by
  rcases ha with ha|ha
  ·exact hCL (z.trans ha)
  ·obtain⟨v,q'⟩:=I2.cell x a ha;have:=q'.lt;rw[← z]at this;exact bf _ this
 refine⟨mC,hnC.sameBut sb hCa,λh' sb'=>?_⟩;refine⟨_,H',I3.turned (t':=s3.toks) (it:=s2.heap.objs.size) (λb o hb e=>sb'.extBut b o hb e) I'.free hCL (.inr I2.sz) (λy c e z=>?_) (λp hp z=>?_),q⟩
 ·obtain⟨v,q'⟩:=I2.cell y c e;have:=q'.lt;rw[z]at this;exact bf _ this
 ·have:=eG (I2.pin p hp).1;rw[z]at this;exact bf _ this
noncomputable def ae2(i:Nat)(f:Rho->Option (List D)):DS:=λρ=>(f ρ).map λds=>.nx (ρ.set i (some (.val (.list ds))))
theorem bJ2(i:Nat)(hN:X.N.Nodup)(S:CompSc X N' n caps scope)(hu:ub=true->Th X)
  (hi:JI X tgt iter src) (hg:∀C s0 H0 ex,JG (B3 ub X N' scope C s0 H0 ex) tgt g) (ht:∀C s0 H0 ex,JTs (B3 ub X N' scope C s0 H0 ex) ifs c) (he:∀C s0 H0 ex,JE (B3 ub X N' scope C s0 H0 ex) elt e)
  (hi2:X.N[i]? = some x:=by rfl) (hl:X.env.scope.names.lookup x=some .local:=by rfl) (hsw:swapsWith (.ListComp elt [⟨tgt,iter,ifs,0⟩] scope pos) (some (.Name x pos')) spos.line X.env=pure true:=by rfl)
  (hc:X.calm=true:=by rfl) (hs:∀x,em iter X.env x=pure x:=by intro _;rfl):JS X (.Assign [.Name x pos'] (.ListComp elt [⟨tgt,iter,ifs,0⟩] scope pos) spos) (ae2 i (E4 n caps src g c e)):=λρ fl q H0 Hf0=>by
 obtain⟨out,e1,e2⟩:=af.mp q;subst e2;obtain⟨ds,e3,k⟩:=X7 (K:=X.K) e1;refine D0 (X1 S hu hc hN hi2 hl (hi ρ ds e3) (g:=tgJ X.K g) (tc:=t5 X.K c) (te:=aA8 X.K e) hg ht (λC s0 H0 ex pins s σ H Q I ⟨ρ,d,e,t⟩=>he C s0 H0 ex ρ d e pins s σ H Q I t) hsw hs) λEn σ H ⟨Hf,a,ee⟩=>k σ H _ ⟨H0,Hf,a.gr.sub,a.sl,λv H' Hf' gg ⟨p,vs,z1,z2,z3,z4,z5⟩=>?_⟩
 subst z1;have g2:=gg.freeze z3 z4 z2;exact ee _ H' _ ⟨a.gr.trans g2,(a.sl.grow g2).set ⟨p,vs,rfl,SqL.of A7,z5.mono (D5 z4)⟩⟩ g2.ext
theorem ch2{kt k2 pt2}(hN:X.N.Nodup)(ha:JA X [a,b] f)(hw:swappedStores [.Tuple [.Name x px,.Name y py] kt pt] (.Tuple [a,b] k2 pt2) X.env=pure (some [x,y]))(hij:i≠j)
  (hi:X.N[i]? = some x:=by rfl) (hj:X.N[j]? = some y:=by rfl) (hx:X.env.scope.names.lookup x=some .local:=by rfl) (hy:X.env.scope.names.lookup y=some .local:=by rfl) (hc:X.calm=true:=by rfl)
  (hs:swapsWithSole [.Tuple [.Name x px,.Name y py] kt pt] (.Tuple [a,b] k2 pt2) pos.line X.env=pure false:=by rfl):JS X (.Assign [.Tuple [.Name x px,.Name y py] kt pt] (.Tuple [a,b] k2 pt2) pos) (bh6 i j f):=λρ fl q H0 Hf0=>by
 obtain⟨ds,e1,e2⟩:=xbm q;split at e2
 ·cases e2;refine D0 (ca0 hc hN hi hj hij hx hy (λpos pins s σ H Q I t=>ha.run ρ _ e1 pos pins s σ H Q I t) hw hs) λEn σ H ⟨Hf,at',e⟩=>⟨H0,Hf,at'.gr.sub,at'.sl,λvs H' Hf' gg rp=>?_⟩
  obtain⟨v,r,rfl,r1,w,r',rfl,r2,r3⟩:=rp;cases r3;exact⟨v,w,rfl,e _ H' Hf' ⟨at'.gr.trans gg,((at'.sl.grow gg).set r1).set r2⟩ gg.ext⟩
 ·cases e2
noncomputable def cB5(f:DE)(g:D->Rho->Option Rho):DS:=λρ=>(f ρ).bind λd=>(g d ρ).map Fl.nx
noncomputable def aX5(i:Nat)(f:Rho->Option (List D)):DS:=λρ=>(f ρ).map λds=>.nx (ρ.set i (some (.own ds)))
theorem Slots.setOwn{K:ag}{H0 H H' Hf Hf':Hp}{ρ:Rho}{σ:L2.St}{i:Nat}{ds:List D}{a:eW}{vs:List V}(s:Slots K H0 ρ σ H Hf)(g:Grow H Hf H' Hf')(n0:H0 a=none)(n:H a=none)(h:H' a=some (.lst vs))(nf:Hf' a=none)(r:Reps K Hf' ds vs):
  Slots K H0 (ρ.set i (some (.own ds))) (σ.set i (some (.ref a))) H' Hf':=by
 have s':=s.grow g
 have old:∀(j:Nat) (es:List D),i≠j->ρ[j]? = some (some (.own es))->σ[j]?≠some (some (.ref a)):=λj es hj e z=>by
  obtain⟨v,h1,b,us,e1,h2,_⟩:=s.is j _ e;rw[z]at h1;cases h1;cases e1;rw[n]at h2;cases h2
 refine⟨by simp[s.len],λj b e=>?_,λj k ds1 es b h1 h2 h3 h4=>?_⟩
 ·by_cases q:i=j
  ·subst q;have hi:i < ρ.length:=by simpa using (ao.mp e).1
   have hi':i < σ.length:=by rw[← s.len];exact hi
   rw[aC hi]at e;cases e;exact⟨_,aC hi',a,vs,rfl,h,nf,n0,r⟩
  ·rw[aA q]at e;obtain⟨u,h1,h2⟩:=s'.is j b e;exact⟨u,by rw[aA q];exact h1,h2⟩
 ·by_cases qj:i=j
  ·by_cases qk:i=k
   ·rw[← qj,← qk]
   ·subst qj;have hi:i < ρ.length:=by simpa using (ao.mp h1).1
    rw[aC (by rw[← s.len];exact hi)]at h3;rw[aA qk]at h2 h4;cases h3;exact(old k es qk h2 h4).elim
  ·rw[aA qj]at h1 h3;by_cases qk:i=k
   ·subst qk;have hi:i < ρ.length:=by simpa using (ao.mp h2).1
    rw[aC (by rw[← s.len];exact hi)]at h4;cases h4;exact(old j ds1 qj h1 h3).elim
   ·rw[aA qk]at h2 h4;exact s.apart j k ds1 es b h1 h2 h3 h4
theorem ch3(i:Nat)(hN:X.N.Nodup)(h:JN X e f)(hi:X.N[i]? = some x:=by rfl)(hx:Loc X.env.scope x:=by first|exact Or.inl rfl|exact Or.inr rfl)
  (hs:swapsWith e (some (.Name x pos')) pos.line X.env=pure false:=by rfl) (hf:X.fn x=true\/X.env.scope.names.lookup x=some .local:=by first|exact .inl rfl|exact .inr rfl):JS X (.Assign [.Name x pos'] e pos) (aX5 i f):=λρ fl q H0 Hf0=>by
 obtain⟨ds,e1,e2⟩:=af.mp q;subst e2;refine D0 (m7 hN hi hx (h ρ ds e1) hs hf) λEn σ H ⟨Hf,a,e⟩=>⟨H0,Hf,a.gr.sub,a.sl,λv H' Hf' g ⟨p,vs,z1,z2,z3,z4,z5⟩=>?_⟩
 subst z1;exact e _ H' Hf' ⟨a.gr.trans g,a.sl.setOwn g (a.gr.big.free z2) z2 z3 z4 z5⟩ g.ext
noncomputable def at7(i:Nat)(f:DE):DS:=λρ=>match ρ[i]? with
 | some (some (.own ds))=>if ds.length < 16777216 then(f ρ).map λd=>.nx (ρ.set i (some (.own (ds++[d])))) else none
 | _=>none
theorem ch4(i:Nat)(h:JE X e f)(hN:X.N[i]? = some x:=by rfl)(hv:Vis X.env.scope x:=by first|exact Or.inl rfl|exact Or.inr (Or.inl rfl)|exact Or.inr (Or.inr rfl))(hd:(x==("__debug__" : Str))=false:=by decide)
  (hcd:(x==("__classdict__" : Str))=false:=by decide) (hbase:eB (.Name x p) "append" X.env (eval (.Name x p) X.env)=eval (.Name x p) X.env:=by rfl)
  (hfew:((backTo cpos (dO [e] X.env)).all (λx=>!x.1)&&(backToKw cpos (keywordEach [] X.env)).all (λx=>x.1.isSome)
   && decide (([e]:List Expr).length+([]:List eh).length+(if([]:List eh).isEmpty then 0 else 1) < 30))=true:=by rfl)
  (hline:(apos.endLine==cpos.line)=true:=by rfl) (hs:dO [e] X.env=[(false,eval e X.env)]:=by rfl) (hsw:swapsWith (.Call (.Attribute (.Name x p) "append" apos) [e] [] cpos) none pos.line X.env=pure false:=by rfl) :
  JS X (.Expr (.Call (.Attribute (.Name x p) "append" apos) [e] [] cpos) pos) (at7 i f):=λρ fl q H0 Hf0=>by
 unfold at7 at q;split at q
 ·rename_i ds eo;split at q
  ·rename_i hz;obtain⟨d,e1,e2⟩:=af.mp q;subst e2;refine D0 (u4 (ak5 PySem.F.plainAttrs_list PySem.F.slot_list_append PySem.F.type_list_append j6 (J9 hN hv hd hcd) (B6 (h ρ d e1) D3 hs) hbase hfew hline hs) hsw) λEn σ H ⟨Hf,a,ee⟩=>?_
   obtain⟨v,h1,b,vs,rfl,h2,h3,h4,h5⟩:=a.sl.is i _ eo;refine⟨_,h1,.inl ⟨rfl,vs,SqL.of h2⟩,H0,Hf,a.gr.sub,a.sl,λw H' Hf' gg r=>?_⟩;have hb:H' b=some (.lst vs):=gg.big _ _ h2;have hfb:Hf' b=none:=gg.nofr h2 h3;have g2:=a.gr.trans gg;have sl2:=a.sl.grow gg;refine⟨b,vs,w,rfl,rfl,hb,by rw[h5.length,dQ];exact hz,ee _ _ Hf' ⟨⟨λc u z=>?_,λc u z=>?_,g2.ext,g2.new⟩,?_⟩ gg.ext⟩
   ·rw[A9 (B9 z h4)];exact g2.big c u z
   ·rw[A9 (B9 z hfb)];exact g2.sub c u z
   ·refine⟨by simpa using sl2.len,λj bb z=>?_,λj k ds1 es c q1 q2 q3 q4=>?_⟩
    ·by_cases qj:i=j
     ·subst qj;have hi:i < ρ.length:=(ao.mp eo).1;rw[aC hi]at z;cases z;exact⟨_,h1,b,vs++[w],rfl,A7,hfb,h4,(h5.mono gg.ext).append ⟨w,[],rfl,r,rfl⟩⟩
     ·rw[aA qj]at z;obtain⟨u,z1,z2⟩:=sl2.is j bb z;refine⟨u,z1,?_⟩;cases bb with
      | val d=>exact z2
      | exc C=>exact z2
      | opq _=>exact z2
      | own dd =>
       obtain⟨a',vs',y1,y2,y3,y4,y5⟩:=z2
       have ne:a'≠b:=λzz=>by
        subst zz y1;exact qj (a.sl.apart i j ds dd a' eo z h1 z1)
       exact⟨a',vs',y1,by rw[A9 ne];exact y2,y3,y4,y5⟩
    ·have q1':∃dd,ρ[j]? = some (some (.own dd)):=by
      by_cases qj:i=j
      ·subst qj;exact⟨ds,eo⟩
      ·rw[aA qj]at q1;exact⟨_,q1⟩
     have q2':∃dd,ρ[k]? = some (some (.own dd)):=by
      by_cases qj:i=k
      ·subst qj;exact⟨ds,eo⟩
      ·rw[aA qj]at q2;exact⟨_,q2⟩
     obtain⟨d1,q1'⟩:=q1';obtain⟨d2,q2'⟩:=q2';exact a.sl.apart j k d1 d2 c q1' q2' q3 q4
  ·cases q
 ·cases q
noncomputable def frz(i:Nat)(ρ:Rho):Rho:=match ρ[i]? with
 | some (some (.own ds))=>ρ.set i (some (.val (.list ds)))
 | _=>ρ
theorem bt6{K:ag}{H0 Hf0 H Hf:Hp}{ρ:Rho}{σ:L2.St}(i:Nat)(a:At K H0 Hf0 ρ σ H Hf):∃Hf',B0 Hf Hf'/\At K H0 Hf0 (frz i ρ) σ H Hf':=by
 unfold frz;split
 ·rename_i ds eo;obtain⟨v,h1,b,vs,rfl,h2,h3,h4,h5⟩:=a.sl.is i _ eo;have g:Grow H0 Hf0 H (upd Hf b (.lst vs)):=a.gr.freeze h2 h3 h4;refine⟨upd Hf b (.lst vs),D5 h3,g,⟨by simpa using a.sl.len,λj bb z=>?_,λj k ds1 es c q1 q2 q3 q4=>?_⟩⟩
  ·have hi:i < ρ.length:=(ao.mp eo).1;by_cases qj:i=j
   ·subst qj;rw[aC hi]at z;cases z;exact⟨_,h1,b,vs,rfl,SqL.of A7,h5.mono (D5 h3)⟩
   ·rw[aA qj]at z;obtain⟨u,z1,z2⟩:=a.sl.is j bb z;refine⟨u,z1,?_⟩;cases bb with
    | val d=>exact Rep.mono (D5 h3) z2
    | opq _=>exact z2
    | exc C =>
     obtain⟨a',o',C',y1,y2,y3⟩:=z2;exact⟨a',o',C',y1,D5 h3 _ _ y2,y3⟩
    | own dd =>
     obtain⟨a',vs',y1,y2,y3,y4,y5⟩:=z2
     have ne:a'≠b:=λzz=>by
      subst zz y1;exact qj (a.sl.apart i j ds dd a' eo z h1 z1)
     exact⟨a',vs',y1,y2,by rw[A9 ne];exact y3,y4,y5.mono (D5 h3)⟩
  ·have hi:i < ρ.length:=(ao.mp eo).1;have qj:i≠j:=λz=>by subst z;rw[aC hi]at q1;cases q1
   have qk:i≠k:=λz=>by subst z;rw[aC hi]at q2;cases q2
   rw[aA qj]at q1;rw[aA qk]at q2;exact a.sl.apart j k ds1 es c q1 q2 q3 q4
 ·exact⟨Hf,B0.refl _,a⟩
noncomputable def cB3(i:Nat)(f:DS):DS:=λρ=>f (frz i ρ)
theorem cC8(i:Nat){st:Stmt}{f:DS}(h:JS X st f):JS X st (cB3 i f):=λρ fl q H0 Hf0=>D0 (h (frz i ρ) fl q H0 Hf0) λEn σ H ⟨Hf,a,e⟩=>by
 obtain⟨Hf',s,a'⟩:=bt6 i a;exact⟨Hf',a',Fl.ends_mono e s⟩
noncomputable def cp6(K:ag)(H0 Hf0:Hp)(f:DS):TS:=λEn σ H=>∃ρ fl,f ρ=some fl/\tJS K H0 Hf0 ρ fl En σ H
theorem bF4(h:JSs X sts f):PSs X sts (cp6 X.K H0 Hf0 f):=λpins s σ H En I ⟨ρ,fl,e,t⟩=>h ρ fl e H0 Hf0 pins s σ H En I t
theorem bZ8(h:JT X e c):PT X e (t5 X.K c):=λpins s σ H Q I ⟨ρ,b,e,t⟩=>h ρ b e pins s σ H Q I t
noncomputable def K7(t:Rho->Option Bool)(f:DS):Nat->DS
 | 0=>λ_=>none
 | n+1=>λρ=>(t ρ).bind λc=>if c then(f ρ).bind λfl=>match fl with
   | .nx ρ'=>K7 t f n ρ'
   | .ct ρ'=>K7 t f n ρ'
   | .bk ρ'=>some (.nx ρ')
   | .rt d=>some (.rt d)
  else some (.nx ρ)
theorem n9:∀{n:Nat}{ρ:Rho}{fl:Fl},K7 t f n ρ=some fl->K7 t f (n+1) ρ=some fl
 | 0,_,_,h=>by cases h
 | n+1,ρ,fl,h=>by
  obtain⟨c,e1,h⟩:=xbm h;show(t ρ).bind _=_;rw[e1];cases c with
  | false=>exact h
  | true =>
   obtain⟨fl1,e2,h⟩:=xbm h;show(f ρ).bind _=_;rw[e2];cases fl1 with
   | nx ρ'=>exact n9 (n:=n) h
   | ct ρ'=>exact n9 (n:=n) h
   | bk ρ'=>exact h
   | rt d=>exact h
theorem aE6(h:K7 t f n ρ=some fl)(l:n<=m):K7 t f m ρ=some fl:=by
 induction l with
 | refl=>exact h
 | step _ ih=>exact n9 ih
open Classical in
noncomputable def S5(t:Rho->Option Bool)(f:DS):DS:=λρ=>if h:∃fl n,K7 t f n ρ=some fl then some h.choose else none
theorem ab8(h:K7 t f n ρ=some fl):S5 t f ρ=some fl:=by
 have hx:∃fl n,K7 t f n ρ=some fl:=⟨fl,n,h⟩;unfold S5;rw[dif_pos hx];obtain⟨m,hm⟩:=hx.choose_spec;have h1:=aE6 h (Nat.le_max_left n m);have h2:=aE6 hm (Nat.le_max_right n m);rw[h1]at h2;exact h2.symm
theorem aY0(h:S5 t f ρ=some fl):∃n,K7 t f n ρ=some fl:=by
 unfold S5 at h;split at h
 ·rename_i hx;cases h;exact hx.choose_spec
 ·cases h
theorem bp5(hc:JT X c t)(hb:JSs X body f)(hp:PassesOwn (eE X.prog X.w) X.A X.env X.xe:=by exact PassesOwn.never):JS X (.While c body [] pos) (S5 t f):=λρ fl q H0 Hf0=>by
 obtain⟨n,hn⟩:=aY0 q;refine D0 (bi5 hp (bZ8 hc) (bF4 (H0:=H0) (Hf0:=Hf0) hb)) λEn σ H ⟨Hf,a,e⟩=>?_
 refine⟨λm σ H=>∃Hf' ρ',At X.K H0 Hf0 ρ' σ H Hf'/\B0 Hf Hf'/\K7 t f m ρ'=some fl,⟨n,Hf,ρ,a,B0.refl _,hn⟩,?_⟩
 rintro m σ' H' ⟨Hf',ρ',a',s',hm⟩
 cases m with
 | zero=>cases hm
 | succ m =>
  obtain⟨b,e1,hm⟩:=xbm hm;refine⟨ρ',b,e1,H0,Hf',a'.gr.sub,a'.sl,λH2 Hf2 g2=>?_⟩;have a2:=a'.grow g2;have s2:=s'.trans g2.ext;cases b with
  | false =>
   have:fl=.nx ρ':=by simpa using hm.symm
   subst this;exact ag3 (e σ' H2 Hf2 a2 s2)
  | true =>
   obtain⟨fl1,e2,hm⟩:=xbm (show(f ρ').bind _=some fl from hm);refine v5 ⟨λσ3 H3=>∃m',m' < m+1/\∃Hf' ρ',At X.K H0 Hf0 ρ' σ3 H3 Hf'/\B0 Hf Hf'/\K7 t f m' ρ'=some fl,λσ3 H3 z=>z,ρ',fl1,e2,Hf2,a2,?_⟩;cases fl1 with
   | nx ρ3=>exact λσ3 H3 Hf3 a3 s3=>⟨m,cI _,Hf3,ρ3,a3,s2.trans s3,hm⟩
   | ct ρ3=>exact λσ3 H3 Hf3 a3 s3=>⟨m,cI _,Hf3,ρ3,a3,s2.trans s3,hm⟩
   | bk ρ3 =>
    cases hm;exact λσ3 H3 Hf3 a3 s3=>e σ3 H3 Hf3 a3 (s2.trans s3)
   | rt d =>
    cases hm;exact e
theorem bJ0:JS X (.Pass pos) Z2:=λρ fl q H0 Hf0=>by
 cases q;exact D0 bF5 λEn σ H ⟨Hf,a,e⟩=>e σ H Hf a (B0.refl _)
end
noncomputable def G9(n:Nat)(ds:List D):Rho:=ds.map (λd=>some (B.val d))++au (n - ds.length) none
noncomputable def G4(g:DS)(n:Nat):List D->Option D:=λds=>(g (G9 n ds)).bind λfl=>match fl with
 | .rt d=>some d
 | .nx _=>some .none
 | _=>none
theorem ae1{K:ag}{H0 H Hf:Hp}{N:List Str}{ds:List D}{vs:List V}(r:Reps K Hf ds vs):Slots K H0 (G9 N.length ds) (L2.start N vs) H Hf:=by
 have hl:=r.length
 have noown:∀(i:Nat) (b:B),(G9 N.length ds)[i]? = some (some b)->∃d,ds[i]? = some d/\b=.val d:=λi b h=>by
  unfold G9 at h;rcases bD i ds.length with q|q
  ·rw[az (by simpa using q),aF]at h;rw[ba q]at h ⊢;simp only[dy,bg.injEq]at h;exact⟨ds[i],rfl,h.symm⟩
  ·rw[aq (by simpa using q),aY]at h;split at h<;>cases h
 refine⟨by simp[G9,L2.start,hl],λi b e=>?_,λi j d1 d2 a e1 _ _ _=>?_⟩
 ·obtain⟨d,h1,h2⟩:=noown i b e;subst h2;obtain⟨v,h3,h4⟩:=r.get h1;refine⟨v,?_,h4⟩;have hi:i < vs.length:=(ao.mp h3).1;unfold L2.start;rw[az (by simpa using hi),aF,h3];rfl
 ·obtain⟨d,_,h2⟩:=noown i _ e1;cases h2
theorem aU2{P:dU}{w:World}{K:ag}{mg:Str->Option eU}{base:Heap}{x qual:Str}{st:Stmt}{f:eW}{fd:dX}{N ps:List Str}{k:Nat}{g:DS}(F:Fun K x qual st f fd)(S:FnScope N ps (A2 st))
  (hb:∀(cdv:eU) (A:dW) (outer:List Env) (s:eV) (H:Hp) (E:XK),Room k (A.deeper (envOfC qual (A2 st) s.heap.objs.size f cdv))->JSs (cxY b P w K mg base N qual (A2 st) f cdv A outer s H E) (C8 st) g) :
  FnOk P w K mg base (CXb K P w b) (k+1) f fd ps (spF K ps.length (G4 g N.length)):=by
 refine v8 F S (λvs H Q E h=>h.1) λcdv A outer s H vs Q E hr hsp=>?_
 obtain⟨hlen,Hf,ds,d,ss,rp,e,kk⟩:=hsp;obtain⟨fl,e1,e2⟩:=xbm e;refine⟨_,hb cdv A outer s H E hr _ fl e1 H Hf,Hf,⟨Grow.refl ss,ae1 rp⟩,?_⟩;cases fl with
 | rt d'=>cases e2;exact λv H' Hf' g r=>kk v H' Hf' g r
 | nx ρ=>cases e2;exact λσ' H' Hf' a _=>kk _ H' Hf' a.gr rfl
 | bk ρ=>cases e2
 | ct ρ=>cases e2
end G
namespace G
open PySem PySem.Spec PyProof.Rows L2
noncomputable def SIt:Bool->Heap->eW->eW->Nat->Prop
 | true=>Heap.IsTupleIter
 | false=>Heap.IsListIter
noncomputable def SSq:Bool->Heap->eW->Array eU->Prop
 | true=>Heap.IsTuple
 | false=>Heap.IsList
section
variable {prog:Program}{w:World}{A:Around}{E:Value->Shared->Prop}{s:Shared}{t t1 t2:Bool}
theorem SIt.ext(x:SIt t h it l k)(e:∀o,h.get? it=some o->h'.get? it=some o):SIt t h' it l k:=by
 cases t with
 | true=>obtain⟨o,ho,r⟩:=x;exact⟨o,e o ho,r⟩
 | false=>obtain⟨o,ho,r⟩:=x;exact⟨o,e o ho,r⟩
theorem SSq.ext(x:SSq t h l xs)(e:∀o,h.get? l=some o->h'.get? l=some o):SSq t h' l xs:=by
 cases t with
 | true=>obtain⟨o,ho,r⟩:=x;exact⟨o,e o ho,r⟩
 | false=>obtain⟨o,ho,r⟩:=x;exact⟨o,e o ho,r⟩
theorem SIt.lt(x:SIt t h it l k):it < h.objs.size:=by
 cases t with
 | true=>obtain⟨o,ho,_⟩:=x;exact eG ho
 | false=>obtain⟨o,ho,_⟩:=x;exact eG ho
theorem aH8(hit:s.heap.IsTupleIter it l k)(hl:s.heap.IsTuple l xs)(hx:xs[k]? = some x)
  (hQ:∀h',h'.IsTupleIter it l (k+1)->Heap.SameBut it s.heap h'->Q x { s with heap:=h' }):eD (eE prog w) A (Builtin.SmallTypes.nextOf (.ref it)) Q E s:=by
 obtain⟨o,ho,hc,hd⟩:=id hit;obtain⟨ol,hol,_,nl,hdl⟩:=hl;unfold Builtin.SmallTypes.nextOf;refine dH (wpAny_callSpecial?_slot (name:=Str.ofString "__next__") hit.typeIs F.slot_tuple_iterator_next (wpAny_call_entry F.slot_tuple_iterator_next hit.typeIs F.entry_tuple_iterator_next ?_ (F.args_tuple_iterator_next_1 _)));show eD _ _ (field (.ref it) 0 >>= _) _ _ s;refine dH (dN ho hd (x:=.ref l) rfl ?_);show eD _ _ (if(eP l==eQ)=true then _ else _) _ _ s;rw[if_neg (show ¬((eP l==eQ)=true) from be)];show eD _ _ (field (.ref it) 1 >>= _) _ _ s;refine dH (dN ho hd (x:=.int k 0) rfl ?_);show eD _ _ (seqItems? (.ref l) >>= _) _ _ s;refine dH (wpAny_seqItems hol hdl ?_);simp only[cj,hx];refine dH (wpAny_setField ho hd (by simp) (dI ⟨x,rfl,dI (hQ _ ⟨_,Heap.get?_update_self _ ho (Obj.isFreed_of_fields (Obj.data_mapFields hd _)),(Obj.cls_mapFields ..).trans hc,?_⟩ (Heap.SameBut.update ..))⟩));rw[Obj.data_mapFields hd];simp[rawInt]
theorem aX2(hh:A.handled=none)(hit:s.heap.IsTupleIter it l k)(hl:s.heap.IsTuple l xs)(hx:xs[k]? = none)
  (hE:∀h' e,Heap.ExtBut it s.heap h'->(∃o,h'.get? e=some o/\o.cls=.type "StopIteration")->E (.ref e) { s with heap:=h' }):eD (eE prog w) A (Builtin.SmallTypes.nextOf (.ref it)) Q E s:=by
 obtain⟨o,ho,hc,hd⟩:=id hit;obtain⟨ol,hol,_,nl,hdl⟩:=hl;unfold Builtin.SmallTypes.nextOf;refine dH (wpAny_callSpecial?_slot (name:=Str.ofString "__next__") hit.typeIs F.slot_tuple_iterator_next (wpAny_call_entry F.slot_tuple_iterator_next hit.typeIs F.entry_tuple_iterator_next ?_ (F.args_tuple_iterator_next_1 _)));show eD _ _ (field (.ref it) 0 >>= _) _ _ s;refine dH (dN ho hd (x:=.ref l) rfl ?_);show eD _ _ (if(eP l==eQ)=true then _ else _) _ _ s;rw[if_neg (show ¬((eP l==eQ)=true) from be)];show eD _ _ (field (.ref it) 1 >>= _) _ _ s;refine dH (dN ho hd (x:=.int k 0) rfl ?_);show eD _ _ (seqItems? (.ref l) >>= _) _ _ s;refine dH (wpAny_seqItems hol hdl ?_);simp only[cj,hx];refine dH (wpAny_rule (dH (wpAny_setField ho hd (by simp) ?_)));show eD _ _ (newExc (.type "StopIteration") [] >>= _) _ _ _;refine dH ?_;simp only[newExc,newTuple];refine dH (dL ?_ (by size_fits));refine dH (m:=firstArgMember _ _) (wpAny_of_eq (a:=eQ) (by first|rfl|(simp only[firstArgMember];rfl)) ?_);refine dL ?_ (by size_fits);simp only[raiseNew];refine dH (wpAny_handled ?_);first|rw[show A.in1.handled=none from hh]|rw[hh]
 refine dH (dI (wpAny_throw ?_));exact hE _ _ (((Heap.SameBut.update ..).extBut.push _).push _) ⟨_,eI _ rfl,rfl⟩
theorem bh3(hit:SIt t s.heap it l k)(hl:SSq t s.heap l xs)(hx:xs[k]? = some x)
  (hQ:∀h',SIt t h' it l (k+1)->Heap.SameBut it s.heap h'->Q x { s with heap:=h' }):eD (eE prog w) A (Builtin.SmallTypes.nextOf (.ref it)) Q E s:=by
 cases t with
 | true=>exact aH8 hit hl hx hQ
 | false=>exact wpAny_nextOf_list_item hit hl hx hQ
theorem aQ3(hh:A.handled=none)(hit:SIt t s.heap it l k)(hl:SSq t s.heap l xs)(hx:xs[k]? = none)
  (hE:∀h' e,Heap.ExtBut it s.heap h'->(∃o,h'.get? e=some o/\o.cls=.type "StopIteration")->E (.ref e) { s with heap:=h' }):eD (eE prog w) A (Builtin.SmallTypes.nextOf (.ref it)) Q E s:=by
 cases t with
 | true=>exact aX2 hh hit hl hx hE
 | false=>exact wpAny_nextOf_list_end hh hit hl hx hE
noncomputable def aq7(t:Bool)(l:eW):Obj:={ cls:=.type (if t then "tuple_iterator" else "list_iterator"),data:=.fields #[.ref l,.int 0 0] }
theorem bD4{h:Heap}{l:eW}(t:Bool):SIt t (h.push (aq7 t l)) h.objs.size l 0:=by
 cases t with
 | true=>exact⟨_,eI _ rfl,rfl,rfl⟩
 | false=>exact⟨_,eI _ rfl,rfl,rfl⟩
theorem aj5(hl:SSq t s.heap l xs)(hQ:Q (.ref s.heap.objs.size) { s with heap:=s.heap.push (aq7 t l) }):eD (eE prog w) A (pyIter (.ref l)) Q E s:=by
 cases t with
 | true=>exact wpAny_pyIter_tuple hl hQ
 | false=>exact wpAny_pyIter_list hl hQ
end
end G
namespace G
open PySem PySem.Spec PyProof.Rows L2
theorem bY2(I:Inv X pins σ H s)(h:Sq X.K t H a xs)(h':Sq X.K t H a ys):xs=ys:=by
 cases t with
 | true=>exact I.tuple_inj h h'
 | false=>exact I.list_inj h h'
theorem at3(I:Inv X pins σ H s)(h:Sq X.K t H a xs):∃its:List eU,C9 xs its/\SSq t s.heap a its.toArray/\a < s.heap.objs.size:=by
 cases t with
 | true =>
  obtain⟨its,r,p,_⟩:=I.tuple h;exact⟨its,r,p,by obtain⟨o,ho,_⟩:=p;exact eG ho⟩
 | false =>
  obtain⟨its,r,p,_⟩:=I.list h;exact⟨its,r,p.isList,by obtain⟨o,ho,_⟩:=p.isList;exact eG ho⟩
end G
namespace G
open PySem PySem.Spec PyProof.Rows L2
theorem ag4{X:Cx}{pins:List (eW×Obj)}{σ:L2.St}{H:Hp}{s:eV}{h':Heap}{t':Nat}{ch:List eW}{T:eW}{o:HO}(I:Inv X pins σ H s)(hf:∀b∈ch,ad7 X pins H b)(hT:s.heap.objs.size<=T)
  (k:∀b u,b∉ch->s.heap.get? b=some u->h'.get? b=some u) (new:F9 X.prog X.w (upd H T o) h' T o):Inv X pins σ (upd H T o) { s with heap:=h',toks:=t' }:=by
 have hn:H T=none:=I.hok.fresh hT;have neT:∀b u,s.heap.get? b=some u->b≠T:=λb u e=>aK (aB (eG e) hT)
 have nch:∀b u,H b=some u->b∉ch:=λb u e z=>by rw[(hf b z).1]at e;cases e
 refine I.step (g':=s.gens) (d':=s.drawn) (ch:=ch) (λb hb=>⟨(hf b hb).2.2.2.1,(hf b hb).2.1,(hf b hb).2.2.2.2.1,(hf b hb).2.2.2.2.2⟩) (λb u _ _ hc e _=>k b u hc e) (λb u _ _ hc e _=>⟨u.slots,k b u hc e⟩)
  (λb u _ e n=>by rw[A9 (neT b u e)];exact n) (λb u hc e=>⟨u,k b u hc e⟩) (λb xs e=>by rw[A9 (B9 e hn)];exact e) (λb ob u e=>by rw[A9 (B9 e hn)];exact e)
  (λb ps e=>⟨#[],by rw[A9 (B9 e hn),e];simp⟩) (λm hm=>?_) (λb u e=>?_) I.bare
 ·obtain⟨ob,es,ep,ho,r⟩:=hm;exact⟨ob,es,ep,k _ ob (λz=>(hf _ z).2.1 rfl) ho,r⟩
 ·by_cases hb:b=T
  ·subst hb;rw[A7]at e;cases e;exact new
  ·rw[A9 hb]at e;refine(I.hok b u e).stay (λc v hc q=>k c v ?_ q) (λc q=>by rw[A9 (B9 q hn)];exact q) λc xs q=>by rw[A9 (B9 q hn)];exact q
   rcases hc with z|z
   ·rw[z];exact nch b u e
   ·exact nch c _ z
theorem al7{X:Cx}{pins:List (eW×Obj)}{σ:L2.St}{H:Hp}{s:eV}{h':Heap}{t':Nat}{ch:List eW}(I:Inv X pins σ H s)(hf:∀b∈ch,ad7 X pins H b)
  (k:∀b u,b∉ch->s.heap.get? b=some u->h'.get? b=some u):Inv X pins σ H { s with heap:=h',toks:=t' }:=by
 have nch:∀b u,H b=some u->b∉ch:=λb u e z=>by rw[(hf b z).1]at e;cases e
 refine I.step (g':=s.gens) (d':=s.drawn) (ch:=ch) (λb hb=>⟨(hf b hb).2.2.2.1,(hf b hb).2.1,(hf b hb).2.2.2.2.1,(hf b hb).2.2.2.2.2⟩) (λb u _ _ hc e _=>k b u hc e) (λb u _ _ hc e _=>⟨u.slots,k b u hc e⟩)
  (λb u _ e n=>n) (λb u hc e=>⟨u,k b u hc e⟩) (λb xs e=>e) (λb ob u e=>e) (λb ps e=>⟨#[],by rw[e];simp⟩) (λm hm=>?_) (λb u e=>?_) I.bare
 ·obtain⟨ob,es,ep,ho,r⟩:=hm;exact⟨ob,es,ep,k _ ob (λz=>(hf _ z).2.1 rfl) ho,r⟩
 ·refine(I.hok b u e).stay (λc v hc q=>k c v ?_ q) (λc q=>q) λc xs q=>q
  rcases hc with z|z
  ·rw[z];exact nch b u e
  ·exact nch c _ z
section
variable {X:Cx}
noncomputable def bL0(f g:Rho->Option (Bool×List D)):Rho->Option (List D):=λρ=>(f ρ).bind λp=>(g ρ).bind λq=>some ((p.2.zip q.2).map λ(x,y)=>PyData.tuple [x,y])
end
end G
namespace G
open PySem PySem.Spec PyProof.Rows L2
theorem ae3:fillsNumberSlot (.type "tuple") "mul" = pure false:=PySem.fillsNumberSlot_seq (id := "tuple.__mul__") (r:=some (.builtin "tuple.__rmul__")) F.slot_tuple_mul.lookup (by decide +kernel) F.slot_tuple_rmul.lookup (by decide +kernel)
theorem ap7:seqRepeat? (.type "tuple")=pure (some (.builtin "tuple.__mul__")):=by
 unfold seqRepeat?;rw[PySem.seqSlot_of (T := "tuple") (name := "__mul__") (id := "tuple.__mul__") F.slot_tuple_mul.lookup (by decide +kernel),PySem.seqSlot_of (T := "tuple") (name := "__rmul__") (id := "tuple.__rmul__") F.slot_tuple_rmul.lookup (by decide +kernel)];rfl
theorem t7(a:Int)(t:Tok)(l:eW)(items:Array eU)(n:Nat)(dd:Option eW)(sl:Array (Option eU)):
  Meets (Builtin.«int.__rmul__» ⟨[.int a t,.ref l],[]⟩) (λ_ R s=>s.heap.get? l=some ⟨.type "tuple", dd,.seq items n,sl⟩/\R (.ok (.ret Value.notImplemented)) s) :=
 .of_wp λprog w A R s h=>by obtain⟨hp,g,d,tk,os⟩:=s;obtain⟨hl,h⟩:=h;wp_walk;exact⟨_,rfl,h⟩
theorem aI9(items:Array eU)(k:Nat):cU (λx1 x2=>x1++x2) #[] (au k items)=(au k items.toList).flatten.toArray:=by
 have:=ar1 items.toList k [];rw[List.nil_append]at this;simpa using this
theorem aC9(l:eW)(items:Array eU)(n:Nat)(dd:Option eW)(sl:Array (Option eU))(x:Int)(u:Tok)(h2:2<=x)(h3:x < 1000000)(he:items.isEmpty=false)(hz:items.size*x.toNat<=dP):
  Meets (Builtin.«tuple.__mul__» ⟨[.ref l,.int x u],[]⟩) (λ_ R s=>s.heap.get? l=some ⟨.type "tuple", dd,.seq items n,sl⟩/\R (.ok (.ret (eP s.heap.objs.size))) { s with heap:=s.heap.push { cls:=Value.type "tuple", data:=Data.seq (cU (λx1 x2=>x1++x2) #[] (au x.toNat items)) } }) :=
 .of_wp λprog w A R s h=>by
  obtain⟨hp,g,d,tk,os⟩:=s;obtain⟨hl,h⟩:=h
  have hm:(items.size:Int)*x<=16777216:=by
   have e:((items.size*x.toNat:Nat):Int)=(items.size:Int)*x:=by rw[bB,Int.toNat_of_nonneg (by omega)]
   have:items.size*x.toNat<=16777216:=by rw[← dQ];exact hz
   omega
  wp_walk
  refine wpAny_ite_false (by simp;omega) ?_;have ht:Heap.IsTuple (Shared.heap ⟨hp,g,d,tk,os⟩) l items:=⟨_,hl,rfl,n,rfl⟩;refine dH (tupleItemsOf_ ht ?_);refine wpAny_ite_false (by rw[he];simp;omega) ?_;show eD _ _ (if(decide (x<=0) || items.isEmpty)=true then _ else _) _ _ _;refine wpAny_ite_false (by rw[he];simp;omega) ?_;show eD _ _ (if(items.size:Int)*x > (2 ^ 63 - 1) / 8 then _ else _) _ _ _;rw[if_neg (by omega)];show eD _ _ (if Builtin.Tuple.tupleTooMany ((items.size:Int)*x)=true then _ else _) _ _ _;rw[if_neg (by unfold Builtin.Tuple.tupleTooMany;rw[dQ];simp;omega)];refine dH (m:=Builtin.Tuple.tupleExact _) (dL (dI ⟨_,rfl,h⟩) ?_);show(cU (λx1 x2=>x1++x2) #[] (au x.toNat items)).size<=dP;rw[aI9 items x.toNat,av,av9,bj,dt];exact hz
section
variable {X:Cx}
theorem bG9:OpR X (dZ .Mult) (λx y H Q=>∃l k xs,x=.ref l/\y=.int k/\SqT X.K H l xs/\xs≠[]/\2<=k/\k < 1000000/\xs.length*k.toNat<=dP/\∀p,H p=none->Q (.ref p) (upd H p (.tup (au k.toNat xs).flatten))):=by
 intro pins s σ H x y v u Q I rx ry h;obtain⟨l,k,xs,rfl,rfl,hq,hx,h2,h3,hz,q⟩:=h;cases rx;obtain⟨t,rfl⟩:=ry;obtain⟨its,r,p1,_⟩:=I.tuple hq;obtain⟨⟨cls,dd,data,sl⟩,ho,hc,n,hd⟩:=id p1;simp only at hc hd;subst hc hd;have hl:=r.length
 have he:its.toArray.isEmpty=false:=by
  cases its with
  | nil=>exact absurd (r.nil_iff.mp rfl) hx
  | cons a b=>rfl
 refine wpAny_binaryOp_repeat_ref (T := "tuple") (U := "int") (by decide) ⟨_,ho,rfl⟩ (λs'=>typeIs_int s' k t) ae3 F.fills_int_mul F.slot_int_rmul ap7 F.slot_int_index.lookup
  (eA F.slot_int_rmul (typeIs_int s k t) F.entry_int_rmul (F.args_int_rmul_2 _ _) (t7 k t l its.toArray n dd sl) ⟨ho,rfl,⟨_,ho,rfl⟩,
   eA F.slot_tuple_mul ⟨_,ho,rfl⟩ F.entry_tuple_mul (F.args_tuple_mul_2 _ _) (aC9 l its.toArray n dd sl k t h2 h3 he (by rw[av,← hl];exact hz)) ⟨ho,?_⟩⟩)
 rw[aI9];refine⟨.ref _,_,I.laid (t':=s.toks) (o:=.tup (au k.toNat xs).flatten) (λb ob q=>eF _ q) (aj _) ⟨?_,_,r.rep k.toNat,ao5.new _ _⟩,rfl,q _ (I.hok.fresh (aj _))⟩;rw[av9,dt];exact hz
noncomputable def X5(x y:D):Option D:=match x,y with
 | .int i,.int j=>if D6 i/\D6 j then some (.int (i*j)) else none
 | .tuple xs,.int k=>if xs.isEmpty=false/\2<=k/\k < 1000000/\xs.length*k.toNat<=16777216 then some (.tuple (au k.toNat xs).flatten) else none
 | _,_=>none
theorem av0:OpD X (dZ .Mult) X5:=λx y z h=>by
 unfold X5 at h;split at h
 ·exact cd2 _ _ z (by unfold ce0;exact h)
 ·split at h
  ·rename_i xs k c;cases h;refine OpR.imp bG9 λvx vy H Q ⟨Hf,s,r1,r2,kk⟩=>?_
   obtain⟨a,vs,rfl,h2,h3⟩:=r1;refine⟨a,k,vs,rfl,r2,C6 s h2,?_,c.2.1,c.2.2.1,by rw[h3.length,dQ];exact c.2.2.2,λp hp=>?_⟩
   ·intro e;subst e;have:=h3.length;cases xs with
    | nil=>exact absurd c.1 (by simp)
    | cons a b=>simp at this
   ·exact kk _ _ _ (Grow.laid s hp) ⟨p,_,rfl,SqT.of A7,(h3.flatten k.toNat).mono (D5 (s.free hp))⟩
  ·cases h
 ·cases h
noncomputable def aM3(f:DE):DE:=λρ=>(f ρ).bind λd=>match d with
 | .int i=>some (.int (-i))
 | _=>none
theorem br2(h:JE X a f):JE X (.UnaryOp .USub a pos) (aM3 f):=λρ d q=>by
 obtain⟨x,e1,e2⟩:=xbm q;cases x with
 | int i =>
  cases e2;exact A5 (cs4 bV2 (h ρ _ e1)) λσ H Q ⟨H0,Hf,s,sl,k⟩=>⟨H0,Hf,s,sl,λv H1 Hf1 g1 r1=>⟨_,r1,k _ H1 Hf1 g1 rfl⟩⟩
 | _=>cases e2
noncomputable def isB(x y:D):Option D:=match y with
 | .bool b=>(match x with
  | .bool c=>some (.bool (c==b))
  | .dict _=>none
  | _=>some (.bool false))
 | .none=>isN x .none
 | _=>none
theorem bP4:OpD X (dR .Is) isB:=λx y z h=>by
 cases y with
 | none=>exact cd4 x .none z h
 | bool b =>
  intro pins s σ H vx vy v u Q I rx ry ⟨Hf,ss,r1,r2,k⟩;cases r2;cases ry
  have fin:∀c,z=.bool c->(v==Value.bool b)=c->EP X pins σ Q (.bool (v==Value.bool b)) s:=λc e1 e2=>by
   rw[e2];subst e1;exact⟨.bl c,H,I,rfl,k _ H Hf (Grow.refl ss) rfl⟩
  cases x with
  | none=>cases r1;cases rx;cases h;exact wpAny_is_plain rfl (fin _ rfl rfl)
  | bool c=>cases r1;cases rx;cases h;exact wpAny_is_plain rfl (fin _ rfl (by cases c<;>cases b<;>rfl))
  | int i=>cases r1;obtain⟨t,rfl⟩:=rx;cases h;exact wpAny_is_plain rfl (fin _ rfl rfl)
  | str i=>cases r1;obtain⟨t,rfl⟩:=rx;cases h;exact wpAny_is_plain rfl (fin _ rfl rfl)
  | tuple ds=>obtain⟨a,vs,rfl,_⟩:=r1;cases rx;cases h;exact wpAny_is_plain rfl (fin _ rfl rfl)
  | list ds=>obtain⟨a,vs,rfl,_⟩:=r1;cases rx;cases h;exact wpAny_is_plain rfl (fin _ rfl rfl)
  | dict ds=>cases h
 | _=>cases h
noncomputable def bx4(K:ag)(d:D)(u:eU):Prop:=∃v,C5 v u/\∀H:Hp,Rep K H d v
theorem cj1(r:bx4 X.K d u)(hg:Gl X x)(hm:X.mg x=some u)(hd:(x==("__debug__" : Str))=false:=by decide):JE X (.Name x pos) (dC d):=λρ d' q=>by
 cases q;obtain⟨v,rv,rp⟩:=r;exact A5 (bG2 hg hm rv hd) λσ H Q ⟨H0,Hf,s,sl,k⟩=>k _ H Hf (Grow.refl s) (rp Hf)
noncomputable def qN(f:Rho->Option (List D)):Rho->Option (Bool×List D):=λρ=>(f ρ).map λds=>(false,ds)
theorem cv4(h:JN X e f):JQ X e (qN f):=bp7 h
noncomputable def aa2(f:Rho->Option (Bool×List D)):DE:=λρ=>(f ρ).bind λq=>if q.1=true then none else some (.tuple q.2)
theorem bJ9(hg:Gl X "tuple")(hm:X.mg "tuple" = none)(h:JQ X e f)(he:dO [e] X.env=[(false,eval e X.env)]:=by rfl):JE X (.Call (.Name "tuple" p) [e] [] pos) (aa2 f):=bq9 hg hm h (he:=he)
end
end G
namespace G
open PySem PySem.Spec PyProof.Rows L2
theorem bc1(l b:eW)(items items2:Array eU)(n n2:Nat)(dd dd2:Option eW)(sl sl2:Array (Option eU))(hz:items.size+items2.size<=dP):
  Meets (Builtin.«list.__add__» ⟨[.ref l,.ref b],[]⟩) (λ_ R s=>s.heap.get? l=some ⟨.type "list", dd,.seq items n,sl⟩/\s.heap.get? b=some ⟨.type "list", dd2,.seq items2 n2,sl2⟩/\R (.ok (.ret (eP s.heap.objs.size))) { s with heap:=s.heap.push { cls:=Value.type "list", data:=Data.seq (items++items2) } }) :=
 .of_wp λprog w A R s h=>by
  obtain⟨hp,g,d,tk,os⟩:=s;obtain⟨hl,hb,h⟩:=h;have hsub:isSubtype (.type "list") (.type "list")=pure true:=by rw[isSubtype_type];kernel_rfl
  have hsz:=hz
  wp_walk
  exact⟨_,rfl,h⟩
section
variable {X:Cx}
theorem aR9:OpR X (dZ .Add) (λx y H Q=>∃a b xs ys,x=.ref a/\y=.ref b/\SqL X.K H a xs/\SqL X.K H b ys/\xs.length+ys.length<=dP/\∀p,H p=none->Q (.ref p) (upd H p (.lst (xs++ys)))):=by
 intro pins s σ H x y v u Q I rx ry h;obtain⟨a,b,xs,ys,rfl,rfl,ha,hb,hz,q⟩:=h;cases rx;cases ry;obtain⟨its,r1,p1,_⟩:=I.list ha;obtain⟨its2,r2,p2,_⟩:=I.list hb;obtain⟨⟨cls,dd,data,sl⟩,ho,hc,n,hd⟩:=p1.isList;obtain⟨⟨cls2,dd2,data2,sl2⟩,ho2,hc2,n2,hd2⟩:=p2.isList;simp only at hc hd hc2 hd2;subst hc hd hc2 hd2;have l1:=r1.length;have l2:=r2.length;refine concat_meets ⟨_,ho,rfl⟩ ⟨_,ho2,rfl⟩ noFill_list_add seq_list_add PySem.F.slot_list_add PySem.F.entry_list_add (PySem.F.args_list_add_2 _ _) (bc1 a b its.toArray its2.toArray n n2 dd dd2 sl sl2 (by simp only[av];grind)) ⟨ho,ho2,?_⟩;have ea:its.toArray++its2.toArray=(its++its2).toArray:=by simp
 rw[ea];exact⟨.ref _,_,I.lnew (t':=s.toks) (r1.append r2) (by rw[aG];grind),rfl,q _ I.fresh⟩
noncomputable def B8(x y:D):Option D:=match x,y with
 | .list xs,.list ys=>if xs.length+ys.length<=16777216 then some (.list (xs++ys)) else none
 | x,y=>Z4 x y
theorem aS1:OpD X (dZ .Add) B8:=λx y z h=>by
 unfold B8 at h;split at h
 ·split at h
  ·rename_i c;cases h;refine OpR.imp aR9 λvx vy H Q ⟨Hf,s,r1,r2,k⟩=>?_
   obtain⟨a,vs,rfl,h2,h3⟩:=r1;obtain⟨b,us,rfl,h5,h6⟩:=r2;refine⟨a,b,vs,us,rfl,rfl,C7 s h2,C7 s h5,by rw[h3.length,h6.length,dQ];exact c,λp hp=>?_⟩;exact k _ _ _ (Grow.laid s hp) ⟨p,vs++us,rfl,SqL.of A7,(h3.append h6).mono (D5 (s.free hp))⟩
  ·cases h
 ·exact bl8 _ _ z h
end
end G
namespace G
open PySem PySem.Spec PyProof.Rows L2
end G
namespace G
open PySem PySem.Spec PyProof.Rows L2
section
variable {X:Cx}
noncomputable def aF3(f:DE)(lo hi:Rho->Option (Option Int)):DE:=λρ=>(f ρ).bind λd=>(lo ρ).bind λl=>(hi ρ).bind λh=>match d with
 | .tuple xs=>some (.tuple (aa4 xs l h))
 | .list xs=>some (.list (aa4 xs l h))
 | _=>none
theorem ci4{a:Expr}{lo hi:Option Expr}{f:DE}{l h:Rho->Option (Option Int)}{pos p2:Pos}(ha:JE X a f)(hl:JO X lo l)(hh:JO X hi h):JE X (.Subscript a (.Slice lo hi none p2) pos) (aF3 f l h):=λρ d q=>by
 obtain⟨x,e1,q⟩:=xbm q;obtain⟨y,e2,q⟩:=xbm q;obtain⟨z,e3,q⟩:=xbm q;cases x with
 | tuple xs =>
  cases q;refine br1 ha hl hh ρ _ ?_;unfold ax6;rw[e1,dm,e2,dm,e3,dm]
 | list xs =>
  cases q;refine A5 (ak4 bD2 (ha ρ _ e1) (hl ρ y e2) (hh ρ z e3)) λσ H Q ⟨H0,Hf,s,sl,k⟩=>?_
  refine⟨H0,Hf,s,sl,λv H1 Hf1 g1 ⟨p,vs,q1,q2,q3⟩=>⟨H0,Hf1,g1.sub,sl.grow g1,λH2 Hf2 g2=>⟨H0,Hf2,g2.sub,sl.grow (g1.trans g2),λH3 Hf3 g3=>?_⟩⟩⟩;subst q1;have q2':=C7 (g2.trans g3).ext q2;have q3':=q3.mono (g2.trans g3).ext;refine⟨p,vs,rfl,C7 g3.sub q2',λp' hp=>?_⟩;exact k _ _ _ (((g1.trans g2).trans g3).trans (Grow.laid g3.sub hp)) ⟨p',_,rfl,SqL.of A7,(aB6 q3' y z).mono (D5 (g3.sub.free hp))⟩
 | _=>cases q
end
end G
namespace G
open PySem PySem.Spec PyProof.Rows L2
section
variable {X:Cx}
theorem at0:∀{ys:List Str}{us:List eU},C9 (ys.map V.str) us->∃l:List (Str×Tok),us=strValues l/\l.map (·.1)=ys
 | [],[],_=>⟨[],rfl,rfl⟩
 | y::ys,u::us,h=>by
  cases h with
  | cons a b =>
   obtain⟨t,rfl⟩:=a;obtain⟨l,rfl,rfl⟩:=at0 b;exact⟨(y,t)::l,rfl,rfl⟩
noncomputable def J7(sep:Str)(ys:List Str):Nat:=ys.toArray.foldl (λn y=>n+y.length+sep.length) 0
noncomputable def cr6(K:ag):V->List V->Hp->VK->Prop:=λx vs H Q=>∃sep p ys,x=.str sep/\vs=[.ref p]/\SqL K H p (ys.map V.str)/\J7 sep ys<=dP/\(Builtin.Str.glued sep ys).length<=dP/\Q (.str (Builtin.Str.glued sep ys)) H
theorem aS4:MtR X "str.join" (cr6 X.K):=by
 intro pins s σ H x vs v us Q I rx rv h;obtain⟨sep,p,ys,rfl,rfl,hq,hz,hg,q⟩:=h;obtain⟨t,rfl⟩:=rx;obtain⟨u,rfl,ru⟩:=rv.one;cases ru;obtain⟨its,r,pl,_⟩:=I.list hq;obtain⟨l,rfl,rfl⟩:=at0 r;refine eA F.slot_str_join (typeIs_str s sep t) F.entry_str_join (F.args_str_join_2 _ _) (meets_str_join_list sep t p l ?_) ⟨pl.isList,?_⟩
 ·show decide (J7 sep (l.map (·.1)) > dP)=false;exact decide_eq_false (by grind)
 ·match l,q,hg with
  | [],q,hg=>exact⟨hg,.str _,H,I.tok _,⟨_,rfl⟩,q⟩
  | [a],q,_=>exact⟨.str _,H,I,⟨_,rfl⟩,q⟩
  | a::b::r,q,hg=>exact⟨hg,.str _,H,I.tok _,⟨_,rfl⟩,q⟩
noncomputable def Y8:List D->Option (List Str)
 | []=>some []
 | .str x::r=>(Y8 r).map λys=>x::ys
 | _::_=>none
theorem i8{K:ag}{H:Hp}:∀{ds:List D}{ys:List Str}{vs:List V},Y8 ds=some ys->Reps K H ds vs->vs=ys.map V.str
 | [],ys,vs,h,r=>by cases h;exact r
 | .str x::ds,ys,vs,h,r=>by
  obtain⟨zs,e1,e2⟩:=af.mp h;subst e2;obtain⟨v,r',e,h1,h2⟩:=r;subst e;rw[i8 e1 h2];cases h1;rfl
noncomputable def d6(f:DE)(g:Rho->Option (Bool×List D)):DE:=λρ=>(f ρ).bind λs=>(g ρ).bind λq=>match s with
 | .str sep=>if q.1=true then none else(Y8 q.2).bind λys=>if J7 sep ys<=16777216/\(Builtin.Str.glued sep ys).length<=16777216 then some (.str (Builtin.Str.glued sep ys)) else none
 | _=>none
theorem bK1(ho:JE X o f)(h:JQ X e g)
  (hbase:eB o "join" X.env (eval o X.env)=eval o X.env:=by rfl)
  (hfew:((backTo cpos (dO [e] X.env)).all (λx=>!x.1)&&(backToKw cpos (keywordEach [] X.env)).all (λx=>x.1.isSome)
   && decide (([e]:List Expr).length+([]:List eh).length+(if([]:List eh).isEmpty then 0 else 1) < 30))=true:=by rfl)
  (hline:(apos.endLine==cpos.line)=true:=by rfl) (hs:dO [e] X.env=[(false,eval e X.env)]:=by rfl) :
  JE X (.Call (.Attribute o "join" apos) [e] [] cpos) (d6 f g):=λρ d q=>by
 obtain⟨s,e1,q⟩:=xbm q;obtain⟨⟨t,ds⟩,e2,q⟩:=xbm q;cases s with
 | str sep =>
  cases t with
  | true=>simp at q
  | false =>
   simp only[bi,if_false]at q;obtain⟨ys,e3,q⟩:=xbm q;split at q
   ·rename_i hz;cases q;refine A5 (ak5 F.plainAttrs_str F.slot_str_join F.type_str_join aS4 (ho ρ _ e1) (B6 (h ρ false ds e2) D3 hs) hbase hfew hline hs) λσ H Q ⟨H0,Hf,s,sl,k⟩=>?_
    refine⟨H0,Hf,s,sl,λv H1 Hf1 g1 r1=>?_⟩;cases r1;refine⟨rfl,H0,Hf1,g1.sub,sl.grow g1,λw H2 Hf2 g2 ⟨p,vs,z1,z2,z3⟩=>?_⟩;subst z1;rw[i8 e3 z3]at z2;exact⟨sep,p,ys,rfl,rfl,z2,by rw[dQ];exact hz.1,by rw[dQ];exact hz.2,k _ H2 Hf2 (g1.trans g2) rfl⟩
   ·cases q
 | _=>cases q
end
end G
namespace G
open PySem PySem.Spec PyProof.Rows L2
section
variable {X:Cx}
noncomputable def af1:D->Bool
 | .none=>true
 | .bool _=>true
 | .int _=>true
 | .str _=>true
 | _=>false
noncomputable def toV:D->V
 | .none=>.non
 | .bool b=>.bl b
 | .int i=>.int i
 | .str x=>.str x
 | _=>.non
theorem t9{K:ag}{H:Hp}{d:D}{v:V}(f:af1 d=true)(r:Rep K H d v):v=toV d/\bR3 v=true:=by
 cases d with
 | none=>cases r;exact⟨rfl,rfl⟩
 | bool b=>cases r;exact⟨rfl,rfl⟩
 | int i=>cases r;exact⟨rfl,rfl⟩
 | str x=>cases r;exact⟨rfl,rfl⟩
 | tuple _=>cases f
 | list _=>cases f
 | dict _=>cases f
theorem ap6{K:ag}{H:Hp}:∀{ds:List D}{vs:List V},ds.all af1=true->Reps K H ds vs->vs=ds.map toV/\vs.all bR3=true
 | [],vs,_,r=>by cases(show vs=[] from r);exact⟨rfl,rfl⟩
 | d::ds,vs,f,r=>by
  rw[aL,ah]at f;obtain⟨v,r',e,h1,h2⟩:=r;subst e;obtain⟨e1,e2⟩:=t9 f.1 h1;obtain⟨e3,e4⟩:=ap6 f.2 h2;subst e1 e3;exact⟨rfl,by rw[aL,e2,e4];rfl⟩
theorem bZ2:∀{vs:List eU}{ds:List D}{as:List eW},ReadsAll h vs ds as->vs.length=ds.length/\∀(j:Nat) (hj:j < vs.length),∃bs,Reads h vs[j] (ds.getD j .none) bs
 | [],_,_,r=>by cases r;exact⟨rfl,λj hj=>absurd hj (Nat.not_lt_zero _)⟩
 | v::vs,_,_,r=>by
  cases r with
  | cons r1 r2 =>
   obtain⟨h1,h2⟩:=bZ2 r2;refine⟨by rw[aI,aI,h1],λj hj=>?_⟩;cases j with
   | zero=>exact⟨_,r1⟩
   | succ j=>exact h2 j (by simpa using hj)
theorem bC0(hu:X.A.units+64 < cLine)(sx:eJ x=true)(dx:x.depth<=60)(sd:ds.all eJ=true)(I:L2.Inv X pins σ H s)(rx:C5 vx v)(ss:B0 Hf H)(r1:Rep X.K Hf x vx)(h2:SqT X.K Hf p vs)(h3:Reps X.K Hf ds vs):
  ∃its:List eU,IsTup s.heap p its.toArray/\its.length=ds.length/\∀j (h:j < its.toArray.size),SeqAt.EqAt X.A.in1 s its.toArray[j] v (eK (ds.getD j .none) x):=by
 obtain⟨its,rv,pl,_⟩:=I.tuple (C6 ss h2);obtain⟨as,rd⟩:=Rep.reads I (r1.mono ss) rx;obtain⟨bs,ra⟩:=Reps.reads I (h3.mono ss) rv;obtain⟨e1,e2⟩:=bZ2 ra;refine⟨its,pl,e1,λj hj=>?_⟩;have hj':j < its.length:=by simpa using hj
 obtain⟨cs,q⟩:=e2 j hj';have hd:j < ds.length:=by grind
 have sj:=aO.mp sd _ (cq hd);have ej:ds.getD j .none=ds[j]:=by simp[hd]
 rw[ej]at q ⊢;have:=SeqAt.eqAt_reads ds[j] x X.A.in1 s _ _ _ _ q rd (SeqAt.canLay_of_shaped sj) (SeqAt.canLay_of_shaped sx) (by show X.A.units+1+_ < _;have:=dl ds[j].depth x.depth;grind);simpa using this
end
end G
namespace G
open PySem PySem.Spec PyProof.Rows L2
section
variable {X:Cx}
theorem br9(Fk:FnOk X.prog X.w X.K X.mg X.base (CXb X.K X.prog X.w b) k f fd ps (spF X.K 0 F))(hq:Ps X b)(hr:Room k X.A)(hg:Gl X x)(hm:X.mg x=some (.ref f))(hk:aD X.K (.ref f)=true)(hb:E8 X.K fd ps [])
  (hdb:(x==("__debug__" : Str))=false:=by decide):JE X (.Call (.Name x p) [] [] pos) (A6 F A4):=λρ d q=>by
 have h2:F []=some d:=q;refine A5 (bk2 Fk hr hg hm hk hb .nil hq hdb) λσ H Q ⟨H0,Hf,s,sl,kk⟩=>?_
 exact⟨rfl,Hf,[],d,s,rfl,h2,λv H2 Hf2 g2 r2=>kk v H2 Hf2 g2 r2⟩
end
end G
namespace G
open PySem PySem.Spec PyProof.Rows L2
section
variable {K:PySem.W.Frag}
theorem aE0(i:Int)(t:Tok):bx4 K (.int i) (.int i t):=⟨.int i,⟨t,rfl⟩,λ_=>rfl⟩
end
end G
namespace G
open PySem PySem.Spec PyProof.Rows L2
theorem aC8(l:eW)(items:Array eU)(n:Nat)(dd:Option eW)(sl:Array (Option eU))(u:Tok):
  Meets (Builtin.«tuple.__mul__» ⟨[.ref l,.int 1 u],[]⟩) (λ_ R s=>s.heap.get? l=some ⟨.type "tuple", dd,.seq items n,sl⟩/\R (.ok (.ret (eP l))) s) :=
 .of_wp λprog w A R s h=>by
  obtain⟨hp,g,d,tk,os⟩:=s;obtain⟨hl,h⟩:=h
  wp_walk
  exact⟨_,rfl,h⟩
section
variable {X:Cx}
theorem bk7:OpR X (dZ .Mult) (λx y H Q=>∃l xs,x=.ref l/\y=.int 1/\SqT X.K H l xs/\Q (.ref l) H):=by
 intro pins s σ H x y v u Q I rx ry h;obtain⟨l,xs,rfl,rfl,hq,q⟩:=h;cases rx;obtain⟨t,rfl⟩:=ry;obtain⟨its,r,p1,_⟩:=I.tuple hq;obtain⟨⟨cls,dd,data,sl⟩,ho,hc,n,hd⟩:=id p1;simp only at hc hd;subst hc hd
 exact wpAny_binaryOp_repeat_ref (T := "tuple") (U := "int") (by decide) ⟨_,ho,rfl⟩ (λs'=>typeIs_int s' 1 t) ae3 F.fills_int_mul F.slot_int_rmul ap7 F.slot_int_index.lookup
  (eA F.slot_int_rmul (typeIs_int s 1 t) F.entry_int_rmul (F.args_int_rmul_2 _ _) (t7 1 t l its.toArray n dd sl) ⟨ho,rfl,⟨_,ho,rfl⟩,
   eA F.slot_tuple_mul ⟨_,ho,rfl⟩ F.entry_tuple_mul (F.args_tuple_mul_2 _ _) (aC8 l its.toArray n dd sl t) ⟨ho,⟨.ref l,H,I,rfl,q⟩⟩⟩)
theorem au0(a:Int)(t:Tok)(l:eW)(items:Array eU)(n:Nat)(dd:Option eW)(sl:Array (Option eU)):
  Meets (Builtin.«int.__rmul__» ⟨[.int a t,.ref l],[]⟩) (λ_ R s=>s.heap.get? l=some ⟨.type "list", dd,.seq items n,sl⟩/\R (.ok (.ret Value.notImplemented)) s):=Meets.of_wp λprog w A R s h=>by
 obtain⟨hp,g,d,tk,os⟩:=s;obtain⟨hl,h⟩:=h
 wp_walk
 exact⟨_,rfl,h⟩
theorem aD0(l:eW)(items:Array eU)(n:Nat)(dd:Option eW)(sl:Array (Option eU))(x:Int)(u:Tok)(c0:¬(!Builtin.List.listFitsIndex x)=true)(c1:¬items.size*x.toNat > (2 ^ 63 - 1) / 8)(c2:¬Builtin.List.listTooLong (items.size*x.toNat)=true):
  Meets (Builtin.«list.__mul__» ⟨[.ref l,.int x u],[]⟩) (λ_ R s=>s.heap.get? l=some ⟨.type "list", dd,.seq items n,sl⟩/\R (.ok (.ret (eP s.heap.objs.size))) { s with heap:=s.heap.push { cls:=Value.type "list", data:=Data.seq (cU (λx1 x2=>x1++x2) #[] (au (if items.isEmpty=true then 0 else x.toNat) items)) } }):=Meets.of_wp λprog w A R s h=>by
 obtain⟨hp,g,d,tk,os⟩:=s;obtain⟨hl,h⟩:=h;have hsz:=AutoListH.joined_fits c2
 wp_walk
 refine wpAny_ite_false (decide_eq_false (Nat.not_lt.mpr hsz)) ?_
 wp_walk
 exact⟨_,rfl,h⟩
theorem bH0:OpR X (dZ .Mult) (λx y H Q=>∃l k xs,x=.ref l/\y=.int k/\SqL X.K H l xs/\0<=k/\k < 1000000/\xs.length*k.toNat<=dP/\∀p,H p=none->Q (.ref p) (upd H p (.lst (au k.toNat xs).flatten))):=by
 intro pins s σ H x y v u Q I rx ry h;obtain⟨l,k,xs,rfl,rfl,hq,h1,h2,hz,q⟩:=h;cases rx;obtain⟨t,rfl⟩:=ry;obtain⟨its,r,p1,_⟩:=I.list hq;obtain⟨⟨cls,dd,data,sl⟩,ho,hc,n,hd⟩:=p1.isList;simp only at hc hd;subst hc hd;have hl:=r.length;have hlen:its.toArray.size*k.toNat<=dP:=by rw[av,← hl];exact hz
 have hcap:¬its.toArray.size*k.toNat > (2 ^ 63 - 1) / 8:=by
  have:(dP:Nat)<=(2 ^ 63 - 1) / 8:=by decide
  grind
 have hfit:¬(!Builtin.List.listFitsIndex k)=true:=by
  rw[fitsIndex_both (by grind) (by grind)];exact be
 have hlong:¬Builtin.List.listTooLong (its.toArray.size*k.toNat)=true:=by
  rw[bm3 hlen];exact be
 have hnew:cU (λx1 x2=>x1++x2) #[] (au (if its.toArray.isEmpty=true then 0 else k.toNat) its.toArray)=(au k.toNat its).flatten.toArray:=by
  rw[aI9];cases its with
  | nil=>simp
  | cons a r'=>rw[if_neg (by simp)]
 refine wpAny_binaryOp_repeat_ref (T := "list") (U := "int") (by decide) ⟨_,ho,rfl⟩ (λs'=>typeIs_int s' k t) noFill_list_mul F.fills_int_mul F.slot_int_rmul repeat_list F.slot_int_index.lookup
  (eA F.slot_int_rmul (typeIs_int s k t) F.entry_int_rmul (F.args_int_rmul_2 _ _) (au0 k t l its.toArray n dd sl) ⟨ho,rfl,⟨_,ho,rfl⟩,
   eA F.slot_list_mul ⟨_,ho,rfl⟩ F.entry_list_mul (F.args_list_mul_2 _ _) (aD0 l its.toArray n dd sl k t hfit hcap hlong) ⟨ho,?_⟩⟩)
 rw[hnew];exact⟨.ref _,_,I.lnew (t':=s.toks) (r.rep k.toNat) (by rw[av9,dt];exact hz),rfl,q _ I.fresh⟩
noncomputable def bh8(x:Str)(k:Nat):Str:=⟨(au k x.cps).foldl (·++·) #[]⟩
theorem bG8:OpR X (dZ .Mult) (λx y H Q=>∃z k,x=.str z/\y=.int k/\2<=k/\k<=1000/\1<=z.length/\z.length<=1000/\(bh8 z k.toNat).length<=dP/\Q (.str (bh8 z k.toNat)) H):=by
 intro pins s σ H x y v u Q I rx ry h;obtain⟨z,k,rfl,rfl,h1,h2,h3,h4,h5,q⟩:=h;obtain⟨t,rfl⟩:=rx;obtain⟨t2,rfl⟩:=ry;have m:=bL h4 (show k.toNat<=1000 by omega);refine PySem.P.mul_str (by rw[decide_eq_false (by omega),decide_eq_false (by omega)];rfl) (λ_ _=>?_) (λ_ _=>decide_eq_false (by rw[dQ];omega)) ?_
 ·have:(1000:Int)<=(2 ^ 63 - 1) / k:=Int.le_ediv_of_mul_le (by omega) (by omega);omega
 ·rw[if_neg (by omega),if_neg (by simp;omega)];exact⟨h5,.str (bh8 z k.toNat),H,I.tok _,⟨_,rfl⟩,q⟩
noncomputable def J3(x y:D):Option D:=match x,y with
 | .tuple xs,.int k=>if k=1 then some (.tuple xs) else X5 (.tuple xs) (.int k)
 | .list xs,.int k=>if 0<=k/\k < 1000000/\xs.length*k.toNat<=16777216 then some (.list (au k.toNat xs).flatten) else none
 | .str z,.int k=>if(2<=k/\k<=1000/\1<=z.length/\z.length<=1000)/\(bh8 z k.toNat).length<=16777216 then some (.str (bh8 z k.toNat)) else none
 | x,y=>X5 x y
theorem bH8:OpD X (dZ .Mult) J3:=λx y z h=>by
 unfold J3 at h;split at h
 ·split at h
  ·rename_i xs k c;subst c;cases h;refine OpR.imp bk7 λvx vy H Q ⟨Hf,s,r1,r2,kk⟩=>?_
   obtain⟨a,vs,rfl,h2,h3⟩:=r1;exact⟨a,vs,rfl,r2,C6 s h2,kk _ _ _ (Grow.refl s) ⟨a,vs,rfl,h2,h3⟩⟩
  ·exact av0 _ _ z h
 ·split at h
  ·rename_i xs k c;cases h;refine OpR.imp bH0 λvx vy H Q ⟨Hf,s,r1,r2,kk⟩=>?_
   obtain⟨a,vs,rfl,h2,h3⟩:=r1;refine⟨a,k,vs,rfl,r2,C7 s h2,c.1,c.2.1,by rw[h3.length,dQ];exact c.2.2,λp hp=>?_⟩;exact kk _ _ _ (Grow.laid s hp) ⟨p,_,rfl,SqL.of A7,(h3.flatten k.toNat).mono (D5 (s.free hp))⟩
  ·cases h
 ·split at h
  ·rename_i x k c;cases h;refine OpR.imp bG8 λvx vy H Q ⟨Hf,s,r1,r2,kk⟩=>?_
   cases r1;cases r2;exact⟨x,k,rfl,rfl,c.1.1,c.1.2.1,c.1.2.2.1,c.1.2.2.2,by rw[dQ];exact c.2,kk _ H Hf (Grow.refl s) rfl⟩
  ·cases h
 ·exact av0 _ _ z h
theorem U7(i j:Int):B8 (.int i) (.int j)=some (.int (i+j)):=rfl
noncomputable def D8:DS:=λ_=>none
theorem C3{st:Stmt}:JS X st D8:=λρ fl q=>by cases q
noncomputable def aH9(f:DE):Rho->Option Bool:=λρ=>(f ρ).bind d7
theorem bp4(o1:OpD X (dR op) h1)(o2:OpD X (dR op') h2)(ha:JE X a f)(hb:JE X b g)(hc:JE X c k)
  (hm:lastMarks [op,op'] [b,c]=false:=by with_unfolding_all rfl):JT X (.Compare a [op,op'] [b,c] pos) (aH9 (U6 h1 h2 f g k)):=λρ d q=>by
 obtain⟨dd,q,ed⟩:=xbm q;have ed:=aV8 ed;subst ed;obtain⟨x,e1,q⟩:=xbm q;obtain⟨y,e2,q⟩:=xbm q;obtain⟨z,e3,q⟩:=xbm q;split at q
 ·obtain⟨w,e4,e5⟩:=xbm q;refine X0 (aB8 (o1 x y _ e3) (o2 y w _ e5) (ha ρ x e1) (hb ρ y e2) (hc ρ w e4) hm) λσ H Q ⟨H0,Hf,s,sl,kk⟩=>?_
  refine⟨H0,Hf,s,sl,λv H1 Hf1 g1 r1=>⟨H0,Hf1,g1.sub,sl.grow g1,λu H2 Hf2 g2 r2=>⟨Hf2,g2.sub,r1.mono g2.ext,r2,λz' H3 Hf3 g3 r3=>?_⟩⟩⟩;refine⟨true,r3,v5 ⟨H0,Hf3,g3.sub,sl.grow ((g1.trans g2).trans g3),λw' H4 Hf4 g4 r4=>⟨Hf4,g4.sub,r2.mono (g3.trans g4).ext,r4,λz2 H5 Hf5 g5 r5=>?_⟩⟩⟩;exact⟨d,r5,kk H5 Hf5 ((((g1.trans g2).trans g3).trans g4).trans g5)⟩
 ·cases q;intro pins s σ H Q I ⟨H0,Hf,ss,sl,kk⟩;refine aB8 (tc:=λ_ _ _=>False) (r':=λ_ _ _ _=>False) (o1 x y _ e3) (λ_ _ _ _ _ _ _ _ _ _ _ _ h=>h.elim) (ha ρ x e1) (hb ρ y e2) (λ_ _ _ _ _ _ h=>h.elim) hm pins s σ H Q I ?_;refine⟨H0,Hf,ss,sl,λv H1 Hf1 g1 r1=>⟨H0,Hf1,g1.sub,sl.grow g1,λu H2 Hf2 g2 r2=>⟨Hf2,g2.sub,r1.mono g2.ext,r2,λz' H3 Hf3 g3 r3=>?_⟩⟩⟩;exact⟨false,r3,ag3 ⟨false,rfl,kk H3 Hf3 ((g1.trans g2).trans g3)⟩⟩
 ·cases q
end
end G
namespace G
open PySem PySem.Spec PyProof.Rows L2
theorem ba2(hh:A.handled=none)(t:Bool)(it l:eW)(hne:l≠it)(xs:Array eU):Draws prog w A it [it,l] xs.size (λi x=>xs[i]? = some x) (λi h=>SIt t h it l i/\SSq t h l xs):=by
 refine⟨λi h ⟨a,_⟩=>?_,λi h h' ⟨a,b⟩ k=>⟨a.ext λo e=>k it (by simp) o e,b.ext λo e=>k l (by simp) o e⟩,λi s Q E hi ⟨a,b⟩ hQ=>?_,λs Q E ⟨a,b⟩ hE=>aQ3 hh a b (by simp) hE⟩
 ·cases t with
  | true=>obtain⟨o,ho,_⟩:=a;exact⟨o,ho⟩
  | false=>obtain⟨o,ho,_⟩:=a;exact⟨o,ho⟩
 ·have hx:xs[i]? = some xs[i]:=by simp[hi]
  exact bh3 a b hx λh' c sb=>hQ _ h' s.toks hx ⟨c,b.ext λo e=>sb.extBut l o hne e⟩ sb
theorem aX3(l:eW)(items:Array eU)(n:Nat)(dd:Option eW)(sl:Array (Option eU)):
  Meets (Builtin.«enumerate.__new__» ⟨[.type "enumerate", .ref l],[]⟩) (λ_ R s=>s.heap.get? l=some ⟨.type "tuple", dd,.seq items n,sl⟩ /\
   R (.ok (.ret (.ref (s.heap.push (aq7 true l)).objs.size))) { s with heap:=(s.heap.push (aq7 true l)).push { cls:=.type "enumerate", data:=.fields #[.none,.bool false,.ref s.heap.objs.size,rawInt 0,.none,.none] } }):=Meets.of_wp λprog w A R s h=>by
 obtain⟨hp,g,d,tk,os⟩:=s;obtain⟨hl,h⟩:=h;have hsub:=sub_enumerate;have q1:SSq true (Shared.heap ⟨hp,g,d,tk,os⟩) l items:=⟨_,hl,rfl,n,rfl⟩
 wp_walk using AutoSeq1.wpAny_loadPart' hl
 refine wpAny_stack_any λst=>dI ?_
 split
 ·rename_i c _ _ _ _ _;cases(c==Value.type "enumerate")
  ·wp_walk using AutoSeq1.wpAny_loadPart' hl,aj5 q1
   exact⟨_,rfl,h⟩
  ·wp_walk using AutoSeq1.wpAny_loadPart' hl,aj5 q1
   exact⟨_,rfl,h⟩
 ·wp_walk using AutoSeq1.wpAny_loadPart' hl,aj5 q1
  exact⟨_,rfl,h⟩
section
variable {prog:Program}{w:World}{A:Around}{E:Value->Shared->Prop}{s:Shared}{t:Bool}
theorem aI6(hl:SSq t s.heap l xs)
  (h:∀h',IsEnum h' (s.heap.objs.size+1) s.heap.objs.size 0 .none->SIt t h' s.heap.objs.size l 0->(∀c o,s.heap.get? c=some o->h'.get? c=some o)->Q (.ref (s.heap.objs.size+1)) { s with heap:=h' }) :
  eD (eE prog w) A (call (.type "enumerate") [.ref l]) Q E s:=by
 cases t with
 | false=>exact call_enumerate_list hl λh' a b _ d=>h h' a b d
 | true =>
  obtain⟨⟨cls,dd,data,sl⟩,ho,hc,n,hd⟩:=hl;simp only at hc hd;subst hc hd;refine callType_new F.called_enumerate (by decide) (F.typeCall_enumerate_1 _) (F.newCall_enumerate_1 _) (λobj=>F.args_object_init_2 obj _) F.entry_enumerate_new (aX3 l xs n dd sl) ⟨ho,?_⟩;have z1:(s.heap.push (aq7 true l)).objs.size=s.heap.objs.size+1:=Heap.size_push ..;show _/\_;rw[z1];have he:=eI (s.heap.push (aq7 true l)) (o:={ cls:=.type "enumerate", data:=.fields #[.none,.bool false,.ref s.heap.objs.size,rawInt 0,.none,.none] }) rfl;rw[z1]at he;exact⟨⟨_,he,rfl⟩,h _ he ((bD4 (h:=s.heap) (l:=l) true).ext λo e=>eF _ e) λc o e=>eF _ (eF _ e)⟩
theorem ba1(hh:A.handled=none)(he:IsEnum s.heap e it i old)(hit:SIt t s.heap it l k)(hl:SSq t s.heap l xs)(hx:xs[k]? = none)
  (hQ:∀h',Heap.ExtBut it s.heap h'->Q none { s with heap:=h' }):eD (eE prog w) A (pyNext (.ref e)) Q E s:=by
 have hT:s.TypeIs (.ref e) "enumerate" := ⟨_,he,rfl⟩;unfold pyNext;refine dH (wpAny_attempt (wpAny_callSpecial?_slot (name:=Str.ofString "__next__") hT F.slot_enumerate_next (wpAny_call_entry F.slot_enumerate_next hT F.entry_enumerate_next ?_ (F.args_enumerate_next_1 _))));show eD _ _ (field (.ref e) 2 >>= _) _ _ _;refine dH (dN he rfl (x:=.ref it) rfl (dH (aQ3 hh hit hl hx λh' x he' hx'=>?_)));obtain⟨o,ho,hc⟩:=hx';exact dH (wpAny_isInstance (T := "StopIteration") (b:=true) ⟨o,ho,hc⟩ isSubtype_stop (dI (hQ _ he')))
end
noncomputable def Ite(K:ag)(t:Bool)(a:eW):It :=
  ⟨λi H=>∃xs x,Sq K t H a xs/\xs[i]? = some x,
   λi H v H'=>∃T x,v=.ref T/\H T=none/\H'=upd H T (.tup [.int i,x])/\∀xs,Sq K t H a xs->xs[i]? = some x,
   λi H=>∃xs,Sq K t H a xs/\xs.length<=i⟩
theorem aX1{P:dU}{w:World}{K:ag}{elts:List Expr}{k0:Nat}{pos:Pos}{t:Bool}{e it a:eW}(h1:e≠it)(h2:a≠e)(h3:a≠it):
  Turn P w K (.Tuple elts k0 pos) (Ite K t a) [e,it] e (λi h=>(∃old,IsEnum h e it i old)/\SIt t h it a i) where
 mem:=by simp
 obj:=λi h ⟨⟨old,he⟩,hi⟩ c hc=>by
  simp only[ax,aS,or_false]at hc;rcases hc with rfl|rfl
  ·exact⟨_,he,λv q=>by cases q⟩
  ·cases t with
   | true=>obtain⟨o,ho,_,hd⟩:=hi;exact⟨o,ho,λv q=>by rw[hd]at q;cases q⟩
   | false=>obtain⟨o,ho,_,hd⟩:=hi;exact⟨o,ho,λv q=>by rw[hd]at q;cases q⟩
 keep:=λi h h' ⟨⟨old,he⟩,hi⟩ hk=>⟨⟨old,hk e (by simp) _ he⟩,hi.ext λo q=>hk it (by simp) o q⟩
 item:=by
  intro X hP hw hK hc i pins s σ H E I hf ⟨⟨old,he⟩,hi⟩ hg;subst hP hw hK;obtain⟨xs,x,q1,ex⟩:=hg;obtain⟨us,r1,p1,lt1⟩:=at3 I q1;obtain⟨ux,eux,rx⟩:=r1.get ex;have hlt:i < us.toArray.size:=by rw[av];exact(ao.mp eux).1
  refine wpAny_pyNext_enum_itemD (ba2 (A:=X.A.in1) (I.ok.hd hc) t it a h3 us.toArray) he ⟨hi,p1⟩ hlt h1 (by simp only[ax,aS,or_false,not_or];exact⟨h1,λz=>h2 z.symm⟩) λy h' tk hy ho hst hT hsz hk=>⟨_,rfl,wpAny_letOwnedTupleGo_enum ho λh'' c1 c2=>?_⟩
  have ey:y=ux:=by
   have:us[i]? = some y:=by simpa using hy
   rw[eux]at this;exact(bg.inj this).symm
  subst ey;have neT:∀c o,s.heap.get? c=some o->c≠s.heap.objs.size:=λc o q=>aK (eG q)
  have up:∀c o,c≠e->h'.get? c=some o->h''.get? c=some o:=λc o n q=>c2.extBut c o n q
  refine⟨.ref s.heap.objs.size,upd H s.heap.objs.size (.tup [.int i,x]),ag4 (s:=s) (h':=h'') (t':=tk+1) (ch:=[e,it]) I hf (aj _) (λc u hc q=>?_) ?_,rfl,⟨_,x,rfl,I.hok.fresh (aj _),rfl,λzs hz'=>by rw[bY2 I hz' q1];exact ex⟩,⟨⟨_,by simpa using c1⟩,hst.1.ext λo q=>up it o h1.symm q⟩,λc hc=>?_⟩
  ·simp only[ax,aS,or_false,not_or]at hc;exact up c u hc.1 (hk c u hc.1 hc.2 q)
  ·refine⟨by show 2<=dP;decide,[.int i tk,y],.cons ⟨tk,rfl⟩ (.cons rx .nil),_,up _ _ ?_ hT,rfl,⟨_,rfl⟩,rfl⟩;exact λq=>neT e _ he q.symm
  ·have lt:c < s.heap.objs.size:=by
    simp only[ax,aS,or_false]at hc;rcases hc with rfl|rfl
    ·exact eG he
    ·exact hi.lt
   rw[A9 (aK lt)];exact(hf c hc).1
 done:=by
  intro X hP hw hK hc i pins s σ H E I hf ⟨⟨old,he⟩,hi⟩ hg;subst hP hw hK;obtain⟨xs,q1,hl⟩:=hg;obtain⟨us,r1,p1,lt1⟩:=at3 I q1;have l1:=r1.length;refine ba1 (I.ok.hd hc) he hi p1 (by simp;grind) λh' hk=>⟨rfl,al7 (t':=s.toks) (ch:=[e,it]) I hf λc u hc q=>?_⟩
  simp only[ax,aS,or_false,not_or]at hc;exact hk c u hc.2 q
 self:=λ_ _ _ _ _ st h=>by
  obtain⟨⟨old,he⟩,_⟩:=st;exact wpAny_pyIter_enum he h
section
variable {X:Cx}
noncomputable def ar3(ds:List D):List D:=(aZ ds.length).zip ds |>.map λ(k,d)=>PyData.tuple [.int (k:Nat),d]
noncomputable def bs8(f:Rho->Option (Bool×List D)):Rho->Option (List D):=λρ=>(f ρ).map λq=>ar3 q.2
theorem bu6(ds:List D)(i:Nat):(ar3 ds)[i]? = (ds[i]?).map λd=>.tuple [.int i,d]:=by
 unfold ar3;rw[aF];cases e:ds[i]? with
 | none =>
  have:ds.length<=i:=by simpa using e
  have z:((aZ ds.length).zip ds)[i]? = none:=by simp;omega
  rw[z];rfl
 | some d =>
  have hi:=(ao.mp e).1;have z:((aZ ds.length).zip ds)[i]? = some (i,d):=bJ.mpr ⟨by simp[hi],e⟩;rw[z];rfl
theorem bu5(ds:List D):(ar3 ds).length=ds.length:=by unfold ar3;simp
theorem az9{K:ag}{t:Bool}{a:eW}{vs:List V}{ds:List D}{Hf1:Hp}(h1:Sq K t Hf1 a vs)(r1:Reps K Hf1 ds vs):az5 K (Ite K t a) (ar3 ds) Hf1:=by
 have mono:∀{t:Bool}{a:eW}{xs:List V}{H H':Hp},B0 H H'->Sq K t H a xs->Sq K t H' a xs:=λ{t a xs H H'} e h=>by
  cases t with
  | true=>exact C6 e h
  | false=>exact C7 e h
 intro i H Hf sa sb;have m1:=mono (sa.trans sb) h1;have l1:=r1.length;refine⟨λhi=>⟨vs,m1,by rw[bu5]at hi;grind⟩,λd hd=>?_⟩;rw[bu6]at hd;obtain⟨x,q1,q2⟩:=af.mp hd;subst q2;obtain⟨vx,e1,e2⟩:=r1.get q1;refine⟨⟨vs,vx,m1,e1⟩,λv H' ⟨T,x',z1,z2,z3,z4⟩=>?_⟩;subst z1 z3;have w1:=z4 vs m1;rw[e1]at w1;cases w1;have nf:Hf T=none:=sb.free z2;exact⟨upd Hf T (.tup [.int i,vx]),Grow.laid sb z2,T,[.int i,vx],rfl,SqT.of A7,.int i,[vx],rfl,rfl,vx,[],rfl,(e2.mono sa).mono (D5 nf),rfl⟩
theorem bJ7{elts:List Expr}{k0:Nat}{tpos:Pos}{a:Expr}{f:DE}{p pos:Pos}(hg:Gl X "enumerate")(hm:X.mg "enumerate" = none)(ha:JE X a f)(hs:dO [a] X.env=[(false,eval a X.env)]:=by rfl):
  JI X (.Tuple elts k0 tpos) (.Call (.Name "enumerate" p) [a] [] pos) (bs8 (qE f)):=λρ out q=>by
 obtain⟨⟨t1,ds⟩,e1,q⟩:=af.mp q;subst q;obtain⟨d1,e1,e1'⟩:=xbm e1;intro pins s σ H R I ⟨H0,Hf,ss,sl,k⟩
 refine Call_ (ac2 I hg hm rfl (PyProof.Rows.callWith_type1 (thn (B6 (ha ρ d1 e1) D3 (by rw[hs];rfl) pos pins s σ H
  (λvs H'=>∃v Hf',vs=[v]/\Grow H Hf H' Hf'/\Rep X.K Hf' d1 v) I ⟨H0,Hf,ss,sl,λv H1 Hf1 g1 r1=>⟨v,Hf1,rfl,g1,r1⟩⟩) λus s1 ⟨vs,H1,I1,r1,v,Hf1,ev,gr,p1⟩=>?_) (by rw[hs];rfl) (by rfl)))
 subst ev;obtain⟨uv,rfl,rv⟩:=r1.one;obtain⟨a1,vs1,rfl,w1,w2⟩:=p1.seq (B0.refl Hf1) e1';cases rv
 have mono:∀{t:Bool}{a:eW}{xs:List V}{H H':Hp},B0 H H'->Sq X.K t H a xs->Sq X.K t H' a xs:=λ{t a xs H H'} e h=>by
  cases t with
  | true=>exact C6 e h
  | false=>exact C7 e h
 obtain⟨us1,rr1,hp1,lt1⟩:=at3 I1 (mono gr.sub w1);refine aI6 hp1 λh' b1 b2 b3=>?_
 have I2:Inv X pins σ H1 { s1 with heap:=h' }:=I1.kept (t':=s1.toks) b3;refine wpAny_pyIter_enum b1 ⟨_,_,_,_,H1,rfl,I2,aX1 (e:=s1.heap.objs.size+1) (it:=s1.heap.objs.size) (a:=a1) (Nat.succ_ne_self _) (aK (Nat.lt_succ_of_lt lt1)) (aK lt1),⟨⟨_,b1⟩,b2⟩,λb hb=>?_,k _ H1 Hf1 gr (az9 w1 w2)⟩
 have hb':s1.heap.objs.size<=b:=by
  simp only[ax,aS,or_false]at hb;rcases hb with rfl|rfl
  ·exact Nat.le_add_right _ _
  ·exact aj _
 exact I1.fpOk hb' (I1.hok.fresh hb')
end
end G
namespace G
open PySem PySem.Spec PyProof.Rows L2
section
variable {X:Cx}
theorem bJ1(i:Nat)(hN:X.N.Nodup)(S:CompSc X N' n caps scope)(hu:ub=true->Th X)
  (hi:JI X tgt iter src) (hg:∀C s0 H0 ex,JG (B3 ub X N' scope C s0 H0 ex) tgt g) (ht:∀C s0 H0 ex,JTs (B3 ub X N' scope C s0 H0 ex) ifs c) (he:∀C s0 H0 ex,JE (B3 ub X N' scope C s0 H0 ex) elt e)
  (hi2:X.N[i]? = some x:=by rfl) (hl:X.env.scope.names.lookup x=some .local:=by rfl) (hsw:swapsWith (.ListComp elt [⟨tgt,iter,ifs,0⟩] scope pos) (some (.Name x pos')) spos.line X.env=pure true:=by rfl)
  (hc:X.calm=true:=by rfl) (hs:∀x,em iter X.env x=pure x:=by intro _;rfl):JS X (.Assign [.Name x pos'] (.ListComp elt [⟨tgt,iter,ifs,0⟩] scope pos) spos) (aX5 i (E4 n caps src g c e)):=λρ fl q H0 Hf0=>by
 obtain⟨out,e1,e2⟩:=af.mp q;subst e2;obtain⟨ds,e3,k⟩:=X7 (K:=X.K) e1;refine D0 (X1 S hu hc hN hi2 hl (hi ρ ds e3) (g:=tgJ X.K g) (tc:=t5 X.K c) (te:=aA8 X.K e) hg ht (λC s0 H0 ex pins s σ H Q I ⟨ρ,d,e,t⟩=>he C s0 H0 ex ρ d e pins s σ H Q I t) hsw hs) λEn σ H ⟨Hf,a,ee⟩=>k σ H _ ⟨H0,Hf,a.gr.sub,a.sl,λv H' Hf' gg ⟨p,vs,z1,z2,z3,z4,z5⟩=>?_⟩
 subst z1;exact ee _ H' Hf' ⟨a.gr.trans gg,a.sl.setOwn gg (a.gr.big.free z2) z2 z3 z4 z5⟩ gg.ext
end
end G
namespace G
open PySem PySem.Spec PyProof.Rows L2
section
variable {X:Cx}
noncomputable def cr3(x:Str)(k:Int):Str:=if(k==1 || x.length==0)=true then x else⟨(au k.toNat x.cps).foldl (·++·) #[]⟩
noncomputable def cF1(x y:D):Option D:=match x,y with
 | .str x,.int k=>if 1<=k/\k<=2/\x.length<=1000/\(cr3 x k).length<=16777216 then some (.str (cr3 x k)) else none
 | _,_=>none
noncomputable def slS(x:Str)(lo hi:Option Int):Str:=if((1:Int)==1&&(Builtin.Str.strSliceIndices lo hi 1 x.length).length==x.length)=true then x else⟨((Builtin.Str.strSliceIndices lo hi 1 x.length).filterMap (x.cps[·]?)).toArray⟩
noncomputable def ac9(f:DE)(lo hi:Rho->Option (Option Int)):DE:=λρ=>(f ρ).bind λd=>(lo ρ).bind λl=>(hi ρ).bind λh=>match d with
 | .str x=>if x.length<=1000/\(slS x l h).length<=16777216 then some (.str (slS x l h)) else none
 | _=>none
theorem aR7(h:IsPart u o):∃p:Option (Int×Tok),u=partValue p/\p.map (·.1)=o:=by
 cases h with
 | none=>exact⟨none,rfl,rfl⟩
 | int i t=>exact⟨some (i,t),rfl,rfl⟩
theorem bD1:SlR X (λx lo hi H Q=>∃z,x=.str z/\(slS z lo hi).length<=16777216/\Q (.str (slS z lo hi)) H):=by
 intro pins s σ H x v vl vu lo hi sl Q I rx hs pl pu h;obtain⟨z,rfl,hz,q⟩:=h;obtain⟨t,rfl⟩:=rx;obtain⟨pl',rfl,rfl⟩:=aR7 pl;obtain⟨pu',rfl,rfl⟩:=aR7 pu;refine⟨"str", _,F.slot_str_getitem.lookup,typeIs_str s z t,wpAny_getItem_str_slice (l:=pl') (u:=pu') (st:=none) hs rfl ?_⟩;show(if((1:Int)==1&&(Builtin.Str.strSliceIndices (pl'.map (·.1)) (pu'.map (·.1)) 1 z.length).length==z.length)=true then Made.val (.str z t) else Made.str ⟨((Builtin.Str.strSliceIndices (pl'.map (·.1)) (pu'.map (·.1)) 1 z.length).filterMap (z.cps[·]?)).toArray⟩).post _ _;unfold slS at q hz;by_cases e:((1:Int)==1&&(Builtin.Str.strSliceIndices (pl'.map (·.1)) (pu'.map (·.1)) 1 z.length).length==z.length)=true
 ·rw[if_pos e]at q ⊢;exact⟨.str z,H,I,⟨_,rfl⟩,q⟩
 ·rw[if_neg e]at q hz ⊢;exact⟨by rw[dQ];exact hz,.str _,H,I.tok _,⟨_,rfl⟩,q⟩
theorem ci3{a:Expr}{lo hi:Option Expr}{f:DE}{l h:Rho->Option (Option Int)}{pos p2:Pos}(ha:JE X a f)(hl:JO X lo l)(hh:JO X hi h):JE X (.Subscript a (.Slice lo hi none p2) pos) (ac9 f l h):=λρ d q=>by
 obtain⟨x,e1,q⟩:=xbm q;obtain⟨y,e2,q⟩:=xbm q;obtain⟨z,e3,q⟩:=xbm q;cases x with
 | str x =>
  simp only at q;split at q
  ·rename_i c;cases q;refine A5 (ak4 bD1 (ha ρ _ e1) (hl ρ y e2) (hh ρ z e3)) λσ H Q ⟨H0,Hf,s,sl,k⟩=>?_
   refine⟨H0,Hf,s,sl,λv H1 Hf1 g1 r1=>⟨H0,Hf1,g1.sub,sl.grow g1,λH2 Hf2 g2=>⟨H0,Hf2,g2.sub,sl.grow (g1.trans g2),λH3 Hf3 g3=>?_⟩⟩⟩;exact⟨x,r1,c.2,k _ H3 Hf3 ((g1.trans g2).trans g3) rfl⟩
  ·cases q
 | _=>cases q
end
end G
namespace G
open PySem PySem.Spec PyProof.Rows L2
section
variable {X:Cx}
noncomputable def bI2(f g:Rho->Option (Bool×List D)):Rho->Option (List D):=λρ=>(f ρ).bind λp=>(g ρ).bind λq=>if p.1=false/\q.1=false/\p.2.length+q.2.length<=16777216 then some (p.2++q.2) else none
theorem ch8(ha:JQ X a f)(hb:JQ X b g):JN X (.BinOp a .Add b pos) (bI2 f g):=λρ out q=>by
 obtain⟨⟨t1,xs⟩,e1,q⟩:=xbm q;obtain⟨⟨t2,ys⟩,e2,q⟩:=xbm q;split at q
 ·rename_i c;obtain⟨c1,c2,c3⟩:=c;simp only at c1 c2 c3;subst c1 c2;cases q;refine A5 (bj3 aR9 (ha ρ _ _ e1) (hb ρ _ _ e2)) λσ H Q ⟨H0,Hf,s,sl,k⟩=>?_
  refine⟨H0,Hf,s,sl,λv H1 Hf1 g1 ⟨p,vs,z1,z2,z3⟩=>⟨H0,Hf1,g1.sub,sl.grow g1,λu H2 Hf2 g2 ⟨p',us,z1',z2',z3'⟩=>?_⟩⟩;subst z1 z1';refine⟨p,p',vs,us,rfl,rfl,C7 g2.big z2,z2',by rw[z3.length,z3'.length,dQ];exact c3,λn hn=>?_⟩;exact k _ _ _ ((g1.trans g2).trans (Grow.made g2.sub hn)) ⟨n,vs++us,rfl,(g1.trans g2).big.free hn,A7,g2.sub.free hn,(z3.mono g2.ext).append z3'⟩
 ·cases q
end
end G
namespace G
open PySem PySem.Spec PyProof.Rows L2
end G
namespace G
open PySem PySem.Spec PyProof.Rows L2
end G
namespace G
open PySem PySem.Spec PyProof.Rows L2
end G
namespace G
open PySem PySem.Spec PyProof.Rows L2
section
variable {X:Cx}
noncomputable def bL2(x y:Str):Bool:=!(Builtin.Str.occurrences y x 0 y.length 1).isEmpty
noncomputable def inS(neg:Bool)(x y:D):Option D:=match x,y with
 | .str i,.str j=>some (.bool (if neg then !bL2 i j else bL2 i j))
 | _,_=>none
theorem cd5:OpD X (dR .In) (inS false):=λx y z h=>by
 cases x<;>cases y<;>first|(cases h;done)|skip
 rename_i i j;cases h;refine OpR.imp aX8 λvx vy H Q ⟨Hf,s,rx,ry,k⟩=>?_
 cases rx;cases ry;exact⟨i,j,rfl,rfl,k _ H Hf (Grow.refl s) rfl⟩
theorem aY2:OpD X (dR .NotIn) (inS true):=λx y z h=>by
 cases x<;>cases y<;>first|(cases h;done)|skip
 rename_i i j;cases h;refine OpR.imp au8 λvx vy H Q ⟨Hf,s,rx,ry,k⟩=>?_
 cases rx;cases ry;exact⟨i,j,rfl,rfl,k _ H Hf (Grow.refl s) rfl⟩
noncomputable def V3(f:DE):DE:=λρ=>(f ρ).bind λd=>match d with
 | .str x=>if x.length<=16777216 then some (.int x.length) else none
 | _=>none
theorem bK0(hg:Gl X "len")(hm:X.mg "len" = none)(h:JE X e f)(he:dO [e] X.env=[(false,eval e X.env)]):JE X (.Call (.Name "len" p) [e] [] pos) (V3 f):=λρ d q=>by
 obtain⟨y,h1,h2⟩:=xbm q
 obtain⟨x,rfl⟩:∃x,y=.str x:=by
  cases y with
  | str x=>exact⟨x,rfl⟩
  | _=>cases h2
 have h2:(if x.length<=16777216 then some (eL x.length) else none)=some d:=h2;split at h2
 ·rename_i hz;cases h2;refine A5 (J1 ay7 hg hm aM9 (B6 (h ρ _ h1) D3 he) (he:=he)) λσ H Q ⟨H0,Hf,s,sl,k⟩=>?_
  refine⟨H0,Hf,s,sl,λv H1 Hf1 g1 r=>⟨x,?_,by rw[dQ];exact hz,k _ H1 Hf1 g1 rfl⟩⟩;cases r;rfl
 ·cases h2
noncomputable def Its(x:Str):It:=⟨λi _=>i < x.cps.size,λi H v H'=>H'=H/\∃c,x.cps[i]? = some c/\v=.str ⟨#[c]⟩,λi _=>x.cps.size<=i⟩
theorem bf4{P:dU}{w:World}{K:ag}{tg:Expr}(x:Str)(t:Tok)(it:eW):Turn P w K tg (Its x) [it] it (λi h=>h.IsStrIter it "str_ascii_iterator" x t i) where
 mem:=by simp
 obj:=λi h st b hb=>by
  have e:b=it:=by simpa using hb
  subst e;obtain⟨o,e,c,d⟩:=st;exact⟨o,e,λv z=>by rw[d]at z;cases z⟩
 keep:=λi h h' st k=>by
  obtain⟨o,e,r⟩:=st;exact⟨o,k it (by simp) o e,r⟩
 item:=by
  intro X hP hw hK hc i pins s σ H E I hf st hg;subst hP hw hK;obtain⟨f0,f1,f2,f3,f4,f5⟩:=hf it (by simp);have hi:i < x.cps.size:=hg;refine wpAny_pyNext_ascii_item st (c:=x.cps[i]) (by simp[hi]) λh' st' sb=>?_
  have I1:Inv X pins σ H { s with heap:=h',toks:=s.toks+1 }:=I.turned (t':=s.toks+1) (λb o hb e=>(sb.2 b hb).trans e) f0 f1 f3 f4 f5;obtain⟨o,e,c,d⟩:=id st';exact⟨_,rfl,aU0 (s:={ s with heap:=h',toks:=s.toks+1 }) e c d (by decide) ⟨.str ⟨#[x.cps[i]]⟩,H,I1,⟨_,rfl⟩,⟨rfl,_,by simp[hi],rfl⟩,st',λb hb=>(hf b hb).1⟩⟩
 done:=by
  intro X hP hw hK hc i pins s σ H E I hf st hg;subst hP hw hK;obtain⟨f0,f1,f2,f3,f4,f5⟩:=hf it (by simp);have hi:x.cps.size<=i:=hg;exact wpAny_pyNext_ascii_end (I.ok.hd hc) st (by simp[hi]) λh' eb=>⟨rfl,I.turned (t':=s.toks) (λb o hb e=>eb b o hb e) f0 f1 f3 f4 f5⟩
 self:=λ_ _ _ _ _ st h=>wpAny_pyIter_striter_ascii st h
noncomputable def aB3(x:Str):List D:=x.cps.toList.map λc=>.str ⟨#[c]⟩
noncomputable def bs7(f:DE):Rho->Option (List D):=λρ=>(f ρ).bind λd=>match d with
 | .str x=>if x.cps.all (· < 128)=true then some (aB3 x) else none
 | _=>none
theorem ci1{tg e:Expr}{f:DE}(h:JE X e f):JI X tg e (bs7 f):=λρ ds q=>by
 obtain⟨d,e1,e2⟩:=xbm q
 obtain⟨x,rfl⟩:∃x,d=.str x:=by
  cases d with
  | str x=>exact⟨x,rfl⟩
  | _=>cases e2
 have e2:(if x.cps.all (· < 128)=true then some (aB3 x) else none)=some ds:=e2;split at e2
 ·rename_i ha;cases e2;intro pins s σ H R I ⟨H0,Hf,ss,sl,k⟩;refine thn (h ρ _ e1 pins s σ H (λv H'=>∃Hf',Grow H Hf H' Hf'/\v=.str x) I ⟨H0,Hf,ss,sl,λv H' Hf' g r=>⟨Hf',g,r⟩⟩) λv s1 ⟨y,H1,I1,r1,Hf1,g1,ey⟩=>?_
  subst ey;obtain⟨t,rfl⟩:=r1;refine wpAny_pyIter_ascii ha ?_;have I2:Inv X pins σ H1 { s1 with heap:=s1.heap.push { cls:=.type "str_ascii_iterator", data:=.fields #[.str x t,.int 0 0] } }:=I1.kept (t':=s1.toks) λb u e=>eF _ e
  refine⟨_,_,_,Its x,H1,rfl,I2,bf4 x t s1.heap.objs.size,⟨_,eI _ rfl,rfl,rfl⟩,λb hb=>?_,k _ H1 Hf1 g1 λi H' Hf' sa sb=>⟨λhi=>?_,λd hd=>?_⟩⟩
  ·have hb':s1.heap.objs.size<=b:=by rw[aN]at hb;rw[hb];exact aj _
   exact I1.fpOk hb' (I1.hok.fresh hb')
  ·show x.cps.size<=i;simpa [aB3] using hi
  ·unfold aB3 at hd;rw[aF]at hd;obtain⟨c,c1,c2⟩:=af.mp hd;have c1':x.cps[i]? = some c:=by rw[← bK];exact c1
   refine⟨(bT.mp c1').1,λv H'' ⟨h1,c',h2,h3⟩=>?_⟩;subst h1 h3 c2;rw[c1']at h2;cases h2;exact⟨Hf',Grow.refl sb,rfl⟩
 ·cases e2
end
end G
namespace G
open PySem PySem.Spec PyProof PyProof.Rows L2
end G
namespace G
open PySem PySem.Spec PyProof.Rows L2
section
variable {X:Cx}
theorem ty1(I:Inv X pins σ H s)(hg:Gl X x)(hm:X.mg x=none)(hv:dY x=some (.type T))(hn:x ≠ "__name__")(hd:(x==("__debug__" : Str))=false)
  (hs:dO [a] X.env=[(false,eval a X.env)]) (h:eD (eE X.prog X.w) X.A (eval a X.env) (λv s1=>eD (eE X.prog X.w) X.A (call (.type T) [v]) Q E s1) E s):eD (eE X.prog X.w) X.A (eval (.Call (.Name x p) [a] [] pos) X.env) Q E s:=by
 refine Call_ (ac2 I hg hm hv (PyProof.Rows.callWith_type1 ?_ (by rw[hs];rfl) (by rfl)) hn hd);rw[hs];exact Calls.spliced_cons (thn h λv s1 q=>Calls.spliced_nil q)
end
end G
namespace G
open PySem PySem.Spec PyProof.Rows L2
section
open PySem.SeqAt PySem.MeetsSeq PySem.MeetsSeq2 PySem.MeetsSeq3 PySem.SeqRoads2
open PySem.AutoSeq1 (wpAny_loadPart')
theorem aH7(l:eW)(items:Array eU)(n:Nat)(dd:Option eW)(sl:Array (Option eU))(x:eU)(e:Nat->Bool)(j:Nat)(hj:j < items.size)(hit:e j=true)(hno:∀m,m < j->e m=false):
  Meets (Builtin.«tuple.index» ⟨[.ref l,x],[]⟩)
   (λA R s=>s.heap.get? l=some { cls:=.type "tuple", dict:=dd,data:=.seq items n,slots:=sl }/\(∀j (h:j < items.size),EqAt A.in1 s items[j] x (e j))/\R (.ok (.ret (.int j s.toks))) { s with toks:=s.toks+1 }) :=
 .of_wp λprog w A R s h=>by
  obtain⟨hp,g,d,tk,os⟩:=s;obtain⟨hl,he,h⟩:=h;unfold Builtin.«tuple.index»;simp only[Std.Legacy.Range.forIn_eq_forIn_range']
  wp_walk using wpAny_loadPart' hl,wpAny_forIn_list _ (λP0 b s'=>b.1=none/\s'=⟨hp,g,d,tk,os⟩/\∃i,i<=j/\P0=List.range' i (items.size - i)) _
  case turn =>
   rintro y P0 b s' ⟨hb,rfl,i,hij,hz⟩
   obtain⟨m,hm⟩:∃m,items.size - i=m+1:=⟨items.size - i - 1,by grind⟩;rw[hm,dn]at hz;injection hz with hy hrest
   subst hy;have hi:y < items.size:=by grind
   have e1:items[y]? = some items[y]:=by simp[hi]
   rw[e1];refine dH (he y hi prog w _ _ ?_);rcases bD y j with q|q
   ·rw[hno y q]
    wp_walk
    exact⟨rfl,rfl,y+1,q,by rw[hrest];congr 1;grind⟩
   ·have:y=j:=by grind
    subst this;rw[hit]
    wp_walk
    exact⟨_,rfl,h⟩
  case fin =>
   rintro⟨b1,b2⟩ s' ⟨hb,rfl,i,hij,hz⟩
   exfalso
   have:items.size - i=0:=by
    cases q:items.size - i with
    | zero=>rfl
    | succ m=>rw[q,dn]at hz;cases hz
   grind
  case h =>
   refine⟨rfl,rfl,0,aU _,?_⟩;simp[Std.Legacy.Range.size]
end
section
variable {X:Cx}
noncomputable def cB9(X:Cx)(ds:List D)(x:D)(j:Nat):V->List V->Hp->VK->Prop:=λvt vs H Q=>∃Hf vx,vs=[vx]/\B0 Hf H/\Rep X.K Hf (.tuple ds) vt/\Rep X.K Hf x vx/\Q (.int j) H
theorem bn0(hu:X.A.units+64 < cLine)(sx:eJ x=true)(dx:x.depth<=60)(sd:ds.all eJ=true)(hj:ds.findIdx? (λy=>eK y x)=some j):MtR X "tuple.index" (cB9 X ds x j):=by
 intro pins s σ H vt vs v us Q I rt rv ⟨Hf,vx,e,ss,r1,r2,q⟩;subst e;obtain⟨u,rfl,rx⟩:=T6 rv;obtain⟨p,ws,rfl,h2,h3⟩:=r1;obtain rfl:v=eP p:=rt;obtain⟨its,pl,ln,he⟩:=bC0 hu sx dx sd I rx ss r2 h2 h3;obtain⟨⟨cls,dd,data,sl⟩,ho,hc,n,hd⟩:=id pl;simp only at hc hd;subst hc hd;obtain⟨h1,h4,h5⟩:=cF.mp hj;refine eA F.slot_tuple_index ⟨_,ho,rfl⟩ F.entry_tuple_index (F.args_tuple_index_2 _ _) (aH7 p its.toArray n dd sl u (λm=>eK (ds.getD m .none) x) j (by rw[av,ln];exact h1) (by simpa [h1] using h4) (λm hm=>?_)) ⟨ho,he,.int j,H,I.tok _,⟨_,rfl⟩,q⟩;have hm':m < ds.length:=by omega
 have:=h5 m hm;simpa [hm'] using this
theorem cb1{o e:Expr}{to:TE}{t:TA}{name:Str}{apos cpos:Pos}{id:String}{r:V->List V->Hp->VK->Prop}(slot:Slot "tuple" name id)(hty:typeOf (.builtin id)=pure (.type "method_descriptor"))(hm:MtR X id r)(ho:PE X o to)(ha:PA X [e] t)
  (hbase:eB o name X.env (eval o X.env)=eval o X.env)
  (hfew:((backTo cpos (dO [e] X.env)).all (λx=>!x.1)&&(backToKw cpos (keywordEach [] X.env)).all (λx=>x.1.isSome)&&decide (([e]:List Expr).length+([]:List eh).length+(if([]:List eh).isEmpty then 0 else 1) < 30))=true)
  (hline:(apos.endLine==cpos.line)=true) (hs:dO [e] X.env=[(false,eval e X.env)]) :
  PE X (.Call (.Attribute o name apos) [e] [] cpos) (λσ H Q=>to σ H λx H1=>(∃p xs,x=.ref p/\SqT X.K H1 p xs)/\t σ H1 λxs H2=>r x xs H2 Q):=by
 intro pins s σ H Q I h;refine wpAny_Call_method_late hbase hfew hline rfl (thn (ho pins s σ H _ I h) λv s1 ⟨x,H1,I1,r1,⟨p,xs,e1,e2⟩,q1⟩=>?_);subst e1;obtain rfl:v=eP p:=r1;obtain⟨its,_,⟨ob,g1,g2,_,g4⟩,_⟩:=I1.tupN e2;refine⟨"tuple", id,F.plainAttrs_tuple,slot,hty,⟨ob,g1,g2⟩,λa ea=>?_,?_⟩
 ·cases ea;exact⟨ob,g1,g4⟩
 have hA:=ha cpos pins s1 σ H1 _ I1 q1;rw[hs]at hA ⊢;refine Calls.callWith_builtin (by rfl) (Calls.evalArgs_plain ?_);exact thn hA λus s2 ⟨vs,H2,I2,r2,q2⟩=>hm pins s2 σ H2 (.ref p) vs (.ref p) us Q I2 rfl r2 q2
noncomputable def bv8(f g:DE):DE:=λρ=>(f ρ).bind λt=>(g ρ).bind λx=>match t with
 | .tuple ds=>if eJ x=true/\x.depth<=60/\ds.all eJ=true then(ds.findIdx? λy=>eK y x).map (λ(j:Nat)=>eL (j:Int)) else none
 | _=>none
theorem br5(hu:X.A.units+64 < cLine)(ho:JE X o f)(h:JE X e g)(hbase:eB o "index" X.env (eval o X.env)=eval o X.env)
  (hfew:((backTo cpos (dO [e] X.env)).all (λx=>!x.1)&&(backToKw cpos (keywordEach [] X.env)).all (λx=>x.1.isSome)&&decide (([e]:List Expr).length+([]:List eh).length+(if([]:List eh).isEmpty then 0 else 1) < 30))=true)
  (hline:(apos.endLine==cpos.line)=true) (hs:dO [e] X.env=[(false,eval e X.env)]):JE X (.Call (.Attribute o "index" apos) [e] [] cpos) (bv8 f g):=λρ d q=>by
 obtain⟨t,e1,q⟩:=xbm q;obtain⟨x,e2,q⟩:=xbm q;cases t with
 | tuple ds =>
  simp only at q;split at q
  ·rename_i c;obtain⟨j,hj,rfl⟩:=af.mp q;refine A5 (cb1 F.slot_tuple_index F.type_tuple_index (bn0 hu c.1 c.2.1 c.2.2 hj) (ho ρ _ e1) (B6 (h ρ _ e2) D3 hs) hbase hfew hline hs) λσ H Q ⟨H0,Hf,s,sl,k⟩=>?_
   refine⟨H0,Hf,s,sl,λv H1 Hf1 g1 r1=>?_⟩;have r1':=r1;obtain⟨p,vs,rfl,h2,h3⟩:=r1;refine⟨⟨p,vs,rfl,C6 g1.sub h2⟩,H0,Hf1,g1.sub,sl.grow g1,λw H2 Hf2 g2 r2=>?_⟩;exact⟨Hf2,w,rfl,g2.sub,r1'.mono g2.ext,r2,k _ H2 Hf2 (g1.trans g2) rfl⟩
  ·cases q
 | _=>cases q
end
end G
namespace G
open PySem PySem.Spec PyProof.Rows L2
section
variable {X:Cx}
noncomputable def flV:eU->D
 | .bool b=>.bool b
 | .int i _=>.int i
 | .str x _=>.str x
 | _=>.none
theorem ck8(f:af1 d=true)(r:C5 (toV d) y):flV y=d:=by
 cases d with
 | none=>cases r;rfl
 | bool b=>cases r;rfl
 | int i=>obtain⟨t,rfl⟩:=r;rfl
 | str x=>obtain⟨t,rfl⟩:=r;rfl
 | tuple _=>cases f
 | list _=>cases f
 | dict _=>cases f
theorem aU4:∀{ds:List D}{its:List eU},ds.all af1=true->C9 (ds.map toV) its->its.map flV=ds
 | [],its,_,r=>by cases r;rfl
 | d::ds,its,f,r=>by
  rw[aL,ah]at f;cases r with
  | cons r1 r2=>rw[bh,ck8 f.1 r1,aU4 f.2 r2]
theorem aS8(hu:X.A.units+64 < cLine)(sx:eJ x=true)(dx:x.depth<=60)(sd:ds.all eJ=true)(fd:ds.all af1=true)(I:L2.Inv X pins σ H s)(rx:C5 vx v)(ss:B0 Hf H)(r1:Rep X.K Hf x vx)(h2:SqL X.K Hf p vs)(h3:Reps X.K Hf ds vs):
  ∃its:List eU,PlainL s.heap p its.toArray/\its.map flV=ds/\its.length<=dP/\∀y∈its.toArray,SeqAt.EqAt X.A.in1 s y v (eK (flV y) x):=by
 obtain⟨its,rv,pl,hz⟩:=I.list (C7 ss h2);have hz':its.length<=dP:=by rw[← rv.length];exact hz
 obtain⟨as,rd⟩:=Rep.reads I (r1.mono ss) rx;obtain⟨bs,ra⟩:=Reps.reads I (h3.mono ss) rv;obtain⟨e1,e2⟩:=bZ2 ra
 have fm:its.map flV=ds:=by
  obtain⟨e,_⟩:=ap6 fd h3;subst e;exact aU4 fd rv
 refine⟨its,pl,fm,hz',λy hy=>?_⟩;obtain⟨j,hj,rfl⟩:=List.getElem_of_mem (List.mem_toArray.mp hy);obtain⟨cs,q⟩:=e2 j hj;have hd:j < ds.length:=by grind
 have sj:=aO.mp sd _ (cq hd)
 have ej:flV its[j]=ds[j]:=by
  have:(its.map flV)[j]'(by simpa using hj)=ds[j]:=by simp only[fm]
  rwa [List.getElem_map]at this
 have eg:ds.getD j .none=ds[j]:=by simp[hd]
 rw[eg]at q;rw[ej];have:=SeqAt.eqAt_reads ds[j] x X.A.in1 s _ _ _ _ q rd (SeqAt.canLay_of_shaped sj) (SeqAt.canLay_of_shaped sx) (by show X.A.units+1+_ < _;have:=dl ds[j].depth x.depth;grind);simpa using this
noncomputable def bZ3(X:Cx)(ds:List D)(x z:D):V->List V->Hp->VK->Prop:=λvt vs H Q=>∃Hf vx,vs=[vx]/\B0 Hf H/\Rep X.K Hf (.list ds) vt/\Rep X.K Hf x vx/\∀v,Rep X.K Hf z v->Q v H
theorem aY5(hu:X.A.units+64 < cLine)(sx:eJ x=true)(dx:x.depth<=60)(sd:ds.all eJ=true)(fd:ds.all af1=true):MtR X "list.count" (bZ3 X ds x (.int (ds.countP λy=>eK y x))):=by
 intro pins s σ H vt vs v us Q I rt rv ⟨Hf,vx,e,ss,r1,r2,q⟩;subst e;obtain⟨u,rfl,rx⟩:=T6 rv;obtain⟨p,ws,rfl,h2,h3⟩:=r1;obtain rfl:v=eP p:=rt;obtain⟨its,pl,fm,_,he⟩:=aS8 hu sx dx sd fd I rx ss r2 h2 h3;obtain⟨⟨cls,dd,data,sl⟩,n,ho,hc,hd0,hd⟩:=pl;simp only at hc hd hd0;subst hc hd hd0;refine eA F.slot_list_count ⟨_,ho,rfl⟩ F.entry_list_count (F.args_list_count_2 _ _) (SeqAt.list_countAt p its.toArray n none sl u λy=>eK (flV y) x) ⟨ho,he,.int (ds.countP λy=>eK y x),H,I.tok _,⟨s.toks,?_⟩,q _ rfl⟩
 have:(its.countP λy=>eK (flV y) x)=ds.countP λy=>eK y x:=by
  rw[← fm,List.countP_map];rfl
 rw[← this]
theorem aY4(hu:X.A.units+64 < cLine){ds:List D}{x:D}{j:Nat}(sx:eJ x=true)(dx:x.depth<=60)(sd:ds.all eJ=true)(fd:ds.all af1=true)(hj:ds.findIdx? (λy=>eK y x)=some j):MtR X "list.index" (bZ3 X ds x (.int j)):=by
 intro pins s σ H vt vs v us Q I rt rv ⟨Hf,vx,e,ss,r1,r2,q⟩;subst e;obtain⟨u,rfl,rx⟩:=T6 rv;obtain⟨p,ws,rfl,h2,h3⟩:=r1;obtain rfl:v=eP p:=rt;obtain⟨its,pl,fm,hz,he⟩:=aS8 hu sx dx sd fd I rx ss r2 h2 h3;obtain⟨⟨cls,dd,data,sl⟩,n,ho,hc,hd0,hd⟩:=pl;simp only at hc hd hd0;subst hc hd hd0;obtain⟨h1,h4,h5⟩:=cF.mp hj;have ln:its.length=ds.length:=by rw[← fm,ak]
 have ej:∀(m:Nat) (hm:m < its.length),flV its[m]=ds[m]'(by grind):=λm hm=>by
  have:(its.map flV)[m]'(by simpa using hm)=ds[m]'(by grind):=by simp only[fm]
  rwa [List.getElem_map]at this
 have hn:=b9;refine eA F.slot_list_index ⟨_,ho,rfl⟩ F.entry_list_index (F.args_list_index_2 _ _) (SeqAt.list_indexAt p its.toArray n none sl u (λy=>eK (flV y) x) j (by rw[av];grind) (by grind) (by simpa [ej j (by grind)] using h4) λm hm hmj=>?_) ⟨ho,he,.int j,H,I.tok _,⟨_,rfl⟩,q _ rfl⟩;have hm':m < its.length:=by simpa using hm
 have:=h5 m hmj;simpa [ej m hm'] using this
theorem cb2{o e:Expr}{to:TE}{t:TA}{name:Str}{apos cpos:Pos}{id:String}{r:V->List V->Hp->VK->Prop}(slot:Slot "list" name id)(hty:typeOf (.builtin id)=pure (.type "method_descriptor"))(hm:MtR X id r)(ho:PE X o to)(ha:PA X [e] t)
  (hbase:eB o name X.env (eval o X.env)=eval o X.env)
  (hfew:((backTo cpos (dO [e] X.env)).all (λx=>!x.1)&&(backToKw cpos (keywordEach [] X.env)).all (λx=>x.1.isSome)&&decide (([e]:List Expr).length+([]:List eh).length+(if([]:List eh).isEmpty then 0 else 1) < 30))=true)
  (hline:(apos.endLine==cpos.line)=true) (hs:dO [e] X.env=[(false,eval e X.env)]) :
  PE X (.Call (.Attribute o name apos) [e] [] cpos) (λσ H Q=>to σ H λx H1=>(∃p xs,x=.ref p/\SqL X.K H1 p xs)/\t σ H1 λxs H2=>r x xs H2 Q):=by
 intro pins s σ H Q I h;refine wpAny_Call_method_late hbase hfew hline rfl (thn (ho pins s σ H _ I h) λv s1 ⟨x,H1,I1,r1,⟨p,xs,e1,e2⟩,q1⟩=>?_);subst e1;obtain rfl:v=eP p:=r1;obtain⟨its,_,⟨ob,n,g1,g2,g4,_⟩,_⟩:=I1.list e2;refine⟨"list", id,F.plainAttrs_list,slot,hty,⟨ob,g1,g2⟩,λa ea=>?_,?_⟩
 ·cases ea;exact⟨ob,g1,g4⟩
 have hA:=ha cpos pins s1 σ H1 _ I1 q1;rw[hs]at hA ⊢;refine Calls.callWith_builtin (by rfl) (Calls.evalArgs_plain ?_);exact thn hA λus s2 ⟨vs,H2,I2,r2,q2⟩=>hm pins s2 σ H2 (.ref p) vs (.ref p) us Q I2 rfl r2 q2
noncomputable def lsB(x:D)(ds:List D):Prop:=eJ x=true/\x.depth<=60/\ds.all eJ=true/\ds.all af1=true
instance (x:D) (ds:List D):Decidable (lsB x ds):=by unfold lsB;exact inferInstance
noncomputable def bv9(f g:DE):DE:=λρ=>(f ρ).bind λt=>(g ρ).bind λx=>match t with
 | .list ds=>if lsB x ds then some (.int (ds.countP λy=>eK y x)) else none
 | _=>none
noncomputable def aV3(f g:DE):DE:=λρ=>(f ρ).bind λt=>(g ρ).bind λx=>match t with
 | .list ds=>if lsB x ds then(ds.findIdx? λy=>eK y x).map (λ(j:Nat)=>eL (j:Int)) else none
 | _=>none
theorem aT6{o e:Expr}{f g:DE}{name:Str}{id:String}{apos cpos:Pos}{ρ:Rho}{ds:List D}{x z:D}(slot:Slot "list" name id)(hty:typeOf (.builtin id)=pure (.type "method_descriptor"))(hm:MtR X id (bZ3 X ds x z))(ho:JE X o f)(h:JE X e g)(hz:∀Hf Hf' v,Rep X.K Hf z v->Rep X.K Hf' z v)(e1:f ρ=some (.list ds))(e2:g ρ=some x)(hbase:eB o name X.env (eval o X.env)=eval o X.env)
  (hfew:((backTo cpos (dO [e] X.env)).all (λx=>!x.1)&&(backToKw cpos (keywordEach [] X.env)).all (λx=>x.1.isSome)&&decide (([e]:List Expr).length+([]:List eh).length+(if([]:List eh).isEmpty then 0 else 1) < 30))=true)
  (hline:(apos.endLine==cpos.line)=true) (hs:dO [e] X.env=[(false,eval e X.env)]):PE X (.Call (.Attribute o name apos) [e] [] cpos) (tJ X.K ρ λ_ v _ Hf=>Rep X.K Hf z v):=by
 refine A5 (cb2 slot hty hm (ho ρ _ e1) (B6 (h ρ _ e2) D3 hs) hbase hfew hline hs) λσ H Q ⟨H0,Hf,s,sl,k⟩=>?_
 refine⟨H0,Hf,s,sl,λv H1 Hf1 g1 r1=>?_⟩;have r1':=r1;obtain⟨p,vs,rfl,h2,h3⟩:=r1;refine⟨⟨p,vs,rfl,C7 g1.sub h2⟩,H0,Hf1,g1.sub,sl.grow g1,λw H2 Hf2 g2 r2=>?_⟩;exact⟨Hf2,w,rfl,g2.sub,r1'.mono g2.ext,r2,λv rv=>k _ H2 Hf2 (g1.trans g2) rv⟩
theorem br6(hu:X.A.units+64 < cLine)(ho:JE X o f)(h:JE X e g)(hbase:eB o "count" X.env (eval o X.env)=eval o X.env)
  (hfew:((backTo cpos (dO [e] X.env)).all (λx=>!x.1)&&(backToKw cpos (keywordEach [] X.env)).all (λx=>x.1.isSome)&&decide (([e]:List Expr).length+([]:List eh).length+(if([]:List eh).isEmpty then 0 else 1) < 30))=true)
  (hline:(apos.endLine==cpos.line)=true) (hs:dO [e] X.env=[(false,eval e X.env)]):JE X (.Call (.Attribute o "count" apos) [e] [] cpos) (bv9 f g):=λρ d q=>by
 obtain⟨t,e1,q⟩:=xbm q;obtain⟨x,e2,q⟩:=xbm q;cases t with
 | list ds =>
  simp only at q;split at q
  ·rename_i c;cases q;exact aT6 F.slot_list_count F.type_list_count (aY5 hu c.1 c.2.1 c.2.2.1 c.2.2.2) ho h (λ_ _ _ r=>r) e1 e2 hbase hfew hline hs
  ·cases q
 | _=>cases q
theorem aZ5{o e:Expr}{f g:DE}{apos cpos:Pos}(hu:X.A.units+64 < cLine)(ho:JE X o f)(h:JE X e g)(hbase:eB o "index" X.env (eval o X.env)=eval o X.env)
  (hfew:((backTo cpos (dO [e] X.env)).all (λx=>!x.1)&&(backToKw cpos (keywordEach [] X.env)).all (λx=>x.1.isSome)&&decide (([e]:List Expr).length+([]:List eh).length+(if([]:List eh).isEmpty then 0 else 1) < 30))=true)
  (hline:(apos.endLine==cpos.line)=true) (hs:dO [e] X.env=[(false,eval e X.env)]):JE X (.Call (.Attribute o "index" apos) [e] [] cpos) (aV3 f g):=λρ d q=>by
 obtain⟨t,e1,q⟩:=xbm q;obtain⟨x,e2,q⟩:=xbm q;cases t with
 | list ds =>
  simp only at q;split at q
  ·rename_i c;obtain⟨j,hj,rfl⟩:=af.mp q;exact aT6 F.slot_list_index F.type_list_index (aY4 hu c.1 c.2.1 c.2.2.1 c.2.2.2 hj) ho h (λ_ _ _ r=>r) e1 e2 hbase hfew hline hs
  ·cases q
 | _=>cases q
noncomputable def ax9(f g:DE):DE:=λρ=>match f ρ with
 | some (.list _)=>aV3 f g ρ
 | _=>bv8 f g ρ
theorem aZ6(hu:X.A.units+64 < cLine)(ho:JE X o f)(h:JE X e g)(hbase:eB o "index" X.env (eval o X.env)=eval o X.env)
  (hfew:((backTo cpos (dO [e] X.env)).all (λx=>!x.1)&&(backToKw cpos (keywordEach [] X.env)).all (λx=>x.1.isSome)&&decide (([e]:List Expr).length+([]:List eh).length+(if([]:List eh).isEmpty then 0 else 1) < 30))=true)
  (hline:(apos.endLine==cpos.line)=true) (hs:dO [e] X.env=[(false,eval e X.env)]):JE X (.Call (.Attribute o "index" apos) [e] [] cpos) (ax9 f g):=λρ d q=>by
 unfold ax9 at q;split at q
 ·exact aZ5 hu ho h hbase hfew hline hs ρ d q
 ·exact br5 hu ho h hbase hfew hline hs ρ d q
end
end G
namespace L2
open PySem PySem.Spec PyProof.Rows
section
variable {κ:Type} [DecidableEq κ]
noncomputable def Z1(kvs:List (κ×V))(k:κ):Option V:=(kvs.find? λkv=>decide (kv.1=k)).map (·.2)
noncomputable def ab9(kvs:List (κ×V))(k:κ)(v:V):List (κ×V) :=
 if(kvs.any λkv=>decide (kv.1=k))=true then kvs.map (λkv=>if kv.1=k then(kv.1,v) else kv) else kvs++[(k,v)]
noncomputable def af2(kvs:List (κ×V))(k:κ):List (κ×V):=kvs.filter λkv=>decide (kv.1≠k)
theorem r9{p:κ×V}{r:List (κ×V)}{k:κ}(e:p.1=k):Z1 (p::r) k=some p.2:=by simp[Z1,bV,e]
theorem t4{p:κ×V}{r:List (κ×V)}{k:κ}(e:¬p.1=k):Z1 (p::r) k=Z1 r k:=by simp[Z1,bV,e]
theorem aA0(k:κ):∀kvs:List (κ×V),(kvs.any λkv=>decide (kv.1=k))=(Z1 kvs k).isSome
 | []=>rfl
 | p::r=>by
  rw[bP];by_cases e:p.1=k
  ·simp only[r9 e,decide_eq_true e,Bool.true_or,Option.isSome_some]
  ·rw[t4 e,decide_eq_false e,Bool.false_or];exact aA0 k r
theorem ae5(kvs:List (κ×V))(k:κ)(v:V):(ab9 kvs k v).length<=kvs.length+1:=by
 unfold ab9;split
 ·rw[ak];omega
 ·rw[aG,aI,List.length_nil];omega
theorem Y1.isSome_eq{o:Option V}{u:Option eU}(r:Y1 o u):o.isSome=u.isSome:=by
 cases o with
 | none=>cases u with
  | none=>rfl
  | some _=>exact(show False from r).elim
 | some _=>cases u with
  | none=>exact(show False from r).elim
  | some _=>rfl
theorem Y1.getD{o:Option V}{u:Option eU}{d:V}{d':eU}(r:Y1 o u)(rd:C5 d d'):C5 (o.getD d) (u.getD d'):=by
 cases o with
 | none=>cases u with
  | none=>exact rd
  | some _=>exact(show False from r).elim
 | some _=>cases u with
  | none=>exact(show False from r).elim
  | some _=>exact r
theorem KV.val{kvs:List (κ×V)}{vs:List (κ×eU)}(r:KV kvs vs)(k:κ):Y1 (Z1 kvs k) (valueAt vs k):=by
 unfold KV at r
 induction r with
 | nil=>exact True.intro
 | @cons p q ps qs h t ih =>
  obtain⟨h1,h2⟩:=h;by_cases e:p.1=k
  ·have e':q.1=k:=h1.symm.trans e;have b:valueAt (q::qs) k=some q.2:=by simp[valueAt,bV,e']
   rw[r9 e,b];exact h2
  ·have e':¬q.1=k:=λz=>e (h1.trans z)
   have b:valueAt (q::qs) k=valueAt qs k:=by simp[valueAt,bV,e']
   rw[t4 e,b];exact ih
theorem KV.any{kvs:List (κ×V)}{vs:List (κ×eU)}(r:KV kvs vs)(k:κ):(kvs.any λkv=>decide (kv.1=k))=vs.any λkv=>decide (kv.1=k):=by
 unfold KV at r
 induction r with
 | nil=>rfl
 | cons h t ih=>rw[bP,bP,ih,h.1]
theorem KV.repl{kvs:List (κ×V)}{vs:List (κ×eU)}(r:KV kvs vs)(k:κ){y:V}{u:eU}(ry:C5 y u):
  KV (kvs.map λkv=>if kv.1=k then(kv.1,y) else kv) (vs.map λkv=>if kv.1=k then(kv.1,u) else kv):=by
 unfold KV at r ⊢
 induction r with
 | nil=>exact .nil
 | @cons p q ps qs h t ih =>
  rw[bh,bh];refine .cons ?_ ih;obtain⟨h1,h2⟩:=h;by_cases e:p.1=k
  ·rw[if_pos e,if_pos (h1.symm.trans e)];exact⟨h1,ry⟩
  ·rw[if_neg e,if_neg (λz=>e (h1.trans z))];exact⟨h1,h2⟩
theorem KV.put{kvs:List (κ×V)}{vs:List (κ×eU)}(r:KV kvs vs)(k:κ){y:V}{u:eU}(ry:C5 y u):KV (ab9 kvs k y) (stored vs k u):=by
 unfold ab9 stored;rw[r.any k];by_cases e:(vs.any λkv=>decide (kv.1=k))=true
 ·rw[if_pos e,if_pos e];exact r.repl k ry
 ·rw[if_neg e,if_neg e];exact Paired.snoc r ⟨rfl,ry⟩
theorem KV.drop{kvs:List (κ×V)}{vs:List (κ×eU)}(r:KV kvs vs)(k:κ):KV (af2 kvs k) (without vs k):=by
 unfold KV at r ⊢;unfold af2 without
 induction r with
 | nil=>exact .nil
 | @cons p q ps qs h t ih =>
  obtain⟨h1,h2⟩:=h;rw[cL,cL];by_cases e:p.1=k
  ·have a:¬decide (p.1≠k)=true:=by simp[e]
   have b:¬decide (q.1≠k)=true:=by simp[h1.symm.trans e]
   rw[if_neg a,if_neg b];exact ih
  ·have e':¬q.1=k:=λz=>e (h1.trans z)
   have a:decide (p.1≠k)=true:=by simp[e]
   have b:decide (q.1≠k)=true:=by simp[e']
   rw[if_pos a,if_pos b];exact .cons ⟨h1,h2⟩ ih
theorem KV.length{kvs:List (κ×V)}{vs:List (κ×eU)}(r:KV kvs vs):kvs.length=vs.length:=Paired.length r
theorem aF0(kvs:List (κ×V))(k:κ):(af2 kvs k).length<=kvs.length:=List.length_filter_le _ _
end
theorem ae8{P:dU}{w:World}{k:Key}{u:eU}(r:C5 (kV k) u):(E7 P w).is k u=true:=by
 cases k with
 | inl i=>obtain⟨t,e⟩:=(show ∃t,u=Value.int i t from r);subst e;exact aD5 P w i t
 | inr x=>obtain⟨t,e⟩:=(show ∃t,u=Value.str x t from r);subst e;exact aD4 P w x t
theorem aq6{P:dU}{w:World}:∀{ks:List Key}{us:List eU},C9 (ks.map kV) us->ItemsAre (E7 P w) ks us
 | [],_,r=>by rw[List.map_nil]at r;cases r;exact .nil
 | k::ks,_,r=>by
  rw[bh]at r;cases r with
  | cons h t=>exact .cons (ae8 h) (aq6 t)
noncomputable abbrev KT(H:Hp):List (List Key×V)->List (List Key×eW×eU)->Prop:=Paired λp q=>p.1=q.1/\H q.2.1=some (.tup (p.1.map kV))/\C5 p.2 q.2.2
theorem KT.val{H:Hp}{kvs:List (List Key×V)}{xs:List (List Key×eW×eU)}(r:KT H kvs xs)(k:List Key):Y1 (Z1 kvs k) ((atKey xs k).map (·.2)):=by
 induction r with
 | nil=>exact True.intro
 | @cons p q ps qs h t ih =>
  obtain⟨h1,_,h2⟩:=h;by_cases e:p.1=k
  ·have e':q.1=k:=h1.symm.trans e;have b:atKey (q::qs) k=some q.2:=by simp[atKey,bV,e']
   rw[r9 e,b];exact h2
  ·have e':¬q.1=k:=λz=>e (h1.trans z)
   have b:atKey (q::qs) k=atKey qs k:=by simp[atKey,bV,e']
   rw[t4 e,b];exact ih
theorem KT.repl{H:Hp}{kvs:List (List Key×V)}{xs:List (List Key×eW×eU)}(r:KT H kvs xs)(k:List Key){y:V}{u:eU}(ry:C5 y u):
  KT H (kvs.map λkv=>if kv.1=k then(kv.1,y) else kv) (xs.map (putAt k u)):=by
 induction r with
 | nil=>exact .nil
 | @cons p q ps qs h t ih =>
  rw[bh,bh];refine .cons ?_ ih;obtain⟨h1,h2,h3⟩:=h;unfold putAt;by_cases e:p.1=k
  ·rw[if_pos e,if_pos (h1.symm.trans e)];exact⟨h1,h2,ry⟩
  ·rw[if_neg e,if_neg (λz=>e (h1.trans z))];exact⟨h1,h2,h3⟩
theorem KT.put{H:Hp}{kvs:List (List Key×V)}{xs:List (List Key×eW×eU)}(r:KT H kvs xs)(k:List Key){b:eW}{y:V}{u:eU}(hb:H b=some (.tup (k.map kV)))(ry:C5 y u):
  KT H (ab9 kvs k y) (storedH xs k b u):=by
 have e:(kvs.any λkv=>decide (kv.1=k))=(atKey xs k).isSome:=by
  rw[aA0,(r.val k).isSome_eq,da]
 unfold ab9 storedH;rw[e];by_cases q:(atKey xs k).isSome=true
 ·rw[if_pos q,if_pos q];exact r.repl k ry
 ·rw[if_neg q,if_neg q];exact Paired.snoc r ⟨rfl,hb,ry⟩
theorem KT.keeps{H H':Hp}{kvs:List (List Key×V)}{xs:List (List Key×eW×eU)}(r:KT H kvs xs)(ht:∀b ys,H b=some (.tup ys)->H' b=some (.tup ys)):KT H' kvs xs :=
 Paired.mapP r λ_ _ z=>⟨z.1,ht _ _ z.2.1,z.2.2⟩
section
variable {P:Program}{w:World}{H:Hp}{h:Heap}{a:Addr}
theorem bO8{u:HO}(ok:HOk P w H h)(e:Rd H a u):F9 P w H h a u:=e.ok ok
theorem am1{kvs:List (Key×V)}(ok:HOk P w H h)(e:Rd H a (.dK kvs)):kvs.length<=dP/\(a==sysModules)=false/\∃vs,KV kvs vs/\h.DictOf (E7 P w) a vs :=
 show F9 P w H h a (.dK kvs) from bO8 ok e
theorem aU8{kvs:List (Key×V)}(ok:HOk P w H h)(e:H a=some (.dK kvs)):kvs.length<=dP/\(a==sysModules)=false/\∃vs,KV kvs vs/\h.DictOf (E7 P w) a vs:=am1 ok (.inl e)
theorem ac4{ks:List Key}(ok:HOk P w H h)(e:H a=some (.tup (ks.map kV))):(tupleKind (E7 P w)).is h ks a:=by
 obtain⟨_,its,r,o,h1,h2,⟨n,h3⟩,_⟩:=(show F9 P w H h a (.tup (ks.map kV)) from ok a _ e);exact⟨o,its.toArray,n,h1,h2,h3,by simpa using aq6 r⟩
theorem am0{kvs:List (List Key×V)}(ok:HOk P w H h)(e:Rd H a (.dT kvs)):kvs.length<=dP/\(a==sysModules)=false /\
  ∃xs,KT H kvs xs/\h.DictOfH (tupleKind (E7 P w)) a xs:=by
 obtain⟨z,y,xs,r,o,es,ep,h1,h2,h3,h4,h5⟩:=(show F9 P w H h a (.dT kvs) from bO8 ok e);refine⟨z,y,xs,r,o,es,ep,h1,h2,h3,h4,λx hx=>?_,h5⟩
 have all:∀{l:List (List Key×V)}{m:List (List Key×eW×eU)},KT H l m->∀x∈m,(tupleKind (E7 P w)).is h x.1 x.2.1:=by
  intro l m q
  induction q with
  | nil=>intro x hx;exact nomatch hx
  | @cons p q ps qs hq t ih =>
   intro x hx;rcases ax.mp hx with e|hx
   ·subst e;exact ac4 ok (by rw[← hq.1];exact hq.2.1)
   ·exact ih x hx
 exact all r x hx
theorem cx2{kvs:List (List Key×V)}(ok:HOk P w H h)(e:H a=some (.dT kvs)):kvs.length<=dP/\(a==sysModules)=false /\
  ∃xs,KT H kvs xs/\h.DictOfH (tupleKind (E7 P w)) a xs:=am0 ok (.inl e)
end
noncomputable def ad9(H:Hp)(a:eW)(y:V)(r:Option V):Prop :=
 (∃kvs k,Rd H a (.dK kvs)/\y=kV k/\r=Z1 kvs k)\/∃kvs k b,Rd H a (.dT kvs)/\y=.ref b/\H b=some (.tup (k.map kV))/\r=Z1 kvs k
noncomputable def bx8(H:Hp)(a:eW)(y v:V)(H':Hp):Prop :=
 (∃kvs k,H a=some (.dK kvs)/\y=kV k/\kvs.length < dP/\H'=upd H a (.dK (ab9 kvs k v))) \/
 ∃kvs k b,H a=some (.dT kvs)/\y=.ref b/\H b=some (.tup (k.map kV))/\kvs.length < dP/\H'=upd H a (.dT (ab9 kvs k v))
theorem ad9.k{H:Hp}{a:eW}{kvs:List (Key×V)}{k:Key}(e:H a=some (.dK kvs)):ad9 H a (kV k) (Z1 kvs k):=.inl ⟨kvs,k,.inl e,rfl,rfl⟩
theorem bx8.k{H:Hp}{a:eW}{kvs:List (Key×V)}{k:Key}{v:V}(e:H a=some (.dK kvs))(hl:kvs.length < dP):bx8 H a (kV k) v (upd H a (.dK (ab9 kvs k v))):=.inl ⟨kvs,k,e,rfl,hl,rfl⟩
section
variable {X:Cx}{pins:List (Addr×Obj)}{σ:St}{H:Hp}{s:Shared}{a:Addr}{y v:V}{u r:Value}{o:Option V}{A:Around}{E:Value->Shared->Prop}
theorem Inv.big(I:Inv X pins σ H s):sysModules < s.heap.objs.size:=by
 have h:dS < s.heap.objs.size:=(I.mod.glob.keeps I.bk).lt;exact cn (by decide) h
theorem bb5{Q:eU->eV->Prop}(hu:A.units+1 < cLine)(I:Inv X pins σ H s)(g:ad9 H a y (some v))(ry:C5 y u)(h:∀w' s',Inv X pins σ H s'->C5 v w'->Q w' s'):
  eD (eE X.prog X.w) A (getItem (.ref a) u) Q E s:=by
 rcases g with⟨kvs,k,e,ey,l⟩|⟨kvs,k,b,e,ey,eb,l⟩
 ·subst ey;obtain⟨z,hd,vs,rel,dd⟩:=am1 I.hok e;obtain⟨w',hw,rw'⟩:=Y1.some_of (v:=v) (o:=valueAt vs k) (by rw[l];exact rel.val k);exact wpAny_getItem_of (ae8 ry) dd.mapOf hw (h w' _ (I.tok _) rw')
 ·subst ey;cases(show u=eP b from ry);obtain⟨z,hd,xs,rel,dd⟩:=am0 I.hok e;obtain⟨w',hw,rw'⟩:=Y1.some_of (v:=v) (o:=(atKey xs k).map (·.2)) (by rw[l];exact rel.val k);obtain⟨p,hp,hp2⟩:=af.mp hw;refine wpAny_getItem_heap (tupleKind_room_in1 hu) (ac4 I.hok eb) dd hp ?_;rw[hp2];exact h w' _ (I.tok _) rw'
theorem cD6{Q:eU->eV->Prop}(hu:A.units+1 < cLine)(I:Inv X pins σ H s)(g:ad9 H a y o)(ry:C5 y u)(h:∀s',Inv X pins σ H s'->Q (.bool o.isSome) s'):
  eD (eE X.prog X.w) A (dR .In u (.ref a)) Q E s:=by
 rcases g with⟨kvs,k,e,ey,l⟩|⟨kvs,k,b,e,ey,eb,l⟩
 ·subst ey;obtain⟨z,hd,vs,rel,dd⟩:=am1 I.hok e;refine wpAny_in_of (ae8 ry) hd dd.mapOf ?_;rw[← (rel.val k).isSome_eq,← l];exact h _ (I.tok _)
 ·subst ey;cases(show u=eP b from ry);obtain⟨z,hd,xs,rel,dd⟩:=am0 I.hok e;refine wpAny_in_heap (tupleKind_room_in1 hu) (ac4 I.hok eb) hd dd ?_;have q:=(rel.val k).isSome_eq;rw[da]at q;rw[← q,← l];exact h _ (I.tok _)
theorem bL9{Q:eU->eV->Prop}(hu:A.units+1 < cLine)(I:Inv X pins σ H s)(g:ad9 H a y o)(ry:C5 y u)(h:∀s',Inv X pins σ H s'->Q (.bool (!o.isSome)) s'):
  eD (eE X.prog X.w) A (dR .NotIn u (.ref a)) Q E s:=by
 rcases g with⟨kvs,k,e,ey,l⟩|⟨kvs,k,b,e,ey,eb,l⟩
 ·subst ey;obtain⟨z,hd,vs,rel,dd⟩:=am1 I.hok e;refine wpAny_notIn_of (ae8 ry) hd dd.mapOf ?_;rw[← (rel.val k).isSome_eq,← l];exact h _ (I.tok _)
 ·subst ey;cases(show u=eP b from ry);obtain⟨z,hd,xs,rel,dd⟩:=am0 I.hok e;refine wpAny_notIn_heap (tupleKind_room_in1 hu) (ac4 I.hok eb) hd dd ?_;have q:=(rel.val k).isSome_eq;rw[da]at q;rw[← q,← l];exact h _ (I.tok _)
theorem ai1{h':Heap}{t':Nat}{ob:HO}(I:Inv X pins σ H s)(mu:Mut (H a))(hs:Heap.SameBut a s.heap h')(he:∃q,h'.get? a=some q)(new:F9 X.prog X.w (upd H a ob) h' a ob):
  Inv X pins σ (upd H a ob) { s with heap:=h',toks:=t' } :=
 I.write (x:=a) (e:=a) mu (.inl rfl) (λb q hb z=>(hs.2 b hb).trans z) he new
theorem aL8{P:dU}{w:World}{H':Hp}{h':Heap}{kvs:List (Key×V)}{vs:List (Key×eU)}(z:kvs.length<=dP)(hd:(a==sysModules)=false)(rel:KV kvs vs)(dd:h'.DictOf (E7 P w) a vs):
  F9 P w H' h' a (.dK kvs):=⟨z,hd,vs,rel,dd⟩
theorem ba4{H':Hp}{Q:Unit->eV->Prop}(hu:A.units+1 < cLine)(I:Inv X pins σ H s)(g:bx8 H a y v H')(ry:C5 y u)(rv:C5 v r)(h:∀s',Inv X pins σ H' s'->Q () s'):
  eD (eE X.prog X.w) A (setItem (.ref a) u r) Q E s:=by
 rcases g with⟨kvs,k,e,ey,l,eH⟩|⟨kvs,k,b,e,ey,eb,l,eH⟩
 ·subst ey eH;obtain⟨z,hd,vs,rel,dd⟩:=aU8 I.hok e;have hz:vs.length<=dP:=by rw[← rel.length];exact z
  have hl:(ab9 kvs k v).length<=dP:=by have:=ae5 kvs k v;omega
  refine wpAny_setItem_pairs (hsz:=hz) (ae8 ry) dd λh' dd' hs=>h _ ?_
  have he:∃q,h'.get? a=some q:=let⟨q,_,_,hq,_⟩:=dd';⟨q,hq⟩
  exact ai1 I (by rw[e];exact True.intro) hs he (aL8 hl hd (rel.put k rv) dd')
 ·subst ey eH;cases(show u=eP b from ry);obtain⟨z,hd,xs,rel,dd⟩:=cx2 I.hok e;have hz:xs.length<=dP:=by rw[← Paired.length rel];exact z
  have hl:(ab9 kvs k v).length<=dP:=by have:=ae5 kvs k v;omega
  refine wpAny_setItem_heap (hsz:=hz) (tupleKind_room_in1 hu) (ac4 I.hok eb) dd λh' dd' hs=>h _ ?_
  obtain⟨q,es,ep,hq,h2,h3,h4,_,h5⟩:=dd';refine ai1 I (by rw[e];exact True.intro) hs ⟨q,hq⟩ ⟨hl,hd,_,(rel.put k eb rv).keeps λc ys ec=>?_,q,es,ep,hq,h2,h3,h4,h5⟩;rw[A9 (ct9 ec e (λz=>nomatch z))];exact ec
end
section
variable {X:Cx}{pins:List (Addr×Obj)}{σ:St}{H:Hp}{s:Shared}{a:Addr}{kvs:List (Key×V)}{k:Key}{u:Value}{A:Around}{E:Value->Shared->Prop}
theorem cn0{Q:Unit->eV->Prop}(I:Inv X pins σ H s)(e:H a=some (.dK kvs))(ry:C5 (kV k) u)(l:(Z1 kvs k).isSome=true)(h:∀s',Inv X pins σ (upd H a (.dK (af2 kvs k))) s'->Q () s'):
  eD (eE X.prog X.w) A (delItem (.ref a) u) Q E s:=by
 obtain⟨z,hd,vs,rel,dd⟩:=aU8 I.hok e
 refine wpAny_delItem_slot dd.typeIs (by decide) PySem.F.slot_dict_delitem
  (call_meetsIn PySem.F.slot_dict_delitem dd.typeIs PySem.F.entry_dict_delitem (PySem.F.args_dict_delitem_2 _ _) (meets_dict_delitem_pairs (E7 X.prog X.w) a (ae8 ry)) ⟨vs,dd,by rw[← rel.length];exact z,by rw[← (rel.val k).isSome_eq];exact l,λh' dd' hs=>h _ ?_⟩)
 have he:∃q,h'.get? a=some q:=let⟨q,_,_,hq,_⟩:=dd';⟨q,hq⟩
 exact ai1 I (by rw[e];exact True.intro) hs he (aL8 (aM (aF0 kvs k) z) hd (rel.drop k) dd')
theorem cx3{v:V}{more:List eU}{Q:eU->eV->Prop}(I:Inv X pins σ H s)(e:H a=some (.dK kvs))(ry:C5 (kV k) u)(l:Z1 kvs k=some v)(hm:more=[]\/∃x,more=[x])
  (h:∀w' s',Inv X pins σ (upd H a (.dK (af2 kvs k))) s'->C5 v w'->Q w' s'):eD (eE X.prog X.w) A (call (.builtin "dict.pop") (.ref a::u::more)) Q E s:=by
 obtain⟨z,hd,vs,rel,dd⟩:=aU8 I.hok e;obtain⟨w',hw,rw'⟩:=Y1.some_of (v:=v) (o:=valueAt vs k) (by rw[← l];exact rel.val k)
 have hp:(keyPart u).isSome=true:=by
  cases k with
  | inl i=>obtain⟨t,q⟩:=(show ∃t,u=Value.int i t from ry);subst q;rfl
  | inr x=>obtain⟨t,q⟩:=(show ∃t,u=Value.str x t from ry);subst q;rfl
 have ha:argsOk "dict.pop" ⟨.ref a::u::more,[]⟩:=by
  rcases hm with q|⟨x,q⟩
  ·subst q;exact PySem.F.args_dict_pop_2 _ _
  ·subst q;exact PySem.F.args_dict_pop_3 _ _ _
 refine call_meetsIn PySem.F.slot_dict_pop dd.typeIs PySem.F.entry_dict_pop ha (meets_dict_pop_there (E7 X.prog X.w) a (ae8 ry) more hm hp)
  ⟨vs,w',dd,by rw[← rel.length];exact z,hw,λh' dd' hs=>h w' _ ?_ rw'⟩
 have he:∃q,h'.get? a=some q:=let⟨q,_,_,hq,_⟩:=dd';⟨q,hq⟩
 exact ai1 I (by rw[e];exact True.intro) hs he (aL8 (aM (aF0 kvs k) z) hd (rel.drop k) dd')
end
noncomputable def bN2(i:Expr):Prop:=∀ov iv,subscripted i false ov iv=operate [ov,iv] (getItem ov iv)
theorem bC8{prog:dU}{w:World}{A:dW}{E:eU->eV->Prop}{s:eV}{env:Env}{value slice:Expr}{pos:Pos}{T id:String}{Q:eU->eV->Prop}
  (hl:typeLookup (.type T) "__getitem__" = pure (some (.builtin id))) (hs:bN2 slice)
  (h:eD (eE prog w) A (eval value env) (λo s₁=>eD (eE prog w) A (eval slice env) (λi s₂=>s₂.TypeIs o T/\eD (eE prog w) A (getItem o i) Q E s₂) E s₁) E s) :
  eD (eE prog w) A (eval (.Subscript value slice pos) env) Q E s:=by
 refine Subscript_ (dJ h (λo s₁ h₁=>dJ h₁ (λi s₂ h₂=>?_) λ_ _ x=>x) λ_ _ x=>x);obtain⟨hT,h₂⟩:=h₂;unfold subscriptTail;refine dH ?_;rw[getitemInPython_of_ne hT.not_modules];refine dH (wpAny_specialOf hT hl ?_)
 have fin:eD (eE prog w) A (subscripted slice false o i) (λr s₃=>eD (eE prog w) A (letTemporaryGo value o r >>= λ_=>pure r) Q E s₃) E s₂:=by
  rw[hs o i];exact wpAny_operating (dJ h₂ (λr s₃ h₃=>dH (wpAny_letTemporaryGo (dI h₃))) λ_ _ x=>x)
 first
  | exact dI (dH fin)
  | exact dH (dI (dH fin))
  | exact dH fin
theorem aF1{X:Cx}{pins:List (eW×Obj)}{σ:St}{H:Hp}{s:eV}{a:eW}{y:V}{o:Option V}(I:Inv X pins σ H s)(g:ad9 H a y o):s.TypeIs (.ref a) "dict" := by
 rcases g with⟨kvs,k,e,_,_⟩|⟨kvs,k,b,e,_,_,_⟩
 ·obtain⟨_,_,vs,_,dd⟩:=am1 I.hok e;exact dd.typeIs
 ·obtain⟨_,_,xs,_,dd⟩:=am0 I.hok e;exact dd.typeIs
noncomputable def cq5(td ty:TE):TE:=λσ H Q=>td σ H λx H1=>ty σ H1 λy H2=>∃a v,x=.ref a/\ad9 H2 a y (some v)/\Q v H2
noncomputable def cA5(ty td:TE):TE:=λσ H Q=>ty σ H λy H1=>td σ H1 λx H2=>∃a o,x=.ref a/\ad9 H2 a y o/\Q (.bl o.isSome) H2
noncomputable def bC4(ty td:TE):TE:=λσ H Q=>ty σ H λy H1=>td σ H1 λx H2=>∃a o,x=.ref a/\ad9 H2 a y o/\Q (.bl (!o.isSome)) H2
noncomputable def cr2(td ty tv:TE):TS:=λD σ H=>tv σ H λv H1=>td σ H1 λx H2=>ty σ H2 λy H3=>∃a H4,x=.ref a/\bx8 H3 a y v H4/\D.nx σ H4
section
variable {X:Cx}{o i e value:Expr}{pos pos' tpos:Pos}{td ty tv:TE}
theorem bG3(hu:X.A.units+1 < cLine)(ho:PE X o td)(hi:PE X i ty)(hs:bN2 i):PE X (.Subscript o i pos) (cq5 td ty):=by
 intro pins s σ H Q I h;refine bC8 PySem.F.slot_dict_getitem.lookup hs (thn (ho pins s σ H _ I h) λu s1 ⟨x,H1,I1,rx,q1⟩=>thn (hi pins s1 σ H1 _ I1 q1) λiv s2 ⟨y,H2,I2,ry,a,v,ex,g,q2⟩=>?_);subst ex;obtain rfl:u=eP a:=rx;exact⟨aF1 I2 g,bb5 hu I2 g ry λw' s3 I3 rw'=>⟨v,H2,I3,rw',q2⟩⟩
theorem bk4(hu:X.A.units+1 < cLine)(hi:PE X i ty)(ho:PE X o td):PC X .In i o (cA5 ty td):=by
 intro pins s σ H Q I h;refine thn (hi pins s σ H _ I h) λiv s1 ⟨y,H1,I1,ry,q1⟩=>thn (ho pins s1 σ H1 _ I1 q1) λu s2 ⟨x,H2,I2,rx,a,ov,ex,g,q2⟩=>?_
 subst ex;obtain rfl:u=eP a:=rx;exact cD6 hu I2 g ry λs3 I3=>⟨.bl ov.isSome,H2,I3,rfl,q2⟩
theorem ap8(hu:X.A.units+1 < cLine)(hi:PE X i ty)(ho:PE X o td):PC X .NotIn i o (bC4 ty td):=by
 intro pins s σ H Q I h;refine thn (hi pins s σ H _ I h) λiv s1 ⟨y,H1,I1,ry,q1⟩=>thn (ho pins s1 σ H1 _ I1 q1) λu s2 ⟨x,H2,I2,rx,a,ov,ex,g,q2⟩=>?_
 subst ex;obtain rfl:u=eP a:=rx;exact bL9 hu I2 g ry λs3 I3=>⟨.bl (!ov.isSome),H2,I3,rfl,q2⟩
theorem bF6(hu:X.A.units+1 < cLine)(ho:PE X o td)(hi:PE X i ty)(hv:PE X value tv)(hs:swapsWith value (some (.Subscript o i pos')) pos.line X.env=pure false):
  PS X (.Assign [.Subscript o i pos'] value pos) (cr2 td ty tv):=by
 intro pins s σ H D I h;refine wpAny_Assign_Subscript (thn (hv pins s σ H _ I h) λr s1 ⟨v,H1,I1,rv,q1⟩=>thn (ho pins s1 σ H1 _ I1 q1) λu s2 ⟨x,H2,I2,rx,q2⟩=>thn (hi pins s2 σ H2 _ I2 q2) λiv s3 ⟨y,H3,I3,ry,a,H4,ex,g,q3⟩=>?_) hs;subst ex;obtain rfl:u=eP a:=rx;exact ba4 hu I3 g ry rv λs4 I4=>⟨σ,H4,I4,q3⟩
end
theorem bv1{P:dU}{w:World}{H:Hp}(h:Heap)(hb:sysModules < h.objs.size):F9 P w H (h.push { cls:=.type "dict", data:=.dict #[] }) h.objs.size (.dK []) :=
 ⟨aU _,beq_eq_false_iff_ne.mpr (Ne.symm (aK hb)),[],.nil,Heap.DictOf.new h⟩
noncomputable def bX2:TE:=λ_ H Q=>∀p,H p=none->Q (.ref p) (upd H p (.dK []))
section
variable {X:Cx}{pos:Pos}
theorem bj8:PE X (.Dict [] [] pos) bX2:=λpins s σ H Q I h =>
 wpAny_Dict_empty ⟨.ref s.heap.objs.size,_,I.laid (a:=s.heap.objs.size) (o:=.dK []) (t':=s.toks) (λ_ _ q=>eF _ q) (aj _) (bv1 s.heap I.big),rfl,h _ (I.hok.fresh (aj _))⟩
end
structure M1 (X:Cx) (o:Expr) (m:Str) (apos:Pos) (e:Expr) (cpos:Pos):Prop where
 base:eB o m X.env (eval o X.env)=eval o X.env
 few:((backTo cpos (dO [e] X.env)).all (λx=>!x.1)&&(backToKw cpos (keywordEach [] X.env)).all (λx=>x.1.isSome)
  && decide (([e]:List Expr).length+([]:List eh).length+(if([]:List eh).isEmpty then 0 else 1) < 30))=true
 line:(apos.endLine==cpos.line)=true
 trees:backTo cpos (dO [e] X.env)=[(false,eval e X.env)]
noncomputable def IsD(H:Hp)(a:eW):Prop:=(∃kvs,Rd H a (.dK kvs))\/∃kvs,Rd H a (.dT kvs)
theorem bs1{X:Cx}{pins:List (eW×Obj)}{σ:St}{H:Hp}{s:eV}{a:eW}(I:Inv X pins σ H s)(d:IsD H a):
  s.TypeIs (.ref a) "dict" /\ (∀b,eP a=.ref b->∃ob,s.heap.get? b=some ob/\ob.dict=none)/\(a==sysModules)=false:=by
 rcases d with⟨kvs,e⟩|⟨kvs,e⟩
 ·obtain⟨_,hd,vs,_,dd⟩:=am1 I.hok e;refine⟨dd.typeIs,λb q=>?_,hd⟩;cases q;obtain⟨ob,_,_,h1,h2,_⟩:=dd;exact⟨ob,h1,h2.2.1⟩
 ·obtain⟨_,hd,xs,_,dd⟩:=am0 I.hok e;refine⟨dd.typeIs,λb q=>?_,hd⟩;cases q;obtain⟨ob,_,_,h1,h2,_⟩:=dd;exact⟨ob,h1,h2.2.1⟩
section
variable {X:Cx}{pins:List (Addr×Obj)}{σ:St}{H:Hp}{s:Shared}{a:Addr}{y d:V}{u r:Value}{o:Option V}{A:Around}{E:Value->Shared->Prop}
theorem cl1{Q:eU->eV->Prop}(hu:A.units+1 < cLine)(I:Inv X pins σ H s)(g:ad9 H a y o)(ry:C5 y u)(h:∀w' s',Inv X pins σ H s'->C5 (o.getD .non) w'->Q w' s'):
  eD (eE X.prog X.w) A (call (.builtin "dict.get") [.ref a,u]) Q E s:=by
 rcases g with⟨kvs,k,e,ey,l⟩|⟨kvs,k,b,e,ey,eb,l⟩
 ·subst ey;obtain⟨z,hd,vs,rel,dd⟩:=am1 I.hok e;refine call_meetsIn PySem.F.slot_dict_get dd.typeIs PySem.F.entry_dict_get (PySem.F.args_dict_get_2 _ _) (meets_dict_get (E7 X.prog X.w) a (ae8 ry) hd) ⟨_,dd.mapOf,h _ _ (I.tok _) ?_⟩;rw[l];exact(rel.val k).getD rfl
 ·subst ey;cases(show u=eP b from ry);obtain⟨z,hd,xs,rel,dd⟩:=am0 I.hok e;refine call_meetsIn PySem.F.slot_dict_get dd.typeIs PySem.F.entry_dict_get (PySem.F.args_dict_get_2 _ _) (meetsH_dict_get (tupleKind (E7 X.prog X.w)) a b hd) ⟨tupleKind_room_in1 hu,k,xs,ac4 I.hok eb,dd,h _ _ (I.tok _) ?_⟩;rw[l];exact(rel.val k).getD rfl
end
noncomputable def bX3(td ty:TE):TE:=λσ H Q=>td σ H λx H1=>∃a,x=.ref a/\IsD H1 a/\ty σ H1 λy H2=>∃o,ad9 H2 a y o/\Q (o.getD .non) H2
noncomputable def bX1(td ty:TE):TE:=λσ H Q=>td σ H λx H1=>∃a,x=.ref a/\IsD H1 a/\ty σ H1 λy H2=>∃kvs k v,H2 a=some (.dK kvs)/\y=kV k/\Z1 kvs k=some v/\Q v (upd H2 a (.dK (af2 kvs k)))
section
variable {X:Cx}{o e f:Expr}{apos cpos:Pos}{td ty tx:TE}
theorem bj9(hu:X.A.units+1 < cLine)(ho:PE X o td)(he:PE X e ty)(m:M1 X o "get" apos e cpos):PE X (.Call (.Attribute o "get" apos) [e] [] cpos) (bX3 td ty):=by
 intro pins s σ H Q I h;refine wpAny_Call_method m.base m.few m.line PySem.F.plainAttrs_dict PySem.F.slot_dict_get PySem.F.type_dict_get (thn (ho pins s σ H _ I h) λu s1 ⟨x,H1,I1,rx,a,ex,d,q1⟩=>?_);subst ex;obtain rfl:u=eP a:=rx;obtain⟨t1,t2,_⟩:=bs1 I1 d;refine⟨t1,t2,?_⟩;rw[m.trees];refine Calls.callWith_builtin rfl (Calls.evalArgs_plain (Calls.spliced_cons (thn (he pins s1 σ H1 _ I1 q1) λiv s2 ⟨y,H2,I2,ry,ov,g,q2⟩=>Calls.spliced_nil ?_)));exact cl1 hu I2 g ry λw' s3 I3 rw'=>⟨_,H2,I3,rw',q2⟩
theorem bj7(ho:PE X o td)(he:PE X e ty)(m:M1 X o "pop" apos e cpos):PE X (.Call (.Attribute o "pop" apos) [e] [] cpos) (bX1 td ty):=by
 intro pins s σ H Q I h;refine wpAny_Call_method m.base m.few m.line PySem.F.plainAttrs_dict PySem.F.slot_dict_pop PySem.F.type_dict_pop (thn (ho pins s σ H _ I h) λu s1 ⟨x,H1,I1,rx,a,ex,d,q1⟩=>?_);subst ex;obtain rfl:u=eP a:=rx;obtain⟨t1,t2,_⟩:=bs1 I1 d;refine⟨t1,t2,?_⟩;rw[m.trees];refine Calls.callWith_builtin rfl (Calls.evalArgs_plain (Calls.spliced_cons (thn (he pins s1 σ H1 _ I1 q1) λiv s2 ⟨y,H2,I2,ry,kvs,k,v,ea,ey,l,q2⟩=>Calls.spliced_nil ?_)));subst ey;exact cx3 I2 ea ry l (.inl rfl) λw' s3 I3 rw'=>⟨v,_,I3,rw',q2⟩
end
end L2
namespace G
open PySem PySem.Spec PyProof.Rows L2
noncomputable def Q3(x:Str)(kv:D×D):Bool:=match kv.1 with
 | .str y=>y==x
 | _=>false
noncomputable def F8(kvs:List (D×D))(x:Str):Option D:=(kvs.find? (Q3 x)).map (·.2)
noncomputable def ak1(kvs:List (D×D))(x:Str)(d:D):List (D×D):=if kvs.any (Q3 x) then kvs.map (λkv=>if Q3 x kv then(kv.1,d) else kv) else kvs++[(.str x,d)]
section
variable {K:PySem.W.Frag}{H:Hp}
theorem bI5(x y:Str):decide ((Sum.inr y:Key)=Sum.inr x)=(y==x):=by rw[bo4];rfl
theorem RepKs.look:∀{kvs:List (D×D)}{m:List (Key×V)}(x:Str),RepKs K H kvs m->(F8 kvs x=none/\Z1 m (.inr x)=none)\/∃d v,F8 kvs x=some d/\Z1 m (.inr x)=some v/\Rep K H d v
 | [],_,x,h=>by cases h;exact .inl ⟨rfl,rfl⟩
 | (k,d)::r,_,x,⟨y,v,t,h1,h2,h3,h4⟩=>by
  subst h1 h2;by_cases e:y=x
  ·subst e;exact .inr ⟨d,v,by simp[F8,Q3],by rw[r9 rfl],h3⟩
  ·have e1:F8 ((.str y,d)::r) x=F8 r x:=by simp[F8,Q3,e]
   have e2:Z1 ((Sum.inr y,v)::t) (Sum.inr x)=Z1 t (.inr x):=t4 (by intro z;exact e (Sum.inr.inj z));rw[e1,e2];exact RepKs.look x h4
theorem RepKs.any(x:Str):∀{kvs:List (D×D)}{m:List (Key×V)},RepKs K H kvs m->kvs.any (Q3 x)=m.any λkv=>decide (kv.1=Sum.inr x)
 | [],_,h=>by cases h;rfl
 | (k,d)::r,_,⟨y,v,t,h1,h2,h3,h4⟩=>by
  subst h1 h2;rw[bP,bP,RepKs.any x h4,bI5];rfl
theorem RepKs.snoc(q:Rep K H d v):∀{kvs:List (D×D)}{m:List (Key×V)},RepKs K H kvs m->RepKs K H (kvs++[(.str x,d)]) (m++[(.inr x,v)])
 | [],_,h=>by cases h;exact⟨x,v,[],rfl,rfl,q,rfl⟩
 | (k,_)::r,_,⟨y,w,t,h1,h2,h3,h4⟩=>by subst h2;exact⟨y,w,_,h1,rfl,h3,RepKs.snoc q h4⟩
theorem RepKs.repl(q:Rep K H d v):∀{kvs:List (D×D)}{m:List (Key×V)},RepKs K H kvs m->RepKs K H (kvs.map λkv=>if Q3 x kv then(kv.1,d) else kv) (m.map λkv=>if kv.1=Sum.inr x then(kv.1,v) else kv)
 | [],_,h=>by cases h;rfl
 | (k,e)::r,_,⟨y,w,t,h1,h2,h3,h4⟩=>by
  subst h1 h2;rw[bh,bh];by_cases e:y=x
  ·subst e;rw[if_pos (show Q3 y (.str y,_)=true by simp[Q3]),if_pos rfl];exact⟨y,v,_,rfl,rfl,q,RepKs.repl q h4⟩
  ·rw[if_neg (show ¬Q3 x (.str y,_)=true by simp[Q3,e]),if_neg (by intro z;exact e (Sum.inr.inj z))];exact⟨y,w,_,rfl,rfl,h3,RepKs.repl q h4⟩
theorem RepKs.put(q:Rep K H d v)(h:RepKs K H kvs m):RepKs K H (ak1 kvs x d) (ab9 m (.inr x) v):=by
 unfold ak1 ab9;rw[h.any x];split
 ·exact h.repl q
 ·exact h.snoc q
end
end G
namespace G
open PySem PySem.Spec PyProof.Rows L2
end G
namespace G
open PySem PySem.Spec PyProof.Rows L2
section
variable {X:Cx}
theorem ao9:∀(ys:List Str) (k:Nat),C9 (ys.map V.str) (strsFrom k ys)
 | [],_=>.nil
 | y::ys,k=>.cons ⟨_,rfl⟩ (ao9 ys (k+1))
theorem W9{K:ag}{H:Hp}:∀ys:List Str,Reps K H (ys.map eN) (ys.map V.str)
 | []=>rfl
 | y::ys=>⟨_,_,rfl,rfl,W9 ys⟩
noncomputable def bi0:V->List V->Hp->VK->Prop:=λx vs H Q=>∃a y,x=.str a/\vs=[.str y]/\(y.length==0)=false/\a.length<=dP/\(Txt.split a y).length<=dP/\∀p,H p=none->Q (.ref p) (upd H p (.lst ((Txt.split a y).map V.str)))
theorem bm9:MtR X "str.split" bi0:=by
 intro pins s σ H x vs v us Q I rx rv h;obtain⟨a,y,rfl,rfl,hy,hx,hn,q⟩:=h;obtain⟨t,rfl⟩:=rx;obtain⟨u,rfl,w,rfl⟩:=rv.one
 have go:∀ys its t',Txt.split a y=ys->C9 (ys.map V.str) its->EP X pins σ Q (.ref s.heap.objs.size) { s with heap:=s.heap.push { cls:=.type "list", data:=.seq its.toArray },toks:=t' }:=λys its t' e r=>by
  subst e;exact⟨.ref _,_,I.lnew r (by rw[ak];exact hn),rfl,q _ I.fresh⟩
 cases h1:(decide (a.length < y.length) || decide (Builtin.Str.strKind a < Builtin.Str.strKind y)) with
 | true =>
  exact eA F.slot_str_split (typeIs_str s a t) F.entry_str_split (F.args_str_split_2 _ _) (meets_str_split_cannot_occur a y t w h1) (go [a] [.str a t] s.toks (if_pos h1) (.cons ⟨_,rfl⟩ .nil))
 | false =>
  cases hf:(Builtin.Str.occurrences a y 0 a.length (a.length+1)).isEmpty with
  | true=>exact eA F.slot_str_split (typeIs_str s a t) F.entry_str_split (F.args_str_split_2 _ _) (meets_str_split_not_found a y t w h1 hy hf) (go [a] [.str a t] s.toks ((if_neg (by rw[h1];nofun)).trans (if_pos hf)) (.cons ⟨_,rfl⟩ .nil))
  | false =>
   have e:Txt.split a y=Builtin.Str.partsBetween a (Builtin.Str.occurrences a y 0 a.length (a.length+1)) y.length:=(if_neg (by rw[h1];nofun)).trans (if_neg (by rw[hf];nofun));exact eA F.slot_str_split (typeIs_str s a t) F.entry_str_split (F.args_str_split_2 _ _) (meets_str_split_sep a y t w h1 hy hf hx (by rw[← e];exact hn)) (go _ _ _ e (ao9 _ _))
noncomputable def bP0:V->List V->Hp->VK->Prop:=λx vs H Q=>∃a y,x=.str a/\vs=[.str y]/\(y.length==0)=false/\a.length<=dP/\∀p,H p=none->Q (.ref p) (upd H p (.tup [.str (Txt.partition a y).1,.str (Txt.partition a y).2.1,.str (Txt.partition a y).2.2]))
theorem bI3:MtR X "str.partition" bP0:=by
 intro pins s σ H x vs v us Q I rx rv h;obtain⟨a,y,rfl,rfl,hy,hx,q⟩:=h;obtain⟨t,rfl⟩:=rx;obtain⟨u,rfl,w,rfl⟩:=rv.one;refine eA F.slot_str_partition (typeIs_str s a t) F.entry_str_partition (F.args_str_partition_2 _ _) (meets_str_partition a y t w hy hx) ?_
 have go:∀(b c d:Str) (t1 t2 t3 t':Tok),Txt.partition a y=(b,c,d)->EP X pins σ Q (.ref s.heap.objs.size) { s with toks:=t',heap:=s.heap.push { cls:=.type "tuple", data:=.seq [.str b t1,.str c t2,.str d t3].toArray } }:=λb c d t1 t2 t3 t' e=>by
  rw[e]at q;refine⟨.ref s.heap.objs.size,upd H s.heap.objs.size (.tup [.str b,.str c,.str d]),I.laid (λb o e=>eF _ e) (aj _) ⟨by simp only[aI,List.length_nil];rw[dQ];decide,[.str b t1,.str c t2,.str d t3],.cons ⟨_,rfl⟩ (.cons ⟨_,rfl⟩ (.cons ⟨_,rfl⟩ .nil)),?_⟩,rfl,q _ I.fresh⟩;exact⟨_,eI s.heap rfl,rfl,⟨0,rfl⟩,rfl⟩
 cases e:Builtin.Str.occurrences a y 0 a.length 1 with
 | nil=>exact go a eT eT _ _ _ _ (by unfold Txt.partition;rw[e])
 | cons i r=>exact go (Builtin.Str.strSub a 0 i) y (Builtin.Str.strSub a (i+y.length) a.length) _ _ _ _ (by unfold Txt.partition;rw[e])
noncomputable def txS(a y:Str):Option D:=if y.length≠0/\a.length<=16777216/\(Txt.split a y).length<=16777216 then some (.list ((Txt.split a y).map eN)) else none
noncomputable def txP(a y:Str):Option D:=if y.length≠0/\a.length<=16777216 then some (.tuple [.str (Txt.partition a y).1,.str (Txt.partition a y).2.1,.str (Txt.partition a y).2.2]) else none
noncomputable def txB(a y:Str):Option D:=some (.bool (0+y.length<=a.length&&Builtin.Str.subAt a y 0))
noncomputable def dTx(m:Str->Str->Option D)(f g:DE):DE:=λρ=>(f ρ).bind λd=>(g ρ).bind λe=>match d,e with
 | .str a,.str y=>m a y
 | _,_=>none
theorem bQ9{m:Str->Str->Option D}{name:Str}{id:String}{r:V->List V->Hp->VK->Prop}(slot:Slot "str" name id)(hty:typeOf (.builtin id)=pure (.type "method_descriptor"))(hm:MtR X id r)
  (hr:∀a y d H Hf Q,m a y=some d->B0 Hf H->(∀v H' Hf',Grow H Hf H' Hf'->Rep X.K Hf' d v->Q v H')->r (.str a) [.str y] H Q) (ho:JE X o f) (h:JE X e g)
  (hbase:eB o name X.env (eval o X.env)=eval o X.env:=by rfl)
  (hfew:((backTo cpos (dO [e] X.env)).all (λx=>!x.1)&&(backToKw cpos (keywordEach [] X.env)).all (λx=>x.1.isSome)
   && decide (([e]:List Expr).length+([]:List eh).length+(if([]:List eh).isEmpty then 0 else 1) < 30))=true:=by rfl)
  (hline:(apos.endLine==cpos.line)=true:=by rfl) (hs:dO [e] X.env=[(false,eval e X.env)]:=by rfl) :
  JE X (.Call (.Attribute o name apos) [e] [] cpos) (dTx m f g):=λρ d q=>by
 obtain⟨x,e1,q⟩:=xbm q;obtain⟨y,e2,q⟩:=xbm q;split at q
 ·rename_i a y _;refine A5 (ak5 F.plainAttrs_str slot hty hm (ho ρ _ e1) (B6 (h ρ _ e2) D3 hs) hbase hfew hline hs) λσ H Q ⟨H0,Hf,s,sl,k⟩=>?_
  refine⟨H0,Hf,s,sl,λv H1 Hf1 g1 r1=>?_⟩;cases r1;refine⟨rfl,H0,Hf1,g1.sub,sl.grow g1,λw H2 Hf2 g2 r2=>?_⟩;cases r2;exact hr a y d H2 Hf2 Q q g2.sub λv H3 Hf3 g3 r3=>k v H3 Hf3 ((g1.trans g2).trans g3) r3
 ·cases q
theorem bs9{K:ag}:∀a y d H Hf Q,txS a y=some d->B0 Hf H->(∀v H' Hf',Grow H Hf H' Hf'->Rep K Hf' d v->Q v H')->bi0 (.str a) [.str y] H Q:=λa y d H Hf Q e s k=>by
 unfold txS at e;split at e
 ·rename_i c;cases e;exact⟨a,y,rfl,rfl,by simpa using c.1,by rw[dQ];exact c.2.1,by rw[dQ];exact c.2.2,λp hp=>k _ _ _ (Grow.laid s hp) ⟨p,_,rfl,SqL.of A7,W9 _⟩⟩
 ·cases e
theorem bL1{K:ag}:∀a y d H Hf Q,txP a y=some d->B0 Hf H->(∀v H' Hf',Grow H Hf H' Hf'->Rep K Hf' d v->Q v H')->bP0 (.str a) [.str y] H Q:=λa y d H Hf Q e s k=>by
 unfold txP at e;split at e
 ·rename_i c;cases e;exact⟨a,y,rfl,rfl,by simpa using c.1,by rw[dQ];exact c.2,λp hp=>k _ _ _ (Grow.laid s hp) ⟨p,_,rfl,SqT.of A7,W9 [_,_,_]⟩⟩
 ·cases e
theorem ao4:Q5 X (.type "int") (λxs H Q=>∃x n,xs=[.str x]/\intText? x=some n/\x.length<=640/\Q (.int n) H):=by
 intro pins s σ H xs us Q I r h;obtain⟨x,n,rfl,e1,e2,q⟩:=h;obtain⟨u,rfl,t,rfl⟩:=T6 r;exact PySem.W.KIN.call_text e1 e2 ⟨.int n,H,I.tok _,⟨_,rfl⟩,q⟩
noncomputable def aV2(f:DE):DE:=λρ=>(f ρ).bind λd=>match d with
 | .str x=>if x.length<=640 then(intText? x).map eL else none
 | _=>none
theorem bK2(hg:Gl X "int")(hm:X.mg "int" = none)(h:JE X e f)(he:dO [e] X.env=[(false,eval e X.env)]:=by rfl):JE X (.Call (.Name "int" p) [e] [] pos) (aV2 f):=λρ d q=>by
 obtain⟨x,h1,h2⟩:=xbm q;split at h2
 ·split at h2
  ·rename_i c;obtain⟨n,e1,e2⟩:=af.mp h2;subst e2
   exact A5 (R8 ao4 hg hm az0 (B6 (h ρ _ h1) D3 he) (he:=he)) λσ H Q ⟨H0,Hf,s,sl,k⟩ =>
    ⟨H0,Hf,s,sl,λv H1 Hf1 g1 r=>⟨_,n,by rw[show v=_ from r],e1,c,k _ H1 Hf1 g1 rfl⟩⟩
  ·cases h2
 ·cases h2
end
end G
namespace G
open PySem PySem.Spec PyProof.Rows L2
theorem bY8:typeLookup (.type "list_reverseiterator") "__len__" = pure none:=by rw[typeLookup_type,builtinLookup_eq_fast];kernel_rfl
theorem bD6:typeLookup (.type "list_reverseiterator") "__length_hint__" = pure (some (.builtin "list_reverseiterator.__length_hint__")):=by rw[typeLookup_type,builtinLookup_eq_fast];kernel_rfl
section
variable {P:Program}{w:World}{A:Around}{E:Value->Shared->Prop}{s:Shared}
theorem aF9{Q:List eU->eV->Prop}{it l:eW}{items:Array eU}(hh:A.handled=none)(hne:l≠it)(h0:s.heap.IsRevIter it l ((items.size:Int) - 1))(hl:s.heap.IsList l items)(hz:items.size<=dP)
  (h:∀s' acc,(∀b o,b≠it->s.heap.get? b=some o->s'.heap.get? b=some o)->s'={ s with heap:=s'.heap,toks:=s'.toks }->s.toks<=s'.toks->ItemsOf (λi v=>items[items.size - 1 - i]? = some v) acc items.size->Q acc.toList s'):eD (eE P w) A (collect (.ref it)) Q E s:=by
 have W:=(Walks.listRev (prog:=P) (w:=w) (A:=A.in1) hh it l hne items).toS;have li:it < s.heap.objs.size:=let⟨o,ho,_⟩:=h0;eG ho
 have ll:l < s.heap.objs.size:=let⟨o,ho,_⟩:=hl;eG ho
 obtain⟨S,eS⟩:∃S,S=s.heap.objs.size:=⟨_,rfl⟩
 have hSf:S∉[it,l]:=by
  intro z;simp only[ax,aS,or_false]at z;rcases z with z|z
  ·exact cz li (eS.symm.trans z)
  ·exact cz ll (eS.symm.trans z)
 have n1:S≠it:=by rw[eS];exact cz li
 unfold collect;refine dH (wpAny_runValue (codeAny_builtin entry_proto_collect' ?_));rw[Around.under_plainId PySem.F.plain_proto_collect _];show eD _ A.in1 (newList [] >>= λl=>again (.builtin "list.__iadd__" ⟨[l,.ref it],[]⟩)) _ _ s;refine dH (dL (dI ⟨plainId_quiet PySem.F.plain_list_iadd _,codeAny_builtin entry_list_iadd' ?_⟩));rw[Around.under_plainId PySem.F.plain_list_iadd _,← eS];show eD _ A.in1 (Builtin.List.listExtendWith (.ref S) (.ref it) (.ref S)) _ _ { s with heap:=s.heap.push { cls:=.type "list", data:=.seq #[] } };have hS:(s.heap.push { cls:=.type "list", data:=.seq #[] }).get? S=some { cls:=.type "list", data:=.seq #[] }:=by rw[eS];exact eI _ rfl
 have k1:∀b o,s.heap.get? b=some o->(s.heap.push { cls:=.type "list", data:=.seq #[] }).get? b=some o:=λb o q=>eF _ q
 generalize s.heap.push { cls:=.type "list", data:=.seq #[] }=h1 at hS k1;have r1:h1.IsRevIter it l ((items.size:Int) - 1):=h0.at λo e=>k1 _ _ e
 have hT1:Shared.TypeIs { s with heap:=h1 } (.ref it) "list_reverseiterator" := Heap.IsRevIter.typeIs (s:={ s with heap:=h1 }) r1;unfold Builtin.List.listExtendWith;refine dH (wpAny_typeOf (T := "list_reverseiterator") hT1 ?_);have q1:Builtin.List.listSameRef (.ref S) (.ref it)=false:=by simp[Builtin.List.listSameRef,n1]
 have q2:(Value.type "list_reverseiterator" == Value.type "list")=false:=by decide
 have q3:(Value.type "list_reverseiterator" == Value.type "tuple")=false:=by decide
 simp only[q1,q2,q3,dG,bi,if_false];refine dH (wpAny_pyIter_revIter (s:={ s with heap:=h1 }) r1 ?_);refine dH (wpAny_holding ?_);unfold Builtin.List.listLengthHint;refine dH (wpAny_specialOf hT1 bY8 ?_);refine dH (wpAny_specialOf hT1 bD6 ?_);generalize hid:("list_reverseiterator.__length_hint__" : String)=id1
 wp_delta
 rw[show splitId id1=some ("list_reverseiterator", "__length_hint__") from by subst hid;decide +kernel];subst hid;refine dH (wpAny_isInstance (T := "list_reverseiterator") (b:=true) hT1 (by rw[isSubtype_type];kernel_rfl) ?_);refine dI ?_;rw[if_neg (by decide)];refine dI ⟨plainId_quiet PySem.F.plain_extend_loop _,codeAny_extend_loopS W hz S hSf _ items.size 0 { s with heap:=h1 } #[] 0 rfl (aU _) ⟨aU _,by simpa using r1,hl.at λo e=>k1 _ _ e⟩ hS (ItemsOf.nil _) λs' acc c m e1 e2=>?_⟩;show eD _ A (load S >>= _) _ _ s';refine dH (wpAny_load e1 (dI (h s' acc (λb o hb e=>m.heap b o ?_ (k1 b o e)) ?_ m.toks e2)))
 ·intro z;simp only[ax,aS,or_false]at z;rcases z with z|z
  ·exact aK (eG e) (z.trans eS)
  ·exact hb z
 ·obtain⟨_,g,d,o,_⟩:=m;obtain⟨a1,a2,a3,a4,a5⟩:=s';simp at g d o ⊢;exact⟨g,d,o⟩
end
section
variable {X:Cx}
noncomputable def ax7(f:DE)(g:Rho->Option (Bool×List D)):DE:=λρ=>(f ρ).bind λs=>(g ρ).bind λq=>match s,q with
 | .str sep,(false,ds)=>(Y8 ds).bind λys=>if J7 sep ys.reverse<=16777216/\(Builtin.Str.glued sep ys.reverse).length<=16777216/\ys.length<=16777216 then some (.str (Builtin.Str.glued sep ys.reverse)) else none
 | _,_=>none
theorem bp8{Q:eU->eV->Prop}{A:dW}{E:eU->eV->Prop}{P:dU}{w:World}{s:eV}{it l:eW}{sep:Str}{t:Tok}{ys:List (Str×Tok)}(hh:A.handled=none)(hne:l≠it)(h0:s.heap.IsRevIter it l ((((strValues ys).toArray.size:Nat):Int) - 1))(hl:s.heap.IsList l (strValues ys).toArray)(hz:ys.length<=dP)
  (h2:J7 sep (ys.map (·.1)).reverse<=dP) (h3:(Builtin.Str.glued sep (ys.map (·.1)).reverse).length<=dP)
  (h:∀h' k u,(∀b o,b≠it->s.heap.get? b=some o->h'.get? b=some o)->Q (.str (Builtin.Str.glued sep (ys.map (·.1)).reverse) u) { s with heap:=h',toks:=k }):eD (eE P w) A (call (.builtin "str.join") [.str sep t,.ref it]) Q E s:=by
 have hT:s.TypeIs (.ref it) "list_reverseiterator" := h0.typeIs;refine wpAny_call (codeAny_call_builtin F.slot_str_join.plain F.entry_str_join (F.slot_str_join.check _ _ _ _ _ _ _ _ (typeIs_str _ _ _) (F.args_str_join_2 _ _) ?_));show eD _ A.in1 (typeOf (.ref it) >>= λty=>if(ty == .type "list" || ty == .type "tuple")=true then _ else((pyIter (.ref it)).tryCatch _ >>= λi=>collect i >>= λitems=>joinTail sep items)) _ _ s;refine dH (wpAny_typeOf hT ?_);rw[if_neg (by decide)];refine dH (wpAny_tryCatch (wpAny_pyIter_revIter h0 ?_));refine dH (aF9 (A:=A.in1) (items:=(strValues ys).toArray) hh hne h0 hl (by simpa [strValues] using hz) λs' acc k1 k2 k3 k4=>?_)
 have e:acc.toList=strValues ys.reverse:=by
  obtain⟨z1,z2⟩:=k4;have e1:strValues ys.reverse=(strValues ys).reverse:=by unfold strValues;rw[dr]
  rw[e1];apply db;intro j;rw[bK];by_cases hj:j < acc.size
  ·have:=z2 j _ (cr hj);rw[cr hj,← this,List.getElem?_reverse (by rw[z1]at hj;simpa using hj)];simp
  ·rw[dz (by omega),cM (by rw[z1]at hj;simpa using hj)]
 rw[e]
 have g:∀l:List (Str×Tok),Builtin.Str.tooLong ((l.map (·.1)).toArray.foldl (·+·.length+sep.length) 0)=false->Gives (joinTail sep (strValues l)) (joinMade sep l):=λl hl=>by
  have g0:=gives_joinTail sep l hl;cases l with
  | nil=>exact g0
  | cons p r=>cases r with
   | nil=>exact g0
   | cons q r'=>exact g0
 have hj:Builtin.Str.tooLong ((ys.reverse.map (·.1)).toArray.foldl (·+·.length+sep.length) 0)=false:=by show decide (J7 sep (ys.reverse.map (·.1)) > dP)=false;rw[dr];exact decide_eq_false (by omega)
 have k0:∀u k,Q (.str (Builtin.Str.glued sep (ys.map (·.1)).reverse) u) { s' with toks:=k }:=λu k=>by rw[k2];exact h _ _ _ k1
 rw[← dr]at h3 k0;refine g _ hj P w A (wants Q E) s' (post_join ys.reverse ⟨h3,λt' k=>?_⟩);exact k0 t' k
theorem br3(hc:X.calm=true)(gr:Gl X "reversed")(mr:X.mg "reversed" = none)(ho:JE X o f)(h:JQ X e g)
  (hbase:eB o "join" X.env (eval o X.env)=eval o X.env) (hline:(apos.endLine==cpos.line)=true) (hs:dO [e] X.env=[(false,eval e X.env)]) :
  JE X (.Call (.Attribute o "join" apos) [.Call (.Name "reversed" p1) [e] [] p2] [] cpos) (ax7 f g):=λρ d q=>by
 obtain⟨x,e1,q⟩:=xbm q;obtain⟨y,e2,q⟩:=xbm q;split at q
 ·rename_i sep ds _;obtain⟨ys,e3,q⟩:=xbm q;split at q
  ·rename_i hz;cases q;rw[← dQ]at hz;intro pins s σ H Q I ⟨H0,Hf,ss,sl,k⟩;refine wpAny_Call_method_late hbase rfl hline rfl (thn (ho ρ _ e1 pins s σ H (λv H'=>v=.str sep/\∃Hf',Grow H Hf H' Hf') I ⟨H0,Hf,ss,sl,λv H1 Hf1 g1 r1=>⟨by cases r1;rfl,Hf1,g1⟩⟩) λv s1 ⟨x,H1,I1,r1,ex,Hf1,g1⟩=>?_);subst ex;obtain⟨h1,h2⟩:=bf2 (T := "str") I1 r1 rfl;refine⟨"str", "str.join", F.plainAttrs_str,F.slot_str_join,F.type_str_join,h1,h2,Calls.callWith_builtin rfl (Calls.evalArgs_plain ?_)⟩;obtain⟨t,rfl⟩:=r1;refine Calls.spliced_cons (ty1 I1 gr mr rfl (by decide) (by decide) hs ?_);refine thn (h ρ _ _ e2 pins s1 σ H1 (λv H'=>∃Hf',Grow H1 Hf1 H' Hf'/\RQ X.K false ds v H' Hf') I1 ⟨H0,Hf1,g1.sub,sl.grow g1,λv H2 Hf2 g2 r2=>⟨Hf2,g2,r2⟩⟩) λu s2 ⟨x,H2,I2,r2,Hf2,g2,l,vs,e4,e5,e6⟩=>?_
   subst e4;cases r2;rw[i8 e3 e6]at e5;obtain⟨its,b1,b2,_⟩:=I2.list e5;obtain⟨us,rfl,rfl⟩:=at0 b1;refine call_reversed_list b2.isList ?_;have kp:∀b o,s2.heap.get? b=some o->(s2.heap.push (revObj l ((((strValues us).toArray.size:Nat):Int) - 1))).get? b=some o:=λb o q=>eF _ q
   have ll:l < s2.heap.objs.size:=let⟨o,ho,_⟩:=b2.isList;eG ho
   refine Calls.spliced_nil (bp8 (l:=l) (ys:=us) (I1.ok.hd hc) (aK ll) ⟨_,eI _ rfl,rfl,rfl⟩ (b2.isList.at λo e=>kp _ _ e) (by simpa using hz.2.2) hz.1 hz.2.1 λh' tk u kk=>?_);exact⟨.str _,H2,I2.kept λb o e=>kk b o (aK (eG e)) (kp b o e),⟨_,rfl⟩,k _ H2 Hf2 (g1.trans g2) rfl⟩
  ·cases q
 ·cases q
noncomputable def rZf:V->List V->Hp->VK->Prop:=λx vs H Q=>∃a i,x=.str a/\vs=[.int i]/\PadOk i=true/\Q (.str (Txt.zfill a i)) H
theorem cu2:MtR X "str.zfill" rZf:=by
 intro pins s σ H x vs v us Q I rx rv h;obtain⟨a,i,rfl,rfl,hp,q⟩:=h;obtain⟨t,rfl⟩:=rx;obtain⟨u,rfl,w,rfl⟩:=rv.one;exact SC.zfill hp λt' k=>⟨.str _,H,I.tok _,⟨_,rfl⟩,q⟩
noncomputable def dZf(f g:DE):DE:=λρ=>(f ρ).bind λd=>(g ρ).bind λe=>match d,e with
 | .str a,.int i=>if PadOk i=true then some (.str (Txt.zfill a i)) else none
 | _,_=>none
theorem cv6(ho:JE X o f)(h:JE X e g)
  (hbase:eB o "zfill" X.env (eval o X.env)=eval o X.env:=by rfl)
  (hfew:((backTo cpos (dO [e] X.env)).all (λx=>!x.1)&&(backToKw cpos (keywordEach [] X.env)).all (λx=>x.1.isSome)
   && decide (([e]:List Expr).length+([]:List eh).length+(if([]:List eh).isEmpty then 0 else 1) < 30))=true:=by rfl)
  (hline:(apos.endLine==cpos.line)=true:=by rfl) (hs:dO [e] X.env=[(false,eval e X.env)]:=by rfl) :
  JE X (.Call (.Attribute o "zfill" apos) [e] [] cpos) (dZf f g):=λρ d q=>by
 obtain⟨x,e1,q⟩:=xbm q;obtain⟨y,e2,q⟩:=xbm q;split at q
 ·split at q
  ·rename_i hp;cases q;refine A5 (ak5 F.plainAttrs_str F.slot_str_zfill F.type_str_zfill cu2 (ho ρ _ e1) (B6 (h ρ _ e2) D3 hs) hbase hfew hline hs) λσ H Q ⟨H0,Hf,s,sl,k⟩=>?_
   refine⟨H0,Hf,s,sl,λv H1 Hf1 g1 r1=>?_⟩;cases r1;refine⟨rfl,H0,Hf1,g1.sub,sl.grow g1,λw H2 Hf2 g2 r2=>?_⟩;cases r2;exact⟨_,_,rfl,rfl,hp,k _ H2 Hf2 (g1.trans g2) rfl⟩
  ·cases q
 ·cases q
end
end G
namespace G
open PySem PySem.Spec PySem.W PyProof.Rows L2 PySem.SeqAt
end G
namespace G
open PySem PySem.Spec PySem.W PyProof.Rows L2 PySem.SeqAt
end G
namespace G
open PySem PySem.Spec PySem.W PyProof.Rows L2 PySem.SeqAt
end G
namespace G
open PySem PySem.Spec PyProof.Rows L2 PySem.SeqAt PySem.MeetsSeq PySem.MeetsSeq2 PySem.MeetsSeq3 PySem.SeqRoads2
open PySem.AutoSeq1 (wpAny_loadPart')
end G
namespace G
open PySem PySem.Spec PyProof.Rows L2
noncomputable def ab5(K:ag)(x:Str):Bool:=match clA K x with
 | some C=>bO K C veB "ValueError.__new__"
 | none=>false
noncomputable abbrev RD:=Rho->Option (Str×Rho)
noncomputable def EC(C:eW)(H1:Hp):XK:=λcls _ H'=>cls=.ref C/\B0 H1 H'
noncomputable def Ou(X:Cx)(m:Bool)(pins:List (eW×Obj))(ρ1:Rho)(C:eW)(H0 Hf0:Hp)(e:eU)(s':eV):Prop:=∃σ1 H1 Hf1 s1,Inv X pins σ1 H1 s1/\At X.K H0 Hf0 ρ1 σ1 H1 Hf1 /\
 ((m=true/\∃h' a vs,s'={ s1 with heap:=h' }/\e=.ref a/\Heap.MadeExcOf s1.heap h' a (.ref C) vs)\/CX1 X.prog X.w X.stack H1 s1 (EC C H1) e s')
noncomputable def Lo(X:Cx)(C:eW)(H0:Hp)(e:eU)(s':eV):Prop:=eD (eE X.prog X.w) X.A (leaving X.env e) (λ_ s''=>CX1 X.prog X.w X.outer X.H₀ X.s₀ (EC C H0) e s'') (λe' s''=>CX1 X.prog X.w X.outer X.H₀ X.s₀ (EC C H0) e' s'') s'
noncomputable def Ot(X:Cx)(m:Bool)(pins:List (eW×Obj))(ρ1:Rho)(C:eW)(H0 Hf0:Hp)(e:eU)(s':eV):Prop:=Ou X m pins ρ1 C H0 Hf0 e s'\/(m=true/\Lo X C H0 e s')
noncomputable def JR(X:Cx)(m:Bool)(st:Stmt)(r:RD):Prop:=∀ρ x ρ1 C,r ρ=some (x,ρ1)->clA X.K x=some C->∀H0 Hf0 pins s σ H Hf,Inv X pins σ H s->At X.K H0 Hf0 ρ σ H Hf ->
 eD (eE X.prog X.w) X.A (exec st X.env) (λ_ _=>False) (Ot X m pins ρ1 C H0 Hf0) s
noncomputable def JRs(X:Cx)(m:Bool)(sts:List Stmt)(r:RD):Prop:=∀ρ x ρ1 C,r ρ=some (x,ρ1)->clA X.K x=some C->∀H0 Hf0 pins s σ H Hf,Inv X pins σ H s->At X.K H0 Hf0 ρ σ H Hf ->
 eD (eE X.prog X.w) X.A (execs sts X.env) (λ_ _=>False) (Ot X m pins ρ1 C H0 Hf0) s
noncomputable def PX(X:Cx)(m:Bool)(e:Expr)(r:RD):Prop:=∀ρ x ρ1 C,r ρ=some (x,ρ1)->clA X.K x=some C->∀H0 Hf0 pins s σ H Hf,Inv X pins σ H s->At X.K H0 Hf0 ρ σ H Hf ->
 eD (eE X.prog X.w) X.A (eval e X.env) (λ_ _=>False) (Ot X m pins ρ1 C H0 Hf0) s
theorem noX{α:Type}{t:Sem α}{Q Q':α->eV->Prop}{M:Model}{A:dW}{E E':eU->eV->Prop}{s:eV}(hx:∀e s,E e s->False)(h:eD M A t Q E s)(hQ:∀a s,Q a s->Q' a s):eD M A t Q' E' s:=dJ h hQ λe s z=>(hx e s z).elim
section
variable {X:Cx}{m:Bool}(hx:∀e s,X.xe e s->False)
include hx
omit hx in
theorem bJ3{st:Stmt}{r:RD}(h1:JR X m st r):JRs X m [st] r:=λρ x ρ1 C q hC H0 Hf0 pins s σ H Hf I at_ =>
 wpAny_execs_cons (thn (h1 ρ x ρ1 C q hC H0 Hf0 pins s σ H Hf I at_) λ_ _ z=>z.elim)
noncomputable def spR(K:ag)(n:Nat)(R:List D->Option Str):Sp:=λvs H _ E=>vs.length=n/\∃Hf ds x C,B0 Hf H/\Reps K Hf ds vs/\R ds=some x/\clA K x=some C/\∀H',B0 H H'->E (.ref C) none H'
omit hx in
theorem ch5(h:PX X m e r):JR X m (.Return (some e) pos) r:=λρ x ρ1 C q hC H0 Hf0 pins s σ H Hf I at_ =>
 wpAny_Return_some (thn (h ρ x ρ1 C q hC H0 Hf0 pins s σ H Hf I at_) λ_ _ z=>z.elim)
end
end G
namespace G
open PySem PySem.Spec PyProof.Rows L2
section
variable {M:Model}{A:Around}{E:Value->Shared->Prop}{h:Heap}{g:Array GenState}{d:Drawn}{t:Nat}{os:OsState}
variable {nm qn nm2 qn2:Str}{C N D N2:Addr}{bs bm bs2 bm2:List Value}{hd hd2:Bool}{sn sn2:List Str}{sub sub2:List Value}{ab ab2:Bool}{col col2:Option Bool}{dd dd2:Option Addr}{k0 k1 k2 k3 k5 j0 j1 j2 j3 j5:Option Value}{nid nid2:String}
theorem cD5(hC:h.get? C=some (excClassObj nm qn C N bs bm hd sn sub ab col dd k0 k1 k2 k3 k5 nid))(hD:h.get? D=some (excClassObj nm2 qn2 D N2 bs2 bm2 hd2 sn2 sub2 ab2 col2 dd2 j0 j1 j2 j3 j5 nid2))
  (he:h.get? e=some oe) (hcls:oe.cls=.ref C) (hb:bm2.contains (.type "BaseException")=true) (hq:Q ((eP C::bm).contains (.ref D)) ⟨h,g,d,t,os⟩):eD M A (excMatches (.ref e) (.ref D)) Q E ⟨h,g,d,t,os⟩:=by
 have cB:(eP D::bm2).contains (.type "BaseException")=true:=by rw[List.contains_cons,hb,Bool.or_true]
 have f:=tc_notTuple;generalize hb:(eP C::bm).contains (.ref D)=b at hq;unfold excMatches
 repeat (first|(with_reducible refine wpAny_loadPart_at he ?_;rw[hcls])|with_reducible refine wpAny_loadPart_at hD ?_|(with_reducible refine wpAny_isSubtype_exc hD ?_;rw[cB])|(with_reducible refine wpAny_isSubtype_exc hC ?_;rw[hb])|wp_step)
 cases b<;>(wp_walk;exact hq)
end
noncomputable abbrev Cx.held(X:Cx)(e:eU):Cx:={ X with A:=X.A.mark (some e),calm:=false }
section
variable {X:Cx}{pins:List (Addr×Obj)}{σ:L2.St}{H:Hp}{s:Shared}
theorem Inv.held(I:Inv X pins σ H s)(e:eU):Inv (Cx.held X e) pins σ H s :=
 ⟨⟨I.ok.mod,I.ok.kind,I.ok.glob,I.ok.blt,I.ok.above,I.ok.inj,I.ok.has,I.ok.cab,(λz=>by cases z),I.ok.frames,I.ok.stk,I.ok.exf,I.ok.bs,I.ok.bsz,I.ok.noex,I.ok.exfs,I.ok.funs,I.ok.frf⟩,I.os,I.bare,I.base,I.loc,I.cell,I.free,I.freeC,I.pin,I.hok,I.len⟩
theorem Inv.unheld(I:Inv (Cx.held X e) pins σ H s)(ok:X.Ok):Inv X pins σ H s:=⟨ok,I.os,I.bare,I.base,I.loc,I.cell,I.free,I.freeC,I.pin,I.hok,I.len⟩
theorem Inv.wipe(I:Inv X pins σ H s)(hn:h'.Ns X.env.locals m')(hs:Heap.SameBut X.env.locals s.heap h'):Inv X pins (au σ.length none) H { s with heap:=h',toks:=tk }:=by
 have ne0:∀b o,X.s₀.heap.get? b=some o->b≠X.env.locals:=λb o e z=>by
  have:=eG e;rw[z]at this;exact absurd (aB this I.ok.above) (bf _)
 have eq:∀b,b≠X.env.locals->h'.get? b=s.heap.get? b:=λb hb=>hs.2 b hb
 refine⟨I.ok,I.os,I.bare,⟨λb o e n hb hx=>?_,λb o e n hb hx=>?_,I.base.free,λb o e hx=>?_,I.base.tups,I.base.frzs,I.base.tbls⟩,⟨m',hn,λi x v _ e _=>?_⟩,λx c e=>?_,I.free,I.freeC,λp hp=>?_,λa o e=>?_,by rw[bA];exact I.len⟩
 ·show h'.get? b=_;rw[eq b (ne0 b o e)];exact I.base.keep b o e n hb hx
 ·obtain⟨sl,q⟩:=I.base.slot b o e n hb hx;exact⟨sl,by show h'.get? b=_;rw[eq b (ne0 b o e)];exact q⟩
 ·obtain⟨o',q⟩:=I.base.there b o e hx;exact⟨o',by show h'.get? b=_;rw[eq b (ne0 b o e)];exact q⟩
 ·rw[aY]at e;split at e<;>cases e
 ·obtain⟨v,o,q1,q2⟩:=I.cell x c e;exact⟨v,o,by show h'.get? c=_;rw[eq c (I.cne x c e)];exact q1,q2⟩
 ·obtain⟨q1,q2,q3,q4,q5⟩:=I.pin p hp;exact⟨by show h'.get? p.1=_;rw[eq p.1 q3];exact q1,q2,q3,q4,q5⟩
 ·refine(I.hok a o e).stay (λb u hb q=>?_) (λ_ q=>q) λ_ _ q=>q
  show h'.get? b=_;rw[eq b λz=>?_]
  ·exact q
  ·have f:=I.free;rcases hb with rfl|hb
   ·rw[z,f]at e;cases e
   ·rw[z,f]at hb;cases hb
end
theorem F9.is(x:F9 P w H h a o):∃u,h.get? a=some u:=by
 cases o with
 | lst xs=>obtain⟨_,_,_,_,e⟩:=x;exact⟨_,e⟩
 | tup xs=>obtain⟨_,_,_,ob,e,_⟩:=x;exact⟨_,e⟩
 | dK kvs=>obtain⟨_,_,_,_,ob,_,_,e,_⟩:=x;exact⟨_,e⟩
 | dT kvs=>obtain⟨_,_,_,_,ob,_,_,e,_⟩:=x;exact⟨_,e⟩
 | set S n=>obtain⟨ob,_,_,_,e,_⟩:=x;exact⟨_,e⟩
 | ins C dx fs=>obtain⟨_,_,_,e,_⟩:=x;exact⟨_,e⟩
 | own y=>exact x
 | xd fs=>obtain⟨_,⟨ob,_,_,e,_⟩,_⟩:=x;exact⟨_,e⟩
 | rng lo hi=>obtain⟨_,_,_,e⟩:=x;exact⟨_,e⟩
 | frz ob u=>obtain⟨e,_⟩:=x;exact⟨_,e⟩
 | tbl ps=>exact⟨_,x⟩
 | met f y=>exact⟨_,x⟩
 | ext φ=>obtain⟨_,e,_⟩:=x;exact e
section
variable {X:Cx}{pins:List (Addr×Obj)}{σ:L2.St}{H:Hp}{s:Shared}{a:Addr}{oe:Obj}
noncomputable abbrev fz(oe:Obj)(a:eW):HO:=.frz oe (.own a)
theorem Inv.track(I:Inv X pins σ H s)(ha:H a=none)(e:s.heap.get? a=some oe)(n0:X.s₀.heap.get? a=none)(np:∀p∈X.pn++pins,p.1≠a)(nl:X.env.locals≠a)(nc:∀x c,X.env.cells.lookup x=some c->c≠a):Inv X pins σ (upd H a (fz oe a)) s:=by
 have nb:∀b o,X.s₀.heap.get? b=some o->b≠a:=λb o q z=>by rw[z,n0]at q;cases q
 have up:∀b o,H b=some o->upd H a (fz oe a) b=some o:=λb o q=>by rw[A9 (λz=>by rw[z,ha]at q;cases q)];exact q
 refine⟨I.ok,I.os,I.bare,⟨I.base.keep,I.base.slot,λb o q n hx=>?_,I.base.there,λb xs q=>up b _ (I.base.tups b xs q),λb o u q=>up b _ (I.base.frzs b o u q),λb ps q=>?_⟩,I.loc,I.cell,?_,λx c q=>?_,λp hp=>?_,λb o q=>?_,I.len⟩
 ·rw[A9 (nb b o q)];exact I.base.free b o q n hx
 ·obtain⟨more,z⟩:=I.base.tbls b ps q;exact⟨more,up b _ z⟩
 ·rw[A9 nl];exact I.free
 ·rw[A9 (nc x c q)];exact I.freeC x c q
 ·obtain⟨q1,q2,q3⟩:=I.pin p hp;exact⟨q1,by rw[A9 (np p hp)];exact q2,q3⟩
 ·by_cases hb:b=a
  ·subst hb;rw[A7]at q;cases q;exact⟨e,oe,e⟩
  ·rw[A9 hb]at q;exact(I.hok b o q).stay (λ_ _ _ z=>z) (λc z=>up c _ z) λc xs z=>up c _ z
theorem aL3(sm:B0 H1 H')(sb:B0 Hf1 H1)(ha:H' a=none):Grow H1 Hf1 (upd H' a (fz oe a)) (upd Hf1 a (fz oe a)):=by
 have h1:H1 a=none:=sm.free ha;have h2:Hf1 a=none:=sb.free h1;refine⟨λb o q=>?_,λb o q=>?_,λb o q=>?_,λb q=>?_⟩
 ·rw[A9 (B9 q h1)];exact sm b o q
 ·by_cases hb:b=a
  ·subst hb;rw[A7]at q ⊢;exact q
  ·rw[A9 hb]at q ⊢;exact sm b o (sb b o q)
 ·rw[A9 (B9 q h2)];exact q
 ·by_cases hb:b=a
  ·subst hb;exact .inr h1
  ·rw[A9 hb]at q;exact .inl q
end
end G
namespace G
open PySem PySem.Spec PyProof.Rows L2
noncomputable def bg1(K:ag)(x c:Str):Bool:=match clA K x,clA K c with
 | some C,some D=>(match K.lookup C with
  | some ⟨_,_,.cls cd,_⟩=>cd.mro.contains (.ref D)
  | _=>false)
 | _,_=>false
noncomputable def ap5(r:RD)(f:DS)(i:Nat)(g:DS):DS:=λρ=>match r ρ with
 | some (x,ρ1)=>(match g (ρ1.set i (some (.exc x))) with
  | some (.rt d)=>some (.rt d)
  | _=>none)
 | none=>f ρ
theorem Slots.setExc{K:ag}{H0 H Hf:Hp}{ρ:Rho}{σ:L2.St}(s:Slots K H0 ρ σ H Hf){i:Nat}{x:Str}{v:V}(hb:SB K H0 H Hf (.exc x) v):Slots K H0 (ρ.set i (some (.exc x))) (σ.set i (some v)) H Hf:=by
 have own:∀(j:Nat) (ds:List D),(ρ.set i (some (B.exc x)))[j]? = some (some (.own ds))->i≠j/\ρ[j]? = some (some (.own ds)):=λj ds h=>by
  rw[br]at h;split at h
  ·split at h<;>cases h
  ·rename_i n;exact⟨n,h⟩
 have gt:∀j,i≠j->(σ.set i (some v))[j]? = σ[j]?:=λj n=>by rw[br,if_neg n]
 refine⟨by rw[bF,bF];exact s.len,λj b h=>?_,λj k ds es c h1 h2 h3 h4=>?_⟩
 ·by_cases q:i=j
  ·subst q;rw[br,if_pos rfl]at h;split at h
   ·rename_i l;cases h;exact⟨v,by rw[br,if_pos rfl,if_pos (by rw[← s.len];exact l)],hb⟩
   ·cases h
  ·rw[br,if_neg q]at h;rw[gt j q];exact s.is j b h
 ·obtain⟨n1,h1⟩:=own j _ h1;obtain⟨n2,h2⟩:=own k _ h2;rw[gt j n1]at h3;rw[gt k n2]at h4;exact s.apart j k ds es c h1 h2 h3 h4
section
variable {X:Cx}
theorem bI9(hx:∀e s,X.xe e s->False)(hex:X.ex=[])(hst:X.stack=X.env::X.outer)(hfr:X.env.frame=some X.env.locals)
  (hb:JSs X body f) (hr:JRs X false body r) (hgc:Gl X c) (hmc:∀D,clA X.K c=some D->X.mg c=some (.ref D)) (hdc:(c==("__debug__" : Str))=false) (hcb:ab5 X.K c=true)
  (hsub:∀ρ x ρ1,r ρ=some (x,ρ1)->ab5 X.K x=true/\bg1 X.K x c=true)
  (hN:X.N.Nodup) (hi:X.N[i]? = some n) (hl:X.env.scope.names.lookup n=some .local) (hh:∀a:eW,JSs (Cx.held X (.ref a)) (b₀::suite) gd) :
  JS X (.Try body [.ExceptHandler (some (.Name c np)) (some n) (b₀::suite) hpos] [] [] pos) (ap5 r f i gd):=by
 intro ρ fl q H0 Hf0 pins s σ H En I hw;obtain⟨Hf,at_,ends⟩:=hw;unfold ap5 at q;split at q
 case h_2 =>
  refine wpAny_Try_except (noX hx (hb ρ fl q H0 Hf0 pins s σ H En I ⟨Hf,at_,ends⟩) λf' s1 z=>?_);cases f' with
  | next=>exact wpAny_execs_nil z
  | ret v=>exact z
  | brk=>exact z
  | cont=>exact z
 rename_i x ρ1 er
 obtain⟨d,hd,rfl⟩:∃d,gd (ρ1.set i (some (.exc x)))=some (.rt d)/\fl=.rt d:=by
  split at q
  ·rename_i d e;cases q;exact⟨d,e,rfl⟩
  ·cases q
 obtain⟨hxb,hsb⟩:=hsub ρ x ρ1 er
 obtain⟨C,hC⟩:∃C,clA X.K x=some C:=by
  unfold ab5 at hxb;cases e:clA X.K x with
  | none=>rw[e]at hxb;cases hxb
  | some C=>exact⟨C,rfl⟩
 obtain⟨D,hD⟩:∃D,clA X.K c=some D:=by
  unfold ab5 at hcb;cases e:clA X.K c with
  | none=>rw[e]at hcb;cases hcb
  | some C=>exact⟨C,rfl⟩
 have qC:bO X.K C veB "ValueError.__new__" = true:=by unfold ab5 at hxb;rw[hC]at hxb;exact hxb
 have qD:bO X.K D veB "ValueError.__new__" = true:=by unfold ab5 at hcb;rw[hD]at hcb;exact hcb
 obtain⟨nm,qn,N,bs,bm,hd',sn,sub,ab,col,dd,k0,k1,k2,k3,k5,mN,c1,c2,c3,c4⟩:=al9 I.mod.kin qC;obtain⟨nm',qn',N',bs',bm',hd'',sn',sub',ab',col',dd',j0,j1,j2,j3,j5,mN',d1,d2,d3,d4⟩:=al9 I.mod.kin qD
 have hin:(eP C::bm).contains (.ref D)=true:=by
  unfold bg1 at hsb;rw[hC,hD]at hsb;dsimp only at hsb;split at hsb
  ·rename_i lk;have z:=I.mod.kin _ _ lk;rw[c1]at z;cases z;exact hsb
  ·cases hsb
 refine wpAny_Try_except (dJ (hr ρ x ρ1 C er hC H0 Hf0 pins s σ H Hf I at_) (λ_ _ z=>z.elim) λex s1 ho=>?_);rcases ho with ho|⟨z,_⟩
 case inr=>cases z
 obtain⟨σ1,H1,Hf1,s0,I1,a1,o⟩:=ho;rcases o with⟨z,_⟩|hc
 ·cases z
 obtain⟨a,C',g,B,H',rfl,os,bare,un,hok,F,cE,sm⟩:=hc;cases cE;obtain⟨t,fl0⟩:=F.fly;have nx:∀b:eW,b∉([]:List eW):=λb z=>absurd z (by simp)
 have J:Inv X pins σ1 H' { s1 with heap:=g }:=I1.call' (s':={ s1 with heap:=g }) (ch:=[]) os un hok bare (λb z=>absurd z (nx b))
 have key:∀h'':Heap,B.StaysIn h''->s1.heap.UpToSlots h''->Inv X pins σ1 H' { s1 with heap:=h'' }:=λh'' k1 k2=>by
  refine bL4 (s':={ s1 with heap:=h'' }) I1 os bare un hok F.keep k1 λb o e m=>?_
  obtain⟨z,e2⟩:=F.sl b o e m;obtain⟨_,o',e',hd⟩:=J.stack.mem m;have e':g.get? b=some o':=e';rw[e]at e';cases e';obtain⟨z2,q⟩:=k2 b _ e2 hd;exact⟨z2,q⟩
 rw[hst]at fl0;refine wpAny_looks_onW (outer:=X.outer) (by rw[← hst];exact I.ok.frames) hfr fl0 λh4 held4 up4=>?_
 refine wpAny_landsW held4 λh5 fl5 up5=>?_
 have I5:=key h5 fl5.1 (up4.trans up5);obtain⟨ob,hob,hobc⟩:=fl5.there;refine wpAny_handleBy_cons (codeAny_handlers_test (O7 (Inv.held I5 (.ref a)) hgc (hmc D hD) ?_ hdc)) (by intro q;cases q);refine cD5 (I5.bk _ _ c1) (I5.bk _ _ d1) hob hobc (d4.hasType (by decide)) ?_;rw[hin];refine codeAny_handlers_suite_as (lands_againW fl5 λh6 fl6 up6=>?_);have I6:=key h6 fl6.1 ((up4.trans up5).trans up6);obtain⟨oe,ws,e6,ec6,ed6,_⟩:=fl6.first;have nB:B.get? a=none:=fl6.2.1
 have nf:a∉frs X.stack:=λm=>by
  obtain⟨_,o',e',hd⟩:=I6.stack.mem m;have e':h6.get? a=some o':=e';rw[e6]at e';cases e';exact hd ws ed6
 have ng:∀o,Rl s0 H' a->g.get? a=some o->False:=λo rr e=>by
  have:=F.keep a o rr e nf;rw[nB]at this;cases this
 have ha:H' a=none:=by
  cases e:H' a with
  | none=>rfl
  | some o =>
   obtain⟨u,e'⟩:=F9.is (hok a o e);exact(ng u (.inr (by rw[e];simp)) e').elim
 have n0:s0.heap.get? a=none:=by
  cases e:s0.heap.get? a with
  | none=>rfl
  | some o =>
   obtain⟨u,e'⟩:=un.there a o e (nx a);exact(ng u (.inl (by rw[e];simp)) e').elim
 have n00:X.s₀.heap.get? a=none:=by
  cases e:X.s₀.heap.get? a with
  | none=>rfl
  | some o =>
   obtain⟨u,e'⟩:=I1.base.there a o e (by rw[hex];exact nx a);rw[n0]at e';cases e'
 have I7:Inv X pins σ1 (upd H' a (fz oe a)) { s1 with heap:=h6 }:=by
  refine Inv.track I6 ha e6 n00 (λp hp z=>?_) (λz=>?_) λy cc e z=>?_
  ·have:=(I1.pin p hp).1;rw[z,n0]at this;cases this
  ·obtain⟨m,⟨o',_,_,e',_⟩,_⟩:=I1.loc;rw[z,n0]at e';cases e'
  ·obtain⟨v,o',e',_⟩:=I1.cell y cc e;rw[z,n0]at e';cases e'
 have gr:Grow H1 Hf1 (upd H' a (fz oe a)) (upd Hf1 a (fz oe a)):=aL3 sm a1.gr.sub ha;have a7:=a1.grow gr;refine Z9 (X:=Cx.held X (.ref a)) (v:=.ref a) (Inv.held I7 (.ref a)) hN hi (.inl hl) rfl (λs8 I8=>?_) (.inr hl);refine dJ (hh a _ _ hd H0 Hf0 pins s8 _ _ { nx:=λ_ _=>False,rt:=λv H'=>∃Hf',Grow H0 Hf0 H' Hf'/\Rep X.K Hf' d v } I8 ⟨_,⟨a7.gr,Slots.setExc a7.sl ⟨a,oe,C,rfl,A7,hC,ec6⟩⟩,λv H' Hf' g r=>⟨Hf',g,r⟩⟩) (λfl' s9 z=>?_) λe s z=>(hx e s z).elim
 cases fl' with
 | next=>obtain⟨_,_,_,z⟩:=z;exact z.elim
 | brk=>obtain⟨_,_,_,z⟩:=z;exact z.elim
 | cont=>obtain⟨_,_,_,z⟩:=z;exact z.elim
 | ret u =>
 obtain⟨v,σ9,H9,I9,rv,Hf9,g9,rp⟩:=z;have I9:=Inv.unheld I9 I.ok;obtain⟨m9,hn9,_⟩:=I9.loc;refine wpAny_nameGoes (m:=m9) (by show X.env.scope.names.lookup n=_;exact hl) hn9 (by rw[I.ok.kind];rfl) λh' m' hn' hs'=>?_
 exact⟨v,_,H9,Inv.wipe I9 hn' hs',rv,ends v H9 Hf9 g9 rp⟩
end
end G
namespace G
open PySem PySem.Spec PyProof.Rows L2
section
variable {prog:Program}{w:World}{A:Around}{E:Value->Shared->Prop}{h:Heap}{g:Array GenState}{d:Drawn}{t:Nat}{os:OsState}{a C:Addr}{o:Obj}{K:PySem.W.Frag}
noncomputable def xcB(K:ag)(C:eW):Bool:=PySem.W.findIn K (.ref C) "__class__" == some (some (.builtin "object.__class__"))&&PySem.W.findIn K (.ref C) "__getattribute__" == some (some (.builtin "BaseException.__getattribute__")) &&
 PySem.W.findIn K (.ref C) "__getattr__" == some none&&PySem.W.mroIn K C (.type "object")==some true&&PySem.W.mroIn K C (.type "BaseException")==some true
theorem bS0(kin:K.In h)(hx:h.get? a=some o)(hc:o.cls=.ref C)(hm:PySem.W.mroIn K C (.type "object")=some true)(hq:R (.ok (.ret (.ref C))) ⟨h,g,d,t,os⟩):
  codeAny (eE prog w) A (.call (.builtin "getset_descriptor.__get__") ⟨[.builtin "object.__class__", .ref a,.ref C],[]⟩) R ⟨h,g,d,t,os⟩:=by
 have hT5:(⟨h,g,d,t,os⟩:eV).TypeIs (.builtin "object.__class__") "getset_descriptor" := F.typeOf_object_class
 have L:PySem.W.Looks (eE prog w) h (isSubtype (.ref C) (.type (".".intercalate ("object.__class__".cutAt '.').dropLast))) true:=by
  rw[F.owner_object_class];exact PySem.W.looks_mroIn kin hm
 refine codeAny_call_builtin F.slot_gs_get.plain F.entry_gs_get (F.slot_gs_get.check _ _ _ _ _ _ _ _ hT5 (F.args_gs_get _ _ _) ?_)
 repeat (any_goals (first|assumption|(with_reducible refine wpAny_loadPart_at hx ?_;rw[hc])|with_reducible refine L.at ?_|wp_step))
 refine⟨Code.quiet_builtin _ (by decide +kernel),codeAny_builtin F.entry_object_class ?_⟩
 repeat (any_goals (first|assumption|(with_reducible refine wpAny_loadPart_at hx ?_;rw[hc])|wp_step))
theorem bc5(kin:K.In h)(hx:h.get? a=some o)(hc:o.cls=.ref C)(hf:PySem.W.findIn K (.ref C) "__class__" = some (some (.builtin "object.__class__")))(hm:PySem.W.mroIn K C (.type "object")=some true)(hq:Q (.done (.ret (.ref C))) ⟨h,g,d,t,os⟩):
  eD (eE prog w) A (Builtin.«object.__getattribute__» ⟨[.ref a,.str "__class__" tk],[]⟩) Q E ⟨h,g,d,t,os⟩:=by
 have hT5:(⟨h,g,d,t,os⟩:eV).TypeIs (.builtin "object.__class__") "getset_descriptor" := F.typeOf_object_class;have f5:=F.typeOf_object_class;have f6:=F.slot_gs_get.lookup;have f7:=F.slot_gs_set.lookup;have L:=PySem.W.looks_findIn (M:=eE prog w) kin hf
 repeat (any_goals (first|assumption|(with_reducible refine wpAny_loadPart_at hx ?_;rw[hc])|with_reducible refine L.at ?_|wp_step))
 refine bS0 kin hx hc hm ?_
 repeat (any_goals (first|assumption|wp_step))
theorem bc6(kin:K.In h)(hx:h.get? a=some o)(hc:o.cls=.ref C)(hm:PySem.W.mroIn K C (.type "BaseException")=some true)(hq:Q () ⟨h,g,d,t,os⟩):eD M A (checkBuiltinCall "BaseException.__getattribute__" ⟨[.ref a,nameV],[]⟩) Q E ⟨h,g,d,t,os⟩:=by
 have hk:builtinKind "BaseException.__getattribute__" = some .slot:=by decide +kernel
 have hsplit:splitId "BaseException.__getattribute__" = some ("BaseException", "__getattribute__"):=by decide +kernel
 have ha:=F.args_bexc_ga (.ref a) nameV;have L:=PySem.W.looks_mroIn (M:=M) kin hm;simp only[checkBuiltinCall,hk,hsplit];refine dH ?_;unfold isInstance
 repeat (first|(with_reducible refine wpAny_loadPart_at hx ?_;rw[hc])|with_reducible refine L.at ?_|wp_step)
 exact hq
theorem bx9(kin:K.In h)(hx:h.get? a=some o)(hc:o.cls=.ref C)(hb:xcB K C=true)(hq:R (.ok (.ret (.ref C))) ⟨h,g,d,t,os⟩):
  codeAny (eE prog w) A (.call (.builtin "BaseException.__getattribute__") ⟨[.ref a,.str "__class__" tk],[]⟩) R ⟨h,g,d,t,os⟩:=by
 simp only[xcB,ah,beq_iff_eq]at hb;exact codeAny_call_builtin F.attr_ValueError.ga.plain F.entry_bexc_ga (bc6 kin hx hc hb.2 (bc5 kin hx hc hb.1.1.1.1 hb.1.2 hq))
theorem cn3{tk:Tok}{fill expr:Bool}{Q:eU->eV->Prop}(kin:K.In h)(hx:h.get? a=some o)(hc:o.cls=.ref C)(hb:xcB K C=true)(hq:Q (.ref C) ⟨h,g,d,t,os⟩):eD (eE prog w) A (getAttrBy (.ref a) (.str "__class__" tk) fill expr) Q E ⟨h,g,d,t,os⟩:=by
 have hb':=hb;simp only[xcB,ah,beq_iff_eq]at hb';have L1:=PySem.W.looks_findIn (M:=eE prog w) kin hb'.1.1.1.2;have L2:=PySem.W.looks_findIn (M:=eE prog w) kin hb'.1.1.2;have f3:=F.attr_ValueError.ga.bind (.ref a);have z0:(expr&&onTheHeap (Value.builtin "BaseException.__getattribute__"))=false:=by cases expr<;>rfl
 have z2:(Value.builtin "BaseException.__getattribute__" == Value.builtin "object.__getattribute__")=false:=by decide +kernel
 have z1:(onTheHeap (eP C)&&Value.builtin "BaseException.__getattribute__" == Value.builtin "object.__getattribute__")=false:=by rw[z2];rfl
 repeat (any_goals (first|assumption|(with_reducible refine wpAny_loadPart_at hx ?_;rw[hc])|with_reducible refine L1.at ?_|with_reducible refine L2.at ?_|wp_step))
 refine bx9 kin hx hc hb ?_
 repeat (any_goals (first|assumption|wp_step))
theorem by0{Q:Option eU->eV->Prop}(kin:K.In h)(hx:h.get? a=some o)(hc:o.cls=.ref C)(hb:xcB K C=true)(hq:Q (some (.ref C)) ⟨h,g,d,t+1,os⟩):eD (eE prog w) A (getAttr? (.ref a) "__class__") Q E ⟨h,g,d,t,os⟩:=by
 unfold getAttr? getAttrBy?
 repeat (any_goals (first|assumption|with_reducible apply cn3 kin hx hc hb|wp_step))
theorem bo3(hb:xcB K C=true)(hq:bO K C bb nid=true):PySem.W.KitX K (.ref a) (.ref C) (λh=>∃o,h.get? a=some o/\o.cls=.ref C) where
 ty:=λ_ _ _ ⟨o,h1,h2⟩=>h2 ▸ (PySem.W.Looks.ld h1).andThen .now
 it:=λ_ _ kin _=>by
  obtain⟨nm,qn,N,bs,bm,hd,sn,sub,ab,col,dd,k0,k1,k2,k3,k5,mN,g1,_⟩:=al9 kin hq;intro A' Q' E' s' k q;unfold isType loadHead;exact dH (wpAny_loadPart (k _ _ g1) (dI q))
 ne:=λh tp dd its n sl kin htp=>by
  obtain⟨nm,qn,N,bs,bm,hd,sn,sub,ab,col,dd',k0,k1,k2,k3,k5,mN,g1,_⟩:=al9 kin hq;refine Bool.eq_false_iff.mpr λq=>?_
  have e:C=tp:=Value.ref.inj (beq_iff_eq.mp q);subst e;rw[g1]at htp;have z:=congrArg Obj.data (bg.inj htp);cases z
 ca:=λ{_ _ _ _ _ s} kin ⟨o,h1,h2⟩ k=>by
  obtain⟨h,g,d,t,os⟩:=s;exact by0 kin h1 h2 hb k
end
section
variable {X:Cx}
noncomputable def aF4(i:Nat)(tb:Str->Option Bool):DE:=λρ=>match ρ[i]? with
 | some (some (.exc x))=>(tb x).map eM
 | _=>none
noncomputable def bx5(K:ag)(cv:eU)(tb:Str->Option Bool):Prop:=∀x b,tb x=some b->∃C,clA K x=some C/\xcB K C=true/\bO K C veB "ValueError.__new__" = true/\PySem.W.kitOne K (.ref C) cv=some b
theorem bw9(hv:C5 v cv)(hv':∀u,C5 v u->u=cv)(ok:bx5 X.K cv tb):Q5 X (.builtin "isinstance") (λxs H Q=>∃x y b H0 Hf,xs=[y,v]/\B0 Hf H/\SB X.K H0 H Hf (.exc x) y/\tb x=some b/\Q (.bl b) H):=by
 intro pins s σ H xs us Q I r h;obtain⟨x,y,b,H0,Hf,rfl,sm,⟨a,o,C,rfl,e1,e2,e3⟩,hb,q⟩:=h;obtain⟨u,c,rfl,rx,rc⟩:=bd5 r;cases rx;obtain rfl:=hv' c rc;obtain⟨C',f1,f2,f3,f4⟩:=ok x b hb;rw[e2]at f1;cases f1;obtain⟨z,_⟩:=(show F9 X.prog X.w H s.heap a (.frz o (.own a)) from I.hok a _ (sm _ _ e1));exact PySem.W.kia_one (bo3 f2 f3) I.kIn ⟨o,z,e3⟩ f4 (λz=>nomatch z) λtk=>⟨.bl b,H,I.tok tk,rfl,q⟩
end
end G
namespace G
open PySem PySem.Spec PyProof.Rows L2
section
variable {X:Cx}
theorem aR5{y:Str}{D:eW}{pos:Pos}(hg:Gl X y)(hm:X.mg y=some (.ref D))(hd:(y==("__debug__" : Str))=false):PE X (.Name y pos) (tC (.ref D)):=λpins s σ H Q I h=>O7 I hg hm ⟨.ref D,H,I,rfl,h⟩ hd
theorem aK5(hg:Gl X "isinstance")(hm:X.mg "isinstance" = none)(hN:X.N[i]? = some n)(hv:Vis X.env.scope n)(hd:(n==("__debug__" : Str))=false)(hcd:(n==("__classdict__" : Str))=false)
  (hc:PE X (.Name y p2) (tC v)) (r1:C5 v cv) (r2:∀u,C5 v u->u=cv) (ok:bx5 X.K cv tb)
  (he:dO [.Name n p1,.Name y p2] X.env=(false,eval (.Name n p1) X.env)::dO [.Name y p2] X.env:=by rfl) (he2:dO [.Name y p2] X.env=[(false,eval (.Name y p2) X.env)]:=by rfl) (hpl:(backTo pos (dO [.Name y p2] X.env)).any (·.1)=false:=by rfl) :
  JE X (.Call (.Name "isinstance" p) [.Name n p1,.Name y p2] [] pos) (aF4 i tb):=λρ d q=>by
 unfold aF4 at q;split at q
 case h_2=>cases q
 rename_i x e;obtain⟨b,hb,rfl⟩:=af.mp q;refine A5 (J1 (bw9 r1 r2 ok) hg hm aN0 (B6 (J9 hN hv hd hcd) (B6 hc D3 he2) he) (he:=he) (hpl:=hpl)) λσ H Q ⟨H0,Hf,s,sl,k⟩=>?_
 obtain⟨v0,h1,sb⟩:=sl.is i _ e;exact⟨v0,h1,x,v0,b,H0,Hf,rfl,s,sb,hb,k _ H Hf (Grow.refl s) rfl⟩
end
end G
namespace G
open PySem PySem.Spec PyProof.Rows L2
structure RoomQ (k:Nat) (A:dW):Prop where
 dp:A.depth+3*k+5 < recursionLimit
 un:A.units+16*k+200 < cLine
noncomputable abbrev cxQ(P:dU)(w:World)(K:ag)(mg:Str->Option eU)(base:Heap)(N:List Str)(qual:Str)(scope:Scope)(f:eW)(cd:eU)(A:dW)(outer:List Env)(s:eV)(H:Hp):Cx:={ (ay1 CX0 P w K mg base N qual scope f cd A outer s H E0).nox with calm:=false }
structure FnQ (P:dU) (w:World) (K:ag) (mg:Str->Option eU) (base:Heap) (k:Nat) (f:eW) (fd:dX) (ps:List Str) (sp:Sp):Prop where
 len:∀vs H Q E,sp vs H Q E->vs.length=ps.length
 run:∀(A:dW) (outer:List Env) (s:eV) (H:Hp) (args:Args) (us:List eU) (vs:List V) (Q:VK),RoomQ k A->Env0 P w K mg base A outer s H->BindsTo s fd args (ps.zip us)->C9 vs us->sp vs H Q E0->codeAny (eE P w) A (.call (.ref f) args) (CR CX0 outer P w H s Q E0) s
theorem aL1{P:dU}{w:World}{K:ag}{mg:Str->Option eU}{base:Heap}{N ps:List Str}{qual:Str}{scope:Scope}{f:eW}{cd:eU}{A:dW}{outer:List Env}{s s1:eV}{H:Hp}{us:List eU}{vs:List V}
  (S:FnScope N ps scope) (e0:Env0 P w K mg base A outer s H) (hl:vs.length=ps.length) (r:C9 vs us)
  (x:InCallC s s.heap.objs.size (bindL (envOfC qual scope s.heap.objs.size f cd).kindOf (ps.zip us) λ_=>none) (cellsFrom (s.heap.objs.size+1) scope.names []) (bindC (envOfC qual scope s.heap.objs.size f cd).kindOf (ps.zip us) λ_=>none) s1) :
  Inv (cxQ P w K mg base N qual scope f cd A outer s H) [] (start N vs) H s1:=by
 have hpl:ps.length<=N.length:=by have:=congrArg cZ S.pre;rw[bI]at this;omega
 obtain⟨h1,tk,rfl,hk⟩:=x.done;have noA:∀b:eW,b∉(cxQ P w K mg base N qual scope f cd A outer s H).ex:=λb z=>absurd (show b∈([]:List eW) from z) (by simp)
 refine⟨⟨e0.mod,S.kind,rfl,rfl,aj _,λy z c h1 h2=>?_,λy hy=>?_,λy c _ h=>?_,(λz=>nomatch z),Around.frames_deeper e0.frames,.inr ⟨rfl,rfl⟩,λb z=>absurd z (noA b),e0.bs,e0.bsz,λb _ _=>noA b,λb z=>absurd z (noA b),e0.funs,e0.frf⟩,
  rfl,e0.bare,Un.kept hk,⟨_,x.toInCall.ns,λi y v h1 h2 h3=>?_⟩,λy c h=>⟨_,x.cell y c h⟩,e0.hok.fresh (aj _),λy c h=>?_,λp hp=>absurd (show p∈([]:List (eW×Obj)) from hp) (by simp),e0.hok.kept hk,?_⟩
 ·exact name_of_addr x.apart (PySem.mem_of_lookup h1) (PySem.mem_of_lookup h2)
 ·have hy:scope.names.lookup y=some .cell\/scope.names.lookup y=some .free:=hy;rcases hy with hy|hy
  ·exact aa7 hy
  ·exact absurd rfl (S.nofree _ (PySem.mem_of_lookup hy))
 ·exact bG (x.above y c (PySem.mem_of_lookup h))
 ·have hi:i < vs.length:=by
   unfold L2.start at h2;by_cases hi:i < vs.length
   ·exact hi
   ·rw[aq (by simpa using hi)]at h2;rw[aY]at h2;split at h2<;>cases h2
  have ha:vs[i]? = some v:=by
   unfold L2.start at h2;rw[az (by simpa using hi),aF]at h2;cases e:vs[i]? with
   | none=>rw[e]at h2;cases h2
   | some a=>rw[e]at h2;cases h2;rfl
  obtain⟨u,hu,rv⟩:=r.get ha
  have hp:ps[i]? = some y:=by
   rw[← S.pre,dk (by omega)];exact h1
  have ndP:ps.Nodup:=by rw[← S.pre];exact S.nd.sublist (List.take_sublist _ _)
  refine⟨u,rv,?_⟩;rcases S.par y (bM hp) with k|k
  ·exact .inl ⟨k,ad3 ndP hp hu k⟩
  ·obtain⟨c,e⟩:=aa7 (n:=s.heap.objs.size+1) k;refine .inr ⟨.inl k,c,e,?_⟩;have q:=x.cell y c e;rw[ad4 ndP hp hu (by show scope.names.lookup y≠_;rw[k];decide)]at q;exact q
 ·exact e0.hok.fresh (bG (x.above y c (PySem.mem_of_lookup h)))
 ·unfold L2.start;show _=N.length;rw[aG,ak,bA];omega
theorem ck7{P:dU}{w:World}{K:ag}{mg:Str->Option eU}{base:Heap}{k:Nat}{x qual:Str}{st:Stmt}{f:eW}{fd:dX}{N ps:List Str}{sp:Sp}(F:Fun K x qual st f fd)(S:FnScope N ps (A2 st))(len:∀vs H Q E,sp vs H Q E->vs.length=ps.length)
  (hbody:∀(cdv:eU) (A:dW) (outer:List Env) (s:eV) (H:Hp) (vs:List V) (Q:VK),RoomQ k (A.deeper (envOfC qual (A2 st) s.heap.objs.size f cdv))->sp vs H Q E0->∃t,PSs (cxQ P w K mg base N qual (A2 st) f cdv A outer s H) (C8 st) t/\t { nx:=λ_ H'=>Q .non H',rt:=Q } (start N vs) H):FnQ P w K mg base (k+1) f fd ps sp:=by
 obtain⟨oc,od,kV,doc,pm,an,cdv,ct,osl,rfl,lk,hcd⟩:=F.ex;refine⟨len,λA outer s H args us vs Q hr e0 hb r hsp=>?_⟩;have hl:=len _ _ _ _ hsp;have KX:K.In s.heap:=e0.mod.kin.keeps λb o e=>(e0.bs b o e).1
 have lim:s.heap.NoLimit:=e0.mod.nolimit.keeps λb o e=>(e0.bs b o e).1
 have hkind:∀y∈ps.zip us,(A2 st).names.lookup y.1=some .local\/((A2 st).names.lookup y.1=some .cell/\((cellsFrom (s.heap.objs.size+1) (A2 st).names []).lookup y.1).isSome=true):=λ⟨n,v⟩ hy=>by
  rcases S.par n (cP hy).1 with q|q
  ·exact .inl q
  ·exact .inr ⟨q,PySem.W.cellsFrom_some _ _ _ (.inl q)⟩
 have dpt:A.depth < recursionLimit:=by have:=hr.dp;omega
 refine codeAny_call_function (by first|exact dpt|(have:=hr.dp;omega)) (KX _ _ lk) rfl S.co S.gen rfl (PySem.W.codeRec_of KX hcd) (hb _ _ _ _ ?_);refine wpAny_newFunctionEnv_cells S.kind hkind λenv he s1 x=>?_
 subst he;refine⟨lim.keeps x.toInCall.keep,codeAny_func ?_⟩;obtain⟨t,ht,hq⟩:=hbody cdv A outer s H vs Q ⟨by have:=hr.dp;show A.depth+1+3*k+5 < _;omega,by have:=hr.un;show A.units+3+16*k+200 < _;omega⟩ hsp;have I:L2.Inv (cxQ P w K mg base N qual (A2 st) f cdv A outer s H) [] (start N vs) H s1:=aL1 S e0 hl r x;refine dJ (ht [] s1 (start N vs) H _ I hq) (λfl s' hs=>?_) λe s' hs=>False.elim hs
 have fin:∀{σ':L2.St}{H':Hp}{v:V}{u:eU},L2.Inv (cxQ P w K mg base N qual (A2 st) f cdv A outer s H) [] σ' H' s'->C5 v u->Q v H'->CE outer P w H s Q u s' :=
  λ{σ' H' v u} J rv q=>⟨v,H',J.os,J.bare,J.base,J.hok,rv,q⟩
 cases fl with
 | ret u =>
  obtain⟨v,σ',H',J,rv,q⟩:=hs;exact fin J rv q
 | next =>
  obtain⟨σ',H',J,q⟩:=hs;exact fin (v:=V.non) (u:=eQ) J rfl q
 | brk =>
  obtain⟨_,_,_,q⟩:=hs;exact False.elim q
 | cont =>
  obtain⟨_,_,_,q⟩:=hs;exact False.elim q
noncomputable def aj3(n:Nat)(x:Str):Rho:=some (.exc x)::au (n - 1) none
noncomputable def bD7(g:DS)(n:Nat):Str->Option D:=λx=>(g (aj3 n x)).bind λfl=>match fl with
 | .rt d=>some d
 | _=>none
noncomputable def spX(K:ag)(F:Str->Option D):Sp:=λvs H Q _=>∃Hf x v d,vs=[v]/\B0 Hf H/\SB K H H Hf (.exc x) v/\F x=some d/\∀u H' Hf',Grow H Hf H' Hf'->Rep K Hf' d u->Q u H'
theorem at2{K:ag}{H0 H Hf:Hp}{N:List Str}{x:Str}{v:V}(hN:1<=N.length)(r:SB K H0 H Hf (.exc x) v):Slots K H0 (aj3 N.length x) (L2.start N [v]) H Hf:=by
 have only:∀(i:Nat) (b:B),(aj3 N.length x)[i]? = some (some b)->i=0/\b=.exc x:=λi b h=>by
  unfold aj3 at h;cases i with
  | zero=>rw[List.getElem?_cons_zero]at h;cases h;exact⟨rfl,rfl⟩
  | succ i =>
   rw[List.getElem?_cons_succ,aY]at h;split at h<;>cases h
 refine⟨by simp[aj3,L2.start],λi b e=>?_,λi j d1 d2 a e1 _ _ _=>?_⟩
 ·obtain⟨rfl,rfl⟩:=only i b e;exact⟨v,rfl,r⟩
 ·obtain⟨_,z⟩:=only i _ e1;cases z
theorem bt7{P:dU}{w:World}{K:ag}{mg:Str->Option eU}{base:Heap}{x qual:Str}{st:Stmt}{f:eW}{fd:dX}{N ps:List Str}{k:Nat}{g:DS}(F:Fun K x qual st f fd)(S:FnScope N ps (A2 st))(hp:ps.length=1)
  (hb:∀(cdv:eU) (A:dW) (outer:List Env) (s:eV) (H:Hp),RoomQ k (A.deeper (envOfC qual (A2 st) s.heap.objs.size f cdv))->JSs (cxQ P w K mg base N qual (A2 st) f cdv A outer s H) (C8 st) g) :
  FnQ P w K mg base (k+1) f fd ps (spX K (bD7 g N.length)):=by
 have hN:1<=N.length:=by have:=congrArg cZ S.pre;rw[bI,hp]at this;omega
 refine ck7 F S (λvs H Q E h=>by obtain⟨_,_,_,_,rfl,_⟩:=h;rw[hp];rfl) λcdv A outer s H vs Q hr hsp=>?_
 obtain⟨Hf,y,v,d,rfl,ss,sb,e,kk⟩:=hsp;obtain⟨fl,e1,e2⟩:=xbm e;refine⟨_,hb cdv A outer s H hr _ fl e1 H Hf,Hf,⟨Grow.refl ss,at2 hN sb⟩,?_⟩;cases fl with
 | rt d'=>cases e2;exact λv H' Hf' g r=>kk v H' Hf' g r
 | nx ρ=>cases e2
 | bk ρ=>cases e2
 | ct ρ=>cases e2
section
variable {X:Cx}
noncomputable def ay0(i:Nat)(F:Str->Option D):DE:=λρ=>match ρ[i]? with
 | some (some (.exc x))=>F x
 | _=>none
theorem br8(Fk:FnQ X.prog X.w X.K X.mg X.base k f fd ps (spX X.K F))(hr:RoomQ k X.A)(hg:Gl X x)(hm:X.mg x=some (.ref f))(hk:aD X.K (.ref f)=true)(hb:E8 X.K fd ps [])
  (hN:X.N[i]? = some n) (hv:Vis X.env.scope n) (hd:(n==("__debug__" : Str))=false) (hcd:(n==("__classdict__" : Str))=false) (hdb:(x==("__debug__" : Str))=false) :
  JE X (.Call (.Name x p) [.Name n p1] [] pos) (ay0 i F):=λρ d q=>by
 unfold ay0 at q;split at q
 case h_2=>cases q
 rename_i y e;intro pins s σ H Q I ⟨H0,Hf,ss,sl,kk⟩;obtain⟨v0,h1,sb⟩:=sl.is i _ e;refine wpAny_Call_Name_kw (O7 I hg hm ?_ hdb);refine PySem.W.callWith_K (h₀:=X.base) I.ok.mod.kin hk (thn (B6 (J9 hN hv hd hcd) D3 rfl pos pins s σ H (λvs H'=>vs=[v0]/\H'=H) I ⟨v0,h1,rfl,rfl⟩) λus s1 ⟨vs,H1,I1,r,e1,e2⟩=>⟨I1.kIn,?_⟩) rfl rfl;subst e1 e2;have sp:spX X.K F [v0] H1 Q E0:=⟨Hf,y,v0,d,rfl,ss,sb,q,λu H' Hf' g r=>kk u H' Hf' g r⟩;have hl2:us.length=ps.length:=by rw[← r.length];exact Fk.len _ _ _ _ sp
 have bd:BindsTo s1 fd ⟨us,[]⟩ (ps.zip us):=by
  have:=hb s1 us I1.kIn (by rw[aw];exact hl2)
  rwa [aw]at this
 refine wpAny_call (codeAny_mono (Fk.run X.A X.stack s1 H1 ⟨us,[]⟩ us [v0] Q hr I1.env0 bd r sp) λrs s' hq=>?_);cases rs with
 | error e=>exact False.elim hq
 | ok fl =>
  cases fl with
  | ret u=>exact I1.after hq
  | next=>exact False.elim hq
  | brk=>exact False.elim hq
  | cont=>exact False.elim hq
end
end G
namespace G
theorem xg0{α:Type}{a:α}{l:List α}:(a::l)[0]? = some a:=rfl
theorem xg1{α:Type}{a:α}{i:Nat}{l:List α}:(a::l)[i+1]? = l[i]?:=rfl
theorem xw0{α:Type}{a b:α}{l:List α}:(a::l).set 0 b=b::l:=rfl
theorem xw1{α:Type}{a b:α}{i:Nat}{l:List α}:(a::l).set (i+1) b=a::l.set i b:=rfl
theorem xbs{α β:Type}{a:α}{f:α->Option β}:(some a).bind f=f a:=rfl
theorem xms{α β:Type}{a:α}{f:α->β}:(some a).map f=some (f a):=rfl
theorem xca{α:Type}{a:α}{l m:List α}:(a::l)++m=a::(l++m):=rfl
theorem xna{α:Type}{l:List α}:[]++l=l:=rfl
theorem xmc{α β:Type}{f:α->β}{a:α}{l:List α}:(a::l).map f=f a::l.map f:=rfl
theorem xmn{α β:Type}{f:α->β}:[].map f=[]:=rfl
theorem xnf:(!false)=true:=rfl
theorem xnt:(!true)=false:=rfl
theorem xft:(false=true)=False:=by simp
end G
local macro_rules
  | `(‹$x›) => `(some (G.B.val $x))
local macro_rules
  | `(⇑$x) => `(G.dC (PySem.PyData.int $x))
noncomputable section
namespace Sh
open PySem PySem.Spec PyProof.Rows L2 G
def ad6:DS:=(E9 (S5 (tB2 neD (A1 1) ⇑0) (E9 (J8 2 (A3 O2 (A1 0) (A1 1))) (E9 (J8 0 (A1 1)) (J8 1 (A1 2))))) (D9 (A1 0)))
def G6:List D->Option D:=G4 ad6 3
def R6:DS:=(E9 (J8 2 (A6 G6 (A0 (A1 0) (A0 (A1 1) A4)))) (D9 (M6 (A0 (A3 Z3 (A1 0) (A1 2)) (A0 (A3 Z3 (A1 1) (A1 2)) A4)))))
def ab3:List D->Option D:=G4 R6 3
def N3:DS:=(D9 (A3 leI (A3 X5 (dIx (B2 0) ⇑0) (dIx (B2 1) ⇑1)) (A3 X5 (dIx (B2 1) ⇑0) (dIx (B2 0) ⇑1))))
def K4:List D->Option D:=G4 N3 2
def ai4:DS:=(D9 (A6 ab3 (A0 (A3 X5 (dIx (B2 0) ⇑0) (dIx (B2 1) ⇑0)) (A0 (A3 X5 (dIx (B2 0) ⇑1) (dIx (B2 1) ⇑1)) A4))))
def bN5:List D->Option D:=G4 ai4 2
def an2:DS:=(E9 (sIf (tB2 eqD (A1 0) (N7 A4)) (D9 (A3 X5 ⇑7 (A1 1))) Z2) (D9 (A3 Z4 (dIx (B2 0) (A3 O2 (A1 1) (am5 (B2 0)))) (A3 X5 ⇑6553 (A3 Z3 (A1 1) (am5 (B2 0)))))))
def an3:List D->Option D:=G4 an2 2
def as4:DS:=(E9 (J8 3 (A3 O2 (A3 Z4 (A3 X5 (A3 O2 (A6 an3 (A0 (A1 0) (A0 (A1 1) A4))) ⇑2147483563) ⇑69069) (A3 X5 ⇑104723 (A3 Z4 (A1 1) ⇑1))) ⇑2147483563)) (E9 (J8 3 (A3 O2 (A3 Z4 (A3 X5 (A1 3) (A1 3)) (A3 Z3 (A1 3) ⇑3)) ⇑2147483399)) (D9 (A3 O2 (A3 Z3 (A3 O2 (A3 Z4 (A3 X5 (A1 3) (A1 3)) (A3 Z3 (A1 3) ⇑7)) ⇑2147483647) ⇑11) (A1 2)))))
def B4:List D->Option D:=G4 as4 4
def ab0:DS:=(E9 (J8 2 (A1 0)) (E9 (J8 3 (A1 1)) (E9 (S5 (tB2 gtI (A1 2) ⇑0) (bh6 2 3 (A0 (A3 O2 (A1 3) (A1 2)) (A0 (A1 2) A4)))) (D9 (M6 (A0 (A3 Z3 (A1 0) (A1 3)) (A0 (A3 Z3 (A1 1) (A1 3)) A4)))))))
def W3:List D->Option D:=G4 ab0 4
def as2:DS:=(D9 (A6 W3 (A0 (A3 X5 (dIx (B2 0) ⇑0) (dIx (B2 1) ⇑0)) (A0 (A3 X5 (dIx (B2 0) ⇑1) (dIx (B2 1) ⇑1)) A4))))
def ad8:List D->Option D:=G4 as2 2
def as3:DS:=(E9 (J8 2 (A3 Z4 ⇑1 (A6 B4 (A0 (A1 0) (A0 (A1 1) (A0 ⇑12 A4)))))) (E9 (J8 3 (A6 W3 (A0 (A6 B4 (A0 (A1 0) (A0 (A3 Z4 (A1 1) ⇑1) (A0 (A3 Z4 (A1 2) ⇑1) A4)))) (A0 (A1 2) A4)))) (D9 (dIx (qN (A0 (A1 3) (A0 (A1 3) (A0 (A1 3) (A0 (M6 (A0 ⇑0 (A0 ⇑1 A4))) (A0 (M6 (A0 ⇑1 (A0 ⇑1 A4))) A4)))))) (A6 B4 (A0 (A1 0) (A0 (A3 Z4 (A1 1) ⇑2) (A0 ⇑5 A4))))))))
def k7:List D->Option D:=G4 as3 4
def aG4:DS:=(E9 (J8 2 (A6 k7 (A0 (A1 0) (A0 (A1 1) A4)))) (D9 (A3 Z4 (M6 (A0 (A1 2) A4)) (aa2 (qN (E4 1 [2,0,1] (P4 ⇑3) (F4 0) G7 (A6 ad8 (A0 (A1 1) (A0 (A6 k7 (A0 (A1 2) (A0 (A3 Z4 (A3 Z4 (A1 3) ⇑3) (A3 X5 ⇑3 (A1 0))) A4))) A4)))))))))
def P7:List D->Option D:=G4 aG4 3
def az6:DS:=(D9 (p7 (aa3 "int" (A1 0)) (bv7 (aa3 "bool" (A1 0)))))
def Y6:List D->Option D:=G4 az6 1
def ab1:DS:=(E9 (sIf (Z8 (K5 (S4 (aa3 "tuple" (A1 0)))) (Z8 (tB2 neD (am5 (B2 0)) ⇑2) (Z8 (K5 (S4 (A6 Y6 (A0 (dIx (B2 0) ⇑0) A4)))) (K5 (S4 (A6 Y6 (A0 (dIx (B2 0) ⇑1) A4))))))) (D9 (dC (.bool false))) Z2) (D9 (p7 (A3 gtI (dIx (B2 0) ⇑1) ⇑0) (p7 (U6 leI leI ⇑0 (dIx (B2 0) ⇑0) (dIx (B2 0) ⇑1)) (A3 eqD (A6 W3 (A0 (dIx (B2 0) ⇑0) (A0 (dIx (B2 0) ⇑1) A4))) (A1 0))))))
def az8:List D->Option D:=G4 ab1 1
def aN5:DS:=(D9 (p7 (aa3 "int" (A1 0)) (bv7 (aa3 "bool" (A1 0)))))
def O3:List D->Option D:=G4 aN5 1
def T3:DS:=(E9 (sIf (Z8 (K5 (S4 (aa3 "tuple" (A1 0)))) (tB2 neD (am5 (B2 0)) ⇑2)) (D9 (dC (.bool false))) Z2) (E9 (J8 1 (dIx (B2 0) ⇑0)) (E9 (J8 2 (dIx (B2 0) ⇑1)) (E9 (sIf (Z8 (K5 (S4 (A6 O3 (A0 (A1 1) A4)))) (K5 (S4 (A6 O3 (A0 (A1 2) A4))))) (D9 (dC (.bool false))) Z2) (D9 (p7 (A3 gtI (A1 2) ⇑0) (p7 (U6 leI leI ⇑0 (A1 1) (A1 2)) (A3 eqD (A6 G6 (A0 (A1 1) (A0 (A1 2) A4))) ⇑1))))))))
def T4:List D->Option D:=G4 T3 3
def W0:DS:=(E9 (sIf (Z8 (K5 (S4 (aa3 "tuple" (A1 0)))) (tB2 neD (am5 (B2 0)) ⇑4)) (D9 (dC (.bool false))) Z2) (E9 (sIf (K5 (S4 (aF5 (qN (E4 1 [] (L3 (A1 0)) (F4 0) G7 (A6 T4 (A0 (A1 0) A4))))))) (D9 (dC (.bool false))) Z2) (D9 (aF5 (qN (E4 1 [0] (L3 (ax6 (A1 0) (K6 ⇑1) L0)) (F4 0) G7 (A6 K4 (A0 (A1 0) (A0 (dIx (B2 1) ⇑0) A4)))))))))
def O4:List D->Option D:=G4 W0 1
end Sh
namespace Sh
open PySem PySem.Spec PyProof.Rows L2 G
end Sh
namespace Sh
open PySem PySem.Spec PyProof.Rows L2 G
def j8:DS:=(D9 (p7 (A6 O3 (A0 (A1 0) A4)) (U6 leI leI ⇑1 (A1 0) ⇑8)))
def W4:List D->Option D:=G4 j8 1
def T1:DS:=(E9 (sIf (Z8 (K5 (S4 (aa3 "tuple" (A1 0)))) (tB2 neD (am5 (B2 0)) ⇑3)) (D9 (dC (.bool false))) Z2) (D9 (p7 (A6 W4 (A0 (dIx (B2 0) ⇑0) A4)) (p7 (A6 W4 (A0 (dIx (B2 0) ⇑1) A4)) (aa3 "tuple" (dIx (B2 0) ⇑2))))))
def Y7:List D->Option D:=G4 T1 1
def T2:DS:=(E9 (sIf (K5 (S4 (A6 Y7 (A0 (A1 0) A4)))) (D9 (dC (.bool false))) Z2) (E9 (J8 1 (dIx (B2 0) ⇑2)) (D9 (p7 (A3 eqD (am5 (B2 1)) (A3 J3 (dIx (B2 0) ⇑0) (dIx (B2 0) ⇑1))) (aF5 (qN (E4 1 [] (L3 (A1 1)) (F4 0) G7 (A6 O4 (A0 (A1 0) A4)))))))))
def O5:List D->Option D:=G4 T2 2
def ad5:DS:=(E9 (ae2 4 (E4 1 [0,1] (P4 (A3 J3 (A1 2) (A1 3))) (F4 0) G7 (A6 P7 (A0 (A1 1) (A0 (A3 B8 (A1 2) (A3 J3 ⇑12 (A1 0))) A4))))) (E9 (sIf (tB2 eqD (A6 B4 (A0 (A1 0) (A0 (A3 B8 (A1 1) ⇑7) (A0 ⇑3 A4)))) ⇑0) (J8 4 (A3 J3 (aF3 (A1 4) L0 (K6 ⇑1)) (A3 J3 (A1 2) (A1 3)))) Z2) (D9 (M6 (A0 (A1 2) (A0 (A1 3) (A0 (aa2 (B2 4)) A4)))))))
def W2:List D->Option D:=G4 ad5 5
end Sh
namespace Sh
open PySem PySem.Spec PyProof.Rows L2 G
end Sh
namespace Sh
open PySem PySem.Spec PyProof.Rows L2 G
end Sh
namespace G
open PySem PySem.Spec PyProof.Rows L2
abbrev FnD:=List D->Option D
structure Sg where
 fn:List (Str×FnD×Nat)
 cs:List (Str×D)
 bl:List Str
structure Kx where
 N:List Str
 sc:Scope
 df:Bool
 own:List Nat
 cpt:List Nat
 tx:List Nat
 dx:List Nat
 old:Bool
 fz:List (Nat×List Nat)
 hc:List ((Nat×Nat)×List Nat)
 up:Nat:=0
 gb:D:=.none
def biS(K:ag)(n:Nat)(F:List D->Option D):List V->Hp->VK->Prop:=λvs H Q=>vs.length=n/\∃Hf ds d,B0 Hf H/\Reps K Hf ds vs/\F ds=some d/\∀v H' Hf',Grow H Hf H' Hf'->Rep K Hf' d v->Q v H'
def cm9(x:Str)(F:FnD)(n:Nat):Prop:=0 < n/\x ≠ "__name__" /\ ∃nm,dY x=some (.builtin nm)/\∀X:Cx,X.A.units+64 < cLine->Q5 X (.builtin nm) (biS X.K n F)
theorem cv8(hb:cm9 x F n)(hu:X.A.units+64 < cLine)(hg:Gl X x)(hm:X.mg x=none)(ha:JA X (e::es) g)(hn:(e::es).length=n)(hdb:(x==("__debug__" : Str))=false)
  (he:dO (e::es) X.env=(false,eval e X.env)::dO es X.env) (hpl:(backTo pos (dO es X.env)).any (·.1)=false):JE X (.Call (.Name x p) (e::es) [] pos) (A6 F g):=λρ d q=>by
 obtain⟨ds,h1,h2⟩:=ae.mp q;obtain⟨_,hnn,nm,hv,hc⟩:=hb;refine A5 (J1 (hc X hu) hg hm hv (ha.run ρ ds h1) hnn hdb he hpl) λσ H Q ⟨H0,Hf,s,sl,kk⟩=>?_
 exact⟨H0,Hf,s,sl,λvs H1 Hf1 g1 r1=>⟨by rw[r1.length,ha.len ρ ds h1,hn],Hf1,ds,d,g1.sub,r1,h2,λv H2 Hf2 g2 r2=>kk v H2 Hf2 (g1.trans g2) r2⟩⟩
def bc4(X:Cx)(zb:Bool)(x:Str)(F:FnD)(n:Nat):Prop:=(∃(k:Nat) (f:eW) (fd:dX) (ps:List Str),Ps X zb/\FnOk X.prog X.w X.K X.mg X.base (CXb X.K X.prog X.w zb) k f fd ps (spF X.K n F)/\Room k X.A/\X.mg x=some (.ref f)/\aD X.K (.ref f)=true/\E8 X.K fd ps [])\/(X.mg x=none/\cm9 x F n)
def NT(K:ag)(mg:Str->Option eU):Prop:=∃D,clA K "NoText" = some D/\bO K D veB "ValueError.__new__" = true/\mg "NoText" = some (.ref D)
theorem aB9{X:Cx}{e:Expr}{d:D}{np cpos pos:Pos}(t:Th X)(n:NT X.K X.mg)(hg:Gl X "NoText")(hc:X.calm=true)(he:JE X e (dC d))(hs:dO [e] X.env=[(false,eval e X.env)]):PS X (.Raise (some (.Call (.Name "NoText" np) [e] [] cpos)) none pos) (λ_ _ _=>True):=by
 intro pins s σ H En I _;obtain⟨D,hD,hq,hm⟩:=n;obtain⟨nm,qn,N,bs,bm,hd',sn,sub,ab,col,dd,k0,k1,k2,k3,k5,mN,g1,g2,g3,g4⟩:=al9 I.mod.kin hq;refine wpAny_Raise_call_subT (C:=D) (bm:=bm) (nm:=nm) (q:=qn) (N:=N) (bs:=bs) (hdct:=hd') (sn:=sn) (sub:=sub) (ab:=ab) (col:=col) (dd:=dd) (k0:=k0) (k1:=k1) (k2:=k2) (k3:=k3) (k5:=k5) F.excBase_ValueError (g4.hasType (by decide)) (I.ok.hd hc) (by rw[hs];rfl) g3 ?_;refine O7 I hg hm ⟨rfl,?_⟩ (by decide)
 have no:∀(i:Nat) (b:G.B),(au σ.length (none:Option G.B))[i]?≠some (some b):=λi b h=>by
  rw[aY]at h;split at h<;>cases h
 have hA:=(U0 he al5 (by rw[hs];rfl)).run (au σ.length none) [d] rfl cpos pins s σ H (λvs _=>vs.length=1) I ⟨H,λ_=>none,(λb u e=>nomatch e),⟨bA,λi b h=>(no i b h).elim,λi j d1 d2 a h=>(no i _ h).elim⟩,λvs H' Hf' gr rs=>rs.length⟩;rw[hs]at hA ⊢;refine Calls.evalArgs_plain (thn hA λus s2 ⟨vs,H2,I2,r2,l1⟩=>?_);exact⟨rfl,by show us.length<=_;rw[← r2.length,l1];decide,I2.bk _ _ g1,g2.keeps I2.bk,g4.keeps I2.bk,λh' a hm'=>t.mo I2 hD hm'⟩
theorem bp6{X:Cx}{st:Stmt}{fl:Fl}(h:PS X st λ_ _ _=>True):JS X st (λ_=>some fl):=λρ fl' q H0 Hf0=>by
 cases q;exact D0 h λ_ _ _ _=>trivial
structure Fit (S:Sg) (c:Kx) (X:Cx):Prop where
 N:X.N=c.N
 sc:X.env.scope=c.sc
 nd:c.N.Nodup
 calm:X.calm=true
 po:c.df=true->PassesOwn (eE X.prog X.w) X.A X.env X.xe
 th:c.up=2->Th X/\NT X.K X.mg
 units:X.A.units+64 < cLine
 df:c.df=true->(∀x,X.fn x=true)/\c.sc.kind=.function
 fns:∀x F n,S.fn.lookup x=some (F,n)->bc4 X (c.up != 0) x F n
 css:∀x d,S.cs.lookup x=some d->∃u,bx4 X.K d u/\X.mg x=some u
 bls:∀x,S.bl.contains x=true->X.mg x=none
def pl:Expr->Bool
 | .Starred ..=>false
 | .Slice ..=>false
 | .Set ..=>false
 | _=>true
def aJ6:Expr->Bool
 | .Call _ [] _ _=>false
 | _=>true
def isC:Expr->Bool
 | .ListComp ..=>true
 | .SetComp ..=>true
 | .DictComp ..=>true
 | _=>false
def plT:Expr->Bool
 | .UnaryOp ..=>false
 | .BoolOp ..=>false
 | .IfExp ..=>false
 | .Compare ..=>false
 | _=>true
def Q0(x:Str):List Str->Option Nat
 | []=>none
 | y::r=>if y==x then some 0 else(Q0 x r).map (·+1)
theorem aE5:∀{l:List Str}{i:Nat},Q0 x l=some i->l[i]? = some x
 | [],i,h=>by cases h
 | y::r,i,h=>by
  unfold Q0 at h;split at h
  ·rename_i e;cases h;simp only[beq_iff_eq]at e;subst e;rfl
  ·obtain⟨j,h1,h2⟩:=af.mp h;subst h2;simpa using aE5 h1
def X3:List Str->Bool
 | []=>true
 | x::r=>!(r.contains x)&&X3 r
theorem V1:∀{l:List Str},X3 l=true->l.Nodup
 | [],_=>List.nodup_nil
 | x::r,h=>by
  unfold X3 at h;simp only[ah,bn]at h;refine cg.mpr ⟨λz=>?_,V1 h.2⟩;have:=h.1;rw[List.contains_iff_mem.mpr z]at this;cases this
def S0(sc:Scope)(x:Str):Bool:=(match sc.names.lookup x with|some .local=>true|some .cell=>true|some .free=>true|_=>false) && !(x==("__debug__" : Str)) && !(x==("__classdict__" : Str))
def an9(c:Kx)(x:Str):Bool:=(match c.sc.names.lookup x with|some .local=>true|some .cell=>c.df|_=>false)
def Q1(sc:Scope)(x:Str):Bool:=(match sc.names.lookup x with|some .globalImplicit=>true|_=>false) && !(x==("__debug__" : Str))
def biB(S:Sg)(c:Kx)(w x:Str):Bool:=x==w&&S.bl.contains w&&Q1 c.sc w
section
variable {X:Cx}{S:Sg}{c:Kx}
theorem F6(F:Fit S c X)(h:S0 c.sc x=true):Vis X.env.scope x/\(x==("__debug__" : Str))=false/\(x==("__classdict__" : Str))=false:=by
 unfold S0 at h;simp only[ah,bn]at h;obtain⟨⟨h1,h2⟩,h3⟩:=h;refine⟨?_,h2,h3⟩;rw[F.sc];unfold Vis;split at h1
 ·rename_i e;exact .inl e
 ·rename_i e;exact .inr (.inl e)
 ·rename_i e;exact .inr (.inr e)
 ·cases h1
theorem j7(F:Fit S c X)(h:an9 c x=true):L2.Loc X.env.scope x/\(X.fn x=true\/X.env.scope.names.lookup x=some .local):=by
 unfold an9 at h;rw[F.sc];unfold L2.Loc;split at h
 ·rename_i e;exact⟨.inl e,.inr e⟩
 ·rename_i e;exact⟨.inr e,.inl ((F.df h).1 x)⟩
 ·cases h
theorem G2(F:Fit S c X)(h:Q1 c.sc x=true):Gl X x/\(x==("__debug__" : Str))=false:=by
 unfold Q1 at h;simp only[ah,bn]at h;refine⟨?_,h.2⟩;unfold Gl Env.kindOf;rw[F.sc];have h1:=h.1;split at h1
 ·rename_i e;exact e
 ·cases h1
theorem L8(F:Fit S c X)(h:biB S c w x=true):x=w/\Gl X w/\X.mg w=none:=by
 unfold biB at h;simp only[ah,beq_iff_eq]at h;exact⟨h.1.1,(G2 F h.2).1,F.bls _ h.1.2⟩
theorem D2(h:pl e=true)(es:List Expr)(env:Env):dO (e::es) env=(false,eval e env)::dO es env:=by
 cases e<;>first|rfl|cases h
theorem bi9(h:pl e=true):aa9 e:=by
 intro o i;cases e<;>first|rfl|cases h
theorem ah3(h:pl e=true)(op:CmpOp):behindInMarks op e=false:=by
 cases e<;>first|rfl|cases h
theorem ah4(h:pl e=true)(env:Env)(x:eU):em e env x=pure x:=by
 cases e<;>first|rfl|cases h
theorem M2(h:aJ6 o=true)(attr:Str)(env:Env)(t:Sem eU):eB o attr env t=t:=by
 cases o<;>first|rfl|(rename_i f a k p;cases a with|nil=>cases h|cons x r=>cases f<;>rfl)
theorem J2(h:isC e=false)(t:Option Expr)(l:Nat)(env:Env):swapsWith e t l env=pure false:=by
 cases e<;>first|rfl|cases h
theorem bj0(h:plT e=true)(env:Env)(whole:Sem eU):isTrue e env whole=(do let v ← whole;standAt e.pos;holding [v] (truthy v)):=by
 cases e<;>first|rfl|cases h
end
end G
namespace G
open PySem PySem.Spec PyProof.Rows L2
abbrev DA:=Rho->Option (List D)
abbrev DQ:=Rho->Option (Bool×List D)
abbrev DT:=Rho->Option Bool
abbrev DG:=D->Rho->Option Rho
def dNo:DE:=λ_=>none
def aNo:DA:=λ_=>none
def qNo:DQ:=λ_=>none
def tNo:DT:=λ_=>none
def gNo:DG:=λ_ _=>none
structure Ev where
 e:Kx->Expr->DE
 q:Kx->Expr->DQ
 n:Kx->Expr->DA
 t:Kx->Expr->DT
 g:Kx->Expr->DG
 b:Kx->List Stmt->DS
def aM6:CmpOp->D->D->Option D
 | .Lt=>ltI | .LtE=>leI | .Gt=>gtI | .GtE=>geI | .Eq=>eqD | .NotEq=>neD | .Is=>isB|_=>λ_ _=>none
def evA(f:Expr->DE):List Expr->DA
 | []=>A4
 | e::es=>if pl e then A0 (f e) (evA f es) else aNo
def bL7(f:Expr->DE)(op:BoolOp):List Expr->DE
 | []=>dNo
 | [a]=>f a
 | a::b::r=>match op with
  | .And=>p7 (f a) (bL7 f op (b::r))
  | .Or=>dNo
def bu3(f:Expr->DT)(op:BoolOp):List Expr->DT
 | []=>tNo
 | [a]=>f a
 | a::b::r=>match op with
  | .And=>bf9 (f a) (bu3 f op (b::r))
  | .Or=>Z8 (f a) (bu3 f op (b::r))
def evO(f:Expr->DE):Option Expr->Rho->Option (Option Int)
 | none=>L0
 | some e=>K6 (f e)
def bL6(f:Expr->DG):List Expr->List D->Rho->Option Rho
 | []=>aq8
 | e::es=>d5 (f e) (bL6 f es)
def aU5(f:Expr->DT):List Expr->DT
 | []=>G7
 | [t]=>f t
 | _=>tNo
def E2:Expr->List Str
 | .Name x _=>[x]
 | .Tuple es _ _=>es.filterMap λ| .Name x _=>some x|_=>none
 | _=>[]
def rl(scope sc:Scope):Scope:={ scope with names:=scope.names.map λ(n,k)=>if(k == .free&&sc.kind == .function&&sc.names.lookup n==some .cell) then(n,.cell) else(n,k) }
def aL2(n:Nat)(caps l:List Nat):List Nat:=(aZ caps.length).filterMap λi=>match caps[i]? with|some j=>if l.contains j then some (n+i) else none|none=>none
def cr1(c:Kx)(j:Nat):Str:=(c.N[j]?).getD ""
def upB(c:Kx):Bool:=c.up==0 || c.up==2
def inner(c:Kx)(tn:List Str)(caps:List Nat)(scope:Scope):Kx :=
 { N:=tn++caps.map (cr1 c),sc:=rl scope c.sc,df:=false,own:=aL2 tn.length caps c.own,cpt:=[],tx:=aL2 tn.length caps c.tx,dx:=aL2 tn.length caps c.dx,old:=c.old,fz:=[],hc:=c.hc,up:=c.up - 1 }
def isList:Expr->Bool
 | .List ..=>true
 | .ListComp ..=>true
 | _=>false
def ah8(c:Kx)(l:List Nat):Expr->Bool
 | .Name x _=>(match Q0 x c.N with|some i=>l.contains i|none=>false)
 | _=>false
def cD0:Expr->Bool
 | .Constant (.str _) _ _=>true
 | _=>false
def cp9(S:Sg)(c:Kx):Expr->Bool
 | .Constant (.str _) _ _=>true
 | .Name x _=>(match Q0 x c.N with|some _=>false|none=>(match S.cs.lookup x with|some (.str _)=>true|_=>false))
 | _=>false
def opW(S:Sg)(c:Kx)(op:CmpOp)(b:Expr):D->D->Option D:=if cp9 S c b then(match op with
 | .In=>inS false
 | .NotIn=>inS true
 | _=>aM6 op) else aM6 op
def bR1:Expr->Bool
 | .Tuple ..=>true
 | _=>false
def bW2(x:Str):Option String:=if x == "int" then some "int" else if x == "bool" then some "bool" else if x == "str" then some "str" else if x == "tuple" then some "tuple" else if x == "list" then some "list" else none
section
variable (S:Sg) (r:Ev)
def evI(c:Kx)(tg it:Expr):DA:=match it with
 | .Call (.Name x _) [a] [] _=>if biB S c "range" x&&pl a then P4 (r.e c a) else if biB S c "enumerate" x&&bR1 tg&&pl a then bs8 (qE (r.e c a)) else L3 (r.e c it)
 | _=>if ah8 c c.tx it then bs7 (r.e c it) else L3 (r.e c it)
def evC(c:Kx)(ex:Expr):DA:=match ex with
 | .ListComp elt [⟨tgt,iter,ifs,0⟩] scope pos =>
  let tn:=E2 tgt
  let caps:=(c.hc.lookup (pos.line,pos.col)).getD []
  let c':=inner c tn caps scope
  if X8 c.N c'.N tn.length caps c.sc scope&&X3 c'.N&&pl iter&&upB c then E4 tn.length caps (evI S r c tgt iter) (r.g c' tgt) (aU5 (r.t c') ifs) (r.e c' elt) else aNo
 | _=>aNo
def aG9(c:Kx)(x:Str)(a:Expr):DE :=
 if !(pl a) then dNo
 else if biB S c "len" x then(if ah8 c c.tx a then V3 (r.e c a) else am5 (r.q c a))
 else if biB S c "tuple" x then aa2 (r.q c a)
 else if biB S c "all" x then aF5 (r.q c a)
 else if biB S c "int" x then(if ah8 c c.tx a then aV2 (r.e c a) else bb6 (r.e c a))
 else if biB S c "str" x then M7 (r.e c a)
 else dNo
def aG8(c:Kx)(x:Str)(a b:Expr):DE :=
 if !(pl a) then dNo
 else if biB S c "isinstance" x then(match b with
  | .Name y _=>(match bW2 y with
   | some T=>if biB S c y y then aa3 T (r.e c a) else dNo
   | none=>dNo)
  | _=>dNo)
 else dNo
def bd0(c:Kx)(x:Str)(args:List Expr)(ex:Expr):DE:=match S.fn.lookup x with
 | some (F,n)=>if Q1 c.sc x&&args.length==n&&args.all pl then A6 F (evA (r.e c) args) else dNo
 | none=>match args with
  | [a]=>aG9 S r c x a
  | [a,b]=>aG8 S r c x a b
  | _=>dNo
def bY4:Expr->Option (Option Expr×Option Expr×Option Expr)
 | .Slice lo hi st _=>some (lo,hi,st)
 | _=>none
def nmP:Expr->Option (Str×Pos)
 | .Name x p=>some (x,p)
 | _=>none
def cp4:List Expr->Option ((Str×Pos)×Str×Pos)
 | [a,b]=>(nmP a).bind λx=>(nmP b).map λy=>(x,y)
 | _=>none
def cp3:Expr->Option (Expr×Expr)
 | .Tuple es _ _=>(match es with
  | [a,b]=>some (a,b)
  | _=>none)
 | _=>none
def bS2(c:Kx)(a i:Expr):DE:=match bY4 i with
 | some t=>(match t.2.2 with
  | none =>
   if c.old then ax6 (r.e c a) (evO (r.e c) t.1) (evO (r.e c) t.2.1)
   else if ah8 c c.tx a then ac9 (r.e c a) (evO (r.e c) t.1) (evO (r.e c) t.2.1)
   else aF3 (r.e c a) (evO (r.e c) t.1) (evO (r.e c) t.2.1)
  | some _=>dNo)
 | none=>if pl i then dIx (r.q c a) (r.e c i) else dNo
def xCn(k:Const):DE:=match k with
 | .none=>dC .none
 | .bool b=>dC (.bool b)
 | .int i=>dC (.int i)
 | .str x=>dC (.str x)
 | _=>dNo
def bT1(c:Kx)(a:Expr)(op:Operator)(b:Expr):DE:=match op with
 | .Add=>if c.old && !(isList a || isList b) then A3 Z4 (r.e c a) (r.e c b) else A3 B8 (r.e c a) (r.e c b)
 | .Mult=>if c.old then A3 X5 (r.e c a) (r.e c b) else A3 J3 (r.e c a) (r.e c b)
 | .FloorDiv=>A3 Z3 (r.e c a) (r.e c b)
 | .Mod=>A3 O2 (r.e c a) (r.e c b)
 | .Pow=>A3 bi7 (r.e c a) (r.e c b)
 | _=>dNo
def xUn(c:Kx)(op:UnaryOp)(a:Expr):DE:=match op with
 | .USub=>aM3 (r.e c a)
 | .Not=>bv7 (r.e c a)
 | _=>dNo
def bS9(c:Kx)(a:Expr)(ops:List CmpOp)(bs:List Expr):DE:=match ops,bs with
 | [op],[b]=>if pl b then A3 (opW S c op b) (r.e c a) (r.e c b) else dNo
 | [op,op'],[b,d]=>if pl d then U6 (aM6 op) (aM6 op') (r.e c a) (r.e c b) (r.e c d) else dNo
 | _,_=>dNo
def rvA(c:Kx):Expr->Option Expr
 | .Call (.Name x _) [e] [] _=>if biB S c "reversed" x&&pl e then some e else none
 | _=>none
def xTx(c:Kx)(o:Expr)(m:Str)(a:Expr):DE :=
 if m == "join" then(match rvA S c a with
  | some e=>ax7 (r.e c o) (r.q c e)
  | none=>d6 (r.e c o) (r.q c a))
 else if m == "split" then dTx txS (r.e c o) (r.e c a)
 else if m == "partition" then dTx txP (r.e c o) (r.e c a)
 else if m == "zfill" then dZf (r.e c o) (r.e c a)
 else dNo
def bS6(c:Kx)(o:Expr)(m:Str)(apos cpos:Pos)(args:List Expr):DE:=match args with
 | [a]=>if aJ6 o&&apos.endLine==cpos.line&&pl a then xTx S r c o m a else dNo
 | _=>dNo
def xCl(c:Kx)(f:Expr)(args:List Expr)(kw:List eh)(pos:Pos):DE:=match kw with
 | []=>(match f with
  | .Name x p=>bd0 S r c x args (.Call (.Name x p) args [] pos)
  | .Attribute o m apos=>bS6 S r c o m apos pos args
  | _=>dNo)
 | _=>dNo
def xE(c:Kx)(ex:Expr):DE:=match ex with
 | .Constant k _ _=>xCn k
 | .Name x _=>(match Q0 x c.N with
  | some i=>if S0 c.sc x then A1 i else dNo
  | none=>(match S.cs.lookup x with
   | some d=>if Q1 c.sc x then dC d else dNo
   | none=>dNo))
 | .Tuple es _ _=>if es.length<=1000 then M6 (evA (r.e c) es) else dNo
 | .List _ _=>N7 (r.n c ex)
 | .ListComp _ _ _ _=>N7 (r.n c ex)
 | .BinOp a op b _=>bT1 r c a op b
 | .UnaryOp op a _=>xUn r c op a
 | .Compare a ops bs _=>bS9 S r c a ops bs
 | .BoolOp op vs _=>bL7 (r.e c) op vs
 | .IfExp t a b _=>ax8 (r.t c t) (r.e c a) (r.e c b)
 | .Subscript a i _=>bS2 r c a i
 | .Call f args kw pos=>xCl S r c f args kw pos
 | _=>dNo
def xQ(c:Kx)(ex:Expr):DQ:=match ex with
 | .Name x _=>(match Q0 x c.N with
  | some i=>if S0 c.sc x then B2 i else qNo
  | none=>qE (r.e c ex))
 | .List _ _=>qN (r.n c ex)
 | .ListComp _ _ _ _=>qN (r.n c ex)
 | _=>qE (r.e c ex)
def xN(c:Kx)(ex:Expr):DA:=match ex with
 | .List es _=>if es.length<=1000 then evA (r.e c) es else aNo
 | .ListComp _ _ _ _=>evC S r c ex
 | .BinOp a op b _=>(match op with
  | .Add=>bI2 (r.q c a) (r.q c b)
  | _=>aNo)
 | _=>aNo
def bN8(c:Kx)(a:Expr)(ops:List CmpOp)(bs:List Expr):DT:=match ops,bs with
 | [op],[b]=>if pl b then tB2 (opW S c op b) (r.e c a) (r.e c b) else tNo
 | [op,op'],[b,d]=>if pl d then aH9 (U6 (aM6 op) (aM6 op') (r.e c a) (r.e c b) (r.e c d)) else tNo
 | _,_=>tNo
def cy8(c:Kx)(op:UnaryOp)(a:Expr):DT:=match op with
 | .Not=>K5 (r.t c a)
 | _=>tNo
def xT(c:Kx)(ex:Expr):DT:=match ex with
 | .Compare a ops bs _=>bN8 S r c a ops bs
 | .BoolOp op vs _=>bu3 (r.t c) op vs
 | .UnaryOp op a _=>cy8 r c op a
 | _=>if plT ex then S4 (r.e c ex) else tNo
def xG(c:Kx)(ex:Expr):DG:=match ex with
 | .Name x _=>(match Q0 x c.N with
  | some i=>if an9 c x then F4 i else gNo
  | none=>gNo)
 | .Tuple es _ _=>if es.all pl then af0 es.length (bL6 (r.g c) es) else gNo
 | _=>gNo
def cs7(c:Kx)(x y:Str)(px py:Pos)(a b:Expr):Bool :=
 c.df&&pl a&&pl b && !(x==y)&&px.line==py.line&&c.sc.names.lookup x==some .local&&c.sc.names.lookup y==some .local && !(([a,b]:List Expr).all (foldedForSure 8)) && !(([a,b]:List Expr).all (constantsAlone 8))
def bT2(c:Kx)(tg v:Expr)(es:List Expr):DS:=match cp4 es with
 | some ((x,px),(y,py))=>if bR1 v then(match cp3 v with
  | some (a,b)=>(match Q0 x c.N with
   | some i=>(match Q0 y c.N with
    | some j=>if cs7 c x y px py a b then bh6 i j (evA (r.e c) [a,b]) else D8
    | none=>D8)
   | none=>D8)
  | none=>D8) else D8
 | none=>D8
def bT3(c:Kx)(x:Str)(p':Pos)(v:Expr):DS:=match Q0 x c.N with
 | none=>D8
 | some i=>if !(an9 c x) then D8 else(match v with
  | .ListComp _ _ sc pv=>if c.sc.names.lookup x==some .local then
    (if c.df&&p'.line==pv.line && !(sc.names.any λ(n,k)=>n==x&&(k == .local || k == .cell)) then(if c.own.contains i then aX5 i (evC S r c v) else ae2 i (evC S r c v)) else D8)
   else J8 i (r.e c v)
  | _=>if isC v then D8 else if c.own.contains i then aX5 i (r.n c v) else J8 i (r.e c v))
def co0(c:Kx)(tg v:Expr)(p:Pos):DS:=match tg with
 | .Name x p'=>bT3 S r c x p' v
 | .Tuple es _ _=>bT2 r c tg v es
 | _=>D8
def bS5(c:Kx)(x m:Str)(e:Expr):DS:=match Q0 x c.N with
 | none=>D8
 | some i=>if S0 c.sc x&&pl e then(if m == "append" then at7 i (r.e c e) else D8) else D8
def xEx(c:Kx)(e:Expr):DS:=match e with
 | .Call f args kw cpos=>(match f with
  | .Attribute o m apos=>(match o with
   | .Name x _=>(match args,kw with
    | [e],[]=>if apos.endLine==cpos.line then bS5 r c x m e else D8
    | _,_=>D8)
   | _=>D8)
  | _=>D8)
 | _=>D8
def cy9(c:Kx):Option Expr->DS
 | some e=>D9 (r.e c e)
 | none=>D8
def xWh(c:Kx)(t:Expr)(a:List Stmt):List Stmt->DS
 | []=>if c.df then S5 (r.t c t) (r.b c a) else D8
 | _=>D8
def xAs(c:Kx)(v:Expr)(p:Pos):List Expr->DS
 | [tg]=>co0 S r c tg v p
 | _=>D8
def xRa(c:Kx):Option Expr->DS
 | some e=>(match e with
  | .Call f as kw _=>(match f,as,kw with
   | .Name x _,[.Constant (.str _) _ _],[]=>if c.up==2&&x == "NoText" && Q1 c.sc x then λ_=>some (.rt c.gb) else D8
   | _,_,_=>D8)
  | _=>D8)
 | none=>D8
def xS(c:Kx)(st:Stmt):DS:=match st with
 | .Return o _=>cy9 r c o
 | .If t a b _=>sIf (r.t c t) (r.b c a) (r.b c b)
 | .While t a o _=>xWh r c t a o
 | .Assign ts v p=>xAs S r c v p ts
 | .Expr e _=>xEx r c e
 | .Pass _=>Z2
 | .Raise e none _=>xRa c e
 | _=>D8
def ce6:Stmt->Nat
 | .Return _ p=>p.line
 | .If _ _ _ p=>p.line
 | .While _ _ _ p=>p.line
 | .For _ _ _ _ p=>p.line
 | .Assign _ _ p=>p.line
 | .Expr _ p=>p.line
 | _=>0
def evB(f:Stmt->DS):List Stmt->DS
 | []=>Z2
 | [s]=>f s
 | s::t::P0=>E9 (f s) (evB f (t::P0))
def step:Ev:=⟨xE S r,xQ r,xN S r,xT S r,xG r,λc=>evB (xS S r c)⟩
end
def ev(S:Sg):Nat->Ev
 | 0=>⟨λ_ _=>dNo,λ_ _=>qNo,λ_ _=>aNo,λ_ _=>tNo,λ_ _=>gNo,λ_ _=>D8⟩
 | n+1=>step S (ev S n)
end G
namespace Sh
open PySem PySem.Spec PyProof.Rows L2 G
def j9:DS:=(D9 (p7 (aa3 "str" (A1 0)) (p7 (U6 leI leI ⇑1 (V3 (A1 0)) ⇑6) (aF5 (qN (E4 1 [] (bs7 (A1 0)) (F4 0) G7 (A3 (inS false) (A1 0) (dC (.str "abcdefghijklmnopqrstuvwxyz")))))))))
def W5:List D->Option D:=G4 j9 1
end Sh
namespace Sh
open PySem G
theorem cd8(i j:Int):neD (.int i) (.int j)=some (.bool (!(i==j))):=rfl
theorem bL8(i j:Int):eqD (.int i) (.int j)=some (.bool (i==j)):=rfl
theorem aT8{t:Rho->Option Bool}{f:DS}{n:Nat}{ρ ρ':Rho}(h1:t ρ=some true)(h2:f ρ=some (.nx ρ')):K7 t f (n+1) ρ=K7 t f n ρ':=by
 simp only[K7,h1,h2,xbs,if_true]
theorem bt4:∀(b a:Nat) (x:Option B),∃n x',K7 (tB2 neD (A1 1) ⇑0) (E9 (J8 2 (A3 O2 (A1 0) (A1 1))) (E9 (J8 0 (A1 1)) (J8 1 (A1 2)))) n [‹.int a›,‹.int b›,x]
  = some (.nx [‹.int (bR a b)›,‹.int 0›,x']):=by
 intro b
 induction b using Nat.strongRecOn with
 | _ b ih =>
  intro a x;by_cases hb:b=0
  ·subst hb;refine⟨1,x,?_⟩;rw[Nat.gcd_zero_right];rfl
  ·obtain⟨n,x',h⟩:=ih (a % b) (cV _ (cy hb)) b (‹.int ((a % b:Nat):Int)›);refine⟨n+1,x',?_⟩
   have e1:tB2 neD (A1 1) ⇑0 [‹.int a›,‹.int b›,x]=some true:=by
    show(neD (.int b) (.int 0)).bind d7=some true;rw[cd8];have:((b:Int)==0)=false:=by simp;omega
    rw[this];rfl
   have e2:O2 (.int a) (.int b)=some (.int ((a % b:Nat):Int)):=by
    show(if(0:Int) < (b:Int) then some (eL ((a:Int) % (b:Int))) else none)=_;rw[if_pos (by omega)];simp
   have e3:E9 (J8 2 (A3 O2 (A1 0) (A1 1))) (E9 (J8 0 (A1 1)) (J8 1 (A1 2))) [‹.int a›,‹.int b›,x]=some (.nx [‹.int b›,‹.int ((a % b:Nat):Int)›,‹.int ((a % b:Nat):Int)›]):=by
    show((((O2 (.int a) (.int b))).map λd=>Fl.nx [‹.int a›,‹.int b›,‹d›]).bind _)=_;rw[e2];rfl
   rw[aT8 e1 e3,h,Nat.gcd_comm b,Nat.gcd_comm a b,← Nat.gcd_rec]
theorem bx7(a b:Nat):G6 [.int a,.int b]=some (.int (bR a b)):=by
 obtain⟨n,x',h⟩:=bt4 b a none;show((S5 _ _ [‹.int a›,‹.int b›,none]).bind _).bind _=_;rw[ab8 h];rfl
theorem aY7:∀(a b:Nat) (t u:D),∃n,K7 (tB2 gtI (A1 2) ⇑0) (bh6 2 3 (A0 (A3 O2 (A1 3) (A1 2)) (A0 (A1 2) A4))) n [‹t›,‹u›,‹.int a›,‹.int b›]
  = some (.nx [‹t›,‹u›,‹.int 0›,‹.int (bR a b)›]):=by
 intro a
 induction a using Nat.strongRecOn with
 | _ a ih =>
  intro b t u;by_cases ha:a=0
  ·subst ha;refine⟨1,?_⟩;rw[Nat.gcd_zero_left];rfl
  ·obtain⟨n,h⟩:=ih (b % a) (cV _ (cy ha)) a t u;refine⟨n+1,?_⟩
   have e1:tB2 gtI (A1 2) ⇑0 [‹t›,‹u›,‹.int a›,‹.int b›]=some true:=by
    show some (decide ((0:Int) < (a:Int)))=some true;rw[decide_eq_true (by omega)]
   have e2:O2 (.int b) (.int a)=some (.int ((b % a:Nat):Int)):=by
    show(if(0:Int) < (a:Int) then some (eL ((b:Int) % (a:Int))) else none)=_;rw[if_pos (by omega)];simp
   have e3:bh6 2 3 (A0 (A3 O2 (A1 3) (A1 2)) (A0 (A1 2) A4)) [‹t›,‹u›,‹.int a›,‹.int b›]=some (.nx [‹t›,‹u›,‹.int ((b % a:Nat):Int)›,‹.int a›]):=by
    show((O2 (.int b) (.int a)).bind λd=>(some [eL (a:Int)]).map λds=>d::ds).bind _=_;rw[e2];rfl
   rw[aT8 e1 e3,h,← Nat.gcd_rec]
def fr(r:Rat):D:=.tuple [.int r.num,.int r.den]
theorem E5{i:Int}{k:Nat}(h:i.natAbs < 2 ^ k)(hk:k<=8000):D6 i:=aB h (bY (by decide) hk)
theorem aD3(a b:Nat)(hb:0 < b):fr (mkRat a b)=.tuple [.int ((a / bR a b:Nat):Int),.int ((b / bR a b:Nat):Int)]:=by
 unfold fr;rw[Rat.num_mkRat,Rat.den_mkRat,if_neg (by omega),if_neg (by omega)];have e:b.gcd (a:Int).natAbs=bR a b:=by rw[bS,Nat.gcd_comm]
 rw[e];simp
theorem aV1(a b x k:Nat)(hb:0 < b)(hk:b < 2 ^ k)(hk8:k<=8000):Z3 (.int x) (.int (bR a b))=some (.int ((x / bR a b:Nat):Int)):=by
 have g0:0 < bR a b:=Nat.gcd_pos_of_pos_right _ hb;have gs:D6 (bR a b:Nat):=E5 (k:=k) (by rw[bS];exact cf (Nat.le_of_dvd hb (Nat.gcd_dvd_right a b)) hk) hk8;show(if(0:Int) < ((bR a b:Nat):Int)/\D6 (bR a b:Nat) then some (eL ((x:Int) / ((bR a b:Nat):Int))) else none)=_;rw[if_pos ⟨by omega,gs⟩];simp
theorem bN7(a b k:Nat)(hb:0 < b)(hk:b < 2 ^ k)(hk8:k<=8000):ab3 [.int a,.int b]=some (fr (mkRat a b)):=by
 have d:=λx=>aV1 a b x k hb hk hk8
 have e:R6 [‹.int a›,‹.int b›,none]=some (.rt (fr (mkRat a b))):=by
  rw[aD3 a b hb];simp only[R6,E9,J8,A6,A0,A4,A1,xg0,xg1,xbs,xms,bx7,xw1,xw0,D9,M6,A3,d]
 show(R6 [‹.int a›,‹.int b›,none]).bind _=_;rw[e];rfl
theorem aN6(a b k:Nat)(hb:0 < b)(hk:b < 2 ^ k)(hk8:k<=8000):W3 [.int a,.int b]=some (fr (mkRat a b)):=by
 have d:=λx=>aV1 a b x k hb hk hk8
 obtain⟨n,h⟩:=aY7 a b (.int a) (.int b)
 have e:ab0 [‹.int a›,‹.int b›,none,none]=some (.rt (fr (mkRat a b))):=by
  rw[aD3 a b hb];simp only[ab0,E9,J8,A6,A0,A4,A1,xg0,xg1,xbs,xms,xw1,xw0,D9,M6,A3,d,ab8 h]
 show(ab0 [‹.int a›,‹.int b›,none,none]).bind _=_;rw[e];rfl
structure Bd (k:Nat) (r:Rat):Prop where
 nn:0<=r
 num:r.num.natAbs < 2 ^ k
 den:r.den < 2 ^ k
theorem Bd.mono{j k:Nat}{r:Rat}(h:Bd j r)(l:j<=k):Bd k r:=⟨h.nn,aB h.num (bY (by decide) l),aB h.den (bY (by decide) l)⟩
theorem Bd.nat{k:Nat}{r:Rat}(h:Bd k r):r.num=(r.num.natAbs:Int):=by
 have:=Rat.num_nonneg.mpr h.nn;omega
theorem bn2(a b:Nat):0<=mkRat (a:Int) b:=by
 rw[← Rat.num_nonneg,Rat.num_mkRat];split
 ·exact Int.le_refl _
 ·exact Int.ediv_nonneg (by omega) (by omega)
theorem Bd.of{a b k:Nat}(hb:0 < b)(h1:a < 2 ^ k)(h2:b < 2 ^ k):Bd k (mkRat a b):=by
 refine⟨bn2 a b,?_,?_⟩
 ·rw[Rat.num_mkRat,if_neg (by omega)];rw[show((a:Int) / ((b.gcd (a:Int).natAbs:Nat):Int))=((a / b.gcd (a:Int).natAbs:Nat):Int) by simp,bS];exact cf (dA _ _) h1
 ·rw[Rat.den_mkRat,if_neg (by omega)];exact cf (dA _ _) h2
theorem X4{a b j k:Nat}(h1:a < 2 ^ j)(h2:b < 2 ^ k):a*b < 2 ^ (j+k):=by
 rw[Nat.pow_add];exact Nat.mul_lt_mul'' h1 h2
theorem au2{j k:Nat}{r s:Rat}(hr:Bd j r)(hs:Bd k s):r*s=mkRat ((r.num.natAbs*s.num.natAbs:Nat):Int) (r.den*s.den):=by
 rw[Rat.mul_def,Rat.normalize_eq_mkRat,bB,← hr.nat,← hs.nat]
theorem Q9(r:Rat):0 < r.den:=cy r.den_nz
theorem Bd.mul{j k:Nat}{r s:Rat}(hr:Bd j r)(hs:Bd k s):Bd (j+k) (r*s):=by
 rw[au2 hr hs];exact Bd.of (Nat.mul_pos (Q9 r) (Q9 s)) (X4 hr.num hs.num) (X4 hr.den hs.den)
theorem Bd.one:Bd 1 1:=⟨by decide,by decide,by decide⟩
theorem Bd.zero:Bd 1 0:=⟨by decide,by decide,by decide⟩
theorem Bd.sn{k:Nat}{r:Rat}(h:Bd k r)(hk:k<=8000):D6 r.num:=E5 h.num hk
theorem Bd.sd{k:Nat}{r:Rat}(h:Bd k r)(hk:k<=8000):D6 r.den:=E5 (k:=k) (by rw[bS];exact h.den) hk
theorem N9{i j:Int}(h1:D6 i)(h2:D6 j):X5 (.int i) (.int j)=some (.int (i*j)):=by
 show(if D6 i/\D6 j then some (eL (i*j)) else none)=_;rw[if_pos ⟨h1,h2⟩]
theorem cx6(i j:Int):Z4 (.int i) (.int j)=some (.int (i+j)):=rfl
theorem cq9(i j:Int):cA8 (.int i) (.int j)=some (.int (i - j)):=rfl
theorem cu5(i j:Int):leI (.int i) (.int j)=some (.bool (decide (i<=j))):=rfl
theorem cy2(a b:D):L2.atI [a,b] 0=some a:=rfl
theorem cy1(a b:D):L2.atI [a,b] 1=some b:=rfl
theorem ix0{ρ:Rho}{i:Nat}{r:Rat}(h:ρ[i]? = some (‹fr r›)):dIx (B2 i) ⇑0 ρ=some (.int r.num):=by
 simp only[dIx,B2,h,fr,dC,xbs,cy2]
theorem ix1{ρ:Rho}{i:Nat}{r:Rat}(h:ρ[i]? = some (‹fr r›)):dIx (B2 i) ⇑1 ρ=some (.int r.den):=by
 simp only[dIx,B2,h,fr,dC,xbs,cy1]
theorem v0(x:Option B)(l:Rho):(x::l)[0]? = some x:=rfl
theorem v1(y x:Option B)(l:Rho):(y::x::l)[1]? = some x:=rfl
theorem cm5{j k:Nat}{r s:Rat}(hr:Bd j r)(hs:Bd k s)(l:j+k<=8000):bN5 [fr r,fr s]=some (fr (r*s)):=by
 have e:ai4 [‹fr r›,‹fr s›]=some (.rt (fr (r*s))):=by
  simp only[ai4,D9,A6,A0,A4,A3,ix0 (v0 _ _),ix1 (v0 _ _),ix0 (v1 _ _ _),ix1 (v1 _ _ _),xbs,xms,N9 (hr.sn (by omega)) (hs.sn (by omega)),N9 (hr.sd (by omega)) (hs.sd (by omega))];have:=bN7 (r.num.natAbs*s.num.natAbs) (r.den*s.den) (j+k) (Nat.mul_pos (Q9 r) (Q9 s)) (X4 hr.den hs.den) l;rw[← au2 hr hs,bB,bB,← hr.nat,← hs.nat]at this;rw[this];rfl
 show(ai4 [‹fr r›,‹fr s›]).bind _=_;rw[e];rfl
theorem i5{j k:Nat}{r s:Rat}(hr:Bd j r)(hs:Bd k s)(l:j+k<=8000):K4 [fr r,fr s]=some (.bool (decide (r<=s))):=by
 have e:N3 [‹fr r›,‹fr s›]=some (.rt (.bool (decide (r<=s)))):=by
  simp only[N3,D9,A6,A0,A4,A3,ix0 (v0 _ _),ix1 (v0 _ _),ix0 (v1 _ _ _),ix1 (v1 _ _ _),xbs,xms,N9 (hr.sn (by omega)) (hs.sd (by omega)),N9 (hs.sn (by omega)) (hr.sd (by omega)),cu5];simp only[← Rat.le_iff]
 show(N3 [‹fr r›,‹fr s›]).bind _=_;rw[e];rfl
end Sh
set_option exponentiation.threshold 9000
namespace Sh
open PySem G L2
theorem cC6(i j:Int):ltI (.int i) (.int j)=some (.bool (decide (i < j))):=rfl
theorem cw4(i j:Int):gtI (.int i) (.int j)=some (.bool (decide (j < i))):=rfl
theorem bE5{α:Type}(x:α):au 0 x=[]:=rfl
theorem bE4{α:Type}(x:α):au 1 x=[x]:=rfl
theorem bE3{α:Type}(x:α):au 2 x=[x,x]:=rfl
theorem aV5(a b c d:D):aa4 [a,b,c,d] (some 1) none=[b,c,d]:=rfl
theorem cE2(a b c d:D):L2.atI [a,b,c,d] 0=some a:=rfl
theorem cE1(a b c d:D):L2.atI [a,b,c,d] 1=some b:=rfl
theorem cE0(a b c d:D):L2.atI [a,b,c,d] 2=some c:=rfl
theorem cD9(a b c d:D):L2.atI [a,b,c,d] 3=some d:=rfl
theorem cE5(a b c:D):L2.atI [a,b,c] 0=some a:=rfl
theorem cE4(a b c:D):L2.atI [a,b,c] 1=some b:=rfl
theorem cE3(a b c:D):L2.atI [a,b,c] 2=some c:=rfl
theorem M0{n k:Nat}(h:n < 2 ^ k)(hk:k<=8000):D6 (n:Int):=E5 (k:=k) (by rw[bS];exact h) hk
theorem aD1{i j:Int}(h:0 < j):O2 (.int i) (.int j)=some (.int (i % j)):=by
 show(if(0:Int) < j then some (eL (i % j)) else none)=_;rw[if_pos h]
theorem aV0{i j:Int}(h:0 < j)(s:D6 j):Z3 (.int i) (.int j)=some (.int (i / j)):=by
 show(if(0:Int) < j/\D6 j then some (eL (i / j)) else none)=_;rw[if_pos ⟨h,s⟩]
theorem D1{g:DS}{n:Nat}{ds:List D}{ρ:Rho}{d:D}(h:G9 n ds=ρ)(e:g ρ=some (.rt d)):G4 g n ds=some d:=by
 unfold G4;rw[h,e];rfl
theorem r8{j k:Nat}{r s:Rat}(hr:Bd j r)(hs:Bd k s)(l:j+k<=8000):ad8 [fr r,fr s]=some (fr (r*s)):=by
 refine D1 (ρ:=[‹fr r›,‹fr s›]) rfl ?_;simp only[as2,D9,A6,A0,A4,A3,ix0 (v0 _ _),ix1 (v0 _ _),ix0 (v1 _ _ _),ix1 (v1 _ _ _),xbs,xms,N9 (hr.sn (by grind)) (hs.sn (by grind)),N9 (hr.sd (by grind)) (hs.sd (by grind))];have:=aN6 (r.num.natAbs*s.num.natAbs) (r.den*s.den) (j+k) (Nat.mul_pos (Q9 r) (Q9 s)) (X4 hr.den hs.den) l;rw[← au2 hr hs,bB,bB,← hr.nat,← hs.nat]at this;rw[this];rfl
def ar6(ns:List Int)(k:Nat):Int:=if ns.length=0 then 7*(k:Int) else ns.getD (k % ns.length) 0+6553*((k / ns.length:Nat):Int)
theorem bu4(ns:List Int):eqD (.list (ns.map eL)) (.list [])=some (.bool (decide (ns.length=0))):=by
 have h1:eJ (.list (ns.map eL))=true:=by
  have c:∀l:List Int,PyData.canLayAll0 (l.map eL)=true:=λl=>by
   induction l with
   | nil=>rfl
   | cons a r ih=>simp only[xmc,PyData.canLayAll0,eO,ih];rfl
  have d:∀l:List Int,PyData.depthAll (l.map eL)=0:=λl=>by
   induction l with
   | nil=>rfl
   | cons a r ih=>simp only[xmc,PyData.depthAll,PyData.depth,ih];rfl
  unfold eJ;simp only[eO,c,PyData.depth,d];rfl
 unfold eqD;rw[if_pos ⟨h1,rfl⟩];cases ns with
 | nil=>rfl
 | cons a r=>simp[eK,PyData.eqvAll]
end Sh
local macro_rules
  | `(tactic| wp_walk using evP, $ts,*) => `(tactic| simp only [G.E9, G.J8, G.D9, G.sIf, G.Z2, G.ae2, G.cB5, G.A1, G.dC, G.M6, G.N7, G.A3, G.A6, G.p7, G.dOr, G.bv7, G.U6, G.aa2, G.aF5, G.bb6, G.aa3, G.L0, G.K6, G.bs3, G.A4, G.A0, G.S4, G.tB2, G.bf9, G.Z8, G.K5, G.bW7, G.d7, G.G7, G.F4, G.af0, G.d5, G.aq8, G.L3, G.aZ7, G.xg0, G.xg1, G.xw0, G.xw1, G.xbs, G.xms, G.xmc, G.xmn, G.xna, G.xca, Sh.cx6, Sh.cq9, Sh.cu5, Sh.cd8, Sh.bL8, Sh.cC6, Sh.cw4, Sh.cE2, Sh.cE1, Sh.cE0, Sh.cD9, Sh.cE5, Sh.cE4, Sh.cE3, Sh.cy2, Sh.cy1, G.xnt, G.xnf, G.xft, if_true, if_false, $[$ts:term],*])
local macro_rules
  | `(tactic| wp_walk using evB) => `(tactic| wp_walk using evP, G.dIx, G.am5, G.B2, G.qE, G.qN, G.aB4)
  | `(tactic| wp_walk using evB, $ts,*) => `(tactic| wp_walk using evP, G.dIx, G.am5, G.B2, G.qE, G.qN, G.aB4, $ts,*)
local macro_rules
  | `(tactic| wp_walk using evA) => `(tactic| wp_walk using evB, G.ax8, G.ax6, G.E4, G.Z0, G.ag8, G.P4, G.bL0, Sh.bE5, Sh.bE4, Sh.bE3, Sh.aV5, ite_true, ite_false)
  | `(tactic| wp_walk using evA, $ts,*) => `(tactic| wp_walk using evB, G.ax8, G.ax6, G.E4, G.Z0, G.ag8, G.P4, G.bL0, Sh.bE5, Sh.bE4, Sh.bE3, Sh.aV5, ite_true, ite_false, $ts,*)
local macro_rules
  | `(tactic| wp_walk using evD) => `(tactic| wp_walk using evB, G.U7, G.aH9)
  | `(tactic| wp_walk using evD, $ts,*) => `(tactic| wp_walk using evB, G.U7, G.aH9, $ts,*)
local macro_rules
  | `(tactic| wp_walk using evC) => `(tactic| wp_walk using evD, G.ax8, G.ax6, G.E4, G.Z0, G.ag8, G.P4, G.bL0, Sh.bE5, Sh.bE4, Sh.bE3, Sh.aV5, ite_true, ite_false)
  | `(tactic| wp_walk using evC, $ts,*) => `(tactic| wp_walk using evD, G.ax8, G.ax6, G.E4, G.Z0, G.ag8, G.P4, G.bL0, Sh.bE5, Sh.bE4, Sh.bE3, Sh.aV5, ite_true, ite_false, $ts,*)
local macro_rules
  | `(tactic| wp_walk using evQ) => `(tactic| wp_walk using evP, G.U7, G.aH9)
  | `(tactic| wp_walk using evQ, $ts,*) => `(tactic| wp_walk using evP, G.U7, G.aH9, $ts,*)
namespace Sh
open PySem G L2
theorem cm7(ns:List Int)(k:Nat)(hn:ns.length<=63)(hk:k < 2 ^ 60):an3 [.list (ns.map eL),.int k]=some (.int (ar6 ns k)):=by
 refine D1 (ρ:=[‹.list (ns.map eL)›,‹.int k›]) rfl ?_;have sk:D6 (k:Int):=M0 hk (by decide);by_cases h:ns.length=0
 ·have e:ar6 ns k=7*(k:Int):=by unfold ar6;rw[if_pos h]
  wp_walk using evA,an2,bu4,h,decide_true,N9 (i:=7) (E5 (k:=3) (by decide) (by decide)) sk,e
 ·have e:ar6 ns k=ns.getD (k % ns.length) 0+6553*((k / ns.length:Nat):Int):=by unfold ar6;rw[if_neg h]
  have hl:(List.map eL ns).length=ns.length:=ak ..;have hp:0 < ns.length:=cy h;have m1:O2 (.int k) (.int ns.length)=some (.int ((k % ns.length:Nat):Int)):=by rw[aD1 (by grind)];simp
  have m2:Z3 (.int k) (.int ns.length)=some (.int ((k / ns.length:Nat):Int)):=by rw[aV0 (by grind) (M0 (k:=6) (by grind) (by decide))];simp
  have m3:L2.atI (List.map eL ns) ((k % ns.length:Nat):Int)=some (.int (ns.getD (k % ns.length) 0)):=by
   refine L2.aV9 ?_;have hlt:k % ns.length < ns.length:=cV _ hp;rw[aF,ba hlt];simp[List.getD,hlt]
  have sq:D6 ((k / ns.length:Nat):Int):=M0 (k:=60) (cf (dA _ _) hk) (by decide)
  wp_walk using evA,an2,bu4,h,decide_false,hl,m1,m2,m3,N9 (i:=6553) (E5 (k:=13) (by decide) (by decide)) sq,e
def x6(ns:List Int)(k:Nat)(m:Int):Int :=
 let c:=(ar6 ns k % 2147483563*69069+104723*((k:Int)+1)) % 2147483563
 let c:=(c*c+c / 3) % 2147483399
 (c*c+c / 7) % 2147483647 / 11 % m
theorem aB1{i:Int}(h0:0<=i)(h:i < 4294967296):D6 i:=E5 (k:=32) (by omega) (by decide)
theorem ai6(ns:List Int)(k:Nat)(m:Int)(hn:ns.length<=63)(hk:k < 2 ^ 60)(hm:0 < m):B4 [.list (ns.map eL),.int k,.int m]=some (.int (x6 ns k m)):=by
 refine D1 (ρ:=[‹.list (ns.map eL)›,‹.int k›,‹.int m›,none]) rfl ?_;have c0:∀x:Int,D6 (x % 2147483563):=λx=>aB1 (by grind) (by grind)
 have c1:∀x:Int,D6 (x % 2147483399):=λx=>aB1 (by grind) (by grind)
 have sk:D6 ((k:Int)+1):=E5 (k:=61) (by grind) (by decide);have s1:D6 69069:=E5 (k:=17) (by decide) (by decide);have s2:D6 104723:=E5 (k:=17) (by decide) (by decide);have s3:D6 3:=E5 (k:=2) (by decide) (by decide);have s7:D6 7:=E5 (k:=3) (by decide) (by decide);have s11:D6 11:=E5 (k:=4) (by decide) (by decide)
 wp_walk using evA,as4,cm7 ns k hn hk,aD1 (show(0:Int) < 2147483563 by decide),aD1 (show(0:Int) < 2147483399 by decide),aD1 (show(0:Int) < 2147483647 by decide),aD1 hm,N9 (c0 _) s1,N9 s2 sk,N9 (c0 _) (c0 _),N9 (c1 _) (c1 _),aV0 (show(0:Int) < 3 by decide) s3,aV0 (show(0:Int) < 7 by decide) s7,aV0 (show(0:Int) < 11 by decide) s11
 rfl
theorem ah9(ns:List Int)(k:Nat)(m:Int)(hm:0 < m):0<=x6 ns k m/\x6 ns k m < m:=by
 unfold x6;exact⟨Int.emod_nonneg _ (by omega),Int.emod_lt_of_pos _ hm⟩
structure IsSh (k:Nat) (r:Rat):Prop where
 bd:Bd k r
 le:r<=1
theorem aZ0{a b:Nat}(hb:0 < b)(h:a<=b):mkRat (a:Int) b<=1:=by
 rw[Rat.le_iff,Rat.num_mkRat,Rat.den_mkRat,if_neg (by omega),if_neg (by omega)];have e0:(1:Rat).num=1:=rfl;have e1:(1:Rat).den=1:=rfl;rw[e0,e1];have:a / b.gcd a<=b / b.gcd a:=Nat.div_le_div_right h;simp
 exact_mod_cast this
theorem ai5(ns:List Int)(at':Nat)(hn:ns.length<=63)(hk:at' < 2 ^ 40):∃r,k7 [.list (ns.map eL),.int at']=some (fr r)/\IsSh 4 r:=by
 obtain⟨u0,u1⟩:=ah9 ns at' 12 (by decide);obtain⟨u,hu⟩:∃u:Nat,(1:Int)+x6 ns at' 12=u/\0 < u/\u<=12:=⟨(1+x6 ns at' 12).toNat,by grind,by grind,by grind⟩;obtain⟨t0,t1⟩:=ah9 ns (at'+1) ((u:Int)+1) (by grind);obtain⟨t,ht⟩:∃t:Nat,x6 ns (at'+1) ((u:Int)+1)=t/\t<=u:=⟨(x6 ns (at'+1) ((u:Int)+1)).toNat,by grind,by grind⟩;obtain⟨p0,p1⟩:=ah9 ns (at'+2) 5 (by decide);have hs:IsSh 4 (mkRat (t:Int) u):=⟨Bd.of (by grind) (by grind) (by grind),aZ0 (by grind) (by grind)⟩;have e1:=ai6 ns at' 12 hn (by grind) (by decide);have e2:=ai6 ns (at'+1) ((u:Int)+1) hn (by grind) (by grind);have e3:=ai6 ns (at'+2) 5 hn (by grind) (by decide);have e4:=aN6 t u 4 (by grind) (by grind) (by decide);have c1:((at':Int)+1)=((at'+1:Nat):Int):=by grind
 have c2:((at':Int)+2)=((at'+2:Nat):Int):=by grind
 rw[ht.1]at e2
 have pick:∀(j:Int),0<=j->j < 5->∃r,L2.atI [fr (mkRat (t:Int) u),fr (mkRat (t:Int) u),fr (mkRat (t:Int) u),.tuple [.int 0,.int 1],.tuple [.int 1,.int 1]] j=some (fr r)/\IsSh 4 r:=λj h0 h5=>by
  have:j=0\/j=1\/j=2\/j=3\/j=4:=by grind
  rcases this with rfl|rfl|rfl|rfl|rfl
  ·exact⟨_,rfl,hs⟩
  ·exact⟨_,rfl,hs⟩
  ·exact⟨_,rfl,hs⟩
  ·exact⟨0,rfl,Bd.zero.mono (by decide),by decide⟩
  ·exact⟨1,rfl,Bd.one.mono (by decide),by decide⟩
 obtain⟨r,hr1,hr2⟩:=pick _ p0 p1;refine⟨r,D1 (ρ:=[‹.list (ns.map eL)›,‹.int at'›,none,none]) rfl ?_,hr2⟩
 wp_walk using evA,as3,e1,hu.1,c1,c2,e2,e3,e4,hr1
end Sh
namespace Sh
open PySem G L2
def sp(c x y z:Rat):D:=.tuple [fr c,fr x,fr y,fr z]
structure Spot (k:Nat) (c x y z:Rat):Prop where
 hc:IsSh k c
 hx:Bd k x
 hy:Bd k y
 hz:Bd k z
 xc:x<=c
 yc:y<=c
 zc:z<=c
theorem IsSh.mono{j k:Nat}{r:Rat}(h:IsSh j r)(l:j<=k):IsSh k r:=⟨h.bd.mono l,h.le⟩
theorem b8{c r:Rat}(hc:0<=c)(hr:r<=1):c*r<=c:=by
 have:=Rat.mul_le_mul_of_nonneg_right hr hc
 grind
theorem cB6:O0 0 3=[.int 0,.int 1,.int 2]:=rfl
theorem bN6(ns:List Int)(k:Nat)(hn:ns.length<=63)(hk:k < 2 ^ 30):∃c a0 a1 a2,P7 [.list (ns.map eL),.int k]=some (sp c (c*a0) (c*a1) (c*a2))/\IsSh 4 c/\IsSh 4 a0/\IsSh 4 a1/\IsSh 4 a2:=by
 obtain⟨c,ec,hc⟩:=ai5 ns k hn (by grind);obtain⟨a0,e0,h0⟩:=ai5 ns (k+3) hn (by grind);obtain⟨a1,e1,h1⟩:=ai5 ns (k+6) hn (by grind);obtain⟨a2,e2,h2⟩:=ai5 ns (k+9) hn (by grind);refine⟨c,a0,a1,a2,?_,hc,h0,h1,h2⟩;refine D1 (ρ:=[‹.list (ns.map eL)›,‹.int k›,none]) rfl ?_;have i0:(k:Int)+3+3*0=((k+3:Nat):Int):=by grind
 have i1:(k:Int)+3+3*1=((k+6:Nat):Int):=by grind
 have i2:(k:Int)+3+3*2=((k+9:Nat):Int):=by grind
 have s0:D6 0:=E5 (k:=2) (by decide) (by decide);have s1:D6 1:=E5 (k:=2) (by decide) (by decide);have s2:D6 2:=E5 (k:=2) (by decide) (by decide);have s3:D6 3:=E5 (k:=2) (by decide) (by decide);have m0:=N9 s3 s0;have m1:=N9 s3 s1;have m2:=N9 s3 s2;have r3:((-(2 ^ 62):Int)<=3/\(3:Int) < 2 ^ 62):=by decide
 have l3:([eL 0,.int 1,.int 2]:List D).length<=16777216:=by decide
 have ct:∀a b c d:D,Z4 (.tuple [a]) (.tuple [b,c,d])=some (.tuple [a,b,c,d]):=λa b c d=>rfl
 wp_walk using evA,aG4,ec,r3,and_self,cB6,l3,m0,m1,m2,i0,i1,i2,e0,e1,e2,r8 hc.bd h0.bd (by decide),r8 hc.bd h1.bd (by decide),r8 hc.bd h2.bd (by decide),ct,sp
theorem cm6(ns:List Int)(k:Nat)(hn:ns.length<=63)(hk:k < 2 ^ 30):∃c x y z,P7 [.list (ns.map eL),.int k]=some (sp c x y z)/\Spot 8 c x y z:=by
 obtain⟨c,a0,a1,a2,e,hc,h0,h1,h2⟩:=bN6 ns k hn hk;exact⟨c,c*a0,c*a1,c*a2,e,⟨hc.mono (by decide),hc.bd.mul h0.bd,hc.bd.mul h1.bd,hc.bd.mul h2.bd,b8 hc.bd.nn h0.le,b8 hc.bd.nn h1.le,b8 hc.bd.nn h2.le⟩⟩
theorem bK6(i:Int):Y6 [.int i]=some (.bool true):=rfl
theorem V2(i:Int):O3 [.int i]=some (.bool true):=rfl
theorem ar0(r:Rat):eJ (fr r)=true:=rfl
theorem cx0(r s:Rat):eqD (fr r) (fr s)=some (.bool (decide (r=s))):=by
 unfold eqD;rw[if_pos ⟨ar0 r,ar0 s⟩]
 congr 2
 show((r.num==s.num)&&(((r.den:Int)==(s.den:Int))&&true))=_;rw[cR];simp only[de,ah,beq_iff_eq,decide_eq_true_eq];constructor
 ·intro h;exact Rat.ext h.1 (by exact_mod_cast h.2)
 ·intro h;subst h;exact⟨rfl,rfl⟩
theorem aD2{k:Nat}{r:Rat}(h:Bd k r):mkRat ((r.num.natAbs:Nat):Int) r.den=r:=by
 rw[← h.nat];exact Rat.mkRat_self r
theorem ak7{k:Nat}{r:Rat}(h:IsSh k r):r.num<=r.den:=by
 have:=(Rat.le_iff r 1).mp h.le;have e0:(1:Rat).num=1:=rfl;have e1:(1:Rat).den=1:=rfl;rw[e0,e1]at this;omega
theorem bn9(a b:D):((([a,b]:List D).length:Nat):Int)=2:=rfl
theorem ce8(a b c d:D):((([a,b,c,d]:List D).length:Nat):Int)=4:=rfl
theorem bb2:((2:Int)==2)=true:=rfl
theorem bb4:((4:Int)==4)=true:=rfl
theorem cm2{k:Nat}{r:Rat}(h:IsSh k r)(hk:k<=8000):az8 [fr r]=some (.bool true):=by
 have n0:=Rat.num_nonneg.mpr h.bd.nn;have nd:=ak7 h;have d0:(0:Int) < r.den:=by have:=Q9 r;omega
 have e:=aN6 r.num.natAbs r.den k (Q9 r) h.bd.den hk;rw[aD2 h.bd,← h.bd.nat]at e;have e2:=cx0 r r;refine D1 (ρ:=[‹fr r›]) rfl ?_;have e':W3 [eL r.num,eL r.den]=some (.tuple [.int r.num,.int r.den]):=e
 have e2':eqD (.tuple [.int r.num,.int r.den]) (.tuple [.int r.num,.int r.den])=some (.bool true):=by
  have:=e2;simp only[decide_true]at this;exact this
 wp_walk using evA,ab1,fr,bn9,bb2,bK6,d0,decide_true,n0,nd,e',e2'
theorem Y2{k:Nat}{r:Rat}(h:IsSh k r)(hk:k<=8000):T4 [fr r]=some (.bool true):=by
 have n0:=Rat.num_nonneg.mpr h.bd.nn;have nd:=ak7 h;have d0:(0:Int) < r.den:=by have:=Q9 r;omega
 have e:=bx7 r.num.natAbs r.den;rw[← h.bd.nat,show bR r.num.natAbs r.den=1 from r.reduced]at e;have e':G6 [eL r.num,eL r.den]=some (.int 1):=e;have b1:((1:Int)==1)=true:=rfl;refine D1 (ρ:=[‹fr r›,none,none]) rfl ?_
 wp_walk using evA,T3,fr,bn9,bb2,V2,d0,decide_true,n0,nd,e',b1
theorem cy4:az4 [.bool true,.bool true,.bool true]=some true:=rfl
theorem cy3:az4 [.bool true,.bool true,.bool true,.bool true]=some true:=rfl
theorem bc2{k:Nat}{c x y z:Rat}(S:Spot k c x y z)(hk:k+k<=8000):O4 [sp c x y z]=some (.bool true):=by
 have hk1:k<=8000:=by grind
 have lx:IsSh k x:=⟨S.hx,Rat.le_trans S.xc S.hc.le⟩;have ly:IsSh k y:=⟨S.hy,Rat.le_trans S.yc S.hc.le⟩;have lz:IsSh k z:=⟨S.hz,Rat.le_trans S.zc S.hc.le⟩;refine D1 (ρ:=[‹sp c x y z›]) rfl ?_;have f4:([fr c,fr x,fr y,fr z]:List D).length<=16777216:=by show 4<=16777216;decide
 have f3:([fr x,fr y,fr z]:List D).length<=16777216:=by show 3<=16777216;decide
 wp_walk using evA,W0,sp,ce8,bb4,f4,f3,Y2 S.hc hk1,Y2 lx hk1,Y2 ly hk1,Y2 lz hk1,cy4,cy3,i5 S.hx S.hc.bd hk,i5 S.hy S.hc.bd hk,i5 S.hz S.hc.bd hk,S.xc,S.yc,S.zc,decide_true
end Sh
namespace Sh
open PySem G L2
theorem aU6{x y:Str}{b:Bool}(hx:eO (.str x)=true)(hy:eO (.str y)=true)(e:(x==y)=b):eqD (.str x) (.str y)=some (.bool b):=by
 unfold eqD;have s:∀z:Str,eO (.str z)=true->eJ (.str z)=true:=λz h=>by unfold eJ;rw[h];rfl
 rw[if_pos ⟨s x hx,s y hy⟩];show some (eM (x==y))=_;rw[e]
theorem aS3{x y:Str}{b:Bool}(hx:eO (.str x)=true)(hy:eO (.str y)=true)(e:(!(x==y))=b):neD (.str x) (.str y)=some (.bool b):=by
 unfold neD;have s:∀z:Str,eO (.str z)=true->eJ (.str z)=true:=λz h=>by unfold eJ;rw[h];rfl
 rw[if_pos ⟨s x hx,s y hy⟩];show some (eM (!(x==y)))=_;rw[e]
inductive Man where
 | over|mult|screen|plus|atop|cut
end Sh
namespace Sh
open PySem G L2
inductive Rul where
 | turn|grey|round
end Sh
namespace Sh
open PySem G L2
end Sh
namespace Sh
open PySem G L2
theorem z3(a b c d e f:D):(List.zip [a,b,c] [d,e,f]).map (λ(x,y)=>PyData.tuple [x,y])=[.tuple [a,d],.tuple [b,e],.tuple [c,f]]:=rfl
end Sh
namespace Sh
open PySem G L2
structure Q4 where
 c:Rat
 x:Rat
 y:Rat
 z:Rat
def Q4.d(q:Q4):D:=sp q.c q.x q.y q.z
def Q4.ok(k:Nat)(q:Q4):Prop:=Spot k q.c q.x q.y q.z
def q0:Q4:=⟨0,0,0,0⟩
def Ly(n:Nat)(d:D):Prop:=eO d=true/\PyData.depth d<=n
theorem am9{n:Nat}:∀xs:List D,(∀x∈xs,Ly n x)->PyData.canLayAll0 xs=true/\PyData.depthAll xs<=n
 | [],_=>⟨rfl,aU _⟩
 | x::xs,g=>by
  have a:=g x (bC ..);have b:=am9 xs λy hy=>g y (ai _ hy)
  refine⟨?_,?_⟩
  ·show(eO x&&PyData.canLayAll0 xs)=true;rw[a.1,b.1];rfl
  ·show max (PyData.depth x) (PyData.depthAll xs)<=n;have:=a.2;have:=b.2;grind
theorem Ly.tup{n:Nat}{xs:List D}(h:∀x∈xs,Ly n x):Ly (n+1) (.tuple xs):=⟨(am9 xs h).1,Nat.succ_le_succ (am9 xs h).2⟩
theorem Ly.lst{n:Nat}{xs:List D}(h:∀x∈xs,Ly n x):Ly (n+1) (.list xs):=⟨(am9 xs h).1,Nat.succ_le_succ (am9 xs h).2⟩
theorem Ly.int(n:Nat)(i:Int):Ly n (.int i):=⟨rfl,aU _⟩
theorem Ly.shaped{n:Nat}{d:D}(g:Ly n d)(hn:n<=64):eJ d=true:=by
 unfold eJ;rw[g.1,bu];exact decide_eq_true (by have:=g.2;grind)
theorem bI1{n:Nat}{d:D}(g:Ly n d)(hn:n<=64):neD d d=some (.bool false):=by
 unfold neD;rw[if_pos ⟨g.shaped hn,g.shaped hn⟩,SeqAt.eqv_refl d g.1];rfl
def shD(w h:Nat)(l:List Q4):D:=.tuple [.int w,.int h,.tuple (l.map Q4.d)]
structure ShOk (k:Nat) (w h:Nat) (l:List Q4):Prop where
 w1:1<=w
 w8:w<=8
 h1:1<=h
 h8:h<=8
 len:l.length=w*h
 ok:∀q∈l,q.ok k
theorem bR6{α:Type}{e:DE}{r:Rho}{h f:α->D}:∀(l:List α) (x:Option B),(∀a∈l,e (‹h a›::r)=some (f a))->Z0 (F4 0) G7 e (l.map h) (x::r)=some (l.map f)
 | [],_,_=>rfl
 | a::l,x,H=>by
  simp only[xmc,Z0,F4,xw0,xbs,G7,if_true,H a (bC ..),bR6 l _ (λb hb=>H b (ai _ hb)),xms]
theorem S7{α:Type}{caps:List Nat}{src:Rho->Option (List D)}{e:DE}{ρ r:Rho}{l:List α}{h f:α->D}(hr:ag8 1 caps ρ=none::r)(hs:src ρ=some (l.map h))(hl:l.length<=1000)(H:∀a∈l,e (‹h a›::r)=some (f a)):
  E4 1 caps src (F4 0) G7 e ρ=some (l.map f):=by
 unfold E4;rw[hs,xbs,if_pos (by rw[ak];grind),hr,bR6 l _ H]
theorem aQ6{f:DE}{ρ:Rho}{n:Nat}(h:f ρ=some (.int n))(hn:n<=1000):P4 f ρ=some ((aZ n).map λk:Nat=>eL k):=by
 unfold P4;rw[h,xbs];show(if -(2 ^ 62)<=(n:Int)/\(n:Int) < 2 ^ 62 then some (O0 0 n) else none)=_;rw[if_pos ⟨by grind,by grind⟩];unfold O0
 congr 1
 have e:((n:Int) - 0).toNat=n:=by grind
 rw[e];apply bc;intro k _
 congr 1
 grind
theorem bm7{i j:Int}(h1:D6 i)(h2:D6 j):J3 (.int i) (.int j)=some (.int (i*j)):=N9 h1 h2
theorem S8{i j:Nat}(h1:i<=1000)(h2:j<=1000):J3 (.int i) (.int j)=some (.int ((i*j:Nat):Int)):=by
 rw[bm7 (M0 (k:=10) (by grind) (by decide)) (M0 (k:=10) (by grind) (by decide)),bB]
theorem cj7{n:Nat}{i:Int}(h0:0<=i)(h1:i < n):ixN n i=some i.toNat:=by unfold ixN;rw[if_pos h0,if_pos h1]
end Sh
namespace Sh
open PySem G L2
abbrev scr(ns:List Int):D:=.list (ns.map eL)
theorem S9(ns:List Int)(k m:Nat)(hn:ns.length<=63)(hk:k < 2 ^ 60)(hm:0 < m):∃n:Nat,B4 [scr ns,.int k,.int m]=some (.int n)/\n < m:=by
 have a:=ai6 ns k m hn hk (by grind);have b:=ah9 ns k m (by grind);refine⟨(x6 ns k m).toNat,?_,by grind⟩;rw[a]
 congr 2
 grind
theorem D4{h:D->D->Option D}{f g:DE}{ρ:Rho}{x y:D}(h1:f ρ=some x)(h2:g ρ=some y):A3 h f g ρ=h x y:=by unfold A3;rw[h1,xbs,h2,xbs]
theorem t9{α:Type}(a:α):∀n:Nat,(au n [a]).flatten=au n a
 | 0=>rfl
 | n+1=>by rw[bE,bW,t9 a n];rfl
theorem bm8{xs:List D}{n:Nat}(hn:n<=1000)(hx:xs.length<=1000):J3 (.list xs) (.int n)=some (.list (au n xs).flatten):=by
 show(if 0<=(n:Int)/\(n:Int) < 1000000/\xs.length*((n:Int)).toNat<=16777216 then some (PyData.list (au ((n:Int)).toNat xs).flatten) else none)=_;rw[cj,if_pos ⟨by omega,by omega,aM (bL hx hn) (by decide)⟩]
theorem cD7(a:D)(r:List D):aa4 (a::r) none (some 1)=[a]:=by
 unfold aa4;have h1:HT.sIx (a::r).length 0 none=0:=by simp[HT.sIx]
 have h2:HT.sIx (a::r).length (a::r).length (some 1)=1:=by simp only[HT.sIx,aI];first|omega|(simp;omega)|simp
 rw[h1,h2];rfl
theorem aW5(ns:List Int)(k:Nat)(hn:ns.length<=63)(hk:k < 2 ^ 30):∃q:Q4,P7 [scr ns,.int k]=some q.d/\q.ok 8:=by
 obtain⟨c,x,y,z,e,S⟩:=cm6 ns k hn hk;exact⟨⟨c,x,y,z⟩,e,S⟩
theorem bg7(ns:List Int)(at':Nat)(hn:ns.length<=63)(ha:at' < 2 ^ 20):∃f:Nat->Q4,∀k,k < 1000->P7 [scr ns,.int ((at'+12*k:Nat):Int)]=some (f k).d/\(f k).ok 8:=by
 refine⟨λk=>if h:k < 1000 then Classical.choose (aW5 ns (at'+12*k) hn (by grind)) else q0,λk hk=>?_⟩;simp only[dif_pos hk];exact dB (aW5 ns (at'+12*k) hn (by grind))
theorem aD8{P:Q4->Prop}(ns:List Int)(at' w h:Nat)(hn:ns.length<=63)(ha:at' < 2 ^ 20)(w1:1<=w)(w8:w<=8)(h1:1<=h)(h8:h<=8)(hf:∃f:Nat->Q4,∀k,k < 1000->P7 [scr ns,.int ((at'+12*k:Nat):Int)]=some (f k).d/\P (f k)):∃l:List Q4,W2 [scr ns,.int at',.int w,.int h]=some (shD w h l)/\l.length=w*h/\∀q∈l,P q:=by
 obtain⟨f,hf⟩:=hf;have wh:w*h<=64:=bL w8 h8;have wh1:1<=w*h:=bL w1 h1;obtain⟨t,et,ht⟩:=S9 ns (at'+7) 3 hn (by grind) (by decide);have et':B4 [scr ns,.int ((at':Int)+7),.int 3]=some (.int t):=by rw[← et];simp
 have c:E4 1 [0,1] (P4 (A3 J3 (A1 2) (A1 3))) (F4 0) G7 (A6 P7 (A0 (A1 1) (A0 (A3 B8 (A1 2) (A3 J3 ⇑12 (A1 0))) A4))) [‹scr ns›,‹.int at'›,‹.int w›,‹.int h›,none]=some ((aZ (w*h)).map λk=>(f k).d):=by
  refine S7 (l:=aZ (w*h)) (h:=λk:Nat=>eL k) (r:=[‹scr ns›,‹.int at'›]) rfl (aQ6 ?_ (by grind)) (by rw[cG];grind) ?_
  ·exact S8 (by grind) (by grind)
  ·intro k hk;have hk:=cA.mp hk;have m12:J3 (.int 12) (.int k)=some (.int ((12*k:Nat):Int)):=S8 (i:=12) (by decide) (by grind);have e1:((at':Int)+((12*k:Nat):Int))=((at'+12*k:Nat):Int):=by grind
   wp_walk using evD,m12,e1,(hf k (by grind)).1
 have mwh:J3 (.int w) (.int h)=some (.int ((w*h:Nat):Int)):=S8 (by grind) (by grind)
 have cv:((t:Int)==0)=decide (t=0):=by cases t with
  | zero=>rfl
  | succ n=>rw[decide_eq_false (by grind)];exact beq_eq_false_iff_ne.mpr (by grind)
 obtain⟨n,en⟩:∃n,w*h=n+1:=⟨w*h - 1,by grind⟩;by_cases t0:t=0
 ·refine⟨au (w*h) (f 0),?_,bA ..,λq hq=>by rw[(cY.mp hq).2];exact(hf 0 (by decide)).2⟩;refine D1 (ρ:=[‹scr ns›,‹.int at'›,‹.int w›,‹.int h›,none]) rfl ?_
  have hd:(aZ (w*h)).map (λk=>(f k).d)=(f 0).d::(aZ n).map (λk=>(f (k+1)).d):=by
   rw[en,List.range_succ_eq_map,xmc,aV];rfl
  rw[hd]at c
  have v:A3 J3 (aF3 (A1 4) L0 (K6 ⇑1)) (A3 J3 (A1 2) (A1 3)) [‹scr ns›,‹.int at'›,‹.int w›,‹.int h›,‹.list ((f 0).d::(aZ n).map (λk=>(f (k+1)).d))›]=some (.list (au (w*h) (f 0).d)):=by
   have a1:aF3 (A1 4) L0 (K6 ⇑1) [‹scr ns›,‹.int at'›,‹.int w›,‹.int h›,‹.list ((f 0).d::(aZ n).map (λk=>(f (k+1)).d))›]=some (.list (aa4 ((f 0).d::(aZ n).map (λk=>(f (k+1)).d)) none (some 1))):=rfl;have a2:A3 J3 (A1 2) (A1 3) [‹scr ns›,‹.int at'›,‹.int w›,‹.int h›,‹.list ((f 0).d::(aZ n).map (λk=>(f (k+1)).d))›]=some (.int ((w*h:Nat):Int)):=(D4 rfl rfl).trans mwh;rw[cD7]at a1;have a3:=bm8 (xs:=[(f 0).d]) (show w*h<=1000 by grind) (show 1<=1000 by decide);rw[t9]at a3;exact(D4 a1 a2).trans a3
  have t1:tB2 eqD (A6 B4 (A0 (A1 0) (A0 (A3 B8 (A1 1) ⇑7) (A0 ⇑3 A4)))) ⇑0 [‹scr ns›,‹.int at'›,‹.int w›,‹.int h›,‹.list ((f 0).d::(aZ n).map (λk=>(f (k+1)).d))›]=some true:=by
   simp only[tB2,A3,A6,A0,A4,A1,dC,xms,xbs,xg0,xg1,U7,et',bL8,cv,decide_eq_true t0,d7]
  simp only[ad5,E9,ae2,c,sIf,t1,J8,v,D9,M6,A0,A4,aa2,B2,A1,xms,xbs,xw0,xw1,xg0,xg1,if_true,xft,if_false,shD,List.map_replicate]
 ·refine⟨(aZ (w*h)).map f,?_,by rw[ak,cG],λq hq=>by
   obtain⟨k,hk,rfl⟩:=aE.mp hq
   exact(hf k (by have:=cA.mp hk;grind)).2⟩
  refine D1 (ρ:=[‹scr ns›,‹.int at'›,‹.int w›,‹.int h›,none]) rfl ?_
  wp_walk using evD,ad5,c,et',cv,decide_eq_false t0,shD,aV
  rfl
theorem aw1(ns:List Int)(at' w h:Nat)(hn:ns.length<=63)(ha:at' < 2 ^ 20)(w1:1<=w)(w8:w<=8)(h1:1<=h)(h8:h<=8):∃l:List Q4,W2 [scr ns,.int at',.int w,.int h]=some (shD w h l)/\ShOk 8 w h l:=by
 obtain⟨l,e,n,hl⟩:=aD8 ns at' w h hn ha w1 w8 h1 h8 (bg7 ns at' hn ha);exact⟨l,e,w1,w8,h1,h8,n,hl⟩
theorem V7{α:Type}(f:α->Bool):∀l:List α,az4 (l.map λa=>eM (f a))=some (l.all f)
 | []=>rfl
 | a::l=>by
  show(az4 (l.map λa=>eM (f a))).map (λc=>f a&&c)=_;rw[V7 f l];rfl
theorem aE7{k w h:Nat}{l:List Q4}(S:ShOk k w h l)(hk:k+k<=8000):O5 [shD w h l]=some (.bool true):=by
 have sz:∀n:Nat,1<=n->n<=8->W4 [.int n]=some (.bool true):=λn a b=>by
  refine D1 (ρ:=[‹.int n›]) rfl ?_;have w1:O3 [.int n]=some (.bool true):=rfl;have a':(1:Int)<=n:=by grind
  have b':(n:Int)<=8:=by grind
  wp_walk using evD,j8,w1,a',b',decide_true
 have l3:((([.int w,.int h,.tuple (l.map Q4.d)]:List D).length:Nat):Int)=3:=rfl;have b3:((3:Int)==3)=true:=rfl;have w8:=S.w8;have h8:=S.h8;have wh:w*h<=64:=bL w8 h8
 have zz:Y7 [shD w h l]=some (.bool true):=by
  refine D1 (ρ:=[‹shD w h l›]) rfl ?_
  wp_walk using evD,T1,shD,l3,b3,sz w S.w1 S.w8,sz h S.h1 S.h8
 have al:∀q:Option B,E4 1 [] (L3 (A1 1)) (F4 0) G7 (A6 O4 (A0 (A1 0) A4)) [q,‹.tuple (l.map Q4.d)›]=some (l.map λx=>.bool true):=λq=>by
  refine S7 (l:=l) (h:=Q4.d) (r:=[]) rfl rfl (by rw[S.len];grind) λx hx=>?_
  have:=bc2 (S.ok x hx) hk
  wp_walk using evD,Q4.d,this
 have mwh:J3 (.int w) (.int h)=some (.int ((w*h:Nat):Int)):=S8 (by grind) (by grind);have hb:((((l.map Q4.d).length:Nat):Int)==((w*h:Nat):Int))=true:=by rw[ak,S.len];simp
 have ab:az4 (l.map λx=>.bool true)=some true:=by rw[V7 (λ_=>true)];simp
 refine D1 (ρ:=[‹shD w h l›,none]) rfl ?_;simp only[shD]at zz
 wp_walk using evD,T2,shD,zz,al,mwh,hb,ab
end Sh
namespace Sh
open PySem G L2
theorem q4:(4:Nat)<=16777216:=by decide
theorem q3:(3:Nat)<=16777216:=by decide
end Sh
namespace Sh
open PySem G L2
end Sh
namespace Sh
open PySem G L2
inductive Nd where
 | layer (nm:D) (m:Man) (s:Rat) (sh:Bool) (lf tp:Int) (mk:Option (List Rat)) (w h:Nat) (l:List Q4) (kb:Nat)
 | tone (nm:D) (r:Rul) (s:Rat) (sh:Bool)
 | group (nm:D) (m:Man) (s:Rat) (sh:Bool) (ns:List Nd)
end Sh
namespace Sh
open PySem G L2
end Sh
namespace Sh
open PySem G L2
theorem ab7{f g:DS}{ρ ρ':Rho}(h:f ρ=some (.nx ρ')):E9 f g ρ=g ρ':=by unfold E9;rw[h];rfl
theorem ar2{α:Type}(x:α){n:Nat}{P:Nat->α->Prop}(h:∀j,j < n->∃a,P j a):∃f:Nat->α,∀j,j < n->P j (f j):=by
 refine⟨λj=>if hj:j < n then Classical.choose (h j hj) else x,λj hj=>?_⟩;simp only[dif_pos hj];exact dB (h j hj)
end Sh
namespace Sh
open PySem G L2
end Sh
namespace Sh
open PySem G L2
def same(a b:D):Bool:=@decide (a=b) (Classical.propDecidable _)
end Sh
namespace Sh
open PySem G L2
end Sh
namespace Sh
open PySem G L2
end Sh
namespace Sh
open PySem G L2
end Sh
namespace G
open PySem PySem.Spec PyProof.Rows L2
section
variable {X:Cx}{S:Sg}{c:Kx}
theorem F5{e:Expr}:JE X e dNo:=λρ d h=>by cases h
theorem bQ7{e:Expr}:JQ X e qNo:=λρ t d h=>by cases h
theorem aq5{e:Expr}:JN X e aNo:=λρ d h=>by cases h
theorem aq3{e:Expr}:JT X e tNo:=λρ d h=>by cases h
theorem cv3{e:Expr}:JW X e tNo:=λρ d h=>by cases h
theorem aE4{e:Expr}:JG X e gNo:=by
 unfold JG PG
 intros
 rename_i h;obtain⟨d,ρ,ρ',H0,Hf,z,_⟩:=h;cases z
theorem cv9{es:List Expr}:JA X es aNo:=⟨λρ d h=>(nomatch h),λρ d h=>(nomatch h)⟩
theorem ch0{es:List Expr}:JTs X es tNo:=λpins s σ H Q I ⟨ρ,b,h,_⟩=>by cases h
theorem j4(hu:X.A.units+64 < cLine):∀op:CmpOp,OpD X (dR op) (aM6 op)
 | .Lt=>ct4 | .LtE=>ct5 | .Gt=>ct6 | .GtE=>ct7 | .Eq=>bP5 hu | .NotEq=>bl7 hu | .Is=>bP4 | .IsNot | .In | .NotIn=>λ_ _ _ h=>nomatch h
theorem bl6(hu:X.A.units+64 < cLine)(S:Sg)(c:Kx)(op:CmpOp)(b:Expr):OpD X (dR op) (opW S c op b):=by
 unfold opW;split
 ·split
  ·exact cd5
  ·exact aY2
  ·exact j4 hu _
 ·exact j4 hu op
theorem u9{f:Expr->DE}(h:∀e,JE X e (f e)):∀es,JA X es (evA f es)
 | []=>al5
 | e::es=>by
  unfold evA;split
  ·rename_i p;exact U0 (h e) (u9 h es) (D2 p es _)
  ·exact cv9
theorem aT7{f:Expr->DE}(h:∀e,JE X e (f e))(op:BoolOp)(pos:Pos):∀vs,JE X (.BoolOp op vs pos) (bL7 f op vs)
 | []=>F5
 | [a]=>ci5 (h a)
 | a::b::r=>by
  unfold bL7;cases op
  ·exact cj3 (h a) (aT7 h .And pos (b::r))
  ·exact F5
theorem aw2{f:Expr->DT}(h:∀e,JT X e (f e))(op:BoolOp)(pos:Pos):∀vs,JW X (.BoolOp op vs pos) (bu3 f op vs)
 | []=>cv3
 | [a]=>by cases op;exact bI7 (h a);exact bp0 (h a)
 | a::b::r=>by
  unfold bu3;cases op
  ·exact cg9 (h a) (aw2 h .And pos (b::r))
  ·exact bQ4 (h a) (aw2 h .Or pos (b::r))
theorem aq4{f:Expr->DE}(h:∀e,JE X e (f e)):∀o,JO X o (evO f o)
 | none=>bJ5
 | some e=>bJ4 (h e)
theorem ch1{f:Expr->DT}(h:∀e,JT X e (f e)):∀l,JTs X l (aU5 f l)
 | []=>aw3
 | [t]=>bI8 (h t)
 | _::_::_=>ch0
theorem bq6{f:Expr->DG}(h:∀e,JG X e (f e)):∀es,es.all pl=true->JGs X es (bL6 f es)
 | [],_=>bJ8
 | e::es,p=>by
  simp only[aL,ah]at p;refine bq7 (h e) (bq6 h es p.2) ?_;have p1:=p.1;cases e<;>first|rfl|cases p1
theorem aW1{env:Env}:∀{es:List Expr},es.all pl=true->(ei es env).length=es.length/\(ei es env).findIdx? (·.1)=none
 | [],_=>⟨rfl,rfl⟩
 | e::es,p=>by
  simp only[aL,ah]at p;obtain⟨h1,h2⟩:=aW1 (env:=env) p.2;have p1:=p.1;have q:ei (e::es) env=(false,assign e env)::ei es env:=by cases e<;>first|rfl|cases p1
  rw[q];refine⟨by simp[h1],?_⟩;simp[List.findIdx?_cons,h2]
structure Sound (S:Sg) (r:Ev):Prop where
 e:∀{c X},Fit S c X->∀ex,JE X ex (r.e c ex)
 q:∀{c X},Fit S c X->∀ex,JQ X ex (r.q c ex)
 n:∀{c X},Fit S c X->∀ex,JN X ex (r.n c ex)
 t:∀{c X},Fit S c X->∀ex,JT X ex (r.t c ex)
 g:∀{c X},Fit S c X->∀ex,JG X ex (r.g c ex)
 b:∀{c X},Fit S c X->∀sts,JSs X sts (r.b c sts)
theorem Fit.hu(F:Fit S c X):(c.up==2)=true->Th X:=λh=>(F.th (by simpa using h)).1
theorem Fit.slot(F:Fit S c X){x:Str}{i:Nat}(h:Q0 x c.N=some i):X.N[i]? = some x:=by rw[F.N];exact aE5 h
theorem Fit.inner{tn:List Str}{caps:List Nat}{scope:Scope}{C:eW}{s0:eV}{H0:Hp}{ex:List eW}(F:Fit S c X)(hp:upB c=true)(hn:(G.inner c tn caps scope).N.Nodup):Fit S (G.inner c tn caps scope) (B3 (c.up==2) X (G.inner c tn caps scope).N scope C s0 H0 ex):=by
 refine⟨rfl,by show relabel scope X.env=rl scope c.sc;rw[← F.sc];rfl,hn,F.calm,(λh=>by cases h),(λh=>?_),F.units,(λh=>by cases h),(λx Fn n h=>?_),F.css,F.bls⟩
 ·have h:c.up - 1=2:=h;unfold upB at hp;simp only[cw,beq_iff_eq]at hp;omega
 ·show bc4 _ (c.up - 1 != 0) _ _ _;rw[show(c.up - 1 != 0)=(c.up==2) from by unfold upB at hp;simp only[cw,beq_iff_eq]at hp;rcases hp with e|e<;>rw[e]<;>rfl];refine(F.fns x Fn n h).imp (λ⟨k,f,fd,ps,_,h1,h2⟩=>⟨k,f,fd,ps,u5,?_,h2⟩) id;rw[show(c.up==2)=(c.up != 0) from by unfold upB at hp;simp only[cw,beq_iff_eq]at hp;rcases hp with e|e<;>rw[e]<;>rfl];exact h1
variable {r:Ev}
theorem bq5(R:Sound S r)(F:Fit S c X)(tg it:Expr):JI X tg it (evI S r c tg it):=by
 unfold evI;split
 ·rename_i x p a pos;split
  ·rename_i h;simp only[ah]at h;obtain⟨rfl,h1,h2⟩:=L8 F h.1;exact aZ4 h1 h2 (R.e F a) (D2 h.2 _ _)
  ·split
   ·rename_i h;simp only[ah]at h;obtain⟨rfl,h1,h2⟩:=L8 F h.1.1;have ht:=h.1.2;cases tg<;>first|(exact bJ7 h1 h2 (R.e F a) (D2 h.2 _ _))|(exact nomatch ht)
   ·exact bq4 (R.e F _)
 ·split
  ·exact ci1 (R.e F _)
  ·exact bq4 (R.e F _)
theorem ay2(R:Sound S r)(F:Fit S c X){elt tgt iter:Expr}{ifs:List Expr}{scope:Scope}{caps:List Nat}
  (h:(X8 c.N (G.inner c (E2 tgt) caps scope).N (E2 tgt).length caps c.sc scope&&X3 (G.inner c (E2 tgt) caps scope).N&&pl iter&&upB c)=true) :
  CompSc X (G.inner c (E2 tgt) caps scope).N (E2 tgt).length caps scope/\JI X tgt iter (evI S r c tgt iter)/\(∀C s0 H0 ex,JG (B3 (c.up==2) X (G.inner c (E2 tgt) caps scope).N scope C s0 H0 ex) tgt (r.g (G.inner c (E2 tgt) caps scope) tgt)) /\
  (∀C s0 H0 ex,JTs (B3 (c.up==2) X (G.inner c (E2 tgt) caps scope).N scope C s0 H0 ex) ifs (aU5 (r.t (G.inner c (E2 tgt) caps scope)) ifs))/\(∀C s0 H0 ex,JE (B3 (c.up==2) X (G.inner c (E2 tgt) caps scope).N scope C s0 H0 ex) elt (r.e (G.inner c (E2 tgt) caps scope) elt)) /\
  ∀x,em iter X.env x=pure x:=by
 simp only[ah]at h;obtain⟨⟨⟨h1,h2⟩,h3⟩,h4⟩:=h;have hn:=V1 h2;exact⟨ad1 h1 F.N F.sc,bq5 R F tgt iter,λC s0 H0 ex=>R.g (F.inner h4 hn) tgt,λC s0 H0 ex=>ch1 (R.t (F.inner h4 hn)) ifs,λC s0 H0 ex=>R.e (F.inner h4 hn) elt,ah4 h3 _⟩
theorem cv5(R:Sound S r)(F:Fit S c X)(ex:Expr):JN X ex (evC S r c ex):=by
 unfold evC;split
 ·rename_i elt tgt iter ifs scope pos;dsimp only;split
  ·rename_i h;obtain⟨h1,h2,h3,h4,h5,h6⟩:=ay2 (ifs:=ifs) (elt:=elt) R F h;exact bJ6 h1 F.hu h2 h3 h4 h5 F.calm h6
  ·exact aq5
 ·exact aq5
theorem aW9{x:Str}{T:String}(h:bW2 x=some T):dY x=some (.type T)/\x ≠ "__name__" /\ (x==("__debug__" : Str))=false:=by
 unfold bW2 at h;split at h
 ·rename_i e;cases h;simp only[beq_iff_eq]at e;subst e;exact⟨az0,by decide,by decide⟩
 ·split at h
  ·rename_i e;cases h;simp only[beq_iff_eq]at e;subst e;exact⟨bM9,by decide,by decide⟩
  ·split at h
   ·rename_i e;cases h;simp only[beq_iff_eq]at e;subst e;exact⟨aM8,by decide,by decide⟩
   ·split at h
    ·rename_i e;cases h;simp only[beq_iff_eq]at e;subst e;exact⟨am8,by decide,by decide⟩
    ·split at h
     ·rename_i e;cases h;simp only[beq_iff_eq]at e;subst e;exact⟨bM8,by decide,by decide⟩
     ·cases h
theorem G0(pos:Pos)(env:Env):∀{es:List Expr},es.all pl=true->(dO es env).any (·.1)=false
 | [],_=>rfl
 | e::es,h=>by
  simp only[aL,ah]at h;rw[D2 h.1,bP,G0 pos env h.2];rfl
end
end G
namespace G
open PySem PySem.Spec PyProof.Rows L2
section
variable {X:Cx}{S:Sg}{c:Kx}{r:Ev}
theorem bD0(h:bY4 e=some t):∃p,e=.Slice t.1 t.2.1 t.2.2 p:=by
 cases e<;>first|(cases h;exact⟨_,rfl⟩)|cases h
theorem J5(h:nmP e=some t):e=.Name t.1 t.2:=by
 cases e<;>first|(cases h;rfl)|cases h
theorem by1(R:Sound S r)(F:Fit S c X)(a i:Expr)(pos:Pos):JE X (.Subscript a i pos) (bS2 r c a i):=by
 unfold bS2;split
 ·rename_i t ht;obtain⟨p,rfl⟩:=bD0 ht;obtain⟨lo,hi,st⟩:=t;cases st with
  | none =>
   dsimp only;split
   ·exact br1 (R.e F _) (aq4 (R.e F) _) (aq4 (R.e F) _)
   ·split
    ·exact ci3 (R.e F _) (aq4 (R.e F) _) (aq4 (R.e F) _)
    ·exact ci4 (R.e F _) (aq4 (R.e F) _) (aq4 (R.e F) _)
  | some e=>exact F5
 ·split
  ·rename_i h;exact cv7 (R.q F _) (R.e F _) (bi9 h)
  ·exact F5
theorem aW7(R:Sound S r)(F:Fit S c X)(x:Str)(a:Expr)(p pos:Pos):JE X (.Call (.Name x p) [a] [] pos) (aG9 S r c x a):=by
 unfold aG9;split
 ·exact F5
 rename_i hp;have hp:pl a=true:=by simpa using hp
 have hs:=D2 hp [] X.env;split
 ·rename_i h;obtain⟨rfl,h1,h2⟩:=L8 F h;split
  ·exact bK0 h1 h2 (R.e F a) hs
  ·exact ci8 h1 h2 (R.q F a) hs
 split
 ·rename_i h;obtain⟨rfl,h1,h2⟩:=L8 F h;exact bJ9 h1 h2 (R.q F a) hs
 split
 ·rename_i h;obtain⟨rfl,h1,h2⟩:=L8 F h;exact cj4 h1 h2 (R.q F a) F.calm hs
 split
 ·rename_i h;obtain⟨rfl,h1,h2⟩:=L8 F h;split;exact bK2 h1 h2 (R.e F a) hs;exact br4 h1 h2 (R.e F a) hs
 split
 ·rename_i h;obtain⟨rfl,h1,h2⟩:=L8 F h;exact br0 h1 h2 (R.e F a) hs
 exact F5
theorem aW6(R:Sound S r)(F:Fit S c X)(x:Str)(a b:Expr)(p pos:Pos):JE X (.Call (.Name x p) [a,b] [] pos) (aG8 S r c x a b):=by
 unfold aG8;split
 ·exact F5
 rename_i hp;have hp:pl a=true:=by simpa using hp
 split
 ·rename_i h;obtain⟨rfl,h1,h2⟩:=L8 F h;split
  ·rename_i y py;split
   ·rename_i T hT;split
    ·rename_i hy;obtain⟨_,g1,g2⟩:=L8 F hy;obtain⟨t1,t2,t3⟩:=aW9 hT;exact ci9 h1 h2 g1 g2 t1 (R.e F a) t2 t3 (D2 hp _ _) rfl rfl
    ·exact F5
   ·exact F5
  ·exact F5
 exact F5
theorem L4(pos:Pos):∀l:List (Bool×Sem eU),(backTo pos l).any (·.1)=l.any (·.1)
 | []=>rfl
 | (b,t)::r=>by
  have ih:=L4 pos r;unfold backTo at ih ⊢;rw[xmc,bP,bP,ih]
theorem bc9(R:Sound S r)(F:Fit S c X)(x:Str)(args:List Expr)(p pos:Pos):JE X (.Call (.Name x p) args [] pos) (bd0 S r c x args (.Call (.Name x p) args [] pos)):=by
 unfold bd0;split
 ·rename_i Fn n hl;split
  ·rename_i h;simp only[ah,beq_iff_eq]at h;obtain⟨⟨hg,hn⟩,hp⟩:=h;obtain⟨g1,g2⟩:=G2 F hg;rcases F.fns _ _ _ hl with⟨k,f,fd,ps,hq,hk,hr,hm,hkp,hb⟩|⟨hm,hb⟩
   case inr =>
    cases args with
    | nil=>cases hn;exact absurd hb.1 (bf _)
    | cons e es =>
     simp only[aL,ah]at hp;exact cv8 hb F.units g1 hm (u9 (R.e F) (e::es)) hn g2 (D2 hp.1 _ _) ((L4 pos _).trans (G0 pos _ hp.2))
   cases args with
   | nil=>cases hn;exact br9 hk hq hr g1 hm hkp hb g2
   | cons e es =>
    simp only[aL,ah]at hp;exact bK3 hk hq hr g1 hm hkp hb (u9 (R.e F) (e::es)) hn g2 (D2 hp.1 _ _) ((L4 pos _).trans (G0 pos _ hp.2))
  ·exact F5
 ·split
  ·exact aW7 R F _ _ _ _
  ·exact aW6 R F _ _ _ _ _
  ·exact F5
theorem bS8(k:Const)(u:Nat)(pos:Pos):JE X (.Constant k u pos) (xCn k):=by
 unfold xCn;split
 ·exact ci7
 ·exact bs0
 ·exact aK6
 ·exact al3
 ·exact F5
theorem by6(R:Sound S r)(F:Fit S c X)(a:Expr)(op:Operator)(b:Expr)(pos:Pos):JE X (.BinOp a op b pos) (bT1 r c a op b):=by
 unfold bT1;split
 ·split
  ·exact n8 bl8 (R.e F _) (R.e F _)
  ·exact n8 aS1 (R.e F _) (R.e F _)
 ·split
  ·exact n8 av0 (R.e F _) (R.e F _)
  ·exact n8 bH8 (R.e F _) (R.e F _)
 ·exact n8 cd6 (R.e F _) (R.e F _)
 ·exact n8 cd3 (R.e F _) (R.e F _)
 ·exact n8 cd1 (R.e F _) (R.e F _)
 ·exact F5
theorem bS1(R:Sound S r)(F:Fit S c X)(op:UnaryOp)(a:Expr)(pos:Pos):JE X (.UnaryOp op a pos) (xUn r c op a):=by
 unfold xUn;split
 ·exact br2 (R.e F _)
 ·exact ci6 (R.e F _)
 ·exact F5
theorem by5(R:Sound S r)(F:Fit S c X)(a:Expr)(ops:List CmpOp)(bs:List Expr)(pos:Pos):JE X (.Compare a ops bs pos) (bS9 S r c a ops bs):=by
 have hu:=F.units;unfold bS9;split
 ·split
  ·rename_i h;exact cj2 (bl6 hu S c _ _) (R.e F _) (R.e F _) (ah3 h _)
  ·exact F5
 ·split
  ·rename_i h;exact br7 (j4 hu _) (j4 hu _) (R.e F _) (R.e F _) (R.e F _) (ah3 h _)
  ·exact F5
 ·exact F5
theorem bY9(F:Fit S c X){a e:Expr}(h:rvA S c a=some e):∃p1 p2,a=.Call (.Name "reversed" p1) [e] [] p2/\Gl X "reversed" /\ X.mg "reversed" = none/\pl e=true:=by
 unfold rvA at h;split at h
 ·split at h
  ·rename_i b;cases h;simp only[ah]at b;obtain⟨rfl,h1,h2⟩:=L8 F b.1;exact⟨_,_,rfl,h1,h2,b.2⟩
  ·cases h
 ·cases h
theorem by4(R:Sound S r)(F:Fit S c X)(o:Expr)(m:Str)(apos cpos:Pos)(args:List Expr):JE X (.Call (.Attribute o m apos) args [] cpos) (bS6 S r c o m apos cpos args):=by
 unfold bS6;split
 ·split
  ·rename_i h;simp only[ah,beq_iff_eq]at h;obtain⟨⟨hn,hl⟩,hp⟩:=h;have hs:=D2 hp [] X.env;have hl:(apos.endLine==cpos.line)=true:=by simpa using hl
   unfold xTx;split
   ·rename_i hm;rw[beq_iff_eq]at hm;subst hm;split
    ·rename_i e he;obtain⟨p1,p2,rfl,h1,h2,h3⟩:=bY9 F he;exact br3 F.calm h1 h2 (R.e F _) (R.q F _) (M2 hn _ _ _) hl (D2 h3 [] X.env)
    ·exact bK1 (R.e F _) (R.q F _) (M2 hn _ _ _) (by rw[hs];rfl) hl hs
   split
   ·rename_i hm;rw[beq_iff_eq]at hm;subst hm;exact bQ9 PySem.F.slot_str_split PySem.F.type_str_split bm9 bs9 (R.e F _) (R.e F _) (M2 hn _ _ _) (by rw[hs];rfl) hl hs
   split
   ·rename_i hm;rw[beq_iff_eq]at hm;subst hm;exact bQ9 PySem.F.slot_str_partition PySem.F.type_str_partition bI3 bL1 (R.e F _) (R.e F _) (M2 hn _ _ _) (by rw[hs];rfl) hl hs
   split
   ·rename_i hm;rw[beq_iff_eq]at hm;subst hm;exact cv6 (R.e F _) (R.e F _) (M2 hn _ _ _) (by rw[hs];rfl) hl hs
   exact F5
  ·exact F5
 ·exact F5
theorem bT0(R:Sound S r)(F:Fit S c X)(f:Expr)(args:List Expr)(kw:List eh)(pos:Pos):JE X (.Call f args kw pos) (xCl S r c f args kw pos):=by
 unfold xCl;split
 ·split
  ·exact bc9 R F _ _ _ _
  ·exact by4 R F _ _ _ _ _
  ·exact F5
 ·exact F5
theorem cn9(R:Sound S r)(F:Fit S c X)(ex:Expr):JE X ex (xE S r c ex):=by
 cases ex
 case Constant=>exact bS8 _ _ _
 case Name x p =>
  unfold xE;dsimp only;split
  ·rename_i i h;split
   ·rename_i v;obtain⟨h1,h2,h3⟩:=F6 F v;exact bq8 i (F.slot h) h1 h2 h3
   ·exact F5
  ·split
   ·rename_i d hd;split
    ·rename_i g;obtain⟨u,k1,k2⟩:=F.css _ _ hd;obtain⟨g1,g2⟩:=G2 F g;exact cj1 k1 g1 k2 g2
    ·exact F5
   ·exact F5
 case Tuple es _ _ =>
  unfold xE;dsimp only;split
  ·rename_i h;exact aK4 (u9 (R.e F) _) h
  ·exact F5
 case List=>exact al4 (R.n F _)
 case ListComp=>exact al4 (R.n F _)
 case BinOp=>exact by6 R F _ _ _ _
 case UnaryOp=>exact bS1 R F _ _ _
 case Compare=>exact by5 R F _ _ _ _
 case BoolOp=>exact aT7 (R.e F) _ _ _
 case IfExp=>exact cj0 (R.t F _) (R.e F _) (R.e F _)
 case Subscript=>exact by1 R F _ _ _
 case Call=>exact bT0 R F _ _ _ _
 all_goals exact F5
theorem cn6(R:Sound S r)(F:Fit S c X)(ex:Expr):JQ X ex (xQ r c ex):=by
 cases ex
 case Name x p =>
  unfold xQ;dsimp only;split
  ·rename_i i h;split
   ·rename_i v;obtain⟨h1,h2,h3⟩:=F6 F v;exact ch6 i (F.slot h) h1 h2 h3
   ·exact bQ7
  ·exact bQ6 (R.e F _)
 case List=>exact cv4 (R.n F _)
 case ListComp=>exact cv4 (R.n F _)
 all_goals exact bQ6 (R.e F _)
theorem cn7(R:Sound S r)(F:Fit S c X)(ex:Expr):JN X ex (xN S r c ex):=by
 cases ex
 case List es p =>
  unfold xN;dsimp only;split
  ·rename_i h;exact bp9 (u9 (R.e F) _) h
  ·exact aq5
 case ListComp=>exact cv5 R F _
 case BinOp a op b p =>
  cases op
  case Add=>exact ch8 (R.q F _) (R.q F _)
  all_goals exact aq5
 all_goals exact aq5
theorem cn4(R:Sound S r)(F:Fit S c X)(ex:Expr):JT X ex (xT S r c ex):=by
 have hu:=F.units
 have oth:∀e:Expr,JT X e (if plT e then S4 (r.e c e) else tNo):=λe=>by
  split
  ·rename_i h;exact bp1 (R.e F _) (bj0 h _)
  ·exact aq3
 cases ex
 case Compare a ops bs p =>
  unfold xT bN8;dsimp only;split
  ·split
   ·rename_i h;exact bp3 (bl6 hu S c _ _) (R.e F _) (R.e F _) (ah3 h _)
   ·exact aq3
  ·split
   ·rename_i h;exact bp4 (j4 hu _) (j4 hu _) (R.e F _) (R.e F _) (R.e F _) (ah3 h _)
   ·exact aq3
  ·exact aq3
 case BoolOp=>exact aE1 (aw2 (R.t F) _ _ _)
 case UnaryOp op a p =>
  cases op
  case Not=>exact bp2 (R.t F _)
  all_goals exact aq3
 all_goals exact oth _
theorem cn8(R:Sound S r)(F:Fit S c X)(ex:Expr):JG X ex (xG r c ex):=by
 unfold xG;split
 ·split
  ·rename_i i h;split
   ·rename_i v;obtain⟨h1,h2⟩:=j7 F v;exact aw5 i (by rw[F.N];exact F.nd) (F.slot h) h1 h2
   ·exact aE4
  ·exact aE4
 ·split
  ·rename_i h;obtain⟨h1,h2⟩:=aW1 (env:=X.env) h;exact ci2 (bq6 (R.g F) _ h) F.calm h1 h2
  ·exact aE4
 ·exact aE4
theorem aT1{st:Stmt}{f:DS}(h:∀ρ,f ρ=none):JS X st f:=λρ fl q=>by rw[h ρ]at q;cases q
theorem ay9(F:Fit S c X)(h:c.df=true):X.env.blockKind=.function:=by
 unfold Env.blockKind;rw[F.sc,(F.df h).2];rfl
theorem i6(elt:Expr)(gens:List Comprehension)(sc:Scope)(pv p':Pos)(x:Str)(l:Nat)(env:Env):swapsWith (.ListComp elt gens sc pv) (some (.Name x p')) l env =
  pure (env.blockKind == .function&&env.kindOf x==some .local&&p'.line==pv.line && !(sc.names.any λ(n,k)=>n==x&&(k == .local || k == .cell))):=rfl
theorem aT2(R:Sound S r)(F:Fit S c X){x:Str}{p' pv p:Pos}{elt:Expr}{gens:List Comprehension}{sc:Scope}{i:Nat}(hi:Q0 x c.N=some i)(hl:(c.sc.names.lookup x==some .local)=true)
  (h:(c.df&&p'.line==pv.line && !(sc.names.any λ(n,k)=>n==x&&(k == .local || k == .cell)))=true) :
  JS X (.Assign [.Name x p'] (.ListComp elt gens sc pv) p) (aX5 i (evC S r c (.ListComp elt gens sc pv)))/\JS X (.Assign [.Name x p'] (.ListComp elt gens sc pv) p) (ae2 i (evC S r c (.ListComp elt gens sc pv))):=by
 unfold evC;simp only[ah]at h;have hl':X.env.scope.names.lookup x=some .local:=by rw[F.sc];simpa using hl
 have hsw:swapsWith (.ListComp elt gens sc pv) (some (.Name x p')) p.line X.env=pure true:=by
  rw[i6,ay9 F h.1.1,h.1.2,h.2];unfold Env.kindOf;rw[hl'];rfl
 split
 ·rename_i elt tgt iter ifs scope pos he;cases he;dsimp only;split
  ·rename_i hc;obtain⟨h1,h2,h3,h4,h5,h6⟩:=ay2 (ifs:=ifs) (elt:=elt) R F hc;exact⟨bJ1 i (by rw[F.N];exact F.nd) h1 F.hu h2 h3 h4 h5 (F.slot hi) hl' hsw F.calm h6,bJ2 i (by rw[F.N];exact F.nd) h1 F.hu h2 h3 h4 h5 (F.slot hi) hl' hsw F.calm h6⟩
  ·exact⟨aT1 λρ=>rfl,aT1 λρ=>rfl⟩
 ·exact⟨aT1 λρ=>rfl,aT1 λρ=>rfl⟩
theorem by9(R:Sound S r)(F:Fit S c X)(x:Str)(p':Pos)(v:Expr)(p:Pos):JS X (.Assign [.Name x p'] v p) (bT3 S r c x p' v):=by
 have nd:X.N.Nodup:=by rw[F.N];exact F.nd
 unfold bT3;split
 ·exact C3
 ·rename_i i hi;split
  ·exact C3
  ·rename_i hlo;have hlo:an9 c x=true:=by simpa using hlo
   obtain⟨l1,l2⟩:=j7 F hlo;split
   ·rename_i elt gens sc pv;split
    ·rename_i hl;split
     ·rename_i h;split
      ·exact(aT2 R F hi hl h).1
      ·exact(aT2 R F hi hl h).2
     ·exact C3
    ·rename_i hl;refine aK3 i nd (R.e F _) (F.slot hi) l1 ?_ l2;rw[i6]
     have:(X.env.kindOf x==some .local)=false:=by
      unfold Env.kindOf;rw[F.sc];simpa using hl
     rw[this,cC];rfl
   ·split
    ·exact C3
    ·rename_i hc;have hc:isC v=false:=by simpa using hc
     split
     ·exact ch3 i nd (R.n F _) (F.slot hi) l1 (J2 hc _ _ _) l2
     ·exact aK3 i nd (R.e F _) (F.slot hi) l1 (J2 hc _ _ _) l2
theorem bB9(h:cp4 es=some t):es=[.Name t.1.1 t.1.2,.Name t.2.1 t.2.2]:=by
 match es,h with
 | [a,b],h =>
  obtain⟨x,h1,h⟩:=ae.mp h;obtain⟨y,h2,h⟩:=af.mp h;cases h;rw[J5 h1,J5 h2]
theorem bB8(h:cp3 e=some t):∃k p,e=.Tuple [t.1,t.2] k p:=by
 cases e with
 | Tuple es k p =>
  match es,h with
  | [a,b],h=>cases h;exact⟨k,p,rfl⟩
  | [],h=>cases h
  | [_],h=>cases h
  | _::_::_::_,h=>cases h
 | _=>cases h
def stB:Expr->Bool
 | .Starred ..=>true
 | _=>false
def swN(env:Env)(x y:Str)(px py:Pos):List Str:=[(x,px),(y,py)].filterMap λt=>if env.kindOf t.1==some .local&&t.2.line==px.line then some t.1 else none
theorem cq8(env:Env)(x y:Str)(px py pt p2:Pos)(kt k2:Nat)(a b:Expr):swappedStores [.Tuple [.Name x px,.Name y py] kt pt] (.Tuple [a,b] k2 p2) env =
  (if(env.blockKind != .function)=true then pure none else if([a,b].any stB)=true then pure none else if((swN env x y px py).length != 2 || (swN env x y px py).eraseDups.length != (swN env x y px py).length)=true then pure none
   else if([a,b].all (foldedForSure 8))=true then pure none else if([a,b].all (constantsAlone 8))=true then unsupported "assign.tuple-of-constant-expressions:order-of-the-stores" else pure (some (swN env x y px py))):=by rfl
theorem bi8(h:pl e=true):stB e=false:=by cases e<;>first|rfl|cases h
theorem bX5{env:Env}{x y:Str}{px py pt p2:Pos}{kt k2:Nat}{a b:Expr}(hk:env.blockKind=.function)(ha:pl a=true)(hb:pl b=true)(kx:env.kindOf x=some .local)(ky:env.kindOf y=some .local)(hl:px.line=py.line)(hxy:(x==y)=false)
  (hf:([a,b].all (foldedForSure 8))=false) (hc:([a,b].all (constantsAlone 8))=false):swappedStores [.Tuple [.Name x px,.Name y py] kt pt] (.Tuple [a,b] k2 p2) env=pure (some [x,y]):=by
 have hn:swN env x y px py=[x,y]:=by simp[swN,kx,ky,hl]
 have hyx:(y==x)=false:=by
  cases q:(y==x) with
  | false=>rfl
  | true=>simp only[beq_iff_eq]at q;subst q;simp at hxy
 have hd:([x,y]:List Str).eraseDups=[x,y]:=by simp[List.eraseDups,List.eraseDupsBy,List.eraseDupsBy.loop,hxy,hyx]
 rw[cq8,hk,hn,hd,hf,hc];simp[bi8 ha,bi8 hb]
theorem by8(R:Sound S r)(F:Fit S c X)(es:List Expr)(kt:Nat)(pt:Pos)(v:Expr)(p:Pos):JS X (.Assign [.Tuple es kt pt] v p) (bT2 r c (.Tuple es kt pt) v es):=by
 have nd:X.N.Nodup:=by rw[F.N];exact F.nd
 unfold bT2;split
 ·rename_i x px y py ht;cases bB9 ht;split
  ·split
   ·rename_i a b hab;obtain⟨k2,p2,rfl⟩:=bB8 hab;split
    ·rename_i i hi;split
     ·rename_i j hj;split
      ·rename_i h;unfold cs7 at h;simp only[ah,bn,beq_iff_eq]at h;obtain⟨⟨⟨⟨⟨⟨⟨⟨hd,ha⟩,hb⟩,hxy⟩,hl⟩,hx⟩,hy⟩,hf⟩,hcs⟩:=h;have hx':X.env.scope.names.lookup x=some .local:=by rw[F.sc];exact hx
       have hy':X.env.scope.names.lookup y=some .local:=by rw[F.sc];exact hy
       have hne:i≠j:=λz=>by
        subst z;have:=(F.slot hi).symm.trans (F.slot hj);cases this;simp at hxy
       refine ch2 nd (u9 (R.e F) [a,b]) ?_ hne (F.slot hi) (F.slot hj) hx' hy' F.calm rfl;exact bX5 (ay9 F hd) ha hb hx' hy' hl hxy hf hcs
      ·exact C3
     ·exact C3
    ·exact C3
   ·exact C3
  ·exact C3
 ·exact C3
theorem by7(R:Sound S r)(F:Fit S c X)(tg v:Expr)(p:Pos):JS X (.Assign [tg] v p) (co0 S r c tg v p):=by
 cases tg with
 | Name x p'=>exact by9 R F x p' v p
 | Tuple es k q=>exact by8 R F es k q v p
 | _=>exact C3
end
end G
namespace G
open PySem PySem.Spec PyProof.Rows L2
section
variable {X:Cx}{S:Sg}{c:Kx}{r:Ev}
theorem by3(R:Sound S r)(F:Fit S c X)(x m:Str)(e:Expr)(p apos cpos pos:Pos)(hl:(apos.endLine==cpos.line)=true):JS X (.Expr (.Call (.Attribute (.Name x p) m apos) [e] [] cpos) pos) (bS5 r c x m e):=by
 unfold bS5;split
 ·exact C3
 ·rename_i i hi;split
  ·rename_i h;simp only[ah]at h;obtain⟨h1,h2,h3⟩:=F6 F h.1;have hs:=D2 h.2 [] X.env;split
   ·rename_i hm;simp only[beq_iff_eq]at hm;subst hm;exact ch4 i (R.e F e) (F.slot hi) h1 h2 h3 rfl (by rw[hs];rfl) hl hs rfl
   ·exact C3
  ·exact C3
theorem bS7(R:Sound S r)(F:Fit S c X)(e:Expr)(pos:Pos):JS X (.Expr e pos) (xEx r c e):=by
 unfold xEx;split
 ·split
  ·split
   ·split
    ·split
     ·rename_i h;exact by3 R F _ _ _ _ _ _ _ h
     ·exact C3
    ·exact C3
   ·exact C3
  ·exact C3
 ·exact C3
theorem bc7{P:Expr->DS->Prop}(F:Fit S c X)(no:∀e,P e D8)(h:Th X->NT X.K X.mg->Gl X "NoText" -> ∀np y p1 p2 pos fl,P (.Call (.Name "NoText" np) [.Constant (.str y) p1 p2] [] pos) (λ_=>some fl))(e:Expr):P e (xRa c (some e)):=by
 unfold xRa;dsimp only;split
 ·split
  ·split
   ·rename_i q;simp only[ah,beq_iff_eq]at q;obtain⟨⟨h1,rfl⟩,h3⟩:=q;obtain⟨t1,t2⟩:=F.th h1;exact h t1 t2 (G2 F h3).1 _ _ _ _ _ _
   ·exact no _
  ·exact no _
 ·exact no _
theorem bS3(F:Fit S c X)(e:Option Expr)(pos:Pos):JS X (.Raise e none pos) (xRa c e):=by
 cases e with
 | none=>exact C3
 | some e=>exact bc7 (P:=λe f=>JS X (.Raise (some e) none pos) f) F (λ_=>C3) (λt n g _ _ _ _ _ _=>bp6 (aB9 t n g F.calm al3 rfl)) e
theorem cn5(R:Sound S r)(F:Fit S c X)(st:Stmt):JS X st (xS S r c st):=by
 cases st
 case Return o p =>
  cases o
  ·exact C3
  ·exact aw4 (R.e F _)
 case If=>exact bQ5 (R.t F _) (R.b F _) (R.b F _)
 case While t a o p =>
  cases o
  ·unfold xS xWh;dsimp only;split
   ·rename_i h;exact bp5 (R.t F _) (R.b F _) (F.po h)
   ·exact C3
  ·exact C3
 case Assign ts v p =>
  unfold xS xAs;dsimp only;split
  ·exact by7 R F _ _ _
  ·exact C3
 case Expr=>exact bS7 R F _ _
 case Pass=>exact bJ0
 case Raise e o p =>
  cases o with
  | some=>exact C3
  | none=>exact bS3 F e p
 all_goals exact C3
theorem bu2(h:∀st,JS X st (f st)):∀sts,JSs X sts (evB f sts)
 | []=>aT0
 | [s]=>u8 (h s)
 | s::t::P0=>al2 (h s) (bu2 h (t::P0))
theorem at1(R:Sound S r):Sound S (step S r) :=
 ⟨λF=>cn9 R F,λF=>cn6 R F,λF=>cn7 R F,λF=>cn4 R F,λF=>cn8 R F,λF=>bu2 (cn5 R F)⟩
theorem l5(S:Sg):∀n,Sound S (ev S n)
 | 0=>⟨λ_ _=>F5,λ_ _=>bQ7,λ_ _=>aq5,λ_ _=>aq3,λ_ _=>aE4,λ_ _ ρ fl q=>by cases q⟩
 | n+1=>at1 (l5 S n)
end
structure Fd where
 x:Str
 st:Stmt
 ps:List Str
 N:List Str
 own:List Nat:=[]
 tx:List Nat:=[]
 dx:List Nat:=[]
 old:Bool:=false
 fz:List (Nat×List Nat):=[]
 hc:List ((Nat×Nat)×List Nat):=[]
 up:Nat:=0
 gb:D:=.none
def fdm(x:Str)(st:Stmt)(n:Nat)(N:List Str)(old:Bool:=false):Fd:={ x,st,ps:=N.take n,N,old }
def Fd.c(d:Fd):Kx:={ N:=d.N,sc:=A2 d.st,df:=true,own:=d.own,cpt:=[],tx:=d.tx,dx:=d.dx,old:=d.old,fz:=d.fz,hc:=d.hc,up:=d.up,gb:=d.gb }
def Fd.okB(d:Fd):Bool:=let sc:=A2 d.st
 sc.kind == .function && !sc.isCoroutine && !sc.isGenerator&&X3 d.N&&d.N.take d.ps.length==d.ps&&(d.ps.all λx=>match sc.names.lookup x with|some .local=>true|some .cell=>true|_=>false)&&sc.names.all λy=>match y.2 with | .free=>false|_=>true
theorem Fd.sc{d:Fd}(h:d.okB=true):FnScope d.N d.ps (A2 d.st):=by
 unfold Fd.okB at h;simp only[ah,bn,beq_iff_eq,aO]at h;obtain⟨⟨⟨⟨⟨⟨h1,h2⟩,h3⟩,h4⟩,h5⟩,h6⟩,h7⟩:=h;refine⟨h1,h2,h3,V1 h4,h5,λx hx=>?_,λy hy e=>?_⟩
 ·have:=h6 x hx;split at this
  ·rename_i q;exact .inl q
  ·rename_i q;exact .inr q
  ·cases this
 ·have:=h7 y hy;rw[e]at this;cases this
def KF(K:ag)(x:Str)(st:Stmt):Prop:=∃(f:eW) (oc:eU) (od:Option eW) (sl:Array (Option eU)) (kV dc pm:eU) (an:Option eW) (cd ct:eU),
 aP K dS x=some (some (.ref f))/\K.lookup f=some ⟨oc,od,.func (bx x x (M5 st) (C8 st) (A2 st) .none kV dc pm an cd ct),sl⟩/\bZ K cd x=true/\aD K (.ref f)=true
theorem cu7{K:ag}{x:Str}{st:Stmt}{f:eW}{oc:eU}{od:Option eW}{sl:Array (Option eU)}{kV dc pm:eU}{an:Option eW}{cd ct:eU}(a:aP K dS x=some (some (.ref f)))
  (l:K.lookup f=some ⟨oc,od,.func (bx x x (M5 st) (C8 st) (A2 st) .none kV dc pm an cd ct),sl⟩) (c:bZ K cd x=true) (k:aD K (.ref f)=true):KF K x st:=⟨f,oc,od,sl,kV,dc,pm,an,cd,ct,a,l,c,k⟩
abbrev Tab:=List (Str×FnD×Nat)
section
variable {P:Program}{w:World}{K:PySem.W.Frag}{mg:Str->Option Value}{base:Heap}{cs:List (Str×D)}{bl:List Str}
structure Md (K:ag) (mg:Str->Option eU) (cs:List (Str×D)) (bl:List Str):Prop where
 ns:∀x v,aP K dS x=some (some v)->mg x=some v
 css:∀x d,cs.lookup x=some d->∃u,bx4 K d u/\mg x=some u
 bls:∀x,bl.contains x=true->mg x=none
def TOk(bz:Bool)(P:dU)(w:World)(K:ag)(mg:Str->Option eU)(base:Heap)(k:Nat)(tab:Tab):Prop:=∀x F n,tab.lookup x=some (F,n)->(∃(f:eW) (fd:dX) (ps:List Str),
 FnOk P w K mg base (CXb K P w bz) k f fd ps (spF K n F)/\mg x=some (.ref f)/\aD K (.ref f)=true/\E8 K fd ps [])\/(mg x=none/\cm9 x F n)
theorem TOk.nil:TOk bz P w K mg base 0 []:=λx F n h=>by cases h
theorem aE8{f:eW}{fd:dX}{ps:List Str}{sp:Sp}{k:Nat}(h:FnOk P w K mg base (CXb K P w false) k f fd ps sp):FnOk P w K mg base (CXb K P w bz) k f fd ps sp :=
 ⟨h.len,λA outer s H args us vs Q E hr e0 hb r q=>codeAny_mono (h.run A outer s H args us vs Q E hr e0 hb r q) λr s' z=>by
  cases r with
  | error e=>exact False.elim z
  | ok fl=>cases fl<;>exact z⟩
theorem TOk.up{k:Nat}{tab:Tab}(T:TOk false P w K mg base k tab):TOk bz P w K mg base k tab:=λx F n e=>(T x F n e).imp (λ⟨f,fd,ps,h1,h2⟩=>⟨f,fd,ps,aE8 h1,h2⟩) id
theorem TOk.mono(T:TOk bz P w K mg base j tab)(h:j<=k):TOk bz P w K mg base k tab:=λx F n e =>
 (T x F n e).imp (λ⟨f,fd,ps,h1,h2,h3,h4⟩=>⟨f,fd,ps,h1.mono h,h2,h3,h4⟩) id
def UA:Nat->(List eU->Prop)->Prop
 | 0,P=>P []
 | n+1,P=>∀a,UA n λus=>P (a::us)
theorem ua:∀{n:Nat}{P:List eU->Prop},UA n P->∀us:List eU,us.length=n->P us
 | 0,_,h,[],_=>h
 | _+1,P,h,a::us,e=>ua (P:=λus=>P (a::us)) (h a) us (Nat.succ.inj e)
def Bd(d:Fd):Prop:=∀(kV doc pm:eU) (an:Option eW) (cdv ct:eU),UA d.ps.length λus=>bindArgs (bx d.x d.x (M5 d.st) (C8 d.st) (A2 d.st) .none kV doc pm an cdv ct) ⟨us,[]⟩=pure (d.ps.zip us)
def rd(tab:Tab)(cs:List (Str×D))(bl:List Str)(d:Fd):FnD:=G4 ((ev ⟨tab,cs,bl⟩ 99).b d.c (C8 d.st)) d.N.length
theorem cw7(M:Md K mg cs bl)(T:TOk bz P w K mg base k tab)(hu:d.up=(bif bz then 2 else 0))(nt:bz=true->NT K mg)(ok:d.okB=true)(Fn:Fun K d.x d.x d.st f fd):FnOk P w K mg base (CXb K P w bz) (k+1) f fd d.ps (spF K d.ps.length (rd tab cs bl d)):=by
 have Sc:=Fd.sc ok;refine aU2 (N:=d.N) Fn Sc λcdv A outer s H E hr=>(l5 ⟨tab,cs,bl⟩ 99).b (c:=d.c) ?_ _
 refine⟨rfl,rfl,Sc.nd,rfl,λ_=>ca2,λh=>?_,hr.units,λ_=>⟨λ_=>rfl,Sc.kind⟩,λx F n h=>?_,M.css,M.bls⟩
 ·have h:d.up=2:=h;cases bz
  ·rw[hu]at h;cases h
  ·exact⟨cp8,nt rfl⟩
 ·show bc4 _ (d.up != 0) _ _ _;rw[show(d.up != 0)=bz from by rw[hu];cases bz<;>rfl];exact(T x F n h).imp (λ⟨f',fd',ps,h1,h2,h3,h4⟩=>⟨k,f',fd',ps,aJ1,h1,hr,h2,h3,h4⟩) id
theorem n4{x:Str}{st:Stmt}(h:KF K x st)(M:Md K mg cs bl):∃(f:eW) (kV dc pm:eU) (an:Option eW) (cd ct:eU),Fun K x x st f (bx x x (M5 st) (C8 st) (A2 st) .none kV dc pm an cd ct)/\mg x=some (.ref f):=by
 obtain⟨f,oc,od,sl,kV,dc,pm,an,cd,ct,a,l,cc,kk⟩:=h;exact⟨f,kV,dc,pm,an,cd,ct,aL5 l cc kk,M.ns _ _ a⟩
theorem TOk.cons{k:Nat}{tab:Tab}{x:Str}{F:FnD}{n:Nat}(T:TOk bz P w K mg base k tab)(h:∃(f:eW) (fd:dX) (ps:List Str),FnOk P w K mg base (CXb K P w bz) k f fd ps (spF K n F)/\mg x=some (.ref f)/\aD K (.ref f)=true/\E8 K fd ps []):
  TOk bz P w K mg base k ((x,F,n)::tab):=λy G m e=>by
 rw[aJ]at e;split at e
 ·rename_i q;cases e;simp only[beq_iff_eq]at q;subst q;exact .inl h
 ·exact T y G m e
theorem TOk.add(T:TOk bz P w K mg base k tab)(M:Md K mg cs bl)(d:Fd)(h:KF K d.x d.st)(F:FnD)(e:rd tab cs bl d=F:=by kernel_rfl)(hu:d.up=(bif bz then 2 else 0):=by rfl)(nt:bz=true->NT K mg:=by intro h;cases h)(ok:d.okB=true:=by kernel_rfl)(bd:Bd d:=by repeat (first|exact rfl|intro _)):TOk bz P w K mg base (k+1) ((d.x,F,d.ps.length)::tab):=by
 subst e;obtain⟨f,kV,dc,pm,an,cd,ct,Fn,hm⟩:=n4 h M;exact(T.mono (ci k)).cons ⟨f,_,d.ps,cw7 M T hu nt ok Fn,hm,Fn.kp,.all (ua (bd kV dc pm an cd ct))⟩
end
end G
namespace G
open PySem PySem.Spec PyProof.Rows L2
inductive Fv where
 | frz (d:D)
 | lst (ds:List D)
 | dic (m:List (D×D))
structure Fo where
 k:Bool
 l:List (Str×Fv)
abbrev CT:=Bool->eW
structure Chg (S:List eW) (H Hf H' Hf':Hp):Prop where
 big:∀b o,b∉S->H b=some o->H' b=some o
 kp:∀b,H b≠none->H' b≠none
 sub:B0 Hf' H'
 ext:B0 Hf Hf'
 new:∀b,Hf' b≠none->Hf b≠none\/H b=none
theorem ah0{α:Type}{o:Option α}{x:α}(h:o=some x):o≠none:=by rw[h];exact λz=>by cases z
theorem aS2{α:Type}{o:Option α}(h:o≠none):∃x,o=some x:=by cases o with
 | none=>exact absurd rfl h
 | some x=>exact⟨x,rfl⟩
section
variable {K:PySem.W.Frag}{H H' H0 H1 H2 Hf Hf' Hf0 Hf1 Hf2:Hp}{S S' R:List Addr}{C:CT}{os:List (Addr×Fo)}{a:Addr}
theorem Chg.of(g:Grow H Hf H' Hf'):Chg S H Hf H' Hf':=⟨λb o _ e=>g.big b o e,λb h=>by obtain⟨x,e⟩:=aS2 h;exact ah0 (g.big b x e),g.sub,g.ext,g.new⟩
theorem Chg.trans(a:Chg S H Hf H1 Hf1)(b:Chg S' H1 Hf1 H2 Hf2)(h:∀x∈S',x∈S\/H x=none):Chg S H Hf H2 Hf2 where
 big c o hc e:=b.big c o (λz=>(h c z).elim hc λn=>by rw[n]at e;cases e) (a.big c o hc e)
 kp c h:=b.kp c (a.kp c h)
 sub:=b.sub
 ext:=a.ext.trans b.ext
 new c h:=(b.new c h).elim (a.new c) λn=>.inr (aR λz=>a.kp c z n)
theorem Chg.grow(a:Chg [] H Hf H' Hf'):Grow H Hf H' Hf':=⟨λb o e=>a.big b o (by simp) e,a.sub,a.ext,a.new⟩
theorem Chg.wr(ss:B0 Hf H)(hx:x∈S)(hf:Hf x=none):Chg S H Hf (upd H x o) Hf where
 big b u hb e:=by rw[A9 (λz=>hb (by rw[z];exact hx))];exact e
 kp b h:=by
  by_cases q:b=x
  ·subst q;rw[A7];exact λz=>by cases z
  ·rw[A9 q];exact h
 sub b u e:=by rw[A9 (B9 e hf)];exact ss b u e
 ext:=B0.refl _
 new b h:=.inl h
structure Cel where
 dx:eW
 fs:List (Str×V)
 ps:List eW
abbrev cells(a:eW)(c:Cel):List eW:=a::c.ps
def FvA(K:ag)(H Hf:Hp):Fv->V->List eW->Prop
 | .frz d,v,ps=>ps=[]/\Rep K Hf d v
 | .lst ds,v,ps=>∃p vs,v=.ref p/\ps=[p]/\H p=some (.lst vs)/\Reps K Hf ds vs
 | .dic m,v,ps=>∃p kvs,v=.ref p/\ps=[p]/\H p=some (.dK kvs)/\RepKs K Hf m kvs
def Fds(K:ag)(H Hf:Hp):List (Str×Fv)->List (Str×V)->List eW->Prop
 | [],l,ps=>l=[]/\ps=[]
 | (x,f)::r,l,ps=>∃v t p qs,l=(x,v)::t/\ps=p++qs/\FvA K H Hf f v p/\(∀y∈p,y∉qs)/\Fds K H Hf r t qs
theorem FvA.kind(h:FvA K H Hf f v p):∀y∈p,(∃vs,H y=some (.lst vs))\/∃kvs,H y=some (.dK kvs):=by
 cases f with
 | frz d=>obtain⟨rfl,_⟩:=h;simp
 | lst ds=>obtain⟨q,vs,_,rfl,e,_⟩:=h;exact λy hy=>.inl ⟨vs,by rw[aN.mp hy];exact e⟩
 | dic m=>obtain⟨q,vs,_,rfl,e,_⟩:=h;exact λy hy=>.inr ⟨vs,by rw[aN.mp hy];exact e⟩
theorem FvA.keep(h:FvA K H Hf f v p)(k:∀y∈p,H' y=H y)(e:B0 Hf Hf'):FvA K H' Hf' f v p:=by
 cases f with
 | frz d=>exact⟨h.1,Rep.mono e h.2⟩
 | lst ds=>obtain⟨q,vs,h1,rfl,h3,h4⟩:=h;exact⟨q,vs,h1,rfl,by rw[k q (by simp)];exact h3,h4.mono e⟩
 | dic m=>obtain⟨q,vs,h1,rfl,h3,h4⟩:=h;exact⟨q,vs,h1,rfl,by rw[k q (by simp)];exact h3,h4.mono e⟩
theorem Fds.kind:∀{o:List (Str×Fv)}{l:List (Str×V)}{ps:List eW},Fds K H Hf o l ps->∀y∈ps,(∃vs,H y=some (.lst vs))\/∃kvs,H y=some (.dK kvs)
 | [],_,_,h=>by obtain⟨_,rfl⟩:=h;simp
 | (x,f)::r,_,_,⟨v,t,p,qs,_,h2,h3,_,h5⟩=>λy hy=>by
  subst h2;exact(aQ.mp hy).elim (h3.kind y) (h5.kind y)
theorem Fds.keep(e:B0 Hf Hf'):∀{o:List (Str×Fv)}{l:List (Str×V)}{ps:List eW},Fds K H Hf o l ps->(∀y∈ps,H' y=H y)->Fds K H' Hf' o l ps
 | [],_,_,h,_=>h
 | (x,f)::r,_,_,⟨v,t,p,qs,h1,h2,h3,h4,h5⟩,k=>by
  subst h2;exact⟨v,t,p,qs,h1,rfl,h3.keep (λy hy=>k y (aX _ hy)) e,h4,h5.keep e λy hy=>k y (ay _ hy)⟩
theorem Fds.len:∀{o:List (Str×Fv)}{l:List (Str×V)}{ps:List eW},Fds K H Hf o l ps->l.length=o.length
 | [],_,_,h=>by obtain⟨rfl,_⟩:=h;rfl
 | (x,f)::r,_,_,⟨v,t,p,qs,h1,_,_,_,h5⟩=>by subst h1;simp[h5.len]
theorem Fds.look{f:Str}:∀{o:List (Str×Fv)}{l:List (Str×V)}{ps:List eW},Fds K H Hf o l ps->(o.lookup f=none/\l.lookup f=none)\/∃w v p,o.lookup f=some w/\l.lookup f=some v/\FvA K H Hf w v p/\∀y∈p,y∈ps
 | [],_,_,h=>by obtain⟨rfl,_⟩:=h;exact .inl ⟨rfl,rfl⟩
 | (x,w)::r,_,_,⟨v,t,p,qs,h1,h2,h3,_,h5⟩=>by
  subst h1 h2;rw[aJ,aJ];cases f==x with
  | true=>exact .inr ⟨w,v,p,rfl,rfl,h3,λy hy=>aX _ hy⟩
  | false=>exact h5.look.imp id λ⟨w,v,p,a,b,c,d⟩=>⟨w,v,p,a,b,c,λy hy=>ay _ (d y hy)⟩
def Q6(f:Str)(w:Fv):List (Str×Fv)->List (Str×Fv)
 | []=>[(f,w)]
 | (g,x)::r=>if g=f then(g,w)::r else(g,x)::Q6 f w r
theorem Fds.put{f:Str}{w:Fv}{v:V}{p':List eW}(q:FvA K H Hf w v p'):∀{o:List (Str×Fv)}{l:List (Str×V)}{ps:List eW},Fds K H Hf o l ps->(∀y∈p',y∉ps)->∃ps',Fds K H Hf (Q6 f w o) (V0 f v l) ps'/\∀y∈ps',y∈p'\/y∈ps
 | [],_,_,h,_=>by obtain⟨rfl,rfl⟩:=h;exact⟨p'++[],⟨v,[],p',[],rfl,rfl,q,by simp,rfl,rfl⟩,λy hy=>.inl (by simpa using hy)⟩
 | (x,w0)::o,_,_,⟨v',t,p,qs,h1,h2,h3,h4,h5⟩,n=>by
  subst h1 h2;unfold Q6 V0;split
  ·exact⟨p'++qs,⟨v,t,p',qs,rfl,rfl,q,λy hy z=>n y hy (ay _ z),h5⟩,λy hy=>(aQ.mp hy).imp id (ay _)⟩
  ·obtain⟨ps',a,b⟩:=h5.put q λy hy z=>n y hy (ay _ z)
   refine⟨p++ps',⟨v',_,p,ps',rfl,rfl,h3,λy hy z=>(b y z).elim (λz=>n y z (aX _ hy)) (h4 y hy),a⟩,λy hy=>?_⟩;rcases aQ.mp hy with z|z
   ·exact .inr (aX _ z)
   ·exact(b y z).imp id (ay _)
theorem Fds.wr{f:Str}{w:Fv}{y:eW}(k:∀z,z≠y->H' z=H z)(q:FvA K H' Hf w (.ref y) [y]):∀{o:List (Str×Fv)}{l:List (Str×V)}{ps:List eW},Fds K H Hf o l ps->(∃w0,o.lookup f=some w0/\FvA K H Hf w0 (.ref y) [y])->l.lookup f=some (.ref y)->Fds K H' Hf (Q6 f w o) l ps
 | [],_,_,_,⟨_,e,_⟩,_=>by cases e
 | (x,w0)::o,_,_,⟨v',t,p,qs,h1,h2,h3,h4,h5⟩,⟨w1,e1,e2⟩,e3=>by
  subst h1 h2;unfold Q6;rw[aJ]at e1 e3;split
  ·rename_i z;subst z;rw[beq_self_eq_true]at e1 e3;cases e1;cases e3
   have:p=[y]:=by
    cases w0 with
    | frz d=>obtain⟨a,_⟩:=e2;cases a
    | lst ds=>obtain⟨p1,_,a1,a2,_⟩:=h3;cases a1;exact a2
    | dic m=>obtain⟨p1,_,a1,a2,_⟩:=h3;cases a1;exact a2
   subst this;exact⟨_,t,[y],qs,rfl,rfl,q,h4,h5.keep (B0.refl _) λz hz=>k z λe=>h4 y (by simp) (by rw[← e];exact hz)⟩
  ·rename_i z;rw[show(f==x)=false from beq_eq_false_iff_ne.mpr λe=>z e.symm]at e1 e3;dsimp only at e1 e3
   have hy:y∈qs:=by
    rcases h5.look (f:=f) with⟨a,_⟩|⟨w2,v2,p2,a1,a2,a3,a4⟩
    ·rw[e1]at a;cases a
    ·rw[e1]at a1;cases a1;rw[e3]at a2;cases a2;cases w1 with
     | frz d=>obtain⟨a,_⟩:=e2;cases a
     | lst ds=>obtain⟨p1,_,b1,b2,_⟩:=a3;cases b1;exact a4 y (by rw[b2];simp)
     | dic m=>obtain⟨p1,_,b1,b2,_⟩:=a3;cases b1;exact a4 y (by rw[b2];simp)
   exact⟨v',t,p,qs,rfl,rfl,h3.keep (λz hz=>k z λe=>h4 z hz (by rw[e];exact hy)) (B0.refl _),h4,h5.wr k q ⟨w1,e1,e2⟩ e3⟩
structure FoAt (K:ag) (C:CT) (H Hf:Hp) (a:eW) (c:Cel) (o:Fo):Prop where
 ins:H a=some (.ins (C o.k) c.dx c.fs)
 fl:Fds K H Hf o.l c.fs c.ps
 fr:∀x∈cells a c,Hf x=none
theorem FoAt.na(h:FoAt K C H Hf a c o):a∉c.ps:=λz=>by
 rcases h.fl.kind a z with⟨_,e⟩|⟨_,e⟩<;>(rw[h.ins]at e;cases e)
theorem FoAt.there(h:FoAt K C H Hf a c o):∀x∈cells a c,H x≠none:=λx hx=>by
 rcases ax.mp hx with rfl|hx
 ·exact ah0 h.ins
 ·rcases h.fl.kind x hx with⟨_,e⟩|⟨_,e⟩<;>exact ah0 e
theorem FoAt.chg(h:FoAt K C H Hf a c o)(g:Chg S H Hf H' Hf')(hs:∀x∈cells a c,x∉S):FoAt K C H' Hf' a c o:=by
 have th:=h.there;refine⟨g.big _ _ (hs _ (by simp)) h.ins,h.fl.keep g.ext λy hy=>?_,λx hx=>aR λz=>(g.new x z).elim (λq=>q (h.fr x hx)) (th x hx)⟩;obtain⟨u,e⟩:=aS2 (th y (ai _ hy));rw[e];exact g.big y u (hs y (ai _ hy)) e
theorem FvA.det(h:FvA K H Hf f v p)(g:FvA K H' Hf' f v p'):p=p':=by
 cases f with
 | frz d=>rw[h.1,g.1]
 | lst ds =>
  obtain⟨q,_,rfl,rfl,_⟩:=h;obtain⟨q',_,e,rfl,_⟩:=g;cases e;rfl
 | dic m =>
  obtain⟨q,_,rfl,rfl,_⟩:=h;obtain⟨q',_,e,rfl,_⟩:=g;cases e;rfl
theorem Fds.det:∀{o:List (Str×Fv)}{l:List (Str×V)}{p p':List eW},Fds K H Hf o l p->Fds K H' Hf' o l p'->p=p'
 | [],_,_,_,h,g=>by rw[h.2,g.2]
 | (x,f)::r,_,_,_,⟨v,t,a,b,h1,h2,h3,_,h5⟩,⟨v',t',a',b',g1,g2,g3,_,g5⟩=>by
  subst h1;cases g1;rw[h2,g2,h3.det g3,h5.det g5]
theorem FoAt.same{c c':Cel}{Hf':Hp}(f:FoAt K C H Hf a c o)(g:FoAt K C H Hf' a c' o):c=c':=by
 have e:=f.ins.symm.trans g.ins;obtain⟨d1,d2,d3⟩:=c;obtain⟨x1,x2,x3⟩:=c';cases e;cases f.fl.det g.fl;rfl
theorem FoAt.put(h:FoAt K C H Hf a c o)(q:FvA K H Hf w v p)(n:∀y∈p,y∉cells a c/\Hf y=none):∃ps',FoAt K C (upd H a (.ins (C o.k) c.dx (V0 f v c.fs))) Hf a ⟨c.dx,V0 f v c.fs,ps'⟩ ⟨o.k,Q6 f w o.l⟩/\∀y∈ps',y∈p\/y∈c.ps:=by
 obtain⟨ps',r1,r2⟩:=h.fl.put q λy hy z=>(n y hy).1 (ai _ z)
 have na:a∉ps':=λz=>(r2 a z).elim (λz=>(n a z).1 (by simp)) h.na
 refine⟨ps',⟨A7,r1.keep (B0.refl _) λy hy=>A9 λe=>na (by rw[← e];exact hy),λx hx=>?_⟩,r2⟩;rcases ax.mp hx with rfl|hx
 ·exact h.fr x (by simp)
 ·exact(r2 x hx).elim (λz=>(n x z).2) λz=>h.fr x (ai _ z)
theorem FoAt.wr(h:FoAt K C H Hf a c o)(e:o.l.lookup f=some w0)(m:FvA K H Hf w0 (.ref y) [y])(l:c.fs.lookup f=some (.ref y))(hy:y∈c.ps)(q:FvA K (upd H y u) Hf w (.ref y) [y]):FoAt K C (upd H y u) Hf a c ⟨o.k,Q6 f w o.l⟩ :=
 ⟨by rw[A9 λz=>h.na (by rw[z];exact hy)];exact h.ins,h.fl.wr (λz hz=>A9 hz) q ⟨w0,e,m⟩ l,h.fr⟩
theorem FoAt.grow(h:FoAt K C H Hf a c o)(g:Grow H Hf H' Hf'):FoAt K C H' Hf' a c o:=h.chg (S:=[]) (Chg.of g) λ_ _=>by simp
inductive Objs (K:ag) (C:CT) (H Hf:Hp):List (eW×Fo)->List eW->Prop
 | nil:Objs K C H Hf [] []
 | cons {a:eW}{c:Cel}{o:Fo}{os:List (eW×Fo)}{R:List eW}:FoAt K C H Hf a c o->(∀x∈cells a c,x∉R)->Objs K C H Hf os R->Objs K C H Hf ((a,o)::os) (cells a c++R)
theorem Objs.there(h:Objs K C H Hf os R):∀x∈R,H x≠none:=by
 induction h with
 | nil=>exact λ_ h=>nomatch h
 | cons f d t ih =>
  intro x hx;rcases aQ.mp hx with hx|hx
  ·exact f.there x hx
  ·exact ih x hx
theorem Objs.chg(h:Objs K C H Hf os R)(g:Chg S H Hf H' Hf')(hs:∀x∈R,x∉S):Objs K C H' Hf' os R:=by
 induction h with
 | nil=>exact .nil
 | cons f d t ih=>exact .cons (f.chg g λx hx=>hs x (aX _ hx)) d (ih λx hx=>hs x (ay _ hx))
theorem Objs.focus(h:Objs K C H Hf os R):∀{j:Nat}{a:eW}{o:Fo},os[j]? = some (a,o)->∃c,FoAt K C H Hf a c o/\(∀x∈cells a c,x∈R) /\
  ∀{H' Hf':Hp}{c':Cel}{o':Fo},Chg (cells a c) H Hf H' Hf'->FoAt K C H' Hf' a c' o'->(∀x∈cells a c',x∈cells a c\/H x=none)->∃R',Objs K C H' Hf' (os.set j (a,o')) R'/\∀x∈R',(x∈R/\x∉cells a c)\/x∈cells a c':=by
 induction h with
 | nil=>intro j a o e;simp at e
 | @cons a0 c0 o0 os0 R0 f d t ih =>
  intro j a o e;cases j with
  | zero =>
   simp at e;obtain⟨rfl,rfl⟩:=e;refine⟨c0,f,λx hx=>aX _ hx,λ{H' Hf' c' o'} g f' n=>⟨cells a0 c'++R0,.cons f' (λx hx hr=>?_) (t.chg g λx hx z=>d x z hx),λx hx=>?_⟩⟩
   ·rcases n x hx with z|z
    ·exact d x z hr
    ·exact t.there x hr z
   ·rcases aQ.mp hx with hx|hx
    ·exact .inr hx
    ·exact .inl ⟨ay _ hx,λz=>d x z hx⟩
  | succ j =>
   obtain⟨c,f1,f2,f3⟩:=ih (j:=j) (a:=a) (o:=o) (by simpa using e);refine⟨c,f1,λx hx=>ay _ (f2 x hx),λ{H' Hf' c' o'} g f' n=>?_⟩;obtain⟨R',r1,r2⟩:=f3 g f' n;have dis:∀x∈cells a0 c0,x∉cells a c:=λx hx z=>d x hx (f2 x z)
   refine⟨cells a0 c0++R',.cons (f.chg g dis) (λx hx hr=>?_) r1,λx hx=>?_⟩
   ·rcases r2 x hr with z|z
    ·exact d x hx z.1
    ·exact(n x z).elim (dis x hx) (f.there x hx)
   ·rcases aQ.mp hx with hx|hx
    ·exact .inl ⟨aX _ hx,dis x hx⟩
    ·exact(r2 x hx).imp (λz=>⟨ay _ z.1,z.2⟩) id
theorem Objs.snoc(h:Objs K C H Hf os R)(f:FoAt K C H Hf a c o)(d:∀x∈cells a c,x∉R):∃R',Objs K C H Hf (os++[(a,o)]) R'/\∀x∈R',x∈R\/x∈cells a c:=by
 induction h with
 | nil=>exact⟨cells a c++[],.cons f (by simp) .nil,λx hx=>.inr (by simpa using hx)⟩
 | @cons a0 c0 o0 os0 R0 f0 d0 t ih =>
  obtain⟨R',r1,r2⟩:=ih λx hx=>λz=>d x hx (ay _ z)
  refine⟨cells a0 c0++R',.cons f0 (λx hx hr=>?_) r1,λx hx=>?_⟩
  ·rcases r2 x hr with z|z
   ·exact d0 x hx z
   ·exact d x z (aX _ hx)
  ·rcases aQ.mp hx with hx|hx
   ·exact .inl (aX _ hx)
   ·exact(r2 x hx).imp (ay _) id
end
structure Bs where
 S:List eW
 H:Hp
 Hf:Hp
def hid(b:Bs)(R:List eW):Hp:=λx=>if x∈R then some (.lst []) else b.H x
structure OSt (K:ag) (C:CT) (b:Bs) (ρ:Rho) (os:List (eW×Fo)) (σ:L2.St) (H Hf:Hp):Prop where
 gr:Chg b.S b.H b.Hf H Hf
 ob:∃R,Objs K C H Hf os R/\(∀x∈R,x∈b.S\/b.H x=none)/\Slots K (hid b R) ρ σ H Hf
section
variable {K:PySem.W.Frag}{C:CT}{b:Bs}{ρ:Rho}{os:List (Addr×Fo)}{σ:L2.St}{H Hf H' Hf':Hp}
def aq1(_:Rho):Bool:=true
theorem P5(h:hid b R x=none):x∉R/\b.H x=none:=by
 unfold hid at h;split at h
 ·cases h
 ·rename_i n;exact⟨n,h⟩
theorem aw6(h1:x∉R)(h2:b.H x=none):hid b R x=none:=by unfold hid;rw[if_neg h1];exact h2
theorem Slots.chg{H0 H0':Hp}{S:List eW}(s:Slots K H0 ρ σ H Hf)(g:Chg S H Hf H' Hf')(hS:∀x∈S,H0 x=none->H x=none)(hH:∀x,H0 x=none->H x≠none->H0' x=none):Slots K H0' ρ σ H' Hf':=by
 refine⟨s.len,λi b e=>?_,s.apart⟩;obtain⟨v,h1,h2⟩:=s.is i b e;refine⟨v,h1,?_⟩;cases b with
 | val d=>exact Rep.mono g.ext h2
 | exc C =>
  obtain⟨a,o,C,e,h1,h2⟩:=h2;exact⟨a,o,C,e,g.ext _ _ h1,h2⟩
 | opq _=>exact h2
 | own ds =>
  obtain⟨a,us,e,e1,e2,e3,e4⟩:=h2;have nS:a∉S:=λz=>by rw[hS a z e3]at e1;cases e1
  have nf:Hf' a=none:=aR λz=>(g.new a z).elim (λq=>q e2) λq=>by rw[q]at e1;cases e1
  exact⟨a,us,e,g.big a _ nS e1,nf,hH a e3 (ah0 e1),e4.mono g.ext⟩
def OSt.R(s:OSt K C b ρ os σ H Hf):List eW:=s.ob.choose
theorem OSt.obs(s:OSt K C b ρ os σ H Hf):Objs K C H Hf os s.R/\∀x∈s.R,x∈b.S\/b.H x=none:=⟨s.ob.choose_spec.1,s.ob.choose_spec.2.1⟩
theorem OSt.sl(s:OSt K C b ρ os σ H Hf):Slots K (hid b s.R) ρ σ H Hf:=s.ob.choose_spec.2.2
theorem OSt.slots{ρ':Rho}{σ':L2.St}(s:OSt K C b ρ os σ H Hf)(sl:Slots K (hid b s.R) ρ' σ' H Hf):OSt K C b ρ' os σ' H Hf:=⟨s.gr,s.R,s.obs.1,s.obs.2,sl⟩
theorem OSt.same(s:OSt K C b ρ os σ H Hf):B0 Hf H:=s.gr.sub
theorem OSt.grow(s:OSt K C b ρ os σ H Hf)(g:Grow H Hf H' Hf'):OSt K C b ρ os σ H' Hf':=by
 obtain⟨R,r1,r2,r3⟩:=s.ob;exact⟨s.gr.trans (S':=[]) (Chg.of g) (by simp),R,r1.chg (S:=[]) (Chg.of g) (by simp),r2,r3.grow g⟩
theorem OSt.focusN(s:OSt K C b ρ os σ H Hf)(e:os[j]? = some (a,o)):∃c,FoAt K C H Hf a c o /\
  ∀{H' Hf':Hp}{c':Cel}{o':Fo},Chg (cells a c) H Hf H' Hf'->FoAt K C H' Hf' a c' o'->(∀x∈cells a c',x∈cells a c\/H x=none)->OSt K C b ρ (os.set j (a,o')) σ H' Hf' /\
   ∀{a2:eW}{c2:Cel}{o2:Fo},FoAt K C H' Hf' a2 c2 o2->(∀y∈cells a2 c2,(y∈cells a c\/H y=none)/\y∉cells a c')->OSt K C b ρ (os.set j (a,o')++[(a2,o2)]) σ H' Hf':=by
 obtain⟨R,r1,r2,r3⟩:=s.ob;obtain⟨c,f1,f2,f3⟩:=r1.focus e;refine⟨c,f1,λ{H' Hf' c' o'} g f' nn=>?_⟩;obtain⟨R',q1,q2⟩:=f3 g f' nn;have q3:∀x∈R',x∈R\/H x=none:=λx hx=>(q2 x hx).elim (λz=>.inl z.1) λz=>(nn x z).imp (f2 x) id
 have old:∀x,x∈R\/H x=none->x∈b.S\/b.H x=none:=λx h=>h.elim (r2 x) λz=>.inr (aR λq=>s.gr.kp x q z)
 have gr:=s.gr.trans g λx hx=>r2 x (f2 x hx)
 have sl:∀R2:List eW,(∀x∈R2,x∈R\/H x=none)->Slots K (hid b R2) ρ σ H' Hf':=λR2 h2=>r3.chg g (λx hx h=>((P5 h).1 (f2 x hx)).elim) λx h hx=>by
  obtain⟨h1,h3⟩:=P5 h;exact aw6 (λz=>(h2 x z).elim h1 hx) h3
 refine⟨⟨gr,R',q1,λx hx=>old x (q3 x hx),sl R' q3⟩,λ{a2 c2 o2} fo fr=>?_⟩;obtain⟨R2,p1,p2⟩:=q1.snoc fo λy hy z=>(q2 y z).elim (λw=>(fr y hy).1.elim w.2 (r1.there y w.1)) (fr y hy).2
 have p3:∀x∈R2,x∈R\/H x=none:=λx hx=>(p2 x hx).elim (q3 x) λz=>(fr x z).1.imp (f2 x) id
 exact⟨gr,R2,p1,λx hx=>old x (p3 x hx),sl R2 p3⟩
theorem OSt.focus(s:OSt K C b ρ os σ H Hf)(n:aq1 ρ=true)(e:os[j]? = some (a,o)):∃c,FoAt K C H Hf a c o /\
  ∀{H' Hf':Hp}{c':Cel}{o':Fo},Chg (cells a c) H Hf H' Hf'->FoAt K C H' Hf' a c' o'->(∀x∈cells a c',x∈cells a c\/H x=none)->OSt K C b ρ (os.set j (a,o')) σ H' Hf':=by
 obtain⟨c,f1,f3⟩:=s.focusN e;exact⟨c,f1,λg f n=>(f3 g f n).1⟩
end
end G
namespace G
open PySem PySem.Spec PyProof.Rows L2
abbrev Os:=List (eW×Fo)
def OE(X:Cx)(C:CT)(b:Bs)(ρ:Rho)(q:Os)(e:Expr)(d:D)(q':Os):Prop:=PE X e (λσ H Q=>∃Hf,OSt X.K C b ρ q σ H Hf/\∀v H' Hf',OSt X.K C b ρ q' σ H' Hf'->B0 Hf Hf'->Rep X.K Hf' d v->Q v H')
def OT(X:Cx)(C:CT)(b:Bs)(ρ:Rho)(q:Os)(e:Expr)(c:Bool)(q':Os):Prop:=PT X e (λσ H Q=>∃Hf,OSt X.K C b ρ q σ H Hf/\∀H' Hf',OSt X.K C b ρ q' σ H' Hf'->B0 Hf Hf'->Q c H')
inductive OF where
 | nx (ρ:Rho) (q:Os)
 | rt (d:D) (q:Os)
def OF.ends(X:Cx)(C:CT)(b:Bs)(Hf:Hp)(En:Ends):OF->Prop
 | .nx ρ q=>∀σ' H' Hf',OSt X.K C b ρ q σ' H' Hf'->B0 Hf Hf'->En.nx σ' H'
 | .rt d q=>∀ρ' σ' v H' Hf',OSt X.K C b ρ' q σ' H' Hf'->Rep X.K Hf' d v->En.rt v H'
def OS(X:Cx)(C:CT)(b:Bs)(ρ:Rho)(q:Os)(st:Stmt)(fl:OF):Prop:=PS X st (λEn σ H=>∃Hf,OSt X.K C b ρ q σ H Hf/\fl.ends X C b Hf En)
section
variable {X:Cx}{C:CT}{b:Bs}{ρ ρ':Rho}{q q' q1 q2:Os}{st:Stmt}{sts:List Stmt}
theorem cb4(o:OpD X (dR op) h)(ha:OE X C b ρ q ea x q1)(hb:OE X C b ρ q1 eb y q2)(w:h x y=some (.bool c))(hm:behindInMarks op eb=false:=by first|exact av3 _|rfl):OT X C b ρ q (.Compare ea [op] [eb] pos) c q2:=by
 refine X0 (aQ8 (o x y _ w) ha hb hm) λσ H Q ⟨Hf,st,k⟩=>⟨Hf,st,λv H1 Hf1 s1 e1 r1=>⟨Hf1,s1,λu H2 Hf2 s2 e2 r2=>⟨Hf2,s2.same,r1.mono e2,r2,λz H3 Hf3 g r3=>⟨c,r3,k H3 Hf3 (s2.grow g) ((e1.trans e2).trans g.ext)⟩⟩⟩⟩
theorem cc9(o:OpD X (dR op) h)(ha:OE X C b ρ q ea x q1)(hb:OE X C b ρ q1 eb y q2)(w:h x y=some z)(hm:behindInMarks op eb=false:=by first|exact av3 _|rfl):OE X C b ρ q (.Compare ea [op] [eb] pos) z q2:=by
 refine A5 (aR4 (o x y _ w) ha hb hm) λσ H Q ⟨Hf,st,k⟩=>⟨Hf,st,λv H1 Hf1 s1 e1 r1=>⟨Hf1,s1,λu H2 Hf2 s2 e2 r2=>⟨Hf2,s2.same,r1.mono e2,r2,λz H3 Hf3 g r3=>k z H3 Hf3 (s2.grow g) ((e1.trans e2).trans g.ext) r3⟩⟩⟩
theorem cb3(ha:OE X C b ρ q e (.bool c) q1)(he:∀whole,isTrue e X.env whole=(do let v ← whole;standAt e.pos;holding [v] (truthy v)):=by intro _;rfl):OT X C b ρ q e c q1 :=
 X0 (aB7 ha he) λσ H Q ⟨Hf,st,k⟩=>⟨Hf,st,λv H1 Hf1 s1 e1 r1=>⟨c,by cases r1;rfl,k H1 Hf1 s1 e1⟩⟩
theorem OSt.set(s:OSt X.K C b ρ q σ H Hf)(r:Rep X.K Hf d v):OSt X.K C b (ρ.set i (‹d›)) q (σ.set i (some v)) H Hf:=s.slots (s.sl.set r)
end
end G
namespace G
open PySem PySem.Spec PyProof.Rows L2
abbrev MD:=List (Option D)
def MxV(K:ag)(Hf:Hp)(a:eW):Option D->V->Prop
 | some d,v=>Rep K Hf d v
 | none,v=>v=.ref a
def Mxs(K:ag)(Hf:Hp)(a:eW):MD->List V->Prop
 | [],vs=>vs=[]
 | m::ms,vs=>∃v r,vs=v::r/\MxV K Hf a m v/\Mxs K Hf a ms r
abbrev DF:=Fo->MD->Option (D×Fo)
def spD(K:ag)(C:CT)(n:Nat)(F:DF):Sp:=λvs H Q _=>vs.length=n/\∃a Hf c o ms r o',B0 Hf H/\FoAt K C H Hf a c o/\Mxs K Hf a ms vs/\F o ms=some (r,o') /\
 ∀v H' Hf' c',Chg (cells a c) H Hf H' Hf'->FoAt K C H' Hf' a c' o'->(∀x∈cells a c',x∈cells a c\/H x=none)->Rep K Hf' r v->Q v H'
theorem av6{K:ag}{Hf:Hp}{a:eW}:∀{ds:List D}{vs:List V},Reps K Hf ds vs->Mxs K Hf a (ds.map some) vs
 | [],_,h=>h
 | d::ds,_,⟨v,r,h1,h2,h3⟩=>⟨v,r,h1,h2,av6 h3⟩
def cj9(K:ag)(C:eW):Bool:=PySem.W.findIn K (.ref C) "__class__" == some (some (.builtin "object.__class__"))&&PySem.W.specialIn K (.builtin "object.__class__") "__get__" == some (some (.builtin "getset_descriptor.__get__"))&&PySem.W.takesIn K (.builtin "object.__class__")==some true&&PySem.W.mroIn K C (.type "object")==some true&&PySem.W.kitOne K (.ref C) (.type "tuple")==some false
structure FoC (K:ag) (C:eW) (fn:List Str):Prop where
 cl:Cls K C
 is:cj9 K C=true
 na:∀f∈fn,r6 K C f
def af8(X:Cx)(zb:Bool)(C:CT)(kd:Bool)(m:Str)(n:Nat)(F:DF):Prop:=∃k f fd ps,Ps X zb/\FnOk X.prog X.w X.K X.mg X.base (CXb X.K X.prog X.w zb) k f fd ps (spD X.K C (n+1) F)/\Room k X.A/\Meth X.K (C kd) m f/\E8 X.K fd ps []
section
variable {X:Cx}{C:CT}{b:Bs}{ρ ρ':Rho}{q q' q1 q2:Os}{o o':Fo}{K:PySem.W.Frag}{σ:L2.St}{H Hf:Hp}{fn:List Str}
structure At1 (X:Cx) (ρ:Rho) (q:Os) (x:Str) (i j:Nat) (a:eW) (o:Fo):Prop where
 n:X.N[i]? = some x
 v:Vis X.env.scope x
 d1:(x==("__debug__" : Str))=false
 d2:(x==("__classdict__" : Str))=false
 s:ρ[i]? = some (some (.opq a))
 o:q[j]? = some (a,o)
 w:aq1 ρ=true
theorem T7{i:Nat}{a:eW}(s:OSt K C b ρ q σ H Hf)(e:ρ[i]? = some (some (B.opq a))):σ[i]? = some (some (V.ref a)):=by
 obtain⟨v,h1,h2⟩:=s.sl.is i _ e;cases h2;exact h1
theorem bm4{c:Cel}{m:Str}(f:FoAt K C H Hf a c o)(h:o.l.lookup m=none):c.fs.lookup m=none:=by
 rcases f.fl.look (f:=m) with⟨_,z⟩|⟨d,v,_,z,_⟩
 ·exact z
 ·rw[h]at z;cases z
theorem aq2{ds:List D}{d:D}{F:DF}{E:XK}{Q:VK}(st:OSt X.K C b ρ q σ H Hf)(A:At1 X ρ q x i j a o)(hk:o.k=kd)(nf:o.l.lookup m=none)(r:F o (none::ds.map some)=some (d,o'))(hn:ds.length=n)
  (k:∀v H' Hf',OSt X.K C b ρ (q.set j (a,o')) σ H' Hf'->B0 Hf Hf'->Rep X.K Hf' d v->Q v H') :
  ∃v,σ[i]? = some (some v)/\∃a dx fs,v=.ref a/\H a=some (.ins (C kd) dx fs)/\fs.lookup m=none/\∀vs H1 Hf1,Grow H Hf H1 Hf1->Reps X.K Hf1 ds vs->spD X.K C (n+1) F (v::(vs++[])) H1 Q E:=by
 obtain⟨c,f1,f3⟩:=st.focus A.w A.o;refine⟨_,T7 st A.s,a,c.dx,c.fs,rfl,by rw[← hk];exact f1.ins,bm4 f1 nf,λvs H1 Hf1 g1 r1=>⟨by rw[aw,aI,r1.length,hn],a,Hf1,c,o,none::ds.map some,d,o',g1.sub,f1.grow g1,⟨_,_,rfl,rfl,by rw[aw];exact av6 r1⟩,r,λv H2 Hf2 c' g2 f2 n2 rv=>k v H2 Hf2 (f3 ((Chg.of g1).trans g2 λ_ h=>.inl h) f2 λy hy=>(n2 y hy).imp id λz=>aR λw=>(Chg.of (S:=[]) g1).kp y w z) (g1.ext.trans g2.ext) rv⟩⟩
theorem aS5{x m:Str}{p apos pos:Pos}{es:List Expr}(hl:(apos.endLine==pos.line)=true)(hf:methodCallForm (es.length+([]:List eh).length) (backTo pos (dO es X.env)) (backToKw pos (keywordEach [] X.env))=true):
  eval (.Call (.Attribute (.Name x p) m apos) es [] pos) X.env=(do
   let ov ← eval (.Name x p) X.env
   standAt apos.atName
   let(f,first) ← holding [ov] (getMethod ov m (do return (← importBound (.Name x p) X.env).getD true))
   callWith pos f first (backTo pos (dO es X.env)) (backToKw pos (keywordEach [] X.env))):=by
 show(do let ov ← eval (.Name x p) X.env;standAt apos.atName;methodCall (.Name x p) m apos pos X.env ov (es.length+([]:List eh).length) (backTo pos (dO es X.env)) (backToKw pos (keywordEach [] X.env)))=_;unfold methodCall;rw[hf];unfold methodCallPos calleeOf;rw[hl];rfl
theorem bl4{ρa:Rho}{x m:Str}{e:Expr}{es:List Expr}{p apos pos:Pos}{ds:List D}{d:D}{F:DF}{f:Rho->Option (List D)}(M:af8 X zb C kd m n F)(c:FoC X.K (C kd) fn)(A:At1 X ρ q x i j a o)(hk:o.k=kd)(nf:o.l.lookup m=none)(ha:JA X (e::es) f)(w:f ρa=some ds)(sb:∀{H0 H Hf:Hp}{σ:L2.St},Slots X.K H0 ρ σ H Hf->Slots X.K H0 ρa σ H Hf)(r:F o (none::ds.map some)=some (d,o'))(hn:(e::es).length=n:=by rfl)
  (hst:dO (e::es) X.env=(false,eval e X.env)::dO es X.env:=by rfl) (hpl:(backTo pos (dO es X.env)).any (·.1)=false:=by rfl)
  (hl:(apos.endLine==pos.line)=true:=by first|assumption|rfl) (hfm:methodCallForm ((e::es).length+([]:List eh).length) (backTo pos (dO (e::es) X.env)) (backToKw pos (keywordEach [] X.env))=true:=by rfl) :
  OE X C b ρ q (.Call (.Attribute (.Name x p) m apos) (e::es) [] pos) d (q.set j (a,o')):=by
 obtain⟨k,fa,fd,ps,hq,Fk,hr,hm,hb⟩:=M;refine A5 (aR3 (J9 A.n A.v A.d1 A.d2) c.cl hm Fk hr hb .nil hq (λpos pins s σ H Q I t=>ha.run ρa ds w pos pins s σ H Q I t) hst hpl (aS5 hl hfm)) λσ H Q ⟨Hf,st,kk⟩=>?_
 obtain⟨v,h1,a',dx,fs,h2,h3,h4,h5⟩:=aq2 (n:=n) (E:=E0) st A hk nf r (by rw[ha.len ρa ds w,hn]) kk;exact⟨v,h1,a',dx,fs,h2,h3,h4,_,Hf,st.same,sb st.sl,λvs H1 Hf1 g1 r1=>h5 vs H1 Hf1 g1 r1⟩
theorem bl5{x m:Str}{p apos pos:Pos}{d:D}{F:DF}(M:af8 X zb C kd m 0 F)(c:FoC X.K (C kd) fn)(A:At1 X ρ q x i j a o)(hk:o.k=kd)(nf:o.l.lookup m=none)(r:F o [none]=some (d,o'))
  (hl:(apos.endLine==pos.line)=true:=by first|assumption|rfl) :
  OE X C b ρ q (.Call (.Attribute (.Name x p) m apos) [] [] pos) d (q.set j (a,o')):=by
 obtain⟨k,fa,fd,ps,hq,Fk,hr,hm,hb⟩:=M;refine A5 (aC0 (J9 A.n A.v A.d1 A.d2) c.cl hm Fk hr hb .nil hq (aS5 hl rfl)) λσ H Q ⟨Hf,st,kk⟩=>?_
 obtain⟨v,h1,a',dx,fs,h2,h3,h4,h5⟩:=aq2 (n:=0) (ds:=[]) (E:=E0) st A hk nf r rfl kk;exact⟨v,h1,a',dx,fs,h2,h3,h4,h5 [] H Hf (Grow.refl st.same) rfl⟩
theorem Y9(A:At1 X ρ q x i j a o)(c:FoC X.K (C kd) fn)(hk:o.k=kd)(hf:f∈fn)(l:o.l.lookup f=some w)(hb:eB (.Name x p) f X.env (eval (.Name x p) X.env)=eval (.Name x p) X.env):
  PE X (.Attribute (.Name x p) f pos) (λσ H Q=>∃Hf,OSt X.K C b ρ q σ H Hf/\∀cl v ps,FoAt X.K C H Hf a cl o->cl.fs.lookup f=some v->FvA X.K H Hf w v ps->(∀y∈ps,y∈cl.ps)->Q v H) :=
 A5 (cb0 (J9 A.n A.v A.d1 A.d2) hb) λσ H Q ⟨Hf,st,k⟩=>by
  obtain⟨cl,f1,_⟩:=st.focus A.w A.o;rcases f1.fl.look (f:=f) with⟨z,_⟩|⟨w',v,ps,z1,z2,z3,z4⟩
  ·rw[l]at z;cases z
  ·rw[l]at z1;cases z1;exact⟨_,T7 st A.s,a,C kd,cl.dx,cl.fs,v,rfl,by rw[← hk];exact f1.ins,c.cl,c.na f hf,z2,k cl v ps f1 z2 z3 z4⟩
theorem cc8(A:At1 X ρ q x i j a o)(c:FoC X.K (C kd) fn)(hk:o.k=kd)(hf:f∈fn)(l:o.l.lookup f=some (.frz d))(hb:eB (.Name x p) f X.env (eval (.Name x p) X.env)=eval (.Name x p) X.env):OE X C b ρ q (.Attribute (.Name x p) f pos) d q :=
 A5 (Y9 A c hk hf l hb) λσ H Q ⟨Hf,st,k⟩=>⟨Hf,st,λcl v ps _ _ z _=>k v H Hf st (B0.refl _) z.2⟩
theorem cb8(A:At1 X ρ q x i j a o)(c:FoC X.K (C kd) fn)(hf:f∈fn)(h:OE X C b ρ q e d q')(e2:q'[j]? = some (a,o'))(hk:o'.k=kd)(hz:o'.l.length < 1000)(hs:swapsWith e (some (.Attribute (.Name x p) f pos')) pos.line X.env=pure false):
  OS X C b ρ q (.Assign [.Attribute (.Name x p) f pos'] e pos) (.nx ρ (q'.set j (a,⟨o'.k,Q6 f (.frz d) o'.l⟩))) :=
 D0 (bi6 (J9 A.n A.v A.d1 A.d2) h hs) λEn σ H ⟨Hf,st,k⟩=>⟨Hf,st,λv H1 Hf1 s1 e1 r=>by
  obtain⟨cl,f1,f3⟩:=s1.focus A.w e2;obtain⟨ps',p1,p2⟩:=f1.put (f:=f) (w:=.frz d) (v:=v) (p:=[]) ⟨rfl,r⟩ (by simp);rw[hk]at p1;refine⟨_,T7 s1 A.s,a,C kd,cl.dx,cl.fs,rfl,by rw[← hk];exact f1.ins,c.cl,c.na f hf,by rw[f1.fl.len];exact hz,k σ _ Hf1 (f3 (Chg.wr s1.same (by simp) (f1.fr _ (by simp))) (by rw[hk];exact p1) λz hz=>.inl ?_) e1⟩;rcases ax.mp hz with rfl|hz
  ·simp
  ·exact ai _ ((p2 z hz).resolve_left (by simp))⟩
end
end G
namespace G
open PySem PySem.Spec PyProof.Rows L2
def bC6(as:List eW):Option B->Option B
 | some (.opq j)=>some (.opq (as.getD j 0))
 | b=>b
abbrev sub(as:List eW)(ρ:Rho):Rho:=ρ.map (bC6 as)
def cw9:Option B->Option B
 | some (.opq _)=>none
 | b=>b
abbrev era(ρ:Rho):Rho:=ρ.map cw9
theorem K2(as:List eW)(ρ:Rho):era (sub as ρ)=era ρ:=by
 unfold era sub;rw[aV];refine bc λb _=>?_
 cases b with
 | none=>rfl
 | some b=>cases b<;>rfl
theorem aY3(as:List eW)(ρ:Rho):aq1 (sub as ρ)=aq1 ρ:=rfl
def okR(n:Nat)(ρ:Rho):Bool:=ρ.all λx=>match x with
 | some (.opq j)=>decide (j < n)
 | _=>true
theorem O1(h:okR n ρ=true):aq1 ρ=true:=rfl
theorem bl2(h:okR n ρ=true)(l:n<=m):okR m ρ=true:=by
 unfold okR at h ⊢;rw[aO]at h ⊢;intro x hx;have:=h x hx;split
 ·exact decide_eq_true (aB (of_decide_eq_true this) l)
 ·rfl
theorem ah6{ρ:Rho}{i n:Nat}{x:Option B}(h:okR n ρ=true)(h2:∀j,x=some (.opq j)->j < n):okR n (ρ.set i x)=true:=by
 unfold okR at h ⊢;rw[aO]at h ⊢;intro y hy;rcases List.mem_or_eq_of_mem_set hy with q|rfl
 ·exact h y q
 ·split
  ·exact decide_eq_true (h2 _ rfl)
  ·rfl
theorem u6{ρ:Rho}{i n:Nat}{d:D}(h:okR n ρ=true):okR n (ρ.set i (‹d›))=true:=ah6 h (by intro _ z;cases z)
theorem bg0(h:okR as.length ρ=true)(ex:List eW):sub (as++ex) ρ=sub as ρ:=by
 unfold sub;refine bc λx hx=>?_
 have:=aO.mp h x hx;cases x with
 | none=>rfl
 | some x =>
  cases x with
  | opq j =>
   have hj:j < as.length:=of_decide_eq_true this;show some (B.opq _)=some (B.opq _);rw[bU,bU,az hj]
  | _=>rfl
theorem t6(as:List eW)(ρ:Rho)(i:Nat)(d:D):sub as (ρ.set i (‹d›))=(sub as ρ).set i (‹d›):=by unfold sub;rw[List.map_set];rfl
section
variable {K:PySem.W.Frag}{C:CT}{b:Bs}{ρ:Rho}{q:Os}{σ:L2.St}{H Hf H0:Hp}
theorem Slots.era(s:Slots K H0 ρ σ H Hf):Slots K H0 (era ρ) σ H Hf:=by
 have at_:∀(i:Nat) (b:B),(G.era ρ)[i]? = some (some b)->ρ[i]? = some (some b):=λi b e=>by
  unfold G.era at e;rw[aF]at e;obtain⟨x,e1,e2⟩:=af.mp e;rw[e1];cases x with
  | none=>cases e2
  | some x=>cases x<;>first|exact congrArg some e2|cases e2
 exact⟨by rw[ak];exact s.len,λi b e=>s.is i b (at_ i b e),λi j d1 d2 a h1 h2=>s.apart i j d1 d2 a (at_ i _ h1) (at_ j _ h2)⟩
end
abbrev Fs:=List Fo
abbrev UD:=Rho->Fs->Option (D×Fs)
abbrev UB:=Rho->Fs->Option (Bool×Fs)
inductive UF where
 | nx (ρ:Rho) (q:Fs)
 | rt (d:D) (q:Fs)
 | ro (j:Nat) (q:Fs)
def UF.own:UF->Bool
 | .nx ρ q=>okR q.length ρ
 | _=>true
def UF.ends(X:Cx)(C:CT)(b:Bs)(as:List eW)(Hf:Hp)(En:Ends):UF->Prop
 | .nx ρ q=>∀ex σ H' Hf',(as++ex).length=q.length->OSt X.K C b (sub (as++ex) ρ) ((as++ex).zip q) σ H' Hf'->B0 Hf Hf'->En.nx σ H'
 | .rt d q=>∀ex ρ σ v H' Hf',(as++ex).length=q.length->OSt X.K C b ρ ((as++ex).zip q) σ H' Hf'->Rep X.K Hf' d v->En.rt v H'
 | .ro j q=>∀ex ρ σ a H' Hf',(as++ex).length=q.length->OSt X.K C b ρ ((as++ex).zip q) σ H' Hf'->(as++ex)[j]? = some a->En.rt (.ref a) H'
theorem UF.mono{X:Cx}{fl:UF}(h:fl.ends X C b as Hf En)(e:B0 Hf Hf'):fl.ends X C b as Hf' En:=by
 cases fl with
 | nx ρ q=>exact λex σ H' Hf'' l o s=>h ex σ H' Hf'' l o (e.trans s)
 | rt d q=>exact h
 | ro j q=>exact h
theorem UF.more{X:Cx}{fl:UF}(h:fl.ends X C b as Hf En)(ex:List eW):fl.ends X C b (as++ex) Hf En:=by
 cases fl with
 | nx ρ q=>exact λex2 σ H' Hf' l o s=>h (ex++ex2) σ H' Hf' (by rw[← aH];exact l) (by rw[← aH];exact o) s
 | rt d q=>exact λex2 ρ σ v H' Hf' l o=>h (ex++ex2) ρ σ v H' Hf' (by rw[← aH];exact l) (by rw[← aH];exact o)
 | ro j q=>exact λex2 ρ σ a H' Hf' l o z=>h (ex++ex2) ρ σ a H' Hf' (by rw[← aH];exact l) (by rw[← aH];exact o) (by rw[← aH];exact z)
def UE(X:Cx)(C:CT)(e:Expr)(g:UD):Prop:=∀ρ q d q',g ρ q=some (d,q')->okR q.length ρ=true->q'.length=q.length/\∀b (as:List eW),as.length=q.length->OE X C b (sub as ρ) (as.zip q) e d (as.zip q')
def UT(X:Cx)(C:CT)(e:Expr)(g:UB):Prop:=∀ρ q c q',g ρ q=some (c,q')->okR q.length ρ=true->q'.length=q.length/\∀b (as:List eW),as.length=q.length->OT X C b (sub as ρ) (as.zip q) e c (as.zip q')
def tU(X:Cx)(C:CT)(b:Bs)(as:List eW)(ρ:Rho)(q:Fs)(fl:UF):TS:=λEn σ H=>∃Hf,OSt X.K C b (sub as ρ) (as.zip q) σ H Hf/\fl.ends X C b as Hf En
abbrev UX:=Rho->Fs->Option UF
def US(X:Cx)(C:CT)(st:Stmt)(g:UX):Prop:=∀ρ q fl,g ρ q=some fl->okR q.length ρ=true->fl.own=true/\∀b (as:List eW),as.length=q.length->PS X st (tU X C b as ρ q fl)
def USs(X:Cx)(C:CT)(sts:List Stmt)(g:UX):Prop:=∀ρ q fl,g ρ q=some fl->okR q.length ρ=true->fl.own=true/\∀b (as:List eW),as.length=q.length->PSs X sts (tU X C b as ρ q fl)
section
variable {X:Cx}{C:CT}{st:Stmt}{sts:List Stmt}
def uP(f:DE):UD:=λρ q=>(f (era ρ)).map λd=>(d,q)
theorem aO4(h:JE X e f):UE X C e (uP f):=λρ q d q' w _=>by
 obtain⟨d',e1,e2⟩:=af.mp w;cases e2;exact⟨rfl,λb as _=>A5 (h (era ρ) d e1) λσ H Q ⟨Hf,st,k⟩=>⟨_,Hf,st.same,by rw[← K2 as ρ];exact st.sl.era,λv H' Hf' g r=>k v H' Hf' (st.grow g) g.ext r⟩⟩
def uTP(f:Rho->Option Bool):UB:=λρ q=>(f (era ρ)).map λd=>(d,q)
theorem aO1(h:JT X e f):UT X C e (uTP f):=λρ q d q' w _=>by
 obtain⟨d',e1,e2⟩:=af.mp w;cases e2;exact⟨rfl,λb as _=>X0 (h (era ρ) d e1) λσ H Q ⟨Hf,st,k⟩=>⟨_,Hf,st.same,by rw[← K2 as ρ];exact st.sl.era,λH' Hf' g=>k H' Hf' (st.grow g) g.ext⟩⟩
def M4(i:Nat)(ρ:Rho)(q:Fs):Option (Nat×Fo):=match ρ[i]? with
 | some (some (.opq j))=>(q[j]?).map λo=>(j,o)
 | _=>none
theorem G3{as:List eW}(h:M4 i ρ q=some (j,o))(n:aq1 ρ=true)(l:as.length=q.length)(hn:X.N[i]? = some x)(hv:Vis X.env.scope x)(h1:(x==("__debug__" : Str))=false)(h2:(x==("__classdict__" : Str))=false):
  ∃a,as[j]? = some a/\At1 X (sub as ρ) (as.zip q) x i j a o:=by
 unfold M4 at h;split at h
 ·rename_i j' e;obtain⟨o',e1,e2⟩:=af.mp h;cases e2;have hj:j < as.length:=by rw[l];exact(ao.mp e1).1
  refine⟨as[j],ba hj,hn,hv,h1,h2,?_,?_,by rw[aY3];exact n⟩
  ·unfold sub;rw[aF,e];show some (some (B.opq (as.getD j 0)))=_;rw[bU,ba hj];rfl
  ·rw[bJ];exact⟨ba hj,e1⟩
 ·cases h
theorem K0{as:List eW}{q:Fs}{j:Nat}{o:Fo}(h:as[j]? = some a):as.zip (q.set j o)=(as.zip q).set j (a,o):=by
 apply db;intro i;rw[br];by_cases e:j=i
 ·subst e;rw[if_pos rfl];by_cases hl:j < (as.zip q).length
  ·rw[if_pos hl];have:j < q.length:=by simp at hl;omega
   rw[bJ];exact⟨h,by rw[aC this]⟩
  ·rw[if_neg hl];have h1:j < as.length:=(ao.mp h).1;have:¬j < q.length:=λz=>hl (by simp;omega)
   rw[cM];simp;omega
 ·rw[if_neg e];have:(q.set j o)[i]? = q[i]?:=aA e;rw[List.zip_eq_zipWith,List.zip_eq_zipWith,List.getElem?_zipWith,List.getElem?_zipWith,this]
def uM(i:Nat)(kd:Bool)(m:Str)(F:DF)(f:Rho->Option (List D)):UD:=λρ q=>(M4 i ρ q).bind λp=>if p.2.k=kd/\(p.2.l.lookup m).isNone=true then(f (era ρ)).bind λds=>(F p.2 (none::ds.map some)).map λr=>(r.1,q.set p.1 r.2) else none
theorem bB0{e:Expr}{es:List Expr}{f:Rho->Option (List D)}(i:Nat)(M:af8 X zb C kd m n F)(c:FoC X.K (C kd) fn)(hn:X.N[i]? = some x)(hv:Vis X.env.scope x)(h1:(x==("__debug__" : Str))=false)(h2:(x==("__classdict__" : Str))=false)(ha:JA X (e::es) f)(hl:(apos.endLine==pos.line)=true)(hz:(e::es).length=n)
  (hst:dO (e::es) X.env=(false,eval e X.env)::dO es X.env) (hpl:(backTo pos (dO es X.env)).any (·.1)=false) (hfm:methodCallForm ((e::es).length+([]:List eh).length) (backTo pos (dO (e::es) X.env)) (backToKw pos (keywordEach [] X.env))=true) :
  UE X C (.Call (.Attribute (.Name x p) m apos) (e::es) [] pos) (uM i kd m F f):=λρ q d q' w no=>by
 obtain⟨⟨j,o⟩,e1,w⟩:=ae.mp w;split at w
 ·rename_i nf;obtain⟨ds,e2,w⟩:=ae.mp w;obtain⟨⟨r,o'⟩,e3,e4⟩:=af.mp w;cases e4;refine⟨by simp,λb as l=>?_⟩;obtain⟨a,ea,A⟩:=G3 e1 (O1 no) l hn hv h1 h2;rw[K0 ea];exact bl4 M c A nf.1 (by simpa using nf.2) ha e2 (λs=>by rw[← K2 as ρ];exact s.era) e3 hz hst hpl hl hfm
 ·cases w
def uM0(i:Nat)(kd:Bool)(m:Str)(F:DF):UD:=λρ q=>(M4 i ρ q).bind λp=>if p.2.k=kd/\(p.2.l.lookup m).isNone=true then(F p.2 [none]).map λr=>(r.1,q.set p.1 r.2) else none
theorem be6(i:Nat)(M:af8 X zb C kd m 0 F)(c:FoC X.K (C kd) fn)(hn:X.N[i]? = some x)(hv:Vis X.env.scope x)(h1:(x==("__debug__" : Str))=false)(h2:(x==("__classdict__" : Str))=false)(hl:(apos.endLine==pos.line)=true):
  UE X C (.Call (.Attribute (.Name x p) m apos) [] [] pos) (uM0 i kd m F):=λρ q d q' w no=>by
 obtain⟨⟨j,o⟩,e1,w⟩:=ae.mp w;split at w
 ·rename_i nf;obtain⟨⟨r,o'⟩,e3,e4⟩:=af.mp w;cases e4;refine⟨by simp,λb as l=>?_⟩;obtain⟨a,ea,A⟩:=G3 e1 (O1 no) l hn hv h1 h2;rw[K0 ea];exact bl5 M c A nf.1 (by simpa using nf.2) e3 hl
 ·cases w
def uB2(h:D->D->Option D)(f g:UD):UD:=λρ q=>(f ρ q).bind λx=>(g ρ x.2).bind λy=>(h x.1 y.1).map λz=>(z,y.2)
theorem bV9(o:OpD X (dR op) h)(ha:UE X C ea f)(hb:UE X C eb g)(hm:behindInMarks op eb=false):UE X C (.Compare ea [op] [eb] pos) (uB2 h f g):=λρ q d q' w no=>by
 obtain⟨⟨x,q1⟩,w1,w⟩:=ae.mp w;obtain⟨⟨y,q2⟩,w2,w⟩:=ae.mp w;obtain⟨z,w3,w4⟩:=af.mp w;cases w4;obtain⟨l1,a1⟩:=ha ρ q x q1 w1 no;obtain⟨l2,a2⟩:=hb ρ q1 y q2 w2 (by rw[l1];exact no);exact⟨l2.trans l1,λb as l=>cc9 o (a1 b as l) (a2 b as (l.trans l1.symm)) w3 hm⟩
def cD8:D->Option Bool
 | .bool c=>some c
 | _=>none
def uTB(f:UD):UB:=λρ q=>(f ρ q).bind λx=>(cD8 x.1).map λc=>(c,x.2)
theorem bU2(o:OpD X (dR op) h)(ha:UE X C ea f)(hb:UE X C eb g)(hm:behindInMarks op eb=false):UT X C (.Compare ea [op] [eb] pos) (uTB (uB2 h f g)):=λρ q d q' w no=>by
 obtain⟨⟨z,q2⟩,w0,w⟩:=ae.mp w;obtain⟨c,w4,w5⟩:=af.mp w;cases w5;obtain⟨⟨x,q1⟩,w1,w0⟩:=ae.mp w0;obtain⟨⟨y,q2⟩,w2,w0⟩:=ae.mp w0;obtain⟨z,w3,w6⟩:=af.mp w0;cases w6;obtain⟨l1,a1⟩:=ha ρ q x q1 w1 no;obtain⟨l2,a2⟩:=hb ρ q1 y q2 w2 (by rw[l1];exact no);have:z=.bool d:=by cases z<;>cases w4;rfl
 subst this;exact⟨l2.trans l1,λb as l=>cb4 o (a1 b as l) (a2 b as (l.trans l1.symm)) w3 hm⟩
theorem bU1(ha:UE X C e f)(he:∀whole,isTrue e X.env whole=(do let v ← whole;standAt e.pos;holding [v] (truthy v))):UT X C e (uTB f):=λρ q d q' w no=>by
 obtain⟨⟨z,q2⟩,w0,w⟩:=ae.mp w;obtain⟨c,w4,w5⟩:=af.mp w;cases w5;have:z=.bool d:=by cases z<;>cases w4;rfl
 subst this;obtain⟨l1,a1⟩:=ha ρ q _ _ w0 no;exact⟨l1,λb as l=>cb3 (a1 b as l) he⟩
def uOr(f g:UB):UB:=λρ q=>(f ρ q).bind λx=>if x.1 then some (true,x.2) else g ρ x.2
def cz3(f g:UB):UB:=λρ q=>(f ρ q).bind λx=>if x.1 then g ρ x.2 else some (false,x.2)
end
end G
namespace G
open PySem PySem.Spec PyProof.Rows L2
section
variable {X:Cx}{C:CT}{st:Stmt}{sts:List Stmt}
theorem x0{as:List eW}{q':Fs}(h:UF.ends X C b as Hf En (.nx ρ q'))(l:as.length=q'.length):∀σ H' Hf',OSt X.K C b (sub as ρ) (as.zip q') σ H' Hf'->B0 Hf Hf'->En.nx σ H':=λσ H' Hf' s e=>h [] σ H' Hf' (by rw[aw];exact l) (by rw[aw];exact s) e
def uEx(f:UD):UX:=λρ q=>(f ρ q).map λx=>.nx ρ x.2
theorem bA1(h:UE X C e f)(hs:swapsWith e none pos.line X.env=pure false):US X C (.Expr e pos) (uEx f):=λρ q fl w no=>by
 obtain⟨⟨d,q1⟩,w1,w2⟩:=af.mp w;cases w2;obtain⟨l1,a1⟩:=h ρ q d q1 w1 no;exact⟨by show okR q1.length ρ=true;rw[l1];exact no,λb as l=>D0 (u4 (a1 b as l) hs) λEn σ H ⟨Hf,st,k⟩=>⟨Hf,st,λv H' Hf' s' e' _=>x0 k (l.trans l1.symm) σ H' Hf' s' e'⟩⟩
def S3(i:Nat)(f:UD):UX:=λρ q=>(f ρ q).map λx=>.nx (ρ.set i (‹x.1›)) x.2
theorem aH0(i:Nat)(hN:X.N.Nodup)(h:UE X C e f)(hi:X.N[i]? = some x)(hx:Loc X.env.scope x)(hs:swapsWith e (some (.Name x pos')) pos.line X.env=pure false)(hf:X.fn x=true\/X.env.scope.names.lookup x=some .local):US X C (.Assign [.Name x pos'] e pos) (S3 i f):=λρ q fl w no=>by
 obtain⟨⟨d,q1⟩,w1,w2⟩:=af.mp w;cases w2;obtain⟨l1,a1⟩:=h ρ q d q1 w1 no;exact⟨u6 (by rw[l1];exact no),λb as l=>D0 (m7 hN hi hx (a1 b as l) hs hf) λEn σ H ⟨Hf,st,k⟩=>⟨Hf,st,λv H' Hf' s' e' r=>x0 k (l.trans l1.symm) _ H' Hf' (by rw[t6];exact s'.set r) e'⟩⟩
def T5(f:UD):UX:=λρ q=>(f ρ q).map λx=>.rt x.1 x.2
theorem bd8(h:UE X C e f):US X C (.Return (some e) pos) (T5 f):=λρ q fl w no=>by
 obtain⟨⟨d,q1⟩,w1,w2⟩:=af.mp w;cases w2;obtain⟨l1,a1⟩:=h ρ q d q1 w1 no;exact⟨rfl,λb as l=>D0 (au4 (a1 b as l)) λEn σ H ⟨Hf,st,k⟩=>⟨Hf,st,λv H' Hf' s' e' r=>k [] _ σ v H' Hf' (by rw[aw];exact l.trans l1.symm) (by rw[aw];exact s') r⟩⟩
def uRo(i:Nat):UX:=λρ q=>(M4 i ρ q).map λp=>.ro p.1 q
theorem co5(i:Nat)(hn:X.N[i]? = some x)(hv:Vis X.env.scope x)(h1:(x==("__debug__" : Str))=false)(h2:(x==("__classdict__" : Str))=false):US X C (.Return (some (.Name x p)) pos) (uRo i):=λρ q fl w no=>by
 obtain⟨⟨j,o⟩,w1,w2⟩:=af.mp w;cases w2;refine⟨rfl,λb as l=>?_⟩;obtain⟨a,ea,A⟩:=G3 w1 (O1 no) l hn hv h1 h2;exact D0 (au4 (J9 hn hv h1 h2)) λEn σ H ⟨Hf,st,k⟩=>⟨_,T7 st A.s,k [] _ σ a H Hf (by rw[aw];exact l) (by rw[aw];exact st) (by rw[aw];exact ea)⟩
def uIf(t:UB)(f g:UX):UX:=λρ q=>(t ρ q).bind λx=>if x.1 then f ρ x.2 else g ρ x.2
theorem co8{s1 s2:List Stmt}(t:UT X C e c)(h1:USs X C s1 f)(h2:USs X C s2 g):US X C (.If e s1 s2 pos) (uIf c f g):=λρ q fl w no=>by
 obtain⟨⟨x,q1⟩,w1,w⟩:=ae.mp w;obtain⟨l1,a1⟩:=t ρ q x q1 w1 no;cases x with
 | true =>
  obtain⟨o1,b1⟩:=h1 ρ q1 fl w (by rw[l1];exact no);exact⟨o1,λb as l=>D0 (aR0 (a1 b as l) (b1 b as (l.trans l1.symm)) K1) λEn σ H ⟨Hf,st,k⟩=>⟨Hf,st,λH' Hf' s' e'=>v5 ⟨Hf',s',UF.mono (fl:=fl) k e'⟩⟩⟩
 | false =>
  obtain⟨o1,b1⟩:=h2 ρ q1 fl w (by rw[l1];exact no);exact⟨o1,λb as l=>D0 (aR0 (a1 b as l) K1 (b1 b as (l.trans l1.symm))) λEn σ H ⟨Hf,st,k⟩=>⟨Hf,st,λH' Hf' s' e'=>ag3 ⟨Hf',s',UF.mono (fl:=fl) k e'⟩⟩⟩
def m5:UX:=λρ q=>some (.nx ρ q)
theorem bz4:USs X C [] m5:=λρ q fl w no=>by
 cases w;exact⟨no,λb as l=>Q8 aQ9 λEn σ H ⟨Hf,st,k⟩=>x0 k l σ H Hf st (B0.refl _)⟩
theorem bz3(h:US X C st g):USs X C [st] g:=λρ q fl w no=>by
 obtain⟨h1,h2⟩:=h ρ q fl w no;exact⟨h1,λb as l=>ah2 (h2 b as l)⟩
def E1(f g:UX):UX:=λρ q=>(f ρ q).bind λfl=>match fl with
 | .nx ρ' q'=>g ρ' q'
 | r=>some r
theorem bZ9{α:Type}{t:α->TS}(h:∀a,PSs X sts (t a)):PSs X sts (λEn σ H=>∃a,t a En σ H):=λpins s σ H D I ⟨a,q⟩=>h a pins s σ H D I q
theorem bF3{P:Prop}{t:TS}(h:P->PSs X sts t):PSs X sts (λEn σ H=>P/\t En σ H):=λpins s σ H D I ⟨a,q⟩=>h a pins s σ H D I q
theorem bd7(h1:US X C st f)(h2:USs X C sts g):USs X C (st::sts) (E1 f g):=λρ q fl w no=>by
 obtain⟨fl1,w1,w⟩:=ae.mp w;obtain⟨o1,a1⟩:=h1 ρ q fl1 w1 no;cases fl1 with
 | nx ρ' q' =>
  obtain⟨o2,a2⟩:=h2 ρ' q' fl w o1;exact⟨o2,λb as l=>Q8 (S6 (a1 b as l) (bZ9 λex=>bF3 λ(l2:(as++ex).length=q'.length)=>a2 b (as++ex) l2)) λEn σ H ⟨Hf,s,k⟩=>⟨Hf,s,λex σ' H' Hf' l' s' e'=>⟨ex,l',Hf',s',UF.more (UF.mono (fl:=fl) k e') ex⟩⟩⟩
 | rt d q' =>
  cases w;exact⟨rfl,λb as l=>Q8 (S6 (a1 b as l) K1) λEn σ H ⟨Hf,s,k⟩=>⟨Hf,s,k⟩⟩
 | ro j q' =>
  cases w;exact⟨rfl,λb as l=>Q8 (S6 (a1 b as l) K1) λEn σ H ⟨Hf,s,k⟩=>⟨Hf,s,k⟩⟩
def Cm(g:D->Rho->Option Rho):Prop:=∀as d ρ ρ1,g d ρ=some ρ1->g d (sub as ρ)=some (sub as ρ1)/\∀n,okR n ρ=true->okR n ρ1=true
def Cms(g:List D->Rho->Option Rho):Prop:=∀as d ρ ρ1,g d ρ=some ρ1->g d (sub as ρ)=some (sub as ρ1)/\∀n,okR n ρ=true->okR n ρ1=true
theorem cl3(i:Nat):Cm (F4 i):=λas d ρ ρ1 h=>by
 cases h;exact⟨by rw[t6];rfl,λn h=>u6 h⟩
theorem bM2:Cms aq8:=λas d ρ ρ1 h=>by
 cases d with
 | nil=>cases h;exact⟨rfl,λ_ h=>h⟩
 | cons=>cases h
theorem bw6(h1:Cm f)(h2:Cms g):Cms (d5 f g):=λas d ρ ρ1 h=>by
 cases d with
 | nil=>cases h
 | cons d ds =>
  obtain⟨ρ2,e1,e2⟩:=ae.mp h;obtain⟨a1,a2⟩:=h1 as d ρ ρ2 e1;obtain⟨b1,b2⟩:=h2 as ds ρ2 ρ1 e2;exact⟨by show(f d (sub as ρ)).bind _=_;rw[a1];exact b1,λn h=>b2 n (a2 n h)⟩
theorem cl2(h:Cms g):Cm (af0 n g):=λas d ρ ρ1 e=>by
 unfold af0 at e ⊢;split at e
 ·split at e
  ·rename_i hl;rw[if_pos hl];exact h as _ ρ ρ1 e
  ·cases e
 ·cases e
def Z5(g:D->Rho->Option Rho)(f:UX):List D->UX
 | [],ρ,q=>some (.nx ρ q)
 | d::ds,ρ,q=>(g d ρ).bind λρ1=>(f ρ1 q).bind λfl=>match fl with
  | .nx ρ' q'=>Z5 g f ds ρ' q'
  | r=>some r
def aH2(src:Rho->Fs->Option (List D×Fs))(g:D->Rho->Option Rho)(f:UX):UX:=λρ q=>(src ρ q).bind λx=>Z5 g f x.1 ρ x.2
theorem aA2{body:List Stmt}(cm:Cm g)(hb:USs X C body f):∀(ds:List D) (ρ:Rho) (q:Fs) (fl:UF),Z5 g f ds ρ q=some fl->okR q.length ρ=true->fl.own=true
 | [],ρ,q,fl,h,n=>by cases h;exact n
 | d::ds,ρ,q,fl,h,n=>by
  obtain⟨ρ1,e1,h⟩:=ae.mp h;obtain⟨fl1,e2,h⟩:=ae.mp h;have n1:=(cm [] d ρ ρ1 e1).2 _ n;have o:=(hb ρ1 q fl1 e2 n1).1;cases fl1 with
  | nx ρ' q'=>exact aA2 cm hb ds ρ' q' fl h o
  | rt d q'=>cases h;rfl
  | ro j q'=>cases h;rfl
def UI(X:Cx)(C:CT)(tg iter:Expr)(src:Rho->Fs->Option (List D×Fs)):Prop:=∀ρ q ds q',src ρ q=some (ds,q')->okR q.length ρ=true->q'.length=q.length/\∀b (as:List eW),as.length=q.length->PI X tg iter (λσ H R=>∃Hf,OSt X.K C b (sub as ρ) (as.zip q) σ H Hf/\∀J H1 Hf1,OSt X.K C b (sub as ρ) (as.zip q') σ H1 Hf1->B0 Hf Hf1->az5 X.K J ds Hf1->R J H1)
def iP(src:Rho->Option (List D)):Rho->Fs->Option (List D×Fs):=λρ q=>(src (era ρ)).map λds=>(ds,q)
theorem bA8(h:JI X tg iter src):UI X C tg iter (iP src):=λρ q ds q' w no=>by
 obtain⟨ds',e1,e2⟩:=af.mp w;cases e2;exact⟨rfl,λb as l=>au5 (h (era ρ) ds e1) λσ H R ⟨Hf,st,k⟩=>⟨_,Hf,st.same,by rw[← K2 as ρ];exact st.sl.era,λJ H1 Hf1 g1 Y=>k J H1 Hf1 (st.grow g1) g1.ext Y⟩⟩
theorem bU5{body:List Stmt}(hi:UI X C tg iter src)(hg:JG X tg g)(cm:Cm g)(hb:USs X C body f)(hp:PassesOwn (eE X.prog X.w) X.A X.env X.xe)(hc:X.calm=true)(hs:∀x,em iter X.env x=pure x):US X C (.For tg iter body [] pos) (aH2 src g f):=λρ q fl w no=>by
 obtain⟨⟨ds,q1⟩,e1,e2⟩:=ae.mp w;obtain⟨lq,hi'⟩:=hi ρ q ds q1 e1 no;refine⟨aA2 cm hb ds ρ q1 fl e2 (by rw[lq];exact no),λb as l=>?_⟩;have body':PSs X body (λEn σ H=>∃(as':List eW) (ρ':Rho) (q':Fs) (fl':UF),f ρ' q'=some fl'/\okR q'.length ρ'=true/\as'.length=q'.length/\tU X C b as' ρ' q' fl' En σ H):=λpins s σ H D I ⟨as',ρ',q',fl',z1,z2,z3,z4⟩=>(hb ρ' q' fl' z1 z2).2 b as' z3 pins s σ H D I z4
 refine D0 (ca1 hp hc (hi' b as l) hg body' hs) λEn σ H ⟨Hf,st,e⟩=>⟨Hf,st,λJ H1 Hf1 s1 x1 Y=>?_⟩
 refine⟨λi m σ H=>m=ds.length - i/\i<=ds.length/\∃Hf' ex ρ' q',(as++ex).length=q'.length/\okR q'.length ρ'=true/\OSt X.K C b (sub (as++ex) ρ') ((as++ex).zip q') σ H Hf'/\B0 Hf1 Hf'/\Z5 g f (ds.drop i) ρ' q'=some fl,
  ⟨ds.length,by simp,aU _,Hf1,[],ρ,q1,by rw[aw];exact l.trans lq.symm,by rw[lq];exact no,by rw[aw];exact s1,B0.refl _,by simpa using e2⟩,?_⟩
 rintro i m σ' H' ⟨rfl,hi,Hf',ex,ρ',q',l',no',a',s',hm⟩
 obtain⟨Ys,Yg⟩:=Y i H' Hf' s' a'.same;rcases bD i ds.length with hlt|hge
 ·right
  obtain⟨go,yl⟩:=Yg ds[i] (by simp[hlt]);rw[bX hlt]at hm;obtain⟨ρ1,c1,hm⟩:=ae.mp hm;obtain⟨fl1,c2,hm⟩:=ae.mp hm;obtain⟨c3,c4⟩:=cm (as++ex) _ _ _ c1;have no1:=c4 _ no';have o1:=(hb ρ1 q' fl1 c2 no1).1;refine⟨go,λσ3 H3=>∃m',m' < ds.length - i/\m'=ds.length - (i+1)/\i+1<=ds.length/\∃Hf' ex ρ' q',(as++ex).length=q'.length/\okR q'.length ρ'=true/\OSt X.K C b (sub (as++ex) ρ') ((as++ex).zip q') σ3 H3 Hf'/\B0 Hf1 Hf'/\Z5 g f (ds.drop (i+1)) ρ' q'=some fl,λσ3 H3 ⟨m',z1,z2⟩=>⟨m',z1,z2⟩,λx H2 hy=>?_⟩;obtain⟨Hf2,g2,r2⟩:=yl x H2 hy;have a2:=a'.grow g2;have s2:=s'.trans g2.ext;refine⟨ds[i],sub (as++ex) ρ',sub (as++ex) ρ1,_,Hf2,c3,g2.sub,a2.sl,r2,λσ3 sl3=>⟨as++ex,ρ1,q',fl1,c2,no1,l',Hf2,a2.slots sl3,?_⟩⟩;cases fl1 with
  | nx ρ3 q3=>exact λex2 σ3 H3 Hf3 l3 a3 s3=>⟨_,by omega,rfl,hlt,Hf3,ex++ex2,ρ3,q3,by rw[← aH];exact l3,o1,by rw[← aH];exact a3,s2.trans s3,hm⟩
  | rt d q3 =>
   cases hm;exact UF.more (fl:=.rt d q3) e ex
  | ro j q3 =>
   cases hm;exact UF.more (fl:=.ro j q3) e ex
 ·left
  have:i=ds.length:=by omega
  subst this;rw[cK]at hm;cases hm;exact⟨Ys (aj _),e ex σ' H' Hf' l' a' (x1.trans s')⟩
end
end G
namespace G
open PySem PySem.Spec PyProof.Rows L2
theorem O8{H:Hp}{a b:eW}{o:HO}(h:upd H a o b=none):b≠a/\H b=none:=by
 by_cases e:b=a
 ·subst e;rw[A7]at h;cases h
 ·rw[A9 e]at h;exact⟨e,h⟩
section
variable {K:PySem.W.Frag}{C:CT}{b:Bs}{ρ:Rho}{os:Os}{σ:L2.St}{H Hf H' Hf':Hp}
theorem OSt.add(st:OSt K C b ρ os σ H Hf)(g:Grow H Hf H' Hf')(f:FoAt K C H' Hf' x c o)(fr:∀y∈cells x c,H y=none):OSt K C b ρ (os++[(x,o)]) σ H' Hf':=by
 obtain⟨R,r1,r2,r3⟩:=st.ob;have st':=st.grow g;have r1':=r1.chg (S:=[]) (Chg.of g) (by simp);obtain⟨R',q1,q2⟩:=r1'.snoc f λy hy z=>r1.there y z (fr y hy)
 refine⟨st'.gr,R',q1,λy hy=>(q2 y hy).elim (r2 y) λz=>.inr ?_,r3.chg (S:=[]) (Chg.of g) (by simp) λx h hx=>?_⟩
 ·exact aR λw=>st.gr.kp y w (fr y z)
 ·obtain⟨h1,h2⟩:=P5 h;exact aw6 (λz=>(q2 x z).elim h1 λw=>hx (fr x w)) h2
end
theorem Slots.setO{K:ag}{H0 H Hf:Hp}{ρ:Rho}{σ:L2.St}{i:Nat}{a:eW}(s:Slots K H0 ρ σ H Hf):Slots K H0 (ρ.set i (some (.opq a))) (σ.set i (some (.ref a))) H Hf:=by
 have own:∀(j:Nat) (ds:List D),(ρ.set i (some (.opq a)))[j]? = some (some (.own ds))->i≠j/\ρ[j]? = some (some (.own ds)):=λj ds e=>by
  rw[br]at e;split at e
  ·split at e<;>cases e
  ·rename_i h;exact⟨h,e⟩
 refine⟨by simp[s.len],λj b e=>?_,λj k d1 d2 c h1 h2 h3 h4=>?_⟩
 ·rw[br]at e;split at e
  ·rename_i h;subst h;split at e
   ·rename_i hl;cases e;exact⟨_,aC (by rw[← s.len];exact hl),rfl⟩
   ·cases e
  ·rename_i h;obtain⟨v,v1,v2⟩:=s.is j b e;exact⟨v,by rw[aA h];exact v1,v2⟩
 ·obtain⟨n1,e1⟩:=own j d1 h1;obtain⟨n2,e2⟩:=own k d2 h2;rw[aA n1]at h3;rw[aA n2]at h4;exact s.apart j k d1 d2 c e1 e2 h3 h4
theorem aP1{as:List eW}{ρ:Rho}{n:Nat}(h:okR n ρ=true)(l:as.length=n)(a:eW)(i:Nat):sub (as++[a]) (ρ.set i (some (.opq n)))=(sub as ρ).set i (some (.opq a)):=by
 subst l;have:=bg0 h [a];unfold sub at this ⊢;rw[List.map_set,this]
 congr 1
 show some (B.opq _)=_;rw[bU,aq (aj _),aW];rfl
theorem aN8{as:List eW}{q:Fs}(l:as.length=q.length)(a:eW)(o:Fo):(as++[a]).zip (q++[o])=as.zip q++[(a,o)]:=by rw[List.zip_append l];rfl
def UN(X:Cx)(C:CT)(e:Expr)(g:Rho->Option Fo):Prop:=∀ρ q o,g (era ρ)=some o->∀b (as:List eW),as.length=q.length->PE X e (λσ H Q=>∃Hf,OSt X.K C b (sub as ρ) (as.zip q) σ H Hf/\∀a c H' Hf',Grow H Hf H' Hf'->FoAt X.K C H' Hf' a c o->(∀y∈cells a c,H y=none)->Q (.ref a) H')
def bN3(X:Cx)(zb:Bool)(C:CT)(kd:Bool)(x:Str)(n:Nat)(F:DF):Prop:=∃k f fd ps,Ps X zb/\FnOk X.prog X.w X.K X.mg X.base (CXb X.K X.prog X.w zb) k f fd ps (spD X.K C (n+1) F)/\Room (k+1) X.A/\Mk X.K (C kd) f/\E8 X.K fd ps []/\X.mg x=some (.ref (C kd))
section
variable {X:Cx}{C:CT}
def ag2(kd:Bool)(F:DF)(g:Rho->Option (List D)):Rho->Option Fo:=λρ=>(g ρ).bind λds=>(F ⟨kd,[]⟩ (none::ds.map some)).bind λr=>match r.1 with
 | .none=>some r.2
 | _=>none
theorem bA5{e:Expr}{es:List Expr}(M:bN3 X zb C kd x n F)(hg:Gl X x)(ha:JA X (e::es) g)(hn:(e::es).length=n)(hdb:(x==("__debug__" : Str))=false)(he:dO (e::es) X.env=(false,eval e X.env)::dO es X.env)(hpl:(backTo pos (dO es X.env)).any (·.1)=false):
  UN X C (.Call (.Name x p) (e::es) [] pos) (ag2 kd F g):=λρ q o w b as l=>by
 obtain⟨ds,h1,w⟩:=ae.mp w;obtain⟨⟨r,o'⟩,h2,w⟩:=ae.mp w;have:r=.none/\o'=o:=by cases r<;>cases w;exact⟨rfl,rfl⟩
 obtain⟨rfl,rfl⟩:=this;obtain⟨k,f,fd,ps,hq,Fk,hr,Mk,hb,hm⟩:=M;refine A5 (bG1 Mk Fk hr hg hm hb .nil hq (λpos pins s σ H Q I t=>ha.run (era ρ) ds h1 pos pins s σ H Q I t) hdb he hpl) λσ H Q ⟨Hf,st,kk⟩=>⟨_,Hf,st.same,by rw[← K2 as ρ];exact st.sl.era,λvs H1 Hf1 g0 rp y dx y1 y2 y3=>?_⟩
 have g1:Grow H1 Hf1 (upd H1 dx (.own y)) Hf1:=Grow.made g0.sub y2;have g2:Grow (upd H1 dx (.own y)) Hf1 (upd (upd H1 dx (.own y)) y (.ins (C kd) dx [])) Hf1:=Grow.made g1.sub (by rw[A9 y3.symm];exact y1);have g:=g1.trans g2;have fr1:=g0.sub.free y1;refine⟨by rw[aw,aI,rp.length,ha.len _ ds h1,hn],y,Hf1,⟨dx,[],[]⟩,⟨kd,[]⟩,none::ds.map some,.none,o',g.sub,⟨A7,⟨rfl,rfl⟩,λz hz=>by rw[aN.mp hz];exact fr1⟩,⟨_,_,rfl,rfl,by rw[aw];exact av6 rp⟩,h2,λv H' Hf' c' ch fo cl rv=>?_⟩;cases rv;have hy:H y=none:=g0.big.free y1;refine⟨rfl,kk y c' H' Hf' ⟨λz u e=>?_,ch.sub,g0.ext.trans ch.ext,λz hz=>?_⟩ fo λz hz=>?_⟩
 ·have e1:=g0.big z u e;exact ch.big z u (by simp;exact B9 e hy) (g.big z u e1)
 ·rcases ch.new z hz with w|w
  ·exact g0.new z w
  ·exact .inr (g0.big.free (O8 (O8 w).2).2)
 ·rcases cl z hz with w|w
  ·rw[aN.mp w];exact hy
  ·exact g0.big.free (O8 (O8 w).2).2
theorem be4(M:bN3 X zb C kd x 0 F)(hg:Gl X x)(hdb:(x==("__debug__" : Str))=false):UN X C (.Call (.Name x p) [] [] pos) (ag2 kd F A4):=λρ q o w b as l=>by
 obtain⟨ds,h1,w⟩:=ae.mp w;cases h1;obtain⟨⟨r,o'⟩,h2,w⟩:=ae.mp w;have:r=.none/\o'=o:=by cases r<;>cases w;exact⟨rfl,rfl⟩
 obtain⟨rfl,rfl⟩:=this;obtain⟨k,f,fd,ps,hq,Fk,hr,Mk,hb,hm⟩:=M;refine A5 (bj4 Mk Fk hr hg hm hb .nil hq hdb) λσ H Q ⟨Hf,st,kk⟩=>λy dx y1 y2 y3=>?_
 have g1:Grow H Hf (upd H dx (.own y)) Hf:=Grow.made st.same y2;have g2:Grow (upd H dx (.own y)) Hf (upd (upd H dx (.own y)) y (.ins (C kd) dx [])) Hf:=Grow.made g1.sub (by rw[A9 y3.symm];exact y1);have g:=g1.trans g2;have fr1:=st.same.free y1;refine⟨rfl,y,Hf,⟨dx,[],[]⟩,⟨kd,[]⟩,[none],.none,o',g.sub,⟨A7,⟨rfl,rfl⟩,λz hz=>by rw[aN.mp hz];exact fr1⟩,⟨_,_,rfl,rfl,rfl⟩,h2,λv H' Hf' c' ch fo cl rv=>?_⟩;cases rv;refine⟨rfl,kk y c' H' Hf' ⟨λz u e=>ch.big z u (by simp;exact B9 e y1) (g.big z u e),ch.sub,ch.ext,λz hz=>?_⟩ fo λz hz=>?_⟩
 ·rcases ch.new z hz with w|w
  ·exact .inl w
  ·exact .inr (O8 (O8 w).2).2
 ·rcases cl z hz with w|w
  ·rw[aN.mp w];exact y1
  ·exact(O8 (O8 w).2).2
def as7(i:Nat)(g:Rho->Option Fo):UX:=λρ q=>(g (era ρ)).map λo=>.nx (ρ.set i (some (.opq q.length))) (q++[o])
theorem aS0{ρ:Rho}{q:Fs}(h:okR q.length ρ=true)(i:Nat)(o:Fo):okR (q++[o]).length (ρ.set i (some (.opq q.length)))=true:=ah6 (bl2 h (by simp)) (by intro j z;cases z;simp)
theorem bU3(i:Nat)(hN:X.N.Nodup)(h:UN X C e g)(hi:X.N[i]? = some x)(hx:Loc X.env.scope x)(hs:swapsWith e (some (.Name x pos')) pos.line X.env=pure false)(hf:X.fn x=true\/X.env.scope.names.lookup x=some .local):US X C (.Assign [.Name x pos'] e pos) (as7 i g):=λρ q fl w no=>by
 obtain⟨o,w1,w2⟩:=af.mp w;cases w2;refine⟨aS0 no i o,λb as l=>D0 (m7 hN hi hx (h ρ q o w1 b as l) hs hf) λEn σ H ⟨Hf,st,k⟩=>⟨Hf,st,λa c H' Hf' g fo fr=>?_⟩⟩;have st2:=st.add g fo fr;exact k [a] _ H' Hf' (by simp[l]) (by rw[aP1 no l,aN8 l];exact st2.slots st2.sl.setO) g.ext
end
end G
namespace G
open PySem PySem.Spec PyProof.Rows L2
def aI7(g:UX)(n:Nat):List D->Option D:=λds=>(g (G9 n ds) []).bind λfl=>match fl with
 | .rt d _=>some d
 | .nx _ _=>some .none
 | _=>none
theorem ap2(n m:Nat)(ds:List D):okR m (G9 n ds)=true:=by
 unfold okR G9;rw[aO];intro x hx;rcases aQ.mp hx with h|h
 ·obtain⟨d,_,rfl⟩:=aE.mp h;rfl
 ·rw[(cY.mp h).2]
theorem aI1(n:Nat)(ds:List D):sub [] (G9 n ds)=G9 n ds:=by
 unfold sub G9;rw[bN,aV,List.map_replicate];rfl
section
variable {P:Program}{w:World}{K:PySem.W.Frag}{mg:Str->Option Value}{base:Heap}{x qual:Str}{st:Stmt}{f:Addr}{fd:FuncData}{N ps:List Str}{k:Nat}{g:UX}{C:CT}
theorem aP2{H Hf:Hp}{ds:List D}{vs:List V}(ss:B0 Hf H)(rp:Reps K Hf ds vs):OSt K C ⟨[],H,Hf⟩ (sub [] (G9 N.length ds)) (([]:List eW).zip ([]:Fs)) (start N vs) H Hf :=
 ⟨Chg.of (Grow.refl ss),[],.nil,by simp,by rw[aI1];exact ae1 rp⟩
theorem aE9(F:Fun K x qual st f fd)(S:FnScope N ps (A2 st))
  (hb:∀(cdv:eU) (A:dW) (outer:List Env) (s:eV) (H:Hp) (E:XK),Room k (A.deeper (envOfC qual (A2 st) s.heap.objs.size f cdv))->USs (cxY bz P w K mg base N qual (A2 st) f cdv A outer s H E) C (C8 st) g) :
  FnOk P w K mg base (CXb K P w bz) (k+1) f fd ps (spF K ps.length (aI7 g N.length)):=by
 refine v8 F S (λvs H Q E h=>h.1) λcdv A outer s H vs Q E hr hsp=>?_
 obtain⟨hlen,Hf,ds,d,ss,rp,e,kk⟩:=hsp;obtain⟨fl,e1,e2⟩:=ae.mp e;obtain⟨_,h⟩:=hb cdv A outer s H E hr _ [] fl e1 (ap2 _ _ _);refine⟨_,h ⟨[],H,Hf⟩ [] rfl,Hf,aP2 ss rp,?_⟩;cases fl with
 | rt d' q=>cases e2;exact λex ρ σ v H' Hf' l s' r=>kk v H' Hf' s'.gr.grow r
 | nx ρ q=>cases e2;exact λex σ' H' Hf' l s' _=>kk _ H' Hf' s'.gr.grow rfl
 | ro j q=>cases e2
end
end G
namespace G
open PySem PySem.Spec PyProof.Rows L2
section
variable {K:PySem.W.Frag}{C:CT}{b:Bs}{ρ:Rho}{os:List (Addr×Fo)}{σ:L2.St}{H Hf H' Hf' H0:Hp}
theorem Slots.app{i:Nat}{p:eW}{ds:List D}{vs:List V}{d:D}{w:V}(s:Slots K H0 ρ σ H Hf)(eo:ρ[i]? = some (some (.own ds)))(h1:σ[i]? = some (some (.ref p)))(h2:H p=some (.lst vs))(h3:Hf p=none)(h4:H0 p=none)(h5:Reps K Hf ds vs)(r:Rep K Hf d w):
  Slots K H0 (ρ.set i (some (.own (ds++[d])))) σ (upd H p (.lst (vs++[w]))) Hf:=by
 refine⟨by simpa using s.len,λj bb z=>?_,λj k ds1 es c q1 q2 q3 q4=>?_⟩
 ·by_cases qj:i=j
  ·subst qj;have hi:i < ρ.length:=(ao.mp eo).1;rw[aC hi]at z;cases z;exact⟨_,h1,p,vs++[w],rfl,A7,h3,h4,h5.append ⟨w,[],rfl,r,rfl⟩⟩
  ·rw[aA qj]at z;obtain⟨u,z1,z2⟩:=s.is j bb z;refine⟨u,z1,?_⟩;cases bb with
   | val d=>exact z2
   | exc C=>exact z2
   | opq _=>exact z2
   | own dd =>
    obtain⟨a',vs',y1,y2,y3,y4,y5⟩:=z2
    have ne:a'≠p:=λzz=>by
     subst zz y1;exact qj (s.apart i j ds dd a' eo z h1 z1)
    exact⟨a',vs',y1,by rw[A9 ne];exact y2,y3,y4,y5⟩
 ·have old:∀n:Nat,(∃dd:List D,(ρ.set i (some (B.own (ds++[d]))))[n]? = some (some (B.own dd)))->∃dd:List D,ρ[n]? = some (some (B.own dd)):=λn ⟨dd,z⟩=>by
   by_cases qj:i=n
   ·subst qj;exact⟨ds,eo⟩
   ·rw[aA qj]at z;exact⟨_,z⟩
  obtain⟨d1,q1'⟩:=old j ⟨_,q1⟩;obtain⟨d2,q2'⟩:=old k ⟨_,q2⟩;exact s.apart j k d1 d2 c q1' q2' q3 q4
theorem OSt.app{i:Nat}{ds:List D}(s:OSt K C b ρ os σ H Hf)(eo:ρ[i]? = some (some (.own ds))):∃p vs,σ[i]? = some (some (.ref p))/\H p=some (.lst vs)/\Reps K Hf ds vs/\∀w d,Rep K Hf d w->OSt K C b (ρ.set i (some (.own (ds++[d])))) os σ (upd H p (.lst (vs++[w]))) Hf:=by
 obtain⟨R,r1,r2,r3⟩:=s.ob;obtain⟨v,h1,p,vs,rfl,h2,h3,h4,h5⟩:=r3.is i _ eo;refine⟨p,vs,h1,h2,h5,λw d r=>?_⟩;obtain⟨n1,n2⟩:=P5 h4;have g:Chg [p] H Hf (upd H p (.lst (vs++[w]))) Hf:=Chg.wr s.same (by simp) h3;exact⟨s.gr.trans g λx hx=>.inr (by rw[aN.mp hx];exact n2),R,r1.chg g λx hx z=>n1 (by rw[← aN.mp z];exact hx),r2,r3.app eo h1 h2 h3 h4 h5 r⟩
theorem FoAt.frz(h:FoAt K C H Hf a c o)(e:B0 Hf Hf')(n:∀x∈cells a c,Hf' x≠none->Hf x≠none):FoAt K C H Hf' a c o :=
 ⟨h.ins,h.fl.keep e λ_ _=>rfl,λx hx=>aR λz=>n x hx z (h.fr x hx)⟩
theorem Objs.frz(h:Objs K C H Hf os R)(e:B0 Hf Hf')(n:∀x∈R,Hf' x≠none->Hf x≠none):Objs K C H Hf' os R:=by
 induction h with
 | nil=>exact .nil
 | cons f d t ih=>exact .cons (f.frz e λx hx=>n x (aX _ hx)) d (ih λx hx=>n x (ay _ hx))
theorem OSt.frz(s:OSt K C b ρ os σ H Hf)(i:Nat):∃Hf',B0 Hf Hf'/\OSt K C b (frz i ρ) os σ H Hf':=by
 obtain⟨R,r1,r2,r3⟩:=s.ob
 let H1:Hp:=λx=>if(hid b R x).isNone then none else H x
 have h1:∀x,hid b R x=none->H1 x=none:=λx h=>by show(if _ then _ else _)=_;rw[h];rfl
 have h2:∀x,H1 x=none->H x≠none->hid b R x=none:=λx h hx=>by
  cases q:hid b R x with
  | none=>rfl
  | some y=>exact(hx (by rw[← h];show _=(if _ then _ else _);rw[q];rfl)).elim
 have g1:Grow H1 Hf H Hf:=⟨λx o e=>by
  cases q:hid b R x with
  | none=>rw[h1 x q]at e;cases e
  | some y=>rw[← e];show _=(if _ then _ else _);rw[q];rfl,s.same,B0.refl _,λ_ h=>.inl h⟩
 obtain⟨Hf',e,a⟩:=bt6 i (⟨g1,r3.chg (S:=[]) (Chg.of (Grow.refl s.same)) (by simp) λx h _=>h1 x h⟩:At K H1 Hf ρ σ H Hf);have nR:∀x∈R,Hf' x≠none->Hf x≠none:=λx hx z=>(a.gr.new x z).elim id λy=>((P5 (h2 x y (r1.there x hx))).1 hx).elim
 refine⟨Hf',e,⟨s.gr.big,s.gr.kp,a.gr.sub,s.gr.ext.trans e,λx z=>(a.gr.new x z).elim (s.gr.new x) λy=>.inr ?_⟩,R,r1.frz e nR,r2,a.sl.chg (S:=[]) (Chg.of (Grow.refl a.gr.sub)) (by simp) h2⟩;by_cases hx:H x=none
 ·exact aR λw=>s.gr.kp x w hx
 ·exact(P5 (h2 x y hx)).2
end
theorem aP0(as:List eW)(ρ:Rho)(i:Nat)(ds:List D):sub as (ρ.set i (some (.own ds)))=(sub as ρ).set i (some (.own ds)):=by unfold sub;rw[List.map_set];rfl
theorem bC5(as:List eW)(ρ:Rho)(i:Nat):sub as (frz i ρ)=frz i (sub as ρ):=by
 have e:∀ds,(sub as ρ)[i]? = some (some (B.own ds))↔ρ[i]? = some (some (.own ds)):=λds=>by
  unfold sub;rw[aF];cases q:ρ[i]? with
  | none=>simp
  | some x =>
   cases x with
   | none=>simp[bC6]
   | some x=>cases x<;>simp[bC6]
 unfold frz;split
 ·rename_i ds h;rw[(e ds).mpr h,t6]
 ·rename_i h;split
  ·rename_i ds h2;exact(h ds ((e ds).mp h2)).elim
  ·rfl
theorem bH5{ρ:Rho}{n i:Nat}(h:okR n ρ=true):okR n (frz i ρ)=true:=by
 unfold frz;split
 ·exact u6 h
 ·exact h
section
variable {X:Cx}{C:CT}{st:Stmt}{sts:List Stmt}
abbrev UL:=Rho->Fs->Option (List D×Fs)
def UAs(X:Cx)(C:CT)(es:List Expr)(g:UL):Prop:=∀ρ q ds q',g ρ q=some (ds,q')->okR q.length ρ=true->q'.length=q.length/\ds.length=es.length/\∀b (as:List eW),as.length=q.length ->
 PA X es (λσ H Q=>∃Hf,OSt X.K C b (sub as ρ) (as.zip q) σ H Hf/\∀vs H' Hf',OSt X.K C b (sub as ρ) (as.zip q') σ H' Hf'->B0 Hf Hf'->Reps X.K Hf' ds vs->Q vs H')
def ulN:UL:=λ_ q=>some ([],q)
def ulC(f:UD)(g:UL):UL:=λρ q=>(f ρ q).bind λx=>(g ρ x.2).map λy=>(x.1::y.1,y.2)
theorem bV3:UAs X C [] ulN:=λρ q ds q' w _=>by
 cases w;exact⟨rfl,rfl,λb as l pos pins s σ H Q I ⟨Hf,st,k⟩=>D3 pos pins s σ H Q I (k [] H Hf st (B0.refl _) rfl)⟩
theorem bA7(h:UE X C e f)(r:UAs X C es g)(hs:dO (e::es) X.env=(false,eval e X.env)::dO es X.env):UAs X C (e::es) (ulC f g):=λρ q ds q' w no=>by
 obtain⟨⟨x,q1⟩,w1,w⟩:=ae.mp w;obtain⟨⟨y,q2⟩,w2,w3⟩:=af.mp w;cases w3;obtain⟨l1,a1⟩:=h ρ q x q1 w1 no;obtain⟨l2,n2,a2⟩:=r ρ q1 y q2 w2 (by rw[l1];exact no);refine⟨l2.trans l1,by simp[n2],λb as l pos pins s σ H Q I ⟨Hf,st,k⟩=>?_⟩;exact B6 (a1 b as l) (a2 b as (l.trans l1.symm)) hs pos pins s σ H Q I ⟨Hf,st,λv H1 Hf1 s1 e1 r1=>⟨Hf1,s1,λvs H2 Hf2 s2 e2 r2=>k (v::vs) H2 Hf2 s2 (e1.trans e2) ⟨v,vs,rfl,r1.mono e2,r2⟩⟩⟩
def bB5(f:UL):UD:=λρ q=>(f ρ q).map λx=>(.tuple x.1,x.2)
theorem bV4(h:UAs X C es f)(hn:es.length<=1000):UE X C (.Tuple es k pos) (bB5 f):=λρ q d q' w no=>by
 obtain⟨⟨ds,q1⟩,w1,w2⟩:=af.mp w;cases w2;obtain⟨l1,n1,a1⟩:=h ρ q ds q1 w1 no;refine⟨l1,λb as l=>A5 (aJ3 (a1 b as l)) λσ H Q ⟨Hf,st,k⟩=>⟨Hf,st,λvs H1 Hf1 s1 e1 r=>⟨?_,λp hp=>?_⟩⟩⟩
 ·rw[r.length,n1];exact bG (R7 hn)
 ·have g:=Grow.laid (o:=.tup vs) s1.same hp;exact k _ _ _ (s1.grow g) (e1.trans g.ext) ⟨p,vs,rfl,SqT.of A7,r.mono g.ext⟩
def bB7(i:Nat)(f:UD):UX:=λρ q=>match ρ[i]? with
 | some (some (.own ds))=>if ds.length < 16777216 then(f ρ q).map λx=>.nx (ρ.set i (some (.own (ds++[x.1])))) x.2 else none
 | _=>none
theorem bU6(i:Nat)(h:UE X C e f)(hN:X.N[i]? = some x)(hv:Vis X.env.scope x)(hd:(x==("__debug__" : Str))=false)(hcd:(x==("__classdict__" : Str))=false)
  (hfew:((backTo cpos (dO [e] X.env)).all (λx=>!x.1)&&(backToKw cpos (keywordEach [] X.env)).all (λx=>x.1.isSome)
   && decide (([e]:List Expr).length+([]:List eh).length+(if([]:List eh).isEmpty then 0 else 1) < 30))=true)
  (hline:(apos.endLine==cpos.line)=true) (hs:dO [e] X.env=[(false,eval e X.env)]) (hsw:swapsWith (.Call (.Attribute (.Name x p) "append" apos) [e] [] cpos) none pos.line X.env=pure false) (hbase:eB (.Name x p) "append" X.env (eval (.Name x p) X.env)=eval (.Name x p) X.env:=by rfl) :
  US X C (.Expr (.Call (.Attribute (.Name x p) "append" apos) [e] [] cpos) pos) (bB7 i f):=λρ q fl w no=>by
 unfold bB7 at w;split at w
 ·rename_i ds eo;split at w
  ·rename_i hz;obtain⟨⟨d,q1⟩,w1,w2⟩:=af.mp w;cases w2;obtain⟨l1,a1⟩:=h ρ q d q1 w1 no;refine⟨ah6 (by rw[l1];exact no) (by intro _ z;cases z),λb as l=>?_⟩;have eo':(sub as ρ)[i]? = some (some (.own ds)):=by unfold sub;rw[aF,eo];rfl
   refine D0 (u4 (ak5 PySem.F.plainAttrs_list PySem.F.slot_list_append PySem.F.type_list_append j6 (J9 hN hv hd hcd) (B6 (a1 b as l) D3 hs) hbase hfew hline hs) hsw) λEn σ H ⟨Hf,st,k⟩=>?_
   obtain⟨p0,vs0,g1,g2,_,_⟩:=st.app eo';refine⟨_,g1,.inl ⟨rfl,vs0,SqL.of g2⟩,Hf,st,λv H1 Hf1 s1 e1 r1=>?_⟩;obtain⟨p1,vs1,g3,g4,g5,g6⟩:=s1.app eo';rw[g1]at g3;cases g3;refine⟨p0,vs1,v,rfl,rfl,g4,by rw[g5.length,dQ];exact hz,x0 k (l.trans l1.symm) _ _ Hf1 (by rw[aP0];exact g6 v d r1) e1⟩
  ·cases w
 ·cases w
def bW1(i:Nat)(g:UX):UX:=λρ q=>g (frz i ρ) q
theorem bU4(i:Nat)(h:US X C st g):US X C st (bW1 i g):=λρ q fl w no=>by
 obtain⟨o1,a1⟩:=h (frz i ρ) q fl w (bH5 no);refine⟨o1,λb as l=>D0 (a1 b as l) λEn σ H ⟨Hf,st,k⟩=>?_⟩;obtain⟨Hf',e,s'⟩:=st.frz i;exact⟨Hf',by rw[bC5];exact s',UF.mono (fl:=fl) k e⟩
end
end G
namespace G
open PySem PySem.Spec PyProof.Rows L2
def cm8(X:Cx)(zb:Bool)(C:CT)(x:Str)(F:DF)(n:Nat):Prop:=∃k f fd ps,Ps X zb/\FnOk X.prog X.w X.K X.mg X.base (CXb X.K X.prog X.w zb) k f fd ps (spD X.K C n F)/\Room k X.A/\X.mg x=some (.ref f)/\aD X.K (.ref f)=true/\E8 X.K fd ps []
section
variable {X:Cx}{C:CT}{K:PySem.W.Frag}{Hf Hf':Hp}{a:Addr}
theorem Mxs.length:∀{ms:MD}{vs:List V},Mxs K Hf a ms vs->vs.length=ms.length
 | [],_,h=>by cases h;rfl
 | m::ms,_,⟨v,r,e,h1,h2⟩=>by subst e;simp[h2.length]
theorem Mxs.get:∀{ms:MD}{vs:List V},Mxs K Hf a ms vs->∀{i:Nat}{m:Option D},ms[i]? = some m->∃v,vs[i]? = some v/\MxV K Hf a m v
 | [],_,h,i,m,e=>by simp at e
 | m::ms,_,⟨v,r,e,h1,h2⟩,i,m',e'=>by
  subst e;cases i with
  | zero=>simp at e';subst e';exact⟨v,rfl,h1⟩
  | succ i=>exact h2.get (i:=i) (by simpa using e')
structure JM (X:Cx) (i:Nat) (es:List Expr) (g:Rho->Option MD):Prop where
 len:∀ρ ms,g ρ=some ms->ms.length=es.length
 run:∀ρ ms,g ρ=some ms->∀a ρ',ρ'[i]? = some (some (.opq a))->(∀{H0 H Hf:Hp}{σ:L2.St},Slots X.K H0 ρ' σ H Hf->Slots X.K H0 ρ σ H Hf) ->
  PA X es (λσ H Q=>∃H0 Hf,B0 Hf H/\Slots X.K H0 ρ' σ H Hf/\∀vs H' Hf',Grow H Hf H' Hf'->Mxs X.K Hf' a ms vs->Q vs H')
def mN:Rho->Option MD:=λ_=>some []
def mC(f:DE)(g:Rho->Option MD):Rho->Option MD:=λρ=>(f ρ).bind λd=>(g ρ).map λms=>some d::ms
def mO(g:Rho->Option MD):Rho->Option MD:=λρ=>(g ρ).map λms=>none::ms
theorem ci0:JM X i [] mN:=⟨λρ ms h=>by cases h;rfl,λρ ms h a ρ' _ _ pos pins s σ H Q I ⟨H0,Hf,ss,sl,k⟩=>by
 cases h
 exact D3 pos pins s σ H Q I (k [] H Hf (Grow.refl ss) rfl)⟩
theorem aT4(h:JE X e f)(r:JM X i es g)(hs:dO (e::es) X.env=(false,eval e X.env)::dO es X.env):JM X i (e::es) (mC f g):=by
 refine⟨λρ ms q=>?_,λρ ms q a ρ' sa sb=>?_⟩
 ·obtain⟨d,h1,h2⟩:=ae.mp q;obtain⟨es',h3,h4⟩:=af.mp h2;subst h4;simp[r.len ρ es' h3]
 ·obtain⟨d,h1,h2⟩:=ae.mp q;obtain⟨es',h3,h4⟩:=af.mp h2;subst h4;intro pos pins s σ H Q I ⟨H0,Hf,ss,sl,k⟩;refine B6 (h ρ d h1) (r.run ρ es' h3 a ρ' sa sb) hs pos pins s σ H Q I ⟨H0,Hf,ss,sb sl,λv H1 Hf1 g1 r1=>⟨H0,Hf1,g1.sub,sl.grow g1,λvs H2 Hf2 g2 r2=>?_⟩⟩;exact k (v::vs) H2 Hf2 (g1.trans g2) ⟨v,vs,rfl,Rep.mono g2.ext r1,r2⟩
theorem ch9(r:JM X i es g)(hn:X.N[i]? = some x)(hv:Vis X.env.scope x)(h1:(x==("__debug__" : Str))=false)(h2:(x==("__classdict__" : Str))=false)(hs:dO (.Name x p::es) X.env=(false,eval (.Name x p) X.env)::dO es X.env):JM X i (.Name x p::es) (mO g):=by
 refine⟨λρ ms q=>?_,λρ ms q a ρ' sa sb=>?_⟩
 ·obtain⟨es',h3,h4⟩:=af.mp q;subst h4;simp[r.len ρ es' h3]
 ·obtain⟨es',h3,h4⟩:=af.mp q;subst h4;intro pos pins s σ H Q I ⟨H0,Hf,ss,sl,k⟩;obtain⟨v,w1,w2⟩:=sl.is i _ sa;cases w2;exact B6 (J9 hn hv h1 h2) (r.run ρ es' h3 a ρ' sa sb) hs pos pins s σ H Q I ⟨_,w1,H0,Hf,ss,sl,λvs H2 Hf2 g2 r2=>k (.ref a::vs) H2 Hf2 g2 ⟨_,vs,rfl,rfl,r2⟩⟩
def uD(i:Nat)(F:DF)(g:Rho->Option MD):UD:=λρ q=>(M4 i ρ q).bind λp=>(g (era ρ)).bind λms=>(F p.2 ms).map λr=>(r.1,q.set p.1 r.2)
theorem cp1{e:Expr}{es:List Expr}(i:Nat)(N:cm8 X zb C y F n)(hg:Gl X y)(hdb:(y==("__debug__" : Str))=false)(hn:X.N[i]? = some x)(hv:Vis X.env.scope x)(h1:(x==("__debug__" : Str))=false)(h2:(x==("__classdict__" : Str))=false)(ha:JM X i (e::es) g)(hz:(e::es).length=n)
  (he:dO (e::es) X.env=(false,eval e X.env)::dO es X.env) (hpl:(backTo pos (dO es X.env)).any (·.1)=false):UE X C (.Call (.Name y p) (e::es) [] pos) (uD i F g):=λρ q d q' w no=>by
 obtain⟨⟨j,o⟩,w1,w⟩:=ae.mp w;obtain⟨ms,w2,w⟩:=ae.mp w;obtain⟨⟨r,o'⟩,w3,w4⟩:=af.mp w;cases w4;refine⟨by simp,λb as l=>?_⟩;obtain⟨a,ea,A⟩:=G3 w1 (O1 no) l hn hv h1 h2;rw[K0 ea];obtain⟨k,f,fd,ps,hq,Fk,hr,hm,hk,hb⟩:=N;refine A5 (i9 Fk hr hg hm hk hb .nil hq (ha.run (era ρ) ms w2 a (sub as ρ) A.s λs=>by rw[← K2 as ρ];exact s.era) hdb he hpl) λσ H Q ⟨Hf,st,kk⟩=>?_
 obtain⟨c,f1,f3⟩:=st.focus A.w A.o;refine⟨_,Hf,st.same,st.sl,λvs H1 Hf1 g1 r1=>⟨?_,a,Hf1,c,o,ms,r,o',g1.sub,f1.grow g1,by rw[aw];exact r1,w3,λv H2 Hf2 c' g2 f2 n2 rv=>kk v H2 Hf2 (f3 ((Chg.of g1).trans g2 λ_ h=>.inl h) f2 λy hy=>(n2 y hy).imp id λz=>aR λw=>(Chg.of (S:=[]) g1).kp y w z) (g1.ext.trans g2.ext) rv⟩⟩;rw[aw,r1.length,ha.len _ ms w2,hz]
end
def cx7:Option D->Option B
 | some d=>‹d›
 | none=>some (.opq 0)
def O6(n:Nat)(ms:MD):Rho:=ms.map cx7++au (n - ms.length) none
def K9(g:UX)(n:Nat):DF:=λo ms=>(g (O6 n ms) [o]).bind λfl=>match fl with
 | .rt d q=>(q[0]?).map λo'=>(d,o')
 | .nx _ q=>(q[0]?).map λo'=>(.none,o')
 | _=>none
theorem aI0(n:Nat)(ms:MD):okR 1 (O6 n ms)=true:=by
 unfold okR O6;rw[aO];intro x hx;rcases aQ.mp hx with h|h
 ·obtain⟨d,_,rfl⟩:=aE.mp h;cases d<;>rfl
 ·rw[(cY.mp h).2]
theorem an4{K:ag}{H0 H Hf:Hp}{N:List Str}{ms:MD}{vs:List V}(r:Mxs K Hf a ms vs):Slots K H0 (sub [a] (O6 N.length ms)) (L2.start N vs) H Hf:=by
 have hl:=r.length
 have noown:∀(i:Nat) (b:B),(sub [a] (O6 N.length ms))[i]? = some (some b)->∃m,ms[i]? = some m/\some b=bC6 [a] (cx7 m):=λi b h=>by
  unfold O6 sub at h;rw[bN]at h;rcases bD i ms.length with q|q
  ·rw[az (by simpa using q),aF,aF]at h;rw[ba q]at h ⊢;simp only[xms,bg.injEq]at h;exact⟨ms[i],rfl,h.symm⟩
  ·rw[aq (by simpa using q),aF,aY]at h;split at h<;>cases h
 refine⟨by simp[O6,L2.start,hl],λi b e=>?_,λi j d1 d2 a e1 _ _ _=>?_⟩
 ·obtain⟨m,h1,h2⟩:=noown i b e;obtain⟨v,h3,h4⟩:=r.get h1;have hi:i < vs.length:=(ao.mp h3).1;refine⟨v,?_,?_⟩
  ·unfold L2.start;rw[az (by simpa using hi),aF,h3];rfl
  ·cases m with
   | none=>cases h2;exact h4
   | some d=>cases h2;exact h4
 ·obtain⟨m,_,h2⟩:=noown i _ e1;cases m<;>cases h2
section
variable {P:Program}{w:World}{K:PySem.W.Frag}{mg:Str->Option Value}{base:Heap}{x qual:Str}{st:Stmt}{f:Addr}{fd:FuncData}{N ps:List Str}{k:Nat}{g:UX}{C:CT}
theorem bt9(F:Fun K x qual st f fd)(S:FnScope N ps (A2 st))
  (hb:∀(cdv:eU) (A:dW) (outer:List Env) (s:eV) (H:Hp) (E:XK),Room k (A.deeper (envOfC qual (A2 st) s.heap.objs.size f cdv))->USs (cxY bz P w K mg base N qual (A2 st) f cdv A outer s H E) C (C8 st) g) :
  FnOk P w K mg base (CXb K P w bz) (k+1) f fd ps (spD K C ps.length (K9 g N.length)):=by
 refine v8 F S (λvs H Q E h=>h.1) λcdv A outer s H vs Q E hr hsp=>?_
 obtain⟨hlen,a,Hf,c,o,ms,r,o',ss,fo,rp,e,kk⟩:=hsp;obtain⟨fl,e1,e2⟩:=ae.mp e;obtain⟨_,h⟩:=hb cdv A outer s H E hr _ [o] fl e1 (aI0 _ _)
 have fin:∀ex q ρ' σ' v H' Hf',q[0]? = some o'->OSt K C ⟨cells a c,H,Hf⟩ ρ' (([a]++ex).zip q) σ' H' Hf'->Rep K Hf' r v->Q v H':=λex q ρ' σ' v H' Hf' hq s' rv=>by
  obtain⟨R,r1,r2,_⟩:=s'.ob;obtain⟨c',f1,f2,_⟩:=r1.focus (j:=0) (a:=a) (o:=o') (bJ.mpr ⟨rfl,hq⟩);exact kk v H' Hf' c' s'.gr f1 (λx hx=>r2 x (f2 x hx)) rv
 refine⟨_,h ⟨cells a c,H,Hf⟩ [a] rfl,Hf,⟨Chg.of (Grow.refl ss),cells a c++[],.cons fo (by simp) .nil,λx hx=>.inl (by simpa using hx),an4 rp⟩,?_⟩;cases fl with
 | rt d' q =>
  obtain⟨o1,e3,e4⟩:=af.mp e2;cases e4;exact λex ρ σ v H' Hf' l s' r=>fin ex q ρ σ v H' Hf' e3 s' r
 | nx ρ q =>
  obtain⟨o1,e3,e4⟩:=af.mp e2;cases e4;exact λex σ' H' Hf' l s' _=>fin ex q _ σ' _ H' Hf' e3 s' rfl
 | ro j q=>cases e2
end
end G
namespace G
open PySem PySem.Spec PyProof.Rows L2
section
variable {X:Cx}{C:CT}
def UW(X:Cx)(C:CT)(op:BoolOp)(es:List Expr)(g:UB):Prop:=∀ρ q c q',g ρ q=some (c,q')->okR q.length ρ=true->q'.length=q.length/\∀b (as:List eW),as.length=q.length->∀pos,
 PW X (.BoolOp op es pos) (λσ H Q=>∃Hf,OSt X.K C b (sub as ρ) (as.zip q) σ H Hf/\∀H' Hf',OSt X.K C b (sub as ρ) (as.zip q') σ H' Hf'->B0 Hf Hf'->Q c H')
theorem bU0(h:UT X C e f):UW X C .Or [e] f:=λρ q c q' w no=>by
 obtain⟨l1,a1⟩:=h ρ q c q' w no;exact⟨l1,λb as l pos=>bi2 (a1 b as l)⟩
theorem cz0(h:UT X C e f)(r:UW X C .And (eb::es) g):UW X C .And (e::eb::es) (cz3 f g):=λρ q c q' w no=>by
 obtain⟨⟨x,q1⟩,w1,w⟩:=ae.mp w;obtain⟨l1,a1⟩:=h ρ q x q1 w1 no;cases x with
 | true =>
  obtain⟨l2,a2⟩:=r ρ q1 c q' w (by rw[l1];exact no);exact⟨l2.trans l1,λb as l pos=>a9 (au3 (a1 b as l) (a2 b as (l.trans l1.symm) pos)) λσ H Q ⟨Hf,st,k⟩=>⟨Hf,st,λH1 Hf1 s1 e1=>v5 ⟨Hf1,s1,λH2 Hf2 s2 e2=>k H2 Hf2 s2 (e1.trans e2)⟩⟩⟩
 | false =>
  cases w;exact⟨l1,λb as l pos=>a9 (au3 (tB':=λ_ _ _=>False) (a1 b as l) (λ_ _ _ _ _ _ _ h=>h.elim)) λσ H Q ⟨Hf,st,k⟩=>⟨Hf,st,λH1 Hf1 s1 e1=>ag3 (k H1 Hf1 s1 e1)⟩⟩
theorem co4(h:UT X C e f)(r:UW X C .Or (eb::es) g):UW X C .Or (e::eb::es) (uOr f g):=λρ q c q' w no=>by
 obtain⟨⟨x,q1⟩,w1,w⟩:=ae.mp w;obtain⟨l1,a1⟩:=h ρ q x q1 w1 no;cases x with
 | false =>
  obtain⟨l2,a2⟩:=r ρ q1 c q' w (by rw[l1];exact no);exact⟨l2.trans l1,λb as l pos=>a9 (aQ7 (a1 b as l) (a2 b as (l.trans l1.symm) pos)) λσ H Q ⟨Hf,st,k⟩=>⟨Hf,st,λH1 Hf1 s1 e1=>ag3 ⟨Hf1,s1,λH2 Hf2 s2 e2=>k H2 Hf2 s2 (e1.trans e2)⟩⟩⟩
 | true =>
  cases w;exact⟨l1,λb as l pos=>a9 (aQ7 (tB':=λ_ _ _=>False) (a1 b as l) (λ_ _ _ _ _ _ _ h=>h.elim)) λσ H Q ⟨Hf,st,k⟩=>⟨Hf,st,λH1 Hf1 s1 e1=>v5 (k H1 Hf1 s1 e1)⟩⟩
theorem UW.ut(h:UW X C op es g):UT X C (.BoolOp op es pos) g:=λρ q c q' w no=>by
 obtain⟨l1,a1⟩:=h ρ q c q' w no;exact⟨l1,λb as l=>(a1 b as l pos).pt⟩
end
end G
namespace G
open PySem PySem.Spec PyProof.Rows L2
section
variable {X:Cx}{C:CT}{fn:List Str}
def frD:Fv->Option D
 | .frz d=>some d
 | _=>none
theorem ck5(h:(o:Option Fv).bind frD=some d):o=some (.frz d):=by
 obtain⟨w,rfl,h⟩:=ae.mp h;cases w<;>cases h;rfl
def aj2(i:Nat)(kd:Bool)(f:Str):UD:=λρ q=>(M4 i ρ q).bind λp=>if p.2.k=kd then((p.2.l.lookup f).bind frD).map λd=>(d,q) else none
theorem bV8(i:Nat)(c:FoC X.K (C kd) fn)(hf:f∈fn)(hn:X.N[i]? = some x)(hv:Vis X.env.scope x)(h1:(x==("__debug__" : Str))=false)(h2:(x==("__classdict__" : Str))=false)(hb:eB (.Name x p) f X.env (eval (.Name x p) X.env)=eval (.Name x p) X.env):
  UE X C (.Attribute (.Name x p) f pos) (aj2 i kd f):=λρ q d q' w no=>by
 obtain⟨⟨j,o⟩,e1,w⟩:=ae.mp w;split at w
 ·rename_i hk;obtain⟨d',e2,e3⟩:=af.mp w;cases e3;refine⟨rfl,λb as l=>?_⟩;obtain⟨a,ea,A⟩:=G3 e1 (O1 no) l hn hv h1 h2;exact cc8 A c hk hf (ck5 e2) hb
 ·cases w
theorem bh1(h:M4 i ρ q=some (j,o))(l:q'.length=q.length):∃o',M4 i ρ q'=some (j,o'):=by
 unfold M4 at h ⊢;split at h
 ·rename_i j' e;obtain⟨o1,e1,e2⟩:=af.mp h;cases e2;have hj:j < q'.length:=by rw[l];exact(ao.mp e1).1
  exact⟨q'[j],by rw[ba hj];rfl⟩
 ·cases h
def ae0(i:Nat)(kd:Bool)(f:Str)(g:UD):UX:=λρ q=>(g ρ q).bind λx=>(M4 i ρ x.2).bind λp=>if p.2.k=kd/\p.2.l.length < 1000 then some (.nx ρ (x.2.set p.1 ⟨p.2.k,Q6 f (.frz x.1) p.2.l⟩)) else none
theorem bz6(i:Nat)(c:FoC X.K (C kd) fn)(hf:f∈fn)(hn:X.N[i]? = some x)(hv:Vis X.env.scope x)(h1:(x==("__debug__" : Str))=false)(h2:(x==("__classdict__" : Str))=false)(h:UE X C e g)(hs:swapsWith e (some (.Attribute (.Name x p) f pos')) pos.line X.env=pure false):
  US X C (.Assign [.Attribute (.Name x p) f pos'] e pos) (ae0 i kd f g):=λρ q fl w no=>by
 obtain⟨⟨d,q1⟩,w1,w⟩:=ae.mp w;obtain⟨⟨j,o1⟩,w2,w⟩:=ae.mp w;split at w
 ·rename_i hz;cases w;obtain⟨l1,a1⟩:=h ρ q d q1 w1 no;obtain⟨o0,w0⟩:=bh1 w2 l1.symm;refine⟨by show okR (q1.set j _).length ρ=true;rw[bF,l1];exact no,λb as l=>?_⟩;obtain⟨a,ea,A⟩:=G3 w0 (O1 no) l hn hv h1 h2;obtain⟨a',ea',A'⟩:=G3 w2 (O1 no) (l.trans l1.symm) hn hv h1 h2;rw[ea]at ea';cases ea';exact D0 (cb8 A c hf (a1 b as l) A'.o hz.1 hz.2 hs) λEn σ H ⟨Hf,st,k⟩=>⟨Hf,st,λσ' H' Hf' s' e'=>x0 k (by rw[bF];exact l.trans l1.symm) σ' H' Hf' (by rw[K0 ea];exact s') e'⟩
 ·cases w
def bf1(F:FnD)(g:UL):UD:=λρ q=>(g ρ q).bind λx=>(F x.1).map λd=>(d,x.2)
theorem be8{e:Expr}{es:List Expr}(hF:bc4 X zb y F n)(hu:X.A.units+64 < cLine)(hg:Gl X y)(hdb:(y==("__debug__" : Str))=false)(ha:UAs X C (e::es) g)(hz:(e::es).length=n)
  (he:dO (e::es) X.env=(false,eval e X.env)::dO es X.env) (hpl:(backTo pos (dO es X.env)).any (·.1)=false):UE X C (.Call (.Name y p) (e::es) [] pos) (bf1 F g):=λρ q d q' w no=>by
 obtain⟨⟨ds,q1⟩,w1,w⟩:=ae.mp w;obtain⟨d',w2,w3⟩:=af.mp w;cases w3;obtain⟨l1,n1,a1⟩:=ha ρ q ds q1 w1 no;refine⟨l1,λb as l=>?_⟩;rcases hF with⟨k,f,fd,ps,hq,hk,hr,hm,hkp,hb⟩|⟨hm,hb⟩
 ·refine A5 (i9 hk hr hg hm hkp hb .nil hq (a1 b as l) hdb he hpl) λσ H Q ⟨Hf,st,kk⟩=>⟨Hf,st,λvs H1 Hf1 s1 e1 r1=>⟨by rw[aw,r1.length,n1,hz],Hf1,ds,d,s1.same,by rw[aw];exact r1,w2,λv H2 Hf2 g2 r2=>kk v H2 Hf2 (s1.grow g2) (e1.trans g2.ext) r2⟩⟩
 ·obtain⟨_,hnn,nm,hv,hc⟩:=hb;exact A5 (J1 (hc X hu) hg hm hv (a1 b as l) hnn hdb he hpl) λσ H Q ⟨Hf,st,kk⟩=>⟨Hf,st,λvs H1 Hf1 s1 e1 r1=>⟨by rw[r1.length,n1,hz],Hf1,ds,d,s1.same,r1,w2,λv H2 Hf2 g2 r2=>kk v H2 Hf2 (s1.grow g2) (e1.trans g2.ext) r2⟩⟩
def cz2(f:UD)(g:DE):UD:=λρ q=>(f ρ q).bind λx=>(aB4 x.1).bind λs=>(g (era ρ)).bind λk=>match k with
 | .int k=>(atI s.2 k).map λd=>(d,x.2)
 | _=>none
theorem cz1(ha:UE X C a f)(hb:JE X b g)(hs:aa9 b):UE X C (.Subscript a b pos) (cz2 f g):=λρ q d q' w no=>by
 obtain⟨⟨x,q1⟩,w1,w⟩:=ae.mp w;obtain⟨⟨t,ds⟩,w2,w⟩:=ae.mp w;obtain⟨y,w3,w⟩:=ae.mp w;split at w
 ·obtain⟨d',w4,w5⟩:=af.mp w;cases w5;obtain⟨l1,a1⟩:=ha ρ q x q1 w1 no;refine⟨l1,λbb as l=>A5 (bj6 aK7 (a1 bb as l) (hb (era ρ) _ w3) hs) λσ H Q ⟨Hf,st,k⟩=>⟨Hf,st,λv H1 Hf1 s1 e1 r1=>⟨_,Hf1,s1.same,by rw[← K2 as ρ];exact s1.sl.era,λu H2 Hf2 g2 r2=>?_⟩⟩⟩;have s2:=s1.grow g2;have rx:=r1.mono g2.ext;have sq:=s2.same;cases x with
  | tuple xs =>
   cases w2;obtain⟨p,vs,e1',e2,e3⟩:=rx;obtain⟨w,q1,q2⟩:=t8 e3 w4;exact .inr (.inl ⟨p,vs,_,w,e1',r2,C6 sq e2,q1,k w H2 Hf2 s2 (e1.trans g2.ext) q2⟩)
  | list xs =>
   cases w2;obtain⟨p,vs,e1',e2,e3⟩:=rx;obtain⟨w,q1,q2⟩:=t8 e3 w4;exact .inl ⟨p,vs,_,w,e1',r2,C7 sq e2,q1,k w H2 Hf2 s2 (e1.trans g2.ext) q2⟩
  | _=>cases w2
 ·cases w
theorem bW0(o:OpD X (dZ op) h)(ha:UE X C ea f)(hb:UE X C eb g):UE X C (.BinOp ea op eb pos) (uB2 h f g):=λρ q d q' w no=>by
 obtain⟨⟨x,q1⟩,w1,w⟩:=ae.mp w;obtain⟨⟨y,q2⟩,w2,w⟩:=ae.mp w;obtain⟨z,w3,w4⟩:=af.mp w;cases w4;obtain⟨l1,a1⟩:=ha ρ q x q1 w1 no;obtain⟨l2,a2⟩:=hb ρ q1 y q2 w2 (by rw[l1];exact no);exact⟨l2.trans l1,λb as l=>A5 (bj3 (o x y _ w3) (a1 b as l) (a2 b as (l.trans l1.symm))) λσ H Q ⟨Hf,st,k⟩=>⟨Hf,st,λv H1 Hf1 s1 e1 r1=>⟨Hf1,s1,λu H2 Hf2 s2 e2 r2=>⟨Hf2,s2.same,r1.mono e2,r2,λz H3 Hf3 g r3=>k z H3 Hf3 (s2.grow g) ((e1.trans e2).trans g.ext) r3⟩⟩⟩⟩
end
end G
namespace G
open PySem PySem.Spec PyProof.Rows L2
section
variable {X:Cx}{C:CT}
def be9(f g:UD):UD:=λρ q=>(f ρ q).bind λx=>(aB4 x.1).bind λs=>(g ρ x.2).bind λk=>match k.1 with
 | .int n=>(atI s.2 n).map λd=>(d,k.2)
 | _=>none
theorem bV6(ha:UE X C a f)(hb:UE X C b g)(hs:aa9 b):UE X C (.Subscript a b pos) (be9 f g):=λρ q d q' w no=>by
 obtain⟨⟨x,q1⟩,w1,w⟩:=ae.mp w;obtain⟨⟨t,ds⟩,w2,w⟩:=ae.mp w;obtain⟨⟨y,q2⟩,w3,w⟩:=ae.mp w;dsimp only at w;split at w
 ·obtain⟨d',w4,w5⟩:=af.mp w;cases w5;obtain⟨l1,a1⟩:=ha ρ q x q1 w1 no;obtain⟨l2,a2⟩:=hb ρ q1 _ _ w3 (by rw[l1];exact no);refine⟨l2.trans l1,λbb as l=>A5 (bj6 aK7 (a1 bb as l) (a2 bb as (l.trans l1.symm)) hs) λσ H Q ⟨Hf,st,k⟩=>⟨Hf,st,λv H1 Hf1 s1 e1 r1=>⟨Hf1,s1,λu H2 Hf2 s2 e2 r2=>?_⟩⟩⟩;have rx:=r1.mono e2;have sq:=s2.same;cases x with
  | tuple xs =>
   cases w2;obtain⟨p,vs,e1',e2',e3⟩:=rx;obtain⟨w,q1,q2⟩:=t8 e3 w4;exact .inr (.inl ⟨p,vs,_,w,e1',r2,C6 sq e2',q1,k w H2 Hf2 s2 (e1.trans e2) q2⟩)
  | list xs =>
   cases w2;obtain⟨p,vs,e1',e2',e3⟩:=rx;obtain⟨w,q1,q2⟩:=t8 e3 w4;exact .inl ⟨p,vs,_,w,e1',r2,C7 sq e2',q1,k w H2 Hf2 s2 (e1.trans e2) q2⟩
  | _=>cases w2
 ·cases w
end
end G
namespace G
open PySem PySem.Spec PyProof.Rows L2
section
variable {X:Cx}{C:CT}
def aA6(f:UD):UD:=λρ q=>(f ρ q).bind λx=>(aB4 x.1).map λs=>(.int s.2.length,x.2)
theorem bB2(hg:Gl X "len")(hm:X.mg "len" = none)(h:UE X C e f)(he:dO [e] X.env=[(false,eval e X.env)]):UE X C (.Call (.Name "len" p) [e] [] pos) (aA6 f):=λρ q d q' w no=>by
 obtain⟨⟨x,q1⟩,w1,w⟩:=ae.mp w;obtain⟨⟨t,ds⟩,w2,w3⟩:=af.mp w;cases w3;obtain⟨l1,a1⟩:=h ρ q x q1 w1 no;refine⟨l1,λb as l=>A5 (J1 aa8 hg hm aM9 (B6 (a1 b as l) D3 he) (he:=he)) λσ H Q ⟨Hf,st,k⟩=>⟨Hf,st,λv H1 Hf1 s1 e1 r=>?_⟩⟩;have sq:=s1.same;cases x with
 | tuple xs =>
  cases w2;obtain⟨p,vs,rfl,e2,e3⟩:=r;exact⟨p,vs,rfl,.inr (C6 sq e2),k _ H1 Hf1 s1 e1 (by rw[e3.length];rfl)⟩
 | list xs =>
  cases w2;obtain⟨p,vs,rfl,e2,e3⟩:=r;exact⟨p,vs,rfl,.inl (C7 sq e2),k _ H1 Hf1 s1 e1 (by rw[e3.length];rfl)⟩
 | _=>cases w2
end
end G
namespace G
open PySem PySem.Spec PyProof.Rows L2
section
variable {X:Cx}{C:CT}
def hpX:Hp:=λ_=>some (.lst [])
def tEl(K:ag)(C:CT)(a:eW)(gU:UD):TE:=λσ H Q=>∃k o y o' Hf c,gU [‹k›,some (.opq 0)] [o]=some (y,[o'])/\B0 Hf H/\Slots K hpX [‹k›,some (.opq a)] σ H Hf/\FoAt K C H Hf a c o /\
 ∀v H' Hf' c',Chg (cells a c) H Hf H' Hf'->FoAt K C H' Hf' a c' o'->(∀x∈cells a c',x∈cells a c\/H x=none)->Rep K Hf' y v->Q v H'
theorem bP3(h:UE X C elt gU):PE X elt (tEl X.K C a gU):=λpins s σ H Q I ⟨k,o,y,o',Hf,c,e1,ss,sl,fo,kk⟩=>by
 obtain⟨_,a1⟩:=h _ _ _ _ e1 rfl;refine a1 ⟨cells a c,H,Hf⟩ [a] rfl pins s σ H Q I ⟨Hf,⟨Chg.of (Grow.refl ss),cells a c++[],.cons fo (by simp) .nil,λx hx=>.inl (by simpa using hx),sl.chg (S:=[]) (Chg.of (Grow.refl ss)) (by simp) λx h _=>nomatch h⟩,λv H' Hf' s' e' r=>?_⟩;obtain⟨R,r1,r2,_⟩:=s'.ob;obtain⟨c',f1,f2,_⟩:=r1.focus (j:=0) (a:=a) (o:=o') rfl;exact kk v H' Hf' c' s'.gr f1 (λx hx=>r2 x (f2 x hx)) r
theorem aj6{α:Type}{l:List α}{j:Nat}{x:α}(h:l[j]? = some x):l.set j x=l:=by
 obtain⟨hj,e⟩:=ao.mp h;subst e;exact List.set_getElem_self hj
abbrev bad:D:=.dict [(.none,.none)]
def P3:D->Bool
 | .dict [(.none,.none)]=>true
 | _=>false
theorem ah1{K:ag}{H:Hp}{v:V}:¬Rep K H bad v:=λh=>by
 obtain⟨a,m,_,_,x,_,_,e,_⟩:=h;cases e
theorem az1(h:P3 d=true):d=bad:=by
 unfold P3 at h;split at h
 ·rfl
 ·cases h
def cpT(g:UD):Fo->List D->Option (List D×Fo)
 | o,[]=>some ([],o)
 | o,k::ks=>(g [‹k›,some (.opq 0)] [o]).bind λr=>match r.2 with
  | [o']=>(cpT g o' ks).map λl=>(r.1::l.1,l.2)
  | _=>none
def cpX(g:UD):Nat->Fo->List D->Option (Option (List D)×Fo)
 | _,o,[]=>some (some [],o)
 | 0,_,_::_=>none
 | n+1,o,k::ks=>(g [‹k›,some (.opq 0)] [o]).bind λr=>match r.2 with
  | [o']=>bif P3 r.1 then some (none,o') else(cpX g n o' ks).map λl=>(l.1.map (r.1::·),l.2)
  | _=>none
def cpF(gb:D)(n j:Nat)(ρ:Rho)(q:Fs)(l:Option (List D)×Fo):UF:=match l.1 with
 | some ds=>.nx (ρ.set n (‹.list ds›)) (q.set j l.2)
 | none=>.rt gb (q.set j l.2)
def bf0(gb:D)(n i:Nat)(src:Rho->Option (List D))(g:UD):UX:=λρ q=>(src (era ρ)).bind λks=>(M4 i ρ q).bind λp=>(cpX g 100000 p.2 ks).map (cpF gb n p.1 ρ q)
theorem Slots.push{K:ag}{H0 H Hf:Hp}{ρ:Rho}{σ:L2.St}{p:eW}(s:Slots K H0 ρ σ H Hf)(n0:H0 p=none)(hp:H p=none)(nf:Hf p=none)(sm:B0 Hf H):Slots K H0 (ρ++[some (.own [])]) (σ++[some (.ref p)]) (upd H p (.lst [])) Hf:=by
 have s2:Slots K H0 (ρ++[none]) (σ++[none]) H Hf:=by
  have at_:∀(i:Nat) (b:B),(ρ++[none])[i]? = some (some b)->ρ[i]? = some (some b)/\i < ρ.length:=λi b e=>by
   rcases bD i ρ.length with q|q
   ·rw[az q]at e;exact⟨e,q⟩
   ·rw[aq q]at e;cases h:i - ρ.length with
    | zero=>rw[h]at e;cases e
    | succ n=>rw[h]at e;cases e
  refine⟨by simp[s.len],λi b e=>?_,λi j d1 d2 a h1 h2 h3 h4=>?_⟩
  ·obtain⟨e1,e2⟩:=at_ i b e;obtain⟨v,v1,v2⟩:=s.is i b e1;exact⟨v,by rw[az (by rw[← s.len];exact e2)];exact v1,v2⟩
  ·obtain⟨e1,l1⟩:=at_ i _ h1;obtain⟨e2,l2⟩:=at_ j _ h2;rw[az (by rw[← s.len];exact l1)]at h3;rw[az (by rw[← s.len];exact l2)]at h4;exact s.apart i j d1 d2 a e1 e2 h3 h4
 have:=s2.setOwn (i:=ρ.length) (ds:=[]) (vs:=[]) (Grow.made sm hp) n0 hp A7 nf rfl;rw[s.len]at this;simpa [← s.len] using this
theorem Slots.pop{K:ag}{H0 H Hf:Hp}{ρ:Rho}{σ:L2.St}{x:Option B}{y:Option V}(s:Slots K H0 (ρ++[x]) (σ++[y]) H Hf):Slots K H0 ρ σ H Hf:=by
 have hl:ρ.length=σ.length:=by have:=s.len;simpa using this
 have up:∀(i:Nat) (b:B),ρ[i]? = some (some b)->(ρ++[x])[i]? = some (some b)/\i < ρ.length:=λi b e=>by
  have:=(ao.mp e).1;exact⟨by rw[az this];exact e,this⟩
 refine⟨hl,λi b e=>?_,λi j d1 d2 a h1 h2 h3 h4=>?_⟩
 ·obtain⟨e1,l1⟩:=up i b e;obtain⟨v,v1,v2⟩:=s.is i b e1;rw[az (by rw[← hl];exact l1)]at v1;exact⟨v,v1,v2⟩
 ·obtain⟨e1,l1⟩:=up i _ h1;obtain⟨e2,l2⟩:=up j _ h2;exact s.apart i j d1 d2 a e1 e2 (by rw[az (by rw[← hl];exact l1)];exact h3) (by rw[az (by rw[← hl];exact l2)];exact h4)
theorem OSt.push{K:ag}{b:Bs}{ρ:Rho}{os:Os}{σ:L2.St}{H Hf:Hp}{p:eW}(s:OSt K C b ρ os σ H Hf)(hp:H p=none):OSt K C b (ρ++[some (.own [])]) os (σ++[some (.ref p)]) (upd H p (.lst [])) Hf:=by
 obtain⟨R,r1,r2,r3⟩:=s.ob;have g:Grow H Hf (upd H p (.lst [])) Hf:=Grow.made s.same hp;refine⟨(s.grow g).gr,R,r1.chg (S:=[]) (Chg.of g) (by simp),r2,r3.push (aw6 (λz=>r1.there p z hp) ?_) hp (s.same.free hp) s.same⟩;exact aR λz=>s.gr.kp p z hp
theorem OSt.pop{K:ag}{b:Bs}{ρ:Rho}{os:Os}{σ:L2.St}{H Hf:Hp}{x:Option B}{y:Option V}(s:OSt K C b (ρ++[x]) os (σ++[y]) H Hf):OSt K C b ρ os σ H Hf:=by
 obtain⟨R,r1,r2,r3⟩:=s.ob;exact⟨s.gr,R,r1,r2,r3.pop⟩
theorem be1{gU:UD}(n i:Nat)(hN:X.N.Nodup)(S:CompSc X N' 1 [i] scope)(hu:ub=true->Th X)(hit:JI X tgt iter src)(hg:∀C s0 H0 ex,JG (B3 ub X N' scope C s0 H0 ex) tgt (F4 0))(hel:∀C0 s0 H0 ex,UE (B3 ub X N' scope C0 s0 H0 ex) C elt gU)
  (hn:X.N[i]? = some x) (hv:Vis X.env.scope x) (h1:(x==("__debug__" : Str))=false) (h2:(x==("__classdict__" : Str))=false) (hm:X.N[n]? = some y) (hl:X.env.scope.names.lookup y=some .local) (hsw:swapsWith (.ListComp elt [⟨tgt,iter,[],0⟩] scope pos) (some (.Name y pos')) spos.line X.env=pure true)
  (hc:X.calm=true) (hs:∀x,em iter X.env x=pure x):US X C (.Assign [.Name y pos'] (.ListComp elt [⟨tgt,iter,[],0⟩] scope pos) spos) (bf0 gb n i src gU):=λρ q fl w no=>by
 obtain⟨ks,w1,w⟩:=ae.mp w;obtain⟨⟨j,o⟩,w3,w⟩:=ae.mp w;obtain⟨⟨l,oe⟩,w4,w5⟩:=af.mp w;refine⟨by subst w5;cases l;rfl;exact u6 (by rw[bF];exact no),λb as len=>?_⟩;obtain⟨a,ea,A⟩:=G3 w3 (O1 no) len hn hv h1 h2
 have zq:∀u:Fo,(as.zip (q.set j u))[j]? = some (a,u):=λu=>by
  rw[K0 ea,aC (ao.mp A.o).1]
 have zz:∀u u':Fo,(as.zip (q.set j u)).set j (a,u')=as.zip (q.set j u'):=λu u'=>by
  rw[K0 ea,K0 ea,List.set_set]
 refine D0 (X1 S hu hc hN hm hl (hit (era ρ) ks w1) (g:=tgJ X.K (F4 0)) (tc:=t5 X.K G7) (te:=tEl X.K C a gU) hg (λC s0 H0 ex=>aw3) (λC0 s0 H0 ex=>bP3 (hel C0 s0 H0 ex)) hsw hs) λEn σ H ⟨Hf,st,kk⟩=>?_
 refine⟨_,Hf,st.same,by rw[← K2 as ρ];exact st.sl.era,λJ H1 Hf1 gr1 Y Dd hD=>?_⟩;have st1:=st.grow gr1
 have c0:Slots X.K hpX [none,some (.opq a)] (ag7 1 [i] σ) (upd H1 Dd (.lst [])) Hf1:=by
  have:=T7 st1 A.s;refine⟨rfl,λn bb e=>?_,λn m d1 d2 aa e=>?_⟩
  ·cases n with
   | zero=>cases e
   | succ n=>cases n with
    | zero=>cases e;exact⟨.ref a,by show some (σ[i]?).join=_;rw[this];rfl,rfl⟩
    | succ n=>cases e
  ·cases n with
   | zero=>cases e
   | succ n=>cases n with
    | zero=>cases e
    | succ n=>cases e
 have q0:as.zip (q.set j o)=as.zip q:=by rw[K0 ea];exact aj6 A.o
 refine⟨λi m ys σ' H'=>m=ks.length - i/\i<=ks.length/\∃Hf' z o1 o2 u,OSt X.K C b (sub as ρ++[some (.own o1)]) (as.zip (q.set j u)) (σ++[some (.ref Dd)]) H' Hf'/\B0 Hf1 Hf'/\H' Dd=some (.lst ys)/\Slots X.K hpX [z,some (.opq a)] σ' H' Hf'/\o1.length=i/\(∃f,i+f=100000/\cpX gU f u (ks.drop i)=some (o2,oe))/\o2.map (o1++·)=l,
  ⟨ks.length,by simp,aU _,Hf1,none,[],l,o,by rw[q0];exact st1.push hD,B0.refl _,A7,c0,rfl,⟨100000,rfl,by simpa using w4⟩,by simp⟩,?_⟩
 rintro n m ys σ' H' ⟨rfl,hi,Hf',z,o1,o2,u,st',sm,hd,sl',ho,⟨f,hf,ec⟩,eo⟩
 obtain⟨Ys,Yg⟩:=Y n H' Hf' sm st'.same;have own:(sub as ρ++[some (B.own o1)])[(sub as ρ).length]? = some (some (.own o1)):=by rw[aq (aj _),aW];rfl
 have hsl:(sub as ρ).length=σ.length:=st1.sl.len;rcases bD n ks.length with hlt|hge
 ·right
  obtain⟨go,yl⟩:=Yg ks[n] (by simp[hlt]);rw[bX hlt]at ec;cases f with
  | zero=>cases ec
  | succ f =>
  obtain⟨⟨y,qy⟩,c1,ec⟩:=ae.mp ec;dsimp only at ec;split at ec
  ·rename_i u';refine⟨go,λx H2 hy=>?_⟩;obtain⟨Hf2,g2,r2⟩:=yl x H2 hy;refine⟨ks[n],_,_,hpX,Hf2,rfl,g2.sub,sl'.grow g2,r2,λσ3 sl3=>⟨_,true,rfl,hpX,Hf2,g2.sub,sl3,λH4 Hf4 g4=>v5 ?_⟩⟩;have st4:=(st'.grow g2).grow g4;have hd4:H4 Dd=some (.lst ys):=g4.big _ _ (g2.big _ _ hd);obtain⟨c,f1,f3⟩:=st4.focus rfl (zq u);refine⟨ks[n],u,y,u',Hf4,c,c1,st4.same,sl3.grow g4,f1,λv H5 Hf5 c' ch fo n5 r5=>?_⟩;cases hb:P3 y with
   | true=>rw[az1 hb]at r5;exact(ah1 r5).elim
   | false =>
   rw[hb]at ec;obtain⟨⟨o3,oe'⟩,c2,c3⟩:=af.mp ec;cases c3;have st5:=f3 ch fo n5;rw[zz]at st5;obtain⟨p5,vs5,g1,g2',g3,g6⟩:=st5.app own
   have ep:p5=Dd:=by
    rw[hsl,aq (aj _),aW]at g1;cases g1;rfl
   subst ep
   have eys:vs5=ys:=by
    obtain⟨p4,vs4,k1,k2,k3,_⟩:=st4.app own;rw[hsl,aq (aj _),aW]at k1;cases k1
    have nc:p5∉cells a c:=λzz=>by
     obtain⟨R,r1,r2,r3⟩:=st4.ob;obtain⟨c9,f9,f8,_⟩:=r1.focus (zq u);cases FoAt.same f9 f1;obtain⟨v9,v1,p9,us9,rfl,_,_,v4,_⟩:=r3.is _ _ own;rw[hsl,aq (aj _),aW]at v1;cases v1;exact(P5 v4).1 (f8 _ zz)
    have:=ch.big _ _ nc hd4;rw[g2']at this;cases this;rfl
   subst eys;refine⟨g2',by rw[g3.length,ho,dQ];omega,ks.length - (n+1),by omega,rfl,hlt,Hf5,some (.val ks[n]),o1++[y],o3,u',?_,?_,A7,?_,by simp[ho],⟨f,by omega,c2⟩,by rw[← eo];simp[Function.comp_def]⟩
   ·have:=g6 v y r5;rw[ck _ _ (aj _),aW]at this;exact this
   ·exact sm.trans (g2.ext.trans (g4.ext.trans ch.ext))
   ·have s5:=(sl3.grow g4).chg (S:=cells a c) ch (λ_ _ h=>nomatch h) (H0':=hpX) λ_ h _=>nomatch h
    exact s5.chg (S:=[p5]) (Chg.wr st5.same (by simp) (by
     obtain⟨R,r1,r2,r3⟩:=st5.ob;obtain⟨v9,v1,p9,us9,rfl,_,v3,_⟩:=r3.is _ _ own;rw[hsl,aq (aj _),aW]at v1;cases v1
     exact v3)) (λ_ _ h=>nomatch h) λ_ h _=>nomatch h
  ·cases ec
 ·left
  have:n=ks.length:=by omega
  subst this;rw[cK]at ec;obtain⟨rfl,rfl⟩:o2=some []/\oe=u:=by cases f<;>(cases ec;exact⟨rfl,rfl⟩)
  obtain rfl:l=some o1:=by rw[← eo];simp
  subst w5;refine⟨Ys (aj _),?_⟩;obtain⟨Hf6,e6,s6⟩:=st'.frz (sub as ρ).length
  have fz:frz (sub as ρ).length (sub as ρ++[some (.own o1)])=sub as ρ++[‹.list o1›]:=by
   unfold frz;rw[own];dsimp only;rw[ck _ _ (aj _),aW];rfl
  rw[fz]at s6;obtain⟨v6,v61,v62⟩:=s6.sl.is (sub as ρ).length (.val (.list o1)) (by rw[aq (aj _),aW];rfl);rw[hsl,aq (aj _),aW]at v61;cases v61;exact x0 kk (by rw[bF];exact len) _ H' Hf6 (by rw[t6];exact s6.pop.set v62) (gr1.ext.trans (sm.trans e6))
def bO1(i:Nat)(f:Rho->Option (List D)):UX:=λρ q=>(f (era ρ)).map λds=>.nx (ρ.set i (‹.list ds›)) q
theorem be0(i:Nat)(hN:X.N.Nodup)(S:CompSc X N' n caps scope)(hu:ub=true->Th X)(hi:JI X tgt iter src)(hg:∀C s0 H0 ex,JG (B3 ub X N' scope C s0 H0 ex) tgt g)(ht:∀C s0 H0 ex,JTs (B3 ub X N' scope C s0 H0 ex) ifs c)(he:∀C s0 H0 ex,JE (B3 ub X N' scope C s0 H0 ex) elt e)
  (hi2:X.N[i]? = some x) (hl:X.env.scope.names.lookup x=some .local) (hsw:swapsWith (.ListComp elt [⟨tgt,iter,ifs,0⟩] scope pos) (some (.Name x pos')) spos.line X.env=pure true)
  (hc:X.calm=true) (hs:∀x,em iter X.env x=pure x):US X C (.Assign [.Name x pos'] (.ListComp elt [⟨tgt,iter,ifs,0⟩] scope pos) spos) (bO1 i (E4 n caps src g c e)):=λρ q fl w no=>by
 obtain⟨out,e1,e2⟩:=af.mp w;subst e2;obtain⟨ds,e3,k⟩:=X7 (K:=X.K) e1;refine⟨u6 no,λb as l=>D0 (X1 S hu hc hN hi2 hl (hi (era ρ) ds e3) (g:=tgJ X.K g) (tc:=t5 X.K c) (te:=aA8 X.K e) hg ht (λC s0 H0 ex pins s σ H Q I ⟨ρ,d,e,t⟩=>he C s0 H0 ex ρ d e pins s σ H Q I t) hsw hs) λEn σ H ⟨Hf,st,ee⟩=>k σ H _ ⟨_,Hf,st.same,by rw[← K2 as ρ];exact st.sl.era,λv H' Hf' gg ⟨p,vs,z1,z2,z3,z4,z5⟩=>?_⟩⟩;subst z1;have g2:=gg.freeze z3 z4 z2;exact x0 ee l _ H' _ (by rw[t6];exact(st.grow g2).set ⟨p,vs,rfl,SqL.of A7,z5.mono (D5 z4)⟩) g2.ext
end
end G
namespace G
open PySem PySem.Spec PySem.W PyProof.Rows L2
def evT(lt:Nat->Nat->Bool){α:Type}:KasT α->α
 | .ret a=>a
 | .ask i j k=>evT lt (k (lt i j))
section
variable {lt:Nat->Nat->Bool}
theorem a8(p:Array Nat)(s e:Nat):(kas_rev p s e).Perm p:=mirror_perm ..
end
end G
namespace G
open PySem PySem.Spec PySem.W PyProof.Rows L2 PySem.SeqAt
def Ask(n:Nat){α:Type}(P:α->Prop):KasT α->Prop
 | .ret a=>P a
 | .ask i j k=>i < n/\j < n/\∀b,Ask n P (k b)
theorem Ask.bind{n:Nat}{α β:Type}{P:α->Prop}{P':β->Prop}{f:α->KasT β}(hf:∀a,P a->Ask n P' (f a)):∀{t:KasT α},Ask n P t->Ask n P' (t.bind f)
 | .ret a,h=>hf a h
 | .ask i j k,h=>⟨h.1,h.2.1,λb=>Ask.bind hf (h.2.2 b)⟩
theorem Ask.ite{n:Nat}{α:Type}{P:α->Prop}{c:Prop}[Decidable c]{s t:KasT α}(h1:Ask n P s)(h2:Ask n P t):Ask n P (if c then s else t):=by split<;>assumption
def LoP(n:Nat)(p:Array Nat):Prop:=p.size=n/\∀x∈p,x < n
section
variable {n:Nat}(hn:0 < n)
include hn
theorem LoP.get{p:Array Nat}(h:LoP n p)(k:Nat):p.getD k 0 < n:=by
 rw[Array.getD_eq_getD_getElem?];rcases bD k p.size with q|q
 ·rw[cr q];exact h.2 _ (Array.getElem_mem q)
 ·rw[dz q];exact hn
omit hn in
theorem LoP.perm{p q:Array Nat}(h:LoP n p)(e:q.Perm p):LoP n q:=⟨e.size_eq.trans h.1,λx hx=>h.2 x (e.mem_iff.mp hx)⟩
theorem aN2{p:Array Nat}(h:LoP n p):∀(f m:Nat),Ask n (λ_=>True) (kas_asc p f m)
 | 0,_=>trivial
 | f+1,m=>⟨h.get hn _,h.get hn _,λb=>.ite (c:=b=true) trivial (aN2 h f (m+1))⟩
theorem ai0:∀(f:Nat) (p:Array Nat) (m q:Nat),LoP n p->Ask n (λr:Array Nat×Nat×Nat=>LoP n r.1) (kas_desc f p m q)
 | 0,_,_,_,h=>h
 | f+1,p,m,q,h=>⟨h.get hn _,h.get hn _,λb=>.ite (c:=b=true) (.ite (ai0 f _ _ _ (h.perm (a8 ..))) (ai0 f _ _ _ h)) ⟨h.get hn _,h.get hn _,λd=>.ite (c:=d=true) h (ai0 f _ _ _ h)⟩⟩
theorem aA9{p:Array Nat}(m r:Nat)(h:LoP n p):Ask n (λr:Nat×Array Nat=>LoP n r.2) (kas_tail3 m r p):=by
 unfold kas_tail3;refine Ask.bind (P:=λ_=>True) (λm _=>?_) (aN2 hn (h.perm (a8 ..)) _ _);exact h.perm (a8 ..)
theorem af3{p:Array Nat}(m r:Nat)(h:LoP n p):Ask n (λr:Nat×Array Nat=>LoP n r.2) (kas_descPart m r p):=by
 unfold kas_descPart;exact Ask.bind (λx hx=>Ask.ite (aA9 hn _ _ (LoP.perm hx (a8 ..))) (aA9 hn _ _ hx)) (ai0 hn _ _ _ _ h)
theorem bw4{p:Array Nat}(r:Nat)(h:LoP n p):Ask n (λr:Nat×Array Nat=>LoP n r.2) (kas_count r p):=by
 unfold kas_count;refine Ask.bind (λm _=>?_) (aN2 hn h _ _);refine Ask.ite h (Ask.ite ⟨h.get hn _,h.get hn _,λb=>?_⟩ (af3 hn _ _ h));exact Ask.ite (c:=b=true) h (af3 hn _ _ (h.perm (a8 ..)))
theorem ak2{p:Array Nat}(h:LoP n p)(k:Nat):∀(f l r:Nat),Ask n (λ_=>True) (kas_place p k f l r)
 | 0,_,_=>trivial
 | f+1,l,r=>.ite (c:=l ≥ r) trivial ⟨h.get hn _,h.get hn _,λb=>.ite (c:=b=true) (ak2 h k f _ _) (ak2 h k f _ _)⟩
theorem bx3:∀(f:Nat) (p:Array Nat) (k:Nat),LoP n p->Ask n (LoP n) (kas_bin f p k)
 | 0,_,_,h=>h
 | f+1,p,k,h=>by
  unfold kas_bin;exact Ask.bind (λl _=>bx3 f _ _ (h.perm (bubble_perm ..))) (ak2 hn h k _ _ _)
theorem aQ0:Ask n (LoP n) (kas_sort n):=by
 unfold kas_sort;refine Ask.bind (λr hr=>?_) (bw4 hn n (show LoP n (List.toArray (aZ n)) from⟨by simp,λx hx=>by simpa using hx⟩));exact Ask.ite (bx3 hn _ _ _ hr) hr
end
theorem aW0{n:Nat}{α:Type}{P:α->Prop}{cmp:Nat->Nat->(Bool->eV->Prop)->eV->Prop}{lt:Nat->Nat->Bool}{Q:α->eV->Prop}{s:eV}(hc:∀i j C,i < n->j < n->C (lt i j) s->cmp i j C s):∀{t:KasT α},Ask n P t->(P (evT lt t)->Q (evT lt t) s)->t.kasWp cmp Q s
 | .ret a,h,q=>q h
 | .ask i j k,h,q=>hc i j _ h.1 h.2.1 (aW0 hc (h.2.2 _) q)
section
variable {prog:Program}{w:World}{A:Around}{E:Value->Shared->Prop}{s:Shared}
theorem bn7{a:eW}{vs out:List eU}{n:Nat}{P:PySem.Fin->eV->Prop}(ho:s.heap.get? a=some (seqObj "list" vs.toArray n))(h64:vs.length < 64)(h1:vs.length < 2->out=vs)
  (hk:2<=vs.length->∀h':Heap,(∀b o,b≠a->s.heap.get? b=some o->h'.get? b=some o) ->
   eD (eE prog w) A (keyKind' vs.toArray) (λκ s'=>(kas_sort vs.length).kasWp (kas_ask prog w A κ vs) (λp s''=>s''={ s with heap:=h' }/\(p.toList.map λi=>vs.getD i eQ)=out) s') (λ_ _=>False) { s with heap:=h' })
  (h:∀h' c,(∀b o,b≠a->s.heap.get? b=some o->h'.get? b=some o)->h'.get? a=some (seqObj "list" out.toArray c)->P (.done (.ret .none)) { s with heap:=h' }) :
  eD (eE prog w) A (Builtin.«list.sort» ⟨[.ref a],[]⟩) P E s:=by
 have ha:a < s.heap.objs.size:=eG ho;have hsz:vs.toArray.size=vs.length:=by simp
 obtain⟨e1,ho1⟩:∃e1,(s.heap.update a (Obj.mapSeq λ_=>(#[]:Array eU))).get? a=some (seqObj "list" #[] e1):=⟨_,get?_update_seq ho λ_=>#[]⟩;have s1:=Heap.SameBut.update s.heap a (Obj.mapSeq λ_=>(#[]:Array eU));rw[list_sort_plain];refine dH (listItems_at ho rfl ?_);refine dH (listUpdate_at ho rfl ?_ (by rw[av,dQ];omega) (aU _));refine dH (seqEpoch_at ho1 rfl ?_);refine dH (wpAny_newTuple ?_ (by show vs.length<=_;rw[dQ];omega));refine dH (wpAny_newList ?_ (aU _));refine wpAny_holding ?_
 have keep:∀b o,b≠a->s.heap.get? b=some o->(((s.heap.update a (Obj.mapSeq λ_=>(#[]:Array eU))).push (seqObj "tuple" vs.toArray 0)).push (seqObj "list" #[] 0)).get? b=some o:=λb o hb q =>
  eF _ (eF _ (s1.extBut b o hb q))
 have ho3:(((s.heap.update a (Obj.mapSeq λ_=>(#[]:Array eU))).push (seqObj "tuple" vs.toArray 0)).push (seqObj "list" #[] 0)).get? a=some (seqObj "list" #[] e1):=eF _ (eF _ ho1);show eD _ _ _ _ _ { s with heap:=((s.heap.update a (Obj.mapSeq λ_=>(#[]:Array eU))).push (seqObj "tuple" vs.toArray 0)).push (seqObj "list" #[] 0) };generalize ((s.heap.update a (Obj.mapSeq λ_=>(#[]:Array eU))).push (seqObj "tuple" vs.toArray 0)).push (seqObj "list" #[] 0)=h3 at keep ho3;have fin:∃c,(h3.update a (Obj.mapSeq λ_=>out.toArray)).get? a=some (seqObj "list" out.toArray c):=⟨_,get?_update_seq ho3 λ_=>out.toArray⟩;obtain⟨c,hc⟩:=fin;have keep':∀b o,b≠a->s.heap.get? b=some o->(h3.update a (Obj.mapSeq λ_=>out.toArray)).get? b=some o:=λb o hb q=>(Heap.SameBut.update h3 a _).extBut b o hb (keep b o hb q)
 by_cases h2:vs.toArray.size < 2
 ·rw[if_pos h2,if_pos h2];refine dH (dI ?_);dsimp only;rw[StateT.run_pure];refine dH (dI ?_);dsimp only
  have ez:(arrOf (SortSt.mk' general' (vs.toArray.zip vs.toArray) #[] 7 none)).map (·.2)=out.toArray:=by
   rw[h1 (by omega)];show(vs.toArray.zip vs.toArray).map (·.2)=vs.toArray;apply Array.toList_inj.mp;simp[List.map_snd_zip]
  rw[ez];refine dH (seqEpoch_at ho3 rfl ?_);refine dH (listUpdate_at ho3 rfl ?_ (aU _) (by rw[av,dQ,h1 (by omega)];omega));show eD _ _ _ _ _ _;simp only[bne_self_eq_false,xft,if_false];exact dI (h _ c keep' hc)
 ·rw[if_neg h2,if_neg h2];refine dH (dJ (hk (by omega) h3 keep) (λκ s' hκ=>?_) λ_ _ x=>x.elim)
  refine dH (dJ (kat_run (E:=E) (Q:=λst' s''=>∃p:Array Nat,p.size=vs.length/\arrOf st'=p.map (kas_item (vs.toArray.zip vs.toArray))/\failedOf st'=none/\s''={ s with heap:=h3 }/\(p.toList.map λi=>vs.getD i eQ)=out) rfl (by omega) h64
   (λp st' s'' a1 a2 a3 a4=>⟨p,a1,a2,a3,a4⟩) hκ) ?_ λ_ _ e=>e)
  rintro⟨⟨⟩,st'⟩ s'' ⟨p,hp,har,hf,rfl,e⟩
  dsimp only;have ez:=kat_snds rfl har;have hol:out.length=vs.length:=by rw[← e,ak,bj,hp]
  rw[e]at ez;rw[ez];refine dH (seqEpoch_at ho3 rfl ?_);refine dH (listUpdate_at ho3 rfl ?_ (aU _) (by rw[av,dQ];omega));rw[hf];simp only[bne_self_eq_false,xft,if_false];exact dI (h _ c keep' hc)
end
theorem aN1{n:Nat}{α:Type}{P:α->Prop}(lt:Nat->Nat->Bool):∀{t:KasT α},Ask n P t->P (evT lt t)
 | .ret _,h=>h
 | .ask i j k,h=>aN1 (n:=n) (P:=P) lt (t:=k (lt i j)) (h.2.2 (lt i j))
end G
namespace G
open PySem PySem.Spec PySem.W PyProof.Rows L2 PySem.SeqAt
theorem aI3{prog:dU}{w:World}{A:dW}{E:eU->eV->Prop}{s:eV}{l:eW}{Q:eU->eV->Prop}
  (hcol:∀{E:eU->eV->Prop}{R:List eU->eV->Prop},(∀(vs out:List eU) (s1:eV),vs.length < 64->(vs.length < 2->out=vs) ->
   (2<=vs.length->∀h':Heap,(∀b o,s1.heap.get? b=some o->h'.get? b=some o)->eD (eE prog w) A.in1.in1 (keyKind' vs.toArray) (λκ s'=>(kas_sort vs.length).kasWp (kas_ask prog w A.in1.in1 κ vs) (λp s''=>s''={ s1 with heap:=h' }/\(p.toList.map λi=>vs.getD i eQ)=out) s') (λ_ _=>False) { s1 with heap:=h' }) ->
   (∀h' c,(∀b o,s1.heap.get? b=some o->h'.get? b=some o)->h'.get? s1.heap.objs.size=some (seqObj "list" out.toArray c)->Q (.ref s1.heap.objs.size) { s1 with heap:=h' })->R vs s1)->eD (eE prog w) A.in1 (collect (.ref l)) R E s) :
  eD (eE prog w) A (call (.builtin "sorted") [.ref l]) Q E s:=by
 refine Calls.call_function_entry kind_sorted plain_sorted entry_sorted (args_sorted1 _) ?_;unfold Builtin.«sorted»;refine dH (m:=checkCount "sorted" 1 1 _) (dI ?_);refine dH (hcol λvs out s1 h64 h1 hk h=>?_);refine dH (wpAny_newList ?_ (by rw[dQ];omega));have hoL:(s1.heap.push (seqObj "list" vs.toArray 0)).get? s1.heap.objs.size=some (seqObj "list" vs.toArray 0):=eI _ rfl;have keep:∀b o,s1.heap.get? b=some o->(s1.heap.push (seqObj "list" vs.toArray 0)).get? b=some o:=λb o q=>eF _ q
 show eD _ _ _ _ _ { s1 with heap:=s1.heap.push (seqObj "list" vs.toArray 0) };generalize s1.heap.push (seqObj "list" vs.toArray 0)=h3 at hoL keep;have ne:∀b o,s1.heap.get? b=some o->b≠s1.heap.objs.size:=λb o q=>aK (eG q)
 refine dH (wpAny_holding (wpAny_call_entry slot_list_sort ⟨_,hoL,rfl⟩ entry_list_sort ?body (args_list_sort _)))
 case body =>
  refine bn7 (s:={ s1 with heap:=h3 }) (out:=out) hoL h64 h1 (λh2 h' kp=>hk h2 h' λb o q=>kp b o (ne b o q) (keep b o q)) λh' c kp e=>⟨_,rfl,dI ⟨_,rfl,h h' c (λb o q=>kp b o (ne b o q) (keep b o q)) e⟩⟩
end G
namespace G
open PySem PySem.Spec PySem.W PyProof.Rows L2
theorem RepKs.length{K:ag}{H:Hp}:∀{kvs:List (D×D)}{m:List (Key×V)},RepKs K H kvs m->m.length=kvs.length
 | [],_,h=>by cases h;rfl
 | (k,e)::r,_,⟨y,w,t,h1,h2,h3,h4⟩=>by subst h2;simp[RepKs.length h4]
theorem aF8{prog:dU}{w:World}{A:dW}{E:eU->eV->Prop}{s:eV}{T:String}{r d:eW}{n:Nat}{P:Nat->eU->Prop}{OK:Heap->Prop}{Q:List eU->eV->Prop}(K:KdlSrc prog w T r d n P OK)(hh:A.handled=none)(hok:OK s.heap)(hn:n<=dP)
  (h:∀h' tk (vs:List eU),(∀b o,s.heap.get? b=some o->h'.get? b=some o)->vs.length=n->(∀j v,vs[j]? = some v->P j v)->Q vs { s with heap:=h',toks:=tk }):eD (eE prog w) A (collect (.ref r)) Q E s:=by
 have lt:=K.there _ hok;unfold collect;refine dH (wpAny_runValue (codeAny_builtin entry_proto_collect' ?_));rw[Around.under_plainId PySem.F.plain_proto_collect _];show eD _ A.in1 (newList [] >>= λl=>again (.builtin "list.__iadd__" ⟨[l,.ref r],[]⟩)) _ _ s;refine dH (dL (dI ⟨plainId_quiet PySem.F.plain_list_iadd _,codeAny_builtin entry_list_iadd' ?_⟩));rw[Around.under_plainId PySem.F.plain_list_iadd _];show eD _ A.in1 (Builtin.List.listExtendWith (.ref s.heap.objs.size) (.ref r) (.ref s.heap.objs.size)) _ _ { s with heap:=s.heap.push { cls:=.type "list", data:=.seq #[] } };have k1:∀b o,s.heap.get? b=some o->(s.heap.push { cls:=.type "list", data:=.seq #[] }).get? b=some o:=λb o q=>eF _ q
 refine kdl_extend (R:=λr s'=>match r with | .ok (.ret v)=>eD (eE prog w) A (match v with | .ref a=>(do let o ← load a;match o.data with | .seq xs _=>pure xs.toList|_=>unsupported "internal:collect")|_=>unsupported "internal:collect") Q E s' | .ok _=>False | .error e=>E e s') (s:={ s with heap:=s.heap.push { cls:=.type "list", data:=.seq #[] } }) K hh (K.keep _ _ hok λb _ o e=>k1 b o e) s.heap.objs.size (cz lt.1) (cz lt.2) (.ref s.heap.objs.size) 0 (eI _ rfl) (λh' tk acc' c' hk hS' hacc=>?_) hn;refine dH (wpAny_load hS' (dI ?_));exact h h' tk acc'.toList (λb o e=>hk b o (aK (eG e)) (k1 b o e)) (by rw[bj];exact hacc.1) λj v e=>hacc.2 j v (by rw[← bK];exact e)
def ltS(ks:List D)(i j:Nat):Bool:=match ks.getD i .none,ks.getD j .none with
 | .str a,.str b=>decide (a.cps.toList < b.cps.toList)
 | _,_=>false
def an5(ks:List D):Option (List D):=if ks.length < 2 then some ks else if ks.length < 64 then some ((evT (ltS ks) (kas_sort ks.length)).toList.map λi=>ks.getD i .none) else none
section
variable {X:Cx}{pins:List (Addr×Obj)}{σ:L2.St}{H Hf:Hp}{s:Shared}{K:PySem.W.Frag}
theorem RepKs.key:∀{m:List (D×D)}{kvs:List (Key×V)},RepKs K Hf m kvs->∀(j:Nat) (k:Key) (v:V),kvs[j]? = some (k,v)->∃(x:Str) (e:D),k=Sum.inr x/\m[j]? = some (eN x,e)
 | [],_,h,j,k,v,e=>by cases h;cases e
 | (d,e0)::r,_,⟨y,w,t,h1,h2,h3,h4⟩,j,k,v,e=>by
  subst h1 h2;cases j with
  | zero=>cases e;exact⟨_,_,rfl,rfl⟩
  | succ j=>exact RepKs.key h4 j k v e
inductive TxA:List D->List eU->Prop
 | nil:TxA [] []
 | cons {x:Str}{t:Tok}{ds:List D}{vs:List eU}:TxA ds vs->TxA (.str x::ds) (.str x t::vs)
theorem TxA.of:∀{ds:List D}{vs:List eU},vs.length=ds.length->(∀(j:Nat) (v:eU),vs[j]? = some v->∃(x:Str) (t:Tok),v=Value.str x t/\ds[j]? = some (eN x))->TxA ds vs
 | [],[],_,_=>.nil
 | [],_::_,h,_=>by cases h
 | _::_,[],h,_=>by cases h
 | d::ds,v::vs,h,a=>by
  obtain⟨x,t,e1,e2⟩:=a 0 v rfl;cases e1;cases e2;exact .cons (TxA.of (by simpa using h) λj v e=>a (j+1) v (by simpa using e))
theorem TxA.len(h:TxA ds vs):vs.length=ds.length:=by
 induction h with
 | nil=>rfl
 | cons _ ih=>simp[ih]
theorem TxA.at(h:TxA ds vs):∀i,i < ds.length->∃(x:Str) (t:Tok),ds.getD i .none=eN x/\vs.getD i .none=Value.str x t:=by
 induction h with
 | nil=>intro i hi;simp at hi
 | @cons x t ds vs h ih =>
  intro i hi;cases i with
  | zero=>exact⟨x,t,rfl,rfl⟩
  | succ i=>obtain⟨y,u,e1,e2⟩:=ih i (by simpa using hi);exact⟨y,u,by simpa using e1,by simpa using e2⟩
theorem TxA.pick(h:TxA ds vs):∀{p:List Nat},(∀i∈p,i < ds.length)->TxA (p.map λi=>ds.getD i .none) (p.map λi=>vs.getD i eQ)
 | [],_=>.nil
 | i::p,hp=>by
  obtain⟨x,t,e1,e2⟩:=h.at i (hp i (.head _));rw[xmc,xmc,e1,e2];exact .cons (TxA.pick h λj hj=>hp j (.tail _ hj))
def bX6:D->V
 | .str x=>.str x
 | _=>.non
theorem TxA.vals(h:TxA ds vs):C9 (ds.map bX6) vs:=by
 induction h with
 | nil=>exact .nil
 | @cons x t ds vs h ih=>exact .cons ⟨t,rfl⟩ ih
theorem TxA.reps(h:TxA ds vs):Reps K Hf ds (ds.map bX6):=by
 induction h with
 | nil=>rfl
 | @cons x t ds vs h ih=>exact⟨_,_,rfl,rfl,ih⟩
theorem kvg{κ:Type}{p:List (κ×V)}{q:List (κ×eU)}(h:KV p q):∀{j:Nat}{y:κ×eU},q[j]? = some y->∃x,p[j]? = some x/\x.1=y.1/\C5 x.2 y.2:=by
 induction h with
 | nil=>intro j y e;cases e
 | cons a _ ih =>
  intro j y e;cases j with
  | zero=>cases e;exact⟨_,rfl,a⟩
  | succ j=>exact ih e
theorem bg6{Q:VK}{d:eW}{kvs:List (Key×V)}{m:List (D×D)}{out:List D}(hc:X.A.handled=none)(I:Inv X pins σ H s)(e:H d=some (.dK kvs))(rk:RepKs X.K Hf m kvs)(e3:an5 (m.map (·.1))=some out)
  (k:∀l us,H l=none->Reps X.K Hf out us->us.length < 64->Q (.ref l) (upd H l (.lst us))):eD (eE X.prog X.w) X.A (call (.builtin "sorted") [.ref d]) (EP X pins σ Q) X.xe s:=by
 obtain⟨z1,z2,vs,kv,o,es,ep,hd⟩:=aU8 I.hok e;have nk:=kv.length;have nm:=rk.length;refine aI3 λ{E R} hR=>aF8 (A:=X.A.in1) (kdl_dict (knd:=E7 X.prog X.w) (kvs:=vs) (ep:=ep) z2) hc ⟨o,es,hd⟩ (by rw[← nk];exact z1) λh' tk its kp hl hP=>?_
 have T:TxA (m.map (·.1)) its:=TxA.of (by simp;omega) λj v hj=>by
  obtain⟨k,x,hk,hi⟩:=hP j v hj;obtain⟨⟨k1,y1⟩,hk',r1,r2⟩:=kvg kv hk;cases r1;obtain⟨y,ed,h1,h2⟩:=RepKs.key rk j _ _ hk';cases h1
  obtain⟨t,rfl⟩:∃t,v=Value.str y t:=by
   rcases L2.F2 (show L2.al0 (Sum.inr y) v=true from hi) with⟨_,_,z,_⟩|⟨_,t,z,z2⟩
   ·cases z
   ·cases z;exact⟨t,z2⟩
  exact⟨y,t,rfl,by rw[aF,h2];rfl⟩
 have I':Inv X pins σ H { s with heap:=h',toks:=tk }:=al7 (ch:=[]) I (λ_ h=>nomatch h) λb u _ q=>kp b u q
 have tl:=T.len
 have fin:∀(ds:List D) (ws:List eU),TxA ds ws->ds.length < 64->ds=out->∀(h2:Heap) (c:Nat),(∀b o,h'.get? b=some o->h2.get? b=some o)->h2.get? h'.objs.size=some (seqObj "list" ws.toArray c)->EP X pins σ Q (.ref h'.objs.size) { s with heap:=h2,toks:=tk }:=λds ws t hz ho h2 c kp2 eo=>by
  subst ho;have fr:=I'.hok.fresh (aj h'.objs.size);exact⟨.ref h'.objs.size,_,I'.laid (t':=tk) kp2 (aj _) (show F9 X.prog X.w _ h2 _ (.lst (ds.map bX6)) from⟨by rw[ak,dQ];omega,_,c,t.vals,eo⟩),rfl,k _ _ fr t.reps (by rw[ak];exact hz)⟩
 unfold an5 at e3;split at e3
 ·rename_i h2;cases e3;exact hR its its _ (by omega) (λ_=>rfl) (λh3=>absurd h3 (by omega)) λh2' c kp2 eo=>fin _ its T (by omega) rfl h2' c kp2 eo
 ·split at e3
  ·rename_i h2 h3;cases e3;have pin:=aQ0 (n:=(m.map (·.1)).length) (by omega);have lo:=aN1 (ltS (m.map (·.1))) pin;have plo:∀i∈(evT (ltS (m.map (·.1))) (kas_sort (m.map (·.1)).length)).toList,i < (m.map (·.1)).length:=λi hi=>lo.2 i (by simpa using hi)
   refine hR its ((evT (ltS (m.map (·.1))) (kas_sort (m.map (·.1)).length)).toList.map λi=>its.getD i eQ) _ (by omega) (λh3=>absurd h3 (by omega)) (λ_ h4 kp4=>?_) λh2' c kp2 eo=>fin _ _ (T.pick plo) (by rw[ak,bj,lo.1];exact h3) rfl h2' c kp2 eo
   refine kas_kind (T:=.type "str") (by omega) (λv hv=>?_) (by rfl) (by rfl) ?_
   ·obtain⟨j,hj,rfl⟩:=List.getElem_of_mem hv;obtain⟨x,t,e1,e2⟩:=T.at j (by omega);have:its[j]=.str x t:=by rw[← e2];simp[hj]
    rw[this];exact Looks.of_pure rfl
   ·rw[tl];refine aW0 (P:=LoP (m.map (·.1)).length) (lt:=ltS (m.map (·.1))) (λi j C hi hj hC=>?_) pin λ_=>⟨rfl,rfl⟩
    unfold kas_ask;obtain⟨x,t,e1,e2⟩:=T.at i hi;obtain⟨y,u,f1,f2⟩:=T.at j hj;rw[e2,f2];refine kas_lt_str ?_;unfold ltS at hC;rw[e1,f1]at hC;exact hC
  ·cases e3
end
end G
namespace G
open PySem PySem.Spec PyProof.Rows L2
def aU7(kvs:List (D×D))(x:Str):List (D×D):=kvs.filter λkv=>!Q3 x kv
theorem RepKs.drop{K:ag}{H:Hp}{x:Str}:∀{kvs:List (D×D)}{m:List (Key×V)},RepKs K H kvs m->RepKs K H (aU7 kvs x) (af2 m (.inr x))
 | [],_,h=>by cases h;rfl
 | (k,e)::r,_,⟨y,w,t,h1,h2,h3,h4⟩=>by
  subst h1 h2;have ih:=RepKs.drop (x:=x) h4;unfold aU7 af2 at ih ⊢;rw[cL,cL];by_cases e:y=x
  ·rw[if_neg (by simp[Q3,e]),if_neg (by simp[e])];exact ih
  ·rw[if_pos (by simp[Q3,e]),if_pos (by simp[e])];exact⟨y,w,_,rfl,rfl,h3,ih⟩
section
variable {X:Cx}{C:CT}{b:Bs}{ρ ρ':Rho}{q q' q1 q2:Os}{o o':Fo}{K:PySem.W.Frag}{σ:L2.St}{H Hf:Hp}{a:Addr}{fn:List Str}{kd:Bool}
theorem bb9(hc:X.calm=true):Q5 X (.builtin "sorted") (λvs H Q=>∃d kvs Hf m out,vs=[.ref d]/\H d=some (.dK kvs)/\RepKs X.K Hf m kvs/\an5 (m.map (·.1))=some out/\∀l us,H l=none->Reps X.K Hf out us->us.length < 64->Q (.ref l) (upd H l (.lst us))):=by
 intro pins s σ H vs us Q I rv ⟨d,kvs,Hf,m,out,e0,e1,rk,e3,k⟩;subst e0;obtain⟨u,rfl,rx⟩:=T6 rv;cases rx;exact bg6 (I.ok.hd hc) I e1 rk e3 k
def OP(X:Cx)(C:CT)(b:Bs)(ρ:Rho)(q:Os)(e:Expr)(d:D):Prop:=PE X e (λσ H Q=>∃Hf,OSt X.K C b ρ q σ H Hf/\∀v H' Hf',Grow H Hf H' Hf'->Rep X.K Hf' d v->Q v H')
theorem OP.oe(h:OP X C b ρ q e d):OE X C b ρ q e d q:=A5 h λσ H Q ⟨Hf,st,k⟩=>⟨Hf,st,λv H' Hf' g r=>k v H' Hf' (st.grow g) g.ext r⟩
theorem cy6(h:JE X e f)(w:f ρ=some d):OP X C b ρ q e d:=A5 (h ρ d w) λσ H Q ⟨Hf,st,k⟩=>⟨_,Hf,st.same,st.sl,k⟩
structure OPA (X:Cx) (C:CT) (b:Bs) (ρ:Rho) (q:Os) (es:List Expr) (ds:List D):Prop where
 len:ds.length=es.length
 run:PA X es (λσ H Q=>∃Hf,OSt X.K C b ρ q σ H Hf/\∀vs H' Hf',Grow H Hf H' Hf'->Reps X.K Hf' ds vs->Q vs H')
theorem bG7:OPA X C b ρ q [] []:=⟨rfl,λpos pins s σ H Q I ⟨Hf,st,k⟩=>D3 pos pins s σ H Q I (k [] H Hf (Grow.refl st.same) rfl)⟩
theorem bk6(h:OP X C b ρ q e d)(r:OPA X C b ρ q es ds)(hs:dO (e::es) X.env=(false,eval e X.env)::dO es X.env:=by rfl):OPA X C b ρ q (e::es) (d::ds) :=
 ⟨by simp[r.len],λpos pins s σ H Q I ⟨Hf,st,k⟩=>B6 h r.run hs pos pins s σ H Q I ⟨Hf,st,λv H1 Hf1 g1 r1=>⟨Hf1,st.grow g1,λvs H2 Hf2 g2 r2=>k (v::vs) H2 Hf2 (g1.trans g2) ⟨v,vs,rfl,r1.mono g2.ext,r2⟩⟩⟩⟩
theorem cc0(h:OPA X C b ρ q es ds)(hn:es.length<=1000:=by decide):OP X C b ρ q (.Tuple es k pos) (.tuple ds) :=
 A5 (aJ3 h.run) λσ H Q ⟨Hf,st,k⟩=>⟨Hf,st,λvs H1 Hf1 g r=>⟨by rw[r.length,h.len];exact bG (R7 hn),λp hp=>k _ _ _ (g.trans (Grow.laid g.sub hp)) ⟨p,vs,rfl,SqT.of A7,r.mono (Grow.laid (o:=.tup vs) g.sub hp).ext⟩⟩⟩
theorem FvA.grow(h:FvA K H Hf w v p)(g:Grow H Hf H' Hf'):FvA K H' Hf' w v p:=h.keep (λy hy=>by rcases h.kind y hy with⟨_,e⟩|⟨_,e⟩<;>(rw[e];exact g.big _ _ e)) g.ext
structure At2 (X:Cx) (C:CT) (kd:Bool) (fn:List Str) (ρ:Rho) (q:Os) (x:Str) (i j:Nat) (a:eW) (o:Fo):Prop where
 A:At1 X ρ q x i j a o
 c:FoC X.K (C kd) fn
 k:o.k=kd
theorem R9{kvs:List (Key×V)}(e1:H y=some (.dK kvs))(r1:RepKs K Hf m kvs)(x:Str):∃r:Option V,ad9 H y (.str x) r/\((F8 m x=none/\r=none)\/∃d v,F8 m x=some d/\r=some v/\Rep K Hf d v):=by
 refine⟨_,ad9.k (k:=Sum.inr x) e1,?_⟩;rcases r1.look x with⟨l1,l2⟩|⟨d,v,l1,l2,l3⟩
 ·exact .inl ⟨l1,l2⟩
 ·exact .inr ⟨d,v,l1,l2,l3⟩
variable {x f:Str}{i j:Nat}{m:List (D×D)}
theorem cc6(hu:X.A.units+64 < cLine)(Z:At2 X C kd fn ρ q x i j a o)(hf:f∈fn)(l:o.l.lookup f=some (.dic m))(he:OP X C b ρ q e (.str k))(mm:M1 X (.Attribute (.Name x p) f pos) "get" apos e cpos)(hb:eB (.Name x p) f X.env (eval (.Name x p) X.env)=eval (.Name x p) X.env):
  OP X C b ρ q (.Call (.Attribute (.Attribute (.Name x p) f pos) "get" apos) [e] [] cpos) ((F8 m k).getD .none) :=
 A5 (bj9 (by omega) (Y9 Z.A Z.c Z.k hf l hb) he mm) λσ H Q ⟨Hf,st,kk⟩=>⟨Hf,st,λcl v ps f1 hl fv hp=>by
  obtain⟨y,kvs,rfl,rfl,e1,r0⟩:=fv;refine⟨y,rfl,.inl ⟨kvs,.inl e1⟩,Hf,st,λu H1 Hf1 g1 r1=>?_⟩;cases r1;obtain⟨r,d1,d2⟩:=R9 (g1.big _ _ e1) (r0.mono g1.ext) k;refine⟨r,d1,?_⟩;rcases d2 with⟨l1,rfl⟩|⟨d,v,l1,rfl,l3⟩
  ·rw[l1]at kk;exact kk _ _ _ g1 rfl
  ·rw[l1]at kk;exact kk _ _ _ g1 l3⟩
theorem ct1(hu:X.A.units+64 < cLine)(Z:At2 X C kd fn ρ q x i j a o)(hf:f∈fn)(l:o.l.lookup f=some (.dic m))(he:OP X C b ρ q e (.str k))(hb:eB (.Name x p) f X.env (eval (.Name x p) X.env)=eval (.Name x p) X.env)(h1:behindInMarks .In (.Attribute (.Name x p) f pos)=false):
  OP X C b ρ q (.Compare e [.In] [.Attribute (.Name x p) f pos] cpos) (.bool (F8 m k).isSome) :=
 A5 (bk0 (bk4 (by omega) he (Y9 Z.A Z.c Z.k hf l hb)) h1) λσ H Q ⟨Hf,st,kk⟩=>⟨Hf,st,λu H1 Hf1 g1 r1=>⟨Hf1,st.grow g1,λcl v ps f1 hl fv hp=>by
  obtain⟨y,kvs,rfl,rfl,e1,r0⟩:=fv;cases r1;obtain⟨r,d1,d2⟩:=R9 e1 r0 k;refine⟨y,r,rfl,d1,?_⟩;rcases d2 with⟨l1,rfl⟩|⟨d,v,l1,rfl,l3⟩
  ·rw[l1]at kk;exact kk _ _ _ g1 rfl
  ·rw[l1]at kk;exact kk _ _ _ g1 rfl⟩⟩
theorem bk8(hu:X.A.units+64 < cLine)(Z:At2 X C kd fn ρ q x i j a o)(hf:f∈fn)(l:o.l.lookup f=some (.dic m))(he:OP X C b ρ q e (.str k))(hb:eB (.Name x p) f X.env (eval (.Name x p) X.env)=eval (.Name x p) X.env)(h1:behindInMarks .NotIn (.Attribute (.Name x p) f pos)=false):
  OP X C b ρ q (.Compare e [.NotIn] [.Attribute (.Name x p) f pos] cpos) (.bool (!(F8 m k).isSome)) :=
 A5 (bk0 (ap8 (by omega) he (Y9 Z.A Z.c Z.k hf l hb)) h1) λσ H Q ⟨Hf,st,kk⟩=>⟨Hf,st,λu H1 Hf1 g1 r1=>⟨Hf1,st.grow g1,λcl v ps f1 hl fv hp=>by
  obtain⟨y,kvs,rfl,rfl,e1,r0⟩:=fv;cases r1;obtain⟨r,d1,d2⟩:=R9 e1 r0 k;refine⟨y,r,rfl,d1,?_⟩;rcases d2 with⟨l1,rfl⟩|⟨d,v,l1,rfl,l3⟩
  ·rw[l1]at kk;exact kk _ _ _ g1 rfl
  ·rw[l1]at kk;exact kk _ _ _ g1 rfl⟩⟩
theorem cs8(hu:X.A.units+64 < cLine)(Z:At2 X C kd fn ρ q x i j a o)(hf:f∈fn)(l:o.l.lookup f=some (.dic m))(he:OP X C b ρ q e (.str k))(hb:eB (.Name x p) f X.env (eval (.Name x p) X.env)=eval (.Name x p) X.env)(h1:behindInMarks .In (.Attribute (.Name x p) f pos)=false):
  OT X C b ρ q (.Compare e [.In] [.Attribute (.Name x p) f pos] cpos) (F8 m k).isSome q :=
 X0 (bi4 (bk4 (by omega) he (Y9 Z.A Z.c Z.k hf l hb)) h1) λσ H Q ⟨Hf,st,kk⟩=>⟨Hf,st,λu H1 Hf1 g1 r1=>⟨Hf1,st.grow g1,λcl v ps f1 hl fv hp=>by
  obtain⟨y,kvs,rfl,rfl,e1,r0⟩:=fv;cases r1;obtain⟨r,d1,d2⟩:=R9 e1 r0 k;refine⟨y,r,rfl,d1,?_⟩;rcases d2 with⟨l1,rfl⟩|⟨d,v,l1,rfl,l3⟩
  ·rw[l1]at kk;exact⟨_,rfl,kk _ _ (st.grow g1) g1.ext⟩
  ·rw[l1]at kk;exact⟨_,rfl,kk _ _ (st.grow g1) g1.ext⟩⟩⟩
theorem bk5(hu:X.A.units+64 < cLine)(Z:At2 X C kd fn ρ q x i j a o)(hf:f∈fn)(l:o.l.lookup f=some (.dic m))(he:OP X C b ρ q e (.str k))(hb:eB (.Name x p) f X.env (eval (.Name x p) X.env)=eval (.Name x p) X.env)(h1:behindInMarks .NotIn (.Attribute (.Name x p) f pos)=false):
  OT X C b ρ q (.Compare e [.NotIn] [.Attribute (.Name x p) f pos] cpos) (!(F8 m k).isSome) q :=
 X0 (bi4 (ap8 (by omega) he (Y9 Z.A Z.c Z.k hf l hb)) h1) λσ H Q ⟨Hf,st,kk⟩=>⟨Hf,st,λu H1 Hf1 g1 r1=>⟨Hf1,st.grow g1,λcl v ps f1 hl fv hp=>by
  obtain⟨y,kvs,rfl,rfl,e1,r0⟩:=fv;cases r1;obtain⟨r,d1,d2⟩:=R9 e1 r0 k;refine⟨y,r,rfl,d1,?_⟩;rcases d2 with⟨l1,rfl⟩|⟨d,v,l1,rfl,l3⟩
  ·rw[l1]at kk;exact⟨_,rfl,kk _ _ (st.grow g1) g1.ext⟩
  ·rw[l1]at kk;exact⟨_,rfl,kk _ _ (st.grow g1) g1.ext⟩⟩⟩
theorem bH2(hu:X.A.units+64 < cLine)(Z:At2 X C kd fn ρ q x i j a o)(hf:f∈fn)(l:o.l.lookup f=some (.dic m))(he:OP X C b ρ q e (.str k))(l':F8 m k=some d)(hs:bN2 e)(hb:eB (.Name x p) f X.env (eval (.Name x p) X.env)=eval (.Name x p) X.env):
  OP X C b ρ q (.Subscript (.Attribute (.Name x p) f pos) e cpos) d :=
 A5 (bG3 (by omega) (Y9 Z.A Z.c Z.k hf l hb) he hs) λσ H Q ⟨Hf,st,kk⟩=>⟨Hf,st,λcl v ps f1 hl fv hp=>by
  obtain⟨y,kvs,rfl,rfl,e1,r0⟩:=fv;refine⟨Hf,st,λu H1 Hf1 g1 r1=>?_⟩;cases r1;obtain⟨r,d1,d2⟩:=R9 (g1.big _ _ e1) (r0.mono g1.ext) k;rcases d2 with⟨l1,rfl⟩|⟨d',v,l1,rfl,l3⟩
  ·rw[l']at l1;cases l1
  ·rw[l']at l1;cases l1
   exact⟨y,v,rfl,d1,kk _ _ _ g1 l3⟩⟩
theorem cc4(Z:At2 X C kd fn ρ q x i j a o)(hf:f∈fn)(l:o.l.lookup f=some (.lst ds))(hg:Gl X "len")(hm:X.mg "len" = none)(hb:eB (.Name x p) f X.env (eval (.Name x p) X.env)=eval (.Name x p) X.env)(hs:dO [.Attribute (.Name x p) f pos] X.env=[(false,eval (.Attribute (.Name x p) f pos) X.env)]:=by rfl):OP X C b ρ q (.Call (.Name "len" p1) [.Attribute (.Name x p) f pos] [] cpos) (.int ds.length) :=
 A5 (J1 bw8 hg hm (by rfl) (B6 (Y9 Z.A Z.c Z.k hf l hb) D3 hs) (he:=hs)) λσ H Q ⟨Hf,st,kk⟩=>⟨Hf,st,λcl v ps f1 hl fv hp=>by
  obtain⟨y,vs,rfl,rfl,e0,r0⟩:=fv
  exact⟨_,ds.length,rfl,.inl ⟨vs,SqL.of e0,by rw[r0.length]⟩,kk _ _ _ (Grow.refl st.same) rfl⟩⟩
theorem cc1(hc:X.calm=true)(Z:At2 X C kd fn ρ q x i j a o)(hf:f∈fn)(l:o.l.lookup f=some (.dic m))(ho:an5 (m.map (·.1))=some out)(hg:Gl X "sorted")(hm:X.mg "sorted" = none)(hb:eB (.Name x p) f X.env (eval (.Name x p) X.env)=eval (.Name x p) X.env)(hs:dO [.Attribute (.Name x p) f pos] X.env=[(false,eval (.Attribute (.Name x p) f pos) X.env)]:=by rfl):OP X C b ρ q (.Call (.Name "sorted" p1) [.Attribute (.Name x p) f pos] [] cpos) (.list out) :=
 A5 (J1 (bb9 hc) hg hm (by rfl) (B6 (Y9 Z.A Z.c Z.k hf l hb) D3 hs) (he:=hs)) λσ H Q ⟨Hf,st,kk⟩=>⟨Hf,st,λcl v ps f1 hl fv hp=>by
  obtain⟨y,kvs,rfl,rfl,e1,r1⟩:=fv
  exact⟨y,kvs,Hf,m,out,rfl,e1,r1,ho,λl us hl rs hz=>kk _ _ _ (Grow.laid st.same hl) ⟨l,us,rfl,SqL.of A7,rs.mono (D5 (st.same.free hl))⟩⟩⟩
end
end G
namespace G
open PySem PySem.Spec PyProof.Rows L2
section
variable {X:Cx}{C:CT}{b:Bs}{ρ ρ':Rho}{q q' q1 q2:Os}{o o':Fo}{K:PySem.W.Frag}{σ:L2.St}{H Hf:Hp}{a:Addr}{fn:List Str}{kd:Bool}{x f:Str}{i j:Nat}{m:List (D×D)}
theorem cb5(hu:X.A.units+64 < cLine)(Z:At2 X C kd fn ρ q x i j a o)(hf:f∈fn)(l:o.l.lookup f=some (.dic m))(he:OP X C b ρ q e (.str k))(hv:OP X C b ρ q v d)(hz:m.length < 1000)(hb:eB (.Name x p) f X.env (eval (.Name x p) X.env)=eval (.Name x p) X.env)
  (hs:swapsWith v (some (.Subscript (.Attribute (.Name x p) f pos) e pos')) pos2.line X.env=pure false) :
  OS X C b ρ q (.Assign [.Subscript (.Attribute (.Name x p) f pos) e pos'] v pos2) (.nx ρ (q.set j (a,⟨o.k,Q6 f (.dic (ak1 m k d)) o.l⟩))) :=
 D0 (bF6 (by omega) (Y9 Z.A Z.c Z.k hf l hb) he hv hs) λEn σ H ⟨Hf,st,kk⟩=>⟨Hf,st,λu H1 Hf1 g1 r1=>⟨Hf1,st.grow g1,λcl v ps f1 hl fv hp=>by
  have fv':=fv;obtain⟨y,kvs,rfl,rfl,e0,r0⟩:=fv;refine⟨Hf1,st.grow g1,λy' H2 Hf2 g2 r2=>?_⟩;cases r2;have st2:=(st.grow g1).grow g2;have f2:=f1.grow g2;have r3:=r0.mono g2.ext;have hy:=hp y (by simp);refine⟨y,_,rfl,bx8.k (k:=Sum.inr k) (g2.big _ _ e0) (by rw[RepKs.length r3];exact R7 (bG hz)),?_⟩;obtain⟨c',f3,k3⟩:=st2.focus Z.A.w Z.A.o;cases FoAt.same f3 f2
  exact kk σ _ Hf2 (k3 (Chg.wr g2.sub (ai _ hy) (f2.fr y (ai _ hy))) (f2.wr l (fv'.grow g2) hl hy ⟨y,_,rfl,rfl,A7,r3.put (r1.mono g2.ext)⟩) λz hz=>.inl hz) (g1.ext.trans g2.ext)⟩⟩
theorem cb6(Z:At2 X C kd fn ρ q x i j a o)(hf:f∈fn)(l:o.l.lookup f=some (.dic m))(he:OP X C b ρ q e (.str k))(hk:(F8 m k).isSome=true)(mm:M1 X (.Attribute (.Name x p) f pos) "pop" apos e cpos)(hb:eB (.Name x p) f X.env (eval (.Name x p) X.env)=eval (.Name x p) X.env)
  (hs:swapsWith (.Call (.Attribute (.Attribute (.Name x p) f pos) "pop" apos) [e] [] cpos) none pos2.line X.env=pure false) :
  OS X C b ρ q (.Expr (.Call (.Attribute (.Attribute (.Name x p) f pos) "pop" apos) [e] [] cpos) pos2) (.nx ρ (q.set j (a,⟨o.k,Q6 f (.dic (aU7 m k)) o.l⟩))) :=
 D0 (u4 (bj7 (Y9 Z.A Z.c Z.k hf l hb) he mm) hs) λEn σ H ⟨Hf,st,kk⟩=>⟨Hf,st,λcl v ps f1 hl fv hp=>by
  have fv':=fv;obtain⟨y,kvs,rfl,rfl,e0,r0⟩:=fv;refine⟨y,rfl,.inl ⟨kvs,.inl e0⟩,Hf,st,λy' H2 Hf2 g2 r2=>?_⟩;cases r2;have st2:=st.grow g2;have f2:=f1.grow g2;have r3:=r0.mono g2.ext;have hy:=hp y (by simp);rcases r3.look k with⟨l1,_⟩|⟨d,v,l1,l2,l3⟩
  ·rw[l1]at hk;cases hk
  refine⟨kvs,Sum.inr k,v,g2.big _ _ e0,rfl,l2,?_⟩;obtain⟨c',f3,k3⟩:=st2.focus Z.A.w Z.A.o;cases FoAt.same f3 f2
  exact kk σ _ Hf2 (k3 (Chg.wr g2.sub (ai _ hy) (f2.fr y (ai _ hy))) (f2.wr l (fv'.grow g2) hl hy ⟨y,_,rfl,rfl,A7,r3.drop⟩) λz hz=>.inl hz) g2.ext⟩
theorem cb9(Z:At2 X C kd fn ρ q x i j a o)(hf:f∈fn)(l:o.l.lookup f=some (.lst ds))(hv:OP X C b ρ q e d)(hz:ds.length < 1000)(hb:eB (.Name x p) f X.env (eval (.Name x p) X.env)=eval (.Name x p) X.env)
  (hbase:eB (.Attribute (.Name x p) f pos) "append" X.env (eval (.Attribute (.Name x p) f pos) X.env)=eval (.Attribute (.Name x p) f pos) X.env)
  (hfew:((backTo cpos (dO [e] X.env)).all (λx=>!x.1)&&(backToKw cpos (keywordEach [] X.env)).all (λx=>x.1.isSome)
   && decide (([e]:List Expr).length+([]:List eh).length+(if([]:List eh).isEmpty then 0 else 1) < 30))=true)
  (hline:(apos.endLine==cpos.line)=true) (hst:dO [e] X.env=[(false,eval e X.env)])
  (hs:swapsWith (.Call (.Attribute (.Attribute (.Name x p) f pos) "append" apos) [e] [] cpos) none pos2.line X.env=pure false) :
  OS X C b ρ q (.Expr (.Call (.Attribute (.Attribute (.Name x p) f pos) "append" apos) [e] [] cpos) pos2) (.nx ρ (q.set j (a,⟨o.k,Q6 f (.lst (ds++[d])) o.l⟩))) :=
 D0 (u4 (ak5 PySem.F.plainAttrs_list PySem.F.slot_list_append PySem.F.type_list_append j6 (Y9 Z.A Z.c Z.k hf l hb) (B6 hv D3 hst) hbase hfew hline hst (by rfl)) hs) λEn σ H ⟨Hf,st,kk⟩=>⟨Hf,st,λcl v ps f1 hl fv hp=>by
  have fv':=fv;obtain⟨y,vs,rfl,rfl,e0,r0⟩:=fv;refine⟨.inl ⟨rfl,vs,SqL.of e0⟩,Hf,st,λv H2 Hf2 g2 r2=>?_⟩;have st2:=st.grow g2;have f2:=f1.grow g2;have r3:=r0.mono g2.ext;have hy:=hp y (by simp);refine⟨y,vs,v,rfl,rfl,g2.big _ _ e0,by rw[r3.length];exact R7 (bG hz),?_⟩;obtain⟨c',f3,k3⟩:=st2.focus Z.A.w Z.A.o;cases FoAt.same f3 f2
  exact kk σ _ Hf2 (k3 (Chg.wr g2.sub (ai _ hy) (f2.fr y (ai _ hy))) (f2.wr l (fv'.grow g2) hl hy ⟨y,_,rfl,rfl,A7,r3.append ⟨v,[],rfl,r2,rfl⟩⟩) λz hz=>.inl hz) g2.ext⟩
def OFr(X:Cx)(C:CT)(b:Bs)(ρ:Rho)(q:Os)(e:Expr)(w:Fv):Prop:=PE X e (λσ H Q=>∃Hf,OSt X.K C b ρ q σ H Hf/\∀l u,H l=none->FvA X.K (upd H l u) Hf w (.ref l) [l]->Q (.ref l) (upd H l u))
theorem bH6:OFr X C b ρ q (.List [] lp) (.lst []):=A5 (bj5 D3) λσ H Q ⟨Hf,st,kk⟩=>⟨by show 0<=dP;decide,λl hl=>kk l _ hl ⟨l,[],rfl,rfl,A7,rfl⟩⟩
theorem bl3:OFr X C b ρ q (.Dict [] [] lp) (.dic []):=A5 bj8 λσ H Q ⟨Hf,st,kk⟩ l hl=>kk l _ hl ⟨l,[],rfl,rfl,A7,rfl⟩
theorem cb7(Z:At2 X C kd fn ρ q x i j a o)(hf:f∈fn)(h:OFr X C b ρ q e w)(hz:o.l.length < 1000)(hs:swapsWith e (some (.Attribute (.Name x p) f pos')) pos.line X.env=pure false):
  OS X C b ρ q (.Assign [.Attribute (.Name x p) f pos'] e pos) (.nx ρ (q.set j (a,⟨o.k,Q6 f w o.l⟩))) :=
 D0 (bi6 (J9 Z.A.n Z.A.v Z.A.d1 Z.A.d2) h hs) λEn σ H ⟨Hf,st,kk⟩=>⟨Hf,st,λl u hl fv=>by
  have g:Grow H Hf (upd H l u) Hf:=Grow.made st.same hl;obtain⟨c',f0,k3⟩:=st.focus Z.A.w Z.A.o;have f3:=f0.grow g;have nl:l∉cells a c':=λhy=>f0.there l hy hl
  obtain⟨ps',p1,p2⟩:=f3.put (f:=f) fv λy hy=>by rw[aN.mp hy];exact⟨nl,st.same.free hl⟩
  refine⟨_,T7 st Z.A.s,a,C kd,c'.dx,c'.fs,rfl,by rw[← Z.k];exact f3.ins,Z.c.cl,Z.c.na f hf,by rw[f3.fl.len];exact hz,?_⟩;have ek:C kd=C o.k:=by rw[Z.k]
  rw[ek];refine kk σ _ Hf (k3 ((Chg.of g).trans (Chg.wr (S:=cells a c') g.sub (by simp) (f3.fr _ (by simp))) λ_ h=>.inl h) p1 λz hz=>?_) (B0.refl _);rcases ax.mp hz with rfl|hz
  ·exact .inl (by simp)
  ·exact(p2 z hz).elim (λh=>.inr (by rw[aN.mp h];exact hl)) λh=>.inl (ai _ h)⟩
end
end G
namespace G
open PySem PySem.Spec PyProof.Rows L2
abbrev UV:=Rho->Fs->Option D
structure Nmd (X:Cx) (i:Nat) (x:Str):Prop where
 n:X.N[i]? = some x
 v:Vis X.env.scope x
 d1:(x==("__debug__" : Str))=false
 d2:(x==("__classdict__" : Str))=false
def UP(X:Cx)(C:CT)(e:Expr)(g:UV):Prop:=∀ρ q d,g ρ q=some d->okR q.length ρ=true->∀b (as:List eW),as.length=q.length->OP X C b (sub as ρ) (as.zip q) e d
def aZ3:D->Option Str
 | .str k=>some k
 | _=>none
theorem T9(h:(o:Option D).bind aZ3=some k):o=some (.str k):=by
 obtain⟨w,rfl,h⟩:=ae.mp h;cases w<;>cases h;rfl
def aw9(i:Nat)(kd:Bool)(f:Str)(ρ:Rho)(q:Fs):Option (Nat×Fo×List (D×D)):=(M4 i ρ q).bind λp=>if p.2.k=kd then(match p.2.l.lookup f with
 | some (.dic m)=>some (p.1,p.2,m)
 | _=>none) else none
def aL6(i:Nat)(kd:Bool)(f:Str)(ρ:Rho)(q:Fs):Option (Nat×Fo×List D):=(M4 i ρ q).bind λp=>if p.2.k=kd then(match p.2.l.lookup f with
 | some (.lst m)=>some (p.1,p.2,m)
 | _=>none) else none
section
variable {X:Cx}{C:CT}{fn:List Str}{kd:Bool}{x f:Str}{i j:Nat}{ρ:Rho}{q:Fs}{o:Fo}{as:List Addr}{b:Bs}
theorem U1(h:aw9 i kd f ρ q=some (j,o,m))(c:FoC X.K (C kd) fn)(no:okR q.length ρ=true)(l:as.length=q.length)(N:Nmd X i x):∃a,as[j]? = some a/\At2 X C kd fn (sub as ρ) (as.zip q) x i j a o/\o.l.lookup f=some (.dic m):=by
 obtain⟨⟨j',o'⟩,e,h⟩:=ae.mp h;split at h
 ·rename_i hk;split at h
  ·rename_i e2;cases h;obtain⟨a,ea,A⟩:=G3 e (O1 no) l N.n N.v N.d1 N.d2;exact⟨a,ea,⟨A,c,hk⟩,e2⟩
  ·cases h
 ·cases h
theorem aU3(h:aL6 i kd f ρ q=some (j,o,m))(c:FoC X.K (C kd) fn)(no:okR q.length ρ=true)(l:as.length=q.length)(N:Nmd X i x):∃a,as[j]? = some a/\At2 X C kd fn (sub as ρ) (as.zip q) x i j a o/\o.l.lookup f=some (.lst m):=by
 obtain⟨⟨j',o'⟩,e,h⟩:=ae.mp h;split at h
 ·rename_i hk;split at h
  ·rename_i e2;cases h;obtain⟨a,ea,A⟩:=G3 e (O1 no) l N.n N.v N.d1 N.d2;exact⟨a,ea,⟨A,c,hk⟩,e2⟩
  ·cases h
 ·cases h
def vP(f:DE):UV:=λρ _=>f (era ρ)
theorem W8{g:DE}(h:JE X e g):UP X C e (vP g):=λρ q d w _ b as _=>A5 (h (era ρ) d w) λσ H Q ⟨Hf,st,k⟩=>⟨_,Hf,st.same,by rw[← K2 as ρ];exact st.sl.era,k⟩
def uL(g:UV):UD:=λρ q=>(g ρ q).map λd=>(d,q)
theorem bB1(h:UP X C e g):UE X C e (uL g):=λρ q d q' w no=>by
 obtain⟨d',e1,e2⟩:=af.mp w;cases e2;exact⟨rfl,λb as l=>(h ρ q d e1 no b as l).oe⟩
def aW8(i:Nat)(kd:Bool)(f:Str)(g:UV):UV:=λρ q=>(aw9 i kd f ρ q).bind λt=>((g ρ q).bind aZ3).map λk=>(F8 t.2.2 k).getD .none
theorem bV0(hu:X.A.units+64 < cLine)(c:FoC X.K (C kd) fn)(hf:f∈fn)(N:Nmd X i x)(he:UP X C e g)(mm:M1 X (.Attribute (.Name x p) f pos) "get" apos e cpos)(hb:eB (.Name x p) f X.env (eval (.Name x p) X.env)=eval (.Name x p) X.env):
  UP X C (.Call (.Attribute (.Attribute (.Name x p) f pos) "get" apos) [e] [] cpos) (aW8 i kd f g):=λρ q d w no b as l=>by
 obtain⟨⟨j,o,m⟩,e1,w⟩:=ae.mp w;obtain⟨k,e2,w⟩:=af.mp w;subst w;obtain⟨a,ea,Z,z⟩:=U1 e1 c no l N;exact cc6 hu Z hf z (he ρ q _ (T9 e2) no b as l) mm hb
def vIn(neg:Bool)(i:Nat)(kd:Bool)(f:Str)(g:UV):UV:=λρ q=>(aw9 i kd f ρ q).bind λt=>((g ρ q).bind aZ3).map λk=>.bool (if neg then !(F8 t.2.2 k).isSome else(F8 t.2.2 k).isSome)
theorem co9(hu:X.A.units+64 < cLine)(c:FoC X.K (C kd) fn)(hf:f∈fn)(N:Nmd X i x)(he:UP X C e g)(hb:eB (.Name x p) f X.env (eval (.Name x p) X.env)=eval (.Name x p) X.env)(h1:behindInMarks .In (.Attribute (.Name x p) f pos)=false):
  UP X C (.Compare e [.In] [.Attribute (.Name x p) f pos] cpos) (vIn false i kd f g):=λρ q d w no b as l=>by
 obtain⟨⟨j,o,m⟩,e1,w⟩:=ae.mp w;obtain⟨k,e2,w⟩:=af.mp w;subst w;obtain⟨a,ea,Z,z⟩:=U1 e1 c no l N;exact ct1 hu Z hf z (he ρ q _ (T9 e2) no b as l) hb h1
theorem be3(hu:X.A.units+64 < cLine)(c:FoC X.K (C kd) fn)(hf:f∈fn)(N:Nmd X i x)(he:UP X C e g)(hb:eB (.Name x p) f X.env (eval (.Name x p) X.env)=eval (.Name x p) X.env)(h1:behindInMarks .NotIn (.Attribute (.Name x p) f pos)=false):
  UP X C (.Compare e [.NotIn] [.Attribute (.Name x p) f pos] cpos) (vIn true i kd f g):=λρ q d w no b as l=>by
 obtain⟨⟨j,o,m⟩,e1,w⟩:=ae.mp w;obtain⟨k,e2,w⟩:=af.mp w;subst w;obtain⟨a,ea,Z,z⟩:=U1 e1 c no l N;exact bk8 hu Z hf z (he ρ q _ (T9 e2) no b as l) hb h1
theorem bN9(neg:Bool)(hu:X.A.units+64 < cLine)(c:FoC X.K (C kd) fn)(hf:f∈fn)(N:Nmd X i x)(he:UP X C e g)(hb:eB (.Name x p) f X.env (eval (.Name x p) X.env)=eval (.Name x p) X.env)(h1:behindInMarks (if neg then .NotIn else .In) (.Attribute (.Name x p) f pos)=false):
  UT X C (.Compare e [if neg then .NotIn else .In] [.Attribute (.Name x p) f pos] cpos) (uTB (uL (vIn neg i kd f g))):=λρ q d q' w no=>by
 obtain⟨⟨d0,q1⟩,w1,w⟩:=ae.mp w;obtain⟨d1,w2,w3⟩:=af.mp w1;cases w3;obtain⟨c0,w4,w5⟩:=af.mp w;cases w5;obtain⟨⟨j,o,m⟩,e1,w2⟩:=ae.mp w2;obtain⟨k,e2,w2⟩:=af.mp w2;subst w2;cases w4;refine⟨rfl,λb as l=>?_⟩;obtain⟨a,ea,Z,z⟩:=U1 e1 c no l N;cases neg
 ·exact cs8 hu Z hf z (he ρ q _ (T9 e2) no b as l) hb h1
 ·exact bk5 hu Z hf z (he ρ q _ (T9 e2) no b as l) hb h1
def aO0(i:Nat)(kd:Bool)(f:Str)(g:UV):UV:=λρ q=>(aw9 i kd f ρ q).bind λt=>((g ρ q).bind aZ3).bind λk=>F8 t.2.2 k
theorem bA4(hu:X.A.units+64 < cLine)(c:FoC X.K (C kd) fn)(hf:f∈fn)(N:Nmd X i x)(he:UP X C e g)(hs:bN2 e)(hb:eB (.Name x p) f X.env (eval (.Name x p) X.env)=eval (.Name x p) X.env):
  UP X C (.Subscript (.Attribute (.Name x p) f pos) e cpos) (aO0 i kd f g):=λρ q d w no b as l=>by
 obtain⟨⟨j,o,m⟩,e1,w⟩:=ae.mp w;obtain⟨k,e2,w⟩:=ae.mp w;obtain⟨a,ea,Z,z⟩:=U1 e1 c no l N;exact bH2 hu Z hf z (he ρ q _ (T9 e2) no b as l) w hs hb
def aA1(i:Nat)(kd:Bool)(f:Str):UV:=λρ q=>(aL6 i kd f ρ q).map λt=>.int t.2.2.length
theorem bU9(c:FoC X.K (C kd) fn)(hf:f∈fn)(N:Nmd X i x)(hg:Gl X "len")(hm:X.mg "len" = none)(hb:eB (.Name x p) f X.env (eval (.Name x p) X.env)=eval (.Name x p) X.env):UP X C (.Call (.Name "len" p1) [.Attribute (.Name x p) f pos] [] cpos) (aA1 i kd f):=λρ q d w no b as l=>by
 obtain⟨⟨j,o,m⟩,e1,w⟩:=af.mp w;subst w;obtain⟨a,ea,Z,z⟩:=aU3 e1 c no l N;exact cc4 Z hf z hg hm hb
def bz2(i:Nat)(kd:Bool)(f:Str):UV:=λρ q=>(aw9 i kd f ρ q).bind λt=>(an5 (t.2.2.map (·.1))).map PyData.list
theorem bU8(hc:X.calm=true)(c:FoC X.K (C kd) fn)(hf:f∈fn)(N:Nmd X i x)(hg:Gl X "sorted")(hm:X.mg "sorted" = none)(hb:eB (.Name x p) f X.env (eval (.Name x p) X.env)=eval (.Name x p) X.env):UP X C (.Call (.Name "sorted" p1) [.Attribute (.Name x p) f pos] [] cpos) (bz2 i kd f):=λρ q d w no b as l=>by
 obtain⟨⟨j,o,m⟩,e1,w⟩:=ae.mp w;obtain⟨out,e2,w⟩:=af.mp w;subst w;obtain⟨a,ea,Z,z⟩:=U1 e1 c no l N;exact cc1 hc Z hf z e2 hg hm hb
abbrev VL:=Rho->Fs->Option (List D)
def UPA(X:Cx)(C:CT)(es:List Expr)(g:VL):Prop:=∀ρ q ds,g ρ q=some ds->okR q.length ρ=true->∀b (as:List eW),as.length=q.length->OPA X C b (sub as ρ) (as.zip q) es ds
def vlN:VL:=λ_ _=>some []
def vlC(f:UV)(g:VL):VL:=λρ q=>(f ρ q).bind λd=>(g ρ q).map λds=>d::ds
theorem bA3:UPA X C [] vlN:=λρ q ds w _ b as _=>by cases w;exact bG7
theorem be2{f:UV}(h:UP X C e f)(r:UPA X C es g)(hs:dO (e::es) X.env=(false,eval e X.env)::dO es X.env):UPA X C (e::es) (vlC f g):=λρ q ds w no b as l=>by
 obtain⟨d,e1,w⟩:=ae.mp w;obtain⟨ds',e2,w⟩:=af.mp w;subst w;exact bk6 (h ρ q d e1 no b as l) (r ρ q ds' e2 no b as l) hs
def bd6(g:VL):UV:=λρ q=>(g ρ q).map PyData.tuple
theorem bU7(h:UPA X C es g)(hn:es.length<=1000):UP X C (.Tuple es k pos) (bd6 g):=λρ q d w no b as l=>by
 obtain⟨ds,e1,w⟩:=af.mp w;subst w;exact cc0 (h ρ q ds e1 no b as l) hn
theorem aO2{o':Fo}{s0:Stmt}(ea:as[j]? = some a)(h:OS X C b (sub as ρ) (as.zip q) s0 (.nx (sub as ρ) ((as.zip q).set j (a,o'))))(l:as.length=q.length):PS X s0 (tU X C b as ρ q (.nx ρ (q.set j o'))) :=
 D0 h λEn σ H ⟨Hf,st,k⟩=>⟨Hf,st,λσ' H' Hf' s' e'=>x0 k (by rw[bF];exact l) σ' H' Hf' (by rw[K0 ea];exact s') e'⟩
theorem ah5{o':Fo}(no:okR q.length ρ=true):(UF.nx ρ (q.set j o')).own=true:=by show okR (q.set j o').length ρ=true;rw[bF];exact no
def by2(i:Nat)(kd:Bool)(f:Str)(gk gv:UV):UX:=λρ q=>(aw9 i kd f ρ q).bind λt=>((gk ρ q).bind aZ3).bind λk=>(gv ρ q).bind λd=>if t.2.2.length < 1000 then some (.nx ρ (q.set t.1 ⟨t.2.1.k,Q6 f (.dic (ak1 t.2.2 k d)) t.2.1.l⟩)) else none
theorem bz7(hu:X.A.units+64 < cLine)(c:FoC X.K (C kd) fn)(hf:f∈fn)(N:Nmd X i x)(he:UP X C e gk)(hv:UP X C v gv)(hb:eB (.Name x p) f X.env (eval (.Name x p) X.env)=eval (.Name x p) X.env)(hs:swapsWith v (some (.Subscript (.Attribute (.Name x p) f pos) e pos')) pos2.line X.env=pure false):
  US X C (.Assign [.Subscript (.Attribute (.Name x p) f pos) e pos'] v pos2) (by2 i kd f gk gv):=λρ q fl w no=>by
 obtain⟨⟨j,o,m⟩,e1,w⟩:=ae.mp w;obtain⟨k,e2,w⟩:=ae.mp w;obtain⟨d,e3,w⟩:=ae.mp w;split at w
 ·rename_i hz;cases w;refine⟨ah5 no,λb as l=>?_⟩;obtain⟨a,ea,Z,z⟩:=U1 e1 c no l N;exact aO2 ea (cb5 hu Z hf z (he ρ q _ (T9 e2) no b as l) (hv ρ q d e3 no b as l) hz hb hs) l
 ·cases w
def bS4(i:Nat)(kd:Bool)(f:Str)(gk:UV):UX:=λρ q=>(aw9 i kd f ρ q).bind λt=>((gk ρ q).bind aZ3).bind λk=>if(F8 t.2.2 k).isSome then some (.nx ρ (q.set t.1 ⟨t.2.1.k,Q6 f (.dic (aU7 t.2.2 k)) t.2.1.l⟩)) else none
theorem bz8(c:FoC X.K (C kd) fn)(hf:f∈fn)(N:Nmd X i x)(he:UP X C e gk)(mm:M1 X (.Attribute (.Name x p) f pos) "pop" apos e cpos)(hb:eB (.Name x p) f X.env (eval (.Name x p) X.env)=eval (.Name x p) X.env)(hs:swapsWith (.Call (.Attribute (.Attribute (.Name x p) f pos) "pop" apos) [e] [] cpos) none pos2.line X.env=pure false):
  US X C (.Expr (.Call (.Attribute (.Attribute (.Name x p) f pos) "pop" apos) [e] [] cpos) pos2) (bS4 i kd f gk):=λρ q fl w no=>by
 obtain⟨⟨j,o,m⟩,e1,w⟩:=ae.mp w;obtain⟨k,e2,w⟩:=ae.mp w;split at w
 ·rename_i hz;cases w;refine⟨ah5 no,λb as l=>?_⟩;obtain⟨a,ea,Z,z⟩:=U1 e1 c no l N;exact aO2 ea (cb6 Z hf z (he ρ q _ (T9 e2) no b as l) hz mm hb hs) l
 ·cases w
def bz0(i:Nat)(kd:Bool)(f:Str)(gv:UV):UX:=λρ q=>(aL6 i kd f ρ q).bind λt=>(gv ρ q).bind λd=>if t.2.2.length < 1000 then some (.nx ρ (q.set t.1 ⟨t.2.1.k,Q6 f (.lst (t.2.2++[d])) t.2.1.l⟩)) else none
theorem bA2(c:FoC X.K (C kd) fn)(hf:f∈fn)(N:Nmd X i x)(hv:UP X C e gv)(mm:M1 X (.Attribute (.Name x p) f pos) "append" apos e cpos)(hst:dO [e] X.env=[(false,eval e X.env)])(hb:eB (.Name x p) f X.env (eval (.Name x p) X.env)=eval (.Name x p) X.env)(hs:swapsWith (.Call (.Attribute (.Attribute (.Name x p) f pos) "append" apos) [e] [] cpos) none pos2.line X.env=pure false):
  US X C (.Expr (.Call (.Attribute (.Attribute (.Name x p) f pos) "append" apos) [e] [] cpos) pos2) (bz0 i kd f gv):=λρ q fl w no=>by
 obtain⟨⟨j,o,m⟩,e1,w⟩:=ae.mp w;obtain⟨d,e2,w⟩:=ae.mp w;split at w
 ·rename_i hz;cases w;refine⟨ah5 no,λb as l=>?_⟩;obtain⟨a,ea,Z,z⟩:=aU3 e1 c no l N;exact aO2 ea (cb9 Z hf z (hv ρ q d e2 no b as l) hz hb mm.base mm.few mm.line hst hs) l
 ·cases w
abbrev UFr:=Rho->Fs->Option Fv
def UN2(X:Cx)(C:CT)(e:Expr)(g:UFr):Prop:=∀ρ q w,g ρ q=some w->okR q.length ρ=true->∀b (as:List eW),as.length=q.length->OFr X C b (sub as ρ) (as.zip q) e w
def bd2:UFr:=λ_ _=>some (.lst [])
def bd3:UFr:=λ_ _=>some (.dic [])
theorem bV1:UN2 X C (.List [] lp) bd2:=λρ q w h _ b as _=>by cases h;exact bH6
theorem bA6:UN2 X C (.Dict [] [] lp) bd3:=λρ q w h _ b as _=>by cases h;exact bl3
def aG7(i:Nat)(kd:Bool)(f:Str)(g:UFr):UX:=λρ q=>(M4 i ρ q).bind λp=>(g ρ q).bind λw=>if p.2.k=kd/\p.2.l.length < 1000 then some (.nx ρ (q.set p.1 ⟨p.2.k,Q6 f w p.2.l⟩)) else none
theorem bA0(c:FoC X.K (C kd) fn)(hf:f∈fn)(N:Nmd X i x)(h:UN2 X C e g)(hs:swapsWith e (some (.Attribute (.Name x p) f pos')) pos.line X.env=pure false):US X C (.Assign [.Attribute (.Name x p) f pos'] e pos) (aG7 i kd f g):=λρ q fl w no=>by
 obtain⟨⟨j,o⟩,e1,w⟩:=ae.mp w;obtain⟨v,e2,w⟩:=ae.mp w;split at w
 ·rename_i hz;cases w;refine⟨ah5 no,λb as l=>?_⟩;obtain⟨a,ea,A⟩:=G3 e1 (O1 no) l N.n N.v N.d1 N.d2;exact aO2 ea (cb7 ⟨A,c,hz.1⟩ hf (h ρ q v e2 no b as l) hz.2 hs) l
 ·cases w
end
end G
namespace G
open PySem PySem.Spec PyProof.Rows L2
def bh0(K:ag)(C:CT)(n:Nat)(F:List D->Option Fo):Sp:=λvs H Q _=>vs.length=n/\∃Hf ds o,B0 Hf H/\Reps K Hf ds vs/\F ds=some o/\∀a c H' Hf',Grow H Hf H' Hf'->FoAt K C H' Hf' a c o->(∀y∈cells a c,H y=none)->Q (.ref a) H'
def cm1(X:Cx)(zb:Bool)(C:CT)(x:Str)(F:List D->Option Fo)(n:Nat):Prop:=∃k f fd ps,Ps X zb/\FnOk X.prog X.w X.K X.mg X.base (CXb X.K X.prog X.w zb) k f fd ps (bh0 X.K C n F)/\Room k X.A/\X.mg x=some (.ref f)/\aD X.K (.ref f)=true/\E8 X.K fd ps []
def UN3(X:Cx)(C:CT)(e:Expr)(g:Rho->Fs->Option (Fo×Fs)):Prop:=∀ρ q o q',g ρ q=some (o,q')->okR q.length ρ=true->q'.length=q.length/\∀b (as:List eW),as.length=q.length->PE X e (λσ H Q=>∃Hf,OSt X.K C b (sub as ρ) (as.zip q) σ H Hf/\∀a c H1 Hf1 H' Hf',OSt X.K C b (sub as ρ) (as.zip q') σ H1 Hf1->B0 Hf Hf1->Grow H1 Hf1 H' Hf'->FoAt X.K C H' Hf' a c o->(∀y∈cells a c,H1 y=none)->Q (.ref a) H')
section
variable {X:Cx}{C:CT}
def U4(F:List D->Option Fo)(g:UL):Rho->Fs->Option (Fo×Fs):=λρ q=>(g ρ q).bind λx=>(F x.1).map λo=>(o,x.2)
theorem be5{e:Expr}{es:List Expr}(N:cm1 X zb C x F n)(hg:Gl X x)(ha:UAs X C (e::es) g)(hn:(e::es).length=n)(hdb:(x==("__debug__" : Str))=false)(he:dO (e::es) X.env=(false,eval e X.env)::dO es X.env)(hpl:(backTo pos (dO es X.env)).any (·.1)=false):
  UN3 X C (.Call (.Name x p) (e::es) [] pos) (U4 F g):=λρ q o q' w no=>by
 obtain⟨⟨ds,q1⟩,w1,w⟩:=ae.mp w;obtain⟨o',w2,w3⟩:=af.mp w;cases w3;obtain⟨l1,n1,a1⟩:=ha ρ q ds q1 w1 no;obtain⟨k,f,fd,ps,hq,Fk,hr,hm,hk,hb⟩:=N;exact⟨l1,λb as l=>A5 (i9 Fk hr hg hm hk hb .nil hq (a1 b as l) hdb he hpl) λσ H Q ⟨Hf,st,kk⟩=>⟨Hf,st,λvs H1 Hf1 s1 e1 r1=>⟨by rw[aw,r1.length,n1,hn],Hf1,ds,o,s1.same,by rw[aw];exact r1,w2,λa c H2 Hf2 g2 fo fr=>kk a c H1 Hf1 H2 Hf2 s1 e1 g2 fo fr⟩⟩⟩
def xNw(i:Nat)(g:Rho->Fs->Option (Fo×Fs)):UX:=λρ q=>(g ρ q).map λo=>.nx (ρ.set i (some (.opq q.length))) (o.2++[o.1])
theorem co7(i:Nat)(hN:X.N.Nodup)(h:UN3 X C e g)(hi:X.N[i]? = some x)(hx:Loc X.env.scope x)(hs:swapsWith e (some (.Name x pos')) pos.line X.env=pure false)(hf:X.fn x=true\/X.env.scope.names.lookup x=some .local):US X C (.Assign [.Name x pos'] e pos) (xNw i g):=λρ q fl w no=>by
 obtain⟨⟨o,q'⟩,w1,w2⟩:=af.mp w;cases w2;obtain⟨l1,a1⟩:=h ρ q o q' w1 no;refine⟨by rw[← l1];exact aS0 (by rw[l1];exact no) i o,λb as l=>D0 (m7 hN hi hx (a1 b as l) hs hf) λEn σ H ⟨Hf,st,k⟩=>⟨Hf,st,λa c H1 Hf1 H' Hf' s1 e1 g fo fr=>?_⟩⟩;have st2:=s1.add g fo fr;exact k [a] _ H' Hf' (by simp[l,l1]) (by rw[← l1,aP1 (by rw[l1];exact no) (l.trans l1.symm),aN8 (l.trans l1.symm)];exact st2.slots st2.sl.setO) (e1.trans g.ext)
def aH1(g:Rho->Fs->Option (Fo×Fs))(kd:Bool)(m:Str)(F:DF)(f:Rho->Option (List D)):UD:=λρ q=>(g ρ q).bind λp=>if p.1.k=kd/\(p.1.l.lookup m).isNone=true then(f (era ρ)).bind λds=>(F p.1 (none::ds.map some)).map λr=>(r.1,p.2) else none
end
section
variable {P:Program}{w:World}{K:PySem.W.Frag}{mg:Str->Option Value}{base:Heap}{x qual:Str}{s0:Stmt}{f:Addr}{fd:FuncData}{N ps:List Str}{k:Nat}{g:UX}{C:CT}
def bD8(g:UX)(n:Nat):List D->Option Fo:=λds=>(g (G9 n ds) []).bind λfl=>match fl with
 | .ro j q=>q[j]?
 | _=>none
theorem bt8(F:Fun K x qual s0 f fd)(S:FnScope N ps (A2 s0))
  (hb:∀(cdv:eU) (A:dW) (outer:List Env) (s:eV) (H:Hp) (E:XK),Room k (A.deeper (envOfC qual (A2 s0) s.heap.objs.size f cdv))->USs (cxY bz P w K mg base N qual (A2 s0) f cdv A outer s H E) C (C8 s0) g) :
  FnOk P w K mg base (CXb K P w bz) (k+1) f fd ps (bh0 K C ps.length (bD8 g N.length)):=by
 refine v8 F S (λvs H Q E h=>h.1) λcdv A outer s H vs Q E hr hsp=>?_
 obtain⟨hlen,Hf,ds,o,ss,rp,e,kk⟩:=hsp;obtain⟨fl,e1,e2⟩:=ae.mp e;obtain⟨_,h⟩:=hb cdv A outer s H E hr _ [] fl e1 (ap2 _ _ _);refine⟨_,h ⟨[],H,Hf⟩ [] rfl,Hf,aP2 ss rp,?_⟩;cases fl with
 | rt d' q=>cases e2
 | nx ρ q=>cases e2
 | ro j q =>
  intro ex ρ σ a H' Hf' l s' hj;obtain⟨R,r1,r2,_⟩:=s'.ob;obtain⟨c,f1,f2,_⟩:=r1.focus (bJ.mpr ⟨hj,e2⟩);exact kk a c H' Hf' s'.gr.grow f1 λy hy=>(r2 y (f2 y hy)).elim (λz=>nomatch z) id
end
end G
namespace G
open PySem PySem.Spec PyProof.Rows L2
theorem bt1{S:List eW}(g:Grow H Hf H1 Hf1)(ch:Chg S H1 Hf1 H2 Hf2)(fr:∀y∈S,H y=none):Grow H Hf H2 Hf2 :=
 ⟨λb u e=>ch.big b u (λz=>by rw[fr b z]at e;cases e) (g.big b u e),ch.sub,g.ext.trans ch.ext,λb hb=>(ch.new b hb).elim (g.new b) λz=>.inr (g.big.free z)⟩
section
variable {X:Cx}{C:CT}{fn:List Str}
theorem aD6{f m:Str}{p p2 apos pos:Pos}{ex0:Expr}{es1 es:List Expr}(hl:(apos.endLine==pos.line)=true)(hf:methodCallForm (es.length+([]:List eh).length) (backTo pos (dO es X.env)) (backToKw pos (keywordEach [] X.env))=true):
  eval (.Call (.Attribute (.Call (.Name f p) (ex0::es1) [] p2) m apos) es [] pos) X.env=(do
   let ov ← eval (.Call (.Name f p) (ex0::es1) [] p2) X.env
   standAt apos.atName
   let(f,first) ← holding [ov] (getMethod ov m (do return (← importBound (.Call (.Name f p) (ex0::es1) [] p2) X.env).getD true))
   callWith pos f first (backTo pos (dO es X.env)) (backToKw pos (keywordEach [] X.env))):=by
 show(do let ov ← eval (.Call (.Name f p) (ex0::es1) [] p2) X.env;standAt apos.atName;methodCall (.Call (.Name f p) (ex0::es1) [] p2) m apos pos X.env ov (es.length+([]:List eh).length) (backTo pos (dO es X.env)) (backToKw pos (keywordEach [] X.env)))=_;unfold methodCall;rw[hf];unfold methodCallPos calleeOf;rw[hl];rfl
theorem aA7{ds:List D}{d:D}{F:DF}{E:XK}{Q:VK}{q:Os}{o o':Fo}(s1:OSt X.K C b ρ q σ H1 Hf1)(g:Grow H1 Hf1 H Hf)(fo:FoAt X.K C H Hf a c o)(fr:∀y∈cells a c,H1 y=none)(hk:o.k=kd)(nf:o.l.lookup m=none)(r:F o (none::ds.map some)=some (d,o'))(hn:ds.length=n)
  (k:∀v H' Hf',OSt X.K C b ρ q σ H' Hf'->B0 Hf1 Hf'->Rep X.K Hf' d v->Q v H') :
  ∃a' dx fs,V.ref a=.ref a'/\H a'=some (.ins (C kd) dx fs)/\fs.lookup m=none/\∀vs H2 Hf2,Grow H Hf H2 Hf2->Reps X.K Hf2 ds vs->spD X.K C (n+1) F (.ref a::(vs++[])) H2 Q E:=by
 refine⟨a,c.dx,c.fs,rfl,by rw[← hk];exact fo.ins,bm4 fo nf,λvs H2 Hf2 g2 r2=>⟨by rw[aw,aI,r2.length,hn],a,Hf2,c,o,none::ds.map some,d,o',g2.sub,fo.grow g2,⟨_,_,rfl,rfl,by rw[aw];exact av6 r2⟩,r,λv H3 Hf3 c' g3 f3 n3 rv=>?_⟩⟩;have gg:=bt1 (g.trans g2) g3 fr;exact k v H3 Hf3 (s1.grow gg) gg.ext rv
theorem bA9{g:Rho->Fs->Option (Fo×Fs)}(h:UN3 X C (.Call (.Name f p) (ex0::es1) [] p2) g)(M:af8 X zb C kd m 0 F)(c:FoC X.K (C kd) fn)(hl:(apos.endLine==pos.line)=true):UE X C (.Call (.Attribute (.Call (.Name f p) (ex0::es1) [] p2) m apos) [] [] pos) (aH1 g kd m F A4):=λρ q d q' w no=>by
 obtain⟨⟨o,q1⟩,w1,w⟩:=ae.mp w;split at w
 ·rename_i hz;obtain⟨ds,w2,w⟩:=ae.mp w;cases w2;obtain⟨⟨r,o'⟩,w3,w4⟩:=af.mp w;cases w4;obtain⟨l1,a1⟩:=h ρ q o q1 w1 no;obtain⟨k,fa,fd,ps,hq,Fk,hr,hm,hb⟩:=M;refine⟨l1,λb as' l=>A5 (aC0 (a1 b as' l) c.cl hm Fk hr hb .nil hq (aD6 hl rfl)) λσ H Q ⟨Hf,st,kk⟩=>⟨Hf,st,λa c H1 Hf1 H' Hf' s1 e1 g fo fr=>?_⟩⟩;obtain⟨a',dx,fs,z1,z2,z3,z4⟩:=aA7 (n:=0) (ds:=[]) (E:=E0) s1 g fo fr hz.1 (by simpa using hz.2) w3 rfl λv H3 Hf3 s3 e3 r3=>kk v H3 Hf3 s3 (e1.trans e3) r3
  exact⟨a',dx,fs,z1,z2,z3,z4 [] H' Hf' (Grow.refl g.sub) rfl⟩
 ·cases w
theorem bV5{g:Rho->Fs->Option (Fo×Fs)}{e:Expr}{es:List Expr}{fa:Rho->Option (List D)}(h:UN3 X C (.Call (.Name f p) (ex0::es1) [] p2) g)(M:af8 X zb C kd m n F)(c:FoC X.K (C kd) fn)(ha:JA X (e::es) fa)(hn:(e::es).length=n)(hst:dO (e::es) X.env=(false,eval e X.env)::dO es X.env)(hpl:(backTo pos (dO es X.env)).any (·.1)=false)(hl:(apos.endLine==pos.line)=true)
  (hfm:methodCallForm ((e::es).length+([]:List eh).length) (backTo pos (dO (e::es) X.env)) (backToKw pos (keywordEach [] X.env))=true):UE X C (.Call (.Attribute (.Call (.Name f p) (ex0::es1) [] p2) m apos) (e::es) [] pos) (aH1 g kd m F fa):=λρ q d q' w no=>by
 obtain⟨⟨o,q1⟩,w1,w⟩:=ae.mp w;split at w
 ·rename_i hz;obtain⟨ds,w2,w⟩:=ae.mp w;obtain⟨⟨r,o'⟩,w3,w4⟩:=af.mp w;cases w4;obtain⟨l1,a1⟩:=h ρ q o q1 w1 no;obtain⟨k,fa',fd,ps,hq,Fk,hr,hm,hb⟩:=M;refine⟨l1,λb as' l=>A5 (aR3 (a1 b as' l) c.cl hm Fk hr hb .nil hq (λpos pins s σ H Q I t=>ha.run (era ρ) ds w2 pos pins s σ H Q I t) hst hpl (aD6 hl hfm)) λσ H Q ⟨Hf,st,kk⟩=>⟨Hf,st,λa c H1 Hf1 H' Hf' s1 e1 g fo fr=>?_⟩⟩;obtain⟨a',dx,fs,z1,z2,z3,z4⟩:=aA7 (n:=n) (ds:=ds) (E:=E0) s1 g fo fr hz.1 (by simpa using hz.2) w3 (by rw[ha.len _ ds w2,hn]) λv H3 Hf3 s3 e3 r3=>kk v H3 Hf3 s3 (e1.trans e3) r3
  exact⟨a',dx,fs,z1,z2,z3,_,Hf',g.sub,by rw[← K2 as' ρ];exact((s1.grow g).sl).era,z4⟩
 ·cases w
end
end G
namespace G
open PySem PySem.Spec PyProof.Rows L2
section
variable {X:Cx}{C:CT}
theorem bG4{wi:TI}{g:TG}{tc:TT}{te:TE}(S:CompSc X N' n caps scope)(hu:ub=true->Th X)(hi:PI X tgt iter wi)(hg:∀C s0 H0 ex,PG (B3 ub X N' scope C s0 H0 ex) tgt g)(ht:∀C s0 H0 ex,PTs (B3 ub X N' scope C s0 H0 ex) ifs tc)(he:∀C s0 H0 ex,PE (B3 ub X N' scope C s0 H0 ex) elt te)
  (hc:X.calm=true) (hs:∀x,em iter X.env x=pure x):PE X (.ListComp elt [⟨tgt,iter,ifs,0⟩] scope pos) (aO9 n caps wi g tc te):=by
 intro pins s σ H Q I t;rw[eval_ListComp];refine wpAny_comprehension_free (use:=none) rfl hs (ay3 S I) S.kind S.loc (am6 (RR:=λacc C=>compPost (eE X.prog X.w) X.A X.xe none (EP X pins σ Q) acc C) S hu hc hi hg ht he I t ?_ λ_ _ _ _ z=>z);intro Dd C r s' hr ⟨m,hn,kk⟩ _;subst hr;exact⟨m,hn,λh' sb=>let⟨H',I',q⟩:=kk h' sb;⟨.ref Dd,H',I',rfl,q⟩⟩
def ce5:D->Option (List D)
 | .list xs=>some xs
 | _=>none
def uCp(i:Nat)(f:UD)(g:UD):UD:=λρ q=>(f ρ q).bind λx=>(ce5 x.1).bind λks=>(M4 i ρ x.2).bind λp=>if ks.length<=1000 then(cpT g p.2 ks).map λl=>(.list l.1,x.2.set p.1 l.2) else none
theorem bB4{f gU:UD}(i:Nat)(S:CompSc X N' 1 [i] scope)(hu:ub=true->Th X)(hit:UE X C iter f)(hg:∀C s0 H0 ex,JG (B3 ub X N' scope C s0 H0 ex) tgt (F4 0))(hel:∀C0 s0 H0 ex,UE (B3 ub X N' scope C0 s0 H0 ex) C elt gU)
  (hn:X.N[i]? = some x) (hv:Vis X.env.scope x) (h1:(x==("__debug__" : Str))=false) (h2:(x==("__classdict__" : Str))=false) (hc:X.calm=true) (hs:∀x,em iter X.env x=pure x):UE X C (.ListComp elt [⟨tgt,iter,[],0⟩] scope pos) (uCp i f gU):=λρ q d q' w no=>by
 obtain⟨⟨d0,q1⟩,w1,w⟩:=ae.mp w;obtain⟨ks,w2,w⟩:=ae.mp w;obtain⟨⟨j,o⟩,w3,w⟩:=ae.mp w;split at w
 ·rename_i hz;obtain⟨⟨l,oe⟩,w4,w5⟩:=af.mp w;cases w5;have:d0=.list ks:=by cases d0<;>cases w2;rfl
  subst this;obtain⟨l1,a1⟩:=hit ρ q _ q1 w1 no;refine⟨by show(q1.set j oe).length=_;rw[bF];exact l1,λb as len=>?_⟩;obtain⟨a,ea,A⟩:=G3 w3 (O1 no) (len.trans l1.symm) hn hv h1 h2
  have zq:∀u:Fo,(as.zip (q1.set j u))[j]? = some (a,u):=λu=>by
   rw[K0 ea,aC (ao.mp A.o).1]
  have zz:∀u u':Fo,(as.zip (q1.set j u)).set j (a,u')=as.zip (q1.set j u'):=λu u'=>by
   rw[K0 ea,K0 ea,List.set_set]
  refine A5 (bG4 S hu (aR2 (a1 b as len)) (g:=tgJ X.K (F4 0)) (tc:=t5 X.K G7) (te:=tEl X.K C a gU) hg (λC s0 H0 ex=>aw3) (λC0 s0 H0 ex=>bP3 (hel C0 s0 H0 ex)) hc hs) λσ H Q ⟨Hf,st,kk⟩=>?_
  refine⟨Hf,st,λv H1 Hf1 st1 e1 r1=>?_⟩;obtain⟨p,vs,rfl,sq,rs⟩:=r1;refine⟨p,rfl,⟨vs,C7 st1.same sq⟩,λDd hD=>?_⟩
  have c0:Slots X.K hpX [none,some (.opq a)] (ag7 1 [i] σ) (upd H1 Dd (.lst [])) Hf1:=by
   have:=T7 st1 A.s;refine⟨rfl,λn bb e=>?_,λn m d1 d2 aa e=>?_⟩
   ·cases n with
    | zero=>cases e
    | succ n=>cases n with
     | zero=>cases e;exact⟨.ref a,by show some (σ[i]?).join=_;rw[this];rfl,rfl⟩
     | succ n=>cases e
   ·cases n with
    | zero=>cases e
    | succ n=>cases n with
     | zero=>cases e
     | succ n=>cases e
  have q0:as.zip (q1.set j o)=as.zip q1:=by rw[K0 ea];exact aj6 A.o
  refine⟨λi m ys σ' H'=>m=ks.length - i/\i<=ks.length/\∃Hf' z o1 o2 u,OSt X.K C b (sub as ρ++[some (.own o1)]) (as.zip (q1.set j u)) (σ++[some (.ref Dd)]) H' Hf'/\B0 Hf1 Hf'/\H' Dd=some (.lst ys)/\Slots X.K hpX [z,some (.opq a)] σ' H' Hf'/\o1.length=i/\cpT gU u (ks.drop i)=some (o2,oe)/\o1++o2=l,
   ⟨ks.length,by simp,aU _,Hf1,none,[],l,o,by rw[q0];exact st1.push hD,B0.refl _,A7,c0,rfl,by simpa using w4,rfl⟩,?_⟩
  rintro n m ys σ' H' ⟨rfl,hi,Hf',z,o1,o2,u,st',sm,hd,sl',ho,ec,eo⟩
  have own:(sub as ρ++[some (B.own o1)])[(sub as ρ).length]? = some (some (.own o1)):=by rw[aq (aj _),aW];rfl
  have hsl:(sub as ρ).length=σ.length:=st1.sl.len;rcases bD n ks.length with hlt|hge
  ·right
   rw[bX hlt]at ec;obtain⟨⟨y,qy⟩,c1,ec⟩:=ae.mp ec;dsimp only at ec;split at ec
   ·rename_i u';obtain⟨⟨o3,oe'⟩,c2,c3⟩:=af.mp ec;cases c3;obtain⟨v0,u1,u2⟩:=rs.get (show ks[n]? = some ks[n] by simp[hlt]);have sq':=C7 (sm.trans st'.same) sq;refine⟨⟨vs,v0,sq',u1⟩,λx H2 hy=>?_⟩;obtain⟨rfl,hy⟩:=hy;have:=hy vs sq';rw[u1]at this;cases this;refine⟨ks[n],_,_,hpX,Hf',rfl,st'.same,sl',u2.mono sm,λσ3 sl3=>⟨_,true,rfl,hpX,Hf',st'.same,sl3,λH4 Hf4 g4=>v5 ?_⟩⟩;have st4:=st'.grow g4;have hd4:H4 Dd=some (.lst ys):=g4.big _ _ hd;obtain⟨c,f1,f3⟩:=st4.focus rfl (zq u);refine⟨ks[n],u,y,u',Hf4,c,c1,st4.same,sl3.grow g4,f1,λv H5 Hf5 c' ch fo n5 r5=>?_⟩;have st5:=f3 ch fo n5;rw[zz]at st5;obtain⟨p5,vs5,g1,g2',g3,g6⟩:=st5.app own
    have ep:p5=Dd:=by
     rw[hsl,aq (aj _),aW]at g1;cases g1;rfl
    subst ep
    have eys:vs5=ys:=by
     obtain⟨p4,vs4,k1,k2,k3,_⟩:=st4.app own;rw[hsl,aq (aj _),aW]at k1;cases k1
     have nc:p5∉cells a c:=λzz=>by
      obtain⟨R,r1,r2,r3⟩:=st4.ob;obtain⟨c9,f9,f8,_⟩:=r1.focus (zq u);cases FoAt.same f9 f1;obtain⟨v9,v1,p9,us9,rfl,_,_,v4,_⟩:=r3.is _ _ own;rw[hsl,aq (aj _),aW]at v1;cases v1;exact(P5 v4).1 (f8 _ zz)
     have:=ch.big _ _ nc hd4;rw[g2']at this;cases this;rfl
    subst eys;refine⟨g2',by rw[g3.length,ho,dQ];omega,ks.length - (n+1),by omega,rfl,hlt,Hf5,some (.val ks[n]),o1++[y],o3,u',?_,?_,A7,?_,by simp[ho],c2,by rw[← eo];simp⟩
    ·have:=g6 v y r5;rw[ck _ _ (aj _),aW]at this;exact this
    ·exact sm.trans (g4.ext.trans ch.ext)
    ·have s5:=(sl3.grow g4).chg (S:=cells a c) ch (λ_ _ h=>nomatch h) (H0':=hpX) λ_ h _=>nomatch h
     exact s5.chg (S:=[p5]) (Chg.wr st5.same (by simp) (by
      obtain⟨R,r1,r2,r3⟩:=st5.ob;obtain⟨v9,v1,p9,us9,rfl,_,v3,_⟩:=r3.is _ _ own;rw[hsl,aq (aj _),aW]at v1;cases v1
      exact v3)) (λ_ _ h=>nomatch h) λ_ h _=>nomatch h
   ·cases ec
  ·left
   have:n=ks.length:=by omega
   subst this;rw[cK]at ec;cases ec;rw[aw]at eo;subst eo;refine⟨⟨vs,C7 (sm.trans st'.same) sq,by rw[rs.length];exact aj _⟩,?_⟩;obtain⟨Hf6,e6,s6⟩:=st'.frz (sub as ρ).length
   have fz:frz (sub as ρ).length (sub as ρ++[some (.own o1)])=sub as ρ++[‹.list o1›]:=by
    unfold frz;rw[own];dsimp only;rw[ck _ _ (aj _),aW];rfl
   rw[fz]at s6;obtain⟨v6,v61,v62⟩:=s6.sl.is (sub as ρ).length (.val (.list o1)) (by rw[aq (aj _),aW];rfl);rw[hsl,aq (aj _),aW]at v61;cases v61;exact kk _ H' Hf6 s6.pop (e1.trans (sm.trans e6)) v62
 ·cases w
end
end G
namespace G
open PySem PySem.Spec PyProof.Rows L2
section
variable {X:Cx}{C:CT}
def uJn(f:DE)(g:UD):UD:=λρ q=>(f (era ρ)).bind λs=>(g ρ q).bind λx=>match s,x.1 with
 | .str sep,.list ds=>(Y8 ds).bind λys=>if J7 sep ys<=16777216/\(Builtin.Str.glued sep ys).length<=16777216 then some (.str (Builtin.Str.glued sep ys),x.2) else none
 | _,_=>none
theorem bB3(ho:JE X o f)(h:UE X C e g)
  (hbase:eB o "join" X.env (eval o X.env)=eval o X.env)
  (hfew:((backTo cpos (dO [e] X.env)).all (λx=>!x.1)&&(backToKw cpos (keywordEach [] X.env)).all (λx=>x.1.isSome)
   && decide (([e]:List Expr).length+([]:List eh).length+(if([]:List eh).isEmpty then 0 else 1) < 30))=true)
  (hline:(apos.endLine==cpos.line)=true) (hs:dO [e] X.env=[(false,eval e X.env)]) :
  UE X C (.Call (.Attribute o "join" apos) [e] [] cpos) (uJn f g):=λρ q d q' w no=>by
 obtain⟨s,e1,w⟩:=ae.mp w;obtain⟨⟨d0,q1⟩,e2,w⟩:=ae.mp w;cases s with
 | str sep =>
  cases d0 with
  | list ds =>
   obtain⟨ys,e3,w⟩:=ae.mp w;split at w
   ·rename_i hz;cases w;obtain⟨l1,a1⟩:=h ρ q _ q1 e2 no;refine⟨l1,λb as l=>A5 (ak5 F.plainAttrs_str F.slot_str_join F.type_str_join aS4 (ho (era ρ) _ e1) (B6 (a1 b as l) D3 hs) hbase hfew hline hs) λσ H Q ⟨Hf,st,k⟩=>?_⟩;refine⟨_,Hf,st.same,by rw[← K2 as ρ];exact st.sl.era,λv H1 Hf1 g1 r1=>?_⟩;cases r1;refine⟨rfl,Hf1,st.grow g1,λw H2 Hf2 s2 x2 ⟨p,vs,z1,z2,z3⟩=>?_⟩;subst z1;rw[i8 e3 z3]at z2;exact⟨sep,p,ys,rfl,rfl,C7 s2.same z2,by rw[dQ];exact hz.1,by rw[dQ];exact hz.2,k _ H2 Hf2 s2 (g1.ext.trans x2) rfl⟩
   ·cases w
  | _=>cases w
 | _=>cases w
end
end G
namespace G
open PySem PySem.Spec PyProof.Rows L2
abbrev bN4:=List (Str×Bool×DF×Nat)
def KM(K:ag)(C:eW)(m qual:Str)(st:Stmt):Prop:=∃(f:eW) (oc:eU) (od:Option eW) (sl:Array (Option eU)) (kV dc pm:eU) (an:Option eW) (cd ct:eU),
 PySem.W.findIn K (.ref C) m=some (some (.ref f))/\PySem.W.isFn K (.ref f)=true/\K.lookup f=some ⟨oc,od,.func (bx m qual (M5 st) (C8 st) (A2 st) .none kV dc pm an cd ct),sl⟩/\bZ K cd qual=true/\aD K (.ref f)=true
structure FitO (S:Sg) (ms:bN4) (C:CT) (fn:Bool->List Str) (c:Kx) (X:Cx):Prop where
 fit:Fit S c X
 foc:∀kd,FoC X.K (C kd) (fn kd)
 mts:∀m kd F n,ms.lookup m=some (kd,F,n)->af8 X (c.up != 0) C kd m n F
section
variable {P:Program}{w:World}{K:PySem.W.Frag}{mg:Str->Option Value}{base:Heap}{cs:List (Str×D)}{bl:List Str}{C:CT}{ms:bN4}
def MOk(bz:Bool)(P:dU)(w:World)(K:ag)(mg:Str->Option eU)(base:Heap)(C:CT)(k:Nat)(ms:bN4):Prop:=∀m kd F n,ms.lookup m=some (kd,F,n)->∃(f:eW) (fd:dX) (ps:List Str),
 FnOk P w K mg base (CXb K P w bz) k f fd ps (spD K C (n+1) F)/\Meth K (C kd) m f/\E8 K fd ps []
theorem MOk.nil:MOk bz P w K mg base C 0 []:=λx kd F n h=>by cases h
theorem MOk.mono(T:MOk bz P w K mg base C j ms)(h:j<=k):MOk bz P w K mg base C k ms:=λx kd F n e=>by
 obtain⟨f,fd,ps,h1,h2⟩:=T x kd F n e;exact⟨f,fd,ps,h1.mono h,h2⟩
theorem MOk.cons(T:MOk bz P w K mg base C k ms)(h:∃(f:eW) (fd:dX) (ps:List Str),FnOk P w K mg base (CXb K P w bz) k f fd ps (spD K C (n+1) F)/\Meth K (C kd) m f/\E8 K fd ps []):MOk bz P w K mg base C k ((m,kd,F,n)::ms):=λy kd' G j e=>by
 rw[aJ]at e;split at e
 ·rename_i q;cases e;simp only[beq_iff_eq]at q;subst q;exact h
 ·exact T y kd' G j e
def BdM(d:Fd)(qual:Str):Prop:=∀(kV doc pm:eU) (an:Option eW) (cdv ct:eU),UA d.ps.length λus=>bindArgs (bx d.x qual (M5 d.st) (C8 d.st) (A2 d.st) .none kV doc pm an cdv ct) ⟨us,[]⟩=pure (d.ps.zip us)
end
end G
namespace G
open PySem PySem.Spec PyProof.Rows L2
theorem OSt.mkOwnG{K:ag}{C:CT}{os:List (eW×Fo)}{i:Nat}{p:eW}{ds:List D}{vs:List V}(s:OSt K C b ρ os σ H Hf)(g:Grow H Hf H' Hf')(hp:H p=none)(h1:H' p=some (.lst vs))(h2:Hf' p=none)(r:Reps K Hf' ds vs):OSt K C b (ρ.set i (some (.own ds))) os (σ.set i (some (.ref p))) H' Hf':=by
 obtain⟨R,r1,r2,r3⟩:=s.ob;exact⟨(s.grow g).gr,R,r1.chg (S:=[]) (Chg.of g) (by simp),r2,r3.setOwn g (aw6 (λz=>r1.there p z hp) (aR λz=>s.gr.kp p z hp)) hp h1 h2 r⟩
section
variable {X:Cx}{C:CT}
def aj1(g:D)(i:Nat)(f:UD):UX:=λρ q=>(f ρ q).map λx=>bif P3 x.1 then .rt g x.2 else .nx (ρ.set i (‹x.1›)) x.2
theorem bz5(i:Nat)(hN:X.N.Nodup)(h:UE X C e f)(hi:X.N[i]? = some x)(hx:Loc X.env.scope x)(hs:swapsWith e (some (.Name x pos')) pos.line X.env=pure false)(hf:X.fn x=true\/X.env.scope.names.lookup x=some .local):US X C (.Assign [.Name x pos'] e pos) (aj1 g i f):=λρ q fl w no=>by
 obtain⟨⟨d,q1⟩,w1,w2⟩:=af.mp w;cases hb:P3 d with
 | false =>
  rw[hb]at w2;exact aH0 i hN h hi hx hs hf ρ q fl (by unfold S3;rw[w1,← w2];rfl) no
 | true =>
  rw[hb]at w2;cases w2;cases az1 hb;obtain⟨l1,a1⟩:=h ρ q _ q1 w1 no;exact⟨rfl,λb as l=>D0 (m7 hN hi hx (a1 b as l) hs hf) λEn σ H ⟨Hf,st,k⟩=>⟨Hf,st,λv H' Hf' s' e' r=>(ah1 r).elim⟩⟩
theorem aj9{K:ag}{H:Hp}:∀{ds:List D}{vs:List V},Reps K H ds vs->ds.any P3=true->False
 | d::ds,_,⟨v,r,_,h,hs⟩,e=>by
  rw[bP,cw]at e;rcases e with e|e
  ·rw[az1 e]at h;exact ah1 h
  ·exact aj9 hs e
def P8(F:FnD)(g:Rho->Fs->Option (List D×Fs)):UD:=λρ q=>(g ρ q).bind λx=>bif x.1.any P3 then some (bad,x.2) else(F x.1).map λd=>(d,x.2)
theorem be7{e:Expr}{es:List Expr}(hF:bc4 X zb y F n)(hu:X.A.units+64 < cLine)(hg:Gl X y)(hdb:(y==("__debug__" : Str))=false)(ha:UAs X C (e::es) g)(hz:(e::es).length=n)(he:dO (e::es) X.env=(false,eval e X.env)::dO es X.env)(hpl:(backTo pos (dO es X.env)).any (·.1)=false):
  UE X C (.Call (.Name y p) (e::es) [] pos) (P8 F g):=λρ q d q' w no=>by
 obtain⟨⟨ds,q1⟩,w1,w2⟩:=ae.mp w;cases hb:ds.any P3 with
 | false =>
  dsimp only at w2;rw[hb]at w2;exact be8 hF hu hg hdb ha hz he hpl ρ q d q' (by unfold bf1;rw[w1];exact w2) no
 | true =>
  dsimp only at w2;rw[hb]at w2;obtain⟨rfl,rfl⟩:bad=d/\q1=q':=by cases w2;exact⟨rfl,rfl⟩
  obtain⟨l1,n1,a1⟩:=ha ρ q ds q1 w1 no;refine⟨l1,λb as l=>?_⟩;rcases hF with⟨k,f,fd,ps,hq,hk,hr,hm,hkp,hb'⟩|⟨hm,hb'⟩
  ·exact A5 (i9 hk hr hg hm hkp hb' .nil hq (a1 b as l) hdb he hpl) λσ H Q ⟨Hf,st,kk⟩=>⟨Hf,st,λvs H1 Hf1 s1 e1 r1=>(aj9 r1 hb).elim⟩
  ·obtain⟨_,hnn,nm,hv,hc⟩:=hb';exact A5 (J1 (hc X hu) hg hm hv (a1 b as l) hnn hdb he hpl) λσ H Q ⟨Hf,st,kk⟩=>⟨Hf,st,λvs H1 Hf1 s1 e1 r1=>(aj9 r1 hb).elim⟩
def xOr(f g:UX):UX:=λρ q=>match f ρ q with
 | some x=>some x
 | none=>g ρ q
theorem co6{st:Stmt}(h1:US X C st f)(h2:US X C st g):US X C st (xOr f g):=λρ q fl w no=>by
 unfold xOr at w;split at w
 ·rename_i x e;cases w;exact h1 ρ q _ e no
 ·exact h2 ρ q fl w no
theorem bx1{kd:Bool}{fn:List Str}(c:FoC X.K (C kd) fn):Q5 X (.builtin "isinstance") (λxs H Q=>∃a dx fs,xs=[.ref a,.ty "tuple"]/\H a=some (.ins (C kd) dx fs)/\Q (.bl false) H):=by
 intro pins s σ H xs us Q I r h;obtain⟨a,dx,fs,rfl,e1,q⟩:=h;obtain⟨u,t,rfl,rx,rc⟩:=bd5 r;cases rc;cases rx;have b:=c.is;unfold cj9 at b;simp only[ah,beq_iff_eq]at b;obtain⟨⟨⟨⟨b1,b2⟩,b3⟩,b4⟩,b5⟩:=b;obtain⟨mA,O,_⟩:=ah7 I.hok e1;obtain⟨od,z,_⟩:=O.look;exact PySem.W.kia_one (PySem.W.kitx_own (c.cl.get _) c.cl.hd b1 b2 b3 b4) I.kIn z b5 (λz=>nomatch z) λtk=>⟨.bl false,H,I.tok tk,rfl,q⟩
def bB6(i:Nat):UD:=λρ q=>(M4 i ρ q).map λ_=>(.bool false,q)
theorem bV7{fn:Bool->List Str}(i:Nat)(c:∀kd,FoC X.K (C kd) (fn kd))(hn:X.N[i]? = some x)(hv:Vis X.env.scope x)(h1:(x==("__debug__" : Str))=false)(h2:(x==("__classdict__" : Str))=false)(hg:Gl X "isinstance")(hm:X.mg "isinstance" = none)(hgT:Gl X "tuple")(hmT:X.mg "tuple" = none):
  UE X C (.Call (.Name "isinstance" p) [.Name x p1,.Name "tuple" p2] [] pos) (bB6 i):=λρ q d q' w no=>by
 obtain⟨⟨j,o⟩,w1,w2⟩:=af.mp w;cases w2;refine⟨rfl,λb as l=>?_⟩;obtain⟨a,ea,A⟩:=G3 w1 (O1 no) l hn hv h1 h2;refine A5 (J1 (bx1 (c o.k)) hg hm aN0 (B6 (J9 A.n A.v A.d1 A.d2) (B6 (au6 (v:=.ty "tuple") hgT hmT am8 rfl) D3 rfl) rfl)) λσ H Q ⟨Hf,st,kk⟩=>?_
 obtain⟨c0,f1,_⟩:=st.focus A.w A.o;exact⟨_,T7 st A.s,a,c0.dx,c0.fs,rfl,f1.ins,kk _ H Hf st (B0.refl _) rfl⟩
def bc8(f g:UD):UD:=λρ q=>match f ρ q with
 | some x=>some x
 | none=>g ρ q
theorem cp0{e:Expr}(h1:UE X C e f)(h2:UE X C e g):UE X C e (bc8 f g):=λρ q d q' w no=>by
 unfold bc8 at w;split at w
 ·rename_i x z;cases w;exact h1 ρ q _ _ z no
 ·exact h2 ρ q d q' w no
def aA5(i:Nat)(f:Rho->Option (List D)):UX:=λρ q=>(f (era ρ)).map λds=>.nx (ρ.set i (some (.own ds))) q
theorem bz9(i:Nat)(hN:X.N.Nodup)(h:JN X e f)(hi:X.N[i]? = some x)(hx:Loc X.env.scope x)(hs:swapsWith e (some (.Name x pos')) pos.line X.env=pure false)(hf:X.fn x=true\/X.env.scope.names.lookup x=some .local):US X C (.Assign [.Name x pos'] e pos) (aA5 i f):=λρ q fl w no=>by
 obtain⟨ds,w1,w2⟩:=af.mp w;cases w2;refine⟨ah6 no (by intro _ z;cases z),λb as l=>D0 (m7 hN hi hx (h (era ρ) ds w1) hs hf) λEn σ H ⟨Hf,st,k⟩=>⟨_,Hf,st.same,by rw[← K2 as ρ];exact st.sl.era,λv H' Hf' g ⟨p,vs,z1,z2,z3,z4,z5⟩=>?_⟩⟩;subst z1;exact x0 k l _ _ Hf' (by rw[aP0];exact st.mkOwnG g z2 z3 z4 z5) g.ext
theorem bd9{st:Stmt}{d:D}(h:PS X st λ_ _ _=>True):US X C st (λ_ q=>some (.rt d q)):=λρ q fl w no=>by
 cases w;exact⟨rfl,λb as l=>D0 h λ_ _ _ _=>trivial⟩
end
end G
namespace G
open PySem PySem.Spec PyProof.Rows L2
def ag9:Expr->Option (Expr×List Expr×List eh×Pos)
 | .Call f a k p=>some (f,a,k,p)
 | _=>none
def aG2:Expr->Option (Expr×Str×Pos)
 | .Attribute o m p=>some (o,m,p)
 | _=>none
def bw7:Expr->Option (Expr×CmpOp×Expr×Pos)
 | .Compare l [op] [r] p=>some (l,op,r,p)
 | _=>none
def cx8:Expr->Option (BoolOp×List Expr×Pos)
 | .BoolOp op l p=>some (op,l,p)
 | _=>none
def bW5:Expr->Option (List Expr×Nat×Pos)
 | .Tuple es k p=>some (es,k,p)
 | _=>none
theorem aO6(h:bW5 e=some t):e=.Tuple t.1 t.2.1 t.2.2:=by cases e<;>first|(cases h;rfl)|cases h
theorem bM6(h:cx8 e=some t):e=.BoolOp t.1 t.2.1 t.2.2:=by cases e<;>first|(cases h;rfl)|cases h
theorem M8(h:ag9 e=some t):e=.Call t.1 t.2.1 t.2.2.1 t.2.2.2:=by cases e<;>first|(cases h;rfl)|cases h
theorem Y0(h:aG2 e=some t):e=.Attribute t.1 t.2.1 t.2.2:=by cases e<;>first|(cases h;rfl)|cases h
theorem ai2(h:bw7 e=some t):e=.Compare t.1 [t.2.1] [t.2.2.1] t.2.2.2:=by
 unfold bw7 at h;split at h
 ·cases h;rfl
 ·cases h
structure Mc where
 x:Str
 p:Pos
 m:Str
 ap:Pos
 a:List Expr
 cp:Pos
def mcV(e:Expr):Option Mc:=(ag9 e).bind λt=>match t.2.2.1 with
 | []=>(aG2 t.1).bind λu=>(nmP u.1).map λv=>⟨v.1,v.2,u.2.1,u.2.2,t.2.1,t.2.2.2⟩
 | _=>none
theorem bn3(h:mcV e=some t):e=.Call (.Attribute (.Name t.x t.p) t.m t.ap) t.a [] t.cp:=by
 obtain⟨⟨f,a,k,p⟩,h1,h⟩:=ae.mp h;cases k with
 | cons=>cases h
 | nil =>
  obtain⟨⟨o,m,ap⟩,h2,h⟩:=ae.mp h;obtain⟨⟨x,q⟩,h3,h⟩:=af.mp h;subst h;rw[M8 h1,Y0 h2,J5 h3]
def uNo:UD:=λ_ _=>none
def uXo:UX:=λ_ _=>none
def opU:CmpOp->Option (D->D->Option D)
 | .Eq=>some eqD
 | .NotEq=>some neD
 | .Is=>some isB
 | _=>none
def bC7:Expr->Option (Expr×Expr×Pos)
 | .Subscript a i p=>some (a,i,p)
 | _=>none
theorem as8(h:bC7 e=some t):e=.Subscript t.1 t.2.1 t.2.2:=by cases e<;>first|(cases h;rfl)|cases h
section
variable (S:Sg) (c:Kx)
def pE(e:Expr):DE:=(ev S 99).e c e
def aY6(f:Expr->DE):Nat->List Expr->Rho->Option MD
 | _,[]=>mN
 | 0,_::es=>mO (aY6 f es.length es)
 | j+1,e::es=>mC (f e) (aY6 f j es)
def ulE(f:Expr->UD):List Expr->UL
 | []=>ulN
 | e::es=>ulC (f e) (ulE f es)
def oCc(r:Expr->UD)(t:Expr×CmpOp×Expr×Pos):UD:=match opU t.2.1 with
 | some h=>if behindInMarks t.2.1 t.2.2.1 then uNo else uB2 h (r t.1) (r t.2.2.1)
 | none=>uNo
end
section
variable {X:Cx}{C:CT}
theorem bu1{args:List Expr}{pos:Pos}(h:args.all pl=true)(n:args.length < 20):methodCallForm (args.length+([]:List eh).length) (backTo pos (dO args X.env)) (backToKw pos (keywordEach [] X.env))=true:=by
 unfold methodCallForm
 have h1:(backTo pos (dO args X.env)).all (!·.1)=true:=by
  have:=(L4 pos (dO args X.env)).trans (G0 pos X.env h);rw[List.all_eq_not_any_not];simpa using this
 rw[h1];show(true&&true&&decide _)=true;simp;show args.length+0+0 < 30;omega
theorem bO0:UE X C e uNo:=λ_ _ _ _ h _=>nomatch h
theorem aT3{f:Expr->DE}(h:∀e,JE X e (f e)):∀(es:List Expr) (j:Nat),es.length<=j->es.all pl=true->JM X i es (aY6 f j es)
 | [],_,_,_=>by unfold aY6;exact ci0
 | e::es,0,l,_=>by simp at l
 | e::es,j+1,l,p=>by
  simp only[aL,ah]at p;exact aT4 (h e) (aT3 h es j (by simpa using l) p.2) (D2 p.1 _ _)
theorem bq0{f:Expr->DE}(h:∀e,JE X e (f e))(hn:X.N[i]? = some x)(hv:Vis X.env.scope x)(h1:(x==("__debug__" : Str))=false)(h2:(x==("__classdict__" : Str))=false):∀(j:Nat) (es:List Expr),es[j]? = some (.Name x p)->es.all pl=true->JM X i es (aY6 f j es)
 | _,[],e,_=>by simp at e
 | 0,e::es,q,p=>by
  simp at q;subst q;simp only[aL,ah]at p;exact ch9 (aT3 h es _ (aj _) p.2) hn hv h1 h2 (D2 p.1 _ _)
 | j+1,e::es,q,p=>by
  simp only[aL,ah]at p;exact aT4 (h e) (bq0 h hn hv h1 h2 j es (by simpa using q) p.2) (D2 p.1 _ _)
theorem as6{f:Expr->UD}(h:∀e,UE X C e (f e)):∀es:List Expr,es.all pl=true->UAs X C es (ulE f es)
 | [],_=>bV3
 | e::es,p=>by
  simp only[aL,ah]at p;exact bA7 (h e) (as6 h es p.2) (D2 p.1 _ _)
end
def oB(f:Stmt->UX):List Stmt->UX
 | []=>m5
 | [s]=>f s
 | s::t::r=>E1 (f s) (oB f (t::r))
section
variable {X:Cx}{C:CT}{S:Sg}{c:Kx}
theorem S1{st:Stmt}:US X C st uXo:=λ_ _ _ h=>nomatch h
theorem aG0:Cm gNo:=λ_ _ _ _ h=>nomatch h
theorem bw5{f:Expr->DG}(h:∀e,Cm (f e)):∀es:List Expr,Cms (bL6 f es)
 | []=>bM2
 | e::es=>bw6 (h e) (bw5 h es)
theorem bR7(S:Sg):∀n c ex,Cm ((ev S n).g c ex)
 | 0,c,ex=>aG0
 | n+1,c,ex=>by
  show Cm (xG (ev S n) c ex);unfold xG;split
  ·split
   ·split
    ·exact cl3 _
    ·exact aG0
   ·exact aG0
  ·split
   ·exact cl2 (bw5 (λe=>bR7 S n c e) _)
   ·exact aG0
  ·exact aG0
theorem ap9{f:Stmt->UX}(h:∀st,US X C st (f st)):∀sts,USs X C sts (oB f sts)
 | []=>bz4
 | [s]=>bz3 (h s)
 | s::t::r=>bd7 (h s) (ap9 h (t::r))
end
end G
namespace G
open PySem PySem.Spec PyProof.Rows L2
structure Og5 where
 ms:bN4
 ini:List (Str×Bool×DF×Nat)
 df:List (Str×DF×Nat×Nat)
 fd:List (Str×Bool×Nat)
 ob:List Str
 mf:List (Str×(List D->Option Fo)×Nat)
def Og5.fn(O:Og5)(kd:Bool):List Str:=(O.fd.filter λt=>t.2.1==kd).map (·.1)
theorem ar2{O:Og5}(h:O.fd.lookup f=some (kd,n)):f∈O.fn kd:=by
 have key:∀l:List (Str×Bool×Nat),l.lookup f=some (kd,n)->(f,kd,n)∈l:=λl=>by
  induction l with
  | nil=>intro h;cases h
  | cons t l ih =>
   intro h;obtain⟨y,w⟩:=t;rw[aJ]at h;split at h
   ·rename_i e;cases h;rw[beq_iff_eq.mp e];exact .head _
   ·exact .tail _ (ih h)
 exact aE.mpr ⟨_,dw.mpr ⟨key _ h,by simp⟩,rfl⟩
structure FitZ (S:Sg) (O:Og5) (C:CT) (c:Kx) (X:Cx):Prop where
 o:FitO S O.ms C O.fn c X
 make:∀x kd F n,O.ini.lookup x=some (kd,F,n)->bN3 X (c.up != 0) C kd x n F
 df:∀x F n j,O.df.lookup x=some (F,n,j)->cm8 X (c.up != 0) C x F n
 mf:∀x F n,O.mf.lookup x=some (F,n)->cm1 X (c.up != 0) C x F n
theorem FitZ.inner{tn:List Str}{caps:List Nat}{scope:Scope}{C0:eW}{s0:eV}{H0:Hp}{ex:List eW}{O:Og5}(F:FitZ S O C c X)(hp:upB c=true)(hn:(G.inner c tn caps scope).N.Nodup):FitZ S O C (G.inner c tn caps scope) (B3 (c.up==2) X (G.inner c tn caps scope).N scope C0 s0 H0 ex):=by
 have hp':c.up=0\/c.up=2:=by unfold upB at hp;simpa using hp
 have e1:(c.up != 0)=(c.up==2):=by rcases hp' with e|e<;>rw[e]<;>rfl
 have e2:((G.inner c tn caps scope).up != 0)=(c.up==2):=by show(c.up - 1 != 0)=_;rcases hp' with e|e<;>rw[e]<;>rfl
 obtain⟨⟨f1,f2,f3⟩,f4,f5,f6⟩:=F;rw[e1]at f3 f4 f5 f6;refine⟨⟨f1.inner hp hn,f2,?_⟩,?_,?_,?_⟩<;>rw[e2]
 ·exact λm kd F n h=>let⟨k,f,fd,ps,_,z⟩:=f3 m kd F n h;⟨k,f,fd,ps,u5,z⟩
 ·exact λm kd F n h=>let⟨k,f,fd,ps,_,z⟩:=f4 m kd F n h;⟨k,f,fd,ps,u5,z⟩
 ·exact λm F n j h=>let⟨k,f,fd,ps,_,z⟩:=f5 m F n j h;⟨k,f,fd,ps,u5,z⟩
 ·exact λm F n h=>let⟨k,f,fd,ps,_,z⟩:=f6 m F n h;⟨k,f,fd,ps,u5,z⟩
def cx9:Expr->Option (Expr×Operator×Expr×Pos)
 | .BinOp a o b p=>some (a,o,b,p)
 | _=>none
theorem bM7(h:cx9 e=some t):e=.BinOp t.1 t.2.1 t.2.2.1 t.2.2.2:=by cases e<;>first|(cases h;rfl)|cases h
def cw1:Operator->Bool
 | .Add=>true
 | _=>false
section
variable (S:Sg) (O:Og5) (c:Kx)
def kMb(t:Mc)(n:Nat):Bool:=S0 c.sc t.x&&(t.ap.endLine==t.cp.line)&&t.a.all pl&&t.a.length==n&&decide (n < 20)
def kM(e:Expr):Option UD:=(mcV e).bind λt=>(Q0 t.x c.N).bind λi=>(O.ms.lookup t.m).bind λF=>if kMb c t F.2.2 then some (match t.a with|[]=>uM0 i F.1 t.m F.2.1|_=>uM i F.1 t.m F.2.1 (evA (pE S c) t.a)) else none
def kDa(y:Str)(a:List Expr):Option UD:=(O.df.lookup y).bind λF=>(a[F.2.2]?).bind λej=>(nmP ej).bind λv=>(Q0 v.1 c.N).bind λi =>
 if Q1 c.sc y&&S0 c.sc v.1&&a.all pl&&(a.length==F.2.1&&decide (F.2.2 < a.length)) then some (uD i F.1 (aY6 (pE S c) F.2.2 a)) else none
def kDf(e:Expr):Option UD:=(ag9 e).bind λt=>match t.2.2.1 with
 | []=>(nmP t.1).bind λy=>kDa S O c y.1 t.2.1
 | _=>none
def cD4(e:Expr):Option (Str×Pos×Str×Pos):=(aG2 e).bind λu=>(nmP u.1).map λv=>(v.1,v.2,u.2.1,u.2.2)
def kFd(k:Nat)(e:Expr):Option (Nat×Bool×Str):=(cD4 e).bind λt=>(Q0 t.1 c.N).bind λi=>(O.fd.lookup t.2.2.1).bind λw=>if S0 c.sc t.1&&w.2==k then some (i,w.1,t.2.2.1) else none
def kFl(e:Expr):Option UD:=(kFd O c 0 e).map λw=>aj2 w.1 w.2.1 w.2.2
def kLc(t:Expr×CmpOp×Expr×Pos)(w:Nat×Bool×Str):Option UV:=match t.2.1 with
 | .In=>some (vIn false w.1 w.2.1 w.2.2 (vP (pE S c t.1)))
 | .NotIn=>some (vIn true w.1 w.2.1 w.2.2 (vP (pE S c t.1)))
 | _=>none
def kLa(f a:Expr)(p:Pos):Option UV:=match nmP f with
 | some y=>if biB S c "len" y.1 then(kFd O c 1 a).map λw=>aA1 w.1 w.2.1 w.2.2 else if biB S c "sorted" y.1 then(kFd O c 2 a).map λw=>bz2 w.1 w.2.1 w.2.2 else none
 | none=>(aG2 f).bind λu=>if u.2.1 == "get" && (u.2.2.endLine==p.line)&&pl a then(kFd O c 2 u.1).map λw=>aW8 w.1 w.2.1 w.2.2 (vP (pE S c a)) else none
def kLk(e:Expr):Option UV:=match bw7 e with
 | some t=>(kFd O c 2 t.2.2.1).bind (kLc S c t)
 | none=>(match bC7 e with
  | some t=>(kFd O c 2 t.1).bind λw=>if pl t.2.1 then some (aO0 w.1 w.2.1 w.2.2 (vP (pE S c t.2.1))) else none
  | none=>(ag9 e).bind λt=>match t.2.1,t.2.2.1 with
   | [a],[]=>kLa S O c t.1 a t.2.2.2
   | _,_=>none)
def kQ(e:Expr):UV:=(kLk S O c e).getD (vP (pE S c e))
def vlE(f:Expr->UV):List Expr->VL
 | []=>vlN
 | e::es=>vlC (f e) (vlE f es)
def kPt(e:Expr):UV:=match bW5 e with
 | some t=>if t.1.all pl&&decide (t.1.length<=1000) then bd6 (vlE (kQ S O c) t.1) else λ_ _=>none
 | none=>kQ S O c e
def kO(r:Expr->Option UD)(e:Expr):UD:=(r e).getD (uP (pE S c e))
def kCl(r:Expr->Option UD)(e:Expr):Option UD:=(ag9 e).bind λt=>match t.2.1,t.2.2.1 with
 | a::as,[]=>(nmP t.1).bind λy=>(S.fn.lookup y.1).bind λF=>if(a::as).any (λx=>(r x).isSome)&&Q1 c.sc y.1&&(a::as).length==F.2&&(a::as).all pl then some (P8 F.1 (ulE (kO S c r) (a::as))) else none
 | _,_=>none
def kLn(r:Expr->Option UD)(e:Expr):Option UD:=(ag9 e).bind λt=>match t.2.1,t.2.2.1 with
 | [a],[]=>(nmP t.1).bind λy=>(r a).bind λg=>if biB S c "len" y.1&&pl a then some (aA6 g) else none
 | _,_=>none
def lcE:Expr->Option (Expr×Expr×Expr×Scope×Pos)
 | .ListComp elt [⟨tgt,iter,[],0⟩] sc p=>some (elt,tgt,iter,sc,p)
 | _=>none
def kMk(r:Expr->Option UD)(y:Str)(a:List Expr):Option (Rho->Fs->Option (Fo×Fs)):=(O.mf.lookup y).bind λF=>if Q1 c.sc y&&a.length==F.2&&a.all pl && !a.isEmpty then some (U4 F.1 (ulE (kO S c r) a)) else none
def bM5(e:Expr):Option (Str×Pos×List Expr×Pos):=(ag9 e).bind λt=>match t.2.2.1 with
 | []=>(nmP t.1).map λy=>(y.1,y.2,t.2.1,t.2.2.2)
 | _=>none
def kTm(r:Expr->Option UD)(e:Expr):Option UD:=(ag9 e).bind λt=>match t.2.2.1 with
 | []=>(aG2 t.1).bind λu=>(bM5 u.1).bind λv=>(kMk S O c r v.1 v.2.2.1).bind λg=>(O.ms.lookup u.2.1).bind λF=>if(u.2.2.endLine==t.2.2.2.line)&&t.2.1.all pl&&t.2.1.length==F.2.2&&decide (F.2.2 < 20) then some (aH1 g F.1 u.2.1 F.2.1 (evA (pE S c) t.2.1)) else none
 | _=>none
def kIs(e:Expr):Option UD:=(bM5 e).bind λt=>match t.2.2.1 with
 | [a,b]=>(nmP a).bind λx=>(nmP b).bind λz=>(Q0 x.1 c.N).bind λi=>if biB S c "isinstance" t.1&&biB S c "tuple" z.1&&S0 c.sc x.1 then some (bc8 (bB6 i) (uP (pE S c e))) else none
 | _=>none
def kX1(r:Expr->Option UD)(e:Expr):Option UD:=match bw7 e with
 | some t=>if(r t.1).isSome || (r t.2.2.1).isSome then some (oCc (kO S c r) t) else none
 | none=>(match bW5 e with
  | some t=>if t.1.any (λx=>(r x).isSome)&&t.1.all pl&&decide (t.1.length<=1000) then some (bB5 (ulE (kO S c r) t.1)) else none
  | none=>(match bC7 e with
   | some t=>(match bY4 t.2.1 with
    | some _=>none
    | none=>if pl t.2.1 then(r t.1).map λg=>be9 g (kO S c r t.2.1) else none)
   | none=>(match cx9 e with
    | some t=>if((r t.1).isSome || (r t.2.2.1).isSome)&&cw1 t.2.1 then some (uB2 B8 (kO S c r t.1) (kO S c r t.2.2.1)) else none
    | none=>(match kCl S c r e with
     | some g=>some g
     | none=>(match kTm S O c r e with
      | some g=>some g
      | none=>(match kLn S c r e with
       | some g=>some g
       | none=>kIs S c e))))))
def kX:Nat->Expr->Option UD
 | 0,_=>none
 | n+1,e=>match kM S O c e with
  | some g=>some g
  | none=>(match kDf S O c e with
   | some g=>some g
   | none=>(match kFl O c e with
    | some g=>some g
    | none=>(match kLk S O c e with
     | some g=>some (uL g)
     | none=>kX1 S O c (kX n) e)))
def jcB(tg it:Expr)(sc:Scope)(i:Nat)(c c':Kx):Bool:=upB c&&X8 c.N c'.N 1 [i] c.sc sc&&X3 c'.N&&pl it&&S0 c.sc ((c.N[i]?).getD "")&&(c.N[i]? == some ((c.N[i]?).getD ""))
 && (match nmP tg with|some y=>an9 c' y.1&&Q0 y.1 c'.N==some 0|none=>false)
def kJc(a:Expr):Option UD:=(lcE a).bind λt=>match (c.hc.lookup (t.2.2.2.2.line,t.2.2.2.2.col)).getD [] with
 | [i]=>(kX S O (inner c (E2 t.2.1) [i] t.2.2.2.1) 5 t.1).bind λg=>(kX S O c 5 t.2.2.1).bind λf=>if(E2 t.2.1).length==1&&jcB t.2.1 t.2.2.1 t.2.2.2.1 i c (inner c (E2 t.2.1) [i] t.2.2.2.1) then some (uCp i f g) else none
 | _=>none
def kJ(e:Expr):Option UD:=(ag9 e).bind λt=>match t.2.1,t.2.2.1 with
 | [a],[]=>(aG2 t.1).bind λu=>if u.2.1 == "join" && (u.2.2.endLine==t.2.2.2.line)&&aJ6 u.1 then(kJc S O c a).map λg=>uJn (pE S c u.1) g else none
 | _,_=>none
def kE(e:Expr):UD:=(kJ S O c e).getD (kO S c (kX S O c 5) e)
def kY(e:Expr):Option UD:=match kJc S O c e with
 | some g=>some g
 | none=>kX S O c 4 e
def kT0(e:Expr):Option UB:=match bw7 e with
 | some t=>match (kFd O c 2 t.2.2.1).bind (kLc S c t) with
  | some g=>some (uTB (uL g))
  | none=>if(kY S O c t.1).isSome || (kY S O c t.2.2.1).isSome then some (uTB (oCc (kO S c (kY S O c)) t)) else none
 | none=>if(ag9 e).isSome then(kX S O c 5 e).map uTB else none
def kT1(e:Expr):UB:=(kT0 S O c e).getD (uTP ((ev S 99).t c e))
def kTc(op:BoolOp):List Expr->UB
 | []=>λ_ _=>none
 | [e]=>(match op with
  | .And=>λ_ _=>none
  | .Or=>kT1 S O c e)
 | e::es=>match op with
  | .And=>λ_ _=>none
  | .Or=>uOr (kT1 S O c e) (kTc op es)
def kT(e:Expr):UB:=match cx8 e with
 | some t=>if t.2.1.any (λx=>(kT0 S O c x).isSome) then kTc S O c t.1 t.2.1 else uTP ((ev S 99).t c e)
 | none=>kT1 S O c e
def kN(v:Expr):Option (Rho->Option Fo):=(ag9 v).bind λt=>match t.2.2.1 with
 | []=>(nmP t.1).bind λx=>(O.ini.lookup x.1).bind λF=>if Q1 c.sc x.1&&t.2.1.length==F.2.2&&t.2.1.all pl then some (ag2 F.1 F.2.1 (evA (pE S c) t.2.1)) else none
 | _=>none
def kL(i:Nat)(v:Expr):Option UX:=if c.own.contains i then some (aA5 i ((ev S 98).n c v)) else none
def cpB(x:Str)(p' pv:Pos)(tg it:Expr)(sc:Scope)(w:Str)(i:Nat)(c c':Kx):Bool:=upB c&&X8 c.N c'.N 1 [i] c.sc sc&&X3 c'.N&&pl it&&(c.sc.names.lookup x==some .local)&&(c.df&&p'.line==pv.line && !(sc.names.any λ(n,k)=>n==x&&(k == .local || k == .cell)))&&S0 c.sc w&&(c.N[i]? == some w)
 && (match nmP tg with|some y=>an9 c' y.1&&Q0 y.1 c'.N==some 0|none=>false)
def kCm(x:Str)(p':Pos)(n:Nat)(v:Expr):Option UX:=(lcE v).bind λt=>match (c.hc.lookup (t.2.2.2.2.line,t.2.2.2.2.col)).getD [] with
 | [i]=>(kX S O (inner c (E2 t.2.1) [i] t.2.2.2.1) 5 t.1).bind λg=>if(E2 t.2.1).length==1&&cpB x p' t.2.2.2.2 t.2.1 t.2.2.1 t.2.2.2.1 ((c.N[i]?).getD "") i c (inner c (E2 t.2.1) [i] t.2.2.2.1) then some (bf0 c.gb n i (evI S (ev S 98) c t.2.1 t.2.2.1) g) else none
 | []=>if c.sc.names.lookup x==some .local&&(c.df&&p'.line==t.2.2.2.2.line && !(t.2.2.2.1.names.any λ(n,k)=>n==x&&(k == .local || k == .cell)))&&(X8 c.N (inner c (E2 t.2.1) [] t.2.2.2.1).N (E2 t.2.1).length [] c.sc t.2.2.2.1&&X3 (inner c (E2 t.2.1) [] t.2.2.2.1).N&&pl t.2.2.1&&upB c) then some (bO1 n (E4 (E2 t.2.1).length [] (evI S (ev S 98) c t.2.1 t.2.2.1) ((ev S 98).g (inner c (E2 t.2.1) [] t.2.2.2.1) t.2.1) (aU5 ((ev S 98).t (inner c (E2 t.2.1) [] t.2.2.2.1)) []) ((ev S 98).e (inner c (E2 t.2.1) [] t.2.2.2.1) t.1))) else none
 | _=>none
def kN2(v:Expr):Option (Rho->Fs->Option (Fo×Fs)):=(bM5 v).bind λt=>kMk S O c (kX S O c 5) t.1 t.2.2.1
def kSx(i:Nat)(f:UD):UX:=bif c.up==2 then aj1 c.gb i f else S3 i f
def cg8(x:Str)(p':Pos)(v:Expr):UX:=match Q0 x c.N with
 | some i=>if an9 c x && !(isC v) then(match kN S O c v with
  | some g=>as7 i g
  | none=>(match kN2 S O c v with
   | some g=>xOr (S3 i (kE S O c v)) (xNw i g)
   | none=>(match kL S c i v with
    | some g=>g
    | none=>kSx c i (kE S O c v)))) else(kCm S O c x p' i v).getD uXo
 | none=>uXo
def kFr(v:Expr):Option UFr:=match v with
 | .List [] _=>some bd2
 | .Dict [] [] _=>some bd3
 | _=>none
def cv2(u:Expr×Str×Pos)(v:Expr):Option UX:=(nmP u.1).bind λw=>(Q0 w.1 c.N).bind λi=>(O.fd.lookup u.2.1).bind λk=>if S0 c.sc w.1 && !(isC v) then(if k.2==0 then some (ae0 i k.1 u.2.1 (kE S O c v)) else(kFr v).map (aG7 i k.1 u.2.1)) else none
def cv1(t:Expr×Expr×Pos)(v:Expr):Option UX:=(kFd O c 2 t.1).bind λw=>if isC v then none else some (by2 w.1 w.2.1 w.2.2 (vP (pE S c t.2.1)) (vP (pE S c v)))
def kFs(e:Expr):Option UX:=(ag9 e).bind λt=>match t.2.1,t.2.2.1 with
 | [a],[]=>(aG2 t.1).bind λu=>if(u.2.2.endLine==t.2.2.2.line)&&pl a then(if u.2.1 == "append" then(kFd O c 1 u.1).map λw=>bz0 w.1 w.2.1 w.2.2 (kPt S O c a) else if u.2.1 == "pop" then(kFd O c 2 u.1).map λw=>bS4 w.1 w.2.1 w.2.2 (vP (pE S c a)) else none) else none
 | _,_=>none
def kRe(e:Expr):UX:=match nmP e with
 | some x=>if O.ob.contains x.1 then(match Q0 x.1 c.N with
  | some i=>if S0 c.sc x.1 then uRo i else uXo
  | none=>uXo) else T5 (kE S O c e)
 | none=>T5 (kE S O c e)
def kAp(e:Expr):Option UX:=(mcV e).bind λt=>(Q0 t.x c.N).bind λi=>match t.a with
 | [a]=>if t.m == "append" && c.own.contains i&&S0 c.sc t.x&&(t.ap.endLine==t.cp.line)&&pl a then some (bB7 i (kE S O c a)) else none
 | _=>none
def kAs(v:Expr):List Expr->UX
 | [tg]=>(match nmP tg with
  | some t=>cg8 S O c t.1 t.2 v
  | none=>(match aG2 tg with
   | some u=>(cv2 S O c u v).getD uXo
   | none=>(match bC7 tg with
    | some t=>(cv1 S O c t v).getD uXo
    | none=>uXo)))
 | _=>uXo
def kFo(tg it:Expr)(f:UX):List Stmt->UX
 | []=>if pl it&&c.df then aH2 (iP (evI S (ev S 98) c tg it)) ((ev S 98).g c tg) f else uXo
 | _=>uXo
def kRa(c:Kx)(e:Expr):UX:=match xRa c (some e) [] with
 | some (.rt d)=>λ_ q=>some (.rt d q)
 | _=>uXo
def fzU(g:UX):Option (List Nat)->UX
 | none=>g
 | some l=>l.foldl (λg i=>bW1 i g) g
def kSt:Nat->Stmt->UX
 | 0,_=>uXo
 | n+1,st=>fzU (match st with
  | .Return (some e) _=>kRe S O c e
  | .If t a b _=>uIf (kT S O c t) (oB (kSt n) a) (oB (kSt n) b)
  | .For tg it a o _=>kFo S c tg it (oB (kSt n) a) o
  | .Assign ts v _=>kAs S O c v ts
  | .Expr e _=>if isC e then uXo else(match kFs S O c e with
   | some g=>g
   | none=>(kAp S O c e).getD (uEx (kE S O c e)))
  | .Raise (some e) none _=>kRa c e
  | _=>uXo) (c.fz.lookup (ce6 st))
end
section
variable {X:Cx}{S:Sg}{O:Og5}{C:CT}{c:Kx}
theorem T8(F:FitZ S O C c X)(e:Expr):JE X e (pE S c e):=(l5 S 99).e F.o.fit e
theorem cv0(F:FitZ S O C c X)(h:kM S O c e=some g):UE X C e g:=by
 obtain⟨t,h1,h0⟩:=ae.mp h
 clear h
 rw[bn3 h1];obtain⟨i,h2,h⟩:=ae.mp h0;obtain⟨⟨kd,Fm,n⟩,h3,h⟩:=ae.mp h;split at h
 ·rename_i hb;unfold kMb at hb;simp only[ah,beq_iff_eq,decide_eq_true_eq]at hb;obtain⟨⟨⟨⟨b1,b3⟩,b4⟩,b5⟩,b6⟩:=hb;obtain⟨v1,v2,v3⟩:=F6 F.o.fit b1;have M:=F.o.mts _ _ _ _ h3;cases h;obtain⟨x,p,m,ap,a,cp⟩:=t;cases a with
  | nil =>
   cases b5;exact be6 i M (F.o.foc kd) (F.o.fit.slot h2) v1 v2 v3 (by simpa using b3)
  | cons e es =>
   have b4':=b4;simp only[aL,ah]at b4';exact bB0 i M (F.o.foc kd) (F.o.fit.slot h2) v1 v2 v3 (u9 (T8 F) (e::es)) (by simpa using b3) b5 (D2 b4'.1 _ _) ((L4 cp _).trans (G0 cp _ b4'.2)) (bu1 b4 (by rw[b5];exact b6))
 ·cases h
theorem cg3(F:FitZ S O C c X)(h:kDf S O c e=some g):UE X C e g:=by
 obtain⟨⟨f,a,k,p⟩,h1,h0⟩:=ae.mp h
 clear h
 rw[M8 h1];cases k with
 | cons=>cases h0
 | nil =>
  obtain⟨⟨y,py⟩,h2,h⟩:=ae.mp h0;rw[J5 h2];obtain⟨⟨Fn,n,j⟩,h3,h⟩:=ae.mp h;obtain⟨ej,h4,h⟩:=ae.mp h;obtain⟨⟨v,pv⟩,h5,h⟩:=ae.mp h;obtain⟨i,h6,h⟩:=ae.mp h;split at h
  ·rename_i hb;cases h;simp only[ah,beq_iff_eq,decide_eq_true_eq]at hb;obtain⟨⟨⟨b1,b2⟩,b3⟩,b4,b5⟩:=hb;obtain⟨g1,g2⟩:=G2 F.o.fit b1;obtain⟨v1,v2,v3⟩:=F6 F.o.fit b2;have hj:a[j]? = some (.Name v pv):=by rw[J5 h5]at h4;exact h4
   have J:=bq0 (T8 F) (F.o.fit.slot h6) v1 v2 v3 j a hj b3;cases a with
   | nil=>simp at hj
   | cons e es =>
    have b3':=b3;simp only[aL,ah]at b3';exact cp1 i (F.df _ _ _ _ h3) g1 g2 (F.o.fit.slot h6) v1 v2 v3 J b4 (D2 b3'.1 _ _) ((L4 p _).trans (G0 p _ b3'.2))
  ·cases h
theorem U5(F:FitZ S O C c X)(h:kFd O c k e=some w):∃x p pos,e=.Attribute (.Name x p) w.2.2 pos/\Nmd X w.1 x/\w.2.2∈O.fn w.2.1:=by
 obtain⟨⟨x,p,f,pos⟩,h1,h⟩:=ae.mp h;obtain⟨⟨e0,f',p'⟩,g1,g⟩:=ae.mp h1;obtain⟨⟨y,py⟩,g2,g3⟩:=af.mp g;cases g3;obtain⟨i,h2,h⟩:=ae.mp h;obtain⟨⟨kd,n⟩,h3,h⟩:=ae.mp h;split at h
 ·rename_i hb;cases h;simp only[ah]at hb;obtain⟨v1,v2,v3⟩:=F6 F.o.fit hb.1;exact⟨y,py,p',by rw[Y0 g1,J5 g2],⟨F.o.fit.slot h2,v1,v2,v3⟩,ar2 h3⟩
 ·cases h
theorem cg2(F:FitZ S O C c X)(h:kFl O c e=some g):UE X C e g:=by
 obtain⟨w,h1,h2⟩:=af.mp h;subst h2;obtain⟨x,p,pos,rfl,N,hf⟩:=U5 F h1;exact bV8 w.1 (F.o.foc _) hf N.n N.v N.d1 N.d2 rfl
theorem bn6{x f m:Str}{p pos apos cpos:Pos}(hp:pl e=true)(hl:(apos.endLine==cpos.line)=true):M1 X (.Attribute (.Name x p) f pos) m apos e cpos:=⟨rfl,by rw[D2 hp [] X.env];rfl,hl,by rw[D2 hp [] X.env];rfl⟩
theorem bo8(F:FitZ S O C c X)(h:kLk S O c e=some g):UP X C e g:=by
 have pu:∀e,UP X C e (vP (pE S c e)):=λe=>W8 (T8 F e)
 unfold kLk at h;split at h
 ·rename_i t ht;obtain⟨w,h1,h2⟩:=ae.mp h;rw[ai2 ht];obtain⟨x,p,pos,e1,N,hf⟩:=U5 F h1;obtain⟨l,op,r,p4⟩:=t;dsimp only at e1;subst e1;unfold kLc at h2;dsimp only at h2 ⊢;cases op<;>cases h2
  ·exact co9 F.o.fit.units (F.o.foc _) hf N (pu _) rfl rfl
  ·exact be3 F.o.fit.units (F.o.foc _) hf N (pu _) rfl rfl
 ·split at h
  ·rename_i t ht;obtain⟨w,h1,h2⟩:=ae.mp h;rw[as8 ht];obtain⟨x,p,pos,e1,N,hf⟩:=U5 F h1;rw[e1];split at h2
   ·rename_i hp;cases h2;exact bA4 F.o.fit.units (F.o.foc _) hf N (pu _) (bi9 hp) rfl
   ·cases h2
  ·obtain⟨⟨f,a,k,p⟩,h1,h0⟩:=ae.mp h;rw[M8 h1];dsimp only at h0 ⊢;split at h0
   ·rename_i a0 _;unfold kLa at h0;split at h0
    ·rename_i y hy;rw[J5 hy];split at h0
     ·rename_i hb;obtain⟨k0,k1,k2⟩:=L8 F.o.fit hb;obtain⟨w,h2,h3⟩:=af.mp h0;subst h3;obtain⟨x,p,pos,e1,N,hf⟩:=U5 F h2;rw[e1,k0];exact bU9 (F.o.foc _) hf N k1 k2 rfl
     ·split at h0
      ·rename_i hb;obtain⟨k0,k1,k2⟩:=L8 F.o.fit hb;obtain⟨w,h2,h3⟩:=af.mp h0;subst h3;obtain⟨x,p,pos,e1,N,hf⟩:=U5 F h2;rw[e1,k0];exact bU8 F.o.fit.calm (F.o.foc _) hf N k1 k2 rfl
      ·cases h0
    ·obtain⟨⟨o,m,ap⟩,h2,h3⟩:=ae.mp h0;rw[Y0 h2];split at h3
     ·rename_i hb;simp only[ah]at hb;obtain⟨w,h4,h5⟩:=af.mp h3;subst h5;obtain⟨x,p,pos,e1,N,hf⟩:=U5 F h4;dsimp only at e1 hb ⊢;rw[e1,beq_iff_eq.mp hb.1.1];exact bV0 F.o.fit.units (F.o.foc _) hf N (pu _) (bn6 hb.2 hb.1.2) rfl
     ·cases h3
   ·cases h0
theorem bQ3(F:FitZ S O C c X)(e:Expr):UP X C e (kQ S O c e):=by
 unfold kQ;cases h:kLk S O c e with
 | none=>exact W8 (T8 F e)
 | some g=>exact bo8 F h
theorem bd4{f:Expr->UV}(h:∀e,UP X C e (f e)):∀es:List Expr,es.all pl=true->UPA X C es (vlE f es)
 | [],_=>bA3
 | e::es,p=>by
  simp only[aL,ah]at p;exact be2 (h e) (bd4 h es p.2) (D2 p.1 _ _)
theorem cf7(F:FitZ S O C c X)(e:Expr):UP X C e (kPt S O c e):=by
 unfold kPt;split
 ·rename_i t ht;rw[aO6 ht];split
  ·rename_i hb;simp only[ah,decide_eq_true_eq]at hb;exact bU7 (bd4 (bQ3 F) _ hb.1) hb.2
  ·exact λ_ _ _ h=>nomatch h
 ·exact bQ3 F e
theorem l4(F:FitZ S O C c X){r:Expr->Option UD}(R:∀e g,r e=some g->UE X C e g)(e:Expr):UE X C e (kO S c r e):=by
 unfold kO;cases h:r e with
 | none=>exact aO4 (T8 F e)
 | some g=>exact R e g h
theorem bo2(F:FitZ S O C c X)(h:opU op=some k):OpD X (dR op) k:=by
 cases op<;>cases h
 ·exact bP5 F.o.fit.units
 ·exact bl7 F.o.fit.units
 ·exact bP4
theorem cg6(F:FitZ S O C c X){r:Expr->UD}(R:∀e,UE X C e (r e))(t:Expr×CmpOp×Expr×Pos):UE X C (.Compare t.1 [t.2.1] [t.2.2.1] t.2.2.2) (oCc r t):=by
 unfold oCc;split
 ·rename_i k hk;split
  ·exact bO0
  ·rename_i hm;exact bV9 (bo2 F hk) (R _) (R _) (by simpa using hm)
 ·exact bO0
theorem cg5(F:FitZ S O C c X){r:Expr->Option UD}(R:∀e g,r e=some g->UE X C e g)(h:kCl S c r e=some g):UE X C e g:=by
 obtain⟨⟨f,a,k,p⟩,h1,h0⟩:=ae.mp h
 clear h
 rw[M8 h1];dsimp only at h0 ⊢;split at h0
 ·obtain⟨⟨y,py⟩,h2,h⟩:=ae.mp h0;rw[J5 h2];obtain⟨⟨Fn,n⟩,h3,h⟩:=ae.mp h;split at h
  ·rename_i a as hb;cases h;simp only[ah,beq_iff_eq]at hb;obtain⟨⟨⟨_,b1⟩,b2⟩,b3⟩:=hb;obtain⟨g1,g2⟩:=G2 F.o.fit b1;have b3':=b3;simp only[aL,ah]at b3';exact be7 (F.o.fit.fns _ _ _ h3) F.o.fit.units g1 g2 (as6 (l4 F R) _ b3) b2 (D2 b3'.1 _ _) ((L4 p _).trans (G0 p _ b3'.2))
  ·cases h
 ·cases h0
theorem cf8(F:FitZ S O C c X){r:Expr->Option UD}(R:∀e g,r e=some g->UE X C e g)(h:kLn S c r e=some g):UE X C e g:=by
 obtain⟨⟨f,a,k,p⟩,h1,h0⟩:=ae.mp h
 clear h
 rw[M8 h1];dsimp only at h0 ⊢;split at h0
 ·obtain⟨⟨y,py⟩,h2,h⟩:=ae.mp h0;obtain⟨g1,h3,h⟩:=ae.mp h;split at h
  ·rename_i hb;cases h;simp only[ah]at hb;obtain⟨k0,k1,k2⟩:=L8 F.o.fit hb.1;rw[J5 h2];dsimp only at k0 ⊢;rw[k0];exact bB2 k1 k2 (R _ _ h3) (D2 hb.2 [] _)
  ·cases h
 ·cases h0
theorem ay8(h:bM5 e=some t):e=.Call (.Name t.1 t.2.1) t.2.2.1 [] t.2.2.2:=by
 obtain⟨⟨f,a,k,p⟩,h1,h⟩:=ae.mp h;cases k with
 | cons=>cases h
 | nil =>
  obtain⟨⟨y,py⟩,h2,h⟩:=af.mp h;subst h;rw[M8 h1,J5 h2]
theorem bo7(F:FitZ S O C c X){r:Expr->Option UD}(R:∀e g,r e=some g->UE X C e g)(h:kMk S O c r y a=some g):(∃e0 es,a=e0::es)/\∀p pos,UN3 X C (.Call (.Name y p) a [] pos) g:=by
 obtain⟨⟨Fm,n⟩,h3,h⟩:=ae.mp h;split at h
 ·rename_i hb;cases h;simp only[ah,beq_iff_eq]at hb;obtain⟨⟨⟨b1,b2⟩,b3⟩,b4⟩:=hb;obtain⟨g1,g2⟩:=G2 F.o.fit b1;cases a with
  | nil=>cases b4
  | cons e es =>
   have b3':=b3;simp only[aL,ah]at b3';exact⟨⟨e,es,rfl⟩,λp pos=>be5 (F.mf _ _ _ h3) g1 (as6 (l4 F R) _ b3) b2 g2 (D2 b3'.1 _ _) ((L4 pos _).trans (G0 pos _ b3'.2))⟩
 ·cases h
theorem cf4(F:FitZ S O C c X){r:Expr->Option UD}(R:∀e g,r e=some g->UE X C e g)(h:kTm S O c r e=some g):UE X C e g:=by
 obtain⟨⟨f,a,k,p⟩,h1,h0⟩:=ae.mp h
 clear h
 rw[M8 h1];cases k with
 | cons=>cases h0
 | nil =>
  obtain⟨⟨o,m,ap⟩,h2,h⟩:=ae.mp h0;rw[Y0 h2];obtain⟨⟨y,py,as,pp⟩,h3,h⟩:=ae.mp h;obtain⟨g1,h4,h⟩:=ae.mp h;obtain⟨⟨kd,Fm,n⟩,h5,h⟩:=ae.mp h;dsimp only at h3 h4 h5 h ⊢;rw[ay8 h3];obtain⟨⟨e0,es0,ea⟩,hu⟩:=bo7 F R h4;dsimp only;split at h
  ·rename_i hb;cases h;simp only[ah,beq_iff_eq,decide_eq_true_eq]at hb;obtain⟨⟨⟨b1,b2⟩,b3⟩,b4⟩:=hb;have M:=F.o.mts _ _ _ _ h5;subst ea;cases a with
   | nil =>
    cases b3;exact bA9 (hu _ _) M (F.o.foc kd) (by simpa using b1)
   | cons e es =>
    have b2':=b2;simp only[aL,ah]at b2';exact bV5 (hu _ _) M (F.o.foc kd) (u9 (T8 F) (e::es)) b3 (D2 b2'.1 _ _) ((L4 p _).trans (G0 p _ b2'.2)) (by simpa using b1) (bu1 b2 (by rw[b3];exact b4))
  ·cases h
theorem cf9(F:FitZ S O C c X)(h:kIs S c e=some g):UE X C e g:=by
 obtain⟨⟨y,py,as,pos⟩,h1,h0⟩:=ae.mp h;have he:=ay8 h1
 clear h h1
 dsimp only at h0 he;split at h0
 ·obtain⟨⟨x,px⟩,h2,h⟩:=ae.mp h0;obtain⟨⟨z,pz⟩,h3,h⟩:=ae.mp h;obtain⟨i,h4,h⟩:=ae.mp h;split at h
  ·rename_i hb;cases h;simp only[ah]at hb;obtain⟨k0,k1,k2⟩:=L8 F.o.fit hb.1.1;obtain⟨m0,m1,m2⟩:=L8 F.o.fit hb.1.2;obtain⟨v1,v2,v3⟩:=F6 F.o.fit hb.2;refine cp0 ?_ (aO4 (T8 F e));rw[he,J5 h2,J5 h3,k0,m0];exact bV7 i F.o.foc (F.o.fit.slot h4) v1 v2 v3 k1 k2 m1 m2
  ·cases h
 ·cases h0
theorem cf3(F:FitZ S O C c X){r:Expr->Option UD}(R:∀e g,r e=some g->UE X C e g)(h:kX1 S O c r e=some g):UE X C e g:=by
 unfold kX1 at h;split at h
 ·rename_i t ht;rw[ai2 ht];split at h
  ·cases h;exact cg6 F (l4 F R) t
  ·cases h
 ·split at h
  ·rename_i t ht;rw[aO6 ht];split at h
   ·rename_i hb;cases h;simp only[ah,decide_eq_true_eq]at hb;exact bV4 (as6 (l4 F R) _ hb.1.2) hb.2
   ·cases h
  ·split at h
   ·rename_i t ht;split at h
    ·cases h
    ·split at h
     ·rename_i hp;obtain⟨g1,h2,h3⟩:=af.mp h;subst h3;rw[as8 ht];exact bV6 (R _ _ h2) (l4 F R _) (bi9 hp)
     ·cases h
   ·split at h
    ·rename_i t ht;split at h
     ·rename_i hb;cases h;simp only[ah]at hb;obtain⟨a,op,b,p⟩:=t;rw[bM7 ht];have:op=.Add:=by cases op<;>first|rfl|cases hb.2
      subst this;exact bW0 aS1 (l4 F R _) (l4 F R _)
     ·cases h
    ·split at h
     ·rename_i g1 h1;cases h;exact cg5 F R h1
     ·split at h
      ·rename_i g1 h1;cases h;exact cf4 F R h1
      ·split at h
       ·rename_i g1 h1;cases h;exact cf8 F R h1
       ·exact cf9 F h
theorem ae7(F:FitZ S O C c X):∀n e g,kX S O c n e=some g->UE X C e g
 | 0,e,g,h=>by cases h
 | n+1,e,g,h=>by
  unfold kX at h;split at h
  ·rename_i g1 h1;cases h;exact cv0 F h1
  ·split at h
   ·rename_i g1 h1;cases h;exact cg3 F h1
   ·split at h
    ·rename_i g1 h1;cases h;exact cg2 F h1
    ·split at h
     ·rename_i g1 h1;cases h;exact bB1 (bo8 F h1)
     ·exact cf3 F (ae7 F n) h
theorem aK0(h:lcE e=some t):e=.ListComp t.1 [⟨t.2.1,t.2.2.1,[],0⟩] t.2.2.2.1 t.2.2.2.2:=by
 unfold lcE at h;split at h
 ·cases h;rfl
 ·cases h
theorem bl1{l:List Str}(h:(l.length==1)=true):l.length=1:=by simpa using h
theorem bo9(F:FitZ S O C c X)(h:kJc S O c a=some g):UE X C a g:=by
 obtain⟨⟨elt,tg,it,sc,pv⟩,h1,h0⟩:=ae.mp h
 clear h
 rw[aK0 h1];dsimp only at h0 ⊢;split at h0
 ·rename_i i _;obtain⟨g1,h2,h⟩:=ae.mp h0;obtain⟨g2,h3,h⟩:=ae.mp h;split at h
  ·rename_i hb;cases h;simp only[ah]at hb;obtain⟨l1,hb⟩:=hb;have l1:=bl1 l1;unfold jcB at hb;simp only[ah]at hb;obtain⟨⟨⟨⟨⟨⟨c0,c1⟩,c2⟩,c3⟩,c6⟩,c7⟩,c8⟩:=hb;have hn:=V1 c2;obtain⟨v1,v2,v3⟩:=F6 F.o.fit c6;split at c8
   ·rename_i y hy;simp only[ah]at c8;obtain⟨d1,d2⟩:=c8;refine bB4 i (ad1 c1 F.o.fit.N F.o.fit.sc) F.o.fit.hu (ae7 F 5 it g2 h3) (λC0 s0 H0 ex=>?_) (λC0 s0 H0 ex=>ae7 (F.inner c0 hn) 5 elt g1 h2) (by rw[F.o.fit.N];simpa using c7) v1 v2 v3 F.o.fit.calm (ah4 c3 _);have Fi:=F.o.fit.inner (C:=C0) (s0:=s0) (H0:=H0) (ex:=ex) c0 hn;obtain⟨e1,e2⟩:=j7 Fi d1;have key:∀t,t=Expr.Name y.1 y.2->JG (B3 (c.up==2) X (G.inner c (E2 tg) [i] sc).N sc C0 s0 H0 ex) t (F4 0):=λt e=>by subst e;exact aw5 0 hn (Fi.slot (by simpa using d2)) e1 e2
    exact key tg (J5 hy)
   ·cases c8
  ·cases h
 ·cases h0
theorem ae9(F:FitZ S O C c X)(e:Expr):UE X C e (kE S O c e):=by
 unfold kE;cases hj:kJ S O c e with
 | none=>exact l4 F (ae7 F 5) e
 | some g =>
  obtain⟨⟨f,a,k,p⟩,h1,h0⟩:=ae.mp hj;rw[M8 h1];dsimp only at h0 ⊢
  have z:∀a0 g1,kJc S O c a0=some g1->dO [a0] X.env=[(false,eval a0 X.env)]:=λa0 g1 h4=>by
   obtain⟨t,h6,_⟩:=ae.mp h4;rw[aK0 h6];rfl
  split at h0
  ·obtain⟨⟨o,m,ap⟩,h2,h3⟩:=ae.mp h0;rw[Y0 h2];split at h3
   ·rename_i hb;simp only[ah]at hb;obtain⟨g1,h4,h5⟩:=af.mp h3;subst h5;dsimp only at hb ⊢;rw[beq_iff_eq.mp hb.1.1];exact bB3 (T8 F o) (bo9 F h4) (M2 hb.2 _ _ _) (by rw[z _ _ h4];rfl) hb.1.2 (z _ _ h4)
   ·cases h3
  ·cases h0
theorem bQ2(F:FitZ S O C c X):∀e g,kY S O c e=some g->UE X C e g:=λe g h=>by
 unfold kY at h;split at h
 ·rename_i g1 h1;cases h;exact bo9 F h1
 ·exact ae7 F 4 e g h
theorem cf5(F:FitZ S O C c X)(h:kT0 S O c e=some g):UT X C e g:=by
 unfold kT0 at h;split at h
 ·rename_i t ht;split at h
  ·rename_i g0 hg;cases h;obtain⟨w,h1,h2⟩:=ae.mp hg;rw[ai2 ht];obtain⟨x,p,pos,e1,N,hf⟩:=U5 F h1;obtain⟨l,op,r,p4⟩:=t;dsimp only at e1;subst e1;unfold kLc at h2;dsimp only at h2 ⊢;cases op<;>cases h2
   ·exact bN9 false F.o.fit.units (F.o.foc _) hf N (W8 (T8 F _)) rfl rfl
   ·exact bN9 true F.o.fit.units (F.o.foc _) hf N (W8 (T8 F _)) rfl rfl
  split at h
  ·cases h;rw[ai2 ht];unfold oCc;split
   ·rename_i k hk;split
    ·exact λ_ _ _ _ h _=>nomatch h
    ·rename_i hm;exact bU2 (bo2 F hk) (l4 F (bQ2 F) _) (l4 F (bQ2 F) _) (by simpa using hm)
   ·exact λ_ _ _ _ h _=>nomatch h
  ·cases h
 ·split at h
  ·rename_i hc;obtain⟨g1,h1,h2⟩:=af.mp h;subst h2;obtain⟨t,ht⟩:=dj.mp hc;refine bU1 (ae7 F 5 e g1 h1) ?_;rw[M8 ht];intro _;rfl
  ·cases h
theorem aK2(F:FitZ S O C c X)(e:Expr):UT X C e (kT1 S O c e):=by
 unfold kT1;cases h:kT0 S O c e with
 | none=>exact aO1 ((l5 S 99).t F.o.fit e)
 | some g =>
  exact cf5 F h
theorem bo6(F:FitZ S O C c X)(op:BoolOp):∀es:List Expr,UW X C op es (kTc S O c op es)
 | []=>λ_ _ _ _ h _=>nomatch h
 | [e]=>by
  cases op
  ·exact λ_ _ _ _ h _=>nomatch h
  ·exact bU0 (aK2 F e)
 | e::e'::es=>by
  cases op
  ·exact λ_ _ _ _ h _=>nomatch h
  ·exact co4 (aK2 F e) (bo6 F .Or (e'::es))
theorem cu8(F:FitZ S O C c X)(e:Expr):UT X C e (kT S O c e):=by
 unfold kT;split
 ·rename_i t ht;split
  ·rw[bM6 ht];exact(bo6 F _ _).ut
  ·exact aO1 ((l5 S 99).t F.o.fit e)
 ·exact aK2 F e
theorem cu9(F:FitZ S O C c X)(h:kN S O c v=some g):UN X C v g:=by
 obtain⟨⟨f,a,k,p⟩,h1,h0⟩:=ae.mp h
 clear h
 rw[M8 h1];dsimp only at h0 ⊢;split at h0
 ·obtain⟨⟨x,px⟩,h2,h⟩:=ae.mp h0;rw[J5 h2];obtain⟨⟨kd,Fm,n⟩,h3,h⟩:=ae.mp h;split at h
  ·rename_i hb;cases h;simp only[ah,beq_iff_eq]at hb;obtain⟨⟨b1,b2⟩,b3⟩:=hb;obtain⟨g1,g2⟩:=G2 F.o.fit b1;have M:=F.make _ _ _ _ h3;cases a with
   | nil =>
    cases b2;exact be4 M g1 g2
   | cons e es =>
    have b3':=b3;simp only[aL,ah]at b3';exact bA5 M g1 (u9 (T8 F) (_::_)) b2 g2 (D2 b3'.1 _ _) ((L4 p _).trans (G0 p _ b3'.2))
  ·cases h
 ·cases h0
theorem cg4(F:FitZ S O C c X)(hi:Q0 x c.N=some n)(h:kCm S O c x p' n v=some g):US X C (.Assign [.Name x p'] v p) g:=by
 obtain⟨⟨elt,tg,it,sc,pv⟩,h1,h0⟩:=ae.mp h
 clear h
 rw[aK0 h1];dsimp only at h0 ⊢;split at h0
 ·rename_i i _;obtain⟨g1,h2,h⟩:=ae.mp h0;split at h
  ·rename_i hb;cases h;simp only[ah]at hb;obtain⟨l1,hb⟩:=hb;have l1:=bl1 l1;unfold cpB at hb;simp only[ah]at hb;obtain⟨⟨⟨⟨⟨⟨⟨⟨c0,c1⟩,c2⟩,c3⟩,c4⟩,c5⟩,c6⟩,c7⟩,c8⟩:=hb;have hn:=V1 c2;have hl':X.env.scope.names.lookup x=some .local:=by rw[F.o.fit.sc];simpa using c4
   have hsw:swapsWith (.ListComp elt [⟨tg,it,[],0⟩] sc pv) (some (.Name x p')) p.line X.env=pure true:=by
    rw[i6,ay9 F.o.fit c5.1.1,c5.1.2,c5.2];unfold Env.kindOf;rw[hl'];rfl
   obtain⟨v1,v2,v3⟩:=F6 F.o.fit c6;split at c8
   ·rename_i y hy;simp only[ah]at c8;obtain⟨d1,d2⟩:=c8;refine be1 n i (by rw[F.o.fit.N];exact F.o.fit.nd) (ad1 c1 F.o.fit.N F.o.fit.sc) F.o.fit.hu (bq5 (l5 S 98) F.o.fit tg it) (λC0 s0 H0 ex=>?_) (λC0 s0 H0 ex=>ae7 (F.inner c0 hn) 5 elt g1 h2) (by rw[F.o.fit.N];simpa using c7) v1 v2 v3 (F.o.fit.slot hi) hl' hsw F.o.fit.calm (ah4 c3 _);have Fi:=F.o.fit.inner (C:=C0) (s0:=s0) (H0:=H0) (ex:=ex) c0 hn;obtain⟨e1,e2⟩:=j7 Fi d1;have key:∀t,t=Expr.Name y.1 y.2->JG (B3 (c.up==2) X (G.inner c (E2 tg) [i] sc).N sc C0 s0 H0 ex) t (F4 0):=λt e=>by subst e;exact aw5 0 hn (Fi.slot (by simpa using d2)) e1 e2
    exact key tg (J5 hy)
   ·cases c8
  ·cases h
 ·split at h0
  ·rename_i hb;cases h0;simp only[ah]at hb;have hl':X.env.scope.names.lookup x=some .local:=by rw[F.o.fit.sc];simpa using hb.1.1
   have hsw:swapsWith (.ListComp elt [⟨tg,it,[],0⟩] sc pv) (some (.Name x p')) p.line X.env=pure true:=by
    rw[i6,ay9 F.o.fit hb.1.2.1.1,hb.1.2.1.2,hb.1.2.2];unfold Env.kindOf;rw[hl'];rfl
   obtain⟨h1,h2,h3,h4,h5,h6⟩:=ay2 (ifs:=[]) (elt:=elt) (l5 S 98) F.o.fit (by simp only[ah];exact hb.2);exact be0 n (by rw[F.o.fit.N];exact F.o.fit.nd) h1 F.o.fit.hu h2 h3 h4 h5 (F.o.fit.slot hi) hl' hsw F.o.fit.calm h6
  ·cases h0
 ·cases h0
theorem bI6(F:FitZ S O C c X)(x:Str)(p':Pos)(v:Expr)(p:Pos):US X C (.Assign [.Name x p'] v p) (cg8 S O c x p' v):=by
 have nd:X.N.Nodup:=by rw[F.o.fit.N];exact F.o.fit.nd
 unfold cg8;split
 ·rename_i i hi;split
  ·rename_i h;simp only[ah,bn]at h;obtain⟨l1,l2⟩:=j7 F.o.fit h.1;split
   ·rename_i g hg;exact bU3 i nd (cu9 F hg) (F.o.fit.slot hi) l1 (J2 h.2 _ _ _) l2
   ·split
    ·rename_i g hg;obtain⟨t,h2,h3⟩:=ae.mp hg;refine co6 (aH0 i nd (ae9 F v) (F.o.fit.slot hi) l1 (J2 h.2 _ _ _) l2) ?_;have hs:=J2 h.2 (some (.Name x p')) p.line X.env;rw[ay8 h2]at hs ⊢;exact co7 i nd ((bo7 F (ae7 F 5) h3).2 _ _) (F.o.fit.slot hi) l1 hs l2
    split
    ·rename_i g hg;unfold kL at hg;split at hg
     ·cases hg;exact bz9 i nd ((l5 S 98).n F.o.fit v) (F.o.fit.slot hi) l1 (J2 h.2 _ _ _) l2
     ·cases hg
    ·unfold kSx;cases c.up==2
     ·exact aH0 i nd (ae9 F v) (F.o.fit.slot hi) l1 (J2 h.2 _ _ _) l2
     ·exact bz5 i nd (ae9 F v) (F.o.fit.slot hi) l1 (J2 h.2 _ _ _) l2
  ·cases hg:kCm S O c x p' i v with
   | none=>exact S1
   | some g=>exact cg4 F hi hg
 ·exact S1
theorem cg1(F:FitZ S O C c X)(h:kFr v=some g):UN2 X C v g:=by
 unfold kFr at h;split at h
 ·cases h;exact bV1
 ·cases h;exact bA6
 ·cases h
theorem cg7(F:FitZ S O C c X)(v:Expr)(ts:List Expr)(p:Pos):US X C (.Assign ts v p) (kAs S O c v ts):=by
 unfold kAs;split
 ·rename_i tg;split
  ·rename_i t ht;rw[J5 ht];exact bI6 F _ _ _ _
  ·split
   ·rename_i u hu;cases hg:cv2 S O c u v with
    | none=>exact S1
    | some g =>
     obtain⟨⟨x,px⟩,h2,h⟩:=ae.mp hg;obtain⟨i,h3,h⟩:=ae.mp h;obtain⟨⟨kd,n⟩,h4,h⟩:=ae.mp h;split at h
     ·rename_i hb;simp only[ah,bn]at hb;obtain⟨v1,v2,v3⟩:=F6 F.o.fit hb.1;rw[Y0 hu,J5 h2];split at h
      ·cases h;exact bz6 i (F.o.foc _) (ar2 h4) (F.o.fit.slot h3) v1 v2 v3 (ae9 F v) (J2 hb.2 _ _ _)
      ·obtain⟨g1,h5,h6⟩:=af.mp h;subst h6;exact bA0 (F.o.foc _) (ar2 h4) ⟨F.o.fit.slot h3,v1,v2,v3⟩ (cg1 F h5) (J2 hb.2 _ _ _)
     ·cases h
   ·split
    ·rename_i t ht;cases hg:cv1 S O c t v with
     | none=>exact S1
     | some g =>
      obtain⟨w,h1,h2⟩:=ae.mp hg;rw[as8 ht];obtain⟨x,p,pos,e1,N,hf⟩:=U5 F h1;rw[e1];split at h2
      ·cases h2
      ·rename_i hc;cases h2;exact bz7 F.o.fit.units (F.o.foc _) hf N (W8 (T8 F _)) (W8 (T8 F _)) rfl (J2 (by simpa using hc) _ _ _)
    ·exact S1
 ·exact S1
theorem cg0(F:FitZ S O C c X)(h:kFs S O c e=some g)(hs:swapsWith e none pos.line X.env=pure false):US X C (.Expr e pos) g:=by
 obtain⟨⟨f,a,k,p⟩,h1,h0⟩:=ae.mp h
 clear h
 rw[M8 h1]at hs ⊢;dsimp only at h0 hs ⊢;split at h0
 ·rename_i a0 _;obtain⟨⟨o,m,ap⟩,h2,h3⟩:=ae.mp h0;rw[Y0 h2]at hs ⊢;dsimp only at h3 hs ⊢;split at h3
  ·rename_i hb;simp only[ah]at hb;have z:=D2 hb.2 [] X.env;split at h3
   ·rename_i hm;obtain⟨w,h4,h5⟩:=af.mp h3;subst h5;obtain⟨x,p,pos,e1,N,hf⟩:=U5 F h4;rw[e1,beq_iff_eq.mp hm]at hs ⊢;exact bA2 (F.o.foc _) hf N (cf7 F _) (bn6 hb.2 hb.1) z rfl hs
   ·split at h3
    ·rename_i hm;obtain⟨w,h4,h5⟩:=af.mp h3;subst h5;obtain⟨x,p,pos,e1,N,hf⟩:=U5 F h4;rw[e1,beq_iff_eq.mp hm]at hs ⊢;exact bz8 (F.o.foc _) hf N (W8 (T8 F _)) (bn6 hb.2 hb.1) rfl hs
    ·cases h3
  ·cases h3
 ·cases h0
theorem cf6(F:FitZ S O C c X)(e:Expr):US X C (.Return (some e) pos) (kRe S O c e):=by
 unfold kRe;split
 ·rename_i x hx;split
  ·split
   ·rename_i i hi;split
    ·rename_i hv;obtain⟨v1,v2,v3⟩:=F6 F.o.fit hv;rw[J5 hx];exact co5 i (F.o.fit.slot hi) v1 v2 v3
    ·exact S1
   ·exact S1
  ·exact bd8 (ae9 F _)
 ·exact bd8 (ae9 F _)
theorem ck4{st:Stmt}{g:UX}(h:US X C st g):∀o,US X C st (fzU g o)
 | none=>h
 | some l=>by
  unfold fzU
  induction l generalizing g with
  | nil=>exact h
  | cons i l ih=>exact ih (bU4 i h)
theorem al1(F:FitZ S O C c X):∀n st,US X C st (kSt S O c n st)
 | 0,st=>S1
 | n+1,st=>by
  have ih:=ap9 (al1 F n);unfold kSt;refine ck4 ?_ _;split
  ·exact cf6 F _
  ·exact co8 (cu8 F _) (ih _) (ih _)
  ·rename_i tg it a o p;unfold kFo;split
   ·split
    ·rename_i h;simp only[ah]at h;exact bU5 (bA8 (bq5 (l5 S 98) F.o.fit _ _)) ((l5 S 98).g F.o.fit _) (bR7 S 98 c tg) (ih _) (F.o.fit.po h.2) F.o.fit.calm (ah4 h.1 _)
    ·exact S1
   ·exact S1
  ·exact cg7 F _ _ _
  ·split
   ·exact S1
   ·rename_i e p hc;have hs:=J2 (e:=e) (by simpa using hc) none p.line X.env;split
    ·rename_i g hg;exact cg0 F hg hs
    cases hg:kAp S O c e with
    | none=>exact bA1 (ae9 F _) hs
    | some g =>
     obtain⟨⟨x,px,m,ap,a,cp⟩,h1,h0⟩:=ae.mp hg;obtain⟨i,h2,h⟩:=ae.mp h0;rw[bn3 h1]at hs ⊢;dsimp only at h hs ⊢;split at h
     ·rename_i a0;split at h
      ·rename_i hb;cases h;simp only[ah,beq_iff_eq]at hb;obtain⟨⟨⟨⟨b1,b2⟩,b3⟩,b4⟩,b5⟩:=hb;subst b1;obtain⟨v1,v2,v3⟩:=F6 F.o.fit b3;have z:=D2 b5 [] X.env;exact bU6 i (ae9 F _) (F.o.fit.slot h2) v1 v2 v3 (by rw[z];rfl) (by simpa using b4) z hs
      ·cases h
     ·cases h
  ·exact bc7 (P:=λe f=>US X C (.Raise (some e) none _) (match f [] with|some (.rt d)=>λ_ q=>some (.rt d q)|_=>uXo)) F.o.fit (λ_=>S1) (λt n g _ _ _ _ _ fl=>by cases fl<;>first|exact S1|exact bd9 (aB9 t n g F.o.fit.calm al3 rfl)) _
  ·exact S1
end
end G
namespace G
open PySem PySem.Spec PyProof.Rows L2
def cx5:Stmt->List Stmt
 | .ClassDef _ _ _ b _ _ _ _ _ _ _=>b
 | _=>[]
structure KCl (K:ag) (C:eW) (cl:Str) (fn:List Str):Prop where
 ns:aP K dS cl=some (some (.ref C))
 make:PySem.W.makesIn K C=true
 kp:aD K (.ref C)=true
 foc:FoC K C fn
theorem bo5{K:ag}{C:eW}{cl:Str}{fn:List Str}(a:aP K dS cl=some (some (.ref C)))(b:PySem.W.makesIn K C=true)(c:aD K (.ref C)=true)(pg:PySem.W.plainGet K C eT=true)(hd:PySem.W.hasDictIn K C=true)(po:PySem.W.plainOver K C=true)
  (sa:PySem.W.findIn K (.ref C) "__setattr__" = some (some (.builtin "object.__setattr__"))) (is:cj9 K C=true) (n:∀f∈fn,PySem.W.findIn K (.ref C) f=some none):KCl K C cl fn:=⟨a,b,c,⟨pg,hd,po,sa⟩,is,n⟩
theorem cu6{K:ag}{C:eW}{m qual:Str}{st:Stmt}{f:eW}{oc:eU}{od:Option eW}{sl:Array (Option eU)}{kV dc pm:eU}{an:Option eW}{cd ct:eU}(a:PySem.W.findIn K (.ref C) m=some (some (.ref f)))(i:PySem.W.isFn K (.ref f)=true)
  (l:K.lookup f=some ⟨oc,od,.func (bx m qual (M5 st) (C8 st) (A2 st) .none kV dc pm an cd ct),sl⟩) (c:bZ K cd qual=true) (k:aD K (.ref f)=true):KM K C m qual st:=⟨f,oc,od,sl,kV,dc,pm,an,cd,ct,a,i,l,c,k⟩
section
variable {P:Program}{w:World}{K:PySem.W.Frag}{mg:Str->Option Value}{base:Heap}{cs:List (Str×D)}{bl:List Str}{C:CT}{tab:Tab}{O:Og5}
def aN7(bz:Bool)(P:dU)(w:World)(K:ag)(mg:Str->Option eU)(base:Heap)(C:CT)(k:Nat)(df:List (Str×DF×Nat×Nat)):Prop:=∀x F n j,df.lookup x=some (F,n,j)->∃(f:eW) (fd:dX) (ps:List Str),
 FnOk P w K mg base (CXb K P w bz) k f fd ps (spD K C n F)/\mg x=some (.ref f)/\aD K (.ref f)=true/\E8 K fd ps []
theorem aN7.cons{k:Nat}{df:List (Str×DF×Nat×Nat)}{x:Str}{F:DF}{n j:Nat}(T:aN7 bz P w K mg base C k df)(h:∃(f:eW) (fd:dX) (ps:List Str),FnOk P w K mg base (CXb K P w bz) k f fd ps (spD K C n F)/\mg x=some (.ref f)/\aD K (.ref f)=true/\E8 K fd ps []):
  aN7 bz P w K mg base C k ((x,F,n,j)::df):=λy G m i e=>by
 rw[aJ]at e;split at e
 ·rename_i q;cases e;simp only[beq_iff_eq]at q;subst q;exact h
 ·exact T y G m i e
theorem aN7.mono{df:List (Str×DF×Nat×Nat)}(T:aN7 bz P w K mg base C j df)(h:j<=k):aN7 bz P w K mg base C k df:=λx F n i e=>by
 obtain⟨f,fd,ps,h1,h2⟩:=T x F n i e;exact⟨f,fd,ps,h1.mono h,h2⟩
structure ZOk (bz:Bool) (P:dU) (w:World) (K:ag) (mg:Str->Option eU) (base:Heap) (C:CT) (k:Nat) (tab:Tab) (O:Og5):Prop where
 t:TOk bz P w K mg base k tab
 m:MOk bz P w K mg base C k O.ms
 i:∀x kd F n,O.ini.lookup x=some (kd,F,n)->∃j f fd ps,j+1<=k/\FnOk P w K mg base (CXb K P w bz) j f fd ps (spD K C (n+1) F)/\Mk K (C kd) f/\E8 K fd ps []/\mg x=some (.ref (C kd))
 d:aN7 bz P w K mg base C k O.df
 f:∀x F n,O.mf.lookup x=some (F,n)->∃f fd ps,FnOk P w K mg base (CXb K P w bz) k f fd ps (bh0 K C n F)/\mg x=some (.ref f)/\aD K (.ref f)=true/\E8 K fd ps []
theorem ZOk.mono(V:ZOk bz P w K mg base C j tab O)(h:j<=k):ZOk bz P w K mg base C k tab O where
 t:=V.t.mono h
 m:=V.m.mono h
 i:=λx kd F n e=>by obtain⟨i,f,fd,ps,h1,h2⟩:=V.i x kd F n e;exact⟨i,f,fd,ps,aM h1 h,h2⟩
 d:=V.d.mono h
 f:=λx F n e=>by obtain⟨f,fd,ps,h1,h2⟩:=V.f x F n e;exact⟨f,fd,ps,h1.mono h,h2⟩
theorem bL5{f:eW}{cdv:eU}{A:dW}{outer:List Env}{s:eV}{H:Hp}{E:XK}{qual:Str}(M:Md K mg cs bl)(V:ZOk bz P w K mg base C k tab O)(Fc:∀kd,FoC K (C kd) (O.fn kd)){d:Fd}(hu:d.up=(bif bz then 2 else 0))(nt:bz=true->NT K mg)(ok:d.okB=true)(hr:Room k (A.deeper (envOfC qual (A2 d.st) s.heap.objs.size f cdv))):
  FitZ ⟨tab,cs,bl⟩ O C d.c (cxY bz P w K mg base d.N qual (A2 d.st) f cdv A outer s H E):=by
 have Sc:=Fd.sc ok;have eb:(d.up != 0)=bz:=by rw[hu];cases bz<;>rfl
 have fit:Fit ⟨tab,cs,bl⟩ d.c (cxY bz P w K mg base d.N qual (A2 d.st) f cdv A outer s H E):=by
  refine⟨rfl,rfl,Sc.nd,rfl,λ_=>ca2,λh=>?_,hr.units,λ_=>⟨λ_=>rfl,Sc.kind⟩,λx F n h=>?_,M.css,M.bls⟩
  ·have h:d.up=2:=h;cases bz
   ·rw[hu]at h;cases h
   ·exact⟨cp8,nt rfl⟩
  ·show bc4 _ (d.up != 0) _ _ _;rw[eb];exact(V.t x F n h).imp (λ⟨f',fd',ps,h1,h2,h3,h4⟩=>⟨k,f',fd',ps,aJ1,h1,hr,h2,h3,h4⟩) id
 refine⟨⟨fit,Fc,λm kd F n h=>?_⟩,λx kd F n h=>?_,λx F n j h=>?_,λx F n h=>?_⟩
 ·show af8 _ (d.up != 0) _ _ _ _ _;rw[eb];obtain⟨f',fd',ps,h1,h2,h3⟩:=V.m m kd F n h;exact⟨k,f',fd',ps,aJ1,h1,hr,h2,h3⟩
 ·show bN3 _ (d.up != 0) _ _ _ _ _;rw[eb];obtain⟨j,f',fd',ps,h1,h2,h3,h4,h5⟩:=V.i x kd F n h;exact⟨j,f',fd',ps,aJ1,h2,hr.mono h1,h3,h4,h5⟩
 ·show cm8 _ (d.up != 0) _ _ _ _;rw[eb];obtain⟨f',fd',ps,h1,h2,h3,h4⟩:=V.d x F n j h;exact⟨k,f',fd',ps,aJ1,h1,hr,h2,h3,h4⟩
 ·show cm1 _ (d.up != 0) _ _ _ _;rw[eb];obtain⟨f',fd',ps,h1,h2,h3,h4⟩:=V.f x F n h;exact⟨k,f',fd',ps,aJ1,h1,hr,h2,h3,h4⟩
def rdK(tab:Tab)(cs:List (Str×D))(bl:List Str)(O:Og5)(d:Fd):DF:=K9 (oB (kSt ⟨tab,cs,bl⟩ O d.c 9) (C8 d.st)) d.N.length
def rdJ(tab:Tab)(cs:List (Str×D))(bl:List Str)(O:Og5)(d:Fd):FnD:=aI7 (oB (kSt ⟨tab,cs,bl⟩ O d.c 9) (C8 d.st)) d.N.length
theorem kfn(V:ZOk bz P w K mg base C k tab O)(M:Md K mg cs bl)(Fc:∀kd,FoC K (C kd) (O.fn kd))(d:Fd)(hu:d.up=(bif bz then 2 else 0))(nt:bz=true->NT K mg)(ok:d.okB=true)(Fn:Fun K d.x qual d.st f fd):FnOk P w K mg base (CXb K P w bz) (k+1) f fd d.ps (spD K C d.ps.length (rdK tab cs bl O d)) :=
 bt9 (N:=d.N) Fn (Fd.sc ok) λcdv A outer s H E hr=>ap9 (al1 (bL5 M V Fc hu nt ok hr) 9) _
theorem ZOk.addM(V:ZOk bz P w K mg base C k tab O)(M:Md K mg cs bl)(Fc:∀kd,FoC K (C kd) (O.fn kd))(kd:Bool)(d:Fd)(h:KM K (C kd) d.x qual d.st)(F:DF)(n:Nat)(e:rdK tab cs bl O d=F:=by kernel_rfl)(hp:d.ps.length=n+1:=by rfl)(hu:d.up=(bif bz then 2 else 0):=by rfl)(nt:bz=true->NT K mg:=by intro h;cases h)(ok:d.okB=true:=by kernel_rfl)(bd:BdM d qual:=by repeat (first|exact rfl|intro _)):ZOk bz P w K mg base C (k+1) tab { O with ms:=(d.x,kd,F,n)::O.ms }:=by
 subst e;obtain⟨f,oc,od,sl,kV,dc,pm,an,cd,ct,a,i,l,cc,kk⟩:=h;have Fn:=aL5 l cc kk;have U:=V.mono (ci k);have q:=kfn V M Fc d hu nt ok Fn;rw[hp]at q;exact⟨U.t,U.m.cons ⟨f,_,d.ps,q,⟨a,i,kk⟩,.all (ua (bd kV dc pm an cd ct))⟩,U.i,U.d,U.f⟩
def rdF(tab:Tab)(cs:List (Str×D))(bl:List Str)(O:Og5)(d:Fd):List D->Option Fo:=bD8 (oB (kSt ⟨tab,cs,bl⟩ O d.c 9) (C8 d.st)) d.N.length
theorem av8{α:Type}{l:List (Str×α)}{p:Str->α->Prop}{x:Str}{a:α}(h:p x a)(t:∀(y:Str) (b:α),l.lookup y=some b->p y b):∀(y:Str) (b:α),((x,a)::l).lookup y=some b->p y b:=λy b e=>by
 rw[aJ]at e;split at e
 ·rename_i q;cases e;rw[beq_iff_eq.mp q];exact h
 ·exact t y b e
theorem ZOk.addF(V:ZOk bz P w K mg base C k tab O)(M:Md K mg cs bl)(Fc:∀kd,FoC K (C kd) (O.fn kd))(d:Fd)(h:KF K d.x d.st)(F:List D->Option Fo)(e:rdF tab cs bl O d=F:=by kernel_rfl)(hu:d.up=(bif bz then 2 else 0):=by rfl)(nt:bz=true->NT K mg:=by intro h;cases h)(ok:d.okB=true:=by kernel_rfl)(bd:Bd d:=by repeat (first|exact rfl|intro _)):ZOk bz P w K mg base C (k+1) tab { O with mf:=(d.x,F,d.ps.length)::O.mf }:=by
 subst e;obtain⟨f,kV,dc,pm,an,cd,ct,Fn,hm⟩:=n4 h M;have U:=V.mono (ci k);refine⟨U.t,U.m,U.i,U.d,λx F' n e=>?_⟩;exact av8 (p:=λx (t:(List D->Option Fo)×Nat)=>∃f fd ps,FnOk P w K mg base (CXb K P w bz) (k+1) f fd ps (bh0 K C t.2 t.1)/\mg x=some (.ref f)/\aD K (.ref f)=true/\E8 K fd ps []) ⟨f,_,d.ps,bt8 (N:=d.N) Fn (Fd.sc ok) λcdv A outer s H E hr=>ap9 (al1 (bL5 M V Fc hu nt ok hr) 9) _,hm,Fn.kp,.all (ua (bd kV dc pm an cd ct))⟩ (λy t e=>U.f y t.1 t.2 e) x (F',n) e
theorem ZOk.addI(V:ZOk bz P w K mg base C k tab O)(M:Md K mg cs bl)(Fc:∀kd,FoC K (C kd) (O.fn kd))(kd:Bool){cl:Str}{fn:List Str}(c:KCl K (C kd) cl fn)(d:Fd)(h:KM K (C kd) "__init__" qual d.st)(hx:d.x = "__init__")(F:DF)(n:Nat)(e:rdK tab cs bl O d=F:=by kernel_rfl)(hp:d.ps.length=n+1:=by rfl)(hu:d.up=(bif bz then 2 else 0):=by rfl)(nt:bz=true->NT K mg:=by intro h;cases h)(ok:d.okB=true:=by kernel_rfl)(bd:BdM d qual:=by repeat (first|exact rfl|intro _)):ZOk bz P w K mg base C (k+2) tab { O with ini:=(cl,kd,F,n)::O.ini }:=by
 subst e;obtain⟨f,oc,od,sl,kV,dc,pm,an,cd,ct,a,i,l,cc,kk⟩:=h;rw[← hx]at l;have Fn:=aL5 l cc kk;have U:=V.mono (show k<=k+2 by omega);have q:=kfn V M Fc d hu nt ok Fn;rw[hp]at q;refine⟨U.t,U.m,λx kd' F' n' e=>?_,U.d,U.f⟩;exact av8 (p:=λx (t:Bool×DF×Nat)=>∃j f fd ps,j+1<=k+2/\FnOk P w K mg base (CXb K P w bz) j f fd ps (spD K C (t.2.2+1) t.2.1)/\Mk K (C t.1) f/\E8 K fd ps []/\mg x=some (.ref (C t.1))) ⟨k+1,f,_,d.ps,aj _,q,⟨c.make,a,i,c.kp⟩,.all (ua (bd kV dc pm an cd ct)),M.ns _ _ c.ns⟩ (λy t e=>U.i y t.1 t.2.1 t.2.2 e) x (kd',F',n') e
theorem ZOk.addD(V:ZOk bz P w K mg base C k tab O)(M:Md K mg cs bl)(Fc:∀kd,FoC K (C kd) (O.fn kd))(d:Fd)(h:KF K d.x d.st)(F:DF)(j:Nat)(e:rdK tab cs bl O d=F:=by kernel_rfl)(hu:d.up=(bif bz then 2 else 0):=by rfl)(nt:bz=true->NT K mg:=by intro h;cases h)(ok:d.okB=true:=by kernel_rfl)(bd:Bd d:=by repeat (first|exact rfl|intro _)):ZOk bz P w K mg base C (k+1) tab { O with df:=(d.x,F,d.ps.length,j)::O.df }:=by
 subst e;obtain⟨f,kV,dc,pm,an,cd,ct,Fn,hm⟩:=n4 h M;have U:=V.mono (ci k);exact⟨U.t,U.m,U.i,U.d.cons ⟨f,_,d.ps,kfn V M Fc d hu nt ok Fn,hm,Fn.kp,.all (ua (bd kV dc pm an cd ct))⟩,U.f⟩
theorem TOk.addY(V:ZOk bz P w K mg base C k tab O)(M:Md K mg cs bl)(Fc:∀kd,FoC K (C kd) (O.fn kd))(d:Fd)(h:KF K d.x d.st)(F:FnD)(e:rdJ tab cs bl O d=F:=by kernel_rfl)(hu:d.up=(bif bz then 2 else 0):=by rfl)(nt:bz=true->NT K mg:=by intro h;cases h)(ok:d.okB=true:=by kernel_rfl)(bd:Bd d:=by repeat (first|exact rfl|intro _)):TOk bz P w K mg base (k+1) ((d.x,F,d.ps.length)::tab):=by
 subst e;obtain⟨f,kV,dc,pm,an,cd,ct,Fn,hm⟩:=n4 h M;have Sc:=Fd.sc ok;exact(V.t.mono (ci k)).cons ⟨f,_,d.ps,aE9 (N:=d.N) (ps:=d.ps) (C:=C) (g:=oB (kSt ⟨tab,cs,bl⟩ O d.c 9) (C8 d.st)) Fn Sc λcdv A outer s H E hr=>ap9 (al1 (bL5 M V Fc hu nt ok hr) 9) _,hm,Fn.kp,.all (ua (bd kV dc pm an cd ct))⟩
theorem bo0{F:FnD}{fa:eW}{x:Str}(M:Md K mg cs bl)(Fc:∀kd,FoC K (C kd) (O.fn kd))(V:∀base:Heap,ZOk false P w K mg base C k tab O)(d:Fd)(h:KF K d.x d.st)(e:rdJ tab cs bl O d=F)(hm:mg d.x=some (.ref fa))(hp:d.ps=[x]:=by rfl)(hu:d.up=0:=by rfl)(ok:d.okB=true:=by kernel_rfl)(bd:Bd d:=by repeat (first|exact rfl|intro _)):
  ∃fd:dX,(∀(s:eV) (u:eU),BindsTo s fd ⟨[u],[]⟩ [(x,u)])/\∀base:Heap,FnOk P w K mg base (CXb K P w false) (k+1) fa fd [x] (spF K 1 F):=by
 subst e;obtain⟨f,kV,dc,pm,an,cd,ct,Fn,hm'⟩:=n4 h M;cases hm.symm.trans hm';have Sc:=Fd.sc ok;refine⟨bx d.x d.x (M5 d.st) (C8 d.st) (A2 d.st) .none kV dc pm an cd ct,λs u=>.of_eq ?_,λbase=>?_⟩
 ·have:=ua (bd kV dc pm an cd ct) [u] (by rw[hp];rfl);rw[hp]at this;exact this
 ·have:=aE9 (N:=d.N) (ps:=d.ps) (C:=C) (g:=oB (kSt ⟨tab,cs,bl⟩ O d.c 9) (C8 d.st)) Fn Sc λcdv A outer s H E hr=>ap9 (al1 (bL5 M (V base) Fc hu (λh=>nomatch h) ok hr) 9) _
  rw[hp]at this;exact this
theorem ZOk.up(V:ZOk false P w K mg base C k tab O):ZOk bz P w K mg base C k tab O :=
 ⟨V.t.up,λm kd F n e=>let⟨f,fd,ps,h1,h2⟩:=V.m m kd F n e;⟨f,fd,ps,aE8 h1,h2⟩,λx kd F n e=>let⟨j,f,fd,ps,h0,h1,h2⟩:=V.i x kd F n e;⟨j,f,fd,ps,h0,aE8 h1,h2⟩,λx F n j e=>let⟨f,fd,ps,h1,h2⟩:=V.d x F n j e;⟨f,fd,ps,aE8 h1,h2⟩,λx F n e=>let⟨f,fd,ps,h1,h2⟩:=V.f x F n e;⟨f,fd,ps,aE8 h1,h2⟩⟩
theorem ZOk.start{fd:List (Str×Bool×Nat)}{ob:List Str}(t:TOk bz P w K mg base k tab):ZOk bz P w K mg base C k tab ⟨[],[],[],fd,ob,[]⟩ :=
 ⟨t,MOk.nil.mono (aU _),(λx kd F n e=>nomatch e),(λx F n j e=>nomatch e),λx F n e=>nomatch e⟩
end
end G
namespace G
open PySem PySem.Spec PyProof.Rows L2
abbrev H00:Hp:=λ_=>none
def ov(H H1:Hp):Hp:=λb=>match H b with
 | some o=>some o
 | none=>H1 b
theorem aJ4(h:H b=some o):ov H H1 b=some o:=by unfold ov;rw[h]
theorem bG6(h:H b=none):ov H H1 b=H1 b:=by unfold ov;rw[h]
def CXs(K:ag)(P:dU)(w:World):CXT:=λouter H s _ e s'=>∃C,clA K "NoText" = some C/\CX1 P w outer H s (EC C H) e s'
def spB(F:FnD):Sp:=λvs _ _ _=>∃t,vs=[.str t]/\F [.str t]=some bad
theorem ck6{P:dU}{w:World}{K:ag}{mg:Str->Option eU}{base:Heap}{f:eW}{fd:dX}{ps:List Str}{F:FnD}{k:Nat}(h:FnOk P w K mg base (CXb K P w true) k f fd ps (spF K 1 F)):FnOk P w K mg base (CXs K P w) k f fd ps (spB F):=by
 refine⟨λvs H Q E ⟨t,q,e⟩=>by subst q;exact h.len [.str t] H00 (λ_ _=>True) E ⟨rfl,H00,[.str t],bad,B0.refl _,⟨_,_,rfl,rfl,rfl⟩,e,λ_ _ _ _ _=>trivial⟩,λA outer s H args us vs Q E hr e0 hb r q=>?_⟩;obtain⟨t,rfl,e⟩:=q;refine codeAny_mono (h.run A outer s H00 args us _ (λ_ _=>False) E hr ⟨e0.frames,e0.mod,λb o q=>⟨(e0.bs b o q).1,rfl⟩,e0.bsz,e0.funs,λ_ _=>rfl,(λa o q=>nomatch q),e0.bare⟩ hb r ⟨rfl,H00,[.str t],bad,B0.refl _,⟨_,_,rfl,rfl,rfl⟩,e,λv H' Hf' g r=>ah1 r⟩) λres s' z=>?_
 cases res with
 | ok fl =>
  cases fl with
  | next=>exact z
  | brk=>exact z
  | cont=>exact z
  | ret u=>obtain⟨_,_,_,_,_,_,_,z⟩:=z;exact z.elim
 | error e =>
  obtain⟨a,C,g,B,H1,rfl,os,bare,un,hok,F,D,hD,hE⟩:=z;cases hE;have ex:∀{b o},H b=some o->∃u,s.heap.get? b=some u:=λq=>F9.is (e0.hok _ _ q)
  have di:∀{b o},H b=some o->H1 b=none:=λ{b o} q=>let⟨u,eu⟩:=ex q;un.free b u eu rfl (by simp)
  have nf:∀{b o},H b=some o->b∉frs outer:=λ{b o} q m=>by rw[e0.frf b m]at q;cases q
  refine⟨C,hD,a,C,g,B,ov H H1,rfl,os,bare,⟨λb o e n=>un.keep b o e rfl,λb o e n=>un.slot b o e rfl,λb o e n x=>(bG6 n).trans (un.free b o e rfl x),un.there,λb xs q=>aJ4 q,λb o u q=>aJ4 q,λb ps q=>⟨#[],by rw[Array.append_empty];exact aJ4 q⟩⟩,λa o q=>?_,⟨λb o r=>F.keep b o ?_,F.fly,F.sl⟩,rfl,λb u q=>aJ4 q⟩
  ·cases e:H a with
   | some o' =>
    rw[aJ4 e]at q;cases q;exact(e0.hok a o e).stay (λb u hb q=>un.keep b u q rfl (by rcases hb with rfl|hb;exact nf e;exact nf hb) (by simp)) (λb q=>aJ4 q) λb xs q=>aJ4 q
   | none =>
    rw[bG6 e]at q
    have up:∀{b o},H1 b=some o->ov H H1 b=some o:=λ{b o} q=>by
     cases e:H b with
     | none=>rw[bG6 e];exact q
     | some=>rw[di e]at q;cases q
    exact(hok a o q).stay (λb u _ q=>q) (λb q=>up q) λb xs q=>up q
  ·rcases r with r|r
   ·exact .inl r
   ·cases e:H b with
    | none=>rw[bG6 e]at r;exact .inr r
    | some=>obtain⟨u,eu⟩:=ex e;exact .inl (by rw[eu];simp)
def rB(F:FnD):RD:=λ(ρ:Rho)=>match (ρ[0]?:Option (Option B)) with
 | some (‹.str t›)=>(match F [.str t] with
  | some d=>bif P3 d then some ("NoText", ρ) else none
  | none=>none)
 | _=>none
theorem bP1(h:rB F ρ=some (x,ρ1)):∃t,ρ[0]? = some (‹.str t›)/\F [.str t]=some bad/\x = "NoText" /\ ρ1=ρ:=by
 unfold rB at h;split at h
 ·rename_i t e;split at h
  ·rename_i d e2;cases hb:P3 d with
   | false=>rw[hb]at h;cases h
   | true=>rw[hb]at h;cases h;rw[az1 hb]at e2;exact⟨t,e,e2,rfl,rfl⟩
  ·cases h
 ·cases h
theorem bZ4{X:Cx}{F:FnD}{k:Nat}{f:eW}{fd:dX}{ps:List Str}{x y:Str}{p p1 pos:Pos}(hx:∀e s,X.xe e s->False)(Fk:FnOk X.prog X.w X.K X.mg X.base (CXs X.K X.prog X.w) k f fd ps (spB F))(hr:Room k X.A)(hg:Gl X x)(hm:X.mg x=some (.ref f))(hk:aD X.K (.ref f)=true)(hb:E8 X.K fd ps [])
  (hN:X.N[0]? = some y) (hv:Vis X.env.scope y) (hd:(y==("__debug__" : Str))=false) (hcd:(y==("__classdict__" : Str))=false) (hdb:(x==("__debug__" : Str))=false):PX X false (.Call (.Name x p) [.Name y p1] [] pos) (rB F):=by
 intro ρ z ρ1 C q hC H0 Hf0 pins s σ H Hf I at_;obtain⟨t,e0,e1,rfl,rfl⟩:=bP1 q;obtain⟨v0,h1,h2⟩:=at_.sl.is 0 _ e0;cases(show v0=.str t from h2);refine wpAny_Call_Name_kw (O7 I hg hm ?_ hdb);refine PySem.W.callWith_K (h₀:=X.base) I.ok.mod.kin hk (noX hx (B6 (J9 hN hv hd hcd) D3 rfl pos pins s σ H (λvs H'=>vs=[V.str t]/\H'=H) I ⟨_,h1,rfl,rfl⟩) λus s1 ⟨vs,H1,I1,r,e1,e2⟩=>⟨I1.kIn,?_⟩) rfl rfl;subst e1 e2;have sp:spB F [V.str t] H1 (λ_ _=>False) E0:=⟨t,rfl,by assumption⟩;have hl2:us.length=ps.length:=by rw[← r.length];exact Fk.len _ H1 _ _ sp
 have bd:BindsTo s1 fd ⟨us,[]⟩ (ps.zip us):=by
  have:=hb s1 us I1.kIn (by rw[aw];exact hl2)
  rwa [aw]at this
 refine wpAny_call (codeAny_mono (Fk.run X.A X.stack s1 H1 ⟨us,[]⟩ us _ (λ_ _=>False) E0 hr I1.env0 bd r sp) λrs s' hq=>?_);cases rs with
 | error e =>
  obtain⟨C',hC',cx⟩:=hq;rw[hC]at hC';cases hC';exact .inl ⟨σ,H1,Hf,s1,I1,at_,.inr cx⟩
 | ok fl =>
  cases fl with
  | ret u=>obtain⟨_,_,_,_,_,_,_,z⟩:=hq;exact z.elim
  | next=>exact False.elim hq
  | brk=>exact False.elim hq
  | cont=>exact False.elim hq
theorem ay4{K:ag}{mg:Str->Option eU}{x:Str}{C:eW}{cs:List (Str×D)}{bl:List Str}(M:Md K mg cs bl)(h:clA K x=some C):mg x=some (.ref C):=by
 unfold clA at h;split at h
 ·rename_i a e;cases h;exact M.ns _ _ e
 ·cases h
section
variable {P:Program}{w:World}{K:PySem.W.Frag}{mg:Str->Option Value}{base:Heap}{cs:List (Str×D)}{bl:List Str}
def bf6(rf gl rq y n:Str)(l:List Stmt):Prop:=∃p1 p2 p3 p4 q1 q2 q3 q4 q5 q6 q7,l=[.Try [.Return (some (.Call (.Name rf p1) [.Name y p2] [] p3)) p4] [.ExceptHandler (some (.Name gl q1)) (some n) [.Return (some (.Call (.Name rq q2) [.Name n q3] [] q4)) q5] q6] [] [] q7]
theorem cw8{bz:Bool}{d:Fd}{f:eW}{cdv:eU}{A:dW}{outer:List Env}{s:eV}{H:Hp}{E:XK}{qual:Str}(M:Md K mg cs bl)(ok:d.okB=true)(hu:d.up=0)(hr:Room k (A.deeper (envOfC qual (A2 d.st) s.heap.objs.size f cdv))):Fit ⟨[],cs,bl⟩ d.c (cxY bz P w K mg base d.N qual (A2 d.st) f cdv A outer s H E) :=
 ⟨rfl,rfl,(Fd.sc ok).nd,rfl,λ_=>ca2,(λh=>by rw[show d.c.up=d.up from rfl,hu]at h;cases h),hr.units,λ_=>⟨λ_=>rfl,(Fd.sc ok).kind⟩,(λx F n h=>nomatch h),M.css,M.bls⟩
theorem bW8{sp:Sp}{rf gl rq y n:Str}{f rfa:eW}{fd rfd:dX}{rps:List Str}{k:Nat}(M:Md K mg cs bl)(d:Fd)(ok:d.okB=true)(hu:d.up=0)(Fn:Fun K d.x d.x d.st f fd)(hN:d.N=[y,n])(hp:d.ps=[y])(hs:bf6 rf gl rq y n (C8 d.st))(hv:S0 (A2 d.st) y=true)(hg:Q1 (A2 d.st) rf=true)
  (R:FnOk P w K mg base (CXb K P w false) k rfa rfd rps sp) (hm:mg rf=some (.ref rfa)) (hk:aD K (.ref rfa)=true) (hb:E8 K rfd rps []) (hl:∀vs H Q E,sp vs H Q E->vs.length=1) (hE:∀vs H Q E,sp vs H Q E->sp vs H Q E0):FnOk P w K mg base (CXb K P w false) (k+1) f fd d.ps sp:=by
 refine v8 (N:=d.N) Fn (Fd.sc ok) (λvs H Q E h=>by rw[hl _ _ _ _ h,hp];rfl) λcdv A outer s H vs Q E hr hsp=>?_
 have F:=cw8 (bz:=false) (P:=P) (w:=w) (base:=base) (outer:=outer) (H:=H) (E:=E) M ok hu hr;obtain⟨p1,p2,p3,p4,q1,q2,q3,q4,q5,q6,q7,hs⟩:=hs;obtain⟨v1,v2,v3⟩:=F6 F hv;obtain⟨g1,g2⟩:=G2 F hg;have hl:=hl _ _ _ _ hsp
 obtain⟨v,rfl⟩:∃v,vs=[v]:=by
  cases vs with
  | nil=>cases hl
  | cons v r=>cases r with
   | nil=>exact⟨v,rfl⟩
   | cons=>cases hl
 have e0:(cxY false P w K mg base d.N d.x (A2 d.st) f cdv A outer s H E).N[0]? = some y:=by show d.N[0]? = _;rw[hN];rfl
 refine⟨λEn σ H=>∃v,σ[0]? = some (some v)/\sp [v] H En.rt E0,?_,v,by rw[hN];rfl,hE _ _ _ _ hsp⟩;rw[hs];refine ah2 λpins s σ H En I hw=>?_
 refine wpAny_Try_except (noX (λe s z=>z) (ah2 (au4 (i9 R hr g1 hm hk hb .nil aJ1 (B6 (J9 e0 v1 v2 v3) D3 rfl) g2 rfl rfl)) pins s σ H En I (by obtain⟨v,h1,h2⟩:=hw;exact⟨v,h1,h2⟩)) λf' s1 z=>?_);cases f' with
 | next=>exact wpAny_execs_nil z
 | ret v=>exact z
 | brk=>exact z
 | cont=>exact z
theorem bC1{F:FnD}{Fx:Str->Option D}{rf gl rq y n:Str}{f rfa qa:eW}{fd rfd qfd:dX}{rps qps:List Str}{k:Nat}(M:Md K mg cs bl)(d:Fd)(ok:d.okB=true)(hu:d.up=0)(Fn:Fun K d.x d.x d.st f fd)(hN:d.N=[y,n])(hs:bf6 rf gl rq y n (C8 d.st))(hv:S0 (A2 d.st) y=true)(hvn:S0 (A2 d.st) n=true)(hl:(A2 d.st).names.lookup n=some .local)
  (hg:Q1 (A2 d.st) rf=true) (hgg:Q1 (A2 d.st) gl=true) (hgq:Q1 (A2 d.st) rq=true) (R:FnOk P w K mg base (CXb K P w true) k rfa rfd rps (spF K 1 F)) (hm:mg rf=some (.ref rfa)) (hk:aD K (.ref rfa)=true) (hb:E8 K rfd rps [])
  (Q:FnQ P w K mg base k qa qfd qps (spX K Fx)) (qm:mg rq=some (.ref qa)) (qk:aD K (.ref qa)=true) (qb:E8 K qfd qps []) (c1:ab5 K "NoText" = true) (c2:ab5 K gl=true) (c3:bg1 K "NoText" gl=true) :
  FnOk P w K mg base (CXb K P w false) (k+1) f fd d.ps (spF K d.ps.length (G4 (ap5 (rB F) (λ_=>none) 1 (D9 (ay0 1 Fx))) d.N.length)):=by
 refine aU2 (N:=d.N) Fn (Fd.sc ok) λcdv A outer s H E hr=>?_
 have F0:=cw8 (bz:=false) (P:=P) (w:=w) (base:=base) (outer:=outer) (H:=H) (E:=E) M ok hu hr;obtain⟨p1,p2,p3,p4,q1,q2,q3,q4,q5,q6,q7,hs⟩:=hs;obtain⟨v1,v2,v3⟩:=F6 F0 hv;obtain⟨w1,w2,w3⟩:=F6 F0 hvn;obtain⟨g1,g2⟩:=G2 F0 hg;obtain⟨g3,g4⟩:=G2 F0 hgg;obtain⟨g5,g6⟩:=G2 F0 hgq;have e0:(cxY false P w K mg base d.N d.x (A2 d.st) f cdv A outer s H E).N[0]? = some y:=by show d.N[0]? = _;rw[hN];rfl
 have e1:(cxY false P w K mg base d.N d.x (A2 d.st) f cdv A outer s H E).N[1]? = some n:=by show d.N[1]? = _;rw[hN];rfl
 rw[hs];refine u8 (bI9 (λe s z=>z) rfl rfl rfl (λρ fl q=>nomatch q) (bJ3 (ch5 (bZ4 (λe s z=>z) (ck6 R) hr g1 hm hk hb e0 v1 v2 v3 g2))) g3 (λD h=>ay4 M h) g4 c2 (λρ x ρ1 q=>?_) (Fd.sc ok).nd e1 hl λa=>u8 (aw4 (br8 (X:=Cx.held _ (.ref a)) Q ⟨hr.dp,hr.un⟩ g5 qm qk qb e1 w1 w2 w3 g6)));obtain⟨_,_,_,rfl,_⟩:=bP1 q;exact⟨c1,c3⟩
end
end G
namespace G
open PySem PySem.Spec PyProof.Rows L2
def tbT(b:Bool):Str->Option Bool:=λx=>bif x == "NoText" then some b else none
def ck3:DS:=E9 (J8 1 (N7 (A0 (aF4 0 (tbT false)) (A0 (aF4 0 (tbT true)) A4)))) (E9 (sIf (Z8 (tB2 neD (bv9 (A1 1) (dC (.bool true))) ⇑1) (K5 (S4 (aF4 0 (tbT true))))) (D9 (M6 (A0 (dC (.str "refused")) (A0 (aM3 ⇑1) A4)))) Z2) (D9 (M6 (A0 (dC (.str "refused")) (A0 (ax9 (A1 1) (dC (.bool true))) A4)))))
def aK9(K:ag)(cv:Option eU)(b:Bool):Bool:=match clA K "NoText", cv with
 | some C,some v=>xcB K C&&bO K C veB "ValueError.__new__" && PySem.W.kitOne K (.ref C) v==some b
 | _,_=>false
theorem aK8{K:ag}{v:eU}(h:aK9 K (some v) b=true):bx5 K v (tbT b):=λx b' q=>by
 unfold tbT at q;cases e:x == "NoText" with
 | false=>rw[e]at q;cases q
 | true =>
  rw[e]at q;cases q;cases beq_iff_eq.mp e;unfold aK9 at h;split at h
  ·rename_i C v hC hv;cases hv;simp only[ah,beq_iff_eq]at h;exact⟨C,hC,h.1.1,h.1.2,h.2⟩
  ·cases h
def bE6(K:ag):Bool:=aK9 K ((clA K "NoName").map .ref) false&&aK9 K ((clA K "NoText").map .ref) true&&aK9 K (some (.type "ValueError")) true
def cr4(e n:Str)(l:List Stmt):Prop:=∃z1 z2 z3 z4 z5 z6 z7 z8 z9 z10 z11 z12 z13 z14 z15 z16 z17 z18 z19 z20 z21 z22 z23 z24 z25 z26 z27 z28 z29 z30 z31 z32 z33 z34 z35 z36 z37 z38 z39 z40 z41 z42 z43 z44,(z13.endLine==z16.line)=true/\(z36.endLine==z39.line)=true/\l=[.Assign [.Name n z1] (.List [.Call (.Name "isinstance" z2) [.Name e z3,.Name "NoName" z4] [] z5,.Call (.Name "isinstance" z6) [.Name e z7,.Name "NoText" z8] [] z9] z10) z11,.If (.BoolOp .Or [.Compare (.Call (.Attribute (.Name n z12) "count" z13) [.Constant (.bool true) z14 z15] [] z16) [.NotEq] [.Constant (.int 1) z17 z18] z19,.UnaryOp .Not (.Call (.Name "isinstance" z20) [.Name e z21,.Name "ValueError" z22] [] z23) z24] z33) [.Return (some (.Tuple [.Constant (.str "refused") z25 z26,.UnaryOp .USub (.Constant (.int 1) z27 z28) z29] z30 z31)) z32] [] z34,.Return (some (.Tuple [.Constant (.str "refused") z40 z41,.Call (.Attribute (.Name n z35) "index" z36) [.Constant (.bool true) z37 z38] [] z39] z42 z43)) z44]
theorem aJ0{P:dU}{w:World}{K:ag}{mg:Str->Option eU}{base:Heap}{cs:List (Str×D)}{bl:List Str}{k:Nat}{e n:Str}{f:eW}{fd:dX}(M:Md K mg cs bl)(d:Fd)(ok:d.okB=true)(Fn:Fun K d.x d.x d.st f fd)(hN:d.N=[e,n])(hp:d.ps.length=1)(hs:cr4 e n (C8 d.st))(hK:bE6 K=true)
  (hB:(S0 (A2 d.st) e&&S0 (A2 d.st) n&&an9 d.c n&&Q1 (A2 d.st) "isinstance" && Q1 (A2 d.st) "NoName" && Q1 (A2 d.st) "NoText" && Q1 (A2 d.st) "ValueError" && bl.contains "isinstance" && bl.contains "ValueError")=true):FnQ P w K mg base (k+1) f fd d.ps (spX K (bD7 ck3 d.N.length)):=by
 have Sc:=Fd.sc ok;refine bt7 (N:=d.N) Fn Sc hp λcdv A outer s H hr=>?_
 have F:Fit ⟨[],[],bl⟩ { d.c with up:=0 } { (cxQ P w K mg base d.N d.x (A2 d.st) f cdv A outer s H) with calm:=true }:=⟨rfl,rfl,Sc.nd,rfl,λ_=>PassesOwn.never,(λh=>nomatch h),by have:=hr.un;show(A.deeper _).units+64 < _;omega,λ_=>⟨λ_=>rfl,Sc.kind⟩,(λx F n h=>nomatch h),(λx d h=>nomatch h),M.bls⟩;simp only[ah]at hB;obtain⟨⟨⟨⟨⟨⟨⟨⟨q1,q2⟩,q3⟩,q4⟩,q5⟩,q6⟩,q7⟩,q8⟩,q9⟩:=hB;obtain⟨v1,v2,v3⟩:=F6 F q1;obtain⟨w1,w2,w3⟩:=F6 F q2;obtain⟨l1,l2⟩:=j7 F q3;obtain⟨g1,_⟩:=G2 F q4;obtain⟨g2,g2'⟩:=G2 F q5;obtain⟨g3,g3'⟩:=G2 F q6;obtain⟨g4,g4'⟩:=G2 F q7;unfold bE6 at hK;simp only[ah]at hK;obtain⟨⟨k1,k2⟩,k3⟩:=hK
 obtain⟨C1,hC1⟩:∃C,clA K "NoName" = some C:=by
  cases z:clA K "NoName" with
  | none=>rw[z]at k1;unfold aK9 at k1;split at k1<;>first|cases k1|(rename_i h;cases h)
  | some C=>exact⟨C,rfl⟩
 obtain⟨C2,hC2⟩:∃C,clA K "NoText" = some C:=by
  cases z:clA K "NoText" with
  | none=>rw[z]at k2;unfold aK9 at k2;rw[z]at k2;cases k2
  | some C=>exact⟨C,rfl⟩
 rw[hC1]at k1;rw[hC2]at k2;obtain⟨z1,z2,z3,z4,z5,z6,z7,z8,z9,z10,z11,z12,z13,z14,z15,z16,z17,z18,z19,z20,z21,z22,z23,z24,z25,z26,z27,z28,z29,z30,z31,z32,z33,z34,z35,z36,z37,z38,z39,z40,z41,z42,z43,z44,hl1,hl2,hs⟩:=hs;rw[hs];have e0:(cxQ P w K mg base d.N d.x (A2 d.st) f cdv A outer s H).N[0]? = some e:=by show d.N[0]? = _;rw[hN];rfl
 have e1:(cxQ P w K mg base d.N d.x (A2 d.st) f cdv A outer s H).N[1]? = some n:=by show d.N[1]? = _;rw[hN];rfl
 have b1:=M.bls _ q8;have b2:=M.bls _ q9;have i1:∀{p1 p2 p3 p4},JE (cxQ P w K mg base d.N d.x (A2 d.st) f cdv A outer s H) (.Call (.Name "isinstance" p1) [.Name e p2,.Name "NoName" p3] [] p4) (aF4 0 (tbT false)):=aK5 (v:=.ref C1) g1 b1 e0 v1 v2 v3 (aR5 g2 (ay4 M hC1) g2') rfl (λu r=>r) (aK8 k1);have i2:∀{p1 p2 p3 p4},JE (cxQ P w K mg base d.N d.x (A2 d.st) f cdv A outer s H) (.Call (.Name "isinstance" p1) [.Name e p2,.Name "NoText" p3] [] p4) (aF4 0 (tbT true)):=aK5 (v:=.ref C2) g1 b1 e0 v1 v2 v3 (aR5 g3 (ay4 M hC2) g3') rfl (λu r=>r) (aK8 k2);have i3:∀{p1 p2 p3 p4},JE (cxQ P w K mg base d.N d.x (A2 d.st) f cdv A outer s H) (.Call (.Name "isinstance" p1) [.Name e p2,.Name "ValueError" p3] [] p4) (aF4 0 (tbT true)):=aK5 (v:=.ty "ValueError") g1 b1 e0 v1 v2 v3 (au6 (v:=.ty "ValueError") g4 b2 (by decide +kernel) rfl (by decide) g4') rfl (λu r=>r) (aK8 k3);have vn:∀{p},JE (cxQ P w K mg base d.N d.x (A2 d.st) f cdv A outer s H) (.Name n p) (A1 1):=bq8 1 e1 w1 w2 w3;have hu:=F.units;have two:∀{a b:Expr},[a,b].length<=1000:=λ{a b}=>by show 2<=1000;decide
 refine al2 (aK3 1 Sc.nd (al4 (bp9 (U0 i1 (U0 i2 al5 rfl) rfl) two)) e1 l1 rfl l2) (al2 (bQ5 (aE1 (bQ4 (bp3 (bl7 hu) (br6 hu vn bs0 rfl rfl hl1 rfl) aK6) (bp0 (bp2 (bp1 i3))))) (u8 (aw4 (aK4 (U0 al3 (U0 (br2 aK6) al5 rfl) rfl) two))) aT0) (u8 (aw4 (aK4 (U0 al3 (U0 (aZ6 hu vn bs0 rfl rfl hl2 rfl) al5 rfl) rfl) two))))
end G
namespace G
open PySem PySem.Spec PyProof.Rows L2
def rz(b:Bool)(g:D):DS:=bif b then(λ_=>some (.rt g)) else D8
def uz(b:Bool)(g:D):UX:=bif b then(λ_ q=>some (.rt g q)) else uXo
def kz(b:Bool)(g:D)(i:Nat)(f:UD):UX:=bif b then aj1 g i f else S3 i f
section
variable {P:Program}{w:World}{K:PySem.W.Frag}{mg:Str->Option Value}{base:Heap}{cs:List (Str×D)}{bl:List Str}{C:CT}{tab:Tab}{O:Og5}
theorem ct8(M:Md K mg cs bl)(h:ab5 K "NoText" = true):NT K mg:=by
 unfold ab5 at h;cases e:clA K "NoText" with
 | none=>rw[e]at h;cases h
 | some C=>rw[e]at h;exact⟨C,e,h,ay4 M e⟩
theorem ZOk.addP(V:ZOk bz P w K mg base C k tab O)(M:Md K mg cs bl)(d:Fd)(h:KF K d.x d.st)(F:FnD)(e:rd tab cs bl d=F:=by kernel_rfl)(hu:d.up=(bif bz then 2 else 0):=by rfl)(nt:bz=true->NT K mg:=by intro h;cases h)(ok:d.okB=true:=by kernel_rfl)(bd:Bd d:=by repeat (first|exact rfl|intro _)):ZOk bz P w K mg base C (k+1) ((d.x,F,d.ps.length)::tab) O :=
 let U:=V.mono (ci k);⟨V.t.add M d h F e hu nt ok bd,U.m,U.i,U.d,U.f⟩
def L9(F:FnD):FnD:=G4 (ap5 (rB F) (λ_=>none) 1 (D9 (ay0 1 (bD7 ck3 2)))) 2
theorem ZOk.told{tab2:Tab}{rf gl y n e n2:Str}{N:List D->Option Fo}{F:FnD}(V:ZOk false P w K mg base C (k+1) tab O)(T:TOk true P w K mg base (k+1) tab2)(M:Md K mg cs bl)(hN:O.mf.lookup rf=some (N,1))(hF:tab2.lookup rf=some (F,1))(d dq:Fd)(h:KF K d.x d.st)(hq:KF K dq.x dq.st)(c2:ab5 K gl=true)(c3:bg1 K "NoText" gl=true)(c1:ab5 K "NoText" = true)(hK:bE6 K=true)
  (hs:bf6 rf gl dq.x y n (C8 d.st)) (hr:cr4 e n2 (C8 dq.st)) (h1:d.N=[y,n]) (h2:d.ps=[y]) (h3:dq.N=[e,n2]) (h4:dq.ps.length=1)
  (hB:(d.okB&&dq.okB&&d.up==0&&S0 (A2 d.st) y&&S0 (A2 d.st) n&&(A2 d.st).names.lookup n==some .local&&Q1 (A2 d.st) rf&&Q1 (A2 d.st) gl&&Q1 (A2 d.st) dq.x)=true)
  (hQ:(S0 (A2 dq.st) e&&S0 (A2 dq.st) n2&&an9 dq.c n2&&Q1 (A2 dq.st) "isinstance" && Q1 (A2 dq.st) "NoName" && Q1 (A2 dq.st) "NoText" && Q1 (A2 dq.st) "ValueError" && bl.contains "isinstance" && bl.contains "ValueError")=true)
  (bd:Bd d:=by repeat (first|exact rfl|intro _)) (bq:Bd dq:=by repeat (first|exact rfl|intro _)):ZOk false P w K mg base C (k+2) ((d.x,L9 F,1)::tab) { O with mf:=(d.x,N,1)::O.mf }:=by
 simp only[ah,beq_iff_eq]at hB;obtain⟨⟨⟨⟨⟨⟨⟨⟨o1,o2⟩,o3⟩,o4⟩,o5⟩,o6⟩,o7⟩,o8⟩,o9⟩:=hB;obtain⟨f,kV,dc,pm,an,cd,ct,Fn,hm⟩:=n4 h M;obtain⟨fq,kV',dc',pm',an',cd',ct',Fq,hmq⟩:=n4 hq M;obtain⟨fa,fad,fps,R,r1,r2,r3⟩:=V.f rf N 1 hN;have U:=V.mono (ci (k+1));have Q:FnQ P w K mg base (k+1) fq _ dq.ps (spX K (bD7 ck3 dq.N.length)):=aJ0 M dq o2 Fq h3 h4 hr hK hQ;rw[h3]at Q;have hl1:d.ps.length=1:=by rw[h2];rfl
 have B1:E8 K _ d.ps []:=.all (ua (bd kV dc pm an cd ct));refine⟨U.t.cons ?_,U.m,U.i,U.d,λx F' n e=>?_⟩
 ·rcases T rf F 1 hF with⟨f2,fd2,ps2,R2,s1,s2,s3⟩|⟨z,_⟩
  ·have q:=bC1 M d o1 o3 Fn h1 hs o4 o5 o6 o7 o8 o9 R2 s1 s2 s3 Q hmq Fq.kp (.all (ua (bq kV' dc' pm' an' cd' ct'))) c1 c2 c3;rw[hl1,h1]at q;exact⟨f,_,d.ps,q,hm,Fn.kp,B1⟩
  ·rw[r1]at z;cases z
 ·exact av8 (p:=λx (t:(List D->Option Fo)×Nat)=>∃f fd ps,FnOk P w K mg base (CXb K P w false) (k+2) f fd ps (bh0 K C t.2 t.1)/\mg x=some (.ref f)/\aD K (.ref f)=true/\E8 K fd ps []) ⟨f,_,d.ps,bW8 M d o1 o3 Fn h1 h2 hs o4 o7 R r1 r2 r3 (λvs H Q E z=>z.1) (λvs H Q E z=>z),hm,Fn.kp,B1⟩ (λy t e=>U.f y t.1 t.2 e) x (F',n) e
end
end G
namespace Lk92
open PySem PySem.Spec PyProof.Rows L2 G Sh
def top(i:Nat):Stmt:=PySem.Challenge.pw_glazework_k92_folio_texts.main.body.getD i (.Pass ⟨0,0,0,0⟩)
def cm3:DS:=(S5 (S4 (dC (.bool true))) Z2)
def cm4:List D->Option D:=G4 cm3 1
def V8:DS:=(E9 (J8 1 (A3 bi7 ⇑10 ⇑60)) (E9 (aX5 2 A4) (E9 (S5 (tB2 geI (A1 0) (A1 1)) (E9 (at7 2 (dZf (M7 (A3 O2 (A1 0) (A1 1))) ⇑60)) (J8 0 (A3 Z3 (A1 0) (A1 1))))) (E9 (at7 2 (M7 (A1 0))) (D9 (ax7 (dC (.str "")) (B2 2)))))))
def E3:List D->Option D:=G4 V8 3
def Q2:DS:=(E9 (sIf (tB2 eqD (dIx (B2 0) ⇑1) ⇑1) (D9 (A6 E3 (A0 (dIx (B2 0) ⇑0) A4))) Z2) (D9 (A3 B8 (A3 B8 (A6 E3 (A0 (dIx (B2 0) ⇑0) A4)) (dC (.str "/"))) (A6 E3 (A0 (dIx (B2 0) ⇑1) A4)))))
def J4:List D->Option D:=G4 Q2 1
def e8:DS:=(D9 (d6 (dC (.str ":")) (qN (E4 1 [] (L3 (A1 0)) (F4 0) G7 (A6 J4 (A0 (A1 0) A4))))))
def N4:List D->Option D:=G4 e8 1
def e9:DS:=(D9 (A3 B8 (A3 B8 (A6 E3 (A0 (dIx (B2 0) ⇑0) A4)) (dC (.str "x"))) (A6 E3 (A0 (dIx (B2 0) ⇑1) A4))))
def N5:List D->Option D:=G4 e9 1
def V9:DS:=(D9 (A3 B8 (N7 (A0 (A6 N5 (A0 (A1 0) A4)) A4)) (N7 (E4 1 [] (L3 (dIx (B2 0) ⇑2)) (F4 0) G7 (A6 N4 (A0 (A1 0) A4))))))
def F3:List D->Option D:=G4 V9 1
def as1:DS:=(D9 (A3 B8 (d6 (dC (.str " ")) (qE (A3 B8 (N7 (A0 (A1 0) A4)) (A6 F3 (A0 (A1 1) A4))))) (dC (.str "\n"))))
def W1:List D->Option D:=G4 as1 2
def aW4:DS:=(D9 (A6 W2 (A0 (A1 0) (A0 (A3 B8 (A1 1) ⇑2) (A0 (A3 B8 ⇑1 (A6 B4 (A0 (A1 0) (A0 (A1 1) (A0 ⇑3 A4))))) (A0 (A3 B8 ⇑1 (A6 B4 (A0 (A1 0) (A0 (A3 B8 (A1 1) ⇑1) (A0 ⇑3 A4))))) A4))))))
def ab4:List D->Option D:=G4 aW4 2
def h9:DS:=(D9 (dIx (qN (A0 (A3 B8 (A3 B8 (M7 (dIx (B2 0) ⇑0)) (dC (.str "/"))) (M7 (dIx (B2 0) ⇑1))) (A0 (M7 (dIx (B2 0) ⇑0)) A4))) (bb6 (A3 eqD (dIx (B2 0) ⇑1) ⇑1))))
def G5:List D->Option D:=G4 h9 1
def aG5:DS:=(E9 (ae2 2 (E4 1 [] (L3 (dIx (B2 1) ⇑2)) (F4 0) G7 (d6 (dC (.str ":")) (qN (E4 1 [] (L3 (A1 0)) (F4 0) G7 (A6 G5 (A0 (A1 0) A4))))))) (D9 (A3 B8 (d6 (dC (.str " ")) (qE (A3 B8 (N7 (A0 (A1 0) (A0 (A3 B8 (A3 B8 (M7 (dIx (B2 1) ⇑0)) (dC (.str "x"))) (M7 (dIx (B2 1) ⇑1))) A4))) (A1 2)))) (dC (.str "\n")))))
def i4:List D->Option D:=G4 aG5 3
def L5(b:Bool):DS:=(E9 (sIf (Z8 (K5 (aH9 (U6 leI leI ⇑1 (V3 (A1 0)) ⇑400))) (K5 (S4 (aF5 (qN (E4 1 [] (bs7 (A1 0)) (F4 0) G7 (A3 (inS false) (A1 0) (dC (.str "0123456789"))))))))) (rz b (.int 0)) Z2) (D9 (aV2 (A1 0))))
def G1(b:Bool):List D->Option D:=G4 (L5 b) 1
def Y5(b:Bool):DS:=(E9 (J8 1 (dTx txP (A1 0) (dC (.str "/")))) (E9 (J8 2 (ax8 (tB2 eqD (dIx (B2 1) ⇑1) (dC (.str "/"))) (A6 (G1 b) (A0 (dIx (B2 1) ⇑2) A4)) ⇑1)) (D9 (M6 (A0 (A6 (G1 b) (A0 (dIx (B2 1) ⇑0) A4)) (A0 (A1 2) A4))))))
def N6(b:Bool):List D->Option D:=G4 (Y5 b) 3
def af9(b:Bool):DS:=(D9 (aa2 (qN (E4 1 [] (L3 (dTx txS (A1 0) (dC (.str ":")))) (F4 0) G7 (A6 (N6 b) (A0 (A1 0) A4))))))
def P6(b:Bool):List D->Option D:=G4 (af9 b) 1
def ag0(b:Bool):DS:=(E9 (J8 1 (dTx txP (A1 0) (dC (.str "x")))) (D9 (M6 (A0 (A6 (G1 b) (A0 (dIx (B2 1) ⇑0) A4)) (A0 (A6 (G1 b) (A0 (dIx (B2 1) ⇑2) A4)) A4)))))
def U3(b:Bool):List D->Option D:=G4 (ag0 b) 2
def ao6:UX:=(uIf (uTP (tB2 isB (A1 2) (dC .none))) (bS4 0 true "sheets" (vP (A1 1))) (by2 0 true "sheets" (vP (A1 1)) (vP (A1 2))))
def U2:DF:=K9 ao6 3
def m4:UX:=(E1 (bz0 0 true "steps_back" (bd6 (vlC (vP (A1 1)) (vlC (vP (A1 2)) (vlC (aW8 0 true "sheets" (vP (A1 2))) (vlC (vP (A1 3)) vlN)))))) (E1 (aG7 0 true "steps_forth" bd2) (uEx (uM 0 true "set_sheet" U2 (A0 (A1 2) (A0 (A1 3) A4))))))
def d8:DF:=K9 m4 4
def aW3:UX:=(E1 (S3 3 (uL (vIn false 0 true "sheets" (vP (A1 1))))) (E1 (uEx (uM 0 true "take_step" d8 (A0 (dC (.str "lay")) (A0 (A1 1) (A0 (A1 2) A4))))) (T5 (uP (A1 3)))))
def aW2:DF:=K9 aW3 4
def as0:UX:=(E1 (uIf (uTB (uL (vIn true 0 true "sheets" (vP (A1 1))))) uXo m5) (T5 (uL (aO0 0 true "sheets" (vP (A1 1))))))
def R3:DF:=K9 as0 2
def bc3:UX:=(T5 (uL (bz2 0 true "sheets")))
def N1:DF:=K9 bc3 1
def aN4:UX:=(T5 (bB5 (ulC (uL (aA1 0 true "steps_back")) (ulC (uL (aA1 0 true "steps_forth")) ulN))))
def an0:DF:=K9 aN4 1
def an1:UX:=(E1 (aG7 0 true "sheets" bd3) (E1 (aG7 0 true "steps_back" bd2) (aG7 0 true "steps_forth" bd2)))
def ai3:DF:=K9 an1 1
def ao7:UX:=(T5 (uB2 eqD (aj2 0 false "words_taken") (aA6 (aj2 0 false "words"))))
def d9:DF:=K9 ao7 1
def g7:UX:=(E1 (ae0 0 false "words" (uP (dTx txS (A1 1) (dC (.str " "))))) (ae0 0 false "words_taken" (uP ⇑0)))
def Y3:DF:=K9 g7 2
def T0(b:Bool):UX:=(E1 (uIf (uTB (uM0 0 false "is_at_end" d9)) (uz b bad) m5) (T5 (be9 (aj2 0 false "words") (aj2 0 false "words_taken"))))
def N0(b:Bool):DF:=K9 (T0 b) 1
def U9(b:Bool):UX:=(E1 (kz b bad 1 (uM0 0 false "word_ahead" (N0 b))) (E1 (ae0 0 false "words_taken" (uB2 B8 (aj2 0 false "words_taken") (uP ⇑1))) (T5 (uP (A1 1)))))
def E6(b:Bool):DF:=K9 (U9 b) 2
def az7:UX:=(T5 (uJn (dC (.str "")) (uCp 0 (uM0 0 true "names" N1) (P8 W1 (ulC (uP (A1 0)) (ulC (uM 1 true "fetch" R3 (A0 (A1 0) A4)) ulN))))))
def K3:DF:=K9 az7 1
def Y4(b:Bool):UX:=(E1 (kz b bad 1 (P8 (U3 b) (ulC (uM0 0 false "take_word" (E6 b)) ulN))) (E1 (bf0 bad 2 0 (P4 (A3 J3 (dIx (B2 1) ⇑0) (dIx (B2 1) ⇑1))) (P8 (P6 b) (ulC (uM0 1 false "take_word" (E6 b)) ulN))) (T5 (uP (A3 B8 (A1 1) (M6 (A0 (aa2 (B2 2)) A4)))))))
def M9(b:Bool):DF:=K9 (Y4 b) 3
def ag1(b:Bool):UX:=(E1 (as7 2 (ag2 false Y3 (A0 (A1 1) A4))) (E1 (kz b .none 3 (uM0 2 false "take_word" (E6 b))) (E1 (kz b .none 4 (uD 2 (M9 b) (mO mN))) (E1 (uIf (uTP (Z8 (K5 (S4 (A6 W5 (A0 (A1 3) A4)))) (K5 (S4 (A6 O5 (A0 (A1 4) A4)))))) (uz b .none) m5) (uEx (uM 0 true "set_sheet" U2 (A0 (A1 3) (A0 (A1 4) A4))))))))
def G8(b:Bool):DF:=K9 (ag1 b) 5
def R4(b:Bool):UX:=(E1 (as7 1 (ag2 true ai3 A4)) (E1 (aH2 (iP (L3 (aF3 (dTx txS (A1 0) (dC (.str "\n"))) L0 (K6 (aM3 ⇑1))))) (F4 2) (uEx (uD 1 (G8 b) (mO (mC (A1 2) mN))))) (E1 (uIf (uTB (uB2 neD (uD 1 K3 (mO mN)) (uP (A1 0)))) (uz b bad) m5) (uRo 1))))
def B7(b:Bool):List D->Option Fo:=bD8 (R4 b) 3
def A8(b:Bool):FnD:=aI7 (R4 b) 3
def bg5:UX:=(as7 1 (ag2 true ai3 A4))
def bY1:UX:=(S3 2 (uP (dC (.str ""))))
def bY0:UX:=(aH2 (iP (bs8 (qE (N7 (A0 (dC (.str "a")) (A0 (dC (.str "bo")) (A0 (dC (.str "zzzzzz")) A4))))))) (af0 2 (d5 (F4 3) (d5 (F4 4) aq8))) (uIf (uTP (tB2 gtI (A6 B4 (A0 (A1 0) (A0 (A1 3) (A0 ⇑3 A4)))) ⇑0)) (E1 (S3 5 (uP (A6 ab4 (A0 (A1 0) (A0 (A3 B8 ⇑10 (A3 J3 ⇑150 (A1 3))) A4))))) (E1 (uEx (uM 1 true "lay" aW2 (A0 (A1 4) (A0 (A1 5) A4)))) (S3 2 (uP (A3 B8 (A1 2) (A6 i4 (A0 (A1 4) (A0 (A1 5) A4)))))))) m5))
def bX9:UX:=(uIf (uTB (uB2 neD (uD 1 K3 (mO mN)) (uP (A1 2)))) (T5 (uP (dC (.bool false)))) m5)
def bX8:UX:=(xOr (S3 6 (uP (A6 (L9 (A8 true)) (A0 (A1 2) A4)))) (xNw 6 (U4 (B7 false) (ulC (uP (A1 2)) ulN))))
def bg4:UX:=(uIf (uOr (uTB (uB2 neD (uM0 6 true "names" N1) (uM0 1 true "names" N1))) (uTB (uB2 neD (uM0 6 true "counts" an0) (uP (M6 (A0 ⇑0 (A0 ⇑0 A4))))))) (T5 (uP (dC (.bool false)))) m5)
def bX7:UX:=(uIf (uTB (uB2 neD (uCp 6 (uM0 6 true "names" N1) (uM 1 true "fetch" R3 (A0 (A1 0) A4))) (uCp 1 (uM0 1 true "names" N1) (uM 1 true "fetch" R3 (A0 (A1 0) A4))))) (T5 (uP (dC (.bool false)))) m5)
def aI2:UX:=(aH2 (iP (P4 ⇑6)) (F4 3) (E1 (S3 7 (uP (A6 B4 (A0 (A1 0) (A0 (A3 B8 ⇑500 (A3 J3 ⇑4 (A1 3))) (A0 (A3 B8 (V3 (A1 2)) ⇑1) A4)))))) (E1 (S3 8 (uP (dIx (qN (A0 (dC (.str "0")) (A0 (dC (.str "1")) (A0 (dC (.str "/")) (A0 (dC (.str ":")) (A0 (dC (.str " ")) (A0 (dC (.str "\n")) (A0 (dC (.str "x")) (A0 (dC (.str "")) (A0 (dC (.str "a")) (A0 (dC (.str "Z")) A4))))))))))) (A6 B4 (A0 (A1 0) (A0 (A3 B8 ⇑501 (A3 J3 ⇑4 (A1 3))) (A0 ⇑10 A4))))))) (E1 (S3 9 (uP (A3 B8 (A3 B8 (ac9 (A1 2) L0 (K6 (A1 7))) (A1 8)) (ac9 (A1 2) (K6 (A3 B8 (A1 7) (A6 B4 (A0 (A1 0) (A0 (A3 B8 ⇑502 (A3 J3 ⇑4 (A1 3))) (A0 ⇑2 A4)))))) L0)))) (E1 (xOr (S3 10 (uP (A6 (L9 (A8 true)) (A0 (A1 9) A4)))) (xNw 10 (U4 (B7 false) (ulC (uP (A1 9)) ulN)))) (uIf (uTB (bc8 (bB6 10) (uP (aa3 "tuple" (A1 10))))) (uIf (uTP (Z8 (tB2 neD (A1 10) (M6 (A0 (dC (.str "refused")) (A0 ⇑1 A4)))) (tB2 eqD (A1 9) (A1 2)))) (T5 (uP (dC (.bool false)))) m5) (uIf (uTB (uB2 neD (uD 10 K3 (mO mN)) (uP (A1 9)))) (T5 (uP (dC (.bool false)))) m5)))))))
def bg3:UX:=(S3 11 (uP (dC (.str "1:0:1/2:0"))))
def bg2:UX:=(S3 12 (uP (A3 B8 (A3 B8 (dC (.str "a 1x1 ")) (A1 11)) (dC (.str "\n")))))
def aP9:UX:=(aA5 13 (A0 (ac9 (A1 12) L0 (K6 (aM3 ⇑1))) (A0 (dC (.str "a 1x1\n")) (A0 (A3 B8 (A3 B8 (A3 B8 (ac9 (A1 12) L0 (K6 (aM3 ⇑1))) (dC (.str " "))) (A1 11)) (dC (.str "\n"))) (A0 (A3 B8 (A3 B8 (dC (.str "a 1x2 ")) (A1 11)) (dC (.str "\n"))) (A0 (dC (.str "a 0x1\n")) A4))))))
def aP8:UX:=(aA5 13 (bI2 (B2 13) (qN (A0 (A3 B8 (dC (.str "A")) (ac9 (A1 12) (K6 ⇑1) L0)) (A0 (A3 B8 (dC (.str "abcdefg")) (ac9 (A1 12) (K6 ⇑1) L0)) (A0 (A3 B8 (A3 B8 (dC (.str "b")) (ac9 (A1 12) (K6 ⇑1) L0)) (A1 12)) (A0 (A3 B8 (A1 12) (A1 12)) (A0 (dC (.str "\n")) A4))))))))
def aP7:UX:=(aA5 13 (bI2 (B2 13) (qN (A0 (dC (.str "a 1x1 1/2:0:1:0\n")) (A0 (dC (.str "a 1x1 2/2:0:0:0\n")) (A0 (dC (.str "a 1x1 1:0:0\n")) (A0 (A3 B8 (A3 B8 (dC (.str "a 01x1 ")) (A1 11)) (dC (.str "\n"))) A4)))))))
def aP6:UX:=(bB7 13 (uP (A3 B8 (A3 B8 (dC (.str "a 9x1")) (A3 J3 (A3 B8 (dC (.str " ")) (A1 11)) ⇑9)) (dC (.str "\n")))))
def aP5:UX:=(bW1 13 (uIf (uTP (tB2 neD (N7 (E4 1 [] (L3 (A1 13)) (F4 0) (tB2 neD (A6 (L9 (A8 true)) (A0 (A1 0) A4)) (M6 (A0 (dC (.str "refused")) (A0 ⇑1 A4)))) (A1 0))) (N7 A4))) (T5 (uP (dC (.bool false)))) m5))
def aP4:UX:=(uIf (uTB (uB2 neD (aH1 (U4 (B7 false) (ulC (uP (A1 12)) ulN)) true "fetch" R3 (A0 (dC (.str "a")) A4)) (uP (M6 (A0 ⇑1 (A0 ⇑1 (A0 (M6 (A0 (M6 (A0 (M6 (A0 ⇑1 (A0 ⇑1 A4))) (A0 (M6 (A0 ⇑0 (A0 ⇑1 A4))) (A0 (M6 (A0 ⇑1 (A0 ⇑2 A4))) (A0 (M6 (A0 ⇑0 (A0 ⇑1 A4))) A4))))) A4)) A4))))))) (T5 (uP (dC (.bool false)))) m5)
def aP3:UX:=(T5 (uB2 eqD (aH1 (U4 (B7 false) (ulC (uP (dC (.str ""))) ulN)) true "names" N1 A4) (uP (N7 A4))))
def bx6:UX:=(E1 bg5 (E1 bY1 (E1 bY0 (E1 bX9 (E1 bX8 (E1 bg4 (E1 bX7 (E1 aI2 (E1 bg3 (E1 bg2 (E1 aP9 (E1 aP8 (E1 aP7 (E1 aP6 (E1 aP5 (E1 aP4 aP3))))))))))))))))
def aG6:List D->Option D:=aI7 bx6 14
end Lk92
namespace Lk92
open PySem G L2 Sh
abbrev cl(s:Str):List Nat:=s.cps.toList
theorem p8{a b:Str}(h:cl a=cl b):a=b:=by
 obtain⟨a⟩:=a;obtain⟨b⟩:=b;exact congrArg Str.mk (Array.toList_inj.mp h)
theorem J6(a b:Str):cl (a++b)=cl a++cl b:=by show(a.cps++b.cps).toList=_;rw[Array.toList_append]
theorem C4(a:Str):(cl a).length=a.length:=by simp[cl,Str.length]
abbrev sg(c:Nat):Str:=⟨#[c]⟩
def jl(c:Nat):List (List Nat)->List Nat
 | []=>[]
 | [x]=>x
 | x::y::r=>x++c::jl c (y::r)
theorem aa6(c:Nat):∀ps:List Str,cl (Str.join (sg c) ps)=jl c (ps.map cl)
 | []=>rfl
 | [x]=>rfl
 | x::y::r=>by
  show cl (x++sg c++Str.join (sg c) (y::r))=_;rw[J6,J6,aa6 c (y::r)];show(cl x++[c])++_=cl x++c::_;rw[aH];rfl
theorem aV4{c:Nat}:∀{p w A B:List Nat},c∉p->c∉w->p++c::A=w++c::B->p=w/\A=B
 | [],[],A,B,_,_,h=>⟨rfl,by simpa using h⟩
 | [],y::w,A,B,_,h2,h=>by simp at h h2;exact(h2.1 h.1).elim
 | x::p,[],A,B,h1,_,h=>by simp at h h1;exact(h1.1 h.1.symm).elim
 | x::p,y::w,A,B,h1,h2,h=>by
  simp only[xca,List.cons.injEq,ax,not_or]at h h1 h2;obtain⟨e1,e2⟩:=aV4 h1.2 h2.2 h.2;exact⟨by rw[h.1,e1],e2⟩
theorem bq2{c:Nat}:∀{ps ws:List (List Nat)},ps≠[]->ws≠[]->(∀p∈ps,c∉p)->(∀p∈ws,c∉p)->jl c ps=jl c ws->ps=ws
 | [],_,h,_,_,_,_=>(h rfl).elim
 | _,[],_,h,_,_,_=>(h rfl).elim
 | [p],[w],_,_,_,_,e=>by rw[show p=w from e]
 | [p],w::v::r,_,_,h,_,e=>by
  have:c∈p:=by rw[show p=w++c::jl c (v::r) from e];simp
  exact(h p (by simp) this).elim
 | p::q::r,[w],_,_,_,h,e=>by
  have:c∈w:=by rw[show w=p++c::jl c (q::r) from e.symm];simp
  exact(h w (by simp) this).elim
 | p::q::r,w::v::s,_,_,h1,h2,e=>by
  obtain⟨e1,e2⟩:=aV4 (h1 p (by simp)) (h2 w (by simp)) (show p++c::jl c (q::r)=w++c::jl c (v::s) from e);rw[e1,bq2 (by simp) (by simp) (λx hx=>h1 x (ai _ hx)) (λx hx=>h2 x (ai _ hx)) e2]
theorem aB0(x y:Str):Txt.split x y≠[]:=by
 unfold Txt.split;split
 ·simp
 ·split
  ·simp
  ·intro h;have:=congrArg cZ h;rw[length_partsBetween]at this;simp at this
theorem O9(c:Nat){ws:List Str}(hn:ws≠[])(hf:∀w∈ws,c∉cl w):Txt.split (Builtin.Str.glued (sg c) ws) (sg c)=ws:=by
 have e:=StrLaws.join_split (Builtin.Str.glued (sg c) ws) (sg c);have f:=StrLaws.split_free (Builtin.Str.glued (sg c) ws) c;have n:=aB0 (Builtin.Str.glued (sg c) ws) (sg c);generalize Txt.split (Builtin.Str.glued (sg c) ws) (sg c)=ps at e f n;rw[StrLaws.glued_eq_join]at e;have e:=congrArg cl e;rw[aa6,aa6]at e;have key:=bq2 (c:=c) (ps:=ps.map cl) (ws:=ws.map cl) (by simpa using n) (by simpa using hn) (by simpa using f) (by simpa using hf) e
 have inj:∀{a b:List Str},a.map cl=b.map cl->a=b:=by
  intro a
  induction a with
  | nil=>intro b h;cases b with|nil=>rfl|cons=>simp at h
  | cons x a ih =>
   intro b h;cases b with
   | nil=>simp at h
   | cons y b =>
    simp only[xmc,List.cons.injEq]at h;rw[p8 h.1,ih h.2]
 exact inj key
theorem az2(x:Str)(c i:Nat):StrLaws.At x (sg c) x.length i↔(cl x)[i]? = some c:=StrLaws.subAt_one x c i
theorem au7(a b:Str)(c:Nat)(ha:c∉cl a):Txt.partition (a++sg c++b) (sg c)=(a,sg c,b):=by
 have hx:cl (a++sg c++b)=cl a++c::cl b:=by rw[J6,J6,show cl (sg c)=[c] from rfl,aH];rfl
 have h0:(cl (a++sg c++b))[(cl a).length]? = some c:=by rw[hx,aq (aj _),aW];rfl
 rcases StrLaws.occ_head (a++sg c++b) (sg c) 1 (aj _) with⟨_,h⟩|⟨i,r,e,h1,h2⟩
 ·exact(h _ ((az2 _ _ _).mpr h0)).elim
 ·have hi:i=(cl a).length:=by
   rcases Nat.lt_trichotomy i (cl a).length with q|q|q
   ·have:=(az2 _ _ _).mp h1;rw[hx,az q]at this;exact(ha (bM this)).elim
   ·exact q
   ·exact(h2 _ q ((az2 _ _ _).mpr h0)).elim
  subst hi;have len:(a++sg c++b).length=(cl a).length+1+(cl b).length:=by rw[← C4,hx];simp;omega
  have s1:Builtin.Str.strSub (a++sg c++b) 0 (cl a).length=a:=p8 (by rw[cl,StrLaws.strSub_toList,show(a++sg c++b).cps.toList=cl a++c::cl b from hx];simp)
  have s2:Builtin.Str.strSub (a++sg c++b) ((cl a).length+(sg c).length) (a++sg c++b).length=b:=p8 (by
   rw[cl,StrLaws.strSub_toList,show(a++sg c++b).cps.toList=cl a++c::cl b from hx,len,show(sg c).length=1 from rfl];have:(cl a++c::cl b).drop ((cl a).length+1)=cl b:=by rw[show cl a++c::cl b=(cl a++[c])++cl b by simp,List.drop_left' (by simp)]
   rw[this]
   exact bQ (by omega))
  unfold Txt.partition;rw[e];show(Builtin.Str.strSub _ 0 (cl a).length,sg c,Builtin.Str.strSub _ _ _)=_;rw[s1,s2]
theorem aR8(a:Str)(c:Nat)(ha:c∉cl a):Txt.partition a (sg c)=(a,eT,eT):=by
 rcases StrLaws.occ_head a (sg c) 1 (aj _) with⟨e,_⟩|⟨i,r,e,h1,h2⟩
 ·unfold Txt.partition;rw[e]
 ·exact(ha (bM ((az2 _ _ _).mp h1))).elim
def it(i:Int):Str:=Str.ofString (toString i)
def nt(n:Nat):Str:=it n
theorem ar4(n:Nat):cl (nt n)=(du 10 n).map Char.toNat:=PySem.W.KIN.signs_num n
theorem dch:∀d:Nat,d < 10->(Nat.digitChar d).toNat=48+d:=by decide
theorem bl9{n:Nat}(h:n < 10):cl (nt n)=[48+n]:=by rw[ar4,dv h,xmc,xmn,dch n h]
theorem bP8{n:Nat}(h:10<=n):cl (nt n)=cl (nt (n / 10))++[48+n % 10]:=by
 have hm:n % 10 < 10:=cV n (by decide);have t:du 10 (n / 10)++du 10 (n % 10)=du 10 (10*(n / 10)+n % 10):=Nat.toDigits_append_toDigits (by decide) (by omega) hm;rw[Nat.div_add_mod]at t;rw[ar4,ar4,← t,bN,dv hm,xmc,xmn,dch _ hm]
def pd:Nat->Nat->List Nat
 | 0,_=>[]
 | k+1,m=>pd k (m / 10)++[48+m % 10]
theorem bP6(a:Nat)(ha:0 < a):∀(k m:Nat),m < 10 ^ k->cl (nt (a*10 ^ k+m))=cl (nt a)++pd k m
 | 0,m,h=>by
  have:m=0:=by simpa using h
  subst this;simp[pd]
 | k+1,m,h=>by
  have p:0 < 10 ^ k:=Nat.pow_pos (by decide);have e1:a*10 ^ (k+1)=10*(a*10 ^ k):=by rw[cS];rw[dt (10 ^ k) 10,Nat.mul_left_comm]
  have g:10<=a*10 ^ (k+1)+m:=by rw[e1];have:=bL ha p;omega
  have h':m / 10 < 10 ^ k:=by rw[cS]at h;omega
  have i:=bP6 a ha k (m / 10) h';rw[bP8 g,show(a*10 ^ (k+1)+m) / 10=a*10 ^ k+m / 10 by rw[e1];omega,show(a*10 ^ (k+1)+m) % 10=m % 10 by rw[e1];omega,i,pd,aH]
theorem aR6:∀k,pd k 0=au k 48
 | 0=>rfl
 | k+1=>by
  show pd k 0++[48]=_;rw[aR6 k,List.replicate_succ']
theorem aC3:∀(k m:Nat),m < 10 ^ (k+1)->(cl (nt m)).length<=k+1/\pd (k+1) m=au (k+1 - (cl (nt m)).length) 48++cl (nt m)
 | 0,m,h=>by
  have h:m < 10:=by simpa using h
  rw[bl9 h];exact⟨aj _,by show []++[48+m % 10]=_;rw[Nat.mod_eq_of_lt h];rfl⟩
 | k+1,m,h=>by
  by_cases q:m < 10
  ·rw[bl9 q];refine⟨by show 1<=k+1+1;omega,?_⟩;show pd (k+1) (m / 10)++[48+m % 10]=_;rw[Nat.div_eq_of_lt q,Nat.mod_eq_of_lt q,aR6];rfl
  ·have h':m / 10 < 10 ^ (k+1):=by rw[cS]at h;omega
   obtain⟨l,e⟩:=aC3 k (m / 10) h';rw[bP8 (by omega)];refine⟨by rw[aG];show _+1<=_;omega,?_⟩;show pd (k+1) (m / 10)++[48+m % 10]=_;rw[e,aH,aG]
   congr 2
   show _=k+1+1 - (_+1);omega
structure Dg (s:Str):Prop where
 d:∀c∈cl s,48<=c/\c<=57
 l1:1<=s.length
 l2:s.length<=309
abbrev big:Nat:=2 ^ 1024
theorem cl5:big < 10 ^ 309:=by decide +kernel
theorem bm1(n:Nat):(∀c∈cl (nt n),48<=c/\c<=57)/\1<=(nt n).length:=by
 refine⟨λc hc=>?_,?_⟩
 ·rw[ar4]at hc;obtain⟨ch,hch,rfl⟩:=aE.mp hc;exact PyProof.Rows.digit_range (Nat.isDigit_of_mem_toDigits (by decide) (by decide) hch)
 ·rw[← C4,ar4,ak];exact List.length_pos_iff.mpr Nat.toDigits_ne_nil
theorem bm0{n:Nat}(h:n < big):Dg (nt n):=by
 obtain⟨h1,h2⟩:=bm1 n;have h3:=(aC3 308 n (cn h cl5)).1;rw[C4]at h3;exact⟨h1,h2,h3⟩
@[irreducible] def tp:Nat:=10 ^ 60
theorem Z6:tp=10 ^ 60:=by unfold tp;rfl
theorem ab6:0 < tp:=by rw[Z6];decide +kernel
theorem cp7:D6 (tp:Int):=by rw[Z6];decide +kernel
theorem ap3{n:Nat}(h:n < tp){f:DE}{ρ:Rho}(hf:f ρ=some (.int n)):M7 f ρ=some (.str (nt n)):=by
 have lg:(n:Int).natAbs.log2 < 1920:=by
  rw[bS];rcases Nat.eq_zero_or_pos n with q|q
  ·rw[q];decide
  ·exact(Nat.log2_lt (by omega)).mpr (aB h (aM (by rw[Z6];decide +kernel:tp<=2 ^ 200) (bY (by decide) (by decide))))
 unfold M7;rw[hf];show(if(n:Int).natAbs.log2 < 1920 then some (eN (it n)) else none)=_;rw[if_pos lg];rfl
def zf(m:Nat):Str:=Txt.zfill (nt m) 60
theorem cn2{m:Nat}(h:m < tp):cl (zf m)=pd 60 m:=by
 obtain⟨l,e⟩:=aC3 59 m (by rw[Z6]at h;exact h);obtain⟨d,l1⟩:=bm1 m;rw[e];rw[C4]at l ⊢;unfold zf Txt.zfill;split
 ·rename_i q;have q:(60:Int)<=((nt m).length:Int):=q;rw[show 59+1 - (nt m).length=0 by omega];rfl
 ·have h0:(nt m).cps[0]?≠some 43/\(nt m).cps[0]?≠some 45:=by
   refine⟨λz=>?_,λz=>?_⟩
   ·rw[← bK]at z;have:=d _ (bM z);omega
   ·rw[← bK]at z;have:=d _ (bM z);omega
  unfold zfilled;split
  ·rename_i z;exact(h0.1 z).elim
  ·rename_i z;exact(h0.2 z).elim
  ·show(Array.replicate _ 48++(nt m).cps++Array.replicate 0 48).toList=_;simp[cl]
def cat(l:List Str):List Nat:=l.flatMap cl
theorem aE2:∀l:List Str,cl (Str.join eT l)=cat l
 | []=>rfl
 | [x]=>by simp[cat,Str.join]
 | x::y::r=>by
  show cl (x++eT++Str.join eT (y::r))=_;rw[J6,J6,aE2 (y::r),show cl eT=[] from rfl,aw];rfl
theorem aq9(l:List Str):cl (Builtin.Str.glued "" l)=cat l:=by rw[StrLaws.glued_eq_join];exact aE2 l
theorem aE3:∀l:List Str,J7 "" l=(cat l).length:=λl=>by
 have key:∀(l:List Str) (n:Nat),l.foldl (λn y=>n+y.length+("" : Str).length) n=n+(cat l).length:=by
  intro l
  induction l with
  | nil=>intro n;rfl
  | cons x l ih =>
   intro n;rw[cQ,ih,show cat (x::l)=cl x++cat l from rfl,aG,C4,show("" : Str).length=0 from rfl];omega
 unfold J7;rw[List.foldl_toArray,key,Nat.zero_add]
noncomputable abbrev wB:DS:=E9 (at7 2 (dZf (M7 (A3 O2 (A1 0) (A1 1))) ⇑60)) (J8 0 (A3 Z3 (A1 0) (A1 1)))
abbrev rW(n:Nat)(ps:List Str):Rho:=[‹.int n›,‹.int (tp:Nat)›,some (.own (ps.map eN))]
theorem cw5(n:Nat):geI (.int (n:Nat)) (.int (tp:Nat))=some (.bool (decide (tp<=n))):=by
 show some (eM (decide ((tp:Int)<=(n:Int))))=_
 congr 2
 rw[decide_eq_decide];omega
theorem co2{n:Nat}{ps:List Str}(hl:ps.length < 900):wB (rW n ps)=some (.nx (rW (n / tp) (ps++[zf (n % tp)]))):=by
 have hm:n % tp < tp:=cV _ ab6
 have m1:O2 (.int (n:Nat)) (.int (tp:Nat))=some (.int ((n % tp:Nat):Int)):=by
  show(if(0:Int) < (tp:Int) then some (eL ((n:Int) % (tp:Int))) else none)=_;rw[if_pos (by have:=ab6;omega)];rfl
 have d1:Z3 (.int (n:Nat)) (.int (tp:Nat))=some (.int ((n / tp:Nat):Int)):=by
  show(if(0:Int) < (tp:Int)/\D6 (tp:Int) then some (eL ((n:Int) / (tp:Int))) else none)=_;rw[if_pos ⟨by have:=ab6;omega,cp7⟩];rfl
 have s1:=ap3 hm (f:=A3 O2 (A1 0) (A1 1)) (ρ:=rW n ps) m1
 have z1:dZf (M7 (A3 O2 (A1 0) (A1 1))) ⇑60 (rW n ps)=some (.str (zf (n % tp))):=by
  unfold dZf;rw[s1];rfl
 have a1:at7 2 (dZf (M7 (A3 O2 (A1 0) (A1 1))) ⇑60) (rW n ps)=some (.nx (rW n (ps++[zf (n % tp)]))):=by
  unfold at7;rw[z1];show(if(ps.map eN).length < 16777216 then _ else _)=_;rw[if_pos (by rw[ak];omega)];simp
 refine(ab7 a1).trans ?_;unfold J8;rw[show A3 Z3 (A1 0) (A1 1) (rW n (ps++[zf (n % tp)]))=some (.int ((n / tp:Nat):Int)) from d1];rfl
theorem cw0{f:DS}{ρ:Rho}{t:Rho->Option Bool}{k:Nat}(h:t ρ=some false):K7 t f (k+1) ρ=some (.nx ρ):=by unfold K7;rw[h];rfl
theorem cC9{f:DS}{ρ ρ':Rho}{t:Rho->Option Bool}{k:Nat}(h:t ρ=some true)(e:f ρ=some (.nx ρ')):K7 t f (k+1) ρ=K7 t f k ρ':=by
 show(t ρ).bind _=_;rw[h];show(f ρ).bind _=_;rw[e];rfl
theorem co1(j:Nat):∀(n:Nat) (ps:List Str),n < tp ^ (j+1)->ps.length+j < 900->∃n' ps',K7 (tB2 geI (A1 0) (A1 1)) wB (j+1) (rW n ps)=some (.nx (rW n' ps'))/\n' < tp/\cl (nt n')++cat ps'.reverse=cl (nt n)++cat ps.reverse/\ps'.length<=ps.length+j:=by
 have tst:∀n ps,tB2 geI (A1 0) (A1 1) (rW n ps)=some (decide (tp<=n)):=λn ps=>by
  have g:=cw5 n
  wp_walk using evD,g
 induction j with
 | zero =>
  intro n ps h hl;rw[Nat.zero_add,Nat.pow_one]at h;refine⟨n,ps,cw0 ?_,h,rfl,aj _⟩;rw[tst,decide_eq_false (by omega)]
 | succ j ih =>
  intro n ps h hl;by_cases q:tp<=n
  ·have hm:n % tp < tp:=cV _ ab6
   have hd:n / tp < tp ^ (j+1):=by
    rw[Nat.div_lt_iff_lt_mul ab6,← cS];exact h
   obtain⟨n',ps',e,h1,h2,h3⟩:=ih (n / tp) (ps++[zf (n % tp)]) hd (by simp;omega);refine⟨n',ps',(cC9 (by rw[tst,decide_eq_true q]) (co2 (by omega))).trans e,h1,?_,by simp at h3;omega⟩;rw[h2,List.reverse_append,cat,cat,List.flatMap_append,← aH]
   congr 1
   show cl (nt (n / tp))++(cl (zf (n % tp))++[])=_;have h0:0 < n / tp:=Nat.div_pos q ab6;have:=bP6 (n / tp) h0 60 (n % tp) (by rw[← Z6];exact hm);rw[← Z6,Nat.div_add_mod' n tp]at this;rw[aw,cn2 hm,this]
  ·refine⟨n,ps,cw0 ?_,by omega,rfl,by omega⟩;rw[tst,decide_eq_false q]
theorem aN9{n:Nat}(h:n < big):E3 [.int n]=some (.str (nt n)):=by
 have p:bi7 (.int 10) (.int 60)=some (.int (tp:Nat)):=by kernel_rfl
 obtain⟨n',ps',e,h1,h2,h3⟩:=co1 5 n [] (aB h (by rw[Z6];decide +kernel)) (by decide)
 have e2:cat (ps'++[nt n']).reverse=cl (nt n):=by
  rw[List.reverse_append];show cl (nt n')++cat ps'.reverse=_;rw[h2];exact aw _
 have gd:Builtin.Str.glued "" (ps'++[nt n']).reverse=nt n:=p8 (by rw[aq9,e2]);have l1:=(bm0 h).l2;have l0:(cat (ps'++[nt n']).reverse).length<=309:=by rw[e2,C4];exact l1
 have st:Y8 ((ps'++[nt n']).map eN)=some (ps'++[nt n']):=by
  generalize ps'++[nt n']=l
  induction l with
  | nil=>rfl
  | cons x l ih=>show(Y8 (l.map eN)).map _=_;rw[ih];rfl
 refine D1 (ρ:=[‹.int n›,none,none]) rfl ?_;unfold V8;refine(ab7 (ρ':=[‹.int n›,‹.int (tp:Nat)›,none]) (by wp_walk using evD,p)).trans ?_;refine(ab7 (ρ':=rW n []) rfl).trans ((ab7 (ab8 e)).trans ?_);refine(ab7 (ρ':=rW n' (ps'++[nt n'])) ?_).trans ?_
 ·unfold at7;rw[ap3 h1 (f:=A1 0) (ρ:=rW n' ps') rfl];show(if(ps'.map eN).length < 16777216 then _ else _)=_;rw[if_pos (by rw[ak];simp at h3;omega)];simp
 ·unfold D9 ax7;show(((Y8 ((ps'++[nt n']).map eN)).bind _).map _)=_;rw[st];show((if J7 "" (ps'++[nt n']).reverse<=16777216/\(Builtin.Str.glued "" (ps'++[nt n']).reverse).length<=16777216/\(ps'++[nt n']).length<=16777216 then some _ else none).map _)=_;rw[if_pos ⟨by rw[aE3];omega,by rw[gd];omega,by simp at h3 ⊢;omega⟩,gd];rfl
end Lk92
namespace Lk92
open PySem G L2 Sh
abbrev gl(c:Nat)(ws:List Str):Str:=Builtin.Str.glued (sg c) ws
abbrev sD(ws:List Str):List D:=ws.map eN
theorem as9:∀ws:List Str,Y8 (sD ws)=some ws
 | []=>rfl
 | w::ws=>by show(Y8 (sD ws)).map _=_;rw[as9 ws];rfl
theorem ar5(c:Nat)(ws:List Str):cl (gl c ws)=jl c (ws.map cl):=by rw[gl,StrLaws.glued_eq_join,aa6]
theorem L6(a b:Str):(a++b).length=a.length+b.length:=by rw[← C4,J6,aG,C4,C4]
theorem bq1{b c:Nat}:∀ws:List (List Nat),(∀w∈ws,w.length<=b)->(jl c ws).length<=(b+1)*ws.length
 | [],_=>aU _
 | [x],h=>by have:=h x (by simp);show x.length<=(b+1)*1;omega
 | x::y::r,h=>by
  have h1:=h x (by simp);have h2:=bq1 (c:=c) (y::r) λw hw=>h w (ai _ hw)
  rw[jl,aG,aI,aI (as:=y::r),Nat.mul_succ];omega
theorem ch7{b c:Nat}(ws:List Str)(h:∀w∈ws,w.length<=b):J7 (sg c) ws<=(b+1)*ws.length:=by
 have key:∀(ws:List Str) (n:Nat),(∀w∈ws,w.length<=b)->ws.foldl (λn y=>n+y.length+(sg c).length) n<=n+(b+1)*ws.length:=by
  intro ws
  induction ws with
  | nil=>intro n _;simp
  | cons w ws ih =>
   intro n hw;have h1:=hw w (by simp);have h2:=ih (n+w.length+(sg c).length) λv hv=>hw v (ai _ hv)
   have h3:(sg c).length=1:=rfl;rw[cQ,aI,Nat.mul_succ];omega
 have:=key ws 0 h;unfold J7;rw[List.foldl_toArray];omega
theorem ac5{b c:Nat}{ws:List Str}(h:∀w∈ws,w.length<=b):(gl c ws).length<=(b+1)*ws.length:=by
 have:=bq1 (c:=c) (b:=b) (ws.map cl) (λw hw=>by obtain⟨v,hv,rfl⟩:=aE.mp hw;rw[C4];exact h v hv);rw[ak]at this;rw[← C4,ar5];exact this
theorem aU9{c b:Nat}{x:Str}{ws:List Str}{g:Rho->Option (Bool×List D)}{ρ:Rho}(hx:x=sg c)(hg:g ρ=some (false,sD ws))(hb:∀w∈ws,w.length<=b)(hl:(b+1)*ws.length<=16777216):d6 (dC (.str x)) g ρ=some (.str (gl c ws)):=by
 subst hx;have h1:=ch7 (c:=c) ws hb;have h2:=ac5 (c:=c) hb;unfold d6;rw[hg];show(if false=true then none else(Y8 (sD ws)).bind _)=_;rw[if_neg (by decide),as9];show(if J7 (sg c) ws<=16777216/\(gl c ws).length<=16777216 then _ else _)=_;rw[if_pos ⟨by omega,by omega⟩]
theorem X9{a b:Str}(h:a.length+b.length<=16777216):B8 (.str a) (.str b)=some (.str (a++b)):=if_pos h
theorem ay5{a b:List D}(h:a.length+b.length<=16777216):B8 (.list a) (.list b)=some (.list (a++b)):=if_pos h
def Al(p:Nat->Prop)(s:Str):Prop:=∀c∈cl s,p c
theorem Al.app{a b:Str}(h1:Al p a)(h2:Al p b):Al p (a++b):=λc hc=>by
 rw[J6]at hc;exact(aQ.mp hc).elim (h1 c) (h2 c)
theorem Al.sg(h:p c):Al p (sg c):=λd hd=>by rw[show d=c by simpa [cl] using hd];exact h
theorem Al.imp(h:Al p s)(i:∀c,p c->q c):Al q s:=λc hc=>i c (h c hc)
theorem bq3{p:Nat->Prop}(hc:p c):∀ws:List (List Nat),(∀w∈ws,∀d∈w,p d)->∀d∈jl c ws,p d
 | [],_,d,hd=>by simp[jl]at hd
 | [x],h,d,hd=>h x (by simp) d hd
 | x::y::r,h,d,hd=>by
  rw[jl]at hd;rcases aQ.mp hd with q|q
  ·exact h x (by simp) d q
  ·rcases ax.mp q with rfl|q
   ·exact hc
   ·exact bq3 hc (y::r) (λw hw=>h w (ai _ hw)) d q
theorem Al.gl{ws:List Str}(hc:p c)(h:∀w∈ws,Al p w):Al p (gl c ws):=λd hd=>by
 rw[ar5]at hd;exact bq3 hc _ (λw hw=>by obtain⟨v,hv,rfl⟩:=aE.mp hw;exact h v hv) d hd
theorem Al.no(h:Al p s)(i:¬p c):c∉cl s:=λhc=>i (h c hc)
abbrev Sr:=Nat×Nat
abbrev prD(s:Sr):D:=.tuple [.int s.1,.int s.2]
abbrev spD(l:List Sr):D:=.tuple (l.map prD)
abbrev Bs7(s:Sr):Prop:=s.1 < 10 ^ 7/\s.2 < 10 ^ 7
abbrev Sht:=Nat×Nat×List (List Sr)
abbrev F1(t:Sht):D:=.tuple [.int t.1,.int t.2.1,.tuple (t.2.2.map spD)]
def shT(s:Sr):Str:=if s.2=1 then nt s.1 else nt s.1++sg 47++nt s.2
theorem sl_:("/" : Str)=sg 47:=by decide +kernel
theorem ex_:("x" : Str)=sg 120:=by decide +kernel
theorem co_:(":" : Str)=sg 58:=by decide +kernel
theorem bl_:(" " : Str)=sg 32:=by decide +kernel
theorem nl_:("\n" : Str)=sg 10:=by decide +kernel
abbrev pN(c:Nat):Prop:=48<=c/\c<=57
abbrev pS(c:Nat):Prop:=47<=c/\c<=57
abbrev pP(c:Nat):Prop:=47<=c/\c<=58
theorem ac1{n:Nat}(h:n < 10 ^ 7):n < big:=cn h (by decide +kernel)
theorem P9{n:Nat}(h:n < 10 ^ 7):(nt n).length<=7:=by
 have:=(aC3 6 n h).1
 rwa [C4]at this
theorem aq0(h:n < 10 ^ 7):Al pN (nt n):=(bm0 (ac1 h)).d
theorem at6{s:Sr}(h:Bs7 s):Al pS (shT s)/\(shT s).length<=15:=by
 have i:∀c,pN c->pS c:=λc h=>⟨by omega,h.2⟩
 have l1:=P9 h.1;have l2:=P9 h.2;unfold shT;split
 ·exact⟨Al.imp (aq0 h.1) i,by omega⟩
 ·refine⟨((Al.imp (aq0 h.1) i).app (Al.sg ⟨by decide,by decide⟩)).app (Al.imp (aq0 h.2) i),?_⟩;rw[L6,L6,show(sg 47).length=1 from rfl];omega
theorem bM4(a b:Str)(c:Nat)(ha:a.length<=1000)(hb:b.length<=1000):B8 (.str a) (.str (sg c))=some (.str (a++sg c))/\B8 (.str (a++sg c)) (.str b)=some (.str (a++sg c++b)):=by
 have h1:(sg c).length=1:=rfl;exact⟨X9 (by omega),X9 (by rw[L6];omega)⟩
theorem bT7{s:Sr}(h:Bs7 s):J4 [prD s]=some (.str (shT s)):=by
 have w1:=aN9 (ac1 h.1);have w2:=aN9 (ac1 h.2);have l1:=P9 h.1;have l2:=P9 h.2;obtain⟨c1,c2⟩:=bM4 (nt s.1) (nt s.2) 47 (by omega) (by omega);refine D1 (ρ:=[‹prD s›]) rfl ?_;unfold shT;by_cases d:s.2=1
 ·have e:((s.2:Int)==1)=true:=by rw[d];rfl
  rw[if_pos d]
  wp_walk using evD,Q2,e,w1
 ·have e:((s.2:Int)==1)=false:=beq_eq_false_iff_ne.mpr (by omega);rw[if_neg d]
  wp_walk using evD,Q2,e,w1,w2,sl_,c1,c2
def spT(l:List Sr):Str:=gl 58 (l.map shT)
theorem bY3{l:List Sr}(h:∀s∈l,Bs7 s):Al pP (spT l)/\(spT l).length<=16*l.length:=by
 have w:∀v∈l.map shT,Al pS v/\v.length<=15:=λv hv=>by
  obtain⟨s,hs,rfl⟩:=aE.mp hv;exact at6 (h s hs)
 refine⟨Al.gl ⟨by decide,by decide⟩ λv hv=>(w v hv).1.imp λc h=>⟨h.1,by omega⟩,?_⟩;have:=ac5 (c:=58) λv hv=>(w v hv).2
 rwa [ak]at this
theorem bT6{l:List Sr}(hl:l.length<=1000)(h:∀s∈l,Bs7 s):N4 [spD l]=some (.str (spT l)):=by
 have n:=S7 (caps:=[]) (src:=L3 (A1 0)) (e:=A6 J4 (A0 (A1 0) A4)) (ρ:=[‹spD l›]) (l:=l) (h:=prD) (f:=λs=>.str (shT s)) (r:=[]) rfl rfl hl λs hs=>by wp_walk using evD,bT7 (h s hs)
 have q:qN (E4 1 [] (L3 (A1 0)) (F4 0) G7 (A6 J4 (A0 (A1 0) A4))) [‹spD l›]=some (false,sD (l.map shT)):=by
  unfold qN;rw[n,sD,aV];rfl
 refine D1 (ρ:=[‹spD l›]) rfl ?_;unfold e8 D9;rw[aU9 (ws:=l.map shT) co_ q (b:=15) (λw hw=>by obtain⟨s,hs,rfl⟩:=aE.mp hw;exact(at6 (h s hs)).2) (by rw[ak];omega)];rfl
def szT(w h:Nat):Str:=nt w++sg 120++nt h
theorem bT4{w h:Nat}(hw:w < 10 ^ 7)(hh:h < 10 ^ 7)(x:D):N5 [.tuple [.int w,.int h,x]]=some (.str (szT w h)):=by
 have w1:=aN9 (ac1 hw);have w2:=aN9 (ac1 hh);have l1:=P9 hw;have l2:=P9 hh;obtain⟨c1,c2⟩:=bM4 (nt w) (nt h) 120 (by omega) (by omega);refine D1 (ρ:=[‹.tuple [.int w,.int h,x]›]) rfl ?_
 wp_walk using evD,e9,w1,w2,ex_,c1,c2,szT
theorem cu3{f:DE}{ρ:Rho}{x:D}(h:f ρ=some x):N7 (A0 f A4) ρ=some (.list [x]):=by simp only[N7,A0,A4,h,xbs,xms]
structure Wt (t:Sht):Prop where
 w:t.1 < 10 ^ 7
 h:t.2.1 < 10 ^ 7
 l:t.2.2.length<=100
 p:∀l∈t.2.2,l.length<=4/\∀s∈l,Bs7 s
abbrev wt(t:Sht):List Str:=szT t.1 t.2.1::t.2.2.map spT
theorem bT5{t:Sht}(h:Wt t):F3 [F1 t]=some (.list (sD (wt t))):=by
 have z:A6 N5 (A0 (A1 0) A4) [‹F1 t›]=some (.str (szT t.1 t.2.1)):=by wp_walk using evD,bT4 h.w h.h
 have c:=S7 (caps:=[]) (src:=L3 (dIx (B2 0) ⇑2)) (ρ:=[‹F1 t›]) (e:=A6 N4 (A0 (A1 0) A4)) (l:=t.2.2) (h:=spD) (f:=λl=>.str (spT l)) (r:=[]) rfl rfl (by have:=h.l;omega) λl hl=>by wp_walk using evD,bT6 (show l.length<=1000 by have:=(h.p l hl).1;omega) (h.p l hl).2
 refine D1 (ρ:=[‹F1 t›]) rfl ?_;unfold V9 D9;rw[D4 (cu3 z) (show N7 _ _=some (.list (sD (t.2.2.map spT))) by unfold N7;rw[c,sD,aV];rfl),ay5 (by simp;have:=h.l;omega)];rfl
abbrev lw(n:Str)(t:Sht):List Str:=n::wt t
def lnT(n:Str)(t:Sht):Str:=gl 32 (lw n t)
abbrev pA(c:Nat):Prop:=47<=c/\c<=122
theorem bX4{w h:Nat}(hw:w < 10 ^ 7)(hh:h < 10 ^ 7):Al pA (szT w h)/\(szT w h).length<=15:=by
 have i:∀c,pN c->pA c:=λc h=>⟨by omega,by omega⟩
 have l1:=P9 hw;have l2:=P9 hh;refine⟨((Al.imp (aq0 hw) i).app (Al.sg ⟨by decide,by decide⟩)).app (Al.imp (aq0 hh) i),?_⟩;unfold szT;rw[L6,L6,show(sg 120).length=1 from rfl];omega
structure Nmw (n:Str):Prop where
 a:Al pA n
 l:n.length<=6
theorem aS6{n:Str}{t:Sht}(hn:Nmw n)(h:Wt t):(∀v∈lw n t,Al pA v/\v.length<=64)/\(lw n t).length<=102:=by
 refine⟨λv hv=>?_,by simp;exact h.l⟩;rcases ax.mp hv with rfl|hv
 ·exact⟨hn.a,by have:=hn.l;omega⟩
 rcases ax.mp hv with rfl|hv
 ·have:=bX4 h.w h.h;exact⟨this.1,by omega⟩
 ·obtain⟨l,hl,rfl⟩:=aE.mp hv;obtain⟨a,b⟩:=bY3 (h.p l hl).2;exact⟨a.imp λc h=>⟨h.1,by omega⟩,by have:=(h.p l hl).1;omega⟩
theorem bn8{n:Str}{t:Sht}(hn:Nmw n)(h:Wt t):Al (λc=>32<=c/\c<=122) (lnT n t)/\(lnT n t).length<=6630:=by
 obtain⟨w,l⟩:=aS6 hn h;refine⟨Al.gl ⟨by decide,by decide⟩ λv hv=>(w v hv).1.imp λc h=>⟨by omega,h.2⟩,?_⟩;exact aM (ac5 λv hv=>(w v hv).2) (aM (ce _ l) (by decide))
theorem bT8{n:Str}{t:Sht}(hn:Nmw n)(h:Wt t):W1 [.str n,F1 t]=some (.str (lnT n t++sg 10)):=by
 have e:=bT5 h;obtain⟨w,l⟩:=aS6 hn h;have ll:=(bn8 hn h).2;have l0:=h.l
 have c:A3 B8 (N7 (A0 (A1 0) A4)) (A6 F3 (A0 (A1 1) A4)) [‹.str n›,‹F1 t›]=some (.list (sD (lw n t))):=by
  rw[D4 (cu3 rfl) (show A6 F3 (A0 (A1 1) A4) [‹.str n›,‹F1 t›]=some (.list (sD (wt t))) from e),ay5 (by simp;omega)];rfl
 have j:d6 (dC (.str " ")) (qE (A3 B8 (N7 (A0 (A1 0) A4)) (A6 F3 (A0 (A1 1) A4)))) [‹.str n›,‹F1 t›]=some (.str (lnT n t)) :=
  aU9 bl_ (by unfold qE;rw[c];rfl) (b:=64) (λv hv=>(w v hv).2) (aM (ce _ l) (by decide))
 refine D1 (ρ:=[‹.str n›,‹F1 t›]) rfl ?_;unfold as1 D9;rw[D4 j (show dC (.str "\n") _=some (.str (sg 10)) by rw[nl_];rfl),X9 (by rw[show(sg 10).length=1 from rfl];omega)];rfl
end Lk92
namespace Lk92
open PySem G L2 Sh
def dg(c:Nat):Bool:=decide (48<=c/\c<=57)
def D7(l:List Nat):Prop:=∀w,w <:+: l->w.all dg=true->w.length<=7
structure Bw (w:Str):Prop where
 a:∀c∈cl w,c < 128
 l:w.length<=999
 d:D7 (cl w)
theorem Bw.sub(h:Bw w)(i:cl u <:+: cl w):Bw u:=by
 refine⟨λc hc=>h.a c (i.subset hc),?_,λv hv=>h.d v (hv.trans i)⟩;have h1:=i.length_le;have h2:=h.l;rw[C4,C4]at h1;omega
theorem Bw.asc(h:Bw w):w.cps.all (· < 128)=true:=by
 rw[Array.all_eq_true'];exact λc hc=>decide_eq_true (h.a c (cO.mpr hc))
theorem aB2{x:Str}{p:Nat->Bool}(hx:∀c:Fin 128,bL2 ⟨#[c.val]⟩ x=p c.val)(h:Bw w):az4 (w.cps.toList.map λc=>eM (p c))=some ((cl w).all p)/\E4 1 [] (bs7 (A1 0)) (F4 0) G7 (A3 (inS false) (A1 0) (dC (.str x))) [‹.str w›]=some (w.cps.toList.map λc=>.bool (p c)):=by
 refine⟨V7 p _,S7 (l:=w.cps.toList) (h:=λc=>.str ⟨#[c]⟩) (r:=[]) rfl ?_ (by show(cl w).length<=1000;rw[C4];have:=h.l;omega) λc hc=>?_⟩
 ·show(if w.cps.all (· < 128)=true then some (aB3 w) else none)=_;rw[if_pos h.asc];rfl
 ·show some (eM (bL2 ⟨#[c]⟩ x))=_;rw[hx ⟨c,h.a c hc⟩]
def okN(w:Str):Bool:=decide (1<=w.length/\w.length<=400)&&(cl w).all dg
def num(w:Str):Nat:=bif okN w then NumText.digitsVal (cl w) else 0
theorem at9(hw:Bw w)(h:b=true\/okN w=true):G1 b [.str w]=some (.int (num w)):=by
 obtain⟨al,nc⟩:=aB2 (x := "0123456789") (p:=dg) (by decide +kernel) hw;have z:w.length<=16777216:=by have:=hw.l;omega
 refine D1 (ρ:=[‹.str w›]) rfl ?_;by_cases hl:1<=w.length/\w.length<=400
 ·have a':(1:Int)<=w.length:=by omega
  have b':(w.length:Int)<=400:=by omega
  have z6:w.length<=640:=by omega
  cases ha:(cl w).all dg with
  | true =>
   rw[ha]at al;have lo:∀c∈w.cps.toList,48<=c/\c<=57:=λc hc=>of_decide_eq_true (aO.mp ha c hc)
   have hne:w.cps.toList≠[]:=λe=>by
    have:=hl.1;rw[← C4,cl,e]at this;exact absurd this (by decide)
   have e:=intText_digits lo hne (by omega);have en:num w=NumText.digitsVal (cl w):=by unfold num okN;rw[ha,decide_eq_true hl];rfl
   rw[en]
   wp_walk using evD,L5,V3,aV2,if_pos z,if_pos z6,nc,al,a',b',decide_true,e
  | false =>
   rw[ha]at al;have ok:okN w=false:=by unfold okN;rw[ha,cC]
   rw[ok]at h;obtain rfl:b=true:=by simpa using h
   rw[show num w=0 by unfold num;rw[ok];rfl]
   wp_walk using evD,L5,V3,if_pos z,nc,al,a',b',decide_true,rz,cond_true
   rfl
 ·have ok:okN w=false:=by unfold okN;rw[decide_eq_false hl,bv]
  rw[ok]at h;obtain rfl:b=true:=by simpa using h
  rw[show num w=0 by unfold num;rw[ok];rfl];by_cases a':(1:Int)<=w.length
  ·have b':¬(w.length:Int)<=400:=by omega
   wp_walk using evD,L5,V3,if_pos z,a',b',decide_true,decide_false,rz,cond_true
   rfl
  ·wp_walk using evD,L5,V3,if_pos z,a',decide_false,rz,cond_true
   rfl
theorem av2(h:Bw w):num w < 10 ^ 7:=by
 unfold num;cases e:okN w with
 | false=>exact(by decide:0 < 10 ^ 7)
 | true =>
  unfold okN at e;simp only[ah]at e;have l:=h.d (cl w) (List.infix_refl _) e.2
  have key:∀(l:List Nat) (n k:Nat),l.all dg=true->n < 10 ^ k->l.foldl (λv c=>v*10+(c - 48)) n < 10 ^ (k+l.length):=by
   intro l
   induction l with
   | nil=>intro n k _ h;exact h
   | cons c l ih =>
    intro n k hl hn;rw[aL,ah]at hl;have hc:48<=c/\c<=57:=of_decide_eq_true hl.1;have:=ih (n*10+(c - 48)) (k+1) hl.2 (by rw[cS];omega);rw[cQ,aI,show k+(l.length+1)=k+1+l.length by omega];exact this
  have:=key (cl w) 0 0 e.2 (by decide);rw[Nat.zero_add]at this;refine aB (show NumText.digitsVal (cl w) < 10 ^ (cl w).length from ?_) (bY (by decide) l);exact this
def st(l:List Nat):Str:=⟨l.toArray⟩
theorem aV7(l:List Nat):cl (st l)=l:=by simp[cl,st]
theorem aC4(w:Str)(c:Nat):(c∉cl w/\Txt.partition w (sg c)=(w,eT,eT))\/∃a b,w=a++sg c++b/\c∉cl a/\Txt.partition w (sg c)=(a,sg c,b):=by
 by_cases h:c∈cl w
 ·obtain⟨a,b,e,na⟩:=List.eq_append_cons_of_mem h;have ew:w=st a++sg c++st b:=p8 (by rw[J6,J6,aV7,aV7,e];simp[cl]);refine .inr ⟨st a,st b,ew,by rw[aV7];exact na,?_⟩;rw[ew];exact au7 _ _ _ (by rw[aV7];exact na)
 ·exact .inl ⟨h,aR8 w c h⟩
theorem bw1(a b:Str)(c:Nat):cl a <:+: cl (a++sg c++b)/\cl b <:+: cl (a++sg c++b):=by
 rw[J6,J6];exact⟨⟨[],cl (sg c)++cl b,by simp⟩,⟨cl a++cl (sg c),[],by simp⟩⟩
theorem bx2:Bw eT:=⟨(λc h=>by cases h),by decide,λw hw _=>by rw[List.infix_nil.mp hw];decide⟩
theorem V6(h:Bw w)(c:Nat):Bw (Txt.partition w (sg c)).1/\Bw (Txt.partition w (sg c)).2.2:=by
 rcases aC4 w c with⟨_,e⟩|⟨a,b,rfl,_,e⟩
 ·rw[e];exact⟨h,bx2⟩
 ·rw[e];exact⟨h.sub (bw1 a b c).1,h.sub (bw1 a b c).2⟩
theorem bQ8(c:Nat):∀(ws:List (List Nat)),∀w∈ws,w <:+: jl c ws
 | [x],w,h=>by rw[aN.mp h];exact List.infix_refl _
 | x::y::r,w,h=>by
  rcases ax.mp h with rfl|h
  ·exact⟨[],c::jl c (y::r),rfl⟩
  ·obtain⟨a,b,e⟩:=bQ8 c (y::r) w h;exact⟨x++c::a,b,by rw[jl,← e];simp⟩
theorem aT5(c:Nat):∀(ws:List (List Nat)),ws.length<=(jl c ws).length+1
 | []=>by simp
 | [x]=>by simp
 | x::y::r=>by
  have:=aT5 c (y::r);have e:(jl c (x::y::r)).length=x.length+((jl c (y::r)).length+1):=by rw[jl,aG,aI]
  rw[e,aI (a:=x)];omega
abbrev ws(w:Str)(c:Nat):List Str:=Txt.split w (sg c)
theorem i7(w:Str)(c:Nat):cl w=jl c ((ws w c).map cl)/\(∀p∈ws w c,c∉cl p)/\ws w c≠[]:=by
 have e:=StrLaws.join_split w (sg c);refine⟨?_,StrLaws.split_free w c,aB0 w _⟩;rw[← aa6,e]
theorem V5(h:Bw w)(c:Nat):(∀p∈ws w c,Bw p)/\(ws w c).length<=1000:=by
 obtain⟨e,_,_⟩:=i7 w c;refine⟨λp hp=>h.sub (by rw[e];exact bQ8 c _ _ (cu hp)),?_⟩;have:=aT5 c ((ws w c).map cl);rw[← e,ak,C4]at this;have:=h.l;omega
theorem bW3(h:Bw w)(c:Nat):txS w (sg c)=some (.list (sD (ws w c))):=by
 have:=(V5 h c).2;have:=h.l;unfold txS;rw[if_pos ⟨show(1:Nat)≠0 by decide,by omega,by show(ws w c).length<=_;omega⟩]
theorem cp2(h:Bw w)(c:Nat):txP w (sg c)=some (.tuple [.str (Txt.partition w (sg c)).1,.str (Txt.partition w (sg c)).2.1,.str (Txt.partition w (sg c)).2.2]):=by
 have:=h.l;unfold txP;rw[if_pos ⟨show(1:Nat)≠0 by decide,by omega⟩]
def share(w:Str):Sr:=(num (Txt.partition w (sg 47)).1,bif (Txt.partition w (sg 47)).2.1==sg 47 then num (Txt.partition w (sg 47)).2.2 else 1)
def okS(w:Str):Bool:=okN (Txt.partition w (sg 47)).1&&(!((Txt.partition w (sg 47)).2.1==sg 47) || okN (Txt.partition w (sg 47)).2.2)
theorem ce1(w:Str)(c:Nat)(hc:c < 1000):eqD (.str (Txt.partition w (sg c)).2.1) (.str (sg c))=some (.bool ((Txt.partition w (sg c)).2.1==sg c)):=by
 have h1:eO (.str (sg c))=true:=by show(#[c]:Array Nat).all (· < 0x110000)=true;simp;omega
 refine aU6 ?_ h1 rfl;rcases aC4 w c with⟨_,e⟩|⟨a,b,_,_,e⟩
 ·rw[e];exact(by decide +kernel:eO (.str eT)=true)
 ·rw[e];exact h1
theorem bE1(hw:Bw w)(h:b=true\/okS w=true):N6 b [.str w]=some (prD (share w)):=by
 obtain⟨b1,b2⟩:=V6 hw 47;have t:=cp2 hw 47;have e:=ce1 w 47 (by decide);have o1:b=true\/okN (Txt.partition w (sg 47)).1=true:=h.imp id λh=>by unfold okS at h;rw[ah]at h;exact h.1
 have r1:=at9 b1 o1;refine D1 (ρ:=[‹.str w›,none,none]) rfl ?_;unfold share;cases q:(Txt.partition w (sg 47)).2.1==sg 47 with
 | false =>
  rw[q]at e
  wp_walk using evD,Y5,ax8,dTx,sl_,t,e,r1
  rfl
 | true =>
  rw[q]at e;have r2:=at9 (b:=b) b2 (h.imp id λh=>by unfold okS at h;rw[q,ah]at h;exact h.2)
  wp_walk using evD,Y5,ax8,dTx,sl_,t,e,r1,r2
  rfl
def spot(w:Str):List Sr:=(ws w 58).map share
def okP(w:Str):Bool:=(ws w 58).all okS
theorem bf3{m:Str->Str->Option D}{f g:DE}{ρ:Rho}{a y:Str}(hf:f ρ=some (.str a))(hg:g ρ=some (.str y)):dTx m f g ρ=m a y:=by unfold dTx;rw[hf,xbs,hg];rfl
theorem bi1{f:Rho->Option (List D)}{ρ:Rho}{l:List D}(h:f ρ=some l):qN f ρ=some (false,l):=by unfold qN;rw[h];rfl
theorem bE0(hw:Bw w)(h:b=true\/okP w=true):P6 b [.str w]=some (spD (spot w)):=by
 obtain⟨b1,b2⟩:=V5 hw 58
 have n:=S7 (caps:=[]) (src:=L3 (dTx txS (A1 0) (dC (.str ":")))) (e:=A6 (N6 b) (A0 (A1 0) A4)) (ρ:=[‹.str w›]) (l:=ws w 58) (h:=eN) (f:=λp=>prD (share p)) (r:=[]) rfl (by
  unfold L3
  rw[bf3 rfl rfl,co_,bW3 hw];rfl) b2 λp hp=>by wp_walk using evD,bE1 (b1 p hp) (h.imp id λh=>aO.mp h p hp)
 refine D1 (ρ:=[‹.str w›]) rfl ?_;unfold af9 D9 aa2;rw[bi1 n,spot,spD,aV];rfl
def size(w:Str):Sr:=(num (Txt.partition w (sg 120)).1,num (Txt.partition w (sg 120)).2.2)
def okZ(w:Str):Bool:=okN (Txt.partition w (sg 120)).1&&okN (Txt.partition w (sg 120)).2.2
theorem bD9(hw:Bw w)(h:b=true\/okZ w=true):U3 b [.str w]=some (prD (size w)):=by
 obtain⟨b1,b2⟩:=V6 hw 120;have t:=cp2 hw 120;have r1:=at9 (b:=b) b1 (h.imp id λh=>by unfold okZ at h;rw[ah]at h;exact h.1);have r2:=at9 (b:=b) b2 (h.imp id λh=>by unfold okZ at h;rw[ah]at h;exact h.2);refine D1 (ρ:=[‹.str w›,none]) rfl ?_
 wp_walk using evD,ag0,dTx,ex_,t,r1,r2
 rfl
theorem bD3(hw:Bw w):(size w).1 < 10 ^ 7/\(size w).2 < 10 ^ 7:=⟨av2 (V6 hw 120).1,av2 (V6 hw 120).2⟩
theorem bh4(hw:Bw w):(share w).1 < 10 ^ 7/\(share w).2 < 10 ^ 7:=by
 refine⟨av2 (V6 hw 47).1,?_⟩;unfold share;dsimp only;cases(Txt.partition w (sg 47)).2.1==sg 47
 ·show 1 < _;decide
 ·exact av2 (V6 hw 47).2
end Lk92
namespace Lk92
open PySem G L2 Sh
section
variable {i j:Nat}{kd:Bool}{ρ ρ':Rho}{q q' q1 q2:Fs}{o o':Fo}{d x y z:D}{f g:UX}{m:Str}{F:DF}
theorem a6(hs:ρ[i]? = some (some (.opq j)))(hq:q[j]? = some o):M4 i ρ q=some (j,o):=by unfold M4;rw[hs];show(q[j]?).map _=_;rw[hq];rfl
theorem S2(hs:ρ[i]? = some (some (.opq j)))(hq:q[j]? = some o)(hm:o.k=kd/\(o.l.lookup m).isNone=true)(hF:F o [none]=some (d,o')):uM0 i kd m F ρ q=some (d,q.set j o'):=by
 unfold uM0;rw[a6 hs hq,xbs,if_pos hm,hF];rfl
theorem ap0{f:Rho->Option (List D)}{ds:List D}(hs:ρ[i]? = some (some (.opq j)))(hq:q[j]? = some o)(hm:o.k=kd/\(o.l.lookup m).isNone=true)(hf:f (era ρ)=some ds)(hF:F o (none::ds.map some)=some (d,o')):uM i kd m F f ρ q=some (d,q.set j o'):=by
 unfold uM;rw[a6 hs hq,xbs,if_pos hm,hf,xbs,hF];rfl
theorem aA4{g:Rho->Option MD}{ms:MD}(hs:ρ[i]? = some (some (.opq j)))(hq:q[j]? = some o)(hg:g (era ρ)=some ms)(hF:F o ms=some (d,o')):uD i F g ρ q=some (d,q.set j o'):=by
 unfold uD;rw[a6 hs hq,xbs,hg,xbs,hF];rfl
theorem aA3(hs:ρ[i]? = some (some (.opq j)))(hq:q[j]? = some o)(hk:o.k=kd)(h:(o.l.lookup m).bind frD=some d):aj2 i kd m ρ q=some (d,q):=by
 unfold aj2;rw[a6 hs hq,xbs,if_pos hk,h];rfl
theorem B5(h:f ρ q=some (.nx ρ' q')):E1 f g ρ q=g ρ' q':=by unfold E1;rw[h];rfl
theorem W6(h:f ρ q=some (.rt d q')):E1 f g ρ q=some (.rt d q'):=by unfold E1;rw[h];rfl
theorem M3{f:UD}(h:f ρ q=some (d,q')):S3 i f ρ q=some (.nx (ρ.set i (‹d›)) q'):=by unfold S3;rw[h];rfl
theorem aj0{f:UD}(h:f ρ q=some (d,q')):uEx f ρ q=some (.nx ρ q'):=by unfold uEx;rw[h];rfl
theorem W7{f:UD}(h:f ρ q=some (d,q')):T5 f ρ q=some (.rt d q'):=by unfold T5;rw[h];rfl
theorem N8{f:DE}(h:f (era ρ)=some d):uP f ρ q=some (d,q):=by unfold uP;rw[h];rfl
theorem aO3{g:UV}(h:g ρ q=some d):uL g ρ q=some (d,q):=by unfold uL;rw[h];rfl
theorem l8{h:D->D->Option D}{f g:UD}(h1:f ρ q=some (x,q1))(h2:g ρ q1=some (y,q2))(h3:h x y=some z):uB2 h f g ρ q=some (z,q2):=by
 unfold uB2;rw[h1,xbs,h2,xbs,h3];rfl
theorem Z7{f:UD}{c:Bool}(h:f ρ q=some (.bool c,q')):uTB f ρ q=some (c,q'):=by unfold uTB;rw[h];rfl
theorem v7{t:UB}(h:t ρ q=some (false,q')):uIf t f g ρ q=g ρ q':=by unfold uIf;rw[h];rfl
theorem bs5{t:UB}(h:t ρ q=some (true,q')):uIf t f g ρ q=f ρ q':=by unfold uIf;rw[h];rfl
theorem J0{g:UX}{n:Nat}{ms:MD}{q:Fs}(h:O6 n ms=ρ)(e:g ρ [o]=some (.rt d (o'::q))):K9 g n o ms=some (d,o'):=by unfold K9;rw[h,e];rfl
theorem aj7{g:UX}{n:Nat}{ms:MD}{q:Fs}(h:O6 n ms=ρ)(e:g ρ [o]=some (.nx ρ (o'::q))):K9 g n o ms=some (.none,o'):=by unfold K9;rw[h,e];rfl
theorem bR9{F:FnD}{f:UD}(h:f ρ q=some (x,q'))(hb:P3 x=false)(hF:F [x]=some d):P8 F (ulC f ulN) ρ q=some (d,q'):=by
 unfold P8 ulC;rw[h];show(bif P3 x || false then some (bad,q') else(F [x]).map _)=_;rw[hb,hF];rfl
theorem bR8{F:FnD}{f:UD}(h:f ρ q=some (bad,q')):P8 F (ulC f ulN) ρ q=some (bad,q'):=by
 unfold P8 ulC;rw[h];rfl
theorem aS9{b:Bool}{gb:D}{f:UD}(h:f ρ q=some (d,q'))(hb:P3 d=false):kz b gb i f ρ q=some (.nx (ρ.set i (‹d›)) q'):=by
 cases b
 ·exact M3 h
 ·show(aj1 gb i f ρ q)=_;unfold aj1;rw[h];show some (bif P3 d then _ else _)=_;rw[hb];rfl
theorem aK1{gb:D}{f:UD}(h:f ρ q=some (bad,q')):kz true gb i f ρ q=some (.rt gb q'):=by
 show(aj1 gb i f ρ q)=_;unfold aj1;rw[h];rfl
theorem cj8{f g:UD}{xs:List D}{n:Int}(h1:f ρ q=some (.list xs,q1))(h2:g ρ q1=some (.int n,q2))(h3:atI xs n=some d):be9 f g ρ q=some (d,q2):=by
 unfold be9;simp only[h1,xbs,aB4,h2,h3,xms]
theorem ce7{f:UD}{xs:List D}(h:f ρ q=some (.list xs,q')):aA6 f ρ q=some (.int xs.length,q'):=by unfold aA6;rw[h];rfl
end
theorem cB2{q:Fs}{j:Nat}{o:Fo}(h:q[j]? = some o):q.set j o=q:=aj6 h
def ob(ws:List Str)(k:Nat):Fo:=⟨false,[("words", .frz (.list (sD ws))),("words_taken", .frz (.int k))]⟩
theorem lk1(ws:List Str)(k:Nat):(bH ("words" : Str) (ob ws k).l).bind frD=some (.list (sD ws)):=by kernel_rfl
theorem lk2(ws:List Str)(k:Nat):(bH ("words_taken" : Str) (ob ws k).l).bind frD=some (.int k):=by kernel_rfl
theorem pt2(ws:List Str)(k:Nat):(⟨false,Q6 "words_taken" (.frz (.int ((k:Int)+1))) (ob ws k).l⟩:Fo)=ob ws (k+1):=by kernel_rfl
theorem lk3(ws:List Str)(k:Nat):(ob ws k).k=false/\(bH ("is_at_end" : Str) (ob ws k).l).isNone=true:=⟨rfl,by kernel_rfl⟩
theorem lk4(ws:List Str)(k:Nat):(ob ws k).k=false/\(bH ("word_ahead" : Str) (ob ws k).l).isNone=true:=⟨rfl,by kernel_rfl⟩
theorem lk5(ws:List Str)(k:Nat):(ob ws k).k=false/\(bH ("take_word" : Str) (ob ws k).l).isNone=true:=⟨rfl,by kernel_rfl⟩
theorem bu7(ws:List Str)(k:Nat):d9 (ob ws k) [none]=some (.bool ((k:Int)==((sD ws).length:Int)),ob ws k) :=
 J0 (ρ:=[some (.opq 0)]) (q:=[]) rfl (W7 (l8 (aA3 rfl rfl rfl (lk2 ws k)) (ce7 (aA3 rfl rfl rfl (lk1 ws k))) (by simp only[bL8])))
theorem dr0{ws r:List Str}{w:Str}{k:Nat}(h:ws.drop k=w::r):k < ws.length/\atI (sD ws) (k:Int)=some (.str w)/\ws.drop (k+1)=r:=by
 have h0:ws[k]? = some w:=by have:=congrArg (·[0]?) h;simpa using this
 obtain⟨hk,e⟩:=ao.mp h0;refine⟨hk,?_,by rw[← List.tail_drop,h];rfl⟩;unfold atI;rw[cj7 (by omega) (by rw[ak];omega),xbs,cj,aF,h0];rfl
theorem co3{ws r:List Str}{w:Str}{k:Nat}(h:ws.drop k=w::r):N0 b (ob ws k) [none]=some (.str w,ob ws k):=by
 obtain⟨h1,h2,_⟩:=dr0 h;have e:((k:Int)==((sD ws).length:Int))=false:=beq_eq_false_iff_ne.mpr (by rw[ak];omega);have e0:=bu7 ws k;rw[e]at e0;refine J0 (ρ:=[some (.opq 0)]) (q:=[]) rfl ?_;unfold T0;refine(B5 ((v7 (Z7 (S2 rfl rfl (lk3 ws k) e0))).trans rfl)).trans (W7 ?_);exact cj8 (aA3 rfl rfl rfl (lk1 ws k)) (aA3 rfl rfl rfl (lk2 ws k)) h2
theorem bT9(ws:List Str):N0 true (ob ws ws.length) [none]=some (bad,ob ws ws.length):=by
 have e0:=bu7 ws ws.length;rw[show((ws.length:Int)==((sD ws).length:Int))=true by rw[ak];exact beq_self_eq_true _]at e0;refine J0 (ρ:=[some (.opq 0)]) (q:=[]) rfl ?_;unfold T0;exact W6 ((bs5 (Z7 (S2 rfl rfl (lk3 ws ws.length) e0))).trans rfl)
theorem cp5{ws r:List Str}{w:Str}{k:Nat}(h:ws.drop k=w::r):E6 b (ob ws k) [none]=some (.str w,ob ws (k+1)):=by
 refine J0 (ρ:=[some (.opq 0),none]) (q:=[]) rfl ?_;unfold U9;refine(B5 (aS9 (S2 rfl rfl (lk4 ws k) (co3 h)) rfl)).trans ?_;refine(B5 (ρ':=[some (.opq 0),‹.str w›]) (q':=[ob ws (k+1)]) ?_).trans rfl;have e:uB2 B8 (aj2 0 false "words_taken") (uP ⇑1) [some (.opq 0),‹.str w›] [ob ws k]=some (.int ((k:Int)+1),[ob ws k]):=l8 (aA3 (j:=0) rfl rfl rfl (lk2 ws k)) rfl (U7 _ _);unfold ae0;show((uB2 B8 (aj2 0 false "words_taken") (uP ⇑1) [some (.opq 0),‹.str w›] [ob ws k]).bind _)=_;rw[e,← pt2];rfl
theorem bW4(ws:List Str):E6 true (ob ws ws.length) [none]=some (bad,ob ws ws.length):=by
 refine J0 (ρ:=[some (.opq 0),none]) (q:=[]) rfl ?_;unfold U9;exact W6 (aK1 (S2 (j:=0) rfl rfl (lk4 ws ws.length) (bT9 ws)))
section
variable {ws r:List Str}{w:Str}{k i j:Nat}{ρ:Rho}{q:Fs}
theorem tk(hs:ρ[i]? = some (some (.opq j)))(hq:q[j]? = some (ob ws k))(h:ws.drop k=w::r):uM0 i false "take_word" (E6 b) ρ q=some (.str w,q.set j (ob ws (k+1))):=S2 hs hq (lk5 ws k) (cp5 h)
theorem tkb(hs:ρ[i]? = some (some (.opq j)))(hq:q[j]? = some (ob ws ws.length)):uM0 i false "take_word" (E6 true) ρ q=some (bad,q):=(S2 hs hq (lk5 ws _) (bW4 ws)).trans (by rw[cB2 hq])
end
theorem bu8{ws:List Str}{k:Nat}(h:ws.drop k=[])(hk:k<=ws.length):k=ws.length:=by
 have:=congrArg cZ h;rw[cb]at this;simp at this;omega
noncomputable abbrev spR(b:Bool):UD:=P8 (P6 b) (ulC (uM0 1 false "take_word" (E6 b)) ulN)
def tks(r:List Str)(n:Nat):Option (List D):=if n<=r.length then some ((r.take n).map λp=>spD (spot p)) else none
theorem bw3{ws:List Str}:∀(ks:List D) (r:List Str) (k n:Nat),ws.drop k=r->k<=ws.length->r.length < n->(∀p∈r,Bw p)->(b=true\/(ks.length<=r.length/\(r.take ks.length).all okP=true))->∃k',cpX (spR b) n (ob ws k) ks=some (tks r ks.length,ob ws k')
 | [],r,k,n,_,_,_,_,_=>⟨k,by unfold tks;rw[if_pos (by simp)];cases n<;>rfl⟩
 | x::ks,r,k,0,_,_,h,_,_=>by omega
 | x::ks,[],k,n+1,hd,hk,_,_,h=>by
  obtain rfl:b=true:=h.elim id λh=>by simp at h
  obtain rfl:=bu8 hd hk;refine⟨ws.length,?_⟩;unfold cpX;rw[show spR true [‹x›,some (.opq 0)] [ob ws ws.length]=some (bad,[ob ws ws.length]) from bR8 (tkb rfl rfl)];rfl
 | x::ks,p::r,k,n+1,hd,hk,hn,hb,h=>by
  obtain⟨h1,_,h3⟩:=dr0 hd;have e:spR b [‹x›,some (.opq 0)] [ob ws k]=some (spD (spot p),[ob ws (k+1)]):=bR9 (tk (i:=1) (j:=0) (ρ:=[‹x›,some (.opq 0)]) (q:=[ob ws k]) rfl rfl hd) rfl (bE0 (hb p (by simp)) (h.imp id λh=>by simp at h;exact h.2.1));obtain⟨k',i⟩:=bw3 ks r (k+1) n h3 h1 (by simp at hn;omega) (λp hp=>hb p (ai _ hp)) (h.imp id λh=>by simp at h ⊢;exact⟨h.1,h.2.2⟩);refine⟨k',?_⟩;unfold cpX;rw[e];show((cpX (spR b) n (ob ws (k+1)) ks).map λl=>(l.1.map (spD (spot p)::·),l.2))=_;rw[i];show some ((tks r ks.length).map _,ob ws k')=_
  congr 2
  unfold tks;by_cases q:ks.length<=r.length
  ·rw[if_pos q,if_pos (by simpa using q)];rfl
  ·rw[if_neg q,if_neg (by simpa using q)];rfl
def sheet:List Str->Option Sht
 | []=>none
 | z::r=>if(size z).1*(size z).2<=r.length then some ((size z).1,(size z).2,(r.take ((size z).1*(size z).2)).map spot) else none
def okT:List Str->Bool
 | []=>false
 | z::r=>okZ z&&decide ((size z).1*(size z).2<=r.length)&&(r.take ((size z).1*(size z).2)).all okP
def shO(o:Option Sht):D:=match o with
 | some t=>F1 t
 | none=>bad
theorem bZ0{ws r:List Str}{k:Nat}(hd:ws.drop k=r)(hk:k<=ws.length)(hb:∀p∈r,Bw p)(hl:r.length<=1000)(h:b=true\/okT r=true):∃k',M9 b (ob ws k) [none]=some (shO (sheet r),ob ws k'):=by
 cases r with
 | nil =>
  obtain rfl:b=true:=h.elim id λh=>nomatch h
  obtain rfl:=bu8 hd hk;refine⟨ws.length,J0 (ρ:=[some (.opq 0),none,none]) (q:=[]) rfl ?_⟩;unfold Y4;exact W6 (aK1 (bR8 (tkb rfl rfl)))
 | cons z r =>
  obtain⟨h1,_,h3⟩:=dr0 hd;have hz:=hb z (by simp);obtain⟨l1,l2⟩:=bD3 hz;have sz:=bD9 (b:=b) hz (h.imp id λh=>by unfold okT at h;simp only[ah]at h;exact h.1.1);have big:(size z).1*(size z).2 < 10 ^ 14:=aB (Nat.mul_lt_mul_of_lt_of_lt l1 l2) (by decide);have m:J3 (.int (size z).1) (.int (size z).2)=some (.int (((size z).1*(size z).2:Nat):Int)):=by rw[bm7 (M0 (k:=30) (by omega) (by decide)) (M0 (k:=30) (by omega) (by decide)),bB]
  have rn:P4 (A3 J3 (dIx (B2 1) ⇑0) (dIx (B2 1) ⇑1)) [none,‹prD (size z)›,none]=some (O0 0 ((size z).1*(size z).2:Nat)):=by
   unfold P4;rw[show A3 J3 (dIx (B2 1) ⇑0) (dIx (B2 1) ⇑1) [none,‹prD (size z)›,none]=_ from(D4 rfl rfl).trans m,xbs];show(if _ then _ else _)=_;rw[if_pos ⟨by omega,by omega⟩]
  have len:(O0 0 ((size z).1*(size z).2:Nat)).length=(size z).1*(size z).2:=by unfold O0;rw[ak,cG,Int.sub_zero,cj]
  obtain⟨k',c⟩:=bw3 (ws:=ws) (b:=b) (O0 0 ((size z).1*(size z).2:Nat)) r (k+1) 100000 h3 h1 (by simp at hl;omega) (λp hp=>hb p (ai _ hp)) (h.imp id λh=>by
   unfold okT at h;simp only[ah,decide_eq_true_eq]at h
   rw[len];exact⟨h.1.2,h.2⟩)
  rw[len]at c;refine⟨k',J0 (ρ:=[some (.opq 0),none,none]) (q:=[]) rfl ?_⟩;unfold Y4;refine(B5 (aS9 (bR9 (tk rfl rfl hd) rfl sz) rfl)).trans ?_
  have u:bf0 bad 2 0 (P4 (A3 J3 (dIx (B2 1) ⇑0) (dIx (B2 1) ⇑1))) (spR b) [some (.opq 0),‹prD (size z)›,none] [ob ws (k+1)]=some (cpF bad 2 0 [some (.opq 0),‹prD (size z)›,none] [ob ws (k+1)] (tks r ((size z).1*(size z).2),ob ws k')):=by
   unfold bf0;show((P4 (A3 J3 (dIx (B2 1) ⇑0) (dIx (B2 1) ⇑1)) [none,‹prD (size z)›,none]).bind _)=_;rw[rn];show((cpX (spR b) 100000 (ob ws (k+1)) _).map _)=_;rw[c];rfl
  rw[show sheet (z::r)=if(size z).1*(size z).2<=r.length then some ((size z).1,(size z).2,(r.take ((size z).1*(size z).2)).map spot) else none from rfl];by_cases q:(size z).1*(size z).2<=r.length
  ·rw[if_pos q];unfold tks at u;rw[if_pos q]at u;refine(B5 u).trans ?_;show some (UF.rt (PyData.tuple [.int (size z).1,.int (size z).2,.tuple _]) _)=_;rw[show shO (some ((size z).1,(size z).2,(r.take ((size z).1*(size z).2)).map spot))=F1 ((size z).1,(size z).2,(r.take ((size z).1*(size z).2)).map spot) from rfl,F1,aV];rfl
  ·rw[if_neg q];unfold tks at u;rw[if_neg q]at u;exact W6 u
end Lk92
namespace Lk92
open PySem G L2 Sh
def au9(s:Sr):Bool:=decide (0 < s.2)&&decide (s.1<=s.2)&&bR s.1 s.2==1
theorem bK9(s:Sr):T4 [prD s]=some (.bool (au9 s)):=by
 obtain⟨a,b⟩:=s;have e:=bx7 a b;refine D1 (ρ:=[‹prD (a,b)›,none,none]) rfl ?_;unfold au9;dsimp only;by_cases h1:0 < b
 ·have d0:(0:Int) < b:=by omega
  by_cases h2:a<=b
  ·have n0:(0:Int)<=a:=by omega
   have nd:(a:Int)<=b:=by omega
   have g:((bR a b:Int)==1)=(bR a b==1):=by rw[cR,beq_iff_eq,beq_iff_eq];omega
   wp_walk using evD,T3,bn9,bb2,V2,d0,n0,nd,h1,h2,decide_true,e,g,bu
  ·have n0:(0:Int)<=a:=by omega
   have nd:¬(a:Int)<=b:=by omega
   wp_walk using evD,T3,bn9,bb2,V2,d0,n0,nd,h1,h2,decide_true,decide_false,cC,bv
 ·have d0:¬(0:Int) < b:=by omega
  wp_walk using evD,T3,bn9,bb2,V2,d0,h1,decide_false,bv
def atM(x c:Sr):Bool:=decide (x.1*c.2<=c.1*x.2)
theorem ck2{x c:Sr}(hx:Bs7 x)(hc:Bs7 c):K4 [prD x,prD c]=some (.bool (atM x c)):=by
 have sm:∀{n:Nat},n < 10 ^ 7->D6 (n:Int):=λh=>M0 (k:=30) (by omega) (by decide)
 have m1:=N9 (sm hx.1) (sm hc.2);have m2:=N9 (sm hc.1) (sm hx.2);refine D1 (ρ:=[‹prD x›,‹prD c›]) rfl ?_
 have e:decide ((x.1:Int)*c.2<=c.1*x.2)=atM x c:=by
  unfold atM;rw[decide_eq_decide,← bB,← bB];omega
 wp_walk using evD,N3,m1,m2,e
def an7:List Sr->Bool
 | [c,x,y,z]=>au9 c&&au9 x&&au9 y&&au9 z&&(atM x c&&atM y c&&atM z c)
 | _=>false
theorem bH9{xs:List D}(h:xs.length≠4)(hl:xs.length<=1000):O4 [.tuple xs]=some (.bool false):=by
 refine D1 (ρ:=[‹.tuple xs›]) rfl ?_
 have e:neD (.int xs.length) (.int 4)=some (.bool true):=by
  rw[cd8]
  congr 2
  simp;omega
 have z:xs.length<=16777216:=by omega
 wp_walk using evD,W0,if_pos z,e
theorem ck0{l:List Sr}(hl:l.length<=1000)(hb:∀s∈l,Bs7 s):O4 [spD l]=some (.bool (an7 l)):=by
 by_cases h:l.length=4
 ·match l,h with
  | [c,x,y,z],_ =>
   have sh:=S7 (caps:=[]) (src:=L3 (A1 0)) (e:=A6 T4 (A0 (A1 0) A4)) (ρ:=[‹spD [c,x,y,z]›]) (l:=[c,x,y,z]) (h:=prD) (f:=λs=>.bool (au9 s)) (r:=[]) rfl rfl (show 4<=1000 by decide) λs _=>by wp_walk using evD,bK9
   have am:=S7 (caps:=[0]) (src:=L3 (ax6 (A1 0) (K6 ⇑1) L0)) (e:=A6 K4 (A0 (A1 0) (A0 (dIx (B2 1) ⇑0) A4))) (ρ:=[‹spD [c,x,y,z]›]) (l:=[x,y,z]) (h:=prD) (f:=λs=>.bool (atM s c)) (r:=[‹spD [c,x,y,z]›]) rfl rfl (show 3<=1000 by decide) λs hs=>by
    have:=ck2 (hb s (ai _ hs)) (hb c (by simp));show(K4 [prD s,prD c])=_;rw[this]
   have a1:=V7 au9 [c,x,y,z];have a2:=V7 (λs=>atM s c) [x,y,z];simp only[xmc,xmn]at a1 a2;refine D1 (ρ:=[‹spD [c,x,y,z]›]) rfl ?_;have e4:neD (.int ([prD c,prD x,prD y,prD z]:List D).length) (.int 4)=some (.bool false):=rfl;cases q:[c,x,y,z].all au9 with
   | false =>
    rw[q]at a1
    have:an7 [c,x,y,z]=false:=by
     simp only[aL,List.all_nil,de]at q;rw[← cD,← cD]at q;show(_&&_)=_;rw[q];rfl
    rw[this]
    wp_walk using evD,W0,sh,a1,ce8,bb4
   | true =>
    rw[q]at a1
    have:an7 [c,x,y,z]=[x,y,z].all λs=>atM s c:=by
     simp only[aL,List.all_nil,de]at q ⊢;rw[← cD,← cD]at q;show(_&&_)=_;rw[q,bu,cD]
    rw[this]
    wp_walk using evD,W0,sh,a1,am,a2,ce8,bb4
 ·have e:an7 l=false:=by
   unfold an7;split
   ·exact absurd rfl h
   ·rfl
  rw[e];exact bH9 (by rw[ak];exact h) (by rw[ak];exact hl)
def ok8(n:Nat):Bool:=decide (1<=n)&&decide (n<=8)
theorem bs6(n:Nat):W4 [.int n]=some (.bool (ok8 n)):=by
 refine D1 (ρ:=[‹.int n›]) rfl ?_;unfold ok8;by_cases h1:1<=n
 ·have a:(1:Int)<=n:=by omega
  have e:decide ((n:Int)<=8)=decide (n<=8):=by rw[decide_eq_decide];omega
  wp_walk using evD,j8,V2,a,h1,decide_true,e,bu
 ·have a:¬(1:Int)<=n:=by omega
  wp_walk using evD,j8,V2,a,h1,decide_false,bv
theorem bK8(t:Sht):Y7 [F1 t]=some (.bool (ok8 t.1&&ok8 t.2.1)):=by
 have s1:=bs6 t.1;have s2:=bs6 t.2.1;have l3:((([eL t.1,.int t.2.1,.tuple (t.2.2.map spD)]:List D).length:Nat):Int)=3:=rfl;have b3:((3:Int)==3)=true:=rfl;refine D1 (ρ:=[‹F1 t›]) rfl ?_;cases q:ok8 t.1 with
 | false =>
  rw[q]at s1
  wp_walk using evD,T1,l3,b3,s1,bv
 | true =>
  rw[q]at s1;cases q2:ok8 t.2.1 with
  | false =>
   rw[q2]at s2
   wp_walk using evD,T1,l3,b3,s1,s2,cC
  | true =>
   rw[q2]at s2
   wp_walk using evD,T1,l3,b3,s1,s2,de
def ak6(t:Sht):Bool:=ok8 t.1&&ok8 t.2.1&&(t.2.2.length==t.1*t.2.1&&t.2.2.all an7)
structure Bt (t:Sht):Prop where
 l:t.2.2.length<=1000
 p:∀l∈t.2.2,l.length<=1000/\∀s∈l,Bs7 s
theorem aT9{t:Sht}(h:Bt t):O5 [F1 t]=some (.bool (ak6 t)):=by
 have sd:=bK8 t;refine D1 (ρ:=[‹F1 t›,none]) rfl ?_;unfold ak6;cases q:ok8 t.1&&ok8 t.2.1 with
 | false =>
  rw[q]at sd
  wp_walk using evD,T2,sd,bv
 | true =>
  rw[q]at sd;simp only[ah,ok8,decide_eq_true_eq]at q;have m:=S8 (i:=t.1) (j:=t.2.1) (by omega) (by omega);have z:(t.2.2.map spD).length<=16777216:=by rw[ak];have:=h.l;omega
  have e:(((t.2.2.map spD).length:Int)==((t.1*t.2.1:Nat):Int))=(t.2.2.length==t.1*t.2.1):=by rw[cR,beq_iff_eq,beq_iff_eq,ak];omega
  have n:=S7 (caps:=[]) (src:=L3 (A1 1)) (e:=A6 O4 (A0 (A1 0) A4)) (ρ:=[‹F1 t›,‹.tuple (t.2.2.map spD)›]) (l:=t.2.2) (h:=spD) (f:=λl=>.bool (an7 l)) (r:=[]) rfl rfl h.l λl hl=>by wp_walk using evD,ck0 (h.p l hl).1 (h.p l hl).2
  have a:=V7 an7 t.2.2;cases q2:t.2.2.length==t.1*t.2.1 with
  | false =>
   rw[q2]at e
   wp_walk using evD,T2,sd,if_pos z,m,e,bu,bv
  | true =>
   rw[q2]at e
   wp_walk using evD,T2,sd,if_pos z,m,e,n,a,bu
def lt(c:Nat):Bool:=decide (97<=c/\c<=122)
def X2(w:Str):Bool:=decide (1<=w.length)&&decide (w.length<=6)&&(cl w).all lt
theorem ck1(hw:Bw w):W5 [.str w]=some (.bool (X2 w)):=by
 obtain⟨al,nc⟩:=aB2 (x := "abcdefghijklmnopqrstuvwxyz") (p:=lt) (by decide +kernel) hw;have z:w.length<=16777216:=by have:=hw.l;omega
 refine D1 (ρ:=[‹.str w›]) rfl ?_;unfold X2;by_cases h1:1<=w.length
 ·have a:(1:Int)<=w.length:=by omega
  by_cases h2:w.length<=6
  ·have b:(w.length:Int)<=6:=by omega
   wp_walk using evD,j9,V3,if_pos z,nc,al,a,b,h1,h2,decide_true,bu
  ·have b:¬(w.length:Int)<=6:=by omega
   wp_walk using evD,j9,V3,if_pos z,a,b,h1,h2,decide_true,decide_false,cC,bv
 ·have a:¬(1:Int)<=w.length:=by omega
  wp_walk using evD,j9,V3,if_pos z,a,h1,decide_false,bv
theorem aG1{r:List Str}(hb:∀p∈r,Bw p)(hl:r.length<=1000)(h:sheet r=some t):Bt t:=by
 cases r with
 | nil=>cases h
 | cons z r =>
  rw[show sheet (z::r)=if(size z).1*(size z).2<=r.length then some ((size z).1,(size z).2,(r.take ((size z).1*(size z).2)).map spot) else none from rfl]at h;split at h
  ·cases h;refine⟨by rw[ak,bI];simp at hl;omega,λl hl=>?_⟩;obtain⟨p,hp,rfl⟩:=aE.mp hl;have bp:=hb p (ai _ (List.mem_of_mem_take hp));obtain⟨b1,b2⟩:=V5 bp 58;refine⟨by unfold spot;rw[ak];exact b2,λs hs=>?_⟩;obtain⟨v,hv,rfl⟩:=aE.mp hs;exact bh4 (b1 v hv)
  ·cases h
def line(l:Str):Option (Str×Sht):=match ws l 32 with
 | []=>none
 | n::r=>(sheet r).bind λt=>bif X2 n&&ak6 t then some (n,t) else none
def okL(l:Str):Bool:=match ws l 32 with
 | []=>false
 | n::r=>okT r&&X2 n&&(match sheet r with|some t=>ak6 t|none=>false)
def fo(m:List (D×D))(b f:List D):Fo:=⟨true,[("sheets", .dic m),("steps_back", .lst b),("steps_forth", .lst f)]⟩
section
variable {m:List (D×D)}{b f:List D}{ρ:Rho}{q:Fs}{i j:Nat}
theorem fD(hs:ρ[i]? = some (some (.opq j)))(hq:q[j]? = some (fo m b f)):aw9 i true "sheets" ρ q=some (j,fo m b f,m):=by unfold aw9;rw[a6 hs hq];kernel_rfl
theorem fB(hs:ρ[i]? = some (some (.opq j)))(hq:q[j]? = some (fo m b f)):aL6 i true "steps_back" ρ q=some (j,fo m b f,b):=by unfold aL6;rw[a6 hs hq];kernel_rfl
theorem fF(hs:ρ[i]? = some (some (.opq j)))(hq:q[j]? = some (fo m b f)):aL6 i true "steps_forth" ρ q=some (j,fo m b f,f):=by unfold aL6;rw[a6 hs hq];kernel_rfl
theorem pS'(m':List (D×D)):(⟨(fo m b f).k,Q6 "sheets" (.dic m') (fo m b f).l⟩:Fo)=fo m' b f:=by kernel_rfl
theorem pB(b':List D):(⟨(fo m b f).k,Q6 "steps_back" (.lst b') (fo m b f).l⟩:Fo)=fo m b' f:=by kernel_rfl
theorem pF(f':List D):(⟨(fo m b f).k,Q6 "steps_forth" (.lst f') (fo m b f).l⟩:Fo)=fo m b f':=by kernel_rfl
theorem bP9:(fo m b f).k=true/\((fo m b f).l.lookup ("set_sheet" : Str)).isNone=true:=⟨rfl,by kernel_rfl⟩
theorem cd9:(fo m b f).k=true/\((fo m b f).l.lookup ("take_step" : Str)).isNone=true:=⟨rfl,by kernel_rfl⟩
theorem cu1:(fo m b f).k=true/\((fo m b f).l.lookup ("lay" : Str)).isNone=true:=⟨rfl,by kernel_rfl⟩
theorem av5:(fo m b f).k=true/\((fo m b f).l.lookup ("fetch" : Str)).isNone=true:=⟨rfl,by kernel_rfl⟩
theorem u7:(fo m b f).k=true/\((fo m b f).l.lookup ("names" : Str)).isNone=true:=⟨rfl,by kernel_rfl⟩
theorem bm6:(fo m b f).k=true/\((fo m b f).l.lookup ("counts" : Str)).isNone=true:=⟨rfl,by kernel_rfl⟩
theorem bm5:ag2 true ai3 A4 ρ=some (fo [] [] []):=by kernel_rfl
theorem bh5(w:Str)(d:List D)(l:m.length < 1000):U2 (fo m b f) [none,some (.str w),some (.tuple d)]=some (.none,fo (ak1 m w (.tuple d)) b f):=by
 refine aj7 (ρ:=[some (.opq 0),‹.str w›,‹.tuple d›]) (q:=[]) rfl ((v7 (q':=[fo m b f]) rfl).trans ?_);unfold by2;rw[fD (j:=0) (m:=m) (b:=b) (f:=f) rfl rfl];show(if m.length < 1000 then some (UF.nx _ (List.set [fo m b f] 0 ⟨(fo m b f).k,Q6 "sheets" (.dic (ak1 m w (.tuple d))) (fo m b f).l⟩)) else none)=_;rw[if_pos l,pS'];rfl
end
def bF0(m:List (D×D))(l:Str):List (D×D):=match line l with
 | some (n,t)=>ak1 m n (F1 t)
 | none=>m
theorem bd1{ρ:Rho}{x:Str}{ws:List Str}(h1:A1 1 ρ=some (.str x))(h2:txS x (sg 32)=some (.list (sD ws))):ag2 false Y3 (A0 (A1 1) A4) ρ=some (ob ws 0):=by
 have e:Y3 ⟨false,[]⟩ [none,some (.str x)]=some (.none,ob ws 0):=by
  have e0:dTx txS (A1 1) (dC (.str " ")) [none,‹.str x›]=some (.list (sD ws)):=by
   rw[bl_,bf3 (a:=x) (y:=sg 32) rfl rfl,h2]
  refine aj7 (ρ:=[some (.opq 0),‹.str x›]) (q:=[]) rfl ?_;unfold g7;refine(B5 (ρ':=[some (.opq 0),‹.str x›]) (q':=[⟨false,[("words", .frz (.list (sD ws)))]⟩]) ?_).trans ?_
  ·unfold ae0;rw[N8 e0];rfl
  ·unfold ae0
   kernel_rfl
 unfold ag2;simp only[A0,A4,h1,xbs,xms,xmc,xmn,e]
theorem bZ1{m:List (D×D)}{bk ff:List D}(hw:Bw l)(hm:m.length < 1000)(h:b=true\/okL l=true):G8 b (fo m bk ff) [none,some (.str l)]=some (.none,fo (bF0 m l) bk ff):=by
 obtain⟨bw,bl⟩:=V5 hw 32;have w0:ag2 false Y3 (A0 (A1 1) A4) [none,‹.str l›,none,none,none]=some (ob (ws l 32) 0):=bd1 rfl (bW3 hw 32);unfold bF0 line;unfold okL at h;have ne:=(i7 l 32).2.2;generalize hv:ws l 32=vs at *;cases vs with
 | nil=>exact(ne rfl).elim
 | cons n r =>
 dsimp only at h ⊢;have nm:=ck1 (bw n (by simp));obtain⟨k',rs⟩:=bZ0 (ws:=n::r) (k:=1) (b:=b) (r:=r) rfl (by simp) (λp hp=>bw p (ai _ hp)) (by simp at bl;omega) (h.imp id λh=>by simp only[ah]at h;exact h.1.1)
 have first:∀g:UX,E1 (as7 2 (ag2 false Y3 (A0 (A1 1) A4))) (E1 (kz b .none 3 (uM0 2 false "take_word" (E6 b))) g) [some (.opq 0),‹.str l›,none,none,none] [fo m bk ff]=g [some (.opq 0),‹.str l›,some (.opq 1),‹.str n›,none] [fo m bk ff,ob (n::r) 1]:=λg=>by
  refine(B5 (ρ':=[some (.opq 0),‹.str l›,some (.opq 1),none,none]) (q':=[fo m bk ff,ob (n::r) 0]) ?_).trans ?_
  ·unfold as7;show(ag2 false Y3 (A0 (A1 1) A4) [none,‹.str l›,none,none,none]).map _=_;rw[w0];rfl
  exact B5 (aS9 (tk (j:=1) (ws:=n::r) (k:=0) (w:=n) (r:=r) rfl rfl rfl) rfl)
 unfold G8 K9;rw[show O6 5 [none,some (.str l)]=[some (.opq 0),‹.str l›,none,none,none] from rfl];unfold ag1;rw[first];have ud:uD 2 (M9 b) (mO mN) [some (.opq 0),‹.str l›,some (.opq 1),‹.str n›,none] [fo m bk ff,ob (n::r) 1]=some (shO (sheet r),[fo m bk ff,ob (n::r) k']):=aA4 (j:=1) (ms:=[none]) rfl rfl rfl rs;cases hs:sheet r with
 | none =>
  rw[hs]at ud h;obtain rfl:b=true:=h.elim id λh=>by simp at h
  rw[W6 (aK1 ud)];rfl
 | some t =>
  rw[hs]at ud h;have it:=aT9 (aG1 (λp hp=>bw p (ai _ hp)) (by simp at bl;omega) hs);rw[B5 (aS9 ud rfl)]
  have tst:uTP (Z8 (K5 (S4 (A6 W5 (A0 (A1 3) A4)))) (K5 (S4 (A6 O5 (A0 (A1 4) A4))))) [some (.opq 0),‹.str l›,some (.opq 1),‹.str n›,‹F1 t›] [fo m bk ff,ob (n::r) k']=some (!(X2 n&&ak6 t),[fo m bk ff,ob (n::r) k']):=by
   unfold uTP;show(Z8 (K5 (S4 (A6 W5 (A0 (A1 3) A4)))) (K5 (S4 (A6 O5 (A0 (A1 4) A4)))) [none,‹.str l›,none,‹.str n›,‹F1 t›]).map _=_;cases e1:X2 n with
   | false=>rw[e1]at nm;wp_walk using evD,nm,bv
   | true=>rw[e1]at nm;wp_walk using evD,nm,it,bu
  show(((E1 (uIf (uTP _) _ _) _ [some (.opq 0),‹.str l›,some (.opq 1),‹.str n›,‹F1 t›] [fo m bk ff,ob (n::r) k'])).bind _)=_;dsimp only[Option.bind];cases q:X2 n&&ak6 t with
  | false =>
   rw[q]at tst
   obtain rfl:b=true:=h.elim id λh=>by
    simp only[ah]at h;rw[h.1.2,h.2]at q;cases q
   rw[W6 ((bs5 tst).trans rfl)];rfl
  | true =>
   rw[q]at tst;rw[B5 ((v7 tst).trans rfl),aj0 (ap0 (j:=0) (ds:=[.str n,F1 t]) rfl rfl bP9 rfl (bh5 (b:=bk) (f:=ff) n _ hm))];rfl
end Lk92
namespace Lk92
open PySem G L2 Sh PyProof.Rows PySem.Spec PySem.W
theorem av1{n:Nat}(h:n < 10 ^ 7):okN (nt n)=true/\num (nt n)=n:=by
 have a:=bm0 (ac1 h)
 have o:okN (nt n)=true:=by
  unfold okN;rw[decide_eq_true ⟨a.l1,by have:=a.l2;omega⟩,bu,aO];exact λc hc=>decide_eq_true (a.d c hc)
 refine⟨o,?_⟩;unfold num;rw[o,ar4];exact PySem.W.KIN.val_back n
theorem bP7{n c:Nat}(h:n < 10 ^ 7)(hc:c < 48\/57 < c):c∉cl (nt n):=Al.no (aq0 h) (by omega)
theorem ap4{s:Sr}(h:Bs7 s):okS (shT s)=true/\share (shT s)=s:=by
 obtain⟨o1,e1⟩:=av1 h.1;obtain⟨o2,e2⟩:=av1 h.2;have n1:=bP7 (c:=47) h.1 (by decide);unfold shT okS share;by_cases d:s.2=1
 ·rw[if_pos d,aR8 _ _ n1];dsimp only;rw[o1,e1,show(eT==sg 47)=false by decide +kernel];exact⟨rfl,by show(s.1,1)=s;rw[← d]⟩
 ·rw[if_neg d,au7 _ _ _ n1];dsimp only;rw[o1,o2,e1,e2,beq_self_eq_true];exact⟨rfl,rfl⟩
theorem bg8{l:List Sr}(hn:l≠[])(h:∀s∈l,Bs7 s):okP (spT l)=true/\spot (spT l)=l:=by
 have e:ws (spT l) 58=l.map shT:=O9 58 (by simpa using hn) λw hw=>by
  obtain⟨s,hs,rfl⟩:=aE.mp hw;exact(at6 (h s hs)).1.no (by decide)
 unfold okP spot;rw[e,aV];refine⟨?_,?_⟩
 ·rw[aO];intro w hw;obtain⟨s,hs,rfl⟩:=aE.mp hw;exact(ap4 (h s hs)).1
 ·refine(bc λs hs=>?_).trans (List.map_id l);exact(ap4 (h s hs)).2
theorem bh2{w h:Nat}(hw:w < 10 ^ 7)(hh:h < 10 ^ 7):okZ (szT w h)=true/\size (szT w h)=(w,h):=by
 obtain⟨o1,e1⟩:=av1 hw;obtain⟨o2,e2⟩:=av1 hh;unfold okZ size szT;rw[au7 _ _ _ (bP7 hw (by decide))];dsimp only;rw[o1,o2,e1,e2];exact⟨rfl,rfl⟩
structure Gs (t:Sht):Prop where
 k:ak6 t=true
 p:∀l∈t.2.2,∀s∈l,Bs7 s
theorem aC5{l:List Sr}(h:an7 l=true):l.length=4:=by
 unfold an7 at h;split at h
 ·rfl
 ·cases h
theorem Gs.wt(h:Gs t):Wt t/\t.2.2.length=t.1*t.2.1/\∀l∈t.2.2,l.length=4:=by
 have k:=h.k;unfold ak6 ok8 at k;simp only[ah,decide_eq_true_eq,beq_iff_eq,aO]at k;obtain⟨⟨⟨k1,k2⟩,k3,k4⟩,k5,k6⟩:=k;have m:t.1*t.2.1<=64:=bL k2 k4;exact⟨⟨by omega,by omega,by omega,λl hl=>⟨by rw[aC5 (k6 l hl)];exact aj _,h.p l hl⟩⟩,k5,λl hl=>aC5 (k6 l hl)⟩
theorem ak9(h:X2 n=true):Nmw n:=by
 unfold X2 at h;simp only[ah,decide_eq_true_eq,aO]at h;exact⟨λc hc=>by have:=of_decide_eq_true (h.2 c hc);exact⟨by omega,this.2⟩,h.1.2⟩
theorem aD7(hn:X2 n=true)(h:Gs t):okL (lnT n t)=true/\line (lnT n t)=some (n,t):=by
 obtain⟨W,hl,h4⟩:=h.wt;have e:ws (lnT n t) 32=lw n t:=O9 32 (by simp) λw hw=>((aS6 (ak9 hn) W).1 w hw).1.no (by decide)
 obtain⟨z1,z2⟩:=bh2 W.w W.h;have hs:∀l∈t.2.2,okP (spT l)=true/\spot (spT l)=l:=λl hl=>bg8 (λq=>by have:=h4 l hl;rw[q]at this;cases this) (h.p l hl)
 have sh:sheet (wt t)=some t:=by
  rw[show sheet (wt t)=if(size (szT t.1 t.2.1)).1*(size (szT t.1 t.2.1)).2<=(t.2.2.map spT).length then some ((size (szT t.1 t.2.1)).1,(size (szT t.1 t.2.1)).2,((t.2.2.map spT).take ((size (szT t.1 t.2.1)).1*(size (szT t.1 t.2.1)).2)).map spot) else none from rfl,z2];dsimp only;rw[ak,hl,if_pos (aj _),← hl,bQ (by simp),aV];rw[show t.2.2.map (spot ∘ spT)=t.2.2 from(bc λl hl=>(hs l hl).2).trans (List.map_id _)]
 have ot:okT (wt t)=true:=by
  show(okZ (szT t.1 t.2.1)&&decide (_<=(t.2.2.map spT).length)&&_)=true;rw[z1,z2];dsimp only;rw[ak,hl,decide_eq_true (aj _),← hl,bQ (by simp),bu,bu,aO];intro w hw;obtain⟨l,hl,rfl⟩:=aE.mp hw;exact(hs l hl).1
 unfold okL line;rw[e];dsimp only;rw[ot,sh,hn];dsimp only[Option.bind];rw[h.k];exact⟨rfl,rfl⟩
abbrev En:=Str×Sht
def dE(e:En):D×D:=(.str e.1,F1 e.2)
abbrev dD(es:List En):List (D×D):=es.map dE
def ak0(es:List En)(n:Str)(t:Sht):List En:=if es.any (λe=>e.1==n) then es.map (λe=>if e.1==n then(e.1,t) else e) else es++[(n,t)]
theorem bi3(es:List En)(n:Str)(t:Sht):ak1 (dD es) n (F1 t)=dD (ak0 es n t):=by
 unfold ak1 ak0;rw[List.any_map,show Q3 n ∘ dE=λe:En=>e.1==n from rfl];cases es.any λe=>e.1==n
 ·simp[dE]
 ·rw[if_pos rfl,if_pos rfl,dD,dD,aV,aV];refine bc λe _=>?_
  show(if e.1==n then((dE e).1,F1 t) else dE e)=dE (if e.1==n then(e.1,t) else e);cases e.1==n<;>rfl
structure Ge (e:En):Prop where
 n:X2 e.1=true
 s:Gs e.2
theorem bE9(es:List En)(n:Str)(t:Sht):(ak0 es n t).length<=es.length+1:=by
 unfold ak0;split
 ·rw[ak];omega
 ·simp
theorem bZ6{es:List En}(h:∀e∈es,Ge e)(hn:X2 n=true)(ht:Gs t):∀e∈ak0 es n t,Ge e:=by
 unfold ak0;split
 ·intro e he;obtain⟨e0,h0,rfl⟩:=aE.mp he;split
  ·exact⟨(h e0 h0).n,ht⟩
  ·exact h e0 h0
 ·intro e he;rcases aQ.mp he with q|q
  ·exact h e q
  ·rw[aN.mp q];exact⟨hn,ht⟩
theorem bC9(es:List En)(h:es.length < 64):∃ns:List Str,an5 ((dD es).map (·.1))=some (sD ns)/\ns.length<=64/\∀n∈ns,∃e∈es,e.1=n:=by
 have ek:(dD es).map (·.1)=sD (es.map (·.1)):=by rw[aV,sD,aV];rfl
 rw[ek];unfold an5;have ln:(sD (es.map (·.1))).length=es.length:=by simp
 split
 ·exact⟨es.map (·.1),rfl,by rw[ak];omega,λn hn=>by obtain⟨e,he,rfl⟩:=aE.mp hn;exact⟨e,he,rfl⟩⟩
 ·rename_i h2;rw[if_pos (by omega)];have lo:=aN1 (ltS (sD (es.map (·.1)))) (aQ0 (n:=(sD (es.map (·.1))).length) (by omega));generalize evT (ltS (sD (es.map (·.1)))) (kas_sort (sD (es.map (·.1))).length)=a at lo;refine⟨a.toList.map λi=>(es.map (·.1)).getD i eT,?_,by rw[ak,bj,lo.1];omega,λn hn=>?_⟩
  ·refine congrArg some ?_;show _=(a.toList.map _).map eN;rw[aV (l:=a.toList)];refine bc λi hi=>?_
   have hi:=lo.2 i (by simpa using hi);rw[ln]at hi;simp[List.getD,hi]
  ·obtain⟨i,hi,rfl⟩:=aE.mp hn;have hi:=lo.2 i (by simpa using hi);rw[ln]at hi;exact⟨es[i],cq hi,by simp[List.getD,hi]⟩
end Lk92
namespace Lk92
open PySem G L2 Sh
def lk(es:List En)(n:Str):Sht:=((es.find? λe=>e.1==n).map (·.2)).getD (0,0,[])
theorem bI4{es:List En}{n:Str}(h:∃e∈es,e.1=n):F8 (dD es) n=some (F1 (lk es n))/\(n,lk es n)∈es:=by
 unfold F8 lk;rw[dD,List.find?_map,show Q3 n ∘ dE=λe:En=>e.1==n from rfl];cases q:es.find? λe=>e.1==n with
 | none =>
  obtain⟨e,he,e1⟩:=h;exact absurd (beq_iff_eq.mpr e1) (List.find?_eq_none.mp q e he)
 | some e =>
  have e1:=List.find?_some q;have e1:e.1=n:=beq_iff_eq.mp e1;refine⟨rfl,?_⟩;show(n,e.2)∈es;rw[← e1];exact List.mem_of_find?_eq_some q
def unS:D->Str
 | .str s=>s
 | _=>eT
def nsE(es:List En):List Str:=((an5 ((dD es).map (·.1))).getD []).map unS
theorem ak8(es:List En)(h:es.length < 64):an5 ((dD es).map (·.1))=some (sD (nsE es))/\(nsE es).length<=64/\∀n∈nsE es,∃e∈es,e.1=n:=by
 obtain⟨ns,e,l,m⟩:=bC9 es h
 have:nsE es=ns:=by
  unfold nsE;rw[e];show(ns.map eN).map unS=ns;rw[aV];exact(bc λ_ _=>rfl).trans (List.map_id ns)
 rw[this];exact⟨e,l,m⟩
def lns(es:List En):List Str:=(nsE es).map λn=>lnT n (lk es n)
abbrev txt(es:List En):Str:=gl 10 (lns es++[eT])
theorem ad2:∀ls:List Str,cat (ls.map (·++sg 10))=cl (gl 10 (ls++[eT]))
 | []=>rfl
 | x::r=>by
  have i:=ad2 r;rw[ar5]at i ⊢;show cl (x++sg 10)++cat (r.map (·++sg 10))=jl 10 (cl x::(r++[eT]).map cl);rw[i,J6,show cl (sg 10)=[10] from rfl];cases r with
  | nil=>simp[jl]
  | cons y r=>simp[jl]
section
variable {es:List En}{b f:List D}
abbrev Gl(es:List En):Prop:=(∀e∈es,Ge e)/\es.length < 64
theorem av7(h:Gl es){n:Str}(hn:n∈nsE es):X2 n=true/\Gs (lk es n)/\F8 (dD es) n=some (F1 (lk es n)):=by
 obtain⟨h1,h2⟩:=bI4 ((ak8 es h.2).2.2 n hn);exact⟨(h.1 _ h2).n,(h.1 _ h2).s,h1⟩
theorem aO5(h:Gl es):(∀v∈lns es++[eT],Al (λc=>32<=c/\c<=122) v/\v.length<=6630)/\(lns es++[eT]).length<=65:=by
 refine⟨λv hv=>?_,by unfold lns;simp;exact(ak8 es h.2).2.1⟩;rcases aQ.mp hv with q|q
 ·obtain⟨n,hn,rfl⟩:=aE.mp q;obtain⟨a,g,_⟩:=av7 h hn;exact bn8 (ak9 a) g.wt.1
 ·rw[aN.mp q];exact⟨(λc hc=>by simp[cl,eT]at hc),by decide⟩
theorem aH3(h:Gl es):Al (λc=>c < 128) (txt es)/\(txt es).length<=431015:=by
 obtain⟨w,l⟩:=aO5 h;exact⟨Al.gl (by decide) λv hv=>(w v hv).1.imp λc h=>by omega,aM (ac5 λv hv=>(w v hv).2) (aM (ce _ l) (by decide))⟩
theorem al8{m:List (D×D)}{n:Str}{d:D}(l:F8 m n=some d):R3 (fo m b f) [none,some (.str n)]=some (d,fo m b f):=by
 refine J0 (ρ:=[some (.opq 0),‹.str n›]) (q:=[]) rfl ?_;unfold as0;refine(B5 ((v7 (q':=[fo m b f]) (Z7 (aO3 ?_))).trans rfl)).trans (W7 (aO3 ?_))
 ·unfold vIn;rw[fD (j:=0) (m:=m) (b:=b) (f:=f) rfl rfl];show some (eM (!(F8 m n).isSome))=_;rw[l];rfl
 ·unfold aO0;rw[fD (j:=0) (m:=m) (b:=b) (f:=f) rfl rfl];exact l
theorem b0(h:Gl es):N1 (fo (dD es) b f) [none]=some (.list (sD (nsE es)),fo (dD es) b f):=by
 refine J0 (ρ:=[some (.opq 0)]) (q:=[]) rfl (W7 (aO3 ?_));unfold bz2;rw[fD (j:=0) (m:=dD es) (b:=b) (f:=f) rfl rfl];show(an5 ((dD es).map (·.1))).map PyData.list=_;rw[(ak8 es h.2).1];rfl
theorem bb7{m:List (D×D)}:an0 (fo m b f) [none]=some (.tuple [.int b.length,.int f.length],fo m b f):=by
 refine J0 (ρ:=[some (.opq 0)]) (q:=[]) rfl (W7 ?_);have t1:aA1 0 true "steps_back" [some (.opq 0)] [fo m b f]=some (.int b.length):=by unfold aA1;rw[fB (j:=0) (m:=m) (b:=b) (f:=f) rfl rfl];rfl
 have t2:aA1 0 true "steps_forth" [some (.opq 0)] [fo m b f]=some (.int f.length):=by unfold aA1;rw[fF (j:=0) (m:=m) (b:=b) (f:=f) rfl rfl];rfl
 simp only[bB5,ulC,uL,t1,t2,ulN,xbs,xms]
noncomputable abbrev lnW:UD:=P8 W1 (ulC (uP (A1 0)) (ulC (uM 1 true "fetch" R3 (A0 (A1 0) A4)) ulN))
theorem bw2(h:Gl es):∀l:List Str,(∀n∈l,n∈nsE es)->cpT lnW (fo (dD es) b f) (sD l)=some (sD ((l.map λn=>lnT n (lk es n)).map (·++sg 10)),fo (dD es) b f)
 | [],_=>rfl
 | n::l,hl=>by
  obtain⟨a,g,lo⟩:=av7 h (hl n (by simp));have i:=bw2 h l λj hj=>hl j (ai _ hj)
  have u:uM 1 true "fetch" R3 (A0 (A1 0) A4) [‹.str n›,some (.opq 0)] [fo (dD es) b f]=some (F1 (lk es n),[fo (dD es) b f]):=ap0 (j:=0) (ds:=[.str n]) rfl rfl av5 rfl (al8 lo)
  have c:lnW [‹.str n›,some (.opq 0)] [fo (dD es) b f]=some (.str (lnT n (lk es n)++sg 10),[fo (dD es) b f]):=by
   have v:uP (A1 0) [‹.str n›,some (.opq 0)] [fo (dD es) b f]=some (.str n,[fo (dD es) b f]):=rfl;unfold lnW P8;simp only[ulC,v,u,ulN,xbs,xms];show(W1 [.str n,F1 (lk es n)]).map _=_;rw[bT8 (ak9 a) g.wt.1];rfl
  show(lnW [‹.str n›,some (.opq 0)] [fo (dD es) b f]).bind _=_;rw[c];show(cpT _ (fo (dD es) b f) (sD l)).map _=_;rw[i,xmc,xmc];rfl
theorem bt5(h:Gl es):K3 (fo (dD es) b f) [none]=some (.str (txt es),fo (dD es) b f):=by
 have e1:uM0 0 true "names" N1 [some (.opq 0)] [fo (dD es) b f]=some (.list (sD (nsE es)),[fo (dD es) b f]):=S2 (j:=0) rfl rfl u7 (b0 h);have e2:=bw2 (b:=b) (f:=f) h (nsE es) λ_ h=>h
 have e3:uCp 0 (uM0 0 true "names" N1) lnW [some (.opq 0)] [fo (dD es) b f]=some (.list (sD ((lns es).map (·++sg 10))),[fo (dD es) b f]):=by
  unfold uCp;rw[e1,xbs];simp only[ce5,xbs];rw[a6 (j:=0) (o:=fo (dD es) b f) rfl rfl,xbs,if_pos (by rw[ak];exact aM (ak8 es h.2).2.1 (by decide)),e2];rfl
 have l:=(aH3 h).2;have gd:Builtin.Str.glued "" ((lns es).map (·++sg 10))=txt es:=p8 (by rw[aq9,ad2]);have jn:J7 "" ((lns es).map (·++sg 10))=(txt es).length:=by rw[aE3,ad2,C4]
 refine J0 (ρ:=[some (.opq 0)]) (q:=[]) rfl (W7 ?_);unfold uJn;rw[e3];show(Y8 (sD ((lns es).map (·++sg 10)))).bind _=_;rw[as9,xbs,if_pos ⟨by rw[jn];omega,by rw[gd];omega⟩,gd]
end
def stE(es:List En)(l:Str):List En:=match line l with
 | some (n,t)=>ak0 es n t
 | none=>es
def rdE(ls:List Str):List En:=ls.foldl stE []
theorem bZ5(es:List En)(l:Str):bF0 (dD es) l=dD (stE es l):=by
 unfold bF0 stE;cases line l with
 | none=>rfl
 | some e=>exact bi3 es e.1 e.2
theorem cr0{es:List En}(hw:Bw l)(h:∀e∈es,Ge e):(∀e∈stE es l,Ge e)/\(stE es l).length<=es.length+1:=by
 unfold stE;cases q:line l with
 | none=>exact⟨h,by show es.length<=_;omega⟩
 | some e =>
  refine⟨?_,bE9 es e.1 e.2⟩;unfold line at q;obtain⟨bw,bl⟩:=V5 hw 32;generalize ws l 32=vs at *;cases vs with
  | nil=>cases q
  | cons n r =>
   obtain⟨t,h1,h2⟩:=ae.mp q;cases c:X2 n&&ak6 t with
   | false=>rw[c]at h2;cases h2
   | true =>
    rw[c]at h2;cases h2;rw[ah]at c;have bt:=aG1 (λp hp=>bw p (ai _ hp)) (by simp at bl;omega) h1;exact bZ6 h c.1 ⟨c.2,λl hl=>(bt.p l hl).2⟩
theorem ax0{tx:D}:∀(ls:List Str) (es:List En) (x:Option B),(∀l∈ls,Bw l)->(∀e∈es,Ge e)->es.length+ls.length < 64->(b=true\/∀l∈ls,okL l=true)->∃x',Z5 (F4 2) (uEx (uD 1 (G8 b) (mO (mC (A1 2) mN)))) (sD ls) [‹tx›,some (.opq 0),x] [fo (dD es) [] []]=some (.nx [‹tx›,some (.opq 0),x'] [fo (dD (ls.foldl stE es)) [] []])/\Gl (ls.foldl stE es)
 | [],es,x,_,h,hl,_=>⟨x,rfl,h,by simp at hl;exact hl⟩
 | l::ls,es,x,hw,h,hl,hb=>by
  obtain⟨g,k⟩:=cr0 (hw l (by simp)) h;simp at hl;have e1:=bZ1 (b:=b) (m:=dD es) (bk:=[]) (ff:=[]) (hw l (by simp)) (by rw[ak];omega) (hb.imp id λh=>h l (by simp));rw[bZ5]at e1;obtain⟨x',e2,G⟩:=ax0 (tx:=tx) (b:=b) ls (stE es l) (‹.str l›) (λv hv=>hw v (ai _ hv)) g (by omega) (hb.imp id λh v hv=>h v (ai _ hv));refine⟨x',?_,G⟩;have u:uEx (uD 1 (G8 b) (mO (mC (A1 2) mN))) [‹tx›,some (.opq 0),‹.str l›] [fo (dD es) [] []]=some (.nx [‹tx›,some (.opq 0),‹.str l›] [fo (dD (stE es l)) [] []]):=aj0 (aA4 (j:=0) (ms:=[none,some (.str l)]) rfl rfl rfl e1);rw[sD,xmc];unfold Z5;show(uEx (uD 1 (G8 b) (mO (mC (A1 2) mN))) [‹tx›,some (.opq 0),‹.str l›] [fo (dD es) [] []]).bind _=_;rw[u];exact e2
end Lk92
namespace Lk92
open PySem G L2 Sh
theorem bw0(l:List D)(x:D):aa4 (l++[x]) none (some (-1))=l:=by
 have e:HT.sIx (l++[x]).length (l++[x]).length (some (-1))=l.length:=by
  rw[aG,cJ];unfold HT.sIx;simp
  try omega
 unfold aa4;rw[e,show HT.sIx (l++[x]).length 0 none=0 from rfl,Nat.sub_zero,dF,List.take_left]
abbrev lsT(t:Str):List Str:=(ws t 10).dropLast
abbrev esT(t:Str):List En:=rdE (lsT t)
theorem aY9(hw:Bw t){f:DE}{ρ:Rho}(hf:f ρ=some (.str t)):L3 (aF3 (dTx txS f (dC (.str "\n"))) L0 (K6 (aM3 ⇑1))) ρ=some (sD (lsT t)):=by
 have e:dTx txS f (dC (.str "\n")) ρ=some (.list (sD (ws t 10))):=by rw[nl_,bf3 hf rfl,bW3 hw]
 unfold L3 aF3;rw[e];show some (aa4 (sD (ws t 10)) none (some (-1)))=_;have ne:=(i7 t 10).2.2;rw[show ws t 10=lsT t++[(ws t 10).getLast ne] from(List.dropLast_concat_getLast ne).symm,sD,bN,List.map_singleton,bw0]
structure Tx (t:Str):Prop where
 w:Bw t
 n:(ws t 10).length<=60
theorem aw0{s:Str}{p:Nat->Prop}(h:Al p s)(i:∀c,p c->c < 0x110000):eO (.str s)=true:=by
 show s.cps.all (· < 0x110000)=true;rw[Array.all_eq_true'];intro c hc;exact decide_eq_true (i c (h c (cO.mpr hc)))
theorem av4{x y:Str}(h:Al (λc=>c < 128) x)(h2:Al (λc=>c < 128) y):neD (.str x) (.str y)=some (.bool (!(x==y))):=by
 have a:=aw0 h λc h=>by omega
 have b:=aw0 h2 λc h=>by omega
 cases q:x==y with
 | true=>exact aS3 a b (by rw[q])
 | false=>exact aS3 a b (by rw[q])
theorem aw8(h:Tx t)(hb:b=true\/∀l∈lsT t,okL l=true):Gl (esT t)/\∀{r:Option UF},(txt (esT t)=t->r=some (.ro 0 [fo (dD (esT t)) [] []]))->(txt (esT t)≠t->b=true/\r=some (.rt bad [fo (dD (esT t)) [] []]))->R4 b [‹.str t›,none,none] []=r:=by
 have hl:(lsT t).length<=59:=by rw[List.length_dropLast];have:=h.n;omega
 obtain⟨x',e,G⟩:=ax0 (b:=b) (tx:=.str t) (lsT t) [] none (λl hl=>(V5 h.w 10).1 l ((List.dropLast_sublist _).subset hl)) (λe he=>by cases he) (by simp;simp at hl;omega) hb;refine⟨G,λ{r} r1 r2=>?_⟩;have ne:=av4 (aH3 G).1 h.w.a;have tb:uTB (uB2 neD (uD 1 K3 (mO mN)) (uP (A1 0))) [‹.str t›,some (.opq 0),x'] [fo (dD (esT t)) [] []]=some (!(txt (esT t)==t),[fo (dD (esT t)) [] []]):=Z7 (l8 (aA4 (j:=0) (ms:=[none]) rfl rfl rfl (bt5 G)) rfl ne);unfold R4;refine(B5 (ρ':=[‹.str t›,some (.opq 0),none]) (q':=[fo [] [] []]) ?_).trans ?_
 ·unfold as7;rw[bm5];rfl
 refine(B5 (ρ':=[‹.str t›,some (.opq 0),x']) (q':=[fo (dD (esT t)) [] []]) ?_).trans ?_
 ·unfold aH2 iP;rw[aY9 h.w (show A1 0 (era [‹.str t›,some (.opq 0),none])=_ from rfl)];exact e
 by_cases q:txt (esT t)=t
 ·rw[r1 q];rw[beq_iff_eq.mpr q]at tb;exact(B5 ((v7 tb).trans rfl)).trans rfl
 ·obtain⟨rfl,r3⟩:=r2 q;rw[r3];rw[beq_eq_false_iff_ne.mpr q]at tb;exact W6 ((bs5 tb).trans rfl)
theorem bO9(h:Tx t):Gl (esT t):=(aw8 (b:=true) h (.inl rfl)).1
theorem aQ5(h:Tx t)(e:txt (esT t)=t):B7 false [.str t]=some (fo (dD (esT t)) [] []):=by
 have G:=bO9 h;have w:=aO5 G
 have ok:∀l∈lsT t,okL l=true:=by
  have sp:ws (txt (esT t)) 10=lns (esT t)++[eT]:=O9 10 (by simp) λv hv=>(w.1 v hv).1.no (by decide)
  rw[e]at sp;rw[lsT,sp,List.dropLast_concat];intro l hl;obtain⟨n,hn,rfl⟩:=aE.mp hl;obtain⟨a,g,_⟩:=av7 G hn;exact(aD7 a g).1
 have:=(aw8 (b:=false) h (.inr ok)).2 (λ_=>rfl) λq=>(q e).elim
 unfold B7 bD8;rw[show G9 3 [.str t]=[‹.str t›,none,none] from rfl,this];rfl
theorem cr5(h:Tx t)(e:txt (esT t)≠t):A8 true [.str t]=some bad:=by
 have:=(aw8 (b:=true) h (.inl rfl)).2 (λq=>(e q).elim) λ_=>⟨rfl,rfl⟩
 unfold A8 aI7;rw[show G9 3 [.str t]=[‹.str t›,none,none] from rfl,this];rfl
abbrev k8:D:=.tuple [.str "refused", .int 1]
theorem aO7(h:Tx t)(e:txt (esT t)≠t):L9 (A8 true) [.str t]=some k8:=by
 have r:rB (A8 true) [‹.str t›,none]=some (("NoText" : Str),([‹.str t›,none]:Rho)):=by
  unfold rB;show(match A8 true [.str t] with|some d=>bif P3 d then some (("NoText" : Str),([‹.str t›,none]:Rho)) else none|none=>none)=_;rw[cr5 h e];rfl
 unfold L9;refine D1 (ρ:=[‹.str t›,none]) rfl ?_;unfold ap5;rw[r];rfl
theorem aO8(h:Tx t)(e:txt (esT t)=t):L9 (A8 true) [.str t]=none:=by
 have g:=(aw8 (b:=true) h (.inl rfl)).2 (λ_=>rfl) λq=>(q e).elim
 have f:A8 true [.str t]=none:=by
  unfold A8 aI7;rw[show G9 3 [.str t]=[‹.str t›,none,none] from rfl,g];rfl
 have r:rB (A8 true) [‹.str t›,none]=none:=by
  unfold rB;show(match A8 true [.str t] with|some d=>bif P3 d then some (("NoText" : Str),([‹.str t›,none]:Rho)) else none|none=>none)=_;rw[f]
 unfold L9 G4 ap5;rw[show G9 2 [.str t]=[‹.str t›,none] from rfl,r];rfl
end Lk92
namespace Lk92
open PySem G L2 Sh
abbrev Bs3(s:Sr):Prop:=s.1 < 256/\s.2 < 256
structure Ls (t:Sht):Prop where
 g:Gs t
 w:t.1<=3
 h:t.2.1<=3
 p:∀l∈t.2.2,∀s∈l,Bs3 s
def prR(r:Rat):Sr:=(r.num.natAbs,r.den)
def prQ(q:Q4):List Sr:=[prR q.c,prR q.x,prR q.y,prR q.z]
theorem aR1{r:Rat}(h:Bd 8 r):prD (prR r)=fr r:=by
 show PyData.tuple [.int (r.num.natAbs:Int),.int (r.den:Int)]=.tuple [.int r.num,.int r.den];rw[← h.nat]
theorem cs1{q:Q4}(h:q.ok 8):spD (prQ q)=q.d:=by
 show PyData.tuple [prD (prR q.c),prD (prR q.x),prD (prR q.y),prD (prR q.z)]=_;rw[aR1 h.hc.bd,aR1 h.hx,aR1 h.hy,aR1 h.hz];rfl
theorem bO3{l:List Q4}(h:∀q∈l,q.ok 8)(x y:Nat):F1 (x,y,l.map prQ)=shD x y l:=by
 show PyData.tuple [.int x,.int y,.tuple ((l.map prQ).map spD)]=_;rw[aV,show l.map (spD ∘ prQ)=l.map Q4.d from bc λq hq=>cs1 (h q hq)];rfl
theorem cs2{q:Q4}(h:q.ok 8):∀s∈prQ q,Bs3 s:=by
 intro s hs;simp only[prQ,ax,aS,or_false]at hs;rcases hs with rfl|rfl|rfl|rfl
 ·exact⟨h.hc.bd.num,h.hc.bd.den⟩
 ·exact⟨h.hx.num,h.hx.den⟩
 ·exact⟨h.hy.num,h.hy.den⟩
 ·exact⟨h.hz.num,h.hz.den⟩
theorem cu4{l:List Q4}{x y:Nat}(S:ShOk 8 x y l)(hx:x<=3)(hy:y<=3):Ls (x,y,l.map prQ):=by
 have p:∀u∈l.map prQ,∀s∈u,Bs3 s:=λu hu=>by
  obtain⟨q,hq,rfl⟩:=aE.mp hu;exact cs2 (S.ok q hq)
 have b7:∀s,Bs3 s->Bs7 s:=λs h=>⟨cn h.1 (by decide),cn h.2 (by decide)⟩
 have l64:l.length<=64:=by rw[S.len];exact bL S.w8 S.h8
 have e:=aT9 (t:=(x,y,l.map prQ)) ⟨by show(l.map prQ).length<=1000;rw[ak];omega,λu hu=>⟨by obtain⟨q,_,rfl⟩:=aE.mp hu;show 4<=1000;decide,λs hs=>b7 s (p u hu s hs)⟩⟩;rw[bO3 S.ok,aE7 S (by decide)]at e
 have ok:ak6 (x,y,l.map prQ)=true:=by
  cases e':ak6 (x,y,l.map prQ) with
  | true=>rfl
  | false=>rw[e']at e;cases e
 exact⟨⟨ok,λu hu s hs=>b7 s (p u hu s hs)⟩,hx,hy,p⟩
theorem cl7{ns:List Int}(hn:ns.length<=63)(a:Nat)(ha:a < 1000):∃t:Sht,ab4 [scr ns,.int a]=some (F1 t)/\Ls t:=by
 obtain⟨d0,e0,l0⟩:=S9 ns a 3 hn (by omega) (by decide);obtain⟨d1,e1,l1⟩:=S9 ns (a+1) 3 hn (by omega) (by decide);have e1:B4 [scr ns,.int ((a:Int)+1),.int 3]=some (.int d1):=e1;have e0:B4 [scr ns,.int a,.int 3]=some (.int d0):=e0;obtain⟨l,el,S⟩:=aw1 ns (a+2) (1+d0) (1+d1) hn (by omega) (by omega) (by omega) (by omega) (by omega);have el:W2 [scr ns,.int ((a:Int)+2),.int ((1+d0:Nat):Int),.int ((1+d1:Nat):Int)]=some (shD (1+d0) (1+d1) l):=el;have k0:(1+(d0:Int))=((1+d0:Nat):Int):=by omega
 have k1:(1+(d1:Int))=((1+d1:Nat):Int):=by omega
 refine⟨(1+d0,1+d1,l.map prQ),D1 (ρ:=[‹scr ns›,‹.int a›]) rfl ?_,cu4 S (by omega) (by omega)⟩;rw[bO3 S.ok]
 wp_walk using evD,aW4,e0,e1,k0,k1,el
theorem aS7{n:Nat}(h:n < 10 ^ 7):n < tp:=cn h (by rw[Z6];decide +kernel)
theorem bR0{f:Rho->Option (Bool×List D)}{g:DE}{ρ:Rho}{q:Bool×List D}{i:Int}(h1:f ρ=some q)(h2:g ρ=some (.int i)):dIx f g ρ=atI q.2 i:=by unfold dIx;rw[h1,xbs,h2];rfl
theorem ce3{s:Sr}(h:Bs7 s):G5 [prD s]=some (.str (shT s)):=by
 have l1:=P9 h.1;have l2:=P9 h.2;obtain⟨c1,c2⟩:=bM4 (nt s.1) (nt s.2) 47 (by omega) (by omega);have s1:M7 (dIx (B2 0) ⇑0) [‹prD s›]=some (.str (nt s.1)):=ap3 (aS7 h.1) rfl;have s2:M7 (dIx (B2 0) ⇑1) [‹prD s›]=some (.str (nt s.2)):=ap3 (aS7 h.2) rfl
 have q:qN (A0 (A3 B8 (A3 B8 (M7 (dIx (B2 0) ⇑0)) (dC (.str "/"))) (M7 (dIx (B2 0) ⇑1))) (A0 (M7 (dIx (B2 0) ⇑0)) A4)) [‹prD s›]=some (false,[.str (nt s.1++sg 47++nt s.2),.str (nt s.1)]):=by
  have e:A3 B8 (A3 B8 (M7 (dIx (B2 0) ⇑0)) (dC (.str "/"))) (M7 (dIx (B2 0) ⇑1)) [‹prD s›]=some (.str (nt s.1++sg 47++nt s.2)):=by
   rw[D4 ((D4 s1 (show dC (.str "/") _=some (.str (sg 47)) by rw[sl_];rfl)).trans c1) s2,c2]
  refine bi1 ?_;unfold A0 A4;rw[e,s1];rfl
 refine D1 (ρ:=[‹prD s›]) rfl ?_
 have e:bb6 (A3 eqD (dIx (B2 0) ⇑1) ⇑1) [‹prD s›]=some (.int (if s.2=1 then 1 else 0)):=by
  unfold bb6;rw[D4 (x:=.int s.2) (y:=.int 1) rfl rfl,bL8];by_cases d:s.2=1
  ·rw[if_pos d,d];rfl
  ·rw[if_neg d,beq_eq_false_iff_ne.mpr (show(s.2:Int)≠1 by omega)];rfl
 unfold h9 D9;rw[bR0 q e];unfold shT;by_cases d:s.2=1
 ·rw[if_pos d,if_pos d];rfl
 ·rw[if_neg d,if_neg d];rfl
theorem ce4{n:Str}{t:Sht}(hn:Nmw n)(h:Wt t):i4 [.str n,F1 t]=some (.str (lnT n t++sg 10)):=by
 have l1:=P9 h.w;have l2:=P9 h.h;have l0:=h.l;have ll:=(bn8 hn h).2;obtain⟨w,l⟩:=aS6 hn h;obtain⟨c1,c2⟩:=bM4 (nt t.1) (nt t.2.1) 120 (by omega) (by omega)
 have sp:∀u∈t.2.2,d6 (dC (.str ":")) (qN (E4 1 [] (L3 (A1 0)) (F4 0) G7 (A6 G5 (A0 (A1 0) A4)))) [‹spD u›]=some (.str (spT u)):=λu hu=>by
  have n:=S7 (caps:=[]) (src:=L3 (A1 0)) (e:=A6 G5 (A0 (A1 0) A4)) (ρ:=[‹spD u›]) (l:=u) (h:=prD) (f:=λs=>.str (shT s)) (r:=[]) rfl rfl (by have:=(h.p u hu).1;omega) λs hs=>by wp_walk using evD,ce3 ((h.p u hu).2 s hs)
  refine aU9 co_ (by rw[bi1 n,sD,aV];rfl) (b:=15) (λw hw=>by obtain⟨s,hs,rfl⟩:=aE.mp hw;exact(at6 ((h.p u hu).2 s hs)).2) (by rw[ak];have:=(h.p u hu).1;omega)
 have c:=S7 (caps:=[]) (src:=L3 (dIx (B2 1) ⇑2)) (ρ:=[‹.str n›,‹F1 t›,none]) (e:=d6 (dC (.str ":")) (qN (E4 1 [] (L3 (A1 0)) (F4 0) G7 (A6 G5 (A0 (A1 0) A4))))) (l:=t.2.2) (h:=spD) (f:=λu=>.str (spT u)) (r:=[]) rfl rfl (by omega) sp;have s1:M7 (dIx (B2 1) ⇑0) [‹.str n›,‹F1 t›,‹.list (sD (t.2.2.map spT))›]=some (.str (nt t.1)):=ap3 (aS7 h.w) rfl;have s2:M7 (dIx (B2 1) ⇑1) [‹.str n›,‹F1 t›,‹.list (sD (t.2.2.map spT))›]=some (.str (nt t.2.1)):=ap3 (aS7 h.h) rfl
 have z:A3 B8 (A3 B8 (M7 (dIx (B2 1) ⇑0)) (dC (.str "x"))) (M7 (dIx (B2 1) ⇑1)) [‹.str n›,‹F1 t›,‹.list (sD (t.2.2.map spT))›]=some (.str (szT t.1 t.2.1)):=by
  rw[D4 ((D4 s1 (show dC (.str "x") _=some (.str (sg 120)) by rw[ex_];rfl)).trans c1) s2,c2];rfl
 have q:A3 B8 (N7 (A0 (A1 0) (A0 (A3 B8 (A3 B8 (M7 (dIx (B2 1) ⇑0)) (dC (.str "x"))) (M7 (dIx (B2 1) ⇑1))) A4))) (A1 2) [‹.str n›,‹F1 t›,‹.list (sD (t.2.2.map spT))›]=some (.list (sD (lw n t))):=by
  rw[D4 (x:=.list [.str n,.str (szT t.1 t.2.1)]) (y:=.list (sD (t.2.2.map spT))) (by unfold N7 A0;rw[z];rfl) rfl,ay5 (by simp;omega)];rfl
 have j:=aU9 (c:=32) (x := " ") (g:=qE (A3 B8 (N7 (A0 (A1 0) (A0 (A3 B8 (A3 B8 (M7 (dIx (B2 1) ⇑0)) (dC (.str "x"))) (M7 (dIx (B2 1) ⇑1))) A4))) (A1 2))) (ws:=lw n t) bl_ (by unfold qE;rw[q];rfl) (b:=64) (λv hv=>(w v hv).2) (aM (ce _ l) (by decide));refine D1 (ρ:=[‹.str n›,‹F1 t›,none]) rfl ?_;unfold aG5;refine(ab7 (ρ':=[‹.str n›,‹F1 t›,‹.list (sD (t.2.2.map spT))›]) ?_).trans ?_
 ·unfold ae2;rw[c,sD,aV];rfl
 ·unfold D9;rw[D4 j (show dC (.str "\n") _=some (.str (sg 10)) by rw[nl_];rfl),X9 (by rw[show(sg 10).length=1 from rfl];show(lnT n t).length+1<=_;omega)];rfl
end Lk92
namespace Lk92
open PySem G L2 Sh
def Rn(k:Nat)(l:List Nat):Prop:=∀w,w <:+: l->w.all dg=true->w.length<=k
theorem bs4{w X Y:List Nat}(h:w <:+: X++Y):∃a b,w=a++b/\a <:+: X/\b <:+: Y/\(a=[]\/b <+: Y):=by
 obtain⟨s,t,e⟩:=h;rw[aH]at e;rcases dh.mp e with⟨c,e1,e2⟩|⟨c,e1,e2⟩
 ·rcases dh.mp e2 with⟨d,f1,f2⟩|⟨d,f1,f2⟩
  ·exact⟨w,[],by simp,⟨s,d,by rw[e1,f1];simp⟩,⟨[],Y,rfl⟩,.inr ⟨Y,rfl⟩⟩
  ·exact⟨c,d,f1,⟨s,[],by rw[e1];simp⟩,⟨[],t,by rw[f2];rfl⟩,.inr ⟨t,f2.symm⟩⟩
 ·exact⟨[],w,rfl,⟨[],X,rfl⟩,⟨c,t,by rw[e2,aH]⟩,.inl rfl⟩
theorem Rn.app(h1:Rn j X)(h2:Rn k Y):Rn (j+k) (X++Y):=λw hw hd=>by
 obtain⟨a,b,rfl,ha,hb,_⟩:=bs4 hw;rw[List.all_append,ah]at hd;have:=h1 a ha hd.1;have:=h2 b hb hd.2;rw[aG];omega
theorem Rn.cut(h1:Rn k X)(h2:Rn k Y)(hc:dg c=false):Rn k (X++c::Y):=λw hw hd=>by
 obtain⟨a,b,rfl,ha,hb,z⟩:=bs4 hw;rw[List.all_append,ah]at hd
 have no:∀{b:List Nat},b <+: c::Y->b.all dg=true->b=[]:=λ{b} q hd=>by
  cases b with
  | nil=>rfl
  | cons x b =>
   obtain⟨t,e⟩:=q;cases e;rw[aL,hc]at hd;cases hd
 rcases z with rfl|z
 ·rcases cW.mp hb with q|q
  ·rw[no q hd.2];exact aU _
  ·exact h2 _ q hd.2
 ·rw[no z hd.2,aw];exact h1 a ha hd.1
theorem Rn.len{l:List Nat}(h:l.length<=k):Rn k l:=λw hw _=>aM hw.length_le h
theorem Rn.sub(h:Rn k l)(i:u <:+: l):Rn k u:=λw hw=>h w (hw.trans i)
theorem Rn.none{l:List Nat}(h:∀c∈l,dg c=false):Rn k l:=λw hw hd=>by
 cases w with
 | nil=>exact aU _
 | cons c w =>
  rw[aL,h c (hw.subset (by simp))]at hd;cases hd
theorem Rn.jl(hc:dg c=false):∀ws:List (List Nat),(∀w∈ws,Rn k w)->Rn k (jl c ws)
 | [],_=>Rn.len (aU _)
 | [x],h=>h x (by simp)
 | x::y::r,h=>(h x (by simp)).cut (Rn.jl hc (y::r) λw hw=>h w (ai _ hw)) hc
theorem Rn.gl{ws:List Str}(hc:dg c=false)(h:∀w∈ws,Rn k (cl w)):Rn k (cl (gl c ws)):=by
 rw[ar5];exact Rn.jl hc _ λw hw=>by obtain⟨v,hv,rfl⟩:=aE.mp hw;exact h v hv
theorem nt3{n:Nat}(h:n < 256):(nt n).length<=3:=by
 have:=(aC3 2 n (cn h (by decide))).1
 rwa [C4]at this
theorem nt1{n:Nat}(h:n<=3):(nt n).length=1:=by rw[← C4,bl9 (by omega)];rfl
theorem sh3{s:Sr}(h:Bs3 s):Rn 3 (cl (shT s))/\(shT s).length<=7:=by
 have l1:=nt3 h.1;have l2:=nt3 h.2;unfold shT;split
 ·exact⟨Rn.len (by rw[C4];exact l1),by omega⟩
 ·rw[J6,J6,aH];refine⟨Rn.cut (Y:=cl (nt s.2)) (Rn.len (by rw[C4];exact l1)) (Rn.len (by rw[C4];exact l2)) (by decide),?_⟩;rw[L6,L6,show(sg 47).length=1 from rfl];omega
theorem sp3{l:List Sr}(h4:l.length=4)(h:∀s∈l,Bs3 s):Rn 3 (cl (spT l))/\(spT l).length<=32:=by
 refine⟨Rn.gl (by decide) λw hw=>by obtain⟨s,hs,rfl⟩:=aE.mp hw;exact(sh3 (h s hs)).1,?_⟩;have:=ac5 (c:=58) (b:=7) (ws:=l.map shT) λw hw=>by obtain⟨s,hs,rfl⟩:=aE.mp hw;exact(sh3 (h s hs)).2
 rw[ak,h4]at this;exact this
theorem bt2(c:Nat)(x y:Str)(r:List Str):(gl c (x::y::r)).length=x.length+1+(gl c (y::r)).length:=by
 have e:cl (gl c (x::y::r))=cl x++c::cl (gl c (y::r)):=by rw[ar5,ar5];rfl
 rw[← C4,e,aG,aI,C4,C4];omega
theorem ln3{n:Str}{t:Sht}(hn:X2 n=true)(h:Ls t):Rn 3 (cl (lnT n t))/\(lnT n t).length<=308:=by
 obtain⟨W,hl,h4⟩:=h.g.wt;have s1:=nt1 h.w;have s2:=nt1 h.h;have z:(szT t.1 t.2.1).length=3:=by unfold szT;rw[L6,L6,s1,s2];rfl
 have sp:∀w∈t.2.2.map spT,Rn 3 (cl w)/\w.length<=32:=λw hw=>by
  obtain⟨l,hl,rfl⟩:=aE.mp hw;exact sp3 (h4 l hl) (h.p l hl)
 refine⟨Rn.gl (by decide) λw hw=>?_,?_⟩
 ·rcases ax.mp hw with rfl|hw
  ·refine Rn.none λc hc=>?_
   unfold X2 at hn;simp only[ah,aO]at hn;have:=of_decide_eq_true (hn.2 c hc);exact decide_eq_false (by omega)
  rcases ax.mp hw with rfl|hw
  ·exact Rn.len (by rw[C4,z];exact aj _)
  ·exact(sp w hw).1
 ·have n6:=(ak9 hn).l;have l9:t.2.2.length<=9:=by rw[hl];exact bL h.w h.h
  have g:=ac5 (c:=32) (ws:=t.2.2.map spT) λw hw=>(sp w hw).2
  rw[ak]at g;unfold lnT;rw[lw,wt,bt2];cases q:t.2.2.map spT with
  | nil =>
   show n.length+1+(szT t.1 t.2.1).length<=_;omega
  | cons y r =>
   rw[bt2,← q];have:(32+1)*t.2.2.length<=297:=ce 33 l9;omega
theorem aF7{c:Nat}:∀ws:List (List Nat),(∀w∈ws,c∉w)->(jl c ws).count c=ws.length - 1
 | [],_=>rfl
 | [x],h=>List.count_eq_zero.mpr (h x (by simp))
 | x::y::r,h=>by
  have i:=aF7 (y::r) λw hw=>h w (ai _ hw)
  rw[jl,cH,List.count_cons_self,i,List.count_eq_zero.mpr (h x (by simp))];simp
theorem ai9(t:Str)(c:Nat):(ws t c).length=(cl t).count c+1:=by
 obtain⟨e,f,ne⟩:=i7 t c;rw[e,aF7 _ λw hw=>by obtain⟨v,hv,rfl⟩:=aE.mp hw;exact f v hv,ak];have:=List.length_pos_iff.mpr ne;omega
def rn7:Nat->List Nat->Bool
 | _,[]=>true
 | n,c::l=>bif dg c then decide (n < 7)&&rn7 (n+1) l else rn7 0 l
theorem aI8:∀(l:List Nat) (n:Nat),rn7 n l=true->n<=7->(∀w,w <+: l->w.all dg=true->n+w.length<=7)/\D7 l
 | [],n,_,hn=>⟨λw hw _=>by rw[List.prefix_nil.mp hw];exact hn,Rn.len (aU _)⟩
 | c::l,n,h,hn=>by
  unfold rn7 at h;cases q:dg c with
  | true =>
   rw[q]at h;simp only[cond_true,ah,decide_eq_true_eq]at h;obtain⟨p,d⟩:=aI8 l (n+1) h.2 h.1
   have pre:∀w,w <+: c::l->w.all dg=true->n+w.length<=7:=λw hw hd=>by
    cases w with
    | nil=>exact hn
    | cons x w =>
     obtain⟨t,e⟩:=hw;cases e;rw[aL,ah]at hd;have:=p w ⟨t,rfl⟩ hd.2;rw[aI];omega
   refine⟨pre,λw hw hd=>?_⟩;rcases cW.mp hw with z|z
   ·have:=pre w z hd;omega
   ·exact d w z hd
  | false =>
   rw[q]at h;obtain⟨p,d⟩:=aI8 l 0 h (by decide)
   have pre:∀w,w <+: c::l->w.all dg=true->w=[]:=λw hw hd=>by
    cases w with
    | nil=>rfl
    | cons x w =>
     obtain⟨t,e⟩:=hw;cases e;rw[aL,q]at hd;cases hd
   refine⟨λw hw hd=>by rw[pre w hw hd];exact hn,λw hw hd=>?_⟩;rcases cW.mp hw with z|z
   ·rw[pre w z hd];exact aU _
   ·exact d w z hd
def txB(t:Str):Bool:=(cl t).all (λc=>decide (c < 128))&&decide (t.length<=999)&&rn7 0 (cl t)&&decide ((ws t 10).length<=60)
theorem aH4(h:txB t=true):Tx t:=by
 unfold txB at h;simp only[ah,decide_eq_true_eq,aO]at h;obtain⟨⟨⟨a,b⟩,c⟩,d⟩:=h;exact⟨⟨a,b,(aI8 _ 0 c (by decide)).2⟩,d⟩
theorem cd0(h:(txB t && !(txt (esT t)==t))=true):L9 (A8 true) [.str t]=some k8:=by
 simp only[ah,bn,beq_eq_false_iff_ne]at h;exact aO7 (aH4 h.1) h.2
end Lk92
namespace Lk92
open PySem G L2 Sh
theorem aI4{x:Str}{lo hi:Option Int}{a n:Nat}(h:Builtin.Str.strSliceIndices lo hi 1 x.length=(aZ n).map λk=>a+k)(hl:a+n<=x.length):cl (slS x lo hi)=((cl x).drop a).take n:=by
 have pk:((aZ n).map λk=>a+k).filterMap (x.cps[·]?)=((cl x).drop a).take n:=by
  have ef:(λi:Nat=>x.cps[i]?)=λi=>(cl x)[i]?:=by funext i;rw[bK]
  rw[ef];exact StrLaws.picks (cl x) n a (by rw[C4];exact hl)
 unfold slS;rw[h];split
 ·rename_i q;simp only[beq_self_eq_true,bu,beq_iff_eq,ak,cG]at q;have:a=0:=by omega
  subst this;rw[dF,bQ (by rw[C4];omega)]
 ·rw[pk]
theorem aQ1{x:Str}{p:Nat}(h:p<=x.length):cl (slS x none (some (p:Int)))=(cl x).take p:=by
 have e:Builtin.Str.strSliceIndices none (some (p:Int)) 1 x.length=Builtin.Str.strSliceIndices (some ((0:Nat):Int)) (some (p:Int)) 1 x.length:=by
  unfold Builtin.Str.strSliceIndices;simp
  congr 1
  try omega
 rw[aI4 (a:=0) (n:=p) (by rw[e,StrLaws.strSliceIndices_plain (aU _) h];rfl) (by omega),dF]
theorem aQ2{x:Str}{q:Nat}:cl (slS x (some (q:Int)) none)=(cl x).drop q:=by
 by_cases h:q<=x.length
 ·have e:Builtin.Str.strSliceIndices (some (q:Int)) none 1 x.length=Builtin.Str.strSliceIndices (some (q:Int)) (some (x.length:Int)) 1 x.length:=by
   unfold Builtin.Str.strSliceIndices;simp
   congr 1
   rw[if_neg (by omega)];omega
  rw[aI4 (a:=q) (n:=x.length - q) (by rw[e,StrLaws.strSliceIndices_plain h (aj _)]) (by omega),bQ (by rw[cb,C4];exact aj _)]
 ·have e:Builtin.Str.strSliceIndices (some (q:Int)) none 1 x.length=Builtin.Str.strSliceIndices (some (x.length:Int)) (some (x.length:Int)) 1 x.length:=by
   rw[PyProof.Rows.indices_beyond (by omega)];unfold Builtin.Str.strSliceIndices;simp
   congr 1
   rw[if_neg (by omega)];omega
  rw[aI4 (a:=x.length) (n:=0) (by rw[e,StrLaws.strSliceIndices_plain (aj _) (aj _),aW]) (by omega),List.take_zero,List.drop_eq_nil_of_le (by rw[C4];omega)]
structure Tl (t:Str):Prop where
 a:∀c∈cl t,c < 128
 l:t.length<=930
 d:Rn 3 (cl t)
 n:(cl t).count 10<=3
theorem Tl.tx(h:Tl t):Tx t:=⟨⟨h.a,by have:=h.l;omega,λw hw hd=>aM (h.d w hw hd) (by decide)⟩,by rw[ai9];have:=h.n;omega⟩
theorem bg9(h:Tl t){s:Str}(hs:∀c∈cl s,c < 128)(h1:s.length<=1){p q:Nat}(hp:p<=t.length)(hq:p<=q):Tx (slS t none (some (p:Int))++s++slS t (some (q:Int)) none):=by
 have e:cl (slS t none (some (p:Int))++s++slS t (some (q:Int)) none)=(cl t).take p++(cl s++(cl t).drop q):=by rw[J6,J6,aQ1 hp,aQ2,aH]
 have i1:(cl t).take p <:+: cl t:=(List.take_prefix _ _).isInfix;have i2:(cl t).drop q <:+: cl t:=(List.drop_suffix _ _).isInfix;have ls:(cl s).length<=1:=by rw[C4];exact h1
 refine⟨⟨λc hc=>?_,?_,?_⟩,?_⟩
 ·rw[e]at hc;rcases aQ.mp hc with z|z
  ·exact h.a c (i1.subset z)
  ·rcases aQ.mp z with z|z
   ·exact hs c z
   ·exact h.a c (i2.subset z)
 ·rw[← C4,e,aG,aG,bI,cb,C4 t];have:=h.l;omega
 ·rw[e];exact(h.d.sub i1).app ((Rn.len (k:=1) ls).app (h.d.sub i2))
 ·rw[ai9,e,cH,cH]
  have c1:((cl t).drop q).count 10<=((cl t).drop p).count 10:=by
   have:(cl t).drop q=((cl t).drop p).drop (q - p):=by rw[List.drop_drop];congr 1;omega
   rw[this];exact(List.drop_sublist _ _).count_le _
  have c2:((cl t).take p).count 10+((cl t).drop p).count 10=(cl t).count 10:=by rw[← cH,List.take_append_drop]
  have c3:(cl s).count 10<=1:=aM (List.count_le_length) ls;have:=h.n;omega
end Lk92
namespace Lk92
open PySem G L2 Sh
def Ll(es:List En):List Str:=es.map λe=>lnT e.1 e.2
abbrev Tt(es:List En):Str:=gl 10 (Ll es++[eT])
theorem cl8:Tt []=eT:=by decide +kernel
theorem cl9(es:List En)(e:En):Tt (es++[e])=Tt es++(lnT e.1 e.2++sg 10):=p8 (by
 rw[J6,← ad2,← ad2,Ll,Ll,bN,bN,cat,cat,List.flatMap_append]
 simp)
structure Le (e:En):Prop where
 n:X2 e.1=true
 s:Ls e.2
def nm3:List (List Str):=[[],["a"],["bo"],["zzzzzz"],["a", "bo"],["a", "zzzzzz"],["bo", "zzzzzz"],["a", "bo", "zzzzzz"]]
structure Lf (es:List En):Prop where
 e:∀e∈es,Le e
 n:es.map (·.1)∈nm3
theorem Lf.len(h:Lf es):es.length<=3:=by
 have:=h.n;rw[← ak (f:=λe:En=>e.1)];generalize es.map (·.1)=l at this;simp only[nm3,ax,aS,or_false]at this;rcases this with rfl|rfl|rfl|rfl|rfl|rfl|rfl|rfl<;>decide
theorem Lf.gl(h:Lf es):Gl es:=⟨λe he=>⟨(h.e e he).n,(h.e e he).s.g⟩,by have:=h.len;omega⟩
theorem Lf.nd(h:Lf es):(es.map (·.1)).Nodup:=by
 have:=h.n;generalize es.map (·.1)=l at this;simp only[nm3,ax,aS,or_false]at this;rcases this with rfl|rfl|rfl|rfl|rfl|rfl|rfl|rfl<;>decide +kernel
theorem Lf.ns(h:Lf es):nsE es=es.map (·.1):=by
 have:=h.n;unfold nsE;rw[show(dD es).map (·.1)=sD (es.map (·.1)) by rw[aV,sD,aV];rfl];generalize es.map (·.1)=l at this;simp only[nm3,ax,aS,or_false]at this;rcases this with rfl|rfl|rfl|rfl|rfl|rfl|rfl|rfl<;>decide +kernel
theorem bQ1:∀{es:List En},(es.map (·.1)).Nodup->∀e∈es,lk es e.1=e.2
 | x::es,h,e,he=>by
  rw[xmc,cg]at h;unfold lk;rw[bV];rcases ax.mp he with rfl|he
  ·rw[beq_self_eq_true];rfl
  ·rw[beq_eq_false_iff_ne.mpr (show x.1≠e.1 from λz=>h.1 (by rw[z];exact cu he))];exact bQ1 h.2 e he
theorem Lf.lns(h:Lf es):lns es=Ll es:=by
 unfold Lk92.lns Ll;rw[h.ns,aV];refine bc λe he=>?_
 show lnT e.1 (lk es e.1)=_;rw[bQ1 h.nd e he]
theorem Lf.txt(h:Lf es):txt es=Tt es:=by rw[Lk92.txt,h.lns]
theorem aU1:∀(es a:List En),((a++es).map (·.1)).Nodup->(∀e∈es,Le e)->(Ll es).foldl stE a=a++es
 | [],a,_,_=>by simp[Ll]
 | e::es,a,h,hl=>by
  have el:=hl e (by simp)
  have s:stE a (lnT e.1 e.2)=a++[e]:=by
   unfold stE;rw[(aD7 el.n el.s.g).2];show ak0 a e.1 e.2=_;unfold ak0;rw[if_neg];simp only[List.any_eq_true,beq_iff_eq,not_exists,not_and];intro x hx q;rw[bN,xmc,List.nodup_append]at h;exact h.2.2 x.1 (cu hx) e.1 (by simp) q
  show(Ll es).foldl stE (stE a (lnT e.1 e.2))=_;rw[s,aU1 es (a++[e]) (by rw[aH];exact h) λx hx=>hl x (ai _ hx),aH];rfl
theorem Lf.bk(h:Lf es):esT (Tt es)=es:=by
 have w:=aO5 h.gl;rw[h.lns]at w;have sp:ws (Tt es) 10=Ll es++[eT]:=O9 10 (by simp) λv hv=>(w.1 v hv).1.no (by decide)
 unfold esT lsT;rw[sp,List.dropLast_concat];exact aU1 es [] h.nd h.e
theorem Lf.tl(h:Lf es):Tl (Tt es):=by
 have w:=aH3 h.gl;rw[h.txt]at w
 have ln:∀v∈Ll es,Rn 3 (cl v)/\v.length<=308:=λv hv=>by
  obtain⟨e,he,rfl⟩:=aE.mp hv;exact ln3 (h.e e he).n (h.e e he).s
 have l3:=h.len;refine⟨w.1,?_,Rn.gl (by decide) λv hv=>?_,?_⟩
 ·have key:∀ls:List Str,(∀v∈ls,v.length<=308)->(cat (ls.map (·++sg 10))).length<=309*ls.length:=by
   intro ls
   induction ls with
   | nil=>intro _;exact aj _
   | cons v ls ih =>
    intro hv;have:=ih λu hu=>hv u (ai _ hu)
    have h1:=hv v (by simp);show(cl (v++sg 10)++cat (ls.map (·++sg 10))).length<=_;rw[aG,C4,L6,show(sg 10).length=1 from rfl,aI];omega
  rw[← C4,← ad2];have:=key (Ll es) λv hv=>(ln v hv).2
  rw[Ll,ak]at this;unfold Ll;omega
 ·rcases aQ.mp hv with q|q
  ·exact(ln v q).1
  ·rw[aN.mp q];exact Rn.len (by decide)
 ·have w2:=aO5 h.gl;rw[h.lns]at w2;have sp:ws (Tt es) 10=Ll es++[eT]:=O9 10 (by simp) λv hv=>(w2.1 v hv).1.no (by decide)
  have:=ai9 (Tt es) 10;rw[sp,aG,Ll,ak,cJ]at this;omega
theorem Lf.rd(h:Lf es):B7 false [.str (Tt es)]=some (fo (dD es) [] []):=by
 have:=aQ5 h.tl.tx (by rw[h.bk,h.txt])
 rwa [h.bk]at this
theorem Lf.tell(h:Lf es):L9 (A8 true) [.str (Tt es)]=none:=aO8 h.tl.tx (by rw[h.bk,h.txt])
theorem bf5(h:Tx t):(∃es,Gl es/\B7 false [.str t]=some (fo (dD es) [] [])/\L9 (A8 true) [.str t]=none/\txt es=t)\/(L9 (A8 true) [.str t]=some k8/\∀es,Lf es->Tt es≠t):=by
 by_cases e:txt (esT t)=t
 ·exact .inl ⟨esT t,bO9 h,aQ5 h e,aO8 h e,e⟩
 ·refine .inr ⟨aO7 h e,λes L q=>e ?_⟩;rw[← q,L.bk,L.txt]
end Lk92
namespace Lk92
open PySem G L2 Sh
section
variable {m:List (D×D)}{b f:List D}
abbrev stD(n:Str)(m:List (D×D))(d:D):D:=.tuple [.str "lay", .str n,(F8 m n).getD .none,d]
theorem at1(n:Str)(d:List D)(l:m.length < 1000)(hb:b.length < 900):d8 (fo m b f) [none,some (.str "lay"),some (.str n),some (.tuple d)]=some (.none,fo (ak1 m n (.tuple d)) (b++[stD n m (.tuple d)]) []):=by
 refine aj7 (ρ:=[some (.opq 0),‹.str "lay"›,‹.str n›,‹.tuple d›]) (q:=[]) rfl ?_;unfold m4;refine(B5 (ρ':=[some (.opq 0),‹.str "lay"›,‹.str n›,‹.tuple d›]) (q':=[fo m (b++[stD n m (.tuple d)]) f]) ?_).trans ?_
 ·unfold bz0;rw[fB (j:=0) (m:=m) (b:=b) (f:=f) rfl rfl]
  have g:aW8 0 true "sheets" (vP (A1 2)) [some (.opq 0),‹.str "lay"›,‹.str n›,‹.tuple d›] [fo m b f]=some ((F8 m n).getD .none):=by
   unfold aW8;rw[fD (j:=0) (m:=m) (b:=b) (f:=f) rfl rfl];rfl
  have t:bd6 (vlC (vP (A1 1)) (vlC (vP (A1 2)) (vlC (aW8 0 true "sheets" (vP (A1 2))) (vlC (vP (A1 3)) vlN)))) [some (.opq 0),‹.str "lay"›,‹.str n›,‹.tuple d›] [fo m b f]=some (stD n m (.tuple d)):=by
   simp only[bd6,vlC,g,vP,era,cw9,xmc,xmn,A1,xg1,xg0,xbs,xms,vlN]
  rw[xbs,t];show(if b.length < 1000 then some (UF.nx _ (List.set [fo m b f] 0 ⟨(fo m b f).k,Q6 "steps_back" (.lst (b++[stD n m (.tuple d)])) (fo m b f).l⟩)) else none)=_;rw[if_pos (by omega),pB];rfl
 ·refine(B5 (ρ':=[some (.opq 0),‹.str "lay"›,‹.str n›,‹.tuple d›]) (q':=[fo m (b++[stD n m (.tuple d)]) []]) ?_).trans (aj0 (ap0 (j:=0) (ds:=[.str n,.tuple d]) rfl rfl bP9 rfl (bh5 n d l)));unfold aG7;rw[a6 (j:=0) (o:=fo m (b++[stD n m (.tuple d)]) f) rfl rfl];show(if(fo m (b++[stD n m (.tuple d)]) f).k=true/\(fo m (b++[stD n m (.tuple d)]) f).l.length < 1000 then some (UF.nx _ (List.set [fo m (b++[stD n m (.tuple d)]) f] 0 ⟨_,Q6 "steps_forth" (.lst []) (fo m (b++[stD n m (.tuple d)]) f).l⟩)) else none)=_;rw[if_pos ⟨rfl,by show 3 < 1000;decide⟩,pF];rfl
theorem ce9(n:Str)(d:List D)(l:m.length < 1000)(hb:b.length < 900):aW2 (fo m b f) [none,some (.str n),some (.tuple d)]=some (.bool (F8 m n).isSome,fo (ak1 m n (.tuple d)) (b++[stD n m (.tuple d)]) []):=by
 refine J0 (ρ:=[some (.opq 0),‹.str n›,‹.tuple d›,none]) (q:=[]) rfl ?_;unfold aW3
 have t:vIn false 0 true "sheets" (vP (A1 1)) [some (.opq 0),‹.str n›,‹.tuple d›,none] [fo m b f]=some (.bool (F8 m n).isSome):=by
  unfold vIn;rw[fD (j:=0) (m:=m) (b:=b) (f:=f) rfl rfl];rfl
 refine(B5 (M3 (aO3 t))).trans ((B5 (aj0 (ap0 (j:=0) (ds:=[.str "lay", .str n,.tuple d]) rfl rfl cd9 rfl (at1 n d l hb)))).trans rfl)
end
abbrev R0(ns:List Int)(es:List En)(x y z:Option B):Rho:=[‹scr ns›,some (.opq 0),‹.str (Tt es)›,x,y,z,none,none,none,none,none,none,none,none]
noncomputable abbrev b2:UX:=uIf (uTP (tB2 gtI (A6 B4 (A0 (A1 0) (A0 (A1 3) (A0 ⇑3 A4)))) ⇑0)) (E1 (S3 5 (uP (A6 ab4 (A0 (A1 0) (A0 (A3 B8 ⇑10 (A3 J3 ⇑150 (A1 3))) A4))))) (E1 (uEx (uM 1 true "lay" aW2 (A0 (A1 4) (A0 (A1 5) A4)))) (S3 2 (uP (A3 B8 (A1 2) (A6 i4 (A0 (A1 4) (A0 (A1 5) A4)))))))) m5
theorem bI0{es:List En}{n:Str}(h:n∉es.map (·.1))(t:Sht):ak0 es n t=es++[(n,t)]:=by
 unfold ak0;rw[if_neg];simp only[List.any_eq_true,beq_iff_eq,not_exists,not_and];exact λx hx q=>h (q ▸ cu hx)
theorem cy0{ns:List Int}(hn:ns.length<=63){es:List En}(L:Lf es){k:Nat}(hk:k < 3){n:Str}(hnm:X2 n=true)(hno:n∉es.map (·.1)){bk:List D}(hb:bk.length<=10){z:Option B}:
  ∃es' bk' z',b2 (R0 ns es (‹.int k›) (‹.str n›) z) [fo (dD es) bk []]=some (.nx (R0 ns es' (‹.int k›) (‹.str n›) z') [fo (dD es') bk' []])/\(es'=es\/∃t,Ls t/\es'=es++[(n,t)])/\bk'.length<=bk.length+1:=by
 obtain⟨d,e,ld⟩:=S9 ns k 3 hn (by omega) (by decide)
 have tst:uTP (tB2 gtI (A6 B4 (A0 (A1 0) (A0 (A1 3) (A0 ⇑3 A4)))) ⇑0) (R0 ns es (‹.int k›) (‹.str n›) z) [fo (dD es) bk []]=some (decide (0 < (d:Int)),[fo (dD es) bk []]):=by
  unfold uTP
  have:tB2 gtI (A6 B4 (A0 (A1 0) (A0 (A1 3) (A0 ⇑3 A4)))) ⇑0 (era (R0 ns es (‹.int k›) (‹.str n›) z))=some (decide (0 < (d:Int))):=by
   unfold tB2;rw[D4 (show A6 B4 (A0 (A1 0) (A0 (A1 3) (A0 ⇑3 A4))) (era (R0 ns es (‹.int k›) (‹.str n›) z))=some (.int d) from e) rfl,cw4];rfl
  rw[this];rfl
 by_cases q:0 < (d:Int)
 ·rw[decide_eq_true q]at tst;obtain⟨t,et,lt⟩:=cl7 hn (10+150*k) (by omega)
  have e5:A6 ab4 (A0 (A1 0) (A0 (A3 B8 ⇑10 (A3 J3 ⇑150 (A1 3))) A4)) (era (R0 ns es (‹.int k›) (‹.str n›) z))=some (F1 t):=by
   have m:J3 (.int 150) (.int k)=some (.int ((150*k:Nat):Int)):=S8 (i:=150) (by decide) (by omega)
   have a:A3 B8 ⇑10 (A3 J3 ⇑150 (A1 3)) (era (R0 ns es (‹.int k›) (‹.str n›) z))=some (.int ((10+150*k:Nat):Int)):=by
    rw[D4 (x:=.int 10) rfl ((D4 (x:=.int 150) (y:=.int k) rfl rfl).trans m),U7];rfl
   unfold A6 A0;rw[a];exact et
  have ll:=ce4 (ak9 hnm) lt.g.wt.1;have tl:=L.tl.l;have l3:=(ln3 hnm lt).2;refine⟨es++[(n,t)],bk++[stD n (dD es) (F1 t)],‹F1 t›,?_,.inr ⟨t,lt,rfl⟩,?_⟩
  ·refine(bs5 tst).trans ?_;refine(B5 (ρ':=R0 ns es (‹.int k›) (‹.str n›) (‹F1 t›)) (M3 (N8 e5))).trans ?_;refine(B5 (aj0 (ap0 (j:=0) (ds:=[.str n,F1 t]) rfl rfl cu1 rfl (ce9 n _ (by rw[ak];have:=L.len;omega) (by omega))))).trans ?_;rw[bi3,bI0 hno];refine(M3 (N8 (d:=.str (Tt (es++[(n,t)]))) ?_)).trans rfl;rw[cl9];exact(D4 (x:=.str (Tt es)) rfl (show A6 i4 (A0 (A1 4) (A0 (A1 5) A4)) (era (R0 ns es (‹.int k›) (‹.str n›) (‹F1 t›)))=_ from ll)).trans (X9 (by rw[L6,show(sg 10).length=1 from rfl];omega))
  ·simp
 ·rw[decide_eq_false q]at tst;exact⟨es,bk,z,(v7 tst).trans rfl,.inl rfl,by omega⟩
end Lk92
namespace Lk92
open PySem G L2 Sh
theorem loop{f:UX}{P:Rho->Fs->Prop}:∀(ks:List D),(∀d∈ks,∀ρ q,P ρ q->∃ρ1 ρ' q',F4 i d ρ=some ρ1/\f ρ1 q=some (.nx ρ' q')/\P ρ' q')->∀ρ q,P ρ q->∃ρ' q',Z5 (F4 i) f ks ρ q=some (.nx ρ' q')/\P ρ' q'
 | [],_,ρ,q,h=>⟨ρ,q,rfl,h⟩
 | d::ks,H,ρ,q,h=>by
  obtain⟨ρ1,ρ2,q2,g,e,h2⟩:=H d (by simp) ρ q h;obtain⟨ρ3,q3,e3,h3⟩:=loop ks (λd hd=>H d (ai _ hd)) ρ2 q2 h2;refine⟨ρ3,q3,?_,h3⟩;unfold Z5;rw[g,xbs,e];exact e3
theorem c3{F:FnD}(h0:f ρ=some x)(h1:g ρ=some y)(h2:h ρ=some z)(hF:F [x,y,z]=some d):A6 F (A0 f (A0 g (A0 h A4))) ρ=some d:=by
 unfold A6 A0;rw[h0,xbs,h1,xbs,h2];exact hF
theorem cC1{f g:UX}(h:f ρ q=none):xOr f g ρ q=g ρ q:=by unfold xOr;rw[h]
theorem cC0{f g:UX}(h:f ρ q=some x):xOr f g ρ q=some x:=by unfold xOr;rw[h]
theorem bn1{f:UD}{x:D}{o:Fo}(h:f ρ q=some (x,q))(e:B7 false [x]=some o):U4 (B7 false) (ulC f ulN) ρ q=some (o,q):=by
 unfold U4 ulC;rw[h];show(B7 false [x]).map _=_;rw[e];rfl
theorem cq0{t:Str}(hv:A1 j (era ρ)=some (.str t))(h1:L9 (A8 true) [.str t]=none)(h2:B7 false [.str t]=some o):xOr (S3 i (uP (A6 (L9 (A8 true)) (A0 (A1 j) A4)))) (xNw i (U4 (B7 false) (ulC (uP (A1 j)) ulN))) ρ q=some (.nx (ρ.set i (some (.opq q.length))) (q++[o])):=by
 refine(cC1 ?_).trans ?_
 ·unfold S3 uP A6 A0;rw[hv];show(((L9 (A8 true) [.str t]).map _).map _)=_;rw[h1];rfl
 ·unfold xNw;rw[bn1 (N8 hv) h2];rfl
theorem cz5{t:Str}(hv:A1 j (era ρ)=some (.str t))(h1:L9 (A8 true) [.str t]=some d):xOr (S3 i (uP (A6 (L9 (A8 true)) (A0 (A1 j) A4)))) (xNw i (U4 (B7 false) (ulC (uP (A1 j)) ulN))) ρ q=some (.nx (ρ.set i (‹d›)) q):=by
 refine cC0 (M3 (N8 ?_));unfold A6 A0;rw[hv];exact h1
def sgs:List Str:=["0", "1", "/", ":", " ", "\n", "x", "", "a", "Z"]
theorem bY6:∀s∈sgs,s.length<=1/\∀c∈cl s,c < 128:=by decide +kernel
abbrev R1(ns:List Int)(es:List En)(x3 x4 x5 x7 x8 x9 x10:Option B):Rho:=[‹scr ns›,some (.opq 0),‹.str (Tt es)›,x3,x4,x5,some (.opq 1),x7,x8,x9,x10,none,none,none]
def Q7(ns:List Int)(es:List En)(ρ:Rho)(_:Fs):Prop:=∃x3 x4 x5 x7 x8 x9 x10,ρ=R1 ns es x3 x4 x5 x7 x8 x9 x10
theorem ar{ρ:Rho}{k c:Nat}(i:Int)(hk:k < 6)(h:A1 3 ρ=some (.int k))(hi:i=c:=by rfl):A3 B8 (dC (.int i)) (A3 J3 ⇑4 (A1 3)) ρ=some (.int ((c+4*k:Nat):Int)):=by
 subst hi;rw[D4 (x:=.int (c:Nat)) rfl ((D4 (x:=.int 4) rfl h).trans (S8 (i:=4) (by decide) (by omega))),U7];rfl
theorem sls{f:DE}{lo hi:Rho->Option (Option Int)}{x:Str}(hf:f ρ=some (.str x))(hl:lo ρ=some l)(hh:hi ρ=some u)(hx:x.length<=1000)(hz:(slS x l u).length<=1000):ac9 f lo hi ρ=some (.str (slS x l u)):=by
 unfold ac9;rw[hf,xbs,hl,xbs,hh];exact if_pos ⟨hx,by omega⟩
theorem st7{ns:List Int}(hn:ns.length<=63){es:List En}(L:Lf es){ρ:Rho}{q:Fs}(h:Q7 ns es ρ q):∃ρ' q',aI2 ρ q=some (.nx ρ' q')/\Q7 ns es ρ' q':=by
 have tl:=L.tl;have ll:=tl.l;unfold aI2 aH2 iP;rw[aQ6 (n:=6) rfl (by decide)];refine loop (P:=Q7 ns es) _ ?_ ρ q h;intro d hd ρ q ⟨x3,x4,x5,x7,x8,x9,x10,e⟩;subst e;obtain⟨k,hk,rfl⟩:=aE.mp hd;rw[cA]at hk;obtain⟨p,e1,l1⟩:=S9 ns (500+4*k) ((Tt es).length+1) hn (by omega) (by omega);obtain⟨j,e2,l2⟩:=S9 ns (501+4*k) 10 hn (by omega) (by decide);obtain⟨c,e3,l3⟩:=S9 ns (502+4*k) 2 hn (by omega) (by decide);have hs:∃s:Str,sgs[j]? = some s/\s∈sgs:=⟨sgs[j],ba l2,cq _⟩;obtain⟨s,es1,es2⟩:=hs;obtain⟨s1,s2⟩:=bY6 s es2;have tx:=bg9 tl s2 s1 (p:=p) (q:=p+c) (by omega) (by omega);generalize hsp:slS (Tt es) none (some (p:Int))++s++slS (Tt es) (some ((p+c:Nat):Int)) none=sp at tx;refine⟨R1 ns es (‹.int k›) x4 x5 x7 x8 x9 x10,?_⟩;have v1:∀{y7 y8 y9 y10:Option B},A1 3 (era (R1 ns es (‹.int k›) x4 x5 y7 y8 y9 y10))=some (.int k):=rfl
 have g1:=c3 (F:=B4) (ρ:=era (R1 ns es (‹.int k›) x4 x5 x7 x8 x9 x10)) (f:=A1 0) (x:=scr ns) rfl (ar 500 (c:=500) hk v1) (h:=A3 B8 (V3 (A1 2)) ⇑1) (z:=.int (((Tt es).length+1:Nat):Int)) (by
  rw[D4 (x:=.int (Tt es).length) (by
   show(if(Tt es).length<=16777216 then some (eL (Tt es).length) else none)=_
   rw[if_pos (by omega)]) rfl,U7];rfl) e1
 have g2:=c3 (F:=B4) (ρ:=era (R1 ns es (‹.int k›) x4 x5 (‹.int p›) x8 x9 x10)) (f:=A1 0) (x:=scr ns) rfl (ar 501 (c:=501) hk v1) (h:=dC (.int 10)) (z:=.int (10:Nat)) rfl e2;have g3:=c3 (F:=B4) (ρ:=era (R1 ns es (‹.int k›) x4 x5 (‹.int p›) (‹.str s›) x9 x10)) (f:=A1 0) (x:=scr ns) rfl (ar 502 (c:=502) hk v1) (h:=dC (.int 2)) (z:=.int (2:Nat)) rfl e3
 have g8:dIx (qN (A0 (dC (.str "0")) (A0 (dC (.str "1")) (A0 (dC (.str "/")) (A0 (dC (.str ":")) (A0 (dC (.str " ")) (A0 (dC (.str "\n")) (A0 (dC (.str "x")) (A0 (dC (.str "")) (A0 (dC (.str "a")) (A0 (dC (.str "Z")) A4))))))))))) (A6 B4 (A0 (A1 0) (A0 (A3 B8 ⇑501 (A3 J3 ⇑4 (A1 3))) (A0 ⇑10 A4)))) (era (R1 ns es (‹.int k›) x4 x5 (‹.int p›) x8 x9 x10))=some (.str s):=by
  exact(bR0 (q:=(false,sD sgs)) rfl g2).trans (aV9 (by rw[sD,aF,es1];rfl))
 have z1:(slS (Tt es) none (some (p:Int))).length<=1000:=by
  rw[← C4,aQ1 (by omega),bI,C4];omega
 have z2:(slS (Tt es) (some ((p+c:Nat):Int)) none).length<=1000:=by
  rw[← C4,aQ2,cb,C4];omega
 have g9:A3 B8 (A3 B8 (ac9 (A1 2) L0 (K6 (A1 7))) (A1 8)) (ac9 (A1 2) (K6 (A3 B8 (A1 7) (A6 B4 (A0 (A1 0) (A0 (A3 B8 ⇑502 (A3 J3 ⇑4 (A1 3))) (A0 ⇑2 A4)))))) L0) (era (R1 ns es (‹.int k›) x4 x5 (‹.int p›) (‹.str s›) x9 x10))=some (.str sp):=by
  have o2:K6 (A3 B8 (A1 7) (A6 B4 (A0 (A1 0) (A0 (A3 B8 ⇑502 (A3 J3 ⇑4 (A1 3))) (A0 ⇑2 A4))))) (era (R1 ns es (‹.int k›) x4 x5 (‹.int p›) (‹.str s›) x9 x10))=some (some ((p+c:Nat):Int)):=by
   unfold K6;rw[D4 (x:=.int p) rfl g3,U7];rfl
  have a1:=sls (f:=A1 2) (lo:=L0) (hi:=K6 (A1 7)) (ρ:=era (R1 ns es (‹.int k›) x4 x5 (‹.int p›) (‹.str s›) x9 x10)) (x:=Tt es) rfl rfl rfl (by omega) z1;have a2:=sls (f:=A1 2) (hi:=L0) (x:=Tt es) rfl o2 rfl (by omega) z2;rw[D4 ((D4 a1 (y:=.str s) rfl).trans (X9 (by omega))) a2,X9 (by rw[L6];omega),hsp]
 have w9:∀{x:Option B},A1 9 (era (R1 ns es (‹.int k›) x4 x5 (‹.int p›) (‹.str s›) (‹.str sp›) x))=some (.str sp):=rfl;rcases bf5 tx with⟨es',G,o1,o2,o3⟩|⟨r1,r2⟩
 ·have qq:(q++[fo (dD es') [] []])[q.length]? = some (fo (dD es') [] []):=by simp
  refine⟨R1 ns es (‹.int k›) x4 x5 (‹.int p›) (‹.str s›) (‹.str sp›) (some (.opq q.length)),_,rfl,(B5 (M3 (N8 g1))).trans ((B5 (M3 (N8 g8))).trans ((B5 (M3 (N8 g9))).trans ((B5 (cq0 w9 o2 o1)).trans ((v7 (Z7 (c:=false) ?_)).trans ((v7 (Z7 (l8 (aA4 (j:=q.length) (o:=fo (dD es') [] []) (ms:=[none]) rfl qq rfl (bt5 G)) (N8 w9) ?_))).trans rfl))))),_,_,_,_,_,_,_,rfl⟩
  ·unfold bc8 bB6;rw[a6 (j:=q.length) (o:=fo (dD es') [] []) rfl qq];rfl
  ·rw[o3];rw[av4 tx.w.a tx.w.a,beq_self_eq_true];rfl
 ·refine⟨R1 ns es (‹.int k›) x4 x5 (‹.int p›) (‹.str s›) (‹.str sp›) (‹k8›),q,rfl,(B5 (M3 (N8 g1))).trans ((B5 (M3 (N8 g8))).trans ((B5 (M3 (N8 g9))).trans ((B5 (cz5 w9 r1)).trans ((bs5 (q':=q) rfl).trans ((v7 (q':=q) ?_).trans rfl))))),_,_,_,_,_,_,_,rfl⟩;have ne:=r2 es L
  have e1:tB2 neD (A1 10) (M6 (A0 (dC (.str "refused")) (A0 ⇑1 A4))) (era (R1 ns es (‹.int k›) x4 x5 (‹.int p›) (‹.str s›) (‹.str sp›) (‹k8›)))=some false:=by
   unfold tB2;rw[D4 (x:=k8) (y:=k8) rfl rfl,show neD k8 k8=some (.bool false) by kernel_rfl];rfl
  have e2:tB2 eqD (A1 9) (A1 2) (era (R1 ns es (‹.int k›) x4 x5 (‹.int p›) (‹.str s›) (‹.str sp›) (‹k8›)))=some false:=by
   unfold tB2;rw[D4 (x:=.str sp) (y:=.str (Tt es)) rfl rfl,aU6 (b:=false) (aw0 tx.w.a λc h=>by omega) (aw0 tl.a λc h=>by omega) (beq_eq_false_iff_ne.mpr λz=>ne z.symm)];rfl
  show uTP _ (R1 ns es (‹.int k›) x4 x5 (‹.int p›) (‹.str s›) (‹.str sp›) (‹k8›)) q=_;unfold uTP Z8;rw[e1,xbs,if_neg (by decide),e2];rfl
end Lk92
namespace Lk92
open PySem G L2 Sh
def pn:Nat->List (List Str)
 | 0=>[[]]
 | 1=>[[],["a"]]
 | 2=>[[],["a"],["bo"],["a", "bo"]]
 | _=>nm3
def nk:Nat->Str
 | 0 => "a"
 | 1 => "bo"
 | _ => "zzzzzz"
theorem cs3:∀k,k < 3->X2 (nk k)=true/\∀l∈pn k,l∈nm3/\nk k∉l/\l∈pn (k+1)/\l++[nk k]∈pn (k+1):=by decide +kernel
structure Pf (k:Nat) (es:List En):Prop where
 e:∀e∈es,Le e
 n:es.map (·.1)∈pn k
theorem lp2{ns:List Int}(hn:ns.length<=63):∀(c k:Nat),k+c=3->∀(es:List En) (bk:List D) (x y z:Option B),Pf k es->bk.length<=k->∃es' bk' x' y' z',Z5 (af0 2 (d5 (F4 3) (d5 (F4 4) aq8))) b2 ((List.range' k c).map λj:Nat=>PyData.tuple [.int j,.str (nk j)]) (R0 ns es x y z) [fo (dD es) bk []]=some (.nx (R0 ns es' x' y' z') [fo (dD es') bk' []])/\Lf es'/\bk'.length<=3
 | 0,k,h,es,bk,x,y,z,P,hb=>by
  cases(show k=3 from h);exact⟨es,bk,x,y,z,rfl,⟨P.e,P.n⟩,hb⟩
 | c+1,k,h,es,bk,x,y,z,P,hb=>by
  obtain⟨o,a⟩:=cs3 k (by omega);obtain⟨a1,a2,a3,a4⟩:=a _ P.n;obtain⟨es1,bk1,z1,e,c1,l1⟩:=cy0 hn ⟨P.e,a1⟩ (k:=k) (by omega) o a2 (bk:=bk) (by omega) (z:=z)
  have P1:Pf (k+1) es1:=by
   rcases c1 with rfl|⟨t,lt,rfl⟩
   ·exact⟨P.e,a3⟩
   ·refine⟨λe he=>?_,by rw[bN];exact a4⟩;rcases aQ.mp he with q|q
    ·exact P.e e q
    ·rw[aN.mp q];exact⟨o,lt⟩
  obtain⟨es',bk',x',y',z',e',L,l'⟩:=lp2 hn c (k+1) (by omega) es1 bk1 (‹.int k›) (‹.str (nk k)›) z1 P1 (by omega);refine⟨es',bk',x',y',z',?_,L,l'⟩;rw[dn,xmc];unfold Z5;show(b2 (R0 ns es (‹.int k›) (‹.str (nk k)›) z) [fo (dD es) bk []]).bind _=_;rw[e];exact e'
theorem cC2{f g:UB}(h:f ρ q=some (false,q')):uOr f g ρ q=g ρ q':=by unfold uOr;rw[h];rfl
theorem bf7{g:Rho->Fs->Option (Fo×Fs)}{f:Rho->Option (List D)}{ds:List D}(h:g ρ q=some (o,q'))(hm:o.k=kd/\(o.l.lookup m1).isNone=true)(hf:f (era ρ)=some ds)(hF:F o (none::ds.map some)=some (d,o')):aH1 g kd m1 F f ρ q=some (d,q'):=by
 unfold aH1;rw[h,xbs,if_pos hm,hf,xbs,hF];rfl
noncomputable abbrev ftW:UD:=uM 1 true "fetch" R3 (A0 (A1 0) A4)
theorem cpf(h:Gl es):∀l:List Str,(∀n∈l,n∈nsE es)->cpT ftW (fo (dD es) b f) (sD l)=some (l.map λn=>F1 (lk es n),fo (dD es) b f)
 | [],_=>rfl
 | n::l,hl=>by
  obtain⟨a,g,lo⟩:=av7 h (hl n (by simp));have i:=cpf (b:=b) (f:=f) h l λj hj=>hl j (ai _ hj)
  have u:ftW [‹.str n›,some (.opq 0)] [fo (dD es) b f]=some (F1 (lk es n),[fo (dD es) b f]):=ap0 (j:=0) (ds:=[.str n]) rfl rfl av5 rfl (al8 lo);show(ftW [‹.str n›,some (.opq 0)] [fo (dD es) b f]).bind _=_;rw[u];show(cpT _ (fo (dD es) b f) (sD l)).map _=_;rw[i];rfl
theorem bR5(h:Gl es){i j:Nat}(hs:ρ[i]? = some (some (.opq j)))(hq:q[j]? = some (fo (dD es) b f)):uCp i (uM0 i true "names" N1) ftW ρ q=some (.list ((nsE es).map λn=>F1 (lk es n)),q):=by
 have st:q.set j (fo (dD es) b f)=q:=by
  refine db λk=>?_
  rw[br];split
  ·rename_i e;subst e;rw[hq];split
   ·rfl
   ·rename_i z;rw[cM (by omega)]at hq;cases hq
  ·rfl
 have e1:=S2 hs hq u7 (b0 (b:=b) (f:=f) h);unfold uCp;rw[e1,xbs,st];simp only[ce5,xbs];rw[a6 hs hq,xbs,if_pos (by rw[ak];exact aM (ak8 es h.2).2.1 (by decide)),cpf h _ λ_ h=>h];show some (_,q.set j (fo (dD es) b f))=_;rw[st]
theorem ce2(t:Sht):Ly 4 (F1 t):=Ly.tup λx hx=>by
 simp only[ax,aS,or_false]at hx;rcases hx with rfl|rfl|rfl
 ·exact Ly.int _ _
 ·exact Ly.int _ _
 ·refine Ly.tup λx hx=>?_
  obtain⟨l,hl,rfl⟩:=aE.mp hx;refine Ly.tup λx hx=>?_
  obtain⟨s,hs,rfl⟩:=aE.mp hx;refine Ly.tup (n:=0) λx hx=>?_
  simp only[ax,aS,or_false]at hx;rcases hx with rfl|rfl<;>exact Ly.int _ _
theorem cu0(L:Lf es):neD (.list (sD (nsE es))) (.list (sD (nsE es)))=some (.bool false):=by
 rw[L.ns];have:=L.n;generalize es.map (·.1)=l at this;simp only[nm3,ax,aS,or_false]at this;rcases this with rfl|rfl|rfl|rfl|rfl|rfl|rfl|rfl<;>kernel_rfl
def an8:List Str:=["a 1x1 1:0:1/2:0", "a 1x1\n", "a 1x1 1:0:1/2:0 1:0:1/2:0\n", "a 1x2 1:0:1/2:0\n", "a 0x1\n", "A 1x1 1:0:1/2:0\n", "abcdefg 1x1 1:0:1/2:0\n", "b 1x1 1:0:1/2:0\na 1x1 1:0:1/2:0\n", "a 1x1 1:0:1/2:0\na 1x1 1:0:1/2:0\n", "\n", "a 1x1 1/2:0:1:0\n", "a 1x1 2/2:0:0:0\n", "a 1x1 1:0:0\n", "a 01x1 1:0:1/2:0\n", "a 9x1 1:0:1/2:0 1:0:1/2:0 1:0:1/2:0 1:0:1/2:0 1:0:1/2:0 1:0:1/2:0 1:0:1/2:0 1:0:1/2:0 1:0:1/2:0\n"]
theorem cC4:∀t∈an8,(txB t && !(txt (esT t)==t))=true:=by decide +kernel
abbrev ln1:Str := "a 1x1 1:0:1/2:0\n"
abbrev es1:List En:=[("a", (1,1,[[(1,1),(0,1),(1,2),(0,1)]]))]
theorem cc7:B7 false [.str ln1]=some (fo (dD es1) [] []):=by
 have:=aQ5 (t:=ln1) (aH4 (by decide +kernel)) (by decide +kernel)
 rwa [show esT ln1=es1 by kernel_rfl]at this
theorem cd7:B7 false [.str ""]=some (fo (dD []) [] []):=by
 have:=aQ5 (t := "") (aH4 (by decide +kernel)) (by decide +kernel)
 rwa [show esT "" = [] by decide +kernel]at this
abbrev R2(ns:List Int)(es:List En)(x3 x4 x5 x7 x8 x9 x10:Option B)(x:B):Rho:=[‹scr ns›,some (.opq 0),‹.str (Tt es)›,x3,x4,x5,some (.opq 1),x7,x8,x9,x10,‹.str "1:0:1/2:0"›,‹.str ln1›,some x]
theorem mid{g:UX}:E1 bg3 (E1 bg2 (E1 aP9 (E1 aP8 (E1 aP7 (E1 aP6 g))))) (R1 ns es x3 x4 x5 x7 x8 x9 x10) q=g (R2 ns es x3 x4 x5 x7 x8 x9 x10 (.own (sD an8))) q:=by kernel_rfl
noncomputable abbrev tst:Rho->Option Bool:=tB2 neD (A6 (L9 (A8 true)) (A0 (A1 0) A4)) (M6 (A0 (dC (.str "refused")) (A0 ⇑1 A4)))
theorem cx4:∀l:List Str,(∀t∈l,L9 (A8 true) [.str t]=some k8)->∀x,Z0 (F4 0) tst (A1 0) (sD l) [x]=some []
 | [],_,x=>rfl
 | t::l,h,x=>by
  have e:tst [‹.str t›]=some false:=by
   unfold tst tB2
   rw[D4 (x:=k8) (y:=k8) (by
    show L9 (A8 true) [.str t]=_
    exact h t (by simp)) rfl,show neD k8 k8=some (.bool false) by kernel_rfl];rfl
  show(tst [‹.str t›]).bind _=_;rw[e];exact cx4 l (λu hu=>h u (ai _ hu)) _
theorem cB1:aP5 (R2 ns es x3 x4 x5 x7 x8 x9 x10 (.own (sD an8))) q=some (.nx (R2 ns es x3 x4 x5 x7 x8 x9 x10 (.val (.list (sD an8)))) q):=by
 refine Eq.trans (b:=uIf _ _ _ (R2 ns es x3 x4 x5 x7 x8 x9 x10 (.val (.list (sD an8)))) q) rfl ((v7 (q':=q) ?_).trans rfl)
 have e:E4 1 [] (L3 (A1 13)) (F4 0) tst (A1 0) (era (R2 ns es x3 x4 x5 x7 x8 x9 x10 (.val (.list (sD an8)))))=some []:=by
  unfold E4;show(if(sD an8).length<=16777216 then Z0 (F4 0) tst (A1 0) (sD an8) [none] else none)=_;rw[if_pos (by decide)];exact cx4 an8 (λt ht=>cd0 (cC4 t ht)) _
 have e2:tB2 neD (N7 (E4 1 [] (L3 (A1 13)) (F4 0) tst (A1 0))) (N7 A4) (era (R2 ns es x3 x4 x5 x7 x8 x9 x10 (.val (.list (sD an8)))))=some false:=by
  show(A3 neD (N7 (E4 1 [] (L3 (A1 13)) (F4 0) tst (A1 0))) (N7 A4) _).bind d7=_;rw[D4 (x:=.list []) (y:=.list []) (by unfold N7;rw[e];rfl) rfl,show neD (.list []) (.list [])=some (.bool false) by kernel_rfl];rfl
 unfold uTP;rw[e2];rfl
theorem cB0:aP4 (R2 ns es x3 x4 x5 x7 x8 x9 x10 x) q=some (.nx (R2 ns es x3 x4 x5 x7 x8 x9 x10 x) q) :=
 (v7 (q':=q) (Z7 (l8 (bf7 (ds:=[.str "a"]) (bn1 (N8 rfl) cc7) av5 rfl (al8 (d:=F1 (1,1,[[(1,1),(0,1),(1,2),(0,1)]])) (by kernel_rfl))) (N8 rfl) (by kernel_rfl)))).trans rfl
theorem cA9:aP3 (R2 ns es x3 x4 x5 x7 x8 x9 x10 x) q=some (.rt (.bool true) q) :=
 W7 (l8 (bf7 (ds:=[]) (bn1 (N8 rfl) cd7) u7 rfl (b0 (es:=[]) ⟨by simp,by decide⟩)) (N8 rfl) (by kernel_rfl))
theorem main(ns:List Int)(hn:ns.length<=63):aG6 [.list (ns.map eL)]=some (.bool true):=by
 obtain⟨es,bk,x,y,z,e2,L,lb⟩:=lp2 (ns:=ns) hn 3 0 rfl [] [] none none none ⟨by simp,by decide⟩ (by decide);obtain⟨ρ7,q7,e7,x3,x4,x5,x7,x8,x9,x10,h7⟩:=st7 hn L (ρ:=R1 ns es x y z none none none none) (q:=[fo (dD es) bk [],fo (dD es) [] []]) ⟨_,_,_,_,_,_,_,rfl⟩;subst h7;have tl:=L.tl.a
 have go:∃q,bx6 [‹scr ns›,none,none,none,none,none,none,none,none,none,none,none,none,none] []=some (.rt (.bool true) q):=by
  refine⟨q7,?_⟩;unfold bx6;refine(B5 (ρ':=[‹scr ns›,some (.opq 0),none,none,none,none,none,none,none,none,none,none,none,none]) (q':=[fo [] [] []]) ?_).trans ?_
  ·unfold bg5 as7;rw[bm5];rfl
  refine(B5 (ρ':=R0 ns [] none none none) (q':=[fo [] [] []]) (by rw[R0,cl8];rfl)).trans ?_;refine(B5 e2).trans ?_;refine(B5 ((v7 (q':=[fo (dD es) bk []]) (Z7 (l8 (aA4 (j:=0) (ms:=[none]) rfl rfl rfl (bt5 L.gl)) (N8 (d:=.str (Tt es)) rfl) ?_))).trans rfl)).trans ?_
  ·rw[L.txt,av4 tl tl,beq_self_eq_true];rfl
  refine(B5 (cq0 (t:=Tt es) rfl L.tell L.rd)).trans ?_;show E1 bg4 _ (R1 ns es x y z none none none none) [fo (dD es) bk [],fo (dD es) [] []]=_;refine(B5 ((v7 (q':=[fo (dD es) bk [],fo (dD es) [] []]) ?_).trans rfl)).trans ?_
  ·refine(cC2 (Z7 (l8 (S2 (j:=1) rfl rfl u7 (b0 L.gl)) (S2 (j:=0) rfl rfl u7 (b0 L.gl)) (cu0 L)))).trans ?_;exact Z7 (l8 (S2 (j:=1) rfl rfl bm6 bb7) (N8 rfl) (by kernel_rfl))
  refine(B5 ((v7 (q':=[fo (dD es) bk [],fo (dD es) [] []]) (Z7 (l8 (bR5 L.gl (j:=1) rfl rfl) (bR5 L.gl (j:=0) rfl rfl) (bI1 (n:=5) (Ly.lst λx hx=>?_) (by decide))))).trans rfl)).trans ?_
  ·obtain⟨n,_,rfl⟩:=aE.mp hx;exact ce2 _
  refine(B5 e7).trans (mid.trans ((B5 cB1).trans ((B5 cB0).trans cA9)))
 obtain⟨q,go⟩:=go;unfold aG6 aI7;rw[show G9 14 [.list (ns.map eL)]=[‹scr ns›,none,none,none,none,none,none,none,none,none,none,none,none,none] from rfl,go];rfl
end Lk92
namespace Lk92
open PySem PySem.Spec PyProof.Rows L2 G Sh
theorem aD9{K:ag}(x:Str)(t:Tok):bx4 K (.str x) (.str x t):=⟨.str x,⟨t,rfl⟩,λ_=>rfl⟩
def zcs:List (Str×D):=[("GREATEST", (.int 8)),("LETTERS", (.str "abcdefghijklmnopqrstuvwxyz")),("FIGURES", (.str "0123456789")),("MOST_FIGURES", (.int 400))]
def zbl:List Str:=["ValueError", "all", "bool", "dict", "enumerate", "int", "isinstance", "len", "list", "range", "reversed", "sorted", "str", "tuple", "zip"]
def tb0:Tab:=[]
def cl0:Fd:=fdm "_wall" (top 0) 1 ["k"]
def aL9:Fd:=fdm "is_whole" (top 6) 1 ["thing"] true
def ac8:Fd:=fdm "common_divisor" (top 7) 2 ["one", "other", "left_over"] true
def aM2:Fd:=fdm "is_share" (top 8) 1 ["thing", "top", "under"] true
def ax4:Fd:=fdm "is_at_most" (top 9) 2 ["one", "other"] true
def bb0:Fd:={ fdm "is_spot" (top 11) 1 ["thing"] true with hc:=[((36,15),[0])] }
def bb1:Fd:=fdm "is_size" (top 14) 1 ["thing"]
def aM0:Fd:=fdm "is_sized" (top 15) 1 ["thing"]
def aM1:Fd:=fdm "is_sheet" (top 16) 1 ["thing", "spots"]
def bb3:Fd:={ fdm "is_name" (top 21) 1 ["thing"] with tx:=[0] }
def ac6:Fd:={ fdm "written_number" (top 23) 1 ["number", "piece", "pieces"] with own:=[2] }
def ag6:Fd:=fdm "written_share" (top 24) 1 ["share"]
def am2:Fd:=fdm "written_spot" (top 25) 1 ["spot"]
def am3:Fd:=fdm "written_size" (top 26) 1 ["thing"]
def ac7:Fd:=fdm "words_of_sheet" (top 27) 1 ["sheet"]
def ba5:Fd:=fdm "line_of" (top 38) 2 ["name", "sheet"]
def bv6:Fd:=fdm "_law_cell" (top 43) 2 ["_law_script", "_law_k"] true
def ba9:Fd:=fdm "_law_drawn" (top 44) 3 ["_law_script", "_law_k", "_law_many", "_law_cell_here"] true
def bv4:Fd:=fdm "_law_made" (top 45) 2 ["_law_top", "_law_under", "_law_one", "_law_by"] true
def ba6:Fd:=fdm "_law_times" (top 46) 2 ["_law_one", "_law_other"] true
def ba8:Fd:=fdm "_law_share" (top 47) 2 ["_law_script", "_law_at", "_law_under", "_law_drawn_here"] true
def bv3:Fd:={ fdm "_law_spot" (top 48) 2 ["_law_script", "_law_at", "_law_cover"] true with hc:=[((202,33),[2,0,1])] }
def ba7:Fd:={ fdm "_law_sheet" (top 49) 4 ["_law_script", "_law_at", "_law_wide", "_law_high", "_law_spots"] with hc:=[((204,17),[0,1])] }
def bM0:Fd:=fdm "_law_any" (top 50) 2 ["_law_script", "_law_at"]
def am4:Fd:=fdm "_law_share_text" (top 51) 1 ["_law_share_here"]
def bv5:Fd:=fdm "_law_line" (top 52) 2 ["_law_name", "_law_sheet_here", "_law_spots"]
def l7(b:Bool):Fd:={ { fdm "read_number" (top 32) 1 ["word"] with tx:=[0] } with up:=bif b then 2 else 0,gb:=(.int 0) }
def aa0(b:Bool):Fd:={ fdm "read_share" (top 33) 1 ["word", "parts", "under"] with up:=bif b then 2 else 0,gb:=.none }
def af4(b:Bool):Fd:={ fdm "read_spot" (top 34) 1 ["word"] with up:=bif b then 2 else 0,gb:=.none }
def af5(b:Bool):Fd:={ fdm "read_size" (top 35) 1 ["word", "parts"] with up:=bif b then 2 else 0,gb:=.none }
def ax5:Fd:={ fdm "folio_text" (top 39) 1 ["folio"] with hc:=[((164,19),[0])] }
def y6(b:Bool):Fd:={ { fdm "read_sheet" (top 36) 1 ["words", "size", "spots"] with hc:=[((158,12),[0])] } with up:=bif b then 2 else 0,gb:=bad }
def af6(b:Bool):Fd:={ fdm "read_line" (top 40) 2 ["folio", "line", "words", "name", "sheet"] with up:=bif b then 2 else 0,gb:=.none }
def aa1(b:Bool):Fd:={ fdm "read_folio" (top 41) 1 ["text", "folio", "line"] with up:=bif b then 2 else 0,gb:=bad }
def bR4:Fd:={ fdm "law" (top 55) 1 ["_law_script", "_law_folio", "_law_text", "_law_k", "_law_name", "_law_sheet_here", "_law_new", "_law_place", "_law_sign", "_law_spoilt", "_law_told_here", "_law_one", "_law_line_here", "_law_odd"] with own:=[13],tx:=[2,9,11,12],fz:=[(256,[13])],hc:=[((238,7),[6]),((238,72),[1])] }
def F7(j:Nat):Stmt:=(cx5 (top 18)).getD j (.Pass ⟨0,0,0,0⟩)
def P2(j:Nat):Stmt:=(cx5 (top 31)).getD j (.Pass ⟨0,0,0,0⟩)
def ax2:Fd:=fdm "set_sheet" (F7 1) 3 ["self", "name", "sheet"]
def ax1:Fd:=fdm "take_step" (F7 2) 4 ["self", "word", "name", "sheet"]
def ck9:Fd:=fdm "lay" (F7 3) 3 ["self", "name", "sheet", "was_there"]
def bv0:Fd:=fdm "fetch" (F7 4) 2 ["self", "name"]
def bu9:Fd:=fdm "names" (F7 7) 1 ["self"]
def ba3:Fd:=fdm "counts" (F7 10) 1 ["self"]
def ao1:Fd:=fdm "__init__" (F7 0) 1 ["self"]
def ax3:Fd:=fdm "is_at_end" (P2 1) 1 ["self"]
def ao0:Fd:=fdm "__init__" (P2 0) 2 ["self", "text"]
def l6(b:Bool):Fd:={ fdm "word_ahead" (P2 2) 1 ["self"] with up:=bif b then 2 else 0,gb:=bad }
def y0(b:Bool):Fd:={ fdm "take_word" (P2 3) 1 ["self", "word"] with up:=bif b then 2 else 0,gb:=bad }
def bv2:Fd:=fdm "_law_told" (top 54) 1 ["_law_text", "_law_e"]
def aF2:Fd:=fdm "_law_refused" (top 53) 1 ["_law_e", "_law_flags"]
structure Ms (K:ag) (ctrue cfalse:eW):Prop where
 m_set_sheet:KM K ctrue "set_sheet" "Folio.set_sheet" (F7 1)
 m_take_step:KM K ctrue "take_step" "Folio.take_step" (F7 2)
 m_lay:KM K ctrue "lay" "Folio.lay" (F7 3)
 m_fetch:KM K ctrue "fetch" "Folio.fetch" (F7 4)
 m_names:KM K ctrue "names" "Folio.names" (F7 7)
 m_counts:KM K ctrue "counts" "Folio.counts" (F7 10)
 m_init_Folio:KM K ctrue "__init__" "Folio.__init__" (F7 0)
 m_is_at_end:KM K cfalse "is_at_end" "Words.is_at_end" (P2 1)
 m_init_Words:KM K cfalse "__init__" "Words.__init__" (P2 0)
 m_word_ahead:KM K cfalse "word_ahead" "Words.word_ahead" (P2 2)
 m_take_word:KM K cfalse "take_word" "Words.take_word" (P2 3)
abbrev ai8:List Str:=["sheets", "steps_back", "steps_forth"]
abbrev ai7:List Str:=["words", "words_taken"]
abbrev zfd:List (Str×Bool×Nat):=[("sheets", true,2),("steps_back", true,1),("steps_forth", true,1),("words", false,0),("words_taken", false,0)]
structure Qs (K:ag):Prop where
 h_wall:KF K "_wall" (top 0)
 h_is_whole:KF K "is_whole" (top 6)
 h_common_divisor:KF K "common_divisor" (top 7)
 h_is_share:KF K "is_share" (top 8)
 h_is_at_most:KF K "is_at_most" (top 9)
 h_is_spot:KF K "is_spot" (top 11)
 h_is_size:KF K "is_size" (top 14)
 h_is_sized:KF K "is_sized" (top 15)
 h_is_sheet:KF K "is_sheet" (top 16)
 h_is_name:KF K "is_name" (top 21)
 h_written_number:KF K "written_number" (top 23)
 h_written_share:KF K "written_share" (top 24)
 h_written_spot:KF K "written_spot" (top 25)
 h_written_size:KF K "written_size" (top 26)
 h_words_of_sheet:KF K "words_of_sheet" (top 27)
 h_read_number:KF K "read_number" (top 32)
 h_read_share:KF K "read_share" (top 33)
 h_read_spot:KF K "read_spot" (top 34)
 h_read_size:KF K "read_size" (top 35)
 h_read_sheet:KF K "read_sheet" (top 36)
 h_line_of:KF K "line_of" (top 38)
 h_folio_text:KF K "folio_text" (top 39)
 h_read_line:KF K "read_line" (top 40)
 h_read_folio:KF K "read_folio" (top 41)
 h_l_cell:KF K "_law_cell" (top 43)
 h_l_drawn:KF K "_law_drawn" (top 44)
 h_l_made:KF K "_law_made" (top 45)
 h_l_times:KF K "_law_times" (top 46)
 h_l_share:KF K "_law_share" (top 47)
 h_l_spot:KF K "_law_spot" (top 48)
 h_l_sheet:KF K "_law_sheet" (top 49)
 h_l_any:KF K "_law_any" (top 50)
 h_l_share_text:KF K "_law_share_text" (top 51)
 h_l_line:KF K "_law_line" (top 52)
 h_l_refused:KF K "_law_refused" (top 53)
 h_l_told:KF K "_law_told" (top 54)
 h_law:KF K "law" (top 55)
 h_cls:∃ctrue cfalse:eW,KCl K ctrue "Folio" ai8/\KCl K cfalse "Words" ai7/\Ms K ctrue cfalse
 h_bad:(ab5 K "GlazeError" && bg1 K "NoText" "GlazeError" && ab5 K "NoText" && bE6 K)=true
theorem zfc{K:ag}{C:CT}(cFolio:KCl K (C true) "Folio" ai8)(cWords:KCl K (C false) "Words" ai7):∀kd,FoC K (C kd) (Og5.fn ⟨[],[],[],zfd,[],[]⟩ kd)
 | true=>cFolio.foc
 | false=>cWords.foc
theorem cy7{P:dU}{w:World}{K:ag}{mg:Str->Option eU}(M:Md K mg zcs zbl)(q:Qs K){C:CT}(cFolio:KCl K (C true) "Folio" ai8)(cWords:KCl K (C false) "Words" ai7)(z:Ms K (C true) (C false)):∃tab O,O.fd=zfd/\rdJ tab zcs zbl O bR4=aG6/\∀base:Heap,ZOk false P w K mg base C 48 tab O:=by
 have Fc:=zfc cFolio cWords;have hb:=q.h_bad;simp only[ah]at hb;have nt:NT K mg:=ct8 M hb.1.2;refine⟨?tab,?O,?f,?e,λbase=>?t⟩
 case t =>
  have t:TOk false P w K mg base 0 tb0:=TOk.nil;have t:=t.add M cl0 q.h_wall cm4;have t:=t.add M aL9 q.h_is_whole O3;have t:=t.add M ac8 q.h_common_divisor G6;have t:=t.add M aM2 q.h_is_share T4;have t:=t.add M ax4 q.h_is_at_most K4;have t:=t.add M bb0 q.h_is_spot O4;have t:=t.add M bb1 q.h_is_size W4;have t:=t.add M aM0 q.h_is_sized Y7;have t:=t.add M aM1 q.h_is_sheet O5;have t:=t.add M bb3 q.h_is_name W5;have t:=t.add M ac6 q.h_written_number E3;have t:=t.add M ag6 q.h_written_share J4;have t:=t.add M am2 q.h_written_spot N4;have t:=t.add M am3 q.h_written_size N5;have t:=t.add M ac7 q.h_words_of_sheet F3;have t:=t.add M ba5 q.h_line_of W1;have t:=t.add M bv6 q.h_l_cell an3;have t:=t.add M ba9 q.h_l_drawn B4;have t:=t.add M bv4 q.h_l_made W3;have t:=t.add M ba6 q.h_l_times ad8;have t:=t.add M ba8 q.h_l_share k7;have t:=t.add M bv3 q.h_l_spot P7;have t:=t.add M ba7 q.h_l_sheet W2;have t:=t.add M bM0 q.h_l_any ab4;have t:=t.add M am4 q.h_l_share_text G5;have t:=t.add M bv5 q.h_l_line i4;have t:TOk false P w K mg base 26 _:=t;have v:ZOk false P w K mg base C 26 _ ⟨[],[],[],zfd,["folio"],[]⟩:=ZOk.start t;have v:ZOk false P w K mg base C 27 _ _:=v.addM M Fc true ax2 z.m_set_sheet U2 2;have v:ZOk false P w K mg base C 28 _ _:=v.addM M Fc true ax1 z.m_take_step d8 3;have v:ZOk false P w K mg base C 29 _ _:=v.addM M Fc true ck9 z.m_lay aW2 2;have v:ZOk false P w K mg base C 30 _ _:=v.addM M Fc true bv0 z.m_fetch R3 1;have v:ZOk false P w K mg base C 31 _ _:=v.addM M Fc true bu9 z.m_names N1 0;have v:ZOk false P w K mg base C 32 _ _:=v.addM M Fc true ba3 z.m_counts an0 0;have v:ZOk false P w K mg base C 34 _ _:=v.addI M Fc true cFolio ao1 z.m_init_Folio rfl ai3 0;have v:ZOk false P w K mg base C 35 _ _:=v.addM M Fc false ax3 z.m_is_at_end d9 0;have v:ZOk false P w K mg base C 37 _ _:=v.addI M Fc false cWords ao0 z.m_init_Words rfl Y3 1;have v:ZOk false P w K mg base C 38 _ _:=v.addD M Fc ax5 q.h_folio_text K3 0;have v0:=v;have v:ZOk false P w K mg base C 39 _ _:=v.addP M (l7 false) q.h_read_number (G1 false);have v:ZOk false P w K mg base C 40 _ _:=v.addP M (aa0 false) q.h_read_share (N6 false);have v:ZOk false P w K mg base C 41 _ _:=v.addP M (af4 false) q.h_read_spot (P6 false);have v:ZOk false P w K mg base C 42 _ _:=v.addP M (af5 false) q.h_read_size (U3 false);have v:ZOk false P w K mg base C 43 _ _:=v.addM M Fc false (l6 false) z.m_word_ahead (N0 false) 0;have v:ZOk false P w K mg base C 44 _ _:=v.addM M Fc false (y0 false) z.m_take_word (E6 false) 0;have v:ZOk false P w K mg base C 45 _ _:=v.addD M Fc (y6 false) q.h_read_sheet (M9 false) 0;have v:ZOk false P w K mg base C 46 _ _:=v.addD M Fc (af6 false) q.h_read_line (G8 false) 0;have v:ZOk false P w K mg base C 47 _ _:=v.addF M Fc (aa1 false) q.h_read_folio (B7 false);have y:ZOk true P w K mg base C 38 _ _:=v0.up;have y:ZOk true P w K mg base C 39 _ _:=y.addP M (l7 true) q.h_read_number (G1 true) (nt:=λ_=>nt);have y:ZOk true P w K mg base C 40 _ _:=y.addP M (aa0 true) q.h_read_share (N6 true) (nt:=λ_=>nt);have y:ZOk true P w K mg base C 41 _ _:=y.addP M (af4 true) q.h_read_spot (P6 true) (nt:=λ_=>nt);have y:ZOk true P w K mg base C 42 _ _:=y.addP M (af5 true) q.h_read_size (U3 true) (nt:=λ_=>nt);have y:ZOk true P w K mg base C 43 _ _:=y.addM M Fc false (l6 true) z.m_word_ahead (N0 true) 0 (nt:=λ_=>nt);have y:ZOk true P w K mg base C 44 _ _:=y.addM M Fc false (y0 true) z.m_take_word (E6 true) 0 (nt:=λ_=>nt);have y:ZOk true P w K mg base C 45 _ _:=y.addD M Fc (y6 true) q.h_read_sheet (M9 true) 0 (nt:=λ_=>nt);have y:ZOk true P w K mg base C 46 _ _:=y.addD M Fc (af6 true) q.h_read_line (G8 true) 0 (nt:=λ_=>nt);have y:TOk true P w K mg base 47 _:=TOk.addY y M Fc (aa1 true) q.h_read_folio (A8 true) (nt:=λ_=>nt);have v:ZOk false P w K mg base C 48 _ _:=v.told y M rfl rfl bv2 aF2 q.h_l_told q.h_l_refused hb.1.1.1 hb.1.1.2 hb.1.2 hb.2 ⟨_,_,_,_,_,_,_,_,_,_,_,rfl⟩ ⟨_,_,_,_,_,_,_,_,_,_,_,_,_,_,_,_,_,_,_,_,_,_,_,_,_,_,_,_,_,_,_,_,_,_,_,_,_,_,_,_,_,_,_,_,rfl,rfl,rfl⟩ rfl rfl rfl rfl (by kernel_rfl) (by kernel_rfl);exact v
 case f=>rfl
 case e=>kernel_rfl
theorem zmd{K:ag}{h:Heap}{mg:Str->Option eU}{g0 g1 g2 g3:Tok}(X:K.In h)(G:h.Ns dS mg)(p0:aP K dS "GREATEST" = some (some (.int 8 g0)))(p1:aP K dS "LETTERS" = some (some (.str "abcdefghijklmnopqrstuvwxyz" g1)))(p2:aP K dS "FIGURES" = some (some (.str "0123456789" g2)))(p3:aP K dS "MOST_FIGURES" = some (some (.int 400 g3)))(z0:aP K dS "ValueError" = some none)(z1:aP K dS "all" = some none)(z2:aP K dS "bool" = some none)(z3:aP K dS "dict" = some none)(z4:aP K dS "enumerate" = some none)(z5:aP K dS "int" = some none)(z6:aP K dS "isinstance" = some none)(z7:aP K dS "len" = some none)(z8:aP K dS "list" = some none)(z9:aP K dS "range" = some none)(z10:aP K dS "reversed" = some none)(z11:aP K dS "sorted" = some none)(z12:aP K dS "str" = some none)(z13:aP K dS "tuple" = some none)(z14:aP K dS "zip" = some none):Md K mg zcs zbl:=by
 refine⟨λx v e=>cN X G e,λx d e=>?_,λx e=>?_⟩
 ·unfold zcs at e;rw[aJ]at e;split at e
  ·rename_i q;cases e;simp only[beq_iff_eq]at q;subst q;exact⟨_,(aE0 8 g0),cN X G p0⟩
  rw[aJ]at e;split at e
  ·rename_i q;cases e;simp only[beq_iff_eq]at q;subst q;exact⟨_,(aD9 "abcdefghijklmnopqrstuvwxyz" g1),cN X G p1⟩
  rw[aJ]at e;split at e
  ·rename_i q;cases e;simp only[beq_iff_eq]at q;subst q;exact⟨_,(aD9 "0123456789" g2),cN X G p2⟩
  rw[aJ]at e;split at e
  ·rename_i q;cases e;simp only[beq_iff_eq]at q;subst q;exact⟨_,(aE0 400 g3),cN X G p3⟩
  cases e
 ·unfold zbl at e;simp only[List.contains_cons,List.contains_nil,dG,cw,beq_iff_eq]at e;rcases e with e|e|e|e|e|e|e|e|e|e|e|e|e|e|e
  ·subst e;exact aT X G z0
  ·subst e;exact aT X G z1
  ·subst e;exact aT X G z2
  ·subst e;exact aT X G z3
  ·subst e;exact aT X G z4
  ·subst e;exact aT X G z5
  ·subst e;exact aT X G z6
  ·subst e;exact aT X G z7
  ·subst e;exact aT X G z8
  ·subst e;exact aT X G z9
  ·subst e;exact aT X G z10
  ·subst e;exact aT X G z11
  ·subst e;exact aT X G z12
  ·subst e;exact aT X G z13
  ·subst e;exact aT X G z14
theorem cn1{l:PySem.W.OpenLaw}{q:dU}{loose:List Str}{XP:(Str->Option eU)->Heap->Prop}{YP:World->Heap->Prop}{d:DefRec}{K:Params->ag}(hn:l.most=some 63)(hdf:d.params.defaults=[])
  (hY:∀(w:World) (h:Heap),YP w h->(K w.params).In h) (hd:d.name = "law")
  (F:∀(w:World) (mg:Str->Option eU) (h:Heap),(K w.params).In h->h.Ns dS mg->Md (K w.params) mg zcs zbl)
  (Q:∀w:World,Qs (K w.params))
  (M:∀ns:List Int,ns.length<=63->aG6 [.list (ns.map eL)]=some (.bool true)) :
  PySem.W.WalkO q loose XP YP l.row.toRowW d [] (λf vs=>PySem.call f vs) :=
 L2.bz1 (n:=63) (k:=49) (x := "_law_script") (CX:=λ_=>CX0) (sp:=λw=>spF (K w.params) 1 aG6) hn (by decide) hdf ⟨rfl,by decide,by decide⟩ hY
  (λw mg fa h hk hg hm=>by
   have N:=F w mg h hk hg;have q:=Q w;rw[hd]at hm;obtain⟨ctrue,cfalse,cFolio,cWords,z⟩:=q.h_cls
   let C:CT:=λb=>match b with|true=>ctrue|false=>cfalse
   obtain⟨_,O,ef,e,t⟩:=cy7 (C:=C) N q cFolio cWords z;have Fc:∀kd,FoC (K w.params) (C kd) (O.fn kd):=by unfold Og5.fn;rw[ef];exact zfc (C:=C) cFolio cWords
   obtain⟨fd,b1,b2⟩:=bo0 N Fc t bR4 q.h_law e hm
   exact⟨fd,b1,λbase _ _=>b2 base⟩)
  (λw H a ns hl _ hS=>⟨rfl,H,[.list (ns.map eL)],.bool true,B0.refl _,⟨.ref a,[],rfl,⟨a,_,rfl,hS,Reps.ints ns⟩,rfl⟩,M ns hl,λv H' Hf' g r=>r⟩) λ_ _ _ _ _ z=>z
end Lk92
def PySem.W.Fast.tw6229015030036943443:Unit:=()
def PySem.W.Fast.tw15355745525578771980:Unit:=()
def PySem.W.Fast.tw13465113923567475368:Unit:=()
def PySem.W.Fast.tw10888913606030509308:Unit:=()
def PySem.W.Fast.tw611172233869955419:Unit:=()
def PySem.W.Fast.tw674067074860811643:Unit:=()
def PySem.W.Fast.tw6563856281253130917:Unit:=()
def PySem.W.Fast.tw16386575282711558757:Unit:=()
def PySem.W.Fast.tw16007033258657649264:Unit:=()
def PySem.W.Fast.tw18292178439466397481:Unit:=()
def PySem.W.Fast.tw9179895904033733050:Unit:=()
def PySem.W.Fast.tw6701659326189685248:Unit:=()
def PySem.W.Fast.tw11270738917394753458:Unit:=()
def PySem.W.Fast.tw13833986734331766384:Unit:=()
def PySem.W.Fast.tw14110906946829824467:Unit:=()
def PySem.W.Fast.tw2379578772257303743:Unit:=()
def PySem.W.Fast.tw10214289838123110390:Unit:=()
def PySem.W.Fast.tw11217949245512710843:Unit:=()
def PySem.W.Fast.tw13067554500527813420:Unit:=()
def PySem.W.Fast.tw14978164488068070173:Unit:=()
def PySem.W.Fast.tw11817347591762816130:Unit:=()
def PySem.W.Fast.tw10850780914036656826:Unit:=()
def PySem.W.Fast.tw6252624102325390784:Unit:=()
def PySem.W.Fast.tw4793016731067116681:Unit:=()
def PySem.W.Fast.tw3007328712596627861:Unit:=()
def PySem.W.Fast.tw16410890398419867725:Unit:=()
def PySem.W.Fast.tw9034526686010561485:Unit:=()
def PySem.W.Fast.tw281531026321882099:Unit:=()
def PySem.W.Fast.tw1612761774946733793:Unit:=()
def PySem.W.Fast.tw4653135422780323445:Unit:=()
def PySem.W.Fast.tw16807145374517997825:Unit:=()
def PySem.W.Fast.tw15172709149208451661:Unit:=()
def PySem.W.Fast.tw9088428993808755389:Unit:=()
def PySem.W.Fast.tw7473704608860391410:Unit:=()
def PySem.W.Fast.tw4772974726271425558:Unit:=()
def PySem.W.Fast.tw14891656587742225883:Unit:=()
def PySem.W.Fast.tw9864128879953047510:Unit:=()
def PySem.W.Fast.tw1332346339121237657:Unit:=()
def PySem.W.Fast.tw9952837746429912189:Unit:=()
def PySem.W.Fast.tw11027553267763364914:Unit:=()
def PySem.W.Fast.tw14544115275541455350:Unit:=()
def PySem.W.Fast.tw8160144316190415825:Unit:=()
def PySem.W.Fast.tw17225974418024885315:Unit:=()
def PySem.W.Fast.tw4810409308154596746:Unit:=()
def PySem.W.Fast.tw6322148936319405187:Unit:=()
def PySem.W.Fast.tw6320044178117264013:Unit:=()
def PySem.W.Fast.tw6707123119745247575:Unit:=()
def PySem.W.Fast.tw5382088144099718140:Unit:=()
def PySem.W.Fast.tw9423521054459531364:Unit:=()
def PySem.W.Fast.tw3621155538782898814:Unit:=()
def PySem.W.Fast.tw5807938020080477183:Unit:=()
def PySem.W.Fast.tw3053948946341763209:Unit:=()
def PySem.W.Fast.tw15819267425846259466:Unit:=()
def PySem.W.Fast.tw17263816428343499098:Unit:=()
def PySem.W.Fast.tw16114860564451932006:Unit:=()
def PySem.W.Fast.tw14854522630682878907:Unit:=()
def PySem.W.Fast.tw3146853406523786429:Unit:=()
def PySem.W.Fast.tw10254501153138833452:Unit:=()
def PySem.W.Fast.tw18351063446544947532:Unit:=()
def PySem.W.Fast.tw17133170449590826571:Unit:=()
def PySem.W.Fast.tw4893511514600151011:Unit:=()
def PySem.W.Fast.tw11404903387231233215:Unit:=()
def PySem.W.Fast.tw10190188655737796066:Unit:=()
def PySem.W.Fast.tw6892849061855634222:Unit:=()
def PySem.W.Fast.tw1359096221883913482:Unit:=()
def PySem.W.Fast.tw13440210340989776928:Unit:=()
def PySem.W.Fast.tw7625393726857747322:Unit:=()
def PySem.W.Fast.tw12268965213911549220:Unit:=()
def PySem.W.Fast.tw3101984479530294146:Unit:=()
def PySem.W.Fast.tw11702972031437046442:Unit:=()
def PySem.W.Fast.tw8887010682419982857:Unit:=()
def PySem.W.Fast.tw5085240727193336367:Unit:=()
def PySem.W.Fast.tw15591637067108618283:Unit:=()
def PySem.W.Fast.tw7243323834182328876:Unit:=()
def PySem.W.Fast.tw17300617176598841234:Unit:=()
def PySem.W.Fast.tw15365713039121228151:Unit:=()
def PySem.W.Fast.tw5861868874428562387:Unit:=()
def PySem.W.Fast.tw2374224543143539176:Unit:=()
def PySem.W.Fast.tw15136533823118523040:Unit:=()
def PySem.W.Fast.tw11029136862500419524:Unit:=()
def PySem.W.Fast.tw9104955006784418070:Unit:=()
def PySem.W.Fast.tw9211763588064863991:Unit:=()
def PySem.W.Fast.tw3795479175473341095:Unit:=()
def PySem.W.Fast.tw6318077042974594407:Unit:=()
def PySem.W.Fast.tw15739120487805202222:Unit:=()
def PySem.W.Fast.tw5462062677116588830:Unit:=()
def PySem.W.Fast.tw8554842487694322230:Unit:=()
def PySem.W.Fast.tw9052417504716410820:Unit:=()
def PySem.W.Fast.tw4468771436428924826:Unit:=()
def PySem.W.Fast.tw4589837675867937816:Unit:=()
def PySem.W.Fast.tw14949331675960417048:Unit:=()
def PySem.W.Fast.tw14466911031950492679:Unit:=()
def PySem.W.Fast.tw6501768621842640330:Unit:=()
def PySem.W.Fast.tw11751897065342004256:Unit:=()
def PySem.W.Fast.tw16133592999354802764:Unit:=()
def PySem.W.Fast.tw11179574958065322474:Unit:=()
def PySem.W.Fast.tw11116460598086721598:Unit:=()
def PySem.W.Fast.tw15419655905520152110:Unit:=()
def PySem.W.Fast.tw18254163524064701360:Unit:=()
def PySem.W.Fast.tw15748513526246523909:Unit:=()
def PySem.W.Fast.tw10420091573836393205:Unit:=()
def PySem.W.Fast.tw2011167572526326920:Unit:=()
def PySem.W.Fast.tw17777418214968322643:Unit:=()
def PySem.W.Fast.tw3966577745241195313:Unit:=()
def PySem.W.Fast.tw4331972256393611379:Unit:=()
def PySem.W.Fast.tw14070929347373485029:Unit:=()
def PySem.W.Fast.tw2375598122254580927:Unit:=()
def PySem.W.Fast.tw9689576310870225813:Unit:=()
def PySem.W.Fast.tw3874639150555488876:Unit:=()
def PySem.W.Fast.tw3997384339011717650:Unit:=()
def PySem.W.Fast.tw12590148679853782788:Unit:=()
def PySem.W.Fast.tw4285027851724366876:Unit:=()
def PySem.W.Fast.tw1698011231361474971:Unit:=()
def PySem.W.Fast.tw8836870358238647679:Unit:=()
def PySem.W.Fast.tw8699189216557513468:Unit:=()
def PySem.W.Fast.tw5670799458772034076:Unit:=()
def PySem.W.Fast.tw18141625191323594298:Unit:=()
def PySem.W.Fast.tw9148272042770625238:Unit:=()
def PySem.W.Fast.tw13035345869067794167:Unit:=()
def PySem.W.Fast.tw10944629246270096312:Unit:=()
def PySem.W.Fast.tw5358110223957581141:Unit:=()
def PySem.W.Fast.tw14957710470776563743:Unit:=()
def PySem.W.Fast.tw5139804840582146348:Unit:=()
def PySem.W.Fast.tw13308979424240195815:Unit:=()
def PySem.W.Fast.tw16995945712450703545:Unit:=()
def PySem.W.Fast.tw13202490827936405638:Unit:=()
def PySem.W.Fast.tw17983356765522648051:Unit:=()
def PySem.W.Fast.tw4430809147905755394:Unit:=()
def PySem.W.Fast.tw8475518211254037019:Unit:=()
def PySem.W.Fast.tw10396233653908965913:Unit:=()
def PySem.W.Fast.tw8422443671902300606:Unit:=()
def PySem.W.Fast.tw7971597946620403958:Unit:=()
namespace Lk92
open PySem PySem.W PyProof.Rows
set_option maxHeartbeats 0 in
open_top head for PySem.Challenge.rw_glazework_k92_folio_texts
end Lk92
open PySem PySem.W PyProof.Rows
set_option maxRecDepth 100000 in
set_option maxHeartbeats 0 in
theorem PySem.Challenge.cw_glazework_k92_folio_texts_holds : PySem.Challenge.rw_glazework_k92_folio_texts.Holds := by
 refine Lk92.head ?_
 k_fill
 refine Lk92.cn1 (l:=PySem.Challenge.rw_glazework_k92_folio_texts) rfl rfl (λw h Y=>PySem.W.kIn_of Y) rfl ?F ?Q Lk92.main
 case F =>
  intro w mg h KX G
  refine' Lk92.zmd KX G ?p0 ?p1 ?p2 ?p3 ?z0 ?z1 ?z2 ?z3 ?z4 ?z5 ?z6 ?z7 ?z8 ?z9 ?z10 ?z11 ?z12 ?z13 ?z14
  (case p0=>k_is);(case p1=>k_is);(case p2=>k_is);(case p3=>k_is);(case z0=>k_is);(case z1=>k_is);(case z2=>k_is);(case z3=>k_is);(case z4=>k_is);(case z5=>k_is);(case z6=>k_is);(case z7=>k_is);(case z8=>k_is);(case z9=>k_is);(case z10=>k_is);(case z11=>k_is);(case z12=>k_is);(case z13=>k_is);(case z14=>k_is)
 case Q =>
  intro w;constructor
  case h_bad=>kernel_rfl
  case h_cls =>
   refine' ⟨_,_,G.bo5 ?aFolio ?bFolio ?cFolio ?pgFolio ?hdFolio ?poFolio ?saFolio ?isFolio ?nFolio,G.bo5 ?aWords ?bWords ?cWords ?pgWords ?hdWords ?poWords ?saWords ?isWords ?nWords,?ms⟩
   (case aFolio=>k_is);(case bFolio=>k_is);(case cFolio=>k_is);(case pgFolio=>k_is);(case hdFolio=>k_is);(case poFolio=>k_is);(case saFolio=>k_is);(case aWords=>k_is);(case bWords=>k_is);(case cWords=>k_is);(case pgWords=>k_is);(case hdWords=>k_is);(case poWords=>k_is);(case saWords=>k_is)
   case isFolio=>kernel_rfl
   case nFolio=>intro f hf;simp only[ax,aS,or_false]at hf;rcases hf with rfl|rfl|rfl<;>k_is
   case isWords=>kernel_rfl
   case nWords=>intro f hf;simp only[ax,aS,or_false]at hf;rcases hf with rfl|rfl<;>k_is
   case ms =>
    constructor
    all_goals (refine' G.cu6 ?a ?i ?l ?c ?k;(case a=>k_is);(case i=>k_is);(case l=>k_is);(case c=>k_is);(case k=>k_is))
  all_goals (refine' G.cu7 ?a ?l ?c ?k;(case a=>k_is);(case l=>k_is);(case c=>k_is);(case k=>k_is))
