import PyProof.Rows.All
import Wide.All
import OpenK.AllK
import Wide.FinOn
import Lean
import PyProof.EqAt
import PyProof.EqKinds
import PyProof.TupleCall
import PySem.Challenge.RW_glazework_k70_whole_painter
open Option renaming none→Oa,some→Ob
open PySem.W renaming Frag→aa,keepIn→aG,nsIn→aW,mg_none_of→ba,fnOf→bp,excIn→bM,codeIn→bT,mg_of→cZ
open Bool renaming and_eq_true→ae,false_ne_true→aB,not_eq_true'→bf,false_eq_true→bg,and_false→dy
open List renaming getElem?_eq_some_iff→ag,size_toArray→ai,replicate→aj,mem_append_right→ak,mem_append_left→am,getElem?_eq_getElem→ao,getElem?_set_ne→aq,mem_cons→au,getElem?_map→av,mem_cons_self→aw,range→ax,length_map→ay,length_append→az,append_nil→aA,getElem?_set_self→aC,mem_append→aD,append_assoc→aF,lookup_cons→aH,length_cons→aJ,getElem?_append_right→aK,getElem?_append_left→aM,getD_eq_getElem?_getD→aN,mem_range→aO,length_range→aP,all_eq_true→aQ,not_mem_nil→aR,mem_map→aT,all_cons→aV,nodup_append→aY,getElem?_replicate→be,mem_singleton→bh,getElem_mem→bj,nodup_cons→bn,drop_eq_getElem_cons→bu,getElem?_set→bv,length_replicate→bw,getElem?_eq_none→bA,replicate_succ→bB,take_of_length_le→bC,map_map→bE,getElem?_zip_eq_some→bF,mem_of_mem_take→bH,mem_of_mem_drop→bI,filterMap_cons→bL,contains_iff_mem→bN,Sublist→bP,map_append→bQ,flatten_cons→bR,mem_of_getElem?→bS,length_drop→bU,map_congr_left→bV,length_set→bY,lookup→bZ,ext_getElem?→cb,length_take→cn,any_cons→cq,getElem?_range→cr,getElem_append_right→cu,mem_filterMap→cy,reverse_cons→cF,range_succ_eq_map→cG,drop_of_length_le→cH,map_cons→cI,take_append_drop→cL,Perm→cO,foldl→cQ,length_reverse→cS,mem_replicate→cV,map_replicate→cW,append_of_mem→cX,getElem_append_left→db,drop_length→de,filter_cons_of_pos→di,filter_cons_of_neg→dj,map_set→dk,of_mem_zip→dl,forIn_cons→dm,map_eq_append_iff→dv,map_drop→dz,map_take→dA
open Nat renaming le_refl→ah,lt_of_lt_of_le→aE,le_trans→aL,ne_of_lt→aS,zero_le→aU,le_add_right→bi,lt_irrefl→bq,mul_pos→bz,lt_or_ge→bD,mul_le_mul→bG,mul_comm→bK,lt_of_le_of_lt→bW,gcd→ce,le_of_lt→cf,sub_self→ci,pow_le_pow_right→ck,le_succ→cw,pos_of_ne_zero→cz,lt_succ_self→cJ,div_lt_of_lt_mul→cM,zero_add→cP,mod_lt→cT,add_comm→dh,not_lt_zero→dq,div_le_self→dt
open Int renaming natCast_mul→aI,toNat_natCast→aZ,natAbs_natCast→bX,sub_zero→cg,natCast_nonneg→cA,le_trans→cD,toNat_of_nonneg→cR,le_refl→cY,natCast_add→du
open Classical renaming byContradiction→aX,propDecidable→cC,choose_spec→dw
open Option renaming some→bc,map→bO,isSome_iff_exists→cx,bind_some→cK,map_some→cN
open Array renaming length_toList→br,size_append→bJ,mem_toList_iff→cj,toList_append→cU
open PySem renaming wpAny_bind→dB,wpAny_pure→dD,wpAny_mono→dE,wpAny_newObj_type→dF,wpAny_truthy_bool→dG,wpAny_field→dH,starEach→dI,sizeLine→dJ,sizeLine_eq→dL,compareOp→dM,mainGlobals→dN,Program→dO,Around→dP,FuncData→dQ,bootBuiltins→dR,binaryOp→dS,Keyword→dU,assignEach→dW,foldedSetIterable→dX,call_meets→dY,attributeBase→dZ,wpAny→eh,model→ez
open PySem.Heap renaming get?_push_of_some→eA,lt_size→eB,get?_push_size→eD
open PySem.SeqAt renaming shaped→eE
open PySem.PyData renaming eqv→eF,int→eG,bool→eI,canLay0→eJ
open PySem.Value renaming ref→eK,none→eL
open PySem.NameKind renaming free→eM
open PySem.Str renaming empty→eO
open PySem renaming Value→eP
open PySem renaming Shared→eQ
open PySem renaming Addr→eR
set_option compiler.extract_closed false
noncomputable section
set_option autoImplicit true
set_option Elab.async false
set_option linter.all false
set_option maxRecDepth 100000
def xbo{α β:Type}{o:Option α}{f:α->Option β}{b:β}(h:o.bind f=Ob b):∃a,o=Ob a/\f a=Ob b:=Option.bind_eq_some_iff.mp h
def xmo{α β:Type}{o:Option α}{f:α->β}{b:β}(h:o.map f=Ob b):∃a,o=Ob a/\f a=b:=Option.map_eq_some_iff.mp h
def xmm{α:Type}{a:α}{l:List α}(b:α)(h:a∈l):a∈b::l:=List.mem_cons_of_mem b h
namespace L2
open PySem PySem.Spec PyProof.Rows
noncomputable abbrev Key:=Sum Int Str
noncomputable def ce5:Key->eP->Bool
 | .inl k,v=>Value.isInt k v
 | .inr x,v=>Value.isStrOf x v
noncomputable def cP1(w:World):Key->Int
 | .inl k=>hashInt k
 | .inr x=>hashStr w x
def P9:∀{k:Key}{v:eP},ce5 k v=true->(∃i t,k=Sum.inl i/\v=Value.int i t)\/(∃x t,k=Sum.inr x/\v=Value.str x t)
 | .inl i,v,h=>by
  obtain⟨t,e⟩:=Value.isInt_shape (k:=i) (v:=v) h;exact .inl ⟨i,t,rfl,e⟩
 | .inr x,v,h=>by
  obtain⟨t,e⟩:=Value.isStrOf_shape (x:=x) (v:=v) h;exact .inr ⟨x,t,rfl,e⟩
def cr3(a b:Int):decide ((Sum.inl a:Key)=Sum.inl b)=(a==b):=by
 by_cases e:a=b
 .subst e;simp
 .have h:¬(Sum.inl a:Key)=Sum.inl b:=λq=>e (Sum.inl.inj q)
  rw[decide_eq_false h];exact(beq_eq_false_iff_ne.mpr e).symm
def cr0(a b:Str):decide ((Sum.inr a:Key)=Sum.inr b)=decide (a=b):=by
 by_cases e:a=b
 .subst e;simp
 .have h:¬(Sum.inr a:Key)=Sum.inr b:=λq=>e (Sum.inr.inj q)
  rw[decide_eq_false h,decide_eq_false e]
def cr2(a:Int)(b:Str):decide ((Sum.inl a:Key)=Sum.inr b)=false:=decide_eq_false λq=>nomatch q
def cr1(a:Str)(b:Int):decide ((Sum.inr a:Key)=Sum.inl b)=false:=decide_eq_false λq=>nomatch q
noncomputable def at8(prog:dO)(w:World):PySem.KeyKind prog w Key where
 is:=ce5
 hash:=cP1 w
 inj:=λv a b ha hb=>by
  rcases P9 ha with⟨i,t,rfl,rfl⟩|⟨x,t,rfl,rfl⟩
  .rcases P9 hb with⟨j,u,rfl,e⟩|⟨y,u,rfl,e⟩
   .injection e with e1 _;rw[e1]
   .exact nomatch e
  .rcases P9 hb with⟨j,u,rfl,e⟩|⟨y,u,rfl,e⟩
   .exact nomatch e
   .injection e with e1 _;rw[e1]
 byValue:=λk v h=>by rcases P9 h with⟨i,t,rfl,rfl⟩|⟨x,t,rfl,rfl⟩<;>rfl
 pyHash:=λhv h=>by
  rcases P9 hv with⟨i,t,rfl,rfl⟩|⟨x,t,rfl,rfl⟩
  .exact wpAny_pyHash_int h
  .exact wpAny_pyHash_str h
 eqBool:=λhu hv h=>by
  rcases P9 hu with⟨i,t,rfl,rfl⟩|⟨x,t,rfl,rfl⟩
  .rcases P9 hv with⟨j,u,rfl,rfl⟩|⟨y,u,rfl,rfl⟩
   .rw[cr3]at h;exact wpAny_eqBool_int h
   .rw[cr2]at h;exact SeqAt.EqAt.int_str i t y u _ _ _ _ h
  .rcases P9 hv with⟨j,u,rfl,rfl⟩|⟨y,u,rfl,rfl⟩
   .rw[cr1]at h;exact SeqAt.EqAt.str_int x t j u _ _ _ _ h
   .rw[cr0]at h;exact wpAny_eqBool_str h
 «strs»:=λk x t v h=>by
  rcases P9 h with⟨i,u,rfl,e⟩|⟨y,u,rfl,e⟩
  .exact nomatch e
  .injection e with e1 _
   subst e1;cases v<;>rfl
inductive V where
 | non|bl (b:Bool)|int (i:Int)|str (x:Str)|byt (b:Array UInt8)|flt (b:UInt64)|ref (a:eR)|ty (n:String)
 deriving DecidableEq
noncomputable def L0:V->eP->Prop
 | .non,u=>u=eL
 | .bl b,u=>u=Value.bool b
 | .int i,u=>∃t,u=Value.int i t
 | .str x,u=>∃t,u=Value.str x t
 | .byt b,u=>∃t,u=Value.bytes b t
 | .flt b,u=>∃t,u=Value.float b t
 | .ref a,u=>u=eK a
 | .ty n,u=>u=Value.type n
noncomputable abbrev D7:List V->List eP->Prop:=Paired L0
theorem D7.length(r:D7 xs us):xs.length=us.length:=Paired.length r
theorem D7.get:∀{xs:List V}{us:List eP}{i:Nat}{x:V},D7 xs us->xs[i]? = Ob x->∃u,us[i]? = Ob u/\L0 x u
 | _,_,_,_,.nil,e=>by simp at e
 | _,_,0,_,.cons r _,e=>by simp at e;subst e;exact⟨_,rfl,r⟩
 | _,_,i+1,x,.cons _ t,e=>by
  obtain⟨u,h1,h2⟩:=D7.get (i:=i) (x:=x) t (by simpa using e);exact⟨u,by simpa using h1,h2⟩
theorem D7.set(r:L0 x u):∀{xs:List V}{us:List eP}(i:Nat),D7 xs us->D7 (xs.set i x) (us.set i u)
 | _,_,_,.nil=>.nil
 | _,_,0,.cons _ t=>.cons r t
 | _,_,i+1,.cons q t=>.cons q<|D7.set r i t
theorem D7.append:∀{xs ys:List V}{us ws:List eP},D7 xs us->D7 ys ws->D7 (xs++ys) (us++ws)
 | _,_,_,_,.nil,s=>s
 | _,_,_,_,.cons r t,s=>.cons r<|D7.append t s
theorem D7.take:∀{xs:List V}{us:List eP}(n:Nat),D7 xs us->D7 (xs.take n) (us.take n)
 | _,_,0,_=>.nil
 | _,_,_+1,.nil=>.nil
 | _,_,n+1,.cons r t=>.cons r<|D7.take n t
theorem D7.drop:∀{xs:List V}{us:List eP}(n:Nat),D7 xs us->D7 (xs.drop n) (us.drop n)
 | _,_,0,r=>r
 | _,_,_+1,.nil=>.nil
 | _,_,n+1,.cons _ t=>D7.drop n t
noncomputable def aA6:Option V->Option eP->Prop
 | some v,Ob u=>L0 v u
 | none,Oa=>True
 | _,_=>False
noncomputable def KV{κ:Type}:List (κ×V)->List (κ×eP)->Prop:=Paired λ(p:κ×V) (q:κ×eP)=>p.1=q.1/\L0 p.2 q.2
noncomputable def kV:Key->V
 | .inl i=>.int i
 | .inr x=>.str x
inductive HO where
 /-- a list -/
 | lst (xs:List V)
 /-- a tuple (never changes) -/
 | tup (xs:List V)
 /-- a dict whose keys are ints and texts;one whose keys are tuples of ints and texts (the empty one is both) -/
 | dK (kvs:List (Key×V))|dT (kvs:List (List Key×V))
 /-- a set of ints: its members,its size -/
 | set (S:Int->Bool) (n:Nat)
 /-- an instance of the class at C,its dict at dx,its attributes -/
 | ins (C dx:eR) (fs:List (Str×V))
 /-- the dict of the instance at x -/
 | own (x:eR)
 /-- the dict of an exception -/
 | xd (fs:List (Str×V))
 /-- a bound method,f of x -/
 | met (f x:eR)
 /-- a range object lo,lo+1,.. below hi -/
 | rng (lo hi:Int)
 /-- a thing that is known to the object (the script;a dict while a loop walks it): read,never written while it is so -/
 | frz (o:Obj) (u:HO)
 /-- a code object's table -/
 | tbl (ps:Array eP)
 /-- any other thing,by what is true of its one object (a def of one's own: SetO a S n:=HO.ext λh=>..) -/
 | ext (φ:Heap->Prop)
noncomputable abbrev Hp:=eR->Option HO
noncomputable def upd(H:Hp)(a:eR)(o:HO):Hp:=λb=>if b=a then Ob o else H b
def B3:upd H a o a=Ob o:=by unfold upd;rw[if_pos rfl]
def B2(h:b≠a):upd H a o b=H b:=by unfold upd;rw[if_neg h]
def C2{H:Hp}{a b:eR}{o:HO}(h:H a=Ob o)(h':H b=Oa):a≠b:=by intro e;subst e;rw[h]at h';cases h'
noncomputable def ay0(h:Heap)(a:eR)(items:Array eP):Prop:=∃o,h.get? a=Ob o/\o.cls=.type "tuple" /\ (∃n,o.data=.seq items n)/\o.dict=Oa
def ay0.tup{h:Heap}{a:eR}{items:Array eP}(p:ay0 h a items):IsTup h a items:=let⟨o,e,c,d,_⟩:=p;⟨o,e,c,d⟩
def ay0.new(h:Heap)(items:Array eP)(n:Nat:=0):ay0 (h.push { cls:=.type "tuple", data:=.seq items n }) h.objs.size items:=⟨_,eD _ rfl,rfl,⟨_,rfl⟩,rfl⟩
section
variable (P:Program) (w:World)
noncomputable def V0(H:Hp)(h:Heap)(a:eR):HO->Prop
 | .lst xs=>xs.length<=dJ/\∃(its:List eP) (n:Nat),D7 xs its/\h.get? a=Ob { cls:=.type "list", data:=.seq its.toArray n }
 | .tup xs=>xs.length<=dJ/\∃its:List eP,D7 xs its/\ay0 h a its.toArray
 | .dK kvs=>kvs.length<=dJ/\(a==sysModules)=false/\∃vs,KV kvs vs/\h.DictOf (at8 P w) a vs
 | .dT kvs=>kvs.length<=dJ/\(a==sysModules)=false/\∃xs:List (List Key×eR×eP),
   Paired (λ(p:List Key×V) (q:List Key×eR×eP)=>p.1=q.1/\H q.2.1=Ob (.tup<|p.1.map kV)/\L0 p.2 q.2.2) kvs xs /\
   ∃o es ep,h.get? a=Ob o/\o.ExactDict/\o.data=.dict es ep/\es.toList=xs.map (entryOfKey<|tupleKind (at8 P w))/\(xs.map (·.1)).Nodup
 | .set S n=>h.SetOf (intKind P w) a S n
 | .ins C dx fs=>H dx=Ob (.own a)/\fs.length<=1000/\dx≠a/\h.get? a=Ob (PySem.W.instObj C dx) /\
   ∃mA,h.Ns1 dx mA/\(∀f,aA6 (fs.lookup f)<|mA f)/\PySem.Within mA (fs.map (·.1))
 | .own _=>∃o,h.get? a=Ob o
 | .xd fs=>∃mA,h.Ns1 a mA/\∀f,aA6 (fs.lookup f)<|mA f
 | .rng lo hi=>∃t u v,h.get? a=Ob { cls:=.type "range", data:=.fields #[.int lo t,.int hi u,.int 1 v] }
 | .frz o u=>h.get? a=Ob o/\V0 H h a u
 | .tbl ps=>h.get? a=Ob { cls:=.none,data:=.fields ps }
 | .met f x=>h.get? a=Ob (PySem.W.methodObj (.ref f)<|.ref x)
 | .ext φ=>φ h/\(∃o,h.get? a=Ob o)/\∀h1 h2:Heap,φ h1->(∀o,h1.get? a=Ob o->h2.get? a=Ob o)->φ h2
noncomputable def HOk(H:Hp)(h:Heap):Prop:=∀a o,H a=Ob o->V0 P w H h a o
end
section
variable {P:Program}{w:World}{H H':Hp}{h h':Heap}{a:Addr}{o:HO}
theorem V0.lt(x:V0 P w H h a o):a < h.objs.size:=by
 cases o with
 | lst xs=>obtain⟨_,_,_,_,e⟩:=x;exact eB e
 | tup xs=>obtain⟨_,_,_,p⟩:=x;exact p.tup.lt
 | dK kvs=>obtain⟨_,_,_,_,o,_,_,e,_⟩:=x;exact eB e
 | dT kvs=>obtain⟨_,_,_,_,o,_,_,e,_⟩:=x;exact eB e
 | set S n=>obtain⟨o,_,_,_,e,_⟩:=x;exact eB e
 | ins C dx fs=>obtain⟨_,_,_,e,_⟩:=x;exact eB e
 | own y=>obtain⟨_,e⟩:=x;exact eB e
 | xd fs=>obtain⟨_,⟨_,_,_,e,_⟩,_⟩:=x;exact eB e
 | rng lo hi=>obtain⟨_,_,_,e⟩:=x;exact eB e
 | frz ob u=>obtain⟨e,_⟩:=x;exact eB e
 | tbl ps=>exact eB (show h.get? a=Ob _ from x)
 | met f y=>exact eB (show h.get? a=Ob _ from x)
 | ext φ=>obtain⟨_,⟨_,e⟩,_⟩:=x;exact eB e
theorem Paired.mapP{α β:Type}{F G:α->β->Prop}:∀{l₁:List α}{l₂:List β},Paired F l₁ l₂->(∀a b,F a b->G a b)->Paired G l₁ l₂
 | _,_,.nil,_=>.nil
 | _,_,.cons r t,f=>.cons (f _ _ r)<|Paired.mapP t f
def V0.stay(x:V0 P w H h a o)(k:∀b u,(b=a\/H b=Ob (.own a))->h.get? b=Ob u->h'.get? b=Ob u)
  (ho:∀b,H b=Ob (.own a)->H' b=Ob (.own a)) (ht:∀b xs,H b=Ob (.tup xs)->H' b=Ob (.tup xs)):V0 P w H' h' a o:=by
 induction o with
 | lst xs=>obtain⟨z,its,n,r,e⟩:=x;exact⟨z,its,n,r,k _ _ (.inl rfl) e⟩
 | tup xs=>obtain⟨z,its,r,ob,e,c⟩:=x;exact⟨z,its,r,ob,k _ _ (.inl rfl) e,c⟩
 | dK kvs=>obtain⟨z,y,vs,r,ob,es,ep,e,c⟩:=x;exact⟨z,y,vs,r,ob,es,ep,k _ _ (.inl rfl) e,c⟩
 | dT kvs =>
  obtain⟨z,y,xs,r,ob,es,ep,e,c⟩:=x;exact⟨z,y,xs,Paired.mapP r λp q z=>⟨z.1,ht _ _ z.2.1,z.2.2⟩,ob,es,ep,k _ _ (.inl rfl) e,c⟩
 | set S n=>obtain⟨ob,es,ep,t,e,c⟩:=x;exact⟨ob,es,ep,t,k _ _ (.inl rfl) e,c⟩
 | ins C dx fs =>
  obtain⟨d,z,ne,e,mA,⟨od,es,ep,e2,c⟩,r⟩:=x;exact⟨ho _ d,z,ne,k _ _ (.inl rfl) e,mA,⟨od,es,ep,k _ _ (.inr d) e2,c⟩,r⟩
 | own y=>obtain⟨ob,e⟩:=x;exact⟨ob,k _ _ (.inl rfl) e⟩
 | xd fs=>obtain⟨mA,⟨od,es,ep,e,c⟩,r⟩:=x;exact⟨mA,⟨od,es,ep,k _ _ (.inl rfl) e,c⟩,r⟩
 | rng lo hi=>obtain⟨t,u,v,e⟩:=x;exact⟨t,u,v,k _ _ (.inl rfl) e⟩
 | frz ob u ih=>obtain⟨e,q⟩:=x;exact⟨k _ _ (.inl rfl) e,ih q⟩
 | tbl ps =>
  have e:h.get? a=Ob { cls:=.none,data:=.fields ps }:=x;show h'.get? a=Ob { cls:=.none,data:=.fields ps };exact k a _ (.inl rfl) e
 | met f y =>
  have e:h.get? a=Ob (PySem.W.methodObj (.ref f)<|.ref y):=x;show h'.get? a=Ob (PySem.W.methodObj (.ref f)<|.ref y);exact k a _ (.inl rfl) e
 | ext φ=>obtain⟨p,⟨o,e⟩,st⟩:=x;exact⟨st _ _ p λo q=>k _ _ (.inl rfl) q,⟨o,k _ _ (.inl rfl) e⟩,st⟩
theorem HOk.lt(x:HOk P w H h)(e:H a=Ob o):a < h.objs.size:=(x a o e).lt
def HOk.fresh(x:HOk P w H h)(e:h.objs.size<=a):H a=Oa:=by
 cases q:H a with
 | none=>rfl
 | some u=>exact absurd (aE (x.lt q) e)<|bq _
def HOk.kept(x:HOk P w H h)(k:∀b u,h.get? b=Ob u->h'.get? b=Ob u):HOk P w H h':=λa o e =>(x a o e).stay (λb u _ q=>k b u q) (λ_ q=>q) λ_ _ q=>q
def HOk.laid(x:HOk P w H h)(k:∀b u,h.get? b=Ob u->h'.get? b=Ob u)(hp:h.objs.size<=a)(new:V0 P w (upd H a o) h' a o):HOk P w (upd H a o) h':=λb u e=>by
 have hn:=x.fresh hp;by_cases hb:b=a
 .subst hb;rw[B3]at e;cases e;exact new
 .rw[B2 hb]at e;exact(x b u e).stay (λc v _ q=>k c v q) (λc q=>by rw[B2 (C2 q hn)];exact q) λc xs q=>by rw[B2 (C2 q hn)];exact q
end
noncomputable def Rd(H:Hp)(a:eR)(u:HO):Prop:=H a=Ob u\/∃o,H a=Ob (.frz o u)
def Rd.ok(r:Rd H a u)(x:HOk P w H h):V0 P w H h a u:=by
 rcases r with r|⟨o,r⟩
 .exact x a u r
 .obtain⟨_,q⟩:=x a _ r;exact q
noncomputable def Mut:Option HO->Prop
 | some (.lst _)=>True
 | some (.dK _)=>True
 | some (.dT _)=>True
 | some (.set _ _)=>True
 | some (.ins _ _ _)=>True
 | some (.ext _)=>True
 | _=>False
section
variable {P:Program}{w:World}{H:Hp}{h h':Heap}{x e:Addr}{o':HO}
def HOk.write(ok:HOk P w H h)(mu:Mut (H x))(he:e=x\/H e=Ob (.own x))(k:∀b u,b≠e->h.get? b=Ob u->h'.get? b=Ob u)(heo:∃u,h'.get? e=Ob u)
  (new:V0 P w (upd H x o') h' x o'):HOk P w (upd H x o') h':=λb u q=>by
 have nown:∀c y,H c=Ob (.own y)->c≠x:=λc y r z=>by subst z;rw[r]at mu;exact mu
 have ntup:∀c xs,H c=Ob (.tup xs)->c≠x:=λc xs r z=>by subst z;rw[r]at mu;exact mu
 by_cases hb:b=x
 .subst hb;rw[B3]at q;cases q;exact new
 .rw[B2 hb]at q;by_cases hbe:b=e
  .have q':H b=Ob (.own x):=by
    rcases he with z|z
    .exact absurd (hbe.trans z) hb
    .rw[hbe];exact z
   rw[q]at q';cases q';obtain⟨v,hv⟩:=heo;exact⟨v,by rw[hbe];exact hv⟩
  .refine(ok b u q).stay (λc v hc r=>k c v ?_ r) (λc r=>by rw[B2 (nown c b r)];exact r) λc xs r=>by rw[B2 (ntup c xs r)];exact r
   rcases hc with rfl|hc
   .exact hbe
   .rintro rfl
    rcases he with z|z
    .exact nown c b hc z
    .rw[hc]at z;cases z;exact hb rfl
end
structure Un (fs ex:List eR) (H H':Hp) (h h':Heap):Prop where
 keep:∀b o,h.get? b=Ob o->H b=Oa->b∉fs->b∉ex->h'.get? b=Ob o
 slot:∀b o,h.get? b=Ob o->H b=Oa->b∈fs->b∉ex->∃sl,h'.get? b=Ob { o with slots:=sl }
 free:∀b o,h.get? b=Ob o->H b=Oa->b∉ex->H' b=Oa
 there:∀b o,h.get? b=Ob o->b∉ex->∃o',h'.get? b=Ob o'
 tups:∀b xs,H b=Ob (.tup xs)->H' b=Ob (.tup xs)
 frzs:∀b o u,H b=Ob (.frz o u)->H' b=Ob (.frz o u)
 tbls:∀b ps,H b=Ob (.tbl ps)->∃more,H' b=Ob (.tbl<|ps++more)
section
variable {fs fs' ex ex':List Addr}{H H1 H2:Hp}{h h1 h2 h':Heap}{a x e:Addr}{o:HO}
def Un.any(u:Un fs ex H H1 h h1)(q:h.get? b=Ob ob)(n:H b=Oa)(hx:b∉ex):∃sl,h1.get? b=Ob { ob with slots:=sl }:=by
 by_cases hb:b∈fs
 .exact u.slot b ob q n hb hx
 .exact⟨ob.slots,u.keep b ob q n hb hx⟩
def Un.kept(k:∀b u,h.get? b=Ob u->h'.get? b=Ob u):Un fs ex H H h h' :=
 ⟨λb ob q _ _ _=>k b ob q,λb ob q _ _ _=>⟨ob.slots,k b ob q⟩,λ_ _ _ n _=>n,λb ob q _=>⟨ob,k b ob q⟩,λ_ _ q=>q,λ_ _ _ q=>q,λ_ ps q=>⟨#[],by rw[q];simp⟩⟩
def Un.refl:Un fs ex H H h h:=Un.kept λ_ _ q=>q
def Un.laid(k:∀b u,h.get? b=Ob u->h'.get? b=Ob u)(hp:h.objs.size<=a)(hn:H a=Oa):Un fs ex H (upd H a o) h h' where
 keep:=λb u q _ _ _=>k b u q
 slot:=λb u q _ _ _=>⟨u.slots,k b u q⟩
 free:=λb u q n _=>by rw[B2 (aS<|aE (eB q) hp)];exact n
 there:=λb u q _=>⟨u,k b u q⟩
 tups:=λb xs q=>by rw[B2 (C2 q hn)];exact q
 frzs:=λb u xs q=>by rw[B2 (C2 q hn)];exact q
 tbls:=λb ps q=>⟨#[],by rw[B2 (C2 q hn),q];simp⟩
def Un.write(mu:Mut (H x))(he:e=x\/H e=Ob (.own x))(k:∀b u,b≠e->h.get? b=Ob u->h'.get? b=Ob u)(heo:∃u,h'.get? e=Ob u):Un fs ex H (upd H x o) h h':=by
 have hx:∀b,H b=Oa->b≠x:=λb n z=>by subst z;rw[n]at mu;exact mu
 have hb:∀b,H b=Oa->b≠e:=λb n z=>by
  subst z;rcases he with r|r
  .exact hx b n r
  .rw[n]at r;cases r
 have hm:∀b u,H b=Ob u->¬Mut (Ob u)->b≠x:=λb u q nm z=>by subst z;rw[q]at mu;exact nm mu
 refine⟨λb u q n _ _=>k b u (hb b n) q,λb u q n _ _=>⟨u.slots,k b u (hb b n) q⟩,λb u q n _=>by rw[B2 (hx b n)];exact n,λb u q _=>?_,
  λb xs q=>by rw[B2 (hm b _ q λz=>z)];exact q,λb u xs q=>by rw[B2 (hm b _ q λz=>z)];exact q,λb ps q=>⟨#[],by rw[B2 (hm b _ q λz=>z),q];simp⟩⟩
 by_cases hbe:b=e
 .subst hbe;exact heo
 .exact⟨u,k b u hbe q⟩
end
noncomputable def trk(h:Heap)(H:Hp):List eR:=(ax h.objs.size).filter λa=>(H a).isSome
noncomputable def aI5(h:Heap)(H:Hp):Heap:=PySem.W.hideAll h<|trk h H
def bn3(h:Heap)(H:Hp):(aI5 h H).objs.size=h.objs.size:=PySem.W.hideAll_size _ _
def bG2(e:h.get? b=Ob o)(n:H b=Oa):(aI5 h H).get? b=Ob o :=
 PySem.W.hideAll_get _ e λhm=>by
  have q:(H b).isSome=true:=(List.mem_filter.mp hm).2;rw[n]at q;simp at q
def bU8(e:(aI5 h H).get? b=Ob o):h.get? b=Ob o/\H b=Oa:=by
 have e':h.get? b=Ob o:=PySem.W.of_hideAll (trk h H) e;refine⟨e',?_⟩;cases q:H b with
 | none=>rfl
 | some x =>
  have hm:b∈trk h H:=List.mem_filter.mpr ⟨aO.mpr<|eB e',by simp[q]⟩;have z:(aI5 h H).get? b=Oa:=PySem.W.hideAll_none (trk h H) hm;rw[z]at e;cases e
noncomputable def cb9(g h:Heap)(L:eR):List (eR×Obj):=(ax h.objs.size).filterMap λa=>if a=L\/(g.get? a).isSome=true then Oa else(h.get? a).map λo=>(a,o)
noncomputable def T5(g h:Heap)(L d:eR):List (eR×Obj):=(cb9 g h L).filter λp=>decide (p.1≠d)
structure Mod (K:aa) (mg:Str->Option eP) (base:Heap):Prop where
 kin:K.In base
 glob:base.Ns dN mg
 blt:∃mb,base.Ns builtinsNs mb/\∀x:Str,x ≠ "__name__" -> mb x=dR x
 nolimit:base.NoLimit
structure Cx where
 prog:dO
 w:World
 K:aa
 mg:Str->Option eP
 base:Heap
 A:dP
 N:List Str
 s₀:eQ
 H₀:Hp
 env:Env
 outer:List Env
 stack:List Env
 ex:List eR
 fn:Str->Bool
 calm:Bool
 pn:List (eR×Obj)
 xe:eP->eQ->Prop
noncomputable def frs(l:List Env):List eR:=l.filterMap (·.frame)
noncomputable abbrev Cx.fs(X:Cx):List eR:=frs X.outer
noncomputable def Vis(sc:Scope)(x:Str):Prop:=sc.names.lookup x=Ob .local\/sc.names.lookup x=Ob .cell\/sc.names.lookup x=Ob .free
noncomputable def Loc(sc:Scope)(x:Str):Prop:=sc.names.lookup x=Ob .local\/sc.names.lookup x=Ob .cell
noncomputable def cR0(env:Env)(h:Heap)(m:Str->Option eP)(x:Str)(u:eP):Prop :=
 (env.kindOf x=Ob .local/\m x=Ob u)\/((env.kindOf x=Ob .cell\/env.kindOf x=Ob .free)/\∃c,env.cells.lookup x=Ob c/\h.IsCell c (Ob u))
structure Cx.Ok (X:Cx):Prop where
 mod:Mod X.K X.mg X.base
 kind:X.env.scope.kind=.function
 glob:X.env.globals=dN
 blt:X.env.builtins=builtinsNs
 above:X.s₀.heap.objs.size<=X.env.locals
 inj:∀x y c,X.env.cells.lookup x=Ob c->X.env.cells.lookup y=Ob c->x=y
 has:∀x,(X.env.kindOf x=Ob .cell\/X.env.kindOf x=Ob .free)->∃c,X.env.cells.lookup x=Ob c
 cab:∀x c,X.fn x=true->X.env.cells.lookup x=Ob c->X.s₀.heap.objs.size<=c
 hd:X.calm=true->X.A.handled=Oa
 frames:X.A.frames=Ob X.stack
 stk:X.stack=X.outer\/(X.stack=X.env::X.outer/\X.env.frame=Ob X.env.locals)
 exf:∀b∈X.ex,b≠X.env.locals/\∀x c,X.env.cells.lookup x=Ob c->c≠b
 bs:∀b o,X.base.get? b=Ob o->X.s₀.heap.get? b=Ob o/\X.H₀ b=Oa
 bsz:X.base.objs.size<=X.s₀.heap.objs.size
 noex:∀b o,X.base.get? b=Ob o->b∉X.ex
 exfs:∀b∈X.ex,b∉X.fs
 funs:X.s₀.heap.FunFrames X.base X.outer
 frf:∀b∈X.fs,X.H₀ b=Oa
structure Inv (X:Cx) (pins:List (eR×Obj)) (σ:List (Option V)) (H:Hp) (s:eQ):Prop where
 ok:X.Ok
 os:s.os=X.s₀.os
 bare:AllBare s.gens
 base:Un X.fs X.ex X.H₀ H X.s₀.heap s.heap
 loc:∃m,s.heap.Ns X.env.locals m/\∀(i:Nat) (x:Str) (v:V),X.N[i]? = Ob x->σ[i]? = Ob (Ob v)->Vis X.env.scope x->∃u,L0 v u/\cR0 X.env s.heap m x u
 cell:∀x c,X.env.cells.lookup x=Ob c->∃v,s.heap.IsCell c v
 free:H X.env.locals=Oa
 freeC:∀x c,X.env.cells.lookup x=Ob c->H c=Oa
 pin:∀p∈X.pn++pins,s.heap.get? p.1=Ob p.2/\H p.1=Oa/\p.1≠X.env.locals/\p.1∉X.fs/\∀v,p.2.data≠.cell v
 hok:HOk X.prog X.w H s.heap
 len:σ.length=X.N.length
section
variable {X:Cx}{pins:List (Addr×Obj)}{σ:List (Option V)}{H H':Hp}{s:Shared}{h':Heap}
def Cx.Ok.nofr(ok:X.Ok)(e:X.base.get? b=Ob o):b∉X.fs:=λhb=>by
 have:=(ok.funs.mem hb).1;rw[e]at this;cases this
theorem Inv.bs(I:Inv X pins σ H s):∀b o,X.base.get? b=Ob o->s.heap.get? b=Ob o/\H b=Oa:=λb o e =>⟨I.base.keep b o (I.ok.bs b o e).1 (I.ok.bs b o e).2 (I.ok.nofr e)<|I.ok.noex b o e,I.base.free b o (I.ok.bs b o e).1 (I.ok.bs b o e).2<|I.ok.noex b o e⟩
def Inv.bk(I:Inv X pins σ H s):∀b o,X.base.get? b=Ob o->s.heap.get? b=Ob o:=λb o e=>(I.bs b o e).1
theorem Inv.mod(I:Inv X pins σ H s):Mod X.K X.mg X.base:=I.ok.mod
def Inv.kIn(I:Inv X pins σ H s):X.K.In s.heap:=I.ok.mod.kin.keeps I.bk
theorem Inv.lt(I:Inv X pins σ H s):X.env.locals < s.heap.objs.size:=let⟨_,hn,_⟩:=I.loc;hn.lt
def Inv.sz(I:Inv X pins σ H s):X.s₀.heap.objs.size<=s.heap.objs.size:=aL I.ok.above<|cf I.lt
def Inv.nofs(I:Inv X pins σ H s)(h:s.heap.objs.size<=a):a∉X.fs:=λhb=>by
 obtain⟨_,o,ho,_⟩:=I.ok.funs.mem hb;exact absurd (aE (eB ho)<|aL I.sz h)<|bq _
def Inv.cne(I:Inv X pins σ H s):∀x c,X.env.cells.lookup x=Ob c->c≠X.env.locals:=λx c e z=>by
 obtain⟨v,o,ho,hd⟩:=I.cell x c e;obtain⟨m,⟨o',es,ep,ho',hd',_⟩,_⟩:=I.loc;rw[z,ho']at ho;cases ho;rw[hd']at hd;cases hd
theorem Inv.funs(I:Inv X pins σ H s):s.heap.FunFrames X.base X.outer:=by
 have all:∀(l:List Env),(∀b∈frs l,b∈X.fs)->X.s₀.heap.FunFrames X.base l->s.heap.FunFrames X.base l:=by
  intro l
  induction l with
  | nil=>intro _ _;trivial
  | cons env r ih =>
   intro hs hl;obtain⟨hk,⟨L,o,hf,hn,ho,hd⟩,hr⟩:=hl;have hL:L∈X.fs:=hs L (by unfold frs;rw[bL,hf];exact aw);obtain⟨sl,e⟩:=I.base.slot L o ho (I.ok.frf L hL) hL λz=>I.ok.exfs L z hL
   exact⟨hk,⟨L,_,hf,hn,e,hd⟩,ih (λb hb=>hs b (by unfold frs;rw[bL,hf];exact xmm _ hb)) hr⟩
 exact all X.outer (λ_ hb=>hb) I.ok.funs
theorem Inv.stack(I:Inv X pins σ H s):s.heap.FunFrames X.base X.stack:=by
 rcases I.ok.stk with e|⟨e,hf⟩
 .rw[e];exact I.funs
 .rw[e];obtain⟨m,hn,_⟩:=I.loc;refine .cons (by rw[I.ok.kind];decide) hf hn ?_ I.funs;exact Heap.get?_none_of_le<|aL I.ok.bsz I.ok.above
def Inv.stkSub(I:Inv X pins σ H s):∀b∈frs X.stack,b∈X.env.locals::X.fs:=λb hb=>by
 rcases I.ok.stk with e|⟨e,hf⟩
 .rw[e]at hb;exact xmm _ hb
 .rw[e]at hb;unfold frs at hb;rw[bL,hf]at hb;exact hb
def Inv.stkFree(I:Inv X pins σ H s):∀b∈frs X.stack,H b=Oa:=λb hb=>by
 rcases au.mp (I.stkSub b hb) with e|hb
 .rw[e];exact I.free
 .obtain⟨_,o,ho,_⟩:=I.ok.funs.mem hb;exact I.base.free b o ho (I.ok.frf b hb) λz=>I.ok.exfs b z hb
def Inv.step{g':Array GenState}{t':Nat}{d':Drawn}{ch:List eR}(I:Inv X pins σ H s)
  (hch:∀b∈ch,(b∈X.ex\/X.s₀.heap.objs.size<=b)/\b≠X.env.locals/\(∀x c,X.env.cells.lookup x=Ob c->c≠b)/\∀p∈X.pn++pins,p.1≠b)
  (keep:∀b o,b≠X.env.locals->b∉X.fs->b∉ch->s.heap.get? b=Ob o->H b=Oa->h'.get? b=Ob o)
  (slot:∀b o,b≠X.env.locals->b∈X.fs->b∉ch->s.heap.get? b=Ob o->H b=Oa->∃sl,h'.get? b=Ob { o with slots:=sl }) (free:∀b o,b∉ch->s.heap.get? b=Ob o->H b=Oa->H' b=Oa)
  (there:∀b o,b∉ch->s.heap.get? b=Ob o->∃o',h'.get? b=Ob o')
  (tups:∀b xs,H b=Ob (.tup xs)->H' b=Ob (.tup xs)) (frzs:∀b o u,H b=Ob (.frz o u)->H' b=Ob (.frz o u)) (tbls:∀b ps,H b=Ob (.tbl ps)->∃more,H' b=Ob (.tbl<|ps++more))
  (ns:∀m,s.heap.Ns X.env.locals m->h'.Ns X.env.locals m) (hok:HOk X.prog X.w H' h') (hg:AllBare g') :
  Inv X pins σ H' { s with heap:=h',gens:=g',drawn:=d',toks:=t' }:=by
 have neL:∀b o,X.s₀.heap.get? b=Ob o->b≠X.env.locals:=λb o e=>aS<|aE (eB e) I.ok.above
 have neC:∀b o,X.s₀.heap.get? b=Ob o->b∉X.ex->b∉ch:=λb o e hx hb=>by
  rcases(hch b hb).1 with z|z
  .exact hx z
  .exact absurd (aE (eB e) z) (bq _)
 have cellK:∀x c,X.env.cells.lookup x=Ob c->∀v,s.heap.IsCell c v->h'.IsCell c v:=λx c e v ⟨o,ho,hd⟩=>by
  have nch:c∉ch:=λz=>(hch c z).2.2.1 x c e rfl
  by_cases hc:c∈X.fs
  .obtain⟨sl,q⟩:=slot c o (I.cne x c e) hc nch ho (I.freeC x c e);exact⟨_,q,hd⟩
  .exact⟨o,keep c o (I.cne x c e) hc nch ho<|I.freeC x c e,hd⟩
 refine⟨I.ok,I.os,hg,⟨λb o e n hb hx=>?_,λb o e n hb hx=>?_,λb o e n hx=>?_,λb o e hx=>?_,λb xs e=>tups b xs<|I.base.tups b xs e,λb o xs e=>frzs b o xs<|I.base.frzs b o xs e,λb ps e=>?_⟩,?_,λx c e=>?_,?_,λx c e=>?_,λp hp=>?_,hok,I.len⟩
 .exact keep b o (neL b o e) hb (neC b o e hx) (I.base.keep b o e n hb hx) (I.base.free b o e n hx)
 .obtain⟨sl,e1⟩:=I.base.slot b o e n hb hx;obtain⟨sl',e2⟩:=slot b _ (neL b o e) hb (neC b o e hx) e1 (I.base.free b o e n hx);exact⟨sl',e2⟩
 .obtain⟨o',e1⟩:=I.base.there b o e hx;exact free b o' (neC b o e hx) e1<|I.base.free b o e n hx
 .obtain⟨o',e1⟩:=I.base.there b o e hx;exact there b o' (neC b o e hx) e1
 .obtain⟨m1,e1⟩:=I.base.tbls b ps e;obtain⟨m2,e2⟩:=tbls b _ e1;exact⟨m1++m2,by rw[e2,Array.append_assoc]⟩
 .obtain⟨m,hn,hl⟩:=I.loc;refine⟨m,ns m hn,λi x v e1 e2 e3=>?_⟩;obtain⟨u,r,l⟩:=hl i x v e1 e2 e3;refine⟨u,r,?_⟩;rcases l with l|⟨k,c,e,z⟩
  .exact .inl l
  .exact .inr ⟨k,c,e,cellK x c e _ z⟩
 .obtain⟨v,z⟩:=I.cell x c e;exact⟨v,cellK x c e v z⟩
 .obtain⟨m,⟨o,_,_,ho,_⟩,_⟩:=I.loc;exact free _ o (λz=>(hch _ z).2.1 rfl) ho I.free
 .obtain⟨v,o,ho,hd⟩:=I.cell x c e;exact free c o (λz=>(hch c z).2.2.1 x c e rfl) ho<|I.freeC x c e
 .obtain⟨e,n,ne,nf,d⟩:=I.pin p hp;have nch:p.1∉ch:=λz=>(hch p.1 z).2.2.2 p hp rfl
  exact⟨keep p.1 p.2 ne nf nch e n,free p.1 p.2 nch e n,ne,nf,d⟩
def Inv.un{t':Nat}(I:Inv X pins σ H s)(u:Un X.fs [] H H' s.heap h')(hok:HOk X.prog X.w H' h'):Inv X pins σ H' { s with heap:=h',toks:=t' }:=by
 obtain⟨m,⟨o,es,ep,ho,r⟩,_⟩:=id I.loc;obtain⟨sl,hL⟩:=u.any ho I.free (by simp)
 exact I.step (g':=s.gens) (d':=s.drawn) (ch:=[]) (λ_ z=>nomatch z) (λb o _ hb _ e n=>u.keep b o e n hb (by simp)) (λb o _ hb _ e n=>u.slot b o e n hb (by simp)) (λb o _ e n=>u.free b o e n (by simp)) (λb o _ e=>u.there b o e (by simp)) u.tups u.frzs u.tbls (λm' hm=>by
  obtain⟨o',es',ep',ho',r'⟩:=hm;rw[ho]at ho';cases ho'
  exact⟨_,es',ep',hL,r'⟩) hok I.bare
def Inv.call{g':Array GenState}{t':Nat}{d':Drawn}{ch:List eR}(I:Inv X pins σ H s)(u:Un (frs X.stack) ch H H' s.heap h')(hok:HOk X.prog X.w H' h')(hg:AllBare g')
  (hch:∀b∈ch,(b∈X.ex\/X.s₀.heap.objs.size<=b)/\b≠X.env.locals/\(∀x c,X.env.cells.lookup x=Ob c->c≠b)/\∀p∈X.pn++pins,p.1≠b) :
  Inv X pins σ H' { s with heap:=h',gens:=g',drawn:=d',toks:=t' }:=by
 obtain⟨m,⟨o,es,ep,ho,r⟩,_⟩:=id I.loc;obtain⟨sl,hL⟩:=u.any ho I.free λz=>(hch _ z).2.1 rfl
 exact I.step (ch:=ch) hch (λb o hL hb hc e n=>u.keep b o e n (λz=>(au.mp (I.stkSub b z)).elim hL hb) hc) (λb o _ _ hc e n=>u.any e n hc) (λb o hc e n=>u.free b o e n hc) (λb o hc e=>u.there b o e hc) u.tups u.frzs u.tbls (λm' hm=>by
  obtain⟨o',es',ep',ho',r'⟩:=hm;rw[ho]at ho';cases ho'
  exact⟨_,es',ep',hL,r'⟩) hok hg
def Inv.turned{t':Nat}{it:eR}(I:Inv X pins σ H s)(k:∀b o,b≠it->s.heap.get? b=Ob o->h'.get? b=Ob o)(hn:H it=Oa)(hL:it≠X.env.locals)
  (h1:it∈X.ex\/X.s₀.heap.objs.size<=it) (h2:∀x c,X.env.cells.lookup x=Ob c->c≠it) (h3:∀p∈X.pn++pins,p.1≠it):Inv X pins σ H { s with heap:=h',toks:=t' }:=by
 have nit:∀b u,H b=Ob u->b≠it:=λb u e z=>by rw[z,hn]at e;cases e
 refine I.step (g':=s.gens) (d':=s.drawn) (ch:=[it]) (λb hb=>?_) (λb o _ _ hc e _=>k b o (λz=>hc<|by simp[z]) e) (λb o _ _ hc e _=>⟨o.slots,k b o (λz=>hc<|by simp[z]) e⟩) (λ_ _ _ _ n=>n)
  (λb o hc e=>⟨o,k b o (λz=>hc<|by simp[z]) e⟩) (λ_ _ e=>e) (λ_ _ _ e=>e) (λb ps e=>⟨#[],by rw[e];simp⟩) (λm hm=>?_) (λb u e=>?_) I.bare
 .have e:b=it:=by simpa using hb
  subst e;exact⟨h1,hL,h2,h3⟩
 .obtain⟨o,es,ep,ho,r⟩:=hm;exact⟨o,es,ep,k _ o (Ne.symm hL) ho,r⟩
 .refine(I.hok b u e).stay (λc v hc q=>k c v ?_ q) (λ_ q=>q) λ_ _ q=>q
  rcases hc with z|z
  .rw[z];exact nit b u e
  .exact nit c _ z
def Inv.tok(I:Inv X pins σ H s)(t:Nat):Inv X pins σ H { s with toks:=t }:=I.un (h':=s.heap) (t':=t) Un.refl I.hok
theorem Inv.kept(I:Inv X pins σ H s)(k:∀b u,s.heap.get? b=Ob u->h'.get? b=Ob u):Inv X pins σ H { s with heap:=h',toks:=t' }:=I.un (Un.kept k)<|I.hok.kept k
theorem Inv.laid(I:Inv X pins σ H s)(k:∀b u,s.heap.get? b=Ob u->h'.get? b=Ob u)(hp:s.heap.objs.size<=a)(new:V0 X.prog X.w (upd H a o) h' a o):
  Inv X pins σ (upd H a o) { s with heap:=h',toks:=t' }:=I.un (Un.laid k hp<|I.hok.fresh hp)<|I.hok.laid k hp new
theorem Inv.write(I:Inv X pins σ H s)(mu:Mut (H x))(he:e=x\/H e=Ob (.own x))(k:∀b u,b≠e->s.heap.get? b=Ob u->h'.get? b=Ob u)(heo:∃u,h'.get? e=Ob u)
  (new:V0 X.prog X.w (upd H x o) h' x o):Inv X pins σ (upd H x o) { s with heap:=h',toks:=t' }:=I.un (Un.write mu he k heo)<|I.hok.write mu he k heo new
def Inv.pins_of(I:Inv X pins σ H s)(h:∀p∈pins',s.heap.get? p.1=Ob p.2/\H p.1=Oa/\p.1≠X.env.locals/\p.1∉X.fs/\∀v,p.2.data≠.cell v):Inv X pins' σ H s :=
 ⟨I.ok,I.os,I.bare,I.base,I.loc,I.cell,I.free,I.freeC,λp hp=>(aD.mp hp).elim (λz=>I.pin p<|am _ z)<|h p,I.hok,I.len⟩
def aM7{N:List Str}(hN:N.Nodup){i j:Nat}{x:Str}(a:N[i]? = Ob x)(b:N[j]? = Ob x):i=j:=by
 obtain⟨h1,e1⟩:=ag.mp a;obtain⟨h2,e2⟩:=ag.mp b;exact(List.getElem_inj hN).mp (e1.trans e2.symm)
def aB3(I:Inv X pins σ H s)(hN:X.N.Nodup)(hi:X.N[i]? = Ob x)(hx:Loc X.env.scope x)(r:L0 v u)
  (h:∀s',Inv X pins (σ.set i<|Ob v) H s'->(∃a,Heap.SameBut a s.heap s'.heap/\(a=X.env.locals\/X.env.cells.lookup x=Ob a))->Q () s') (hf:X.fn x=true\/X.env.scope.names.lookup x=Ob .local:=by first|exact .inl rfl|exact .inr rfl|assumption):eh M A (storeName X.env x u) Q E s:=by
 obtain⟨m,hn,hl⟩:=id I.loc;have hcls:(X.env.scope.kind == .class || (X.env.scope.kind == .module&&X.env.locals != X.env.globals))=false:=by rw[I.ok.kind];rfl
 have hiσ:i < σ.length:=by rw[I.len];exact(ag.mp hi).1
 have cne:=I.cne
 have tracked:∀{a:eR}{h':Heap},(∃o,s.heap.get? a=Ob o/\H a=Oa)->Heap.SameBut a s.heap h'->HOk X.prog X.w H h':=λ{a h'} ha hs b ob e=>by
  obtain⟨_,_,hfree⟩:=ha;refine(I.hok b ob e).stay (λc w' hc q=>(hs.2 c ?_).trans q) (λ_ q=>q) λ_ _ q=>q
  rintro rfl
  rcases hc with rfl|hc
  .rw[hfree]at e;cases e
  .rw[hfree]at hc;cases hc
 rcases hx with hk|hk
 .refine wpAny_storeName_local hk hn (λh' hn' hs=>?_) hcls;obtain⟨oL,_,_,hoL,_⟩:=id hn;refine h _ ⟨I.ok,I.os,I.bare,⟨λb o e n hb hx=>?_,λb o e n hb hx=>?_,I.base.free,λb o e hx=>?_,I.base.tups,I.base.frzs,I.base.tbls⟩,⟨_,hn',λj y v' e1 e2 e3=>?_⟩,λy c e=>?_,I.free,I.freeC,λp hp=>?_,tracked ⟨oL,hoL,I.free⟩ hs,by simpa using I.len⟩ ⟨_,hs,.inl rfl⟩
  .exact(hs.2 b<|aS (aE (eB e) I.ok.above)).trans (I.base.keep b o e n hb hx)
  .obtain⟨sl,e1⟩:=I.base.slot b o e n hb hx;exact⟨sl,(hs.2 b<|aS (aE (eB e) I.ok.above)).trans e1⟩
  .obtain⟨o',e1⟩:=I.base.there b o e hx;exact⟨o',(hs.2 b<|aS (aE (eB e) I.ok.above)).trans e1⟩
  .by_cases hj:j=i
   .subst hj;rw[hi]at e1;cases e1;rw[aC hiσ]at e2;cases e2;exact⟨u,r,.inl ⟨hk,by simp⟩⟩
   .rw[aq (Ne.symm hj)]at e2;obtain⟨u',r',q⟩:=hl j y v' e1 e2 e3;refine⟨u',r',?_⟩;rcases q with⟨k,e⟩|⟨k,c,e,z⟩
    .refine .inl ⟨k,?_⟩;have:y≠x:=λe=>hj (aM7 hN e1<|e ▸ hi)
     simp[this,e]
    .exact .inr ⟨k,c,e,z.sameBut hs<|cne y c e⟩
  .obtain⟨w',z⟩:=I.cell y c e;exact⟨w',z.sameBut hs<|cne y c e⟩
  .obtain⟨e,n,ne,nf,d⟩:=I.pin p hp;exact⟨(hs.2 p.1 ne).trans e,n,ne,nf,d⟩
 .have hfn:X.fn x=true:=by
   rcases hf with z|z
   .exact z
   .rw[z]at hk;cases hk
  obtain⟨c,hc⟩:=I.ok.has x (.inl hk);obtain⟨w',z⟩:=I.cell x c hc;refine wpAny_storeName_cell I.ok.kind hk hc z (λh' hc' hs=>?_);obtain⟨oc,hoc,hocd⟩:=id z;refine h { s with heap:=h' } ⟨I.ok,I.os,I.bare,⟨λb o e n hb hx=>?_,λb o e n hb hx=>?_,I.base.free,λb o e hx=>?_,I.base.tups,I.base.frzs,I.base.tbls⟩,⟨m,hn.sameBut hs<|Ne.symm (cne x c hc),λj y v' e1 e2 e3=>?_⟩,λy c' e=>?_,I.free,I.freeC,λp hp=>?_,tracked ⟨oc,hoc,I.freeC x c hc⟩ hs,by simpa using I.len⟩ ⟨c,hs,.inr hc⟩
  .exact(hs.2 b<|aS (aE (eB e)<|I.ok.cab x c hfn hc)).trans (I.base.keep b o e n hb hx)
  .obtain⟨sl,e1⟩:=I.base.slot b o e n hb hx;exact⟨sl,(hs.2 b<|aS (aE (eB e)<|I.ok.cab x c hfn hc)).trans e1⟩
  .obtain⟨o',e1⟩:=I.base.there b o e hx;exact⟨o',(hs.2 b<|aS (aE (eB e)<|I.ok.cab x c hfn hc)).trans e1⟩
  .by_cases hj:j=i
   .subst hj;rw[hi]at e1;cases e1;rw[aC hiσ]at e2;cases e2;exact⟨u,r,.inr ⟨.inl hk,c,hc,hc'⟩⟩
   .rw[aq (Ne.symm hj)]at e2;obtain⟨u',r',q⟩:=hl j y v' e1 e2 e3;refine⟨u',r',?_⟩;rcases q with q|⟨k,c',e,z'⟩
    .exact .inl q
    .refine .inr ⟨k,c',e,z'.sameBut hs ?_⟩
     rintro rfl
     exact hj<|aM7 hN e1 (I.ok.inj _ _ _ e hc ▸ hi)
  .by_cases hcc:c'=c
   .subst hcc;exact⟨_,hc'⟩
   .obtain⟨w2,z2⟩:=I.cell y c' e;exact⟨w2,z2.sameBut hs hcc⟩
  .obtain⟨e,n,ne,nf,d⟩:=I.pin p hp;refine⟨(hs.2 p.1 ?_).trans e,n,ne,nf,d⟩;intro q;rw[q,hoc]at e;have q':oc=p.2:=bc.inj e;exact d w' (by rw[← q'];exact hocd)
def ac0(I:Inv X pins σ H s)(hN:X.N.Nodup)(hi:X.N[i]? = Ob x)(hx:Loc X.env.scope x)(r:L0 v u)
  (h:∀s',Inv X pins (σ.set i<|Ob v) H s'->Q () s') (hf:X.fn x=true\/X.env.scope.names.lookup x=Ob .local:=by first|exact .inl rfl|exact .inr rfl|assumption):eh M A (storeName X.env x u) Q E s :=
 aB3 I hN hi hx r (λs' I' _=>h s' I') hf
def Inv.call'(I:Inv X pins σ H s)(ho:s'.os=s.os)(u:Un (frs X.stack) ch H H' s.heap s'.heap)(hok:HOk X.prog X.w H' s'.heap)(hg:AllBare s'.gens)
  (hch:∀b∈ch,(b∈X.ex\/X.s₀.heap.objs.size<=b)/\b≠X.env.locals/\(∀x c,X.env.cells.lookup x=Ob c->c≠b)/\∀p∈X.pn++pins,p.1≠b):Inv X pins σ H' s':=by
 obtain⟨h',g',d',t',o'⟩:=s';have e:o'=s.os:=ho;subst e;exact I.call (g':=g') (t':=t') (d':=d') u hok hg hch
end
noncomputable abbrev XK:=eP->Option eR->Hp->Prop
noncomputable abbrev St:=List<|Option V
noncomputable abbrev VK:=V->Hp->Prop
noncomputable abbrev TE:=St->Hp->VK->Prop
noncomputable abbrev TT:=St->Hp->(Bool->Hp->Prop)->Prop
noncomputable abbrev TA:=St->Hp->(List V->Hp->Prop)->Prop
structure Ends where
 nx:St->Hp->Prop
 rt:VK
 bk:St->Hp->Prop:=λ_ _=>False
 ct:St->Hp->Prop:=λ_ _=>False
noncomputable abbrev TS:=Ends->St->Hp->Prop
noncomputable def EP(X:Cx)(pins:List (eR×Obj))(σ:St)(Q:VK)(u:eP)(s':eQ):Prop:=∃v H',Inv X pins σ H' s'/\L0 v u/\Q v H'
noncomputable def TP(X:Cx)(pins:List (eR×Obj))(σ:St)(Q:Bool->Hp->Prop)(b:Bool)(s':eQ):Prop:=∃H',Inv X pins σ H' s'/\Q b H'
noncomputable def AP(X:Cx)(pins:List (eR×Obj))(σ:St)(Q:List V->Hp->Prop)(us:List eP)(s':eQ):Prop:=∃vs H',Inv X pins σ H' s'/\D7 vs us/\Q vs H'
noncomputable def SP(X:Cx)(pins:List (eR×Obj))(D:Ends)(f:Flow)(s':eQ):Prop :=
 match f with
 | .next=>∃σ' H',Inv X pins σ' H' s'/\D.nx σ' H'
 | .brk=>∃σ' H',Inv X pins σ' H' s'/\D.bk σ' H'
 | .cont=>∃σ' H',Inv X pins σ' H' s'/\D.ct σ' H'
 | .ret u=>∃v σ' H',Inv X pins σ' H' s'/\L0 v u/\D.rt v H'
noncomputable def PE(X:Cx)(e:Expr)(t:TE):Prop :=
 ∀(pins:List (eR×Obj)) (s:eQ) (σ:St) (H:Hp) (Q:VK),Inv X pins σ H s->t σ H Q->eh (ez X.prog X.w) X.A (eval e X.env) (EP X pins σ Q) X.xe s
noncomputable def PT(X:Cx)(e:Expr)(t:TT):Prop :=
 ∀(pins:List (eR×Obj)) (s:eQ) (σ:St) (H:Hp) (Q:Bool->Hp->Prop),Inv X pins σ H s->t σ H Q->eh (ez X.prog X.w) X.A (isTrue e X.env<|eval e X.env) (TP X pins σ Q) X.xe s
noncomputable def PW(X:Cx)(e:Expr)(t:TT):Prop :=
 ∀(whole:Sem eP) (pins:List (eR×Obj)) (s:eQ) (σ:St) (H:Hp) (Q:Bool->Hp->Prop),Inv X pins σ H s->t σ H Q->eh (ez X.prog X.w) X.A (isTrue e X.env whole) (TP X pins σ Q) X.xe s
def PW.pt(h:PW X e t):PT X e t:=h _
noncomputable def PA(X:Cx)(es:List Expr)(t:TA):Prop :=
 ∀(pos:Pos) (pins:List (eR×Obj)) (s:eQ) (σ:St) (H:Hp) (Q:List V->Hp->Prop),Inv X pins σ H s->t σ H Q->eh (ez X.prog X.w) X.A (spliced<|backTo pos (dI es X.env)) (AP X pins σ Q) X.xe s
noncomputable def PS(X:Cx)(st:Stmt)(t:TS):Prop :=
 ∀(pins:List (eR×Obj)) (s:eQ) (σ:St) (H:Hp) (D:Ends),Inv X pins σ H s->t D σ H->eh (ez X.prog X.w) X.A (exec st X.env) (SP X pins D) X.xe s
noncomputable def PSs(X:Cx)(st:List Stmt)(t:TS):Prop :=
 ∀(pins:List (eR×Obj)) (s:eQ) (σ:St) (H:Hp) (D:Ends),Inv X pins σ H s->t D σ H->eh (ez X.prog X.w) X.A (execs st X.env) (SP X pins D) X.xe s
def thn{α:Type}{t:Sem α}{Q Q':α->eQ->Prop}{M:Model}{A:dP}{E:eP->eQ->Prop}{s:eQ}(h:eh M A t Q E s)(hQ:∀a s,Q a s->Q' a s):eh M A t Q' E s:=dE h hQ λ_ _ x=>x
section
variable {X:Cx}
def bin{a b:Expr}{ta tb:TE}(ha:PE X a ta)(hb:PE X b tb){pins:List (eR×Obj)}{s:eQ}{σ:St}{H:Hp}{R:V->V->Hp->Prop}(I:Inv X pins σ H s)(h:ta σ H λx H1=>tb σ H1 λy H2=>R x y H2)
  {α:Type}{Q:α->eQ->Prop}{f:eP->eP->Sem α}
  (hf:∀v u s2 x y H2,Inv X pins σ H2 s2->L0 x v->L0 y u->R x y H2->eh (ez X.prog X.w) X.A (f v u) Q X.xe s2) :
  eh (ez X.prog X.w) X.A (eval a X.env) (λv s₁=>eh (ez X.prog X.w) X.A (eval b X.env) (λu s₂=>eh (ez X.prog X.w) X.A (f v u) Q X.xe s₂) X.xe s₁) X.xe s:=by
 refine thn (ha pins s σ H _ I h) λv s1 ⟨x,H1,I1,r1,q1⟩=>?_
 refine thn (hb pins s1 σ H1 _ I1 q1) λu s2 ⟨y,H2,I2,r2,q2⟩=>?_
 exact hf v u s2 x y H2 I2 r1 r2 q2
noncomputable def cB6(i:Nat):TE:=λσ H Q=>∃v,σ[i]? = Ob (Ob v)/\Q v H
noncomputable def tC(v:V):TE:=λ_ H Q=>Q v H
def V4(hN:X.N[i]? = Ob x)(hv:Vis X.env.scope x)(hd:(x==("__debug__" : Str))=false:=by decide)(hcd:(x==("__classdict__" : Str))=false:=by decide):PE X (.Name x pos) (cB6 i):=by
 intro pins s σ H Q I h;obtain⟨v,e,h⟩:=h;obtain⟨m,hn,hl⟩:=I.loc;obtain⟨u,r,l⟩:=hl i x v hN e hv;have fin:EP X pins σ Q u s:=⟨v,H,I,r,h⟩;rcases l with⟨hk,hm⟩|⟨hk,c,hc,hcell⟩
 .exact wpAny_Name (wpAny_loadName_local I.ok.kind hk hn hm fin) hd
 .rcases hk with hk|hk
  .exact wpAny_Name (wpAny_loadName_cell I.ok.kind hk hc hcell fin) hd
  .exact wpAny_Name (wpAny_loadName_free I.ok.kind hk hc hcell fin hcd) hd
def cm7{i j pos}:PE X (.Constant (.int i) j pos) (tC<|.int i):=λ_ _ _ H _ I h=>wpAny_Constant_int ⟨.int i,H,I.tok _,⟨_,rfl⟩,h⟩
def cE2{b j pos}:PE X (.Constant (.bool b) j pos) (tC<|.bl b):=λ_ _ _ H _ I h=>Constant_bool ⟨.bl b,H,I,rfl,h⟩
def cm5{j pos}:PE X (.Constant .none j pos) (tC .non):=λ_ _ _ H _ I h=>Constant_none ⟨.non,H,I,rfl,h⟩
def cm2{x j pos}:PE X (.Constant (.str x) j pos) (tC<|.str x):=λ_ _ _ H _ I h=>Calls.Constant_str ⟨.str x,H,I.tok _,⟨_,rfl⟩,h⟩
noncomputable def Gl(X:Cx)(x:Str):Prop:=X.env.kindOf x=Ob .globalImplicit
def c7(I:Inv X pins σ H s)(hg:Gl X x)(hm:X.mg x=Ob u)(h:Q u s)
  (hd:(x==("__debug__" : Str))=false:=by decide):eh (ez X.prog X.w) X.A (eval (.Name x pos) X.env) Q E s :=
 Calls.Name_function_global I.ok.kind hg (Calls.loadGlobal_global (by rw[I.ok.glob];exact I.mod.glob.keeps I.bk) hm h) hd
def an9(I:Inv X pins σ H s)(hg:Gl X x)(hm:X.mg x=Oa)(hv:dR x=Ob u)(h:Q u s)
  (hn:x ≠ "__name__" := by decide) (hd:(x==("__debug__" : Str))=false:=by decide):eh (ez X.prog X.w) X.A (eval (.Name x pos) X.env) Q E s:=by
 obtain⟨mb,h1,h2⟩:=I.mod.blt;exact Calls.Name_function_global I.ok.kind hg (Calls.loadGlobal_builtin (by rw[I.ok.glob];exact I.mod.glob.keeps I.bk) hm (by rw[I.ok.blt];exact h1.keeps I.bk) ((h2 x hn).trans hv) h) hd
def bT7(hg:Gl X x)(hm:X.mg x=Ob u)(r:L0 v u)(hd:(x==("__debug__" : Str))=false:=by decide):PE X (.Name x pos) (tC v) :=
 λ_ _ _ H _ I h=>c7 I hg hm ⟨v,H,I,r,h⟩ hd
def bT9(hg:Gl X x)(hm:X.mg x=Oa)(hv:dR x=Ob u)(r:L0 v u)(hn:x ≠ "__name__" := by decide)(hd:(x==("__debug__" : Str))=false:=by decide):PE X (.Name x pos) (tC v) :=
 λ_ _ _ H _ I h=>an9 I hg hm hv ⟨v,H,I,r,h⟩ hn hd
variable {a b:Expr}{ta tb:TE}{pos:Pos}
variable {tA tB':TT}{T5:List Expr}
noncomputable def cO0(t u:TT):TT:=λσ H Q=>t σ H λc H1=>if c=true then u σ H1 Q else Q false H1
noncomputable def tOr(t u:TT):TT:=λσ H Q=>t σ H λc H1=>if c=true then Q true H1 else u σ H1 Q
noncomputable def cN5(t:TT):TT:=λσ H Q=>t σ H λc H1=>Q (!c) H1
def bS3(ha:PT X a tA):PW X (.BoolOp .And [a] pos) tA:=by
 intro wh pins s σ H Q I h;refine isTrue_and (thn (ha pins s σ H Q I h) λc s1 e=>?_);cases c with
 | true=>exact isTrue_and_nil e
 | false=>exact e
def cl1(ha:PT X a tA):PW X (.BoolOp .Or [a] pos) tA:=by
 intro wh pins s σ H Q I h;refine isTrue_or (thn (ha pins s σ H Q I h) λc s1 e=>?_);cases c with
 | false=>exact isTrue_or_nil e
 | true=>exact e
def bx5(ha:PT X a tA)(hb:PW X (.BoolOp .And (b::T5) pos) tB'):PW X (.BoolOp .And (a::b::T5) pos) (cO0 tA tB'):=by
 intro wh pins s σ H Q I h;refine isTrue_and (thn (ha pins s σ H _ I h) λc s1 ⟨H1,I1,q1⟩=>?_);cases c with
 | true=>exact hb wh pins s1 σ H1 Q I1 q1
 | false=>exact⟨H1,I1,q1⟩
def cd7(ha:PT X a tA)(hb:PW X (.BoolOp .Or (b::T5) pos) tB'):PW X (.BoolOp .Or (a::b::T5) pos) (tOr tA tB'):=by
 intro wh pins s σ H Q I h;refine isTrue_or (thn (ha pins s σ H _ I h) λc s1 ⟨H1,I1,q1⟩=>?_);cases c with
 | true=>exact⟨H1,I1,q1⟩
 | false=>exact hb wh pins s1 σ H1 Q I1 q1
def bx6(ha:PT X a tA):PT X (.UnaryOp .Not a pos) (cN5 tA):=by
 intro pins s σ H Q I h;exact isTrue_not<|ha pins s σ H (λc H1=>Q (!c) H1) I h
noncomputable def cC4(ta tb:TE):TE:=λσ H Q=>ta σ H λx H1=>∃c,x=.bl c/\if c=true then tb σ H1 Q else Q (.bl false) H1
noncomputable def cN4(ta tb:TE):TE:=λσ H Q=>ta σ H λx H1=>∃c,x=.bl c/\if c=true then Q (.bl true) H1 else tb σ H1 Q
noncomputable def cB8(ta:TE):TE:=λσ H Q=>ta σ H λx H1=>∃c,x=.bl c/\Q (.bl (!c)) H1
def bz1{op}(h:PE X a t):PE X (.BoolOp op [a] pos) t:=λpins s σ H Q I hw=>BoolOp_one<|h pins s σ H Q I hw
def aG8(ha:PE X a ta)(hb:PE X (.BoolOp .And (b::T5) pos) tb):PE X (.BoolOp .And (a::b::T5) pos) (cC4 ta tb):=by
 intro pins s σ H Q I h;refine BoolOp_and (thn (ha pins s σ H _ I h) λv s1 ⟨x,H1,I1,r1,q1⟩=>?_);obtain⟨c,rfl,q1⟩:=q1;cases r1;refine dG ?_;cases c with
 | true=>exact hb pins s1 σ H1 Q I1 q1
 | false=>exact⟨.bl false,H1,I1,rfl,q1⟩
def cd8(ha:PE X a ta)(hb:PE X (.BoolOp .Or (b::T5) pos) tb):PE X (.BoolOp .Or (a::b::T5) pos) (cN4 ta tb):=by
 intro pins s σ H Q I h;refine BoolOp_or (thn (ha pins s σ H _ I h) λv s1 ⟨x,H1,I1,r1,q1⟩=>?_);obtain⟨c,rfl,q1⟩:=q1;cases r1;refine dG ?_;cases c with
 | false=>exact hb pins s1 σ H1 Q I1 q1
 | true=>exact⟨.bl true,H1,I1,rfl,q1⟩
def cm4(ha:PE X a ta):PE X (.UnaryOp .Not a pos) (cB8 ta):=by
 intro pins s σ H Q I h;refine UnaryOp_ (thn (ha pins s σ H _ I h) λv s1 ⟨x,H1,I1,r1,q1⟩=>?_);obtain⟨c,rfl,q1⟩:=q1;cases r1;exact not_of<|dG ⟨.bl (!c),H1,I1,rfl,q1⟩
noncomputable def tIf(t:TT)(ta tb:TE):TE:=λσ H Q=>t σ H λc H1=>if c=true then ta σ H1 Q else tb σ H1 Q
def aM3(hc:PT X c tA)(ha:PE X a ta)(hb:PE X b tb):PE X (.IfExp c a b pos) (tIf tA ta tb):=by
 intro pins s σ H Q I h;refine wpAny_IfExp (thn (hc pins s σ H _ I h) λd s1 ⟨H1,I1,q1⟩=>?_);cases d with
 | true=>exact ha pins s1 σ H1 Q I1 q1
 | false=>exact hb pins s1 σ H1 Q I1 q1
end
noncomputable def SqL(K:aa)(H:Hp)(a:eR)(xs:List V):Prop :=
 Rd H a (.lst xs) \/
  ∃(o:Obj) (its:Array eP) (n:Nat),K.lookup a=Ob o/\o.cls=.type "list" /\ o.dict=Oa/\o.data=.seq its n/\its.size<=dJ/\D7 xs its.toList
noncomputable def SqT(K:aa)(H:Hp)(a:eR)(xs:List V):Prop :=
 Rd H a (.tup xs) \/
  ∃(o:Obj) (its:Array eP) (n:Nat),K.lookup a=Ob o/\o.cls=.type "tuple" /\ o.dict=Oa/\o.data=.seq its n/\its.size<=dJ/\D7 xs its.toList
noncomputable def cQ8:eP->Option V
 | .none=>Ob .non
 | .bool b=>Ob<|.bl b
 | .int i _=>Ob<|.int i
 | .str x _=>Ob<|.str x
 | .bytes b _=>Ob<|.byt b
 | .float b _=>Ob<|.flt b
 | .ref a=>Ob<|.ref a
 | .type n=>Ob<|.ty n
 | _=>Oa
def L0.abs(r:L0 x u):cQ8 u=Ob x:=by
 cases x with
 | non=>cases r;rfl
 | bl _=>cases r;rfl
 | int _=>obtain⟨t,rfl⟩:=r;rfl
 | str _=>obtain⟨t,rfl⟩:=r;rfl
 | byt _=>obtain⟨t,rfl⟩:=r;rfl
 | flt _=>obtain⟨t,rfl⟩:=r;rfl
 | ref _=>cases r;rfl
 | ty _=>cases r;rfl
theorem L0.inj(r:L0 x u)(q:L0 y u):x=y:=bc.inj<|r.abs.symm.trans q.abs
theorem D7.inj:∀{xs ys:List V}{us:List eP},D7 xs us->D7 ys us->xs=ys
 | _,_,_,.nil,.nil=>rfl
 | _,_,_,.cons r t,.cons r' t'=>by rw[r.inj r',D7.inj t t']
section
variable {X:Cx}{pins:List (Addr×Obj)}{σ:St}{H:Hp}{s:Shared}{a:Addr}{xs ys:List V}
def SqL.of{K:aa}(h:H a=Ob (.lst xs)):SqL K H a xs:=.inl<|.inl h
def SqT.of{K:aa}(h:H a=Ob (.tup xs)):SqT K H a xs:=.inl<|.inl h
def Inv.list(I:Inv X pins σ H s)(h:SqL X.K H a xs):∃its:List eP,D7 xs its/\PlainL s.heap a its.toArray/\xs.length<=dJ:=by
 rcases h with h|⟨o,its,n,hk,hc,hd,hs,hz,r⟩
 .obtain⟨z,its,n,r,e⟩:=h.ok I.hok;exact⟨its,r,⟨_,n,e,rfl,rfl,rfl⟩,z⟩
 .refine⟨its.toList,r,⟨o,n,I.kIn a o hk,hc,hd,by simpa using hs⟩,?_⟩;have e:=r.length;simp only[br]at e;omega
def Inv.tupN(I:Inv X pins σ H s)(h:SqT X.K H a xs):∃its:List eP,D7 xs its/\ay0 s.heap a its.toArray/\xs.length<=dJ:=by
 rcases h with h|⟨o,its,n,hk,hc,hd,hs,hz,r⟩
 .obtain⟨z,its,r,p⟩:=h.ok I.hok;exact⟨its,r,p,z⟩
 .refine⟨its.toList,r,⟨o,I.kIn a o hk,hc,⟨n,by simpa using hs⟩,hd⟩,?_⟩;have e:=r.length;simp only[br]at e;omega
def Inv.tuple(I:Inv X pins σ H s)(h:SqT X.K H a xs):∃its:List eP,D7 xs its/\IsTup s.heap a its.toArray/\xs.length<=dJ :=
 let⟨its,r,p,z⟩:=I.tupN h;⟨its,r,p.tup,z⟩
def Inv.list_inj(I:Inv X pins σ H s)(h:SqL X.K H a xs)(h':SqL X.K H a ys):xs=ys:=by
 obtain⟨its,r,⟨o,n,e,_,_,d⟩,_⟩:=I.list h;obtain⟨its',r',⟨o',n',e',_,_,d'⟩,_⟩:=I.list h';rw[e]at e';cases e';rw[d]at d';injection d' with d1 _
 have:its=its':=by simpa using congrArg Array.toList d1
 subst this;exact r.inj r'
def Inv.tuple_inj(I:Inv X pins σ H s)(h:SqT X.K H a xs)(h':SqT X.K H a ys):xs=ys:=by
 obtain⟨its,r,⟨o,e,_,n,d⟩,_⟩:=I.tuple h;obtain⟨its',r',⟨o',e',_,n',d'⟩,_⟩:=I.tuple h';rw[e]at e';cases e';rw[d]at d';injection d' with d1 _
 have:its=its':=by simpa using congrArg Array.toList d1
 subst this;exact r.inj r'
end
noncomputable abbrev Cx.wish(X:Cx)(E:eP->eQ->Prop):Cx:={ X with xe:=E }
noncomputable abbrev Cx.nox(X:Cx):Cx:=X.wish λ_ _=>False
theorem Cx.Ok.wish{X:Cx}(ok:X.Ok)(E:eP->eQ->Prop):(X.wish E).Ok :=
 ⟨ok.mod,ok.kind,ok.glob,ok.blt,ok.above,ok.inj,ok.has,ok.cab,ok.hd,ok.frames,ok.stk,ok.exf,ok.bs,ok.bsz,ok.noex,ok.exfs,ok.funs,ok.frf⟩
def Cx.Ok.unwish{X:Cx}{E:eP->eQ->Prop}(ok:(X.wish E).Ok):X.Ok :=
 ⟨ok.mod,ok.kind,ok.glob,ok.blt,ok.above,ok.inj,ok.has,ok.cab,ok.hd,ok.frames,ok.stk,ok.exf,ok.bs,ok.bsz,ok.noex,ok.exfs,ok.funs,ok.frf⟩
section
variable {X:Cx}{pins:List (Addr×Obj)}{σ:St}{H:Hp}{s:Shared}{E:Value->Shared->Prop}
theorem Inv.wish(I:Inv X pins σ H s)(E:eP->eQ->Prop):Inv (X.wish E) pins σ H s:=⟨I.ok.wish E,I.os,I.bare,I.base,I.loc,I.cell,I.free,I.freeC,I.pin,I.hok,I.len⟩
theorem Inv.unwish(I:Inv (X.wish E) pins σ H s):Inv X pins σ H s:=⟨I.ok.unwish,I.os,I.bare,I.base,I.loc,I.cell,I.free,I.freeC,I.pin,I.hok,I.len⟩
theorem SP.unwish(h:SP (X.wish E) pins D f s'):SP X pins D f s':=by
 cases f with
 | next=>obtain⟨σ',H',I,q⟩:=h;exact⟨σ',H',I.unwish,q⟩
 | brk=>obtain⟨σ',H',I,q⟩:=h;exact⟨σ',H',I.unwish,q⟩
 | cont=>obtain⟨σ',H',I,q⟩:=h;exact⟨σ',H',I.unwish,q⟩
 | ret u=>obtain⟨v,σ',H',I,r,q⟩:=h;exact⟨v,σ',H',I.unwish,r,q⟩
theorem PSs.nox{st:List Stmt}{t:TS}(h:PSs X.nox st t):PSs X st t:=λpins s σ H D I hw =>dE (h pins s σ H D (I.wish _) hw) (λ_ _ q=>q.unwish) λ_ _ z=>False.elim z
end
section
variable {X:Cx}{st:Stmt}{T5:List Stmt}{t u:TS}{e:Expr}{te:TE}{pos:Pos}
noncomputable def cc8:TS:=λD σ H=>D.nx σ H
noncomputable def cN1(t u:TS):TS:=λD σ H=>t { D with nx:=u D } σ H
def be6:PSs X [] cc8:=λ_ _ σ H _ I h=>wpAny_execs_nil ⟨σ,H,I,h⟩
def j7(h1:PS X st t)(h2:PSs X T5 u):PSs X (st::T5) (cN1 t u):=by
 intro pins s σ H D I h;refine wpAny_execs_cons (thn (h1 pins s σ H { D with nx:=u D } I h) λf s1 q=>?_);cases f with
 | next =>
  obtain⟨σ',H',I',q⟩:=q;exact h2 pins s1 σ' H' D I' q
 | ret v=>exact q
 | brk=>exact q
 | cont=>exact q
def be5(h1:PS X st t):PSs X [st] t:=by
 intro pins s σ H D I h;refine wpAny_execs_cons (thn (h1 pins s σ H D I h) λf s1 q=>?_);cases f with
 | next=>exact wpAny_execs_nil q
 | ret v=>exact q
 | brk=>exact q
 | cont=>exact q
noncomputable def cj8:TS:=λD σ H=>D.bk σ H
noncomputable def cC1:TS:=λD σ H=>D.ct σ H
def bS9:PS X (.Pass pos) cc8:=λ_ _ σ H _ I h=>wpAny_Pass ⟨σ,H,I,h⟩
def by0:PS X (.Break pos) cj8:=λ_ _ σ H _ I h=>wpAny_Break ⟨σ,H,I,h⟩
def aM1:PS X (.Continue pos) cC1:=λ_ _ σ H _ I h=>wpAny_Continue ⟨σ,H,I,h⟩
def Inv.quiet(I:Inv X pins σ H s):interactive X.env=false:=by simp[interactive,I.ok.kind]
noncomputable def cC0(te:TE):TS:=λD σ H=>te σ H λ_ H1=>D.nx σ H1
def at6(he:PE X e te)(hs:swapsWith e Oa pos.line X.env=pure false:=by rfl):PS X (.Expr e pos) (cC0 te):=by
 intro pins s σ H D I h;exact wpAny_Expr_any (thn (he pins s σ H _ I h) λv s1 ⟨x,H1,I1,r1,q1⟩=>⟨σ,H1,I1,q1⟩) I.quiet hs
noncomputable def cN2(te:TE):TS:=λD σ H=>te σ H D.rt
def bx8(he:PE X e te):PS X (.Return (Ob e) pos) (cN2 te):=by
 intro pins s σ H D I h;exact wpAny_Return_some<|thn (he pins s σ H _ I h) λv s1 ⟨x,H1,I1,r1,q1⟩=>⟨x,σ,H1,I1,r1,q1⟩
noncomputable def cN7(c:TT)(t u:TS):TS:=λD σ H=>c σ H λb H1=>if b=true then t D σ H1 else u D σ H1
def be8(hc:PT X c tc)(ha:PSs X a t)(hb:PSs X b u):PS X (.If c a b pos) (cN7 tc t u):=by
 intro pins s σ H D I h;refine wpAny_If (thn (hc pins s σ H _ I h) λd s1 ⟨H1,I1,q1⟩=>?_);cases d with
 | true=>exact ha pins s1 σ H1 D I1 q1
 | false=>exact hb pins s1 σ H1 D I1 q1
noncomputable def cj7:TS:=λ_ _ _=>False
def T6:PSs X sts cj7:=λ_ _ _ _ _ _ h=>h.elim
end
noncomputable abbrev TG:=V->St->Hp->(St->Hp->Prop)->Prop
noncomputable abbrev TGs:=List V->St->Hp->(St->Hp->Prop)->Prop
noncomputable def PG(X:Cx)(target:Expr)(t:TG):Prop :=
 ∀(pins:List (eR×Obj)) (s:eQ) (σ:St) (H:Hp) (v:V) (u:eP) (Q:St->Hp->Prop),Inv X pins σ H s->L0 v u->t v σ H Q ->
  eh (ez X.prog X.w) X.A (assign target X.env u) (λ_ s'=>∃σ' H',Inv X pins σ' H' s'/\Q σ' H') X.xe s
noncomputable def PGs(X:Cx)(ts:List Expr)(t:TGs):Prop :=
 ∀(pins:List (eR×Obj)) (s:eQ) (σ:St) (H:Hp) (vs:List V) (us:List eP) (Q:St->Hp->Prop),Inv X pins σ H s->D7 vs us->t vs σ H Q ->
  eh (ez X.prog X.w) X.A (assignInOrder ((dW ts X.env).map (·.2)) us) (λ_ s'=>∃σ' H',Inv X pins σ' H' s'/\Q σ' H') X.xe s
noncomputable abbrev cL8:=V->V->V->Hp->(Hp->Prop)->Prop
noncomputable def cL9(X:Cx)(t:cL8):Prop :=
 ∀(pins:List (eR×Obj)) (s:eQ) (σ:St) (H:Hp) (o i v:V) (ov iv u:eP) (Q:Hp->Prop),Inv X pins σ H s->L0 o ov->L0 i iv->L0 v u->t o i v H Q ->
  eh (ez X.prog X.w) X.A (setItem ov iv u) (λ_ s'=>∃H',Inv X pins σ H' s'/\Q H') X.xe s
section
variable {X:Cx}{pos:Pos}
noncomputable def cf1(i:Nat):TG:=λv σ H Q=>Q (σ.set i<|Ob v) H
def bT4(hN:X.N.Nodup)(hi:X.N[i]? = Ob x)(hx:Loc X.env.scope x)(hf:X.fn x=true\/X.env.scope.names.lookup x=Ob .local:=by first|exact .inl rfl|exact .inr rfl|assumption):PG X (.Name x pos) (cf1 i):=by
 intro pins s σ H v u Q I r h;exact wpAny_assign_Name<|ac0 I hN hi hx r (λs' I'=>⟨_,H,I',h⟩) hf
noncomputable def cP8:TGs:=λvs σ H Q=>vs=[]/\Q σ H
noncomputable def cI6(t:TG)(u:TGs):TGs:=λvs σ H Q=>∃v r,vs=v::r/\t v σ H λσ' H'=>u r σ' H' Q
def bT3:PGs X [] cP8:=by
 intro pins s σ H vs us Q I r h;obtain⟨e,h⟩:=h;subst e;cases r;exact assignInOrder_nil ⟨σ,H,I,h⟩
def by7(h1:PG X e t)(h2:PGs X es u)
  (hs:(dW (e::es) X.env).map (·.2)=assign e X.env::(dW es X.env).map (·.2):=by rfl):PGs X (e::es) (cI6 t u):=by
 intro pins s σ H vs us Q I r h;obtain⟨v,vr,e1,h⟩:=h;subst e1;cases r with
 | cons r rr =>
  rw[hs];refine assignInOrder_cons (thn (h1 pins s σ H _ _ _ I r h) λ_ s1 ⟨σ1,H1,I1,q1⟩=>?_);exact h2 pins s1 σ1 H1 _ _ Q I1 rr q1
noncomputable def cP6(K:aa)(n:Nat)(t:TGs):TG:=λv σ H Q=>∃a xs,v=.ref a/\SqT K H a xs/\xs.length=n/\t xs σ H Q
def cm0(hc:X.calm=true)(h:PGs X es t)
  (hn:(dW es X.env).length=n:=by rfl) (hst:(dW es X.env).findIdx? (·.1)=Oa:=by rfl):PG X (.Tuple es k pos) (cP6 X.K n t):=by
 intro pins s σ H v u Q I r hw;obtain⟨a,xs,e1,hq,hl,hw⟩:=hw;subst e1;cases r;obtain⟨its,rv,ht,hz⟩:=I.tuple hq;refine assign_Tuple_tuple (I.ok.hd hc) ht (by simp[hn,← hl,rv.length]) hst λh' hx=>?_
 have I1:Inv X pins σ H { s with heap:=h' }:=I.kept (t':=s.toks) λb o e=>hx b o (aS<|eB e) e
 exact h pins _ σ H xs _ Q I1 (by simpa using rv) hw
noncomputable def cP7(to ti:TE)(t:cL8):TG:=λv σ H Q=>to σ H λo H1=>ti σ H1 λi H2=>t o i v H2 λH3=>Q σ H3
def cm1(ho:PE X o to)(hi:PE X i ti)(hs:cL9 X t)
  (ha:∀v,assign (.Subscript o i pos) X.env v=(do
   let ov ← holding [v] (eval o X.env)
   let iv ← holding [v,ov] (eval i X.env)
   standAt pos
   holding [v,ov,iv] (setItem ov iv v)
   release [v,ov,iv] []):=by intro _;rfl):PG X (.Subscript o i pos) (cP7 to ti t):=by
 intro pins s σ H v u Q I r h;rw[ha];refine dB (wpAny_holding<|thn (ho pins s σ H _ I h) λov s1 ⟨x,H1,I1,r1,q1⟩=>?_);refine dB (wpAny_holding<|thn (hi pins s1 σ H1 _ I1 q1) λiv s2 ⟨y,H2,I2,r2,q2⟩=>?_);refine dB (wpAny_standAt<|dB (wpAny_holding<|thn (hs pins s2 σ H2 x y v ov iv u _ I2 r1 r2 r q2) λ_ s3 ⟨H3,I3,q3⟩=>?_));exact wpAny_release ⟨σ,H3,I3,q3⟩
noncomputable def cC3(te:TE)(g:TG):TS:=λD σ H=>te σ H λx H1=>g x σ H1 D.nx
def by1(he:PE X e te)(hg:PG X tg g)(hs:swapsWithSole [tg] e pos.line X.env=pure false:=by rfl)(hw:swappedStores [tg] e X.env=pure Oa:=by rfl)
  (h1:(dW [tg] X.env).map (·.2)=[assign tg X.env]:=by rfl):PS X (.Assign [tg] e pos) (cC3 te g):=by
 intro pins s σ H D I h;refine wpAny_Assign_stores (thn (he pins s σ H _ I h) λv s1 ⟨x,H1,I1,r1,q1⟩=>?_) hs hw;rw[h1];exact thn (hg pins s1 σ H1 x v _ I1 r1 q1) λ_ s2 q=>q
def an0(hN:X.N.Nodup)(hi:X.N[i]? = Ob x)(hx:Loc X.env.scope x)(he:PE X e te)(hs:swapsWith e (Ob<|.Name x pos') pos.line X.env=pure false:=by rfl)(hf:X.fn x=true\/X.env.scope.names.lookup x=Ob .local:=by first|exact .inl rfl|exact .inr rfl|assumption):
  PS X (.Assign [.Name x pos'] e pos) (cC3 te<|cf1 i):=by
 intro pins s σ H D I h;refine wpAny_Assign_Name (thn (he pins s σ H _ I h) λv s1 ⟨y,H1,I1,r1,q1⟩=>?_) hs;exact ac0 I1 hN hi hx r1 (λs2 I2=>⟨_,H1,I2,q1⟩) hf
noncomputable def cN3(i j:Nat)(ta:TA):TS:=λD σ H=>ta σ H λvs H1=>∃v w,vs=[v,w]/\D.nx ((σ.set i<|Ob v).set j<|Ob w) H1
def cl6{kt k2 pt2}(hc:X.calm=true)(hN:X.N.Nodup)(hi:X.N[i]? = Ob x)(hj:X.N[j]? = Ob y)(hij:i≠j)
  (hx:X.env.scope.names.lookup x=Ob .local) (hy:X.env.scope.names.lookup y=Ob .local) (ha:PA X [a,b] ta)
  (hw:swappedStores [.Tuple [.Name x px,.Name y py] kt pt] (.Tuple [a,b] k2 pt2) X.env=pure (Ob [x,y]))
  (hs:swapsWithSole [.Tuple [.Name x px,.Name y py] kt pt] (.Tuple [a,b] k2 pt2) pos.line X.env=pure false:=by rfl) :
  PS X (.Assign [.Tuple [.Name x px,.Name y py] kt pt] (.Tuple [a,b] k2 pt2) pos) (cN3 i j ta):=by
 intro pins s σ H D I h;rw[exec_Assign_arm];refine dB (wpAny_standAt ?_);rw[hs];refine dB (dD ?_);rw[if_neg (by decide)];refine dB (Tuple_<|thn (ha _ pins s σ H _ I h) λus s1 ⟨vs,H1,I1,r1,q1⟩=>?_);obtain⟨v,w,e1,q1⟩:=q1;subst e1
 obtain⟨u1,u2,rfl,rv,rw'⟩:∃u1 u2,us=[u1,u2]/\L0 v u1/\L0 w u2:=by
  cases r1 with
  | cons p q =>
   cases q with
   | cons p' q' =>
    cases q';exact⟨_,_,rfl,p,p'⟩
 refine dF ?_ (by show 2<=dJ;decide);have I2:Inv X pins σ H1 { s1 with heap:=s1.heap.push { cls:=.type "tuple", data:=.seq [u1,u2].toArray } }:=I1.kept (t':=s1.toks) λb o e=>eA _ e
 rw[hw];refine dB (dD ?_);show eh (ez X.prog X.w) X.A (do rule "assign.swapped-stores";let items ← unpackItems (.ref s1.heap.objs.size) 2 Oa;assignInOrder [λv=>bindName X.env y v,λv=>bindName X.env x v] items.reverse;pure Flow.next) _ _ _;refine dB (wpAny_rule<|dB (unpackItems_tuple (items:=#[u1,u2]) (I.ok.hd hc) (IsTup.new s1.heap _) λh' hx'=>?_));have I3:=I2.kept (h':=h') (t':=s1.toks) λb o e=>hx' b o (aS<|eB e) e
 show eh _ _ (assignInOrder [λv=>bindName X.env y v,λv=>bindName X.env x v] [u2,u1] >>= λ_=>pure Flow.next) _ _ _;refine dB (assignInOrder_cons<|wpAny_bindName (ac0 I3 hN hj (.inl hy) rw' (λs2 I4=>?_)<|.inr hy));refine assignInOrder_cons (wpAny_bindName<|ac0 I4 hN hi (.inl hx) rv (λs3 I5=>assignInOrder_nil<|dD ?_) (.inr hx));rw[List.set_comm _ _ (Ne.symm hij)]at I5;exact⟨_,H1,I5,q1⟩
end
section
variable {X:Cx}{pos:Pos}
noncomputable def cj5(c:TT)(tb:TS):TS:=λD σ H=>∃W:Nat->St->Hp->Prop,(∃m,W m σ H)/\∀m σ H,W m σ H ->
 c σ H λb H1=>if b=true then ∃N:St->Hp->Prop,(∀σ' H',N σ' H'->∃m',m' < m/\W m' σ' H')/\tb { D with nx:=N,ct:=N,bk:=D.nx } σ H1 else D.nx σ H1
def bx7(hp:PassesOwn (ez X.prog X.w) X.A X.env X.xe)(hc:PT X c tc)(hb:PSs X body tb):PS X (.While c body [] pos) (cj5 tc tb):=by
 intro pins s σ H D I h;obtain⟨W,⟨m0,w0⟩,turn⟩:=h;refine wpAny_While<|codeAny_whileLoop (λn s'=>∃σ' H',Inv X pins σ' H' s'/\W n σ' H') ?_ m0 ⟨σ,H,I,w0⟩
 rintro n s1 ⟨σ1,H1,I1,w1⟩
 refine wpAny_passesOwn hp (thn (hc pins s1 σ1 H1 _ I1<|turn n σ1 H1 w1) λb s2 ⟨H2,I2,q2⟩=>?_);cases b with
 | true =>
  obtain⟨N,hN,q2⟩:=q2;rw[if_pos rfl];refine wpAny_passesOwn hp (thn (hb pins s2 σ1 H2 _ I2 q2) λf s3 q3=>?_);cases f with
  | next =>
   obtain⟨σ3,H3,I3,n3⟩:=q3;obtain⟨m',hm,w3⟩:=hN σ3 H3 n3;exact⟨m',hm,σ3,H3,I3,w3⟩
  | cont =>
   obtain⟨σ3,H3,I3,n3⟩:=q3;obtain⟨m',hm,w3⟩:=hN σ3 H3 n3;exact⟨m',hm,σ3,H3,I3,w3⟩
  | brk=>exact q3
  | ret v=>exact q3
 | false =>
  rw[if_neg aB];exact wpAny_execs_nil ⟨σ1,H2,I2,q2⟩
end
structure It where
 go:Nat->Hp->Prop
 yld:Nat->Hp->V->Hp->Prop
 stop:Nat->Hp->Prop
noncomputable def ap3(X:Cx)(pins:List (eR×Obj))(H:Hp)(b:eR):Prop :=
 H b=Oa/\b≠X.env.locals/\b∉X.fs/\(b∈X.ex\/X.s₀.heap.objs.size<=b)/\(∀x c,X.env.cells.lookup x=Ob c->c≠b)/\∀p∈X.pn++pins,p.1≠b
def Inv.fpOk(I:Inv X pins σ H s)(hb:s.heap.objs.size<=b)(hn:H' b=Oa):ap3 X pins H' b:=by
 refine⟨hn,Nat.ne_of_gt<|aE I.lt hb,I.nofs hb,.inr<|aL I.sz hb,λx c e z=>?_,λp hp z=>?_⟩
 .obtain⟨v,q⟩:=I.cell x c e;exact absurd (aE q.lt (by rw[z];exact hb))<|bq _
 .exact absurd (aE (eB (I.pin p hp).1) (by rw[z];exact hb)) (bq _)
structure Turn (P:dO) (w:World) (K:aa) (tg:Expr) (J:It) (fp:List eR) (it:eR) (tn:Nat->Heap->Prop):Prop where
 mem:it∈fp
 obj:∀i h,tn i h->∀b∈fp,∃o,h.get? b=Ob o/\∀v,o.data≠.cell v
 keep:∀i h h',tn i h->(∀b∈fp,∀o,h.get? b=Ob o->h'.get? b=Ob o)->tn i h'
 item:∀(X:Cx),X.prog=P->X.w=w->X.K=K->X.calm=true->∀(i:Nat) (pins:List (eR×Obj)) (s:eQ) (σ:St) (H:Hp) (E:eP->eQ->Prop),Inv X pins σ H s->(∀b∈fp,ap3 X pins H b)->tn i s.heap->J.go i H ->
  eh (ez P w) X.A (pyNext (.ref it)) (λr s1=>∃u,r=Ob u /\
   eh (ez P w) X.A (letOwnedTupleGo tg (.ref it) u) (λ_ s2=>∃x H',Inv X pins σ H' s2/\L0 x u/\J.yld i H x H'/\tn (i+1) s2.heap/\∀b∈fp,H' b=Oa) E s1) E s
 done:∀(X:Cx),X.prog=P->X.w=w->X.K=K->X.calm=true->∀(i:Nat) (pins:List (eR×Obj)) (s:eQ) (σ:St) (H:Hp) (E:eP->eQ->Prop),Inv X pins σ H s->(∀b∈fp,ap3 X pins H b)->tn i s.heap->J.stop i H ->
  eh (ez P w) X.A (pyNext<|.ref it) (λr s1=>r=Oa/\Inv X pins σ H s1) E s
 self:∀(A:dP) (i:Nat) (s:eQ) (Q:eP->eQ->Prop) (E:eP->eQ->Prop),tn i s.heap->Q (.ref it) s->eh (ez P w) A (pyIter<|.ref it) Q E s
noncomputable abbrev TI:=St->Hp->(It->Hp->Prop)->Prop
noncomputable def PIE(X:Cx)(pins:List (eR×Obj))(σ:St)(tg:Expr)(R:It->Hp->Prop)(itv:eP)(s2:eQ):Prop :=
 ∃(it:eR) (fp:List eR) (tn:Nat->Heap->Prop) (J:It) (H':Hp),itv=.ref it/\Inv X pins σ H' s2/\Turn X.prog X.w X.K tg J fp it tn/\tn 0 s2.heap/\(∀b∈fp,ap3 X pins H' b)/\R J H'
noncomputable def PI(X:Cx)(tg iter:Expr)(wi:TI):Prop :=
 ∀(pins:List (eR×Obj)) (s:eQ) (σ:St) (H:Hp) (R:It->Hp->Prop),Inv X pins σ H s->wi σ H R ->
  eh (ez X.prog X.w) X.A (eval iter X.env) (λv s1=>eh (ez X.prog X.w) X.A (pyIter v) (PIE X pins σ tg R) X.xe s1) X.xe s
def bG5(ho:s.heap.get? it=Ob o)(hc:o.cls=.type n)(hd:o.data=.fields vs)
    (hn:["enumerate", "zip", "dict_itemiterator", "dict_reverseitemiterator", "odict_iterator", "itertools.zip_longest", "itertools.pairwise"].contains n=false) (hQ:Q () s):eh M A (letOwnedTupleGo tg (.ref it) u) Q E s:=by
  unfold letOwnedTupleGo
  cases tg<;>first
    | exact dD hQ
    | (cases u<;>first
        | exact dD hQ
        | (refine dB (wpAny_load ho ?_)
           rw[hc,hd];show eh M A (if(["enumerate", "zip", "dict_itemiterator", "dict_reverseitemiterator", "odict_iterator", "itertools.zip_longest", "itertools.pairwise"].contains n&&vs[0]? == Ob (rawInt _))=true then _ else _) Q E s;rw[if_neg (by intro h;rw[hn,Bool.false_and]at h;cases h)]
           exact dD hQ))
noncomputable def Itl(K:aa)(a:eR):It :=
 ⟨λi H=>∃xs x,SqL K H a xs/\xs[i]? = Ob x,λi H x H'=>H'=H/\∀xs,SqL K H a xs->xs[i]? = Ob x,λi H=>∃xs,SqL K H a xs/\xs.length<=i⟩
noncomputable def Itt(K:aa)(a:eR):It :=
 ⟨λi H=>∃xs x,SqT K H a xs/\xs[i]? = Ob x,λi H x H'=>H'=H/\∀xs,SqT K H a xs->xs[i]? = Ob x,λi H=>∃xs,SqT K H a xs/\xs.length<=i⟩
noncomputable def Itr(lo:Int)(n:Nat):It:=⟨λi _=>i < n,λi H x H'=>H'=H/\x=.int (lo+i),λi _=>n<=i⟩
def bk2{P:dO}{w:World}{K:aa}{tg:Expr}(a it:eR):Turn P w K tg (Itl K a) [it] it (λi h=>h.IsListIter it a i) where
 mem:=by simp
 obj:=λi h st b hb=>by
  have e:b=it:=by simpa using hb
  subst e;obtain⟨o,e,c,d⟩:=st;exact⟨o,e,λv z=>by rw[d]at z;cases z⟩
 keep:=λi h h' st k=>st.at λo e=>k it (by simp) o e
 item:=by
  intro X hP hw hK hc i pins s σ H E I hf st hg;subst hP hw hK;obtain⟨xs,x,hq,hx⟩:=hg;obtain⟨its,rv,p,hz⟩:=I.list hq;obtain⟨u,hu,ru⟩:=rv.get hx;obtain⟨f0,f1,f2,f3,f4,f5⟩:=hf it (by simp);refine wpAny_pyNext_list_item st p.isList (x:=u) (by simpa using hu) λh' st' sb=>?_
  have I1:Inv X pins σ H { s with heap:=h' }:=I.turned (t':=s.toks) (λb o hb e=>(sb.2 b hb).trans e) f0 f1 f3 f4 f5;obtain⟨o,e,c,d⟩:=id st';exact⟨u,rfl,bG5 (s:={ s with heap:=h' }) e c d (by decide) ⟨x,H,I1,ru,⟨rfl,λys hy=>by rw[I.list_inj hy hq];exact hx⟩,st',λb hb=>(hf b hb).1⟩⟩
 done:=by
  intro X hP hw hK hc i pins s σ H E I hf st hg;subst hP hw hK;obtain⟨xs,hq,hx⟩:=hg;obtain⟨its,rv,p,hz⟩:=I.list hq;obtain⟨f0,f1,f2,f3,f4,f5⟩:=hf it (by simp);have hl:=rv.length;exact wpAny_pyNext_list_end (I.ok.hd hc) st p.isList (by simp;omega) λh' eb=>⟨rfl,I.turned (t':=s.toks) (λb o hb e=>eb b o hb e) f0 f1 f3 f4 f5⟩
 self:=λ_ _ _ _ _ st h=>wpAny_pyIter_listiter st h
def aS5{P:dO}{w:World}{K:aa}{tg:Expr}(a it:eR):Turn P w K tg (Itt K a) [it] it (λi h=>h.IsTupleIter it a i) where
 mem:=by simp
 obj:=λi h st b hb=>by
  have e:b=it:=by simpa using hb
  subst e;obtain⟨o,e,c,d⟩:=st;exact⟨o,e,λv z=>by rw[d]at z;cases z⟩
 keep:=λi h h' st k=>st.at λo e=>k it (by simp) o e
 item:=by
  intro X hP hw hK hc i pins s σ H E I hf st hg;subst hP hw hK;obtain⟨xs,x,hq,hx⟩:=hg;obtain⟨its,rv,p,hz⟩:=I.tuple hq;obtain⟨u,hu,ru⟩:=rv.get hx;obtain⟨f0,f1,f2,f3,f4,f5⟩:=hf it (by simp);refine wpAny_pyNext_tuple_item st (show s.heap.IsTuple a its.toArray from p) (x:=u) (by simpa using hu) λh' st' sb=>?_
  have I1:Inv X pins σ H { s with heap:=h' }:=I.turned (t':=s.toks) (λb o hb e=>(sb.2 b hb).trans e) f0 f1 f3 f4 f5;obtain⟨o,e,c,d⟩:=id st';exact⟨u,rfl,bG5 (s:={ s with heap:=h' }) e c d (by decide) ⟨x,H,I1,ru,⟨rfl,λys hy=>by rw[I.tuple_inj hy hq];exact hx⟩,st',λb hb=>(hf b hb).1⟩⟩
 done:=by
  intro X hP hw hK hc i pins s σ H E I hf st hg;subst hP hw hK;obtain⟨xs,hq,hx⟩:=hg;obtain⟨its,rv,p,hz⟩:=I.tuple hq;obtain⟨f0,f1,f2,f3,f4,f5⟩:=hf it (by simp);have hl:=rv.length;exact wpAny_pyNext_tuple_end (I.ok.hd hc) st (show s.heap.IsTuple a its.toArray from p) (by simp;omega) λh' eb=>⟨rfl,I.turned (t':=s.toks) (λb o hb e=>eb b o hb e) f0 f1 f3 f4 f5⟩
 self:=λ_ _ _ _ _ st h=>wpAny_pyIter_tupleiter st h
def aS6{P:dO}{w:World}{K:aa}{tg:Expr}(it:eR)(lo:Int)(n:Nat):Turn P w K tg (Itr lo n) [it] it (λi h=>IsRangeIter h it (lo+(i:Nat)*1) ((n:Int) - (i:Nat)) 1) where
 mem:=by simp
 obj:=λi h st b hb=>by
  have e:b=it:=by simpa using hb
  subst e
  exact⟨_,st,λv z=>by
   have z':Data.fields _=Data.cell v:=z
   cases z'⟩
 keep:=λi h h' st k=>k it (by simp) _ st
 item:=by
  intro X hP hw hK hc i pins s σ H E I hf st hg;subst hP hw hK;obtain⟨f0,f1,f2,f3,f4,f5⟩:=hf it (by simp);have W:=Walks.range (prog:=X.prog) (w:=X.w) (I.ok.hd hc) it lo 1 n;refine W.item i s _ _ hg st λv h' tk hv st' kk=>?_
  obtain⟨t,rfl⟩:=hv;have I1:Inv X pins σ H { s with heap:=h',toks:=tk }:=I.turned (λb o hb e=>kk b o (by simpa using hb) e) f0 f1 f3 f4 f5;refine⟨_,rfl,bG5 (s:={ s with heap:=h',toks:=tk }) (n := "range_iterator") st' rfl rfl (by decide) ⟨.int<|lo+i,H,I1,⟨t,?_⟩,⟨rfl,rfl⟩,st',λb hb=>(hf b hb).1⟩⟩;rw[Int.mul_one]
 done:=by
  intro X hP hw hK hc i pins s σ H E I hf st hg;subst hP hw hK;obtain⟨f0,f1,f2,f3,f4,f5⟩:=hf it (by simp);exact wpAny_pyNext_range_end (I.ok.hd hc) st (by have:n<=i:=hg;omega) λh' eb=>⟨rfl,I.turned (t':=s.toks) (λb o hb e=>eb b o hb e) f0 f1 f3 f4 f5⟩
 self:=λ_ _ _ _ _ st h=>wpAny_pyIter_rangeiter st h
section
variable {X:Cx}{tg:Expr}
noncomputable def cI3(K:aa)(tl:TE):TI:=λσ H R=>tl σ H λx H1=>∃a,x=.ref a/\(∃xs,SqL K H1 a xs)/\R (Itl K a) H1
noncomputable def cP4(K:aa)(tl:TE):TI:=λσ H R=>tl σ H λx H1=>∃a,x=.ref a/\(∃xs,SqT K H1 a xs)/\R (Itt K a) H1
def bT2{l:Expr}{tl:TE}(hl:PE X l tl):PI X tg l (cI3 X.K tl):=by
 intro pins s σ H R I h;refine thn (hl pins s σ H _ I h) λv s1 ⟨x,H1,I1,r1,q1⟩=>?_
 obtain⟨a,e,⟨xs,hq⟩,q⟩:=q1;subst e;cases r1;obtain⟨its,rv,p,hz⟩:=I1.list hq;refine wpAny_pyIter_list p.isList ?_;refine⟨s1.heap.objs.size,[s1.heap.objs.size],_,_,H1,rfl,I1.kept (t':=s1.toks) λb o e=>eA _ e,bk2 a _,⟨_,eD _ rfl,rfl,rfl⟩,λb hb=>?_,q⟩;have e:b=s1.heap.objs.size:=by simpa using hb
 subst e;exact I1.fpOk (ah _)<|I1.hok.fresh (ah _)
def cl9{l:Expr}{tl:TE}(hl:PE X l tl):PI X tg l (cP4 X.K tl):=by
 intro pins s σ H R I h;refine thn (hl pins s σ H _ I h) λv s1 ⟨x,H1,I1,r1,q1⟩=>?_
 obtain⟨a,e,⟨xs,hq⟩,q⟩:=q1;subst e;cases r1;obtain⟨its,rv,p,hz⟩:=I1.tuple hq;refine wpAny_pyIter_tuple (show s1.heap.IsTuple a its.toArray from p) ?_;refine⟨s1.heap.objs.size,[s1.heap.objs.size],_,_,H1,rfl,I1.kept (t':=s1.toks) λb o e=>eA _ e,aS5 a _,⟨_,eD _ rfl,rfl,rfl⟩,λb hb=>?_,q⟩;have e:b=s1.heap.objs.size:=by simpa using hb
 subst e;exact I1.fpOk (ah _)<|I1.hok.fresh (ah _)
def bx4{pins:List (eR×Obj)}{σ:St}{H:Hp}{s:eQ}{R:It->Hp->Prop}{E:eP->eQ->Prop}{lo hi:Int}{t u v:Tok}{tk:Nat}(I:Inv X pins σ H s)(h1:-(2 ^ 62)<=lo)(h2:lo < 2 ^ 62)(h3:-(2 ^ 62)<=hi)(h4:hi < 2 ^ 62)
  (q:R (Itr lo (hi - lo).toNat) H):eh (ez X.prog X.w) X.A (pyIter<|.ref s.heap.objs.size) (PIE X pins σ tg R) E { s with heap:=s.heap.push { cls:=.type "range", data:=.fields #[.int lo t,.int hi u,.int 1 v] },toks:=tk }:=by
 refine wpAny_pyIter_range (IsRange.new ..) (small_one h1 h2 h3 h4) ?_;have I1:Inv X pins σ H { s with heap:=s.heap.push { cls:=.type "range", data:=.fields #[.int lo t,.int hi u,.int 1 v] },toks:=tk }:=I.kept λb o e=>eA _ e
 refine⟨(s.heap.push { cls:=.type "range", data:=.fields #[.int lo t,.int hi u,.int 1 v] }).objs.size,[(s.heap.push { cls:=.type "range", data:=.fields #[.int lo t,.int hi u,.int 1 v] }).objs.size],_,_,H,rfl,
  I1.kept (t':=tk) λb o e=>eA _ e,aS6 _ lo (hi - lo).toNat,?_,λb hb=>?_,q⟩
 .have e1:lo+((0:Nat):Int)*1=lo:=by simp
  have e2:(((hi - lo).toNat:Nat):Int) - ((0:Nat):Int)=Builtin.Range.rangeSize lo hi 1:=by rw[rangeSize_one];split<;>omega
  show IsRangeIter _ _ (lo+((0:Nat):Int)*1) ((((hi - lo).toNat:Nat):Int) - ((0:Nat):Int)) 1;rw[e1,e2];exact eD _ rfl
 .have e:b=(s.heap.push { cls:=.type "range", data:=.fields #[.int lo t,.int hi u,.int 1 v] }).objs.size:=by simpa using hb
  subst e;exact I1.fpOk (ah _)<|I1.hok.fresh (ah _)
noncomputable def cI2(ta:TA):TI:=λσ H R=>ta σ H λvs H1=>∃j:Int,vs=[.int j]/\-(2 ^ 62)<=j/\j < 2 ^ 62/\R (Itr 0 j.toNat) H1
def bl7{a:Expr}{ta:TA}{p pos:Pos}(hg:Gl X "range")(hm:X.mg "range" = Oa)(ha:PA X [a] ta)(hs:dI [a] X.env=[(false,eval a X.env)]:=by rfl):PI X tg (.Call (.Name "range" p) [a] [] pos) (cI2 ta):=by
 intro pins s σ H R I h;refine Call_ (an9 I hg hm boot_range<|PyProof.Rows.callWith_type1 (thn (ha pos pins s σ H _ I h) λus s1 ⟨vs,H1,I1,r1,q1⟩=>?_) hs rfl);obtain⟨j,e,q1,q2,q⟩:=q1;subst e;cases r1 with
 | cons r rr =>
  cases rr;obtain⟨t,rfl⟩:=r;exact call_range_1 (bx4 I1 (by omega) (by omega) q1 q2<|by simpa using q)
noncomputable def cN8(wi:TI)(g:TG)(tb:TS):TS:=λD σ H=>wi σ H λJ H1=>∃W:Nat->Nat->St->Hp->Prop,(∃m,W 0 m σ H1)/\∀i m σ H,W i m σ H ->
 (J.stop i H/\D.nx σ H)\/(J.go i H/\∃N:St->Hp->Prop,(∀σ' H',N σ' H'->∃m',m' < m/\W (i+1) m' σ' H')/\∀x H',J.yld i H x H'->g x σ H' λσ2 H2=>tb { D with nx:=N,ct:=N,bk:=D.nx } σ2 H2)
noncomputable def aw1(fp:List eR)(h:Heap):List (eR×Obj):=fp.filterMap λb=>(h.get? b).map λo=>(b,o)
def aa4(hb:b∈fp)(e:h.get? b=Ob o):(b,o)∈aw1 fp h:=cy.mpr ⟨b,hb,by rw[e];rfl⟩
def bm1(hp:p∈aw1 fp h):p.1∈fp/\h.get? p.1=Ob p.2:=by
 obtain⟨b,hb,e⟩:=cy.mp hp;cases q:h.get? b with
 | none=>rw[q]at e;cases e
 | some o =>
  rw[q]at e;have e':(b,o)=p:=bc.inj e;subst e';exact⟨hb,q⟩
def Inv.pinned(I:Inv X pins σ H s)(hf:∀b∈fp,ap3 X pins H b)(ho:∀b∈fp,∃o,s.heap.get? b=Ob o/\∀v,o.data≠.cell v):Inv X (pins++aw1 fp s.heap) σ H s :=
 I.pins_of λp hp=>(aD.mp hp).elim (λz=>I.pin p<|ak _ z) λz=>by
  obtain⟨hb,e⟩:=bm1 z;obtain⟨f0,f1,f2,_⟩:=hf p.1 hb;obtain⟨o,e',d⟩:=ho p.1 hb;rw[e]at e';cases e';exact⟨e,f0,f1,f2,d⟩
def Inv.unpinned(I:Inv X (pins++pl) σ H s):Inv X pins σ H s:=I.pins_of λp hp=>I.pin p<|ak _ (am _ hp)
def bx9(hp:PassesOwn (ez X.prog X.w) X.A X.env X.xe)(hc:X.calm=true)(hi:PI X tg iter wi)(hg:PG X tg g)(hb:PSs X body tb)
  (hs:∀x,dX iter X.env x=pure x:=by intro _;rfl):PS X (.For tg iter body [] pos) (cN8 wi g tb):=by
 intro pins s σ H D I h;refine wpAny_For (thn (hi pins s σ H _ I h) λv s1 h1=>thn h1 λitv s2 h2=>?_) hs;obtain⟨it,fp,tn,J,H2,e,I2,T,st2,f2,W,⟨m0,w0⟩,turn⟩:=h2;subst e;have stat:∀{H':Hp},(∀b∈fp,H' b=Oa)->∀b∈fp,ap3 X pins H' b:=λhn b hb=>⟨hn b hb,(f2 b hb).2⟩
 refine codeAny_forLoop_any (λn s'=>∃i σ' H',Inv X pins σ' H' s'/\tn i s'.heap/\(∀b∈fp,H' b=Oa)/\W i n σ' H') ?_ m0 ⟨0,σ,H2,I2,st2,λb hb=>(f2 b hb).1,w0⟩
 rintro n s3 ⟨i,σ3,H3,I3,st3,fr3,w3⟩
 rcases turn i n σ3 H3 w3 with⟨stop,qn⟩|⟨go,N,hN,step⟩
 .refine wpAny_passesOwn hp (thn (T.done X rfl rfl rfl hc i pins s3 σ3 H3 X.xe I3 (stat fr3) st3 stop) λr s4 ⟨hr,I4⟩=>?_);subst hr;exact wpAny_execs_nil ⟨σ3,H3,I4,qn⟩
 .refine wpAny_passesOwn hp (thn (T.item X rfl rfl rfl hc i pins s3 σ3 H3 X.xe I3 (stat fr3) st3 go) λr s4 ⟨u,hr,h4⟩=>?_);subst hr;refine wpAny_passesOwn hp (thn h4 λ_ s5 ⟨x,H5,I5,r5,y5,st5,fr5⟩=>?_);have I5':=I5.pinned (stat fr5) (T.obj _ _ st5);refine wpAny_passesOwn hp (thn (hg _ s5 σ3 H5 x u _ I5' r5<|step x H5 y5) λ_ s6 ⟨σ6,H6,I6,q6⟩=>?_);refine wpAny_passesOwn hp (thn (hb _ s6 σ6 H6 _ I6 q6) λf s7 q7=>?_)
  have again:∀{σ7:St}{H7:Hp},Inv X (pins++aw1 fp s5.heap) σ7 H7 s7->N σ7 H7->∃m,m < n/\∃i σ' H',Inv X pins σ' H' s7/\tn i s7.heap/\(∀b∈fp,H' b=Oa)/\W i m σ' H':=λ{σ7 H7} I7 n7=>by
   obtain⟨m',hm,w7⟩:=hN σ7 H7 n7;refine⟨m',hm,i+1,σ7,H7,I7.unpinned,T.keep _ _ _ st5 λb hb o e=>(I7.pin (b,o)<|ak _ (ak _<|aa4 hb e)).1,λb hb=>?_,w7⟩;obtain⟨o,e,d⟩:=T.obj _ _ st5 b hb;exact(I7.pin (b,o)<|ak _ (ak _<|aa4 hb e)).2.1
  cases f with
  | next=>obtain⟨σ7,H7,I7,n7⟩:=q7;exact again I7 n7
  | cont=>obtain⟨σ7,H7,I7,n7⟩:=q7;exact again I7 n7
  | brk=>obtain⟨σ7,H7,I7,q7⟩:=q7;exact⟨σ7,H7,I7.unpinned,q7⟩
  | ret v=>obtain⟨x7,σ7,H7,I7,r7,q7⟩:=q7;exact⟨x7,σ7,H7,I7.unpinned,r7,q7⟩
end
noncomputable abbrev R2:=V->V->Hp->VK->Prop
noncomputable def OpR(X:Cx)(f:eP->eP->Sem eP)(r:R2):Prop :=
 ∀(pins:List (eR×Obj)) (s:eQ) (σ:St) (H:Hp) (x y:V) (v u:eP) (Q:VK),Inv X pins σ H s->L0 x v->L0 y u->r x y H Q ->
  eh (ez X.prog X.w) X.A (f v u) (EP X pins σ Q) X.xe s
noncomputable def UnR(X:Cx)(f:eP->Sem eP)(r:V->Hp->VK->Prop):Prop :=
 ∀(pins:List (eR×Obj)) (s:eQ) (σ:St) (H:Hp) (x:V) (v:eP) (Q:VK),Inv X pins σ H s->L0 x v->r x H Q ->
  eh (ez X.prog X.w) X.A (f v) (EP X pins σ Q) X.xe s
noncomputable def ag9(X:Cx)(f:eP)(r:List V->Hp->VK->Prop):Prop :=
 ∀(pins:List (eR×Obj)) (s:eQ) (σ:St) (H:Hp) (xs:List V) (us:List eP) (Q:VK),Inv X pins σ H s->D7 xs us->r xs H Q ->
  eh (ez X.prog X.w) X.A (call f us) (EP X pins σ Q) X.xe s
noncomputable def cQ9(X:Cx)(r:V->Hp->(Bool->Hp->Prop)->Prop):Prop :=
 ∀(pins:List (eR×Obj)) (s:eQ) (σ:St) (H:Hp) (x:V) (v:eP) (Q:Bool->Hp->Prop),Inv X pins σ H s->L0 x v->r x H Q ->
  eh (ez X.prog X.w) X.A (truthy v) (TP X pins σ Q) X.xe s
noncomputable def tOp(r:R2)(ta tb:TE):TE:=λσ H Q=>ta σ H λx H1=>tb σ H1 λy H2=>r x y H2 Q
noncomputable def tUn(r:V->Hp->VK->Prop)(ta:TE):TE:=λσ H Q=>ta σ H λx H1=>r x H1 Q
noncomputable def rI(C:Int->Int->Prop)(g:Int->Int->V):R2:=λx y H Q=>∃i j,x=.int i/\y=.int j/\C i j/\Q (g i j) H
noncomputable def rI0(g:Int->Int->V):R2:=λx y H Q=>∃i j,x=.int i/\y=.int j/\Q (g i j) H
noncomputable def rU(g:Int->V):V->Hp->VK->Prop:=λx H Q=>∃i,x=.int i/\Q (g i) H
section
variable {X:Cx}{a b c:Expr}{ta tb tc:TE}{pos:Pos}
def cy3(ha:PE X a ta)(hb:PE X b tb){pins:List (eR×Obj)}{s:eQ}{σ:St}{H:Hp}{R:V->V->Hp->Prop}(I:Inv X pins σ H s)
  (h:ta σ H λx H1=>tb σ H1 λy H2=>R x y H2) {Q:eP->eQ->Prop}{f:eP->eP->Sem eP}
  (hf:∀v u s2 x y H2,Inv X pins σ H2 s2->L0 x v->L0 y u->R x y H2->eh (ez X.prog X.w) X.A (f v u) Q X.xe s2) :
  eh (ez X.prog X.w) X.A (eval a X.env) (λv s₁=>eh (ez X.prog X.w) X.A (eval b X.env) (λu s₂=>eh (ez X.prog X.w) X.A (f v u) Q X.xe s₂) X.xe s₁) X.xe s:=by
 refine thn (ha pins s σ H _ I h) λv s1 ⟨x,H1,I1,r1,q1⟩=>?_
 refine thn (hb pins s1 σ H1 _ I1 q1) λu s2 ⟨y,H2,I2,r2,q2⟩=>?_
 exact hf v u s2 x y H2 I2 r1 r2 q2
def bz0(ho:OpR X (dS op) r)(ha:PE X a ta)(hb:PE X b tb):PE X (.BinOp a op b pos) (tOp r ta tb):=by
 intro pins s σ H Q I h;exact wpAny_BinOp<|cy3 ha hb I h λv u s2 x y H2 I2 rx ry q=>ho pins s2 σ H2 x y v u Q I2 rx ry q
def cE1(ho:UnR X (unaryOp op) r)(ha:PE X a ta):PE X (.UnaryOp op a pos) (tUn r ta):=by
 intro pins s σ H Q I h;exact UnaryOp_<|thn (ha pins s σ H _ I h) λv s1 ⟨x,H1,I1,r1,q1⟩=>ho pins s1 σ H1 x v Q I1 r1 q1
def opI{f:eP->eP->Sem eP}{C:Int->Int->Prop}{g:Int->Int->Int}
  (rule:∀(i j:Int) (t u:Tok) (s:eQ) (Q:eP->eQ->Prop) (E:eP->eQ->Prop),C i j->Q (.int (g i j) s.toks) { s with toks:=s.toks+1 }->eh (ez X.prog X.w) X.A (f (.int i t)<|.int j u) Q E s) :
  OpR X f (rI C λi j=>.int<|g i j):=by
 intro pins s σ H x y v u Q I rx ry h;obtain⟨i,j,rfl,rfl,hc,q⟩:=h;obtain⟨t,rfl⟩:=rx;obtain⟨t',rfl⟩:=ry;exact rule i j t t' s _ _ hc ⟨.int<|g i j,H,I.tok _,⟨_,rfl⟩,q⟩
def cE8{f:eP->eP->Sem eP}{g:Int->Int->Int}
  (rule:∀(i j:Int) (t u:Tok) (s:eQ) (Q:eP->eQ->Prop) (E:eP->eQ->Prop),Q (.int (g i j) s.toks) { s with toks:=s.toks+1 }->eh (ez X.prog X.w) X.A (f (.int i t)<|.int j u) Q E s) :
  OpR X f (rI0 λi j=>.int<|g i j):=by
 intro pins s σ H x y v u Q I rx ry h;obtain⟨i,j,rfl,rfl,q⟩:=h;obtain⟨t,rfl⟩:=rx;obtain⟨t',rfl⟩:=ry;exact rule i j t t' s _ _ ⟨.int<|g i j,H,I.tok _,⟨_,rfl⟩,q⟩
def bU5{f:eP->eP->Sem eP}{g:Int->Int->Bool}
  (rule:∀(i j:Int) (t u:Tok) (s:eQ) (Q:eP->eQ->Prop) (E:eP->eQ->Prop),Q (.bool<|g i j) s->eh (ez X.prog X.w) X.A (f (.int i t)<|.int j u) Q E s) :
  OpR X f (rI0 λi j=>.bl<|g i j):=by
 intro pins s σ H x y v u Q I rx ry h;obtain⟨i,j,rfl,rfl,q⟩:=h;obtain⟨t,rfl⟩:=rx;obtain⟨t',rfl⟩:=ry;exact rule i j t t' s _ _ ⟨.bl<|g i j,H,I,rfl,q⟩
def bA0:OpR X (dS .Add) (rI0 λi j=>.int<|i+j):=cE8 λ_ _ _ _ _ _ _ q=>add_int q
def cn6:OpR X (dS .Sub) (rI0 λi j=>.int<|i - j):=cE8 λ_ _ _ _ _ _ _ q=>sub_int q
def cn7:OpR X (dS .Mod) (rI (λ_ j=>0 < j) λi j=>.int<|i % j):=opI λi j _ _ _ _ _ hc q=>by
 have h1:(0:Int) < j:=hc;exact mod_int' (by omega) (by rw[Int.fmod_eq_emod_of_nonneg i (by omega)];exact q)
def unI{f:eP->Sem eP}{g:Int->Int}
  (rule:∀(i:Int) (t:Tok) (s:eQ) (Q:eP->eQ->Prop) (E:eP->eQ->Prop),Q (.int (g i) s.toks) { s with toks:=s.toks+1 }->eh (ez X.prog X.w) X.A (f<|.int i t) Q E s) :
  UnR X f (rU λi=>.int<|g i):=by
 intro pins s σ H x v Q I rx h;obtain⟨i,rfl,q⟩:=h;obtain⟨t,rfl⟩:=rx;exact rule i t s _ _ ⟨.int<|g i,H,I.tok _,⟨_,rfl⟩,q⟩
def ci4:UnR X (unaryOp .USub) (rU λi=>.int (-i)):=unI λ_ _ _ _ _ q=>neg_int q
end
section
variable {X:Cx}{a b c:Expr}{ta tb tc:TE}{pos:Pos}
def bH8(I:Inv X pins σ H s)(q:Q (.bl k) H)(e:k=k'):EP X pins σ Q (.bool k') s:=by
 subst e;exact⟨.bl k,H,I,rfl,q⟩
def cE4:OpR X (dM .Lt) (rI0 λi j=>.bl<|decide (i < j)):=bU5 λ_ _ _ _ _ _ _ q=>lt_int q
def cE5:OpR X (dM .LtE) (rI0 λi j=>.bl<|decide (i<=j)):=bU5 λ_ _ _ _ _ _ _ q=>le_int q
def cE6:OpR X (dM .Gt) (rI0 λi j=>.bl<|decide (j < i)):=bU5 λ_ _ _ _ _ _ _ q=>gt_int q
def cE7:OpR X (dM .GtE) (rI0 λi j=>.bl<|decide (j<=i)):=bU5 λ_ _ _ _ _ _ _ q=>ge_int q
def cn8:OpR X (dM .Is) (λx y H Q=>y=.non/\Q (.bl<|decide (x=.non)) H):=by
 intro pins s σ H x y v u Q I rx ry h;obtain⟨rfl,q⟩:=h;cases ry;refine is_none_gen<|bH8 I q ?_
 cases x<;>first
  | (cases rx;rfl)
  | (obtain⟨t,rfl⟩:=rx;rfl)
def bU2:OpR X (dM .IsNot) (λx y H Q=>y=.non/\Q (.bl (!decide (x=.non))) H):=by
 intro pins s σ H x y v u Q I rx ry h;obtain⟨rfl,q⟩:=h;cases ry;refine isnot_none_gen<|bH8 I q ?_
 cases x<;>first
  | (cases rx;rfl)
  | (obtain⟨t,rfl⟩:=rx;rfl)
def aH4(b:Expr)(h:op≠.In:=by decide)(h2:op≠.NotIn:=by decide):behindInMarks op b=false:=by
 have e1:(op==CmpOp.In)=false:=by cases op<;>first|rfl|exact absurd rfl h
 have e2:(op==CmpOp.NotIn)=false:=by cases op<;>first|rfl|exact absurd rfl h2
 cases b<;>simp[behindInMarks,e1,e2]
def bf0(ho:OpR X (dM op) r)(ha:PE X a ta)(hb:PE X b tb)(hm:behindInMarks op b=false):PE X (.Compare a [op] [b] pos) (tOp r ta tb):=by
 intro pins s σ H Q I h;exact wpAny_Compare1 (cy3 ha hb I h λv u s2 x y H2 I2 rx ry q=>ho pins s2 σ H2 x y v u Q I2 rx ry q) hm
noncomputable def cc7(t:TE):TT:=λσ H Q=>t σ H λx H'=>∃k,x=.bl k/\Q k H'
def be4(ho:OpR X (dM op) r)(ha:PE X a ta)(hb:PE X b tb)(hm:behindInMarks op b=false):PT X (.Compare a [op] [b] pos) (cc7<|tOp r ta tb):=by
 intro pins s σ H Q I h;refine wpAny_isTrue_Compare1 (thn (ha pins s σ H _ I h) λv s1 ⟨x,H1,I1,r1,q1⟩=>thn (hb pins s1 σ H1 _ I1 q1) λu s2 ⟨y,H2,I2,r2,q2⟩ =>thn (ho pins s2 σ H2 x y v u _ I2 r1 r2 q2) λc s3 ⟨z,H3,I3,r3,k,e,q3⟩=>?_) hm;subst e;cases r3;exact dG ⟨H3,I3,q3⟩
noncomputable def bu6(r r':R2)(ta tb tc:TE):TE:=λσ H Q=>ta σ H λx H1=>tb σ H1 λy H2=>r x y H2 λz H3=>∃k,z=.bl k /\
 (if k=true then tc σ H3 λw' H4=>r' y w' H4 Q else Q (.bl false) H3)
def aM4(ho:OpR X (dM op) r)(ho':OpR X (dM op') r')(ha:PE X a ta)(hb:PE X b tb)(hc:PE X c tc)
  (hm:lastMarks [op,op'] [b,c]=false:=by with_unfolding_all rfl):PE X (.Compare a [op,op'] [b,c] pos) (bu6 r r' ta tb tc):=by
 intro pins s σ H Q I h;refine Compare_chain (thn (ha pins s σ H _ I h) λv s1 ⟨x,H1,I1,r1,q1⟩=>chain_link<|thn (hb pins s1 σ H1 _ I1 q1) λu s2 ⟨y,H2,I2,r2,q2⟩ =>thn (ho pins s2 σ H2 x y v u _ I2 r1 r2 q2) λd s3 ⟨z,H3,I3,r3,k,e,q3⟩=>?_) hm;subst e;cases r3;refine dG ?_;cases k with
 | false=>exact ite_ff ⟨.bl false,H3,I3,rfl,q3⟩
 | true=>exact ite_tt<|chain_last (thn (hc pins s3 σ H3 _ I3 q3) λw' s4 ⟨z',H4,I4,r4,q4⟩=>ho' pins s4 σ H4 y z' u w' Q I4 r2 r4 q4)
def aM0(ho:OpR X (dM op) r)(ho':OpR X (dM op') r')(ha:PE X a ta)(hb:PE X b tb)(hc:PE X c tc)
  (hm:lastMarks [op,op'] [b,c]=false:=by with_unfolding_all rfl):PT X (.Compare a [op,op'] [b,c] pos) (cc7<|bu6 r r' ta tb tc):=by
 intro pins s σ H Q I h;refine isTrue_chain (thn (ha pins s σ H _ I h) λv s1 ⟨x,H1,I1,r1,q1⟩=>test_link<|thn (hb pins s1 σ H1 _ I1 q1) λu s2 ⟨y,H2,I2,r2,q2⟩ =>thn (ho pins s2 σ H2 x y v u _ I2 r1 r2 q2) λd s3 ⟨z,H3,I3,r3,k,e,q3⟩=>?_) hm;subst e;cases r3;refine dG ?_;cases k with
 | false =>
  obtain⟨k',e',q'⟩:=q3;cases e';exact ite_ff ⟨H3,I3,q'⟩
 | true =>
  refine ite_tt (test_last<|thn (hc pins s3 σ H3 _ I3 q3) λw' s4 ⟨z',H4,I4,r4,q4⟩=>thn (ho' pins s4 σ H4 y z' u w' _ I4 r2 r4 q4) λd' s5 ⟨z2,H5,I5,r5,k2,e2,q5⟩=>?_);subst e2;cases r5;exact dG ⟨H5,I5,q5⟩
noncomputable def cz2(K:aa)(x:V)(H:Hp)(k:Bool):Prop :=
 match x with
 | .non=>k=false
 | .bl b=>k=b
 | .int i=>k=(i != 0)
 | .str y=>y.length<=dJ/\k=((y.length:Int) != 0)
 | .byt y=>y.size<=dJ/\k=((y.size:Int) != 0)
 | .ref p=>(∃xs,SqL K H p xs/\k = !xs.isEmpty)\/(∃xs,SqT K H p xs/\k = !xs.isEmpty)\/∃kvs,H p=Ob (.dK kvs)/\k = !kvs.isEmpty
 | _=>False
def aX3{κ:Type}{kvs:List (κ×V)}{vs:List (κ×eP)}(r:KV kvs vs):(!vs.isEmpty) = !kvs.isEmpty:=by cases r<;>rfl
def aw7(r:D7 xs its):(!its.toArray.isEmpty) = !xs.isEmpty:=by cases r<;>simp
def an8:(dJ:Nat) < 2 ^ 63:=by rw[dL];decide
def bu2:cQ9 X (λx H Q=>∃k,cz2 X.K x H k/\Q k H):=by
 intro pins s σ H x v Q I rx h;obtain⟨k,e,q⟩:=h;have hl:=an8;have hs:dJ=16777216:=dL;cases x with
 | non =>
  cases rx;have e':k=false:=e;subst e';exact truthy_none ⟨H,I,q⟩
 | bl b =>
  cases rx;have e':k=b:=e;subst e';exact dG ⟨H,I,q⟩
 | int i =>
  obtain⟨t,rfl⟩:=rx;have e':k=(i != 0):=e;subst e';exact PySem.P.truthy_int ⟨H,I,q⟩
 | str y =>
  obtain⟨t,rfl⟩:=rx;obtain⟨hy,e'⟩:y.length<=dJ/\k=((y.length:Int) != 0):=e;subst e';exact PySem.P.truthy_str (by omega) ⟨H,I.tok _,q⟩
 | byt y =>
  obtain⟨t,rfl⟩:=rx;obtain⟨hy,e'⟩:y.size<=dJ/\k=((y.size:Int) != 0):=e;subst e';exact PySem.W.truthy_bytes (by omega) ⟨H,I.tok _,q⟩
 | ref p =>
  cases rx;have e':(∃xs,SqL X.K H p xs/\k = !xs.isEmpty)\/(∃xs,SqT X.K H p xs/\k = !xs.isEmpty)\/∃kvs,H p=Ob (.dK kvs)/\k = !kvs.isEmpty:=e;rcases e' with⟨xs,hx,e'⟩|⟨xs,hx,e'⟩|⟨kvs,hx,e'⟩
  .subst e';obtain⟨its,r,pl,hz⟩:=I.list hx;have hlen:=r.length;exact wpAny_truthy_list pl.isList (by simp only[ai];omega) ⟨H,I.tok _,by rw[aw7 r];exact q⟩
  .subst e';obtain⟨its,r,pl,hz⟩:=I.tuple hx;have hlen:=r.length;exact truthy_tuple pl (by simp only[ai];omega) ⟨H,I.tok _,by rw[aw7 r];exact q⟩
  .subst e';obtain⟨hz,hS,vs,r,m⟩:kvs.length<=dJ/\(p==sysModules)=false/\∃vs,KV kvs vs/\s.heap.DictOf (at8 X.prog X.w) p vs:=I.hok p _ hx;have hlen:kvs.length=vs.length:=Paired.length r;exact wpAny_truthy_dict hS m (by omega) ⟨H,I.tok _,by rw[aX3 r];exact q⟩
 | _=>exact(show False from e).elim
def aL9(ha:PE X a ta)(he:∀whole,isTrue a X.env whole=(do let v ← whole;standAt a.pos;holding [v] (truthy v))):
  PT X a (λσ H Q=>ta σ H λx H'=>∃k,cz2 X.K x H' k/\Q k H'):=by
 intro pins s σ H Q I h;exact isTrue_plain (thn (ha pins s σ H _ I h) λv s1 ⟨x,H1,I1,r1,q1⟩=>bu2 pins s1 σ H1 x v Q I1 r1 q1)<|he _
def aV1:OpR X (dS .Add) (λx y H Q=>∃i j,x=.str i/\y=.str j/\i.length+j.length<=dJ/\Q (.str<|i++j) H):=by
 intro pins s σ H x y v u Q I rx ry h;obtain⟨i,j,rfl,rfl,hz,q⟩:=h;obtain⟨t,rfl⟩:=rx;obtain⟨t',rfl⟩:=ry;exact add_str (λt' tk=>⟨.str<|i++j,H,I.tok _,⟨_,rfl⟩,q⟩) hz
def aK5(r:D7 [x] us):∃u,us=[u]/\L0 x u:=by
 cases r with
 | cons r1 r2=>cases r2;exact⟨_,rfl,r1⟩
def bb9(r:D7 [x,y] us):∃u w',us=[u,w']/\L0 x u/\L0 y w':=by
 cases r with
 | cons r1 r2 =>
  cases r2 with
  | cons r3 r4=>cases r4;exact⟨_,_,rfl,r1,r3⟩
def bq4(hc:X.calm=true):ag9 X (.builtin "max") (λxs H Q=>∃i j,xs=[.int i,.int j]/\Q (.int (if j > i then j else i)) H):=by
 intro pins s σ H xs us Q I r h;obtain⟨i,j,rfl,q⟩:=h;obtain⟨u,w',rfl,⟨t,rfl⟩,⟨t',rfl⟩⟩:=bb9 r;refine max_two_ints (I.ok.hd hc) λh' tk k=>⟨_,H,I.kept k,?_,q⟩
 by_cases hj:j > i
 .rw[if_pos hj,if_pos hj];exact⟨_,rfl⟩
 .rw[if_neg hj,if_neg hj];exact⟨_,rfl⟩
def bq3(hc:X.calm=true):ag9 X (.builtin "min") (λxs H Q=>∃i j,xs=[.int i,.int j]/\Q (.int (if j < i then j else i)) H):=by
 intro pins s σ H xs us Q I r h;obtain⟨i,j,rfl,q⟩:=h;obtain⟨u,w',rfl,⟨t,rfl⟩,⟨t',rfl⟩⟩:=bb9 r;refine min_two_ints (I.ok.hd hc) λh' tk k=>⟨_,H,I.kept k,?_,q⟩
 by_cases hj:j < i
 .rw[if_pos hj,if_pos hj];exact⟨_,rfl⟩
 .rw[if_neg hj,if_neg hj];exact⟨_,rfl⟩
def aD3:ag9 X (.type "int") (λxs H Q=>(∃i,xs=[.int i]/\Q (.int i) H)\/∃k,xs=[.bl k]/\Q (.int (if k then 1 else 0)) H):=by
 intro pins s σ H xs us Q I r h;rcases h with⟨i,rfl,q⟩|⟨k,rfl,q⟩
 .obtain⟨u,rfl,t,rfl⟩:=aK5 r;exact call_int_int ⟨.int i,H,I,⟨_,rfl⟩,q⟩
 .obtain⟨u,rfl,r1⟩:=aK5 r;cases r1;exact call_int_bool ⟨.int (if k then 1 else 0),H,I.tok _,⟨_,rfl⟩,q⟩
end
structure ObjM (h:Heap) (x dx C:eR) (mA:Str->Option eP):Prop where
 obj:h.get? x=Ob (PySem.W.instObj C dx)
 ns:h.Ns1 dx mA
 ne:dx≠x
def bm9{h:Heap}{dx:eR}{mA:Str->Option eP}(n:h.Ns1 dx mA):∃od,h.get? dx=Ob od/\∀name,PySem.W.lookIn name od=Ob (mA name):=by
 obtain⟨o,es,ep,ho,hd,hk,_,hm⟩:=n;refine⟨o,ho,λname=>?_⟩;have e:=hm name;unfold nsFind findBy at e;rw[← Array.find?_toList]at e;unfold PySem.W.lookIn;rw[hd];dsimp only;split
 .rename_i y q;rw[q]at e;exact congrArg Ob e
 .rename_i q;rw[q]at e
  have a:es.toList.any (·.refKey)=false:=by
   rw[List.any_eq_false];intro y hy;obtain⟨z,t,hkey⟩:=hk y (cj.mp hy);simp[DictEntry.refKey,hkey]
  have a':¬es.toList.any (·.refKey)=true:=by rw[a];exact aB
  rw[if_neg a'];exact congrArg Ob e
def ObjM.look(I:ObjM h x dx C mA):∃od,PySem.W.InstAt h x (PySem.W.instObj C dx) C (Ob od)/\∀name,PySem.W.lookIn name od=Ob (mA name) :=
 let⟨od,ho,hl⟩:=bm9 I.ns
 ⟨od,⟨I.obj,rfl,rfl,ho⟩,hl⟩
section
variable {prog:Program}{w:World}{A:Around}{E:Value->Shared->Prop}{s:Shared}{K:PySem.W.Frag}{x dx C f:Addr}{mA:Str->Option Value}{name:Str}{v:Value}
def bZ5(X:K.In s.heap)(I:ObjM s.heap x dx C mA)(hg:PySem.W.plainGet K C name=true)(hh:PySem.W.hasDictIn K C=true)
  (ha:PySem.W.findIn K (.ref C) name=Ob Oa) (hv:mA name=Ob v) (hv':PySem.W.handedIn v=true) (h:Q v { s with toks:=s.toks+1 }) :
  eh (ez prog w) A (getAttr (.ref x) name expr) Q E s:=by
 obtain⟨od,J,hl⟩:=I.look;exact PySem.W.get_value X J (PySem.W.plainGet_of hg).1 (PySem.W.findObj_own hh ha rfl<|by rw[hl,hv]) hv' h
def bG8(X:K.In s.heap)(I:ObjM s.heap x dx C mA)(hg:PySem.W.plainGet K C name=true)
  (hf:PySem.W.findIn K (.ref C) name=Ob (Ob<|.ref f)) (ht:PySem.W.isFn K (.ref f)=true) (hv:mA name=Oa) (h:Q (.ref f,[.ref x]) s) :
  eh (ez prog w) A (getMethod (.ref x) name pl) Q E s:=by
 obtain⟨od,J,hl⟩:=I.look;exact PySem.W.method_fn X J (PySem.W.plainGet_of hg).1 (PySem.W.plainGet_of hg).2 hf (beq_iff_eq.mp ht) (by show(PySem.W.lookIn name od).map (·.isSome)=Ob false;rw[hl,hv];rfl) h
def bR5(X:K.In s.heap)(I:ObjM s.heap x dx C mA)
  (hs:PySem.W.findIn K (.ref C) "__setattr__" = Ob (Ob<|.builtin "object.__setattr__")) (hp:PySem.W.plainOver K C=true) (ht:PySem.W.takerIn K C name=Ob Oa) (hh:PySem.W.hasDictIn K C=true)
  (hw:PySem.Within mA ns) (hsz:ns.length<=dJ)
  (h:∀h',ObjM h' x dx C (λy=>if y=name then Ob v else mA y)->Heap.SameBut dx s.heap h'->Q () { s with heap:=h',toks:=s.toks+2 }) :
  eh (ez prog w) A (setAttr (.ref x) name v) Q E s:=by
 obtain⟨od,J,hl⟩:=I.look;refine PySem.W.set_plain X J hs (PySem.W.osa_open (s:={ s with toks:=s.toks+1 }) (r:=Oa) X J hp ht λb=>?_);obtain⟨cd,hc,hd'⟩:=PySem.W.any_some hh;have hx:s.heap.get? x=Ob ⟨.ref C,Ob dx,.plain,#[]⟩:=I.obj;refine dB (dD<|dB (dB<|wpAny_loadPart hx (dB<|PySem.W.Looks.here (s:={ s with toks:=s.toks+1 }) (PySem.W.looks_clsIn X hc) ?_)));rw[hd'];refine dD (a:=Ob dx) (dB<|dD (dB ?_));refine wpAny_nsSet1 (s:={ s with toks:=s.toks+1 }) I.ns λh' hn2 hs2=>?_
 obtain⟨oD,esD,epD,hoD,hdD,hcD⟩:=hn2.count (PySem.Within.cons name v hw);refine dB (wpAny_lookBehind hoD (by rw[hdD];exact pastItsLine_dict<|aL hcD (by rw[aJ];omega)) ?_);exact dD<|h _ ⟨(hs2.2 _<|Ne.symm I.ne).trans I.obj,hn2,I.ne⟩ hs2
def bB9(X:K.In s.heap)(hm:PySem.W.makesIn K C=true)
  (hi:PySem.W.findIn K (.ref C) "__init__" = Ob (Ob<|.ref f)) (hf:PySem.W.typeIn K (.ref f)=Ob (.type "function"))
  (h:codeAny (ez prog w) (A.under (.builtin "type.__call__" ⟨.ref C::vs,kw⟩)) (.call (.ref f) ⟨.ref (s.heap.objs.size+1)::vs,kw⟩) (PySem.W.InitBack (s.heap.objs.size+1) R)
   { s with heap:=(s.heap.push PySem.W.emptyDict).push (PySem.W.instObj C s.heap.objs.size) }) :
  codeAny (ez prog w) A (.call (.ref C) ⟨vs,kw⟩) R s:=by
 obtain⟨hh,g,d,t,os⟩:=s;exact PySem.W.make_core (PySem.W.makes_of X hm) (PySem.W.looks_findIn X hi) (λself=>PySem.W.bind_fn X self hf) (.inl rfl) h
end
noncomputable def v6(f:Str)(v:V):List (Str×V)->List (Str×V)
 | []=>[(f,v)]
 | (g,x)::r=>if g=f then(g,v)::r else(g,x)::v6 f v r
theorem aq8(f g:Str)(v:V):∀fs:List (Str×V),(v6 f v fs).lookup g=if g=f then Ob v else fs.lookup g
 | []=>by
  show bZ g [(f,v)]=_;by_cases h:g=f
  .have hb:(g==f)=true:=beq_iff_eq.mpr h;simp only[bZ,hb,if_pos h]
  .have hb:(g==f)=false:=beq_eq_false_iff_ne.mpr h;simp only[bZ,hb,if_neg h]
 | (k,x)::r=>by
  have ih:=aq8 f g v r;rw[show v6 f v ((k,x)::r)=(if k=f then(k,v)::r else(k,x)::v6 f v r) from rfl];by_cases hk:k=f
  .rw[if_pos hk];by_cases h:g=k
   .have hb:(g==k)=true:=beq_iff_eq.mpr h;simp only[bZ,hb,if_pos (h.trans hk)]
   .have hb:(g==k)=false:=beq_eq_false_iff_ne.mpr h;simp only[bZ,hb,if_neg (λe:g=f=>h<|e.trans hk.symm)]
  .rw[if_neg hk];by_cases h:g=k
   .have hb:(g==k)=true:=beq_iff_eq.mpr h;simp only[bZ,hb,if_neg (λe:g=f=>hk<|h.symm.trans e)]
   .have hb:(g==k)=false:=beq_eq_false_iff_ne.mpr h;simp only[bZ,hb];exact ih
theorem ao0(f:Str)(v:V):∀fs:List (Str×V),f∈(v6 f v fs).map (·.1)/\∀g,g∈fs.map (·.1)->g∈(v6 f v fs).map (·.1)
 | []=>⟨by simp[v6],λg h=>by simp at h⟩
 | (k,x)::r=>by
  obtain⟨i1,i2⟩:=ao0 f v r;rw[show v6 f v ((k,x)::r)=(if k=f then(k,v)::r else(k,x)::v6 f v r) from rfl];by_cases hk:k=f
  .rw[if_pos hk];subst hk;exact⟨by simp,λg h=>by simpa using h⟩
  .rw[if_neg hk];refine⟨?_,λg h=>?_⟩
   .rw[cI];exact xmm _ i1
   .rw[cI]at h ⊢;rcases au.mp h with e|e
    .exact au.mpr (.inl e)
    .exact xmm _ (i2 g e)
theorem aq9(f:Str)(v:V):∀fs:List (Str×V),(v6 f v fs).length<=fs.length+1
 | []=>by simp[v6]
 | (k,x)::r=>by
  have ih:=aq9 f v r;rw[show v6 f v ((k,x)::r)=(if k=f then(k,v)::r else(k,x)::v6 f v r) from rfl];by_cases hk:k=f
  .rw[if_pos hk,aJ,aJ];omega
  .rw[if_neg hk,aJ,aJ];omega
def aA6.some_of(r:aA6 (Ob v) o):∃u,o=Ob u/\L0 v u:=by
 cases o with
 | none=>exact(show False from r).elim
 | some u=>exact⟨u,rfl,r⟩
def aA6.none_of(r:aA6 Oa o):o=Oa:=by
 cases o with
 | none=>rfl
 | some u=>exact(show False from r).elim
def bn4(r:L0 v u):PySem.W.handedIn u=true:=by
 cases v with
 | non=>cases(show u=eL from r);rfl
 | bl b=>cases(show u=Value.bool b from r);rfl
 | int i=>obtain⟨t,e⟩:=(show ∃t,u=Value.int i t from r);cases e;rfl
 | str x=>obtain⟨t,e⟩:=(show ∃t,u=Value.str x t from r);cases e;rfl
 | byt b=>obtain⟨t,e⟩:=(show ∃t,u=Value.bytes b t from r);cases e;rfl
 | flt b=>obtain⟨t,e⟩:=(show ∃t,u=Value.float b t from r);cases e;rfl
 | ref a=>cases(show u=eK a from r);rfl
 | ty n=>cases(show u=Value.type n from r);rfl
section
variable {P:Program}{w:World}{H H':Hp}{h h':Heap}{a C dx:Addr}{fs fs':List (Str×V)}
def aI4(hok:HOk P w H h)(e:H a=Ob (.ins C dx fs)):∃mA,ObjM h a dx C mA/\(∀f,aA6 (fs.lookup f)<|mA f)/\PySem.Within mA (fs.map (·.1))/\fs.length<=1000/\H dx=Ob (.own a):=by
 obtain⟨d,z,ne,ob,mA,n,r,q⟩:=(show V0 P w H h a (.ins C dx fs) from hok a _ e);exact⟨mA,⟨ob,n,ne⟩,r,q,z,d⟩
end
structure Cls (K:aa) (C:eR):Prop where
 pg:PySem.W.plainGet K C eO=true
 hd:PySem.W.hasDictIn K C=true
 po:PySem.W.plainOver K C=true
 sa:PySem.W.findIn K (.ref C) "__setattr__" = Ob (Ob<|.builtin "object.__setattr__")
def Cls.get{K:aa}{C:eR}(c:Cls K C)(f:Str):PySem.W.plainGet K C f=true:=c.pg
noncomputable def ai3(K:aa)(C:eR)(f:Str):Prop:=PySem.W.findIn K (.ref C) f=Ob Oa
def ai3.taker{K:aa}{C:eR}{f:Str}(n:ai3 K C f):PySem.W.takerIn K C f=Ob Oa:=by
 unfold PySem.W.takerIn;rw[show PySem.W.findIn K (.ref C) f=Ob Oa from n];rfl
structure Meth (K:aa) (C:eR) (m:Str) (f:eR):Prop where
 at_:PySem.W.findIn K (.ref C) m=Ob (Ob<|.ref f)
 fn:PySem.W.isFn K (.ref f)=true
 kp:aG K (.ref f)=true
section
variable {X:Cx}{pins:List (Addr×Obj)}{σ:St}{H:Hp}{s:Shared}{a C dx:Addr}{fs:List (Str×V)}{f:Str}{v:V}{A:Around}{E:Value->Shared->Prop}
def aX8(I:Inv X pins σ H s)(e:H a=Ob (.ins C dx fs))(c:Cls X.K C)(n:ai3 X.K C f)(l:fs.lookup f=Ob v)
  (h:∀u s',Inv X pins σ H s'->L0 v u->Q u s'):eh (ez X.prog X.w) A (getAttr (.ref a) f b) Q E s:=by
 obtain⟨mA,O,r,_,_,_⟩:=aI4 I.hok e;obtain⟨u,hu,ru⟩:=aA6.some_of (v:=v) (o:=mA f) (by rw[← l];exact r f);exact bZ5 I.kIn O (c.get f) c.hd n hu (bn4 ru)<|h u _ (I.tok _) ru
def aa5(I:Inv X pins σ H s)(e:H a=Ob (.ins C dx fs))(c:Cls X.K C)(k:Meth X.K C m g)(l:fs.lookup m=Oa)
  (h:Q (.ref g,[.ref a]) s):eh (ez X.prog X.w) A (getMethod (.ref a) m pl) Q E s:=by
 obtain⟨mA,O,r,_,_,_⟩:=aI4 I.hok e;have hn:mA m=Oa:=aA6.none_of (by rw[← l];exact r m);exact bG8 I.kIn O (c.get m) k.at_ k.fn hn h
def aT9(I:Inv X pins σ H s)(e:H a=Ob (.ins C dx fs))(c:Cls X.K C)(n:ai3 X.K C f)(hl:fs.length < 1000)(ry:L0 y u)
  (h:∀s',Inv X pins σ (upd H a<|.ins C dx (v6 f y fs)) s'->Q () s'):eh (ez X.prog X.w) A (setAttr (.ref a) f u) Q E s:=by
 obtain⟨mA,O,r,wi,_,ho⟩:=aI4 I.hok e;have hz:(fs.map (·.1)).length<=dJ:=by rw[ay,dL];omega
 refine bR5 I.kIn O c.sa c.po n.taker c.hd wi hz λh' O' sb=>h _ ?_
 have hd:∃o,h'.get? dx=Ob o:=let⟨o,_,_,e',_⟩:=O'.ns;⟨o,e'⟩
 refine I.write (x:=a) (e:=dx) (by rw[e];exact True.intro) (.inr ho) (λb q hb z=>(sb.2 b hb).trans z) hd ?_;refine⟨by rw[B2 O.ne];exact ho,?_,O.ne,O'.obj,_,O'.ns,λg=>?_,λg hg=>?_⟩
 .have:=aq9 f y fs;omega
 .show aA6 ((v6 f y fs).lookup g) (if g=f then Ob u else mA g);rw[aq8];by_cases q:g=f
  .rw[if_pos q,if_pos q];exact ry
  .rw[if_neg q,if_neg q];exact r g
 .by_cases q:g=f
  .rw[q];exact(ao0 f y fs).1
  .refine(ao0 f y fs).2 g (wi g λz=>hg ?_);show(if g=f then Ob u else mA g)=Oa;rw[if_neg q];exact z
def Inv.made(I:Inv X pins σ H s):Inv X pins σ (upd (upd H s.heap.objs.size<|.own (s.heap.objs.size+1)) (s.heap.objs.size+1)<|.ins C s.heap.objs.size [])
  { s with heap:=(s.heap.push PySem.W.emptyDict).push (PySem.W.instObj C s.heap.objs.size) }:=by
 have e1:(s.heap.push PySem.W.emptyDict).get? s.heap.objs.size=Ob PySem.W.emptyDict:=eD s.heap rfl
 have e2:((s.heap.push PySem.W.emptyDict).push<|PySem.W.instObj C s.heap.objs.size).get? (s.heap.objs.size+1)=Ob (PySem.W.instObj C s.heap.objs.size):=by
  have:=eD (s.heap.push PySem.W.emptyDict) (o:=PySem.W.instObj C s.heap.objs.size) rfl
  rwa [Heap.size_push]at this
 have e3:(s.heap.push PySem.W.emptyDict).Ns s.heap.objs.size (λ_=>Oa):=⟨PySem.W.emptyDict,#[],_,e1,rfl,(λe he=>absurd he<|by simp),λ_=>rfl⟩;have I1:=I.laid (a:=s.heap.objs.size) (o:=.own<|s.heap.objs.size+1) (h':=s.heap.push PySem.W.emptyDict) (t':=s.toks) (λb u q=>eA _ q) (ah _) ⟨_,e1⟩;refine I1.laid (a:=s.heap.objs.size+1) (o:=.ins C s.heap.objs.size []) (t':=s.toks) (λb u q=>eA _ q) (Nat.le_of_eq<|Heap.size_push _ _) ?_;have ne:s.heap.objs.size≠s.heap.objs.size+1:=aS (cJ _);refine⟨by rw[B2 ne,B3],aU _,ne,e2,λ_=>Oa,(Heap.Ns1.of_empty e3).at λo q=>eA _ q,λ_=>True.intro,λy hy=>absurd rfl hy⟩
def cb6(hb:dZ e f env (eval e env)=eval e env)
  (h:eh (ez prog w) A (eval e env) (λo s₁=>eh (ez prog w) A (getAttr o f true) Q E s₁) E s):eh (ez prog w) A (eval (.Attribute e f pos) env) Q E s :=
 Attribute_any_ h (by rw[arm_eval_Attribute,hb])
end
noncomputable def cN9(K:aa)(ta:TE)(f:Str):TE:=λσ H Q=>ta σ H λx H1=>∃a C dx fs v,x=.ref a/\H1 a=Ob (.ins C dx fs)/\Cls K C/\ai3 K C f/\fs.lookup f=Ob v/\Q v H1
noncomputable def cO1(K:aa)(ta tv:TE)(f:Str):TS:=λD σ H=>tv σ H λy H1=>ta σ H1 λx H2=>∃a C dx fs,x=.ref a/\H2 a=Ob (.ins C dx fs)/\Cls K C/\ai3 K C f/\fs.length < 1000 /\
 D.nx σ (upd H2 a<|.ins C dx (v6 f y fs))
section
variable {X:Cx}{o e value:Expr}{f:Str}{pos pos' tpos:Pos}{ta tv:TE}
def cm8(he:PE X e ta)(hb:dZ e f X.env (eval e X.env)=eval e X.env):PE X (.Attribute e f pos) (cN9 X.K ta f):=by
 intro pins s σ H Q I h;refine cb6 hb (thn (he pins s σ H _ I h) λu s1 ⟨x,H1,I1,rx,a,C,dx,fs,v,ex,ea,c,n,l,q⟩=>?_);subst ex;obtain rfl:u=eK a:=rx;exact aX8 I1 ea c n l λu' s2 I2 ru=>⟨v,H1,I2,ru,q⟩
def cl7(ha:PE X o ta)(hv:PE X value tv)(hs:swapsWith value (Ob<|.Attribute o f pos') pos.line X.env=pure false):PS X (.Assign [.Attribute o f pos'] value pos) (cO1 X.K ta tv f):=by
 intro pins s σ H D I h;refine plainObj_wpAny_Assign_Attribute (thn (hv pins s σ H _ I h) λu s1 ⟨y,H1,I1,ry,q⟩=>thn (ha pins s1 σ H1 _ I1 q) λov s2 ⟨x,H2,I2,rx,a,C,dx,fs,ex,ea,c,n,l,q2⟩=>?_) hs;subst ex;obtain rfl:ov=eK a:=rx;exact aT9 I2 ea c n l ry λs3 I3=>⟨σ,_,I3,q2⟩
def ce3(he:PE X e te)(I:Inv X pins σ H s)
  (h:te σ H λx H1=>∃a C dx fs g,x=.ref a/\H1 a=Ob (.ins C dx fs)/\Cls X.K C/\Meth X.K C m g/\fs.lookup m=Oa /\
   ∀s1,Inv X pins σ H1 s1->eh (ez X.prog X.w) X.A (callWith pos (.ref g) [.ref a] (backTo pos (dI args X.env)) (backToKw pos (keywordEach [] X.env))) Q X.xe s1)
  (ht:eval (.Call (.Attribute e m apos) args [] pos) X.env=(do
   let ov ← eval e X.env
   standAt apos.atName
   let(f,first) ← holding [ov] (getMethod ov m pl)
   callWith pos f first (backTo pos (dI args X.env)) (backToKw pos (keywordEach [] X.env)))) :
  eh (ez X.prog X.w) X.A (eval (.Call (.Attribute e m apos) args [] pos) X.env) Q X.xe s:=by
 refine PySem.W.methodCall_KW (pl:=pl) (thn (he pins s σ H _ I h) λu s1 ⟨x,H1,I1,rx,a,C,dx,fs,g,ex,ea,c,k,l,q⟩=>?_) ht;subst ex;obtain rfl:u=eK a:=rx;exact aa5 I1 ea c k l<|q s1 I1
end
structure Room (k:Nat) (A:dP):Prop where
 hd:A.handled=Oa
 dp:A.depth+3*k+5 < recursionLimit
 un:A.units+16*k+200 < cLine
def Room.mono(r:Room k A)(h:j<=k):Room j A:=⟨r.hd,by have:=r.dp;omega,by have:=r.un;omega⟩
theorem Room.deeper(r:Room (k+1) A)(env:Env):Room k (A.deeper env) :=
 ⟨r.hd,by have:=r.dp;show A.depth+1+3*k+5 < _;omega,by have:=r.un;show A.units+3+16*k+200 < _;omega⟩
def aW0{A:dP}{C:eR}{us:List eP}{kw:List (Str×eP)}:(A.under<|.builtin "type.__call__" ⟨.ref C::us,kw⟩).depth=A.depth+1:=by first|rfl|simp[Around.under,Code.weight,Code.isCreation,Code.isGuard,Code.isCaller,Code.frames,Code.isFrame,guardIds]
def aV9{A:dP}{C:eR}{us:List eP}{kw:List (Str×eP)}:(A.under<|.builtin "type.__call__" ⟨.ref C::us,kw⟩).units=A.units+1:=by first|rfl|simp[Around.under,Code.cUnits,Code.frames,Code.isFrame]
def Room.make(r:Room (k+1) A)(C:eR)(us:List eP)(kw:List (Str×eP)):Room k (A.under<|.builtin "type.__call__" ⟨.ref C::us,kw⟩) :=
 ⟨r.hd,by have:=r.dp;rw[aW0];omega,by have:=r.un;rw[aV9];omega⟩
theorem Room.depth(r:Room k A):A.depth < recursionLimit:=by have:=r.dp;omega
theorem Room.units(r:Room k A):A.units+64 < cLine:=by have:=r.un;omega
noncomputable def cj6:TA:=λ_ H Q=>Q [] H
noncomputable def cC2(ta:TE)(tr:TA):TA:=λσ H Q=>ta σ H λx H1=>tr σ H1 λxs H2=>Q (x::xs) H2
section
variable {X:Cx}{e:Expr}{es:List Expr}{te:TE}{t:TA}{pos:Pos}
def Q6:PA X [] cj6:=λ_ _ _ _ H Q I h=>Calls.spliced_nil ⟨[],H,I,.nil,h⟩
def K5(ha:PE X e te)(hr:PA X es t)(hs:dI (e::es) X.env=(false,eval e X.env)::dI es X.env:=by rfl):PA X (e::es) (cC2 te t):=by
 intro pos pins s σ H Q I h;rw[hs];show eh _ _ (spliced ((false,eval e X.env)::backTo pos (dI es X.env))) _ _ s;refine Calls.spliced_cons (thn (ha pins s σ H _ I h) λu s1 ⟨x,H1,I1,r1,q1⟩=>?_);exact thn (hr pos pins s1 σ H1 _ I1 q1) λus s2 ⟨xs,H2,I2,r2,q2⟩=>⟨x::xs,H2,I2,.cons r1 r2,q2⟩
noncomputable def cN0(t:TA):TE:=λσ H Q=>t σ H λxs H1=>xs.length<=dJ/\∀p,H1 p=Oa->Q (.ref p) (upd H1 p<|.tup xs)
noncomputable def cN6(t:TA):TE:=λσ H Q=>t σ H λxs H1=>xs.length<=dJ/\∀p,H1 p=Oa->Q (.ref p) (upd H1 p<|.lst xs)
def by8{x1}(h:PA X es t):PE X (.Tuple es x1 pos) (cN0 t):=by
 intro pins s σ H Q I hq;refine wpAny_Tuple_spliced (thn (h pos pins s σ H _ I hq) λus s1 ⟨xs,H1,I1,r,z,q⟩=>⟨by rw[← r.length];exact z,?_⟩);have hf:H1 s1.heap.objs.size=Oa:=I1.hok.fresh (ah _);refine⟨.ref s1.heap.objs.size,upd H1 s1.heap.objs.size<|.tup xs,I1.laid (t':=s1.toks) (λb u e=>eA _ e) (ah _) ?_,rfl,q _ hf⟩;exact⟨z,us,r,⟨_,eD _ rfl,rfl,⟨_,rfl⟩,rfl⟩⟩
def cm6(h:PA X es t):PE X (.List es pos) (cN6 t):=by
 intro pins s σ H Q I hq;refine wpAny_List_spliced (thn (h pos pins s σ H _ I hq) λus s1 ⟨xs,H1,I1,r,z,q⟩=>⟨by rw[← r.length];exact z,?_⟩);have hf:H1 s1.heap.objs.size=Oa:=I1.hok.fresh (ah _);refine⟨.ref s1.heap.objs.size,upd H1 s1.heap.objs.size<|.lst xs,I1.laid (t':=s1.toks) (λb u e=>eA _ e) (ah _) ?_,rfl,q _ hf⟩;exact⟨z,us,0,r,eD _ rfl⟩
end
noncomputable abbrev Sp:=List V->Hp->VK->XK->Prop
noncomputable abbrev CXT:=List Env->Hp->eQ->XK->eP->eQ->Prop
structure Env0 (P:dO) (w:World) (K:aa) (mg:Str->Option eP) (base:Heap) (A:dP) (outer:List Env) (s:eQ) (H:Hp):Prop where
 frames:A.frames=Ob outer
 mod:Mod K mg base
 bs:∀b o,base.get? b=Ob o->s.heap.get? b=Ob o/\H b=Oa
 bsz:base.objs.size<=s.heap.objs.size
 funs:s.heap.FunFrames base outer
 frf:∀b∈frs outer,H b=Oa
 hok:HOk P w H s.heap
 bare:AllBare s.gens
noncomputable def CE(outer:List Env)(P:dO)(w:World)(H:Hp)(s:eQ)(Q:VK)(u:eP)(s':eQ):Prop :=
 ∃v H',s'.os=s.os/\AllBare s'.gens/\Un (frs outer) [] H H' s.heap s'.heap/\HOk P w H' s'.heap/\L0 v u/\Q v H'
noncomputable def CR(CX:CXT)(outer:List Env)(P:dO)(w:World)(H:Hp)(s:eQ)(Q:VK)(E:XK)(r:Result)(s':eQ):Prop :=
 match r with
 | .ok (.ret u)=>CE outer P w H s Q u s'
 | .ok _=>False
 | .error e=>CX outer H s E e s'
structure FnOk (P:dO) (w:World) (K:aa) (mg:Str->Option eP) (base:Heap) (CX:CXT) (k:Nat) (f:eR) (fd:dQ) (ps:List Str) (sp:Sp):Prop where
 len:∀vs H Q E,sp vs H Q E->vs.length=ps.length
 run:∀(A:dP) (outer:List Env) (s:eQ) (H:Hp) (args:Args) (us:List eP) (vs:List V) (Q:VK) (E:XK),Room k A->Env0 P w K mg base A outer s H->BindsTo s fd args (ps.zip us)->D7 vs us->sp vs H Q E ->
  codeAny (ez P w) A (.call (.ref f) args) (CR CX outer P w H s Q E) s
theorem FnOk.mono{P:dO}{w:World}{K:aa}{mg:Str->Option eP}{base:Heap}{CX:CXT}{j k:Nat}{f:eR}{fd:dQ}{ps:List Str}{sp:Sp}(F:FnOk P w K mg base CX j f fd ps sp)(h:j<=k):
  FnOk P w K mg base CX k f fd ps sp:=⟨F.len,λA outer s H args us vs Q E hr=>F.run A outer s H args us vs Q E<|hr.mono h⟩
def Env0.make{P:dO}{w:World}{K:aa}{mg:Str->Option eP}{base:Heap}{A:dP}{outer:List Env}{s:eQ}{H:Hp}(e:Env0 P w K mg base A outer s H)(C:eR)(us:List eP)(kw:List (Str×eP)):
  Env0 P w K mg base (A.under<|.builtin "type.__call__" ⟨.ref C::us,kw⟩) outer s H:=⟨by first|exact e.frames|(simpa [Around.under,Code.envs,Code.isFrame,pushEnvs] using e.frames),e.mod,e.bs,e.bsz,e.funs,e.frf,e.hok,e.bare⟩
section
variable {X:Cx}{pins:List (Addr×Obj)}{σ:St}{H:Hp}{s s':Shared}
def Inv.env0(I:Inv X pins σ H s):Env0 X.prog X.w X.K X.mg X.base X.A X.stack s H :=
 ⟨I.ok.frames,I.ok.mod,I.bs,aL I.ok.bsz I.sz,I.stack,I.stkFree,I.hok,I.bare⟩
def Inv.after(I:Inv X pins σ H s)(h:CE X.stack X.prog X.w H s Q u s'):EP X pins σ Q u s':=by
 obtain⟨v,H',os,bare,un,hok,r,q⟩:=h;obtain⟨hh,g,d,t,os'⟩:=s';obtain rfl:os'=s.os:=os;exact⟨v,H',I.call (h':=hh) (g':=g) (d':=d) (t':=t) (ch:=[]) un hok bare (λb z=>absurd z<|by simp),r,q⟩
end
noncomputable def cd0(sp:Sp)(dvs:List V)(E:XK)(t:TA):TE:=λσ H Q=>t σ H λvs H1=>sp (vs++dvs) H1 Q E
noncomputable def cc9(C:eR)(m:Str)(sp:Sp)(dvs:List V)(E:XK)(ta:TE)(t:TA):TE:=λσ H Q=>ta σ H λx H1=>∃a dx fs,x=.ref a/\H1 a=Ob (.ins C dx fs)/\fs.lookup m=Oa /\
 t σ H1 λvs H2=>sp (x::(vs++dvs)) H2 Q E
noncomputable def cB9(C:eR)(sp:Sp)(dvs:List V)(E:XK)(t:TA):TE:=λσ H Q=>t σ H λvs H1=>∀x dx,H1 x=Oa->H1 dx=Oa->dx≠x ->
 sp (.ref x::(vs++dvs)) (upd (upd H1 dx<|.own x) x<|.ins C dx []) (λv H2=>v=.non/\Q (.ref x) H2) E
noncomputable def M3(K:aa)(fd:dQ)(ps:List Str)(ds:List eP):Prop :=
 ∀(s:eQ) (us:List eP),K.In s.heap->(us++ds).length=ps.length->BindsTo s fd ⟨us,[]⟩ (ps.zip<|us++ds)
def M3.all{K:aa}{fd:dQ}{ps:List Str}(h:∀us:List eP,us.length=ps.length->bindArgs fd ⟨us,[]⟩=pure (ps.zip us)):M3 K fd ps []:=λs us _ hl=>by
 rw[aA]at hl ⊢;exact .of_eq<|h us hl
noncomputable def ad7(CX:CXT)(X:Cx)(E:XK):Prop:=∀(pins:List (eR×Obj)) (σ:St) (H:Hp) (s:eQ) (e:eP) (s':eQ),Inv X pins σ H s->CX X.stack H s E e s'->X.xe e s'
section
variable {X:Cx}{CX:CXT}{k:Nat}{f C:Addr}{fd:FuncData}{ps:List Str}{sp:Sp}{dvs:List V}{ds:List Value}{E:XK}{x m:Str}{p pos apos:Pos}{e o:Expr}{es:List Expr}{ta:TE}{t:TA}
def aF8(F:FnOk X.prog X.w X.K X.mg X.base CX k f fd ps sp)(hr:Room k X.A)(hb:M3 X.K fd ps ds)(hd:D7 dvs ds)(hx:ad7 CX X E)
  (I:Inv X pins σ H s) (r:D7 vs us) (h:sp (vs++dvs) H Q E):eh (ez X.prog X.w) X.A (call (.ref f) us) (EP X pins σ Q) X.xe s:=by
 have r2:D7 (vs++dvs) (us++ds):=r.append hd;have hl:(us++ds).length=ps.length:=by rw[← r2.length];exact F.len _ _ _ _ h
 refine wpAny_call (codeAny_mono (F.run X.A X.stack s H ⟨us,[]⟩ (us++ds) (vs++dvs) Q E hr I.env0 (hb s us I.kIn hl) r2 h) λr s' hq=>?_);cases r with
 | error e=>exact hx pins σ H s e s' I hq
 | ok fl =>
  cases fl with
  | ret u=>exact I.after hq
  | next=>exact False.elim hq
  | brk=>exact False.elim hq
  | cont=>exact False.elim hq
def aG7(F:FnOk X.prog X.w X.K X.mg X.base CX k f fd ps sp)(hr:Room k X.A)(hg:Gl X x)(hm:X.mg x=Ob (.ref f))(hk:aG X.K (.ref f)=true)(hb:M3 X.K fd ps ds)(hd:D7 dvs ds)(hx:ad7 CX X E)
  (ha:PA X (e::es) t) (hdb:(x==("__debug__" : Str))=false:=by decide) (he:dI (e::es) X.env=(false,eval e X.env)::dI es X.env:=by rfl) (hpl:(backTo pos<|dI es X.env).any (·.1)=false:=by rfl) :
  PE X (.Call (.Name x p) (e::es) [] pos) (cd0 sp dvs E t):=by
 intro pins s σ H Q I h;refine wpAny_Call_Name_kw (c7 I hg hm ?_ hdb);refine PySem.W.callWith_K (h₀:=X.base) I.ok.mod.kin hk (thn (ha pos pins s σ H _ I h) λus s1 ⟨vs,H1,I1,r,q⟩=>⟨I1.kIn,?_⟩) he hpl;exact aF8 F hr hb hd hx I1 r q
def bz4(F:FnOk X.prog X.w X.K X.mg X.base CX k f fd ps sp)(hr:Room k X.A)(hg:Gl X x)(hm:X.mg x=Ob (.ref f))(hk:aG X.K (.ref f)=true)(hb:M3 X.K fd ps ds)(hd:D7 dvs ds)(hx:ad7 CX X E)
  (hdb:(x==("__debug__" : Str))=false:=by decide):PE X (.Call (.Name x p) [] [] pos) (cd0 sp dvs E cj6):=by
 intro pins s σ H Q I h;refine wpAny_Call_Name_kw (c7 I hg hm ?_ hdb);exact PySem.W.callWith_K0 I.kIn hk<|aF8 (us:=[]) F hr hb hd hx I .nil h
def bT5(he:PE X o ta)(c:Cls X.K C)(hm:Meth X.K C m f)(F:FnOk X.prog X.w X.K X.mg X.base CX k f fd ps sp)(hr:Room k X.A)(hb:M3 X.K fd ps ds)(hd:D7 dvs ds)(hx:ad7 CX X E)(ha:PA X (e::es) t)
  (hst:dI (e::es) X.env=(false,eval e X.env)::dI es X.env:=by rfl) (hpl:(backTo pos<|dI es X.env).any (·.1)=false:=by rfl)
  (ht:eval (.Call (.Attribute o m apos) (e::es) [] pos) X.env=(do
   let ov ← eval o X.env
   standAt apos.atName
   let(f,first) ← holding [ov] (getMethod ov m pl)
   callWith pos f first (backTo pos (dI (e::es) X.env)) (backToKw pos (keywordEach [] X.env))):=by rfl) :
  PE X (.Call (.Attribute o m apos) (e::es) [] pos) (cc9 C m sp dvs E ta t):=by
 intro pins s σ H Q I h;refine PySem.W.methodCall_KW (pl:=pl) (thn (he pins s σ H _ I h) λu s1 ⟨x,H1,I1,rx,a,dx,fs,ex,ea,l,q⟩=>?_) ht;subst ex;obtain rfl:u=eK a:=rx;refine aa5 I1 ea c hm l ?_;refine PySem.W.callWith_K (first:=[.ref a]) (h₀:=X.base) I.ok.mod.kin hm.kp (thn (ha pos pins s1 σ H1 _ I1 q) λus s2 ⟨vs,H2,I2,r,q2⟩=>⟨I2.kIn,?_⟩) hst hpl;exact aF8 (us:=.ref a::us) (vs:=.ref a::vs) F hr hb hd hx I2 (.cons rfl r) q2
def bz2(he:PE X o ta)(c:Cls X.K C)(hm:Meth X.K C m f)(F:FnOk X.prog X.w X.K X.mg X.base CX k f fd ps sp)(hr:Room k X.A)(hb:M3 X.K fd ps ds)(hd:D7 dvs ds)(hx:ad7 CX X E)
  (ht:eval (.Call (.Attribute o m apos) [] [] pos) X.env=(do
   let ov ← eval o X.env
   standAt apos.atName
   let(f,first) ← holding [ov] (getMethod ov m pl)
   callWith pos f first (backTo pos (dI [] X.env)) (backToKw pos (keywordEach [] X.env))):=by rfl) :
  PE X (.Call (.Attribute o m apos) [] [] pos) (cc9 C m sp dvs E ta cj6):=by
 intro pins s σ H Q I h;refine PySem.W.methodCall_KW (pl:=pl) (thn (he pins s σ H _ I h) λu s1 ⟨x,H1,I1,rx,a,dx,fs,ex,ea,l,q⟩=>?_) ht;subst ex;obtain rfl:u=eK a:=rx;refine aa5 I1 ea c hm l ?_;exact PySem.W.callWith_K0 (first:=[.ref a]) I1.kIn hm.kp<|aF8 (us:=[.ref a]) (vs:=[.ref a]) F hr hb hd hx I1 (.cons rfl .nil) q
structure Mk (K:aa) (C f:eR):Prop where
 makes:PySem.W.makesIn K C=true
 init:PySem.W.findIn K (.ref C) "__init__" = Ob (Ob<|.ref f)
 fn:PySem.W.isFn K (.ref f)=true
 kp:aG K (.ref C)=true
def bx0(M:Mk X.K C f)(F:FnOk X.prog X.w X.K X.mg X.base CX k f fd ps sp)(hr:Room (k+1) X.A)(hb:M3 X.K fd ps ds)(hd:D7 dvs ds)
  (hx:ad7 CX X E) (I:Inv X pins σ H s) (r:D7 vs us)
  (h:∀x dx,H x=Oa->H dx=Oa->dx≠x->sp (.ref x::(vs++dvs)) (upd (upd H dx<|.own x) x<|.ins C dx []) (λv H2=>v=.non/\Q (.ref x) H2) E) :
  eh (ez X.prog X.w) X.A (call (.ref C) us) (EP X pins σ Q) X.xe s:=by
 have hq:=h (s.heap.objs.size+1) s.heap.objs.size (I.hok.fresh<|cw _) (I.hok.fresh<|ah _) (aS<|cJ _);have I2:=Inv.made (C:=C) I;have r2:D7 (V.ref (s.heap.objs.size+1)::(vs++dvs)) (eK (s.heap.objs.size+1)::(us++ds)):=.cons rfl<|r.append hd
 have hl:(eK (s.heap.objs.size+1)::us++ds).length=ps.length:=by
  have e:=r2.length;rw[F.len _ _ _ _ hq]at e;exact e.symm
 refine wpAny_call (bB9 (f:=f) I.kIn M.makes M.init (beq_iff_eq.mp M.fn) (codeAny_mono (F.run _ X.stack _ _ ⟨eK (s.heap.objs.size+1)::us,[]⟩ (eK (s.heap.objs.size+1)::(us++ds)) _ _ E (hr.make C us [])
  (I2.env0.make C us []) (hb _ (eK (s.heap.objs.size+1)::us) I2.kIn hl) r2 hq) λr s' hq'=>?_))
 cases r with
 | error e=>exact hx pins σ _ _ e s' I2 hq'
 | ok fl =>
  cases fl with
  | ret u =>
   obtain⟨v,H',I3,rv,ev,q3⟩:=I2.after hq';subst ev;exact⟨rv,⟨V.ref<|s.heap.objs.size+1,H',I3,rfl,q3⟩⟩
  | next=>exact False.elim hq'
  | brk=>exact False.elim hq'
  | cont=>exact False.elim hq'
def bT6(M:Mk X.K C f)(F:FnOk X.prog X.w X.K X.mg X.base CX k f fd ps sp)(hr:Room (k+1) X.A)(hg:Gl X x)(hm:X.mg x=Ob (.ref C))(hb:M3 X.K fd ps ds)(hd:D7 dvs ds)(hx:ad7 CX X E)
  (ha:PA X (e::es) t) (hdb:(x==("__debug__" : Str))=false:=by decide) (he:dI (e::es) X.env=(false,eval e X.env)::dI es X.env:=by rfl) (hpl:(backTo pos<|dI es X.env).any (·.1)=false:=by rfl) :
  PE X (.Call (.Name x p) (e::es) [] pos) (cB9 C sp dvs E t):=by
 intro pins s σ H Q I h;refine wpAny_Call_Name_kw (c7 I hg hm ?_ hdb);refine PySem.W.callWith_K (h₀:=X.base) I.ok.mod.kin M.kp (thn (ha pos pins s σ H _ I h) λus s1 ⟨vs,H1,I1,r,q⟩=>⟨I1.kIn,?_⟩) he hpl;exact bx0 M F hr hb hd hx I1 r q
end
structure FnScope (N P:List Str) (sc:Scope):Prop where
 kind:sc.kind=.function
 co:sc.isCoroutine=false
 gen:sc.isGenerator=false
 nd:N.Nodup
 pre:N.take P.length=P
 par:∀x∈P,sc.names.lookup x=Ob .local\/sc.names.lookup x=Ob .cell
 nofree:∀y∈sc.names,y.2≠.free
theorem aD4{kindOf:Str->Option NameKind}{x:Str}:∀{binds:List (Str×eP)}{m:Str->Option eP},(∀v,(x,v)∉binds)->bindL kindOf binds m x=m x
 | [],_,_=>rfl
 | (n,v)::r,m,h=>by
  unfold bindL;rw[aD4 λw hw=>h w (xmm _ hw)];split
  .have:x≠n:=by rintro rfl;exact h v aw
   simp[this]
  .rfl
theorem aD6{kindOf:Str->Option NameKind}{x:Str}:∀{binds:List (Str×eP)}{m:Str->Option eP},(∀v,(x,v)∉binds)->bindC kindOf binds m x=m x
 | [],_,_=>rfl
 | (n,v)::r,m,h=>by
  unfold bindC;rw[aD6 λw hw=>h w (xmm _ hw)];split
  .rfl
  .have:x≠n:=by rintro rfl;exact h v aw
   simp[this]
theorem aD5{kindOf:Str->Option NameKind}{x:Str}{v:eP}:∀{P:List Str}{vs:List eP}{i:Nat}{m:Str->Option eP},P.Nodup->P[i]? = Ob x->vs[i]? = Ob v->kindOf x=Ob .local ->
  bindL kindOf (P.zip vs) m x=Ob v
 | [],_,_,_,_,h,_,_=>by simp at h
 | _::_,[],_,_,_,_,h,_=>by simp at h
 | p::P,w::vs,0,m,nd,h1,h2,hk=>by
  simp at h1 h2;subst h1;subst h2;show bindL kindOf ((p,w)::P.zip vs) m p=_;unfold bindL;rw[aD4 λv hv=>(bn.mp nd).1 (dl hv).1,if_pos hk];simp
 | p::P,w::vs,i+1,m,nd,h1,h2,hk=>by
  show bindL kindOf ((p,w)::P.zip vs) m x=_;unfold bindL;exact aD5 (i:=i) (bn.mp nd).2 (by simpa using h1) (by simpa using h2) hk
theorem aD7{kindOf:Str->Option NameKind}{x:Str}{v:eP}:∀{P:List Str}{vs:List eP}{i:Nat}{m:Str->Option eP},P.Nodup->P[i]? = Ob x->vs[i]? = Ob v->kindOf x≠Ob .local ->
  bindC kindOf (P.zip vs) m x=Ob v
 | [],_,_,_,_,h,_,_=>by simp at h
 | _::_,[],_,_,_,_,h,_=>by simp at h
 | p::P,w::vs,0,m,nd,h1,h2,hk=>by
  simp at h1 h2;subst h1;subst h2;show bindC kindOf ((p,w)::P.zip vs) m p=_;unfold bindC;rw[aD6 λv hv=>(bn.mp nd).1 (dl hv).1,if_neg hk];simp
 | p::P,w::vs,i+1,m,nd,h1,h2,hk=>by
  show bindC kindOf ((p,w)::P.zip vs) m x=_;unfold bindC;exact aD7 (i:=i) (bn.mp nd).2 (by simpa using h1) (by simpa using h2) hk
noncomputable def start(N:List Str)(vs:List V):St:=vs.map Ob++aj (N.length - vs.length) Oa
noncomputable def as7(CX:CXT)(P:dO)(w:World)(K:aa)(mg:Str->Option eP)(base:Heap)(N:List Str)(qual:Str)(scope:Scope)(f:eR)(cd:eP)(A:dP)(outer:List Env)(s:eQ)(H:Hp)(E:XK):Cx where
 prog:=P
 w:=w
 K:=K
 mg:=mg
 base:=base
 A:=A.deeper<|envOfC qual scope s.heap.objs.size f cd
 N:=N
 s₀:=s
 H₀:=H
 env:=envOfC qual scope s.heap.objs.size f cd
 outer:=outer
 stack:=envOfC qual scope s.heap.objs.size f cd::outer
 ex:=[]
 calm:=true
 fn:=λ_=>true
 pn:=[]
 xe:=λe s'=>eh (ez P w) (A.deeper<|envOfC qual scope s.heap.objs.size f cd) (leaving (envOfC qual scope s.heap.objs.size f cd) e) (λ_ s''=>CX outer H s E e s'') (λe' s''=>CX outer H s E e' s'') s'
def aQ2{sc:Scope}{n:Nat}{x:Str}(h:sc.names.lookup x=Ob .cell):∃c,(cellsFrom n sc.names []).lookup x=Ob c:=by
 have q:=PySem.W.cellsFrom_some sc.names n [] (.inl h);exact cx.mp q
def bn2{CX:CXT}{P:dO}{w:World}{K:aa}{mg:Str->Option eP}{base:Heap}{N ps:List Str}{qual:Str}{scope:Scope}{f:eR}{cd:eP}{A:dP}{outer:List Env}{s s1:eQ}{H:Hp}{E:XK}{us:List eP}{vs:List V}
  (S:FnScope N ps scope) (hd:A.handled=Oa) (e0:Env0 P w K mg base A outer s H) (hl:vs.length=ps.length) (r:D7 vs us)
  (x:InCallC s s.heap.objs.size (bindL (envOfC qual scope s.heap.objs.size f cd).kindOf (ps.zip us) λ_=>Oa) (cellsFrom (s.heap.objs.size+1) scope.names []) (bindC (envOfC qual scope s.heap.objs.size f cd).kindOf (ps.zip us) λ_=>Oa) s1) :
  Inv (as7 CX P w K mg base N qual scope f cd A outer s H E) [] (start N vs) H s1:=by
 have hpl:ps.length<=N.length:=by have:=congrArg List.length S.pre;rw[cn]at this;omega
 obtain⟨h1,tk,rfl,hk⟩:=x.done;have noA:∀b:eR,b∉(as7 CX P w K mg base N qual scope f cd A outer s H E).ex:=λb z=>absurd (show b∈([]:List eR) from z) (by simp)
 refine⟨⟨e0.mod,S.kind,rfl,rfl,ah _,λy z c h1 h2=>?_,λy hy=>?_,λy c _ h=>?_,λ_=>hd,Around.frames_deeper e0.frames,.inr ⟨rfl,rfl⟩,λb z=>absurd z (noA b),e0.bs,e0.bsz,λb _ _=>noA b,λb z=>absurd z (noA b),e0.funs,e0.frf⟩,
  rfl,e0.bare,Un.kept hk,⟨_,x.toInCall.ns,λi y v h1 h2 h3=>?_⟩,λy c h=>⟨_,x.cell y c h⟩,e0.hok.fresh (ah _),λy c h=>?_,λp hp=>absurd (show p∈([]:List (eR×Obj)) from hp) (by simp),e0.hok.kept hk,?_⟩
 .exact name_of_addr x.apart (PySem.mem_of_lookup h1) (PySem.mem_of_lookup h2)
 .have hy:scope.names.lookup y=Ob .cell\/scope.names.lookup y=Ob .free:=hy;rcases hy with hy|hy
  .exact aQ2 hy
  .exact absurd rfl (S.nofree _<|PySem.mem_of_lookup hy)
 .exact cf (x.above y c<|PySem.mem_of_lookup h)
 .have hi:i < vs.length:=by
   unfold start at h2;by_cases hi:i < vs.length
   .exact hi
   .rw[aK (by simpa using hi)]at h2;rw[be]at h2;split at h2<;>cases h2
  have ha:vs[i]? = Ob v:=by
   unfold start at h2;rw[aM (by simpa using hi),av]at h2;cases e:vs[i]? with
   | none=>rw[e]at h2;cases h2
   | some a=>rw[e]at h2;cases h2;rfl
  obtain⟨u,hu,rv⟩:=r.get ha;have hp:ps[i]? = Ob y:=by rw[← S.pre,List.getElem?_take_of_lt (by omega)];exact h1
  have ndP:ps.Nodup:=by rw[← S.pre];exact S.nd.sublist<|List.take_sublist _ _
  refine⟨u,rv,?_⟩;rcases S.par y (bS hp) with k|k
  .exact .inl ⟨k,aD5 ndP hp hu k⟩
  .obtain⟨c,e⟩:=aQ2 (n:=s.heap.objs.size+1) k;refine .inr ⟨.inl k,c,e,?_⟩;have q:=x.cell y c e;rw[aD7 ndP hp hu (by show scope.names.lookup y≠_;rw[k];decide)]at q;exact q
 .exact e0.hok.fresh (cf<|x.above y c (PySem.mem_of_lookup h))
 .unfold start;show _=N.length;rw[az,ay,bw];omega
def ax0{CX:CXT}{P:dO}{w:World}{K:aa}{mg:Str->Option eP}{base:Heap}{k:Nat}{f:eR}{name qual:Str}{params:Arguments}{body:List Stmt}{scope:Scope}{dV kV doc pm cdv ct oc:eP}{an od:Option eR}
  {osl:Array (Option eP)}{N ps:List Str}{sp:Sp}(lk:K.lookup f=Ob ⟨oc,od,.func<|bp name qual params body scope dV kV doc pm an cdv ct,osl⟩) (hcd:bT K cdv qual=true) (S:FnScope N ps scope)
  (len:∀vs H Q E,sp vs H Q E->vs.length=ps.length)
  (hbody:∀(A:dP) (outer:List Env) (s:eQ) (H:Hp) (vs:List V) (Q:VK) (E:XK),Room k (A.deeper (envOfC qual scope s.heap.objs.size f cdv))->sp vs H Q E ->
   ∃t,PSs (as7 CX P w K mg base N qual scope f cdv A outer s H E) body t/\t { nx:=λ_ H'=>Q .non H',rt:=Q } (start N vs) H) :
  FnOk P w K mg base CX (k+1) f (bp name qual params body scope dV kV doc pm an cdv ct) ps sp:=by
 refine⟨len,λA outer s H args us vs Q E hr e0 hb r hsp=>?_⟩;have hl:=len _ _ _ _ hsp;have KX:K.In s.heap:=e0.mod.kin.keeps λb o e=>(e0.bs b o e).1
 have lim:s.heap.NoLimit:=e0.mod.nolimit.keeps λb o e=>(e0.bs b o e).1
 have hkind:∀y∈ps.zip us,scope.names.lookup y.1=Ob .local\/(scope.names.lookup y.1=Ob .cell/\((cellsFrom (s.heap.objs.size+1) scope.names []).lookup y.1).isSome=true):=λ⟨n,v⟩ hy=>by
  rcases S.par n (dl hy).1 with q|q
  .exact .inl q
  .exact .inr ⟨q,PySem.W.cellsFrom_some _ _ _<|.inl q⟩
 refine codeAny_call_function hr.depth (KX _ _ lk) rfl S.co S.gen rfl (PySem.W.codeRec_of KX hcd) (hb _ _ _ _ ?_);refine wpAny_newFunctionEnv_cells S.kind hkind λenv he s1 x=>?_
 subst he;refine⟨lim.keeps x.toInCall.keep,codeAny_func ?_⟩;obtain⟨t,ht,hq⟩:=hbody A outer s H vs Q E (hr.deeper _) hsp;have I:Inv (as7 CX P w K mg base N qual scope f cdv A outer s H E) [] (start N vs) H s1:=bn2 S hr.hd e0 hl r x;refine dE (ht [] s1 (start N vs) H _ I hq) (λfl s' hs=>?_) λe s' hs=>hs
 have fin:∀{σ':St}{H':Hp}{v:V}{u:eP},Inv (as7 CX P w K mg base N qual scope f cdv A outer s H E) [] σ' H' s'->L0 v u->Q v H'->CE outer P w H s Q u s' :=
  λ{σ' H' v u} J rv q=>⟨v,H',J.os,J.bare,J.base,J.hok,rv,q⟩
 cases fl with
 | ret u =>
  obtain⟨v,σ',H',J,rv,q⟩:=hs;exact fin J rv q
 | next =>
  obtain⟨σ',H',J,q⟩:=hs;exact fin (v:=V.non) (u:=eL) J rfl q
 | brk =>
  obtain⟨_,_,_,q⟩:=hs;exact False.elim q
 | cont =>
  obtain⟨_,_,_,q⟩:=hs;exact False.elim q
section
variable {X:Cx}{x:Str}{p pos:Pos}{e:Expr}{es:List Expr}{t:TA}{id T:String}{r:List V->Hp->VK->Prop}
noncomputable def tCB(r:List V->Hp->VK->Prop)(t:TA):TE:=λσ H Q=>t σ H λvs H1=>r vs H1 Q
def v8(hc:ag9 X (.builtin id) r)(hg:Gl X x)(hm:X.mg x=Oa)(hv:dR x=Ob (.builtin id))(ha:PA X (e::es) t)(hn:x ≠ "__name__" := by decide)(hdb:(x==("__debug__" : Str))=false:=by decide)
  (he:dI (e::es) X.env=(false,eval e X.env)::dI es X.env:=by rfl) (hpl:(backTo pos<|dI es X.env).any (·.1)=false:=by rfl):PE X (.Call (.Name x p) (e::es) [] pos) (tCB r t):=by
 intro pins s σ H Q I h;refine wpAny_Call_Name_kw (an9 I hg hm hv ?_ hn hdb);exact PyProof.Rows.callWith_builtin1 (thn (ha pos pins s σ H _ I h) λus s1 ⟨vs,H1,I1,r1,q1⟩=>hc pins s1 σ H1 vs us Q I1 r1 q1) he hpl
def v7(hc:ag9 X (.type T) r)(hg:Gl X x)(hm:X.mg x=Oa)(hv:dR x=Ob (.type T))(ha:PA X (e::es) t)(hn:x ≠ "__name__" := by decide)(hdb:(x==("__debug__" : Str))=false:=by decide)
  (he:dI (e::es) X.env=(false,eval e X.env)::dI es X.env:=by rfl) (hpl:(backTo pos<|dI es X.env).any (·.1)=false:=by rfl):PE X (.Call (.Name x p) (e::es) [] pos) (tCB r t):=by
 intro pins s σ H Q I h;refine wpAny_Call_Name_kw (an9 I hg hm hv ?_ hn hdb);exact PyProof.Rows.callWith_type1 (thn (ha pos pins s σ H _ I h) λus s1 ⟨vs,H1,I1,r1,q1⟩=>hc pins s1 σ H1 vs us Q I1 r1 q1) he hpl
end
end L2
namespace HT
open PySem PyProof.Rows
section
variable {prog:Program}{w:World}{A:Around}{E:Value->Shared->Prop}{s:Shared}
def cat_tup(ht:IsTup s.heap t vs.toArray)(hb:IsTup s.heap b ws.toArray)(hv:vs≠[])
  (h1:ws=[]->Q (.ref t) s) (h2:ws≠[]->Q (.ref s.heap.objs.size) { s with heap:=s.heap.push { cls:=.type "tuple", data:=.seq (vs++ws).toArray } })
  (hsz:vs.length+ws.length<=dJ):eh (ez prog w) A (dS .Add (.ref t)<|.ref b) Q E s:=by
 obtain⟨⟨cls,dd,data,sl⟩,ho,hc,n,hd⟩:=id ht;obtain⟨⟨cls2,dd2,data2,sl2⟩,ho2,hc2,n2,hd2⟩:=id hb;simp only at hc hd hc2 hd2;subst hc hd hc2 hd2;have e:vs.toArray++ws.toArray=(vs++ws).toArray:=by simp
 by_cases hw:ws=[]
 .exact concat_meets ⟨_,ho,rfl⟩ ⟨_,ho2,rfl⟩ noFill_tuple_add seq_tuple_add PySem.F.slot_tuple_add PySem.F.entry_tuple_add (PySem.F.args_tuple_add_2 _ _)
   (tuple_addW1 t b vs.toArray ws.toArray n n2 dd dd2 sl sl2 (by simpa using hv)<|by simp[hw]) ⟨ho,ho2,h1 hw⟩
 .refine concat_meets ⟨_,ho,rfl⟩ ⟨_,ho2,rfl⟩ noFill_tuple_add seq_tuple_add PySem.F.slot_tuple_add PySem.F.entry_tuple_add (PySem.F.args_tuple_add_2 _ _)
   (tuple_addW2 t b vs.toArray ws.toArray n n2 dd dd2 sl sl2 (by simpa using hv) (by simpa using hw) (by rw[ai,ai];exact hsz)) ⟨ho,ho2,?_⟩
  rw[e];exact h2 hw
noncomputable def sIx(n d:Nat):Option Int->Nat
 | none=>d
 | some v=>if v < 0 then(v+(n:Int)).toNat else min v.toNat n
def sIx_none(n d:Nat):sIx n d Oa=d:=rfl
def sIx_nat(n d k:Nat):sIx n d (Ob (k:Int))=min k n:=by
 show(if(k:Int) < 0 then((k:Int)+(n:Int)).toNat else min (k:Int).toNat n)=min k n;rw[if_neg (by omega),aZ]
def ck7(n d:Nat)(hd:d<=n)(o:Option Int):sIx n d o<=n:=by
 cases o with
 | none=>exact hd
 | some v =>
  show(if v < 0 then(v+(n:Int)).toNat else min v.toNat n)<=n;by_cases hv:v < 0
  .rw[if_pos hv];omega
  .rw[if_neg hv];exact Nat.min_le_right _ _
def bi8(v:Int)(n d:Nat):(if v < 0 then max (v+(n:Int)) 0 else min v (n:Int))=((sIx n d (Ob v):Nat):Int):=by
 show(if v < 0 then max (v+(n:Int)) 0 else min v (n:Int))=(((if v < 0 then(v+(n:Int)).toNat else min v.toNat n):Nat):Int);by_cases hv:v < 0
 .simp only[if_pos hv];omega
 .simp only[if_neg hv];omega
def ba4(lo hi:Option Int)(n:Nat):Builtin.Slice.sliceAdjust lo hi 1 (n:Int)=(((sIx n 0 lo:Nat):Int),((sIx n n hi:Nat):Int)):=by
 have h1:¬((1:Int) < 0):=by omega
 unfold Builtin.Slice.sliceAdjust;simp only[h1,if_false];refine Prod.ext ?_ ?_
 .cases lo with
  | none=>rfl
  | some v=>exact bi8 v n 0
 .cases hi with
  | none=>rfl
  | some v=>exact bi8 v n n
def aU8(i j:Nat):Builtin.Slice.slicePlaces (i:Int) (j:Int) 1=j - i:=by
 unfold Builtin.Slice.slicePlaces;have h1:(1:Int) > 0:=by omega
 simp only[h1,if_true,Int.ediv_one];split<;>omega
def av7(p:IsPart v o)(h:Q o s):eh (ez prog w) A (Builtin.Slice.slicePartIndex v) Q E s:=by
 cases p with
 | none=>exact slicePart_none h
 | int i t=>exact slicePart_int h
def sliceApplied_gen{sl:eR}{vl vu:eP}{lo hi:Option Int}{n:Nat}{Q:Int×Int×Nat->eQ->Prop}(hs:s.heap.IsSliceOf sl vl vu .none)(pl:IsPart vl lo)(pu:IsPart vu hi)
  (h:Q (((sIx n 0 lo:Nat):Int),1,sIx n n hi - sIx n 0 lo) s):eh (ez prog w) A (Builtin.Slice.sliceApplied (.ref sl)<|pure (n:Int)) Q E s:=by
 obtain⟨os,hos,hcs,hds⟩:=id hs;unfold Builtin.Slice.sliceApplied Builtin.Slice.sliceFields;refine dB (dB<|dH hos hds (x:=vl) rfl (dB<|dH hos hds (x:=vu) rfl (dB<|dH hos hds (x:=.none) rfl (dD ?_))));refine dB (slicePart_none ?_);show eh _ _ (if((1:Int)==0)=true then _ else _) _ _ s;rw[if_neg (by decide)];refine dB (av7 pl<|dB (av7 pu<|dB (dD ?_)));show eh _ _ (match Builtin.Slice.sliceAdjust lo hi 1 (n:Int) with|(lo,hi)=>pure (lo,(1:Int),Builtin.Slice.slicePlaces lo hi 1)) _ _ s;rw[ba4 lo hi n];show eh _ _ (pure (((sIx n 0 lo:Nat):Int),(1:Int),Builtin.Slice.slicePlaces ((sIx n 0 lo:Nat):Int) ((sIx n n hi:Nat):Int) 1)) _ _ s;rw[aU8];exact dD h
def by6(xs:Array eP)(i k:Nat):((ax k).filterMap λ(m:Nat)=>xs[((i:Int)+(m:Int)*1).toNat]?).toArray=((xs.toList.drop i).take k).toArray:=by
 have e:(λ(m:Nat)=>xs[((i:Int)+(m:Int)*1).toNat]?)=λm=>xs[i+m]?:=by
  funext m
  have:((i:Int)+(m:Int)*1).toNat=i+m:=by omega
  rw[this]
 rw[e];have:=pick_run xs i k;rw[List.filterMap_map]at this;have e2:((λx=>xs[x]?) ∘ λx=>i+x)=λm=>xs[i+m]?:=rfl
 rw[e2]at this;rw[this]
def getItem_tuple_cut{t sl:eR}{items:Array eP}{vl vu:eP}{lo hi:Option Int}{Q:eP->eQ->Prop}(ht:IsTup s.heap t items)(hs:s.heap.IsSliceOf sl vl vu .none)(pl:IsPart vl lo)(pu:IsPart vu hi)
  (hw:¬(sIx items.size 0 lo=0/\sIx items.size items.size hi=items.size))
  (h:Q (.ref s.heap.objs.size) { s with heap:=s.heap.push { cls:=.type "tuple", data:=.seq ((items.toList.drop<|sIx items.size 0 lo).take<|sIx items.size items.size hi - sIx items.size 0 lo).toArray } })
  (hsz:items.size<=dJ):eh (ez prog w) A (getItem (.ref t)<|.ref sl) Q E s:=by
 have htake:sizeOk (.seq ((items.toList.drop<|sIx items.size 0 lo).take<|sIx items.size items.size hi - sIx items.size 0 lo).toArray):=by
  show((items.toList.drop<|sIx items.size 0 lo).take<|sIx items.size items.size hi - sIx items.size 0 lo).toArray.size<=dJ;rw[ai,cn,bU,br];omega
 have hj:sIx items.size items.size hi<=items.size:=ck7 _ _ (ah _) hi;obtain⟨os,hos,hcs,hds⟩:=id hs;have hTs:s.TypeIs (.ref sl) "slice" := ⟨os,hos,hcs⟩;unfold getItem
 try with_reducible refine wpAny_holding ?_
 first|refine dB (dD ?_)|skip
 refine dB (wpAny_sequenceKey ht.typeIs (by decide) ?_)
 refine dB (wpAny_callSpecial?_slot (name:=Str.ofString "__getitem__") ht.typeIs PyProof.Rows.slot_tuple_getitem
  (wpAny_call_entry PyProof.Rows.slot_tuple_getitem ht.typeIs entry_tuple_getitem ?_ (args_tuple_getitem _ _)))
 show eh _ _ (Builtin.Tuple.tupleItemsOf (.ref t) >>= _) _ _ s;refine dB (tupleItemsOf_ ht ?_);refine dB (wpAny_typeOf hTs ?_);rw[if_pos (by decide)];refine dB<|sliceApplied_gen hs pl pu ?_
 have hno:¬((((sIx items.size 0 lo:Nat):Int)==0&&(1:Int)==1&&(sIx items.size items.size hi - sIx items.size 0 lo)==items.size)=true):=by
  intro q;rw[ae,ae]at q;have q1:((sIx items.size 0 lo:Nat):Int)=0:=eq_of_beq q.1.1;have q2:sIx items.size items.size hi - sIx items.size 0 lo=items.size:=eq_of_beq q.2;exact hw ⟨by omega,by omega⟩
 show eh _ _ (if(((sIx items.size 0 lo:Nat):Int)==0&&(1:Int)==1&&(sIx items.size items.size hi - sIx items.size 0 lo)==items.size)=true then _ else _) _ _ s;rw[if_neg hno,by6]
 first
  | exact dB (m:=Builtin.Tuple.tupleExact _)<|dF (dD ⟨_,rfl,dD h⟩) htake
  | exact dB (m:=Builtin.Tuple.tupleExact _)<|dF (dB<|dD (dD ⟨_,rfl,dD h⟩)) htake
  | exact dB<|dB (m:=Builtin.Tuple.tupleExact _) (dF (dD<|dD ⟨_,rfl,dD h⟩) htake)
  | exact dB<|dB (m:=Builtin.Tuple.tupleExact _) (dF (dD ⟨_,rfl,dD h⟩) htake)
end
end HT
namespace L2
open PySem PySem.Spec PyProof.Rows
noncomputable abbrev TO:=St->Hp->(Option Int->Hp->Prop)->Prop
noncomputable def PO(X:Cx)(e:Option Expr)(t:TO):Prop :=
 ∀(pins:List (eR×Obj)) (s:eQ) (σ:St) (H:Hp) (Q:Option Int->Hp->Prop),Inv X pins σ H s->t σ H Q ->
  eh (ez X.prog X.w) X.A (evalPart e X.env) (λu s'=>∃o H',Inv X pins σ H' s'/\IsPart u o/\Q o H') X.xe s
noncomputable def bQ7:TO:=λ_ H Q=>Q Oa H
noncomputable def cB7(t:TE):TO:=λσ H Q=>t σ H λx H1=>∃i,x=.int i/\Q (Ob i) H1
section
variable {X:Cx}{e:Expr}{te:TE}{lo hi:Option Expr}{tl th:TO}{pos p2:Pos}
def bT1:PO X Oa bQ7:=by
 intro pins s σ H Q I h;rw[evalPart_none];exact dD ⟨Oa,H,I,.none,h⟩
def bT0(h:PE X e te):PO X (Ob e) (cB7 te):=by
 intro pins s σ H Q I hw;rw[evalPart_some];refine thn (h pins s σ H _ I hw) λu s1 ⟨x,H1,I1,r1,q1⟩=>?_
 obtain⟨i,rfl,q⟩:=q1;obtain⟨t,rfl⟩:=r1;exact⟨Ob i,H1,I1,.int i t,q⟩
noncomputable def SlR(X:Cx)(r:V->Option Int->Option Int->Hp->VK->Prop):Prop :=
 ∀(pins:List (eR×Obj)) (s:eQ) (σ:St) (H:Hp) (x:V) (v vl vu:eP) (lo hi:Option Int) (sl:eR) (Q:VK),Inv X pins σ H s->L0 x v->s.heap.IsSliceOf sl vl vu .none->IsPart vl lo->IsPart vu hi->r x lo hi H Q ->
  ∃T id,typeLookup (.type T) "__getitem__" = pure (Ob<|.builtin id)/\s.TypeIs v T/\eh (ez X.prog X.w) X.A (getItem v<|.ref sl) (EP X pins σ Q) X.xe s
def SlR.or(h:SlR X r)(h':SlR X r'):SlR X (λx lo hi H Q=>r x lo hi H Q\/r' x lo hi H Q):=by
 intro pins s σ H x v vl vu lo hi sl Q I rx hs pl pu q;rcases q with q|q
 .exact h pins s σ H x v vl vu lo hi sl Q I rx hs pl pu q
 .exact h' pins s σ H x v vl vu lo hi sl Q I rx hs pl pu q
noncomputable def tSl(r:V->Option Int->Option Int->Hp->VK->Prop)(te:TE)(tl th:TO):TE:=λσ H Q=>te σ H λx H1=>tl σ H1 λl H2=>th σ H2 λu H3=>r x l u H3 Q
def aj9(hr:SlR X r)(he:PE X e te)(hl:PO X lo tl)(hu:PO X hi th):PE X (.Subscript e (.Slice lo hi Oa p2) pos) (tSl r te tl th):=by
 intro pins s σ H Q I h;refine Subscript_ (thn (he pins s σ H _ I h) λv s1 ⟨x,H1,I1,r1,q1⟩=>?_);refine wpAny_Slice (thn (hl pins s1 σ H1 _ I1 q1) λvl s2 ⟨l,H2,I2,pl,q2⟩=>thn (hu pins s2 σ H2 _ I2 q2) λvu s3 ⟨u,H3,I3,pu,q3⟩=>?_);rw[evalPart_none];refine dD ?_;have I4:Inv X pins σ H3 { s3 with heap:=s3.heap.push { cls:=.type "slice", data:=.fields #[vl,vu,.none] } }:=I3.kept (t':=s3.toks) λb ob q=>eA _ q
 obtain⟨T,id,hT,ht,hg⟩:=hr pins { s3 with heap:=s3.heap.push { cls:=.type "slice", data:=.fields #[vl,vu,.none] } } σ H3 x v vl vu l u s3.heap.objs.size Q I4 r1 (Heap.IsSliceOf.new ..) pl pu q3;show eh (ez X.prog X.w) X.A (subscriptTail e (.Slice lo hi Oa p2) v<|.ref s3.heap.objs.size) (EP X pins σ Q) X.xe { s3 with heap:=s3.heap.push { cls:=.type "slice", data:=.fields #[vl,vu,.none] } };exact tail_any (ops:=[.ref s3.heap.objs.size,v]) ht hT hg (by with_unfolding_all rfl)
noncomputable def aP9(xs:List V)(lo hi:Option Int):List V:=(xs.drop<|HT.sIx xs.length 0 lo).take<|HT.sIx xs.length xs.length hi - HT.sIx xs.length 0 lo
def ar3(xs:List V)(lo hi:Option Int):(aP9 xs lo hi).length<=xs.length:=by
 unfold aP9;rw[cn,bU];omega
noncomputable def cO4(K:aa):V->Option Int->Option Int->Hp->VK->Prop:=λx lo hi H Q=>∃a xs,x=.ref a/\SqT K H a xs /\
 ¬(HT.sIx xs.length 0 lo=0/\HT.sIx xs.length xs.length hi=xs.length)/\∀p,H p=Oa->Q (.ref p) (upd H p<|.tup (aP9 xs lo hi))
def ck4:SlR X (cO4 X.K):=by
 intro pins s σ H x v vl vu lo hi sl Q I rx hs pl pu h;obtain⟨a,xs,rfl,hx,hw,q⟩:=h;cases rx;obtain⟨its,r,ht,hz⟩:=I.tuple hx;have hlen:its.toArray.size=xs.length:=by rw[ai];exact r.length.symm
 refine⟨"tuple", _,PyProof.Rows.slot_tuple_getitem.lookup,ht.typeIs,?_⟩;refine HT.getItem_tuple_cut ht hs pl pu (by rw[hlen];exact hw) ?_ (by rw[hlen];exact hz);rw[hlen];refine⟨.ref s.heap.objs.size,_,I.laid (t':=s.toks) (o:=.tup<|aP9 xs lo hi) (λb ob q=>eA _ q) (ah _) ?_,rfl,q _<|I.hok.fresh (ah _)⟩;exact⟨aL (ar3 xs lo hi) hz,_,(r.drop<|HT.sIx xs.length 0 lo).take<|HT.sIx xs.length xs.length hi - HT.sIx xs.length 0 lo,ay0.new _ _⟩
noncomputable def cD7(K:aa):R2:=λx y H Q=>∃a b xs ys,x=.ref a/\y=.ref b/\SqT K H a xs/\SqT K H b ys/\xs≠[]/\xs.length+ys.length<=dJ /\
 (ys=[]->Q (.ref a) H)/\(ys≠[]->∀p,H p=Oa->Q (.ref p) (upd H p<|.tup (xs++ys)))
def D7.nil_iff(r:D7 xs us):us=[]↔xs=[]:=by
 cases r with
 | nil=>simp
 | cons _ _=>simp
def bU4:OpR X (dS .Add) (cD7 X.K):=by
 intro pins s σ H x y v u Q I rx ry h;obtain⟨a,b,xs,ys,rfl,rfl,ha,hb,hx,hz,q1,q2⟩:=h;cases rx;cases ry;obtain⟨its,r1,p1,_⟩:=I.tuple ha;obtain⟨its2,r2,p2,_⟩:=I.tuple hb;refine HT.cat_tup p1 p2 (λz=>hx<|r1.nil_iff.mp z) (λz=>⟨.ref a,H,I,rfl,q1<|r2.nil_iff.mp z⟩) (λz=>?_) (by rw[← r1.length,← r2.length];exact hz);refine⟨.ref s.heap.objs.size,_,I.laid (t':=s.toks) (o:=.tup<|xs++ys) (λb ob q=>eA _ q) (ah _) ?_,rfl,q2 (λw=>z<|r2.nil_iff.mpr w) _<|I.hok.fresh (ah _)⟩;exact⟨by rw[az];exact hz,_,r1.append r2,ay0.new _ _⟩
end
noncomputable def ixN(n:Nat)(i:Int):Option Nat:=if 0<=i then(if i < n then Ob i.toNat else Oa) else if -(n:Int)<=i then Ob (i+n).toNat else Oa
noncomputable def atI{α:Type}(xs:List α)(i:Int):Option α:=(ixN xs.length i).bind λj=>xs[j]?
def bh5(h:ixN n i=Ob j):seqIndex? i n=Ob j/\j < n/\-(n:Int)<=i/\i < n:=by
 unfold ixN at h;by_cases h0:0<=i
 .rw[if_pos h0]at h;by_cases h1:i < n
  .rw[if_pos h1]at h;have e:i.toNat=j:=bc.inj h;exact⟨by rw[seqIndex_of h0 h1,e],by omega,by omega,h1⟩
  .rw[if_neg h1]at h;cases h
 .rw[if_neg h0]at h;by_cases h1:-(n:Int)<=i
  .rw[if_pos h1]at h;have e:(i+n).toNat=j:=bc.inj h;exact⟨by rw[seqIndex_neg (by omega) h1,e],by omega,h1,by omega⟩
  .rw[if_neg h1]at h;cases h
def aJ6{α:Type}{xs:List α}{i:Int}{v:α}(h:atI xs i=Ob v):∃j,seqIndex? i xs.length=Ob j/\xs[j]? = Ob v/\j < xs.length/\-(xs.length:Int)<=i/\i < xs.length:=by
 unfold atI at h;cases e:ixN xs.length i with
 | none=>rw[e]at h;cases h
 | some j =>
  rw[e]at h;obtain⟨h1,h2,h3,h4⟩:=bh5 e;exact⟨j,h1,h,h2,h3,h4⟩
def cb8{α:Type}{xs:List α}{j:Nat}{v:α}(h:xs[j]? = Ob v):atI xs (j:Int)=Ob v:=by
 have hj:j < xs.length:=(ag.mp h).1
 have e:ixN xs.length (j:Int)=Ob j:=by
  unfold ixN;rw[if_pos (by omega),if_pos (by omega)];simp
 unfold atI;rw[e];exact h
noncomputable def am2(b:Expr):Prop:=∀o i,subscripted b false o i=operate [o,i] (getItem o i)
noncomputable def IxR(X:Cx)(r:R2):Prop :=
 ∀(value slice:Expr) (pins:List (eR×Obj)) (s:eQ) (σ:St) (H:Hp) (x y:V) (v u:eP) (Q:VK),Inv X pins σ H s->L0 x v->L0 y u->r x y H Q ->
  subscripted slice false v u=operate [v,u] (getItem v u)->eh (ez X.prog X.w) X.A (subscriptTail value slice v u) (EP X pins σ Q) X.xe s
noncomputable def MtR(X:Cx)(id:String)(r:V->List V->Hp->VK->Prop):Prop :=
 ∀(pins:List (eR×Obj)) (s:eQ) (σ:St) (H:Hp) (x:V) (xs:List V) (v:eP) (us:List eP) (Q:VK),Inv X pins σ H s->L0 x v->D7 xs us->r x xs H Q ->
  eh (ez X.prog X.w) X.A (call (.builtin id) (v::us)) (EP X pins σ Q) X.xe s
section
variable {X:Cx}{a b:Expr}{ta tb:TE}{pos:Pos}
def IxR.or(h:IxR X r)(h':IxR X r'):IxR X (λx y H Q=>r x y H Q\/r' x y H Q):=by
 intro value slice pins s σ H x y v u Q I rx ry q hs;rcases q with q|q
 .exact h value slice pins s σ H x y v u Q I rx ry q hs
 .exact h' value slice pins s σ H x y v u Q I rx ry q hs
def bz3(hr:IxR X r)(ha:PE X a ta)(hb:PE X b tb)(hs:am2 b):PE X (.Subscript a b pos) (tOp r ta tb):=by
 intro pins s σ H Q I h;exact Subscript_<|cy3 ha hb I h λv u s2 x y H2 I2 rx ry q=>hr a b pins s2 σ H2 x y v u Q I2 rx ry q<|hs _ _
noncomputable def cD6(K:aa):R2:=λx y H Q=>∃p xs i v,x=.ref p/\y=.int i/\SqL K H p xs/\atI xs i=Ob v/\Q v H
noncomputable def cD4(K:aa):R2:=λx y H Q=>∃p xs i v,x=.ref p/\y=.int i/\SqT K H p xs/\atI xs i=Ob v/\Q v H
noncomputable def cD5:R2:=λx y H Q=>∃z i c,x=.str z/\y=.int i/\z.length<=dJ/\atI z.cps.toList i=Ob c/\Q (.str ⟨#[c]⟩) H
def bZ1:IxR X (cD6 X.K):=by
 intro value slice pins s σ H x y v u Q I rx ry h hs;obtain⟨p,xs,i,z,rfl,rfl,hq,he,q⟩:=h;cases rx;obtain⟨t,rfl⟩:=ry;obtain⟨its,r,pl,hz⟩:=I.list hq;obtain⟨j,h1,h2,h3,h4,h5⟩:=aJ6 he;obtain⟨w,ew,rw'⟩:=r.get h2;have hl:=r.length;have hn:=an8;have fin:EP X pins σ Q w s:=⟨z,H,I,rw',q⟩;by_cases h0:0<=i
 .have hj:i.toNat=j:=by
   rw[seqIndex_of h0 h5]at h1;exact bc.inj h1
  exact item_listR pl.isList h0 (by omega) (by rw[hj];simpa using ew) fin hs
 .have hj:(i+(its.toArray.size:Int)).toNat=j:=by
   rw[seqIndex_neg (by omega) h4]at h1;rw[ai,← hl];exact bc.inj h1
  exact subscriptTail_builtinR (x:=w) pl.isList.typeIs slot_list_getitem.lookup
   (wpAny_getItem_list_neg (Q:=λr s'=>r=w/\EP X pins σ Q r s') pl.isList (by omega) (by rw[ai]<;>omega) (by omega) (by rw[hj];simpa using ew) ⟨rfl,fin⟩) hs
def cw2:IxR X (cD4 X.K):=by
 intro value slice pins s σ H x y v u Q I rx ry h hs;obtain⟨p,xs,i,z,rfl,rfl,hq,he,q⟩:=h;cases rx;obtain⟨t,rfl⟩:=ry;obtain⟨its,r,pl,hz⟩:=I.tuple hq;obtain⟨j,h1,h2,h3,h4,h5⟩:=aJ6 he;obtain⟨w,ew,rw'⟩:=r.get h2;have hl:=r.length;have hn:=an8;have fin:EP X pins σ Q w s:=⟨z,H,I,rw',q⟩
 exact subscriptTail_builtinR (x:=w) pl.typeIs slot_tuple_getitem.lookup
  (getItem_tuple (j:=j) (Q:=λr s'=>r=w/\EP X pins σ Q r s') pl (by omega) (by omega) (by rw[ai,← hl];exact h1) (by simpa using ew) ⟨rfl,fin⟩) hs
def cw3:IxR X cD5:=by
 intro value slice pins s σ H x y v u Q I rx ry h hs;obtain⟨z,i,c,rfl,rfl,hz,he,q⟩:=h;obtain⟨t,rfl⟩:=rx;obtain⟨t',rfl⟩:=ry;obtain⟨j,h1,h2,h3,h4,h5⟩:=aJ6 he;have hl:z.cps.toList.length=z.length:=by simp[Str.length]
 rw[hl]at h1 h4 h5;have hn:=an8
 exact tail_any (typeIs_str s z t) slot_str_getitem.lookup (getItem_str (c:=c) (by
  have e1:decide (i < -(2 ^ 63:Int))=false:=decide_eq_false (by omega);have e2:decide (i ≥ 2 ^ 63)=false:=decide_eq_false (by omega)
  rw[e1,e2,Bool.or_false]) (by rw[h1];simpa using h2) ⟨.str ⟨#[c]⟩,H,I.tok _,⟨_,rfl⟩,q⟩) hs
noncomputable def rIx(K:aa):R2:=λx y H Q=>cD6 K x y H Q\/cD4 K x y H Q\/cD5 x y H Q
def aX1:IxR X (rIx X.K):=bZ1.or<|cw2.or cw3
def aV8(its:List eP)(n j:Nat)(u:eP):Obj.mapSeq (·.setIfInBounds j u) { cls:=.type "list", data:=.seq its.toArray n }={ cls:=.type "list", data:=.seq (its.set j u).toArray n }:=by simp[Obj.mapSeq]
theorem Inv.lst{pins:List (eR×Obj)}{σ:St}{H:Hp}{s:eQ}{p:eR}{xs:List V}(I:Inv X pins σ H s)(h:H p=Ob (.lst xs)):
  ∃(its:List eP) (n:Nat),D7 xs its/\s.heap.get? p=Ob { cls:=.type "list", data:=.seq its.toArray n }/\xs.length<=dJ:=by
 obtain⟨z,its,n,r,e⟩:=I.hok p _ h;exact⟨its,n,r,e,z⟩
def Inv.lstUpd{pins:List (eR×Obj)}{σ:St}{H:Hp}{s:eQ}{p:eR}{xs ys:List V}{its its':List eP}{n n':Nat}{f:Obj->Obj}(I:Inv X pins σ H s)(h:H p=Ob (.lst xs))
  (ho:s.heap.get? p=Ob { cls:=.type "list", data:=.seq its.toArray n }) (hf:f { cls:=.type "list", data:=.seq its.toArray n }={ cls:=.type "list", data:=.seq its'.toArray n' }) (r:D7 ys its') (hz:ys.length<=dJ) (t:Nat) :
  Inv X pins σ (upd H p<|.lst ys) { s with heap:=s.heap.update p f,toks:=t }:=by
 have e:(s.heap.update p f).get? p=Ob { cls:=.type "list", data:=.seq its'.toArray n' }:=by rw[Heap.get?_update_self f ho (by rw[hf]<;>rfl),hf]
 refine I.write (x:=p) (e:=p) (by rw[h];trivial) (.inl rfl) (λb u hb q=>(Heap.get?_update_other _ _<|Ne.symm hb).trans q) ⟨_,e⟩ ?_;exact⟨hz,its',n',r,e⟩
noncomputable def cD2:V->V->V->Hp->(Hp->Prop)->Prop:=λo i v H Q=>∃p xs k j,o=.ref p/\i=.int k/\H p=Ob (.lst xs)/\ixN xs.length k=Ob j/\Q (upd H p<|.lst (xs.set j v))
def bw6:cL9 X cD2:=by
 intro pins s σ H o i v ov iv u Q I ro ri rv h;obtain⟨p,xs,k,j,rfl,rfl,hp,hj,q⟩:=h;cases ro;obtain⟨t,rfl⟩:=ri;obtain⟨its,n,r,ho,hz⟩:=I.lst hp;obtain⟨h1,h2,h3,h4⟩:=bh5 hj;have hl:=r.length;have hn:=an8
 have I':Inv X pins σ (upd H p<|.lst (xs.set j v)) { s with heap:=s.heap.update p (Obj.mapSeq (·.setIfInBounds j u)) } :=
  I.lstUpd hp ho (aV8 its n j u) (r.set rv j) (by rw[bY];exact hz) s.toks
 by_cases h0:0<=k
 .have hk:k.toNat=j:=by
   rw[seqIndex_of h0 h4]at h1;exact bc.inj h1
  exact PySem.W.ki_setAt ho h0 (by omega) (by rw[ai,← hl];exact h4) (by rw[hk];exact⟨_,I',q⟩)
 .have hk:(k+(its.toArray.size:Int)).toNat=j:=by
   rw[seqIndex_neg (by omega) h3]at h1;rw[ai,← hl];exact bc.inj h1
  exact PySem.W.ki_setBack ho (by omega) (by rw[ai,← hl];exact h3) (by omega) (by rw[hk];exact⟨_,I',q⟩)
def aj1(lo hi:Option Int)(n:Nat):(sliceBounds lo hi Oa n).1=((HT.sIx n 0 lo:Nat):Int)/\(sliceBounds lo hi Oa n).2.1=((HT.sIx n n hi:Nat):Int)/\(sliceBounds lo hi Oa n).2.2=1:=by
 refine⟨?_,?_,rfl⟩
 .cases lo with
  | none=>simp[sliceBounds,HT.sIx]
  | some i =>
   simp only[sliceBounds,HT.sIx,Option.getD_none,show(1:Int) > 0 by decide,if_true];by_cases h:i < 0
   .simp only[h,if_true]<;>omega
   .simp only[h,if_false]<;>omega
 .cases hi with
  | none=>simp[sliceBounds,HT.sIx]
  | some i =>
   simp only[sliceBounds,HT.sIx,Option.getD_none,show(1:Int) > 0 by decide,if_true];by_cases h:i < 0
   .simp only[h,if_true]<;>omega
   .simp only[h,if_false]<;>omega
def az3(its:List eP)(lo hi:Option Int):slicePick its.toArray lo hi Oa=((its.drop<|HT.sIx its.length 0 lo).take<|HT.sIx its.length its.length hi - HT.sIx its.length 0 lo).toArray:=by
 obtain⟨h1,h2,h3⟩:=aj1 lo hi its.toArray.size;unfold slicePick;rw[h1,h2,h3];simp only[sliceRange_one,pick_run,ai]<;>rfl
noncomputable def cO5(K:aa):V->Option Int->Option Int->Hp->VK->Prop:=λx lo hi H Q=>∃a xs,x=.ref a/\SqL K H a xs/\∀p,H p=Oa->Q (.ref p) (upd H p<|.lst (aP9 xs lo hi))
def bd7:SlR X (cO5 X.K):=by
 intro pins s σ H x v vl vu lo hi sl Q I rx hs pl pu h;obtain⟨a,xs,rfl,hx,q⟩:=h;cases rx;obtain⟨its,r,ht,hz⟩:=I.list hx;have hlen:=r.length;refine⟨"list", _,slot_list_getitem.lookup,ht.isList.typeIs,?_⟩;refine wpAny_getItem_list_slice ht.isList hs pl pu .none (by simp) ?_ (by rw[ai]<;>omega);rw[az3,← hlen];refine⟨.ref s.heap.objs.size,_,I.laid (t':=s.toks) (o:=.lst<|aP9 xs lo hi) (λb ob q=>eA _ q) (ah _) ?_,rfl,q _<|I.hok.fresh (ah _)⟩;exact⟨aL (ar3 xs lo hi) hz,_,0,(r.drop<|HT.sIx xs.length 0 lo).take<|HT.sIx xs.length xs.length hi - HT.sIx xs.length 0 lo,eD _ rfl⟩
noncomputable def ag4:V->Bool
 | .non=>true
 | .bl _=>true
 | .int _=>true
 | .str _=>true
 | _=>false
noncomputable def eqV:V->V->Bool
 | .non,.non=>true
 | .bl a,.bl b=>a==b
 | .bl a,.int b=>(if a then 1 else 0)==b
 | .int a,.bl b=>a==(if b then 1 else 0)
 | .int a,.int b=>a==b
 | .str a,.str b=>a==b
 | _,_=>false
def cx4(ry:L0 y u)(rx:L0 x v)(fy:ag4 y=true)(fx:ag4 x=true):SeqAt.EqAt A s u v (eqV y x):=by
 cases y with
 | non =>
  cases ry;cases x with
  | non=>cases rx;exact SeqAt.EqAt.same _
  | bl b=>cases rx;exact SeqAt.EqAt.none_bool b
  | int b=>obtain⟨t,rfl⟩:=rx;exact SeqAt.EqAt.none_int b t
  | str b=>obtain⟨t,rfl⟩:=rx;exact SeqAt.EqAt.none_str b t
  | _=>exact absurd (show false=true from fx) aB
 | bl a =>
  cases ry;cases x with
  | non=>cases rx;exact SeqAt.EqAt.bool_none a
  | bl b=>cases rx;exact SeqAt.EqAt.bool_bool a b
  | int b=>obtain⟨t,rfl⟩:=rx;exact SeqAt.EqAt.bool_int a b t
  | str b=>obtain⟨t,rfl⟩:=rx;exact SeqAt.EqAt.bool_str a b t
  | _=>exact absurd (show false=true from fx) aB
 | int a =>
  obtain⟨t',rfl⟩:=ry;cases x with
  | non=>cases rx;exact SeqAt.EqAt.int_none a t'
  | bl b=>cases rx;exact SeqAt.EqAt.int_bool a t' b
  | int b=>obtain⟨t,rfl⟩:=rx;exact SeqAt.EqAt.int_int a t' b t
  | str b=>obtain⟨t,rfl⟩:=rx;exact SeqAt.EqAt.int_str a t' b t
  | _=>exact absurd (show false=true from fx) aB
 | str a =>
  obtain⟨t',rfl⟩:=ry;cases x with
  | non=>cases rx;exact SeqAt.EqAt.str_none a t'
  | bl b=>cases rx;exact SeqAt.EqAt.str_bool a t' b
  | int b=>obtain⟨t,rfl⟩:=rx;exact SeqAt.EqAt.str_int a t' b t
  | str b=>obtain⟨t,rfl⟩:=rx;exact SeqAt.EqAt.str_str a t' b t
  | _=>exact absurd (show false=true from fx) aB
 | _=>exact absurd (show false=true from fy) aB
noncomputable def eqU(x:V)(u:eP):Bool:=match u with
 | .none=>eqV .non x
 | .bool b=>eqV (.bl b) x
 | .int i _=>eqV (.int i) x
 | .str z _=>eqV (.str z) x
 | _=>false
def bJ1(r:L0 y u)(f:ag4 y=true):eqU x u=eqV y x:=by
 cases y with
 | non=>cases r;rfl
 | bl b=>cases r;rfl
 | int i=>obtain⟨t,rfl⟩:=r;rfl
 | str z=>obtain⟨t,rfl⟩:=r;rfl
 | _=>exact absurd (show false=true from f) aB
theorem am1:∀{xs:List V}{us:List eP},D7 xs us->xs.all ag4=true->us.any (eqU x)=xs.any λy=>eqV y x
 | _,_,.nil,_=>rfl
 | y::xs,u::us,.cons r t,f=>by
  rw[aV,ae]at f;rw[cq,cq,bJ1 r f.1,am1 t f.2]
theorem ac9(rx:L0 x v)(fx:ag4 x=true):∀{xs:List V}{us:List eP},D7 xs us->xs.all ag4=true->∀u∈us,SeqAt.EqAt A s u v (eqU x u)
 | _,_,.nil,_=>λu hu=>by cases hu
 | y::xs,u::us,.cons r t,f=>λu' hu=>by
  rw[aV,ae]at f;rcases au.mp hu with rfl|hu
  .rw[bJ1 r f.1];exact cx4 r rx f.1 fx
  .exact ac9 rx fx t f.2 u' hu
noncomputable def inV(x:V)(xs:List V):Bool:=xs.any λy=>eqV y x
noncomputable def rIn(K:aa)(neg:Bool):R2:=λx y H Q=>∃p xs,y=.ref p/\(SqL K H p xs\/SqT K H p xs)/\ag4 x=true/\xs.all ag4=true/\Q (.bl (if neg then !inV x xs else inV x xs)) H
def bl8:OpR X (dM .In) (rIn X.K false):=by
 intro pins s σ H x y v u Q I rx ry h;obtain⟨p,xs,rfl,hq,fx,fs,q⟩:=h;cases ry;rcases hq with hq|hq
 .obtain⟨its,r,pl,hz⟩:=I.list hq;refine SeqAt.in_listAt (eqU x) pl.isList (λw hw=>ac9 rx fx r fs w<|by simpa using hw) ⟨.bl _,H,I,rfl,?_⟩;rw[show its.toArray.any (eqU x)=its.any (eqU x) by simp,am1 r fs];exact q
 .obtain⟨its,r,pl,hz⟩:=I.tuple hq;refine SeqAt.in_tupleAt (eqU x) pl (λw hw=>ac9 rx fx r fs w<|by simpa using hw) ⟨.bl _,H,I,rfl,?_⟩;rw[show its.toArray.any (eqU x)=its.any (eqU x) by simp,am1 r fs];exact q
def aH1:OpR X (dM .NotIn) (rIn X.K true):=by
 intro pins s σ H x y v u Q I rx ry h;obtain⟨p,xs,rfl,hq,fx,fs,q⟩:=h;cases ry;rcases hq with hq|hq
 .obtain⟨its,r,pl,hz⟩:=I.list hq;refine SeqAt.notIn_listAt (eqU x) pl.isList (λw hw=>ac9 rx fx r fs w<|by simpa using hw) ⟨.bl _,H,I,rfl,?_⟩;rw[show its.toArray.any (eqU x)=its.any (eqU x) by simp,am1 r fs];exact q
 .obtain⟨its,r,pl,hz⟩:=I.tuple hq;refine SeqAt.notIn_tupleAt (eqU x) pl (λw hw=>ac9 rx fx r fs w<|by simpa using hw) ⟨.bl _,H,I,rfl,?_⟩;rw[show its.toArray.any (eqU x)=its.any (eqU x) by simp,am1 r fs];exact q
def aJ3:ag9 X (.builtin "len") (λxs H Q=>∃p ys,xs=[.ref p]/\(SqL X.K H p ys\/SqT X.K H p ys)/\Q (.int ys.length) H):=by
 intro pins s σ H xs us Q I r h;obtain⟨p,ys,rfl,hq,q⟩:=h;obtain⟨u,rfl,rx⟩:=aK5 r;cases rx;have hn:=an8;rcases hq with hq|hq
 .obtain⟨its,r',pl,hz⟩:=I.list hq;have hlen:=r'.length;exact Calls.call_len_list pl.isList (by simp only[ai]<;>omega) ⟨.int ys.length,H,I.tok _,⟨s.toks+1,by rw[ai,hlen]⟩,q⟩
 .obtain⟨its,r',pl,hz⟩:=I.tuple hq;have hlen:=r'.length;exact len_tuple pl (by simp only[ai]<;>omega) ⟨.int ys.length,H,I.tok _,⟨s.toks+1,by rw[ai,hlen]⟩,q⟩
def am0:ag9 X (.type "list") (λxs H Q=>∃p ys,xs=[.ref p]/\(SqL X.K H p ys\/SqT X.K H p ys)/\∀l,H l=Oa->Q (.ref l) (upd H l<|.lst ys)):=by
 intro pins s σ H xs us Q I r h;obtain⟨p,ys,rfl,hq,q⟩:=h;obtain⟨u,rfl,rx⟩:=aK5 r;cases rx
 have fin:∀(its:List eP),D7 ys its->ys.length<=dJ->∀(h':Heap) (c':Nat),(∀b o',s.heap.get? b=Ob o'->h'.get? b=Ob o') ->
   h'.get? s.heap.objs.size=Ob { cls:=.type "list", dict:=Oa,data:=.seq its.toArray c',slots:=#[] }->EP X pins σ Q (.ref s.heap.objs.size) { s with heap:=h' }:=λits r' hz h' c' kp e =>
  ⟨.ref s.heap.objs.size,_,I.laid (t':=s.toks) kp (ah _) (show V0 X.prog X.w _ h' _ (.lst ys) from⟨hz,its,c',r',e⟩),rfl,q _<|I.hok.fresh (ah _)⟩
 rcases hq with hq|hq
 .obtain⟨its,r',pl,hz⟩:=I.list hq;have hlen:=r'.length;obtain⟨o,ho,hc,n,hd⟩:=pl.isList;exact call_list_seq p (.inl rfl) ho hc hd (λh' c' kp e=>fin its r' hz h' c' kp e) (by simp only[ai]<;>omega)
 .obtain⟨its,r',pl,hz⟩:=I.tuple hq;have hlen:=r'.length;obtain⟨o,ho,hc,n,hd⟩:=pl;exact call_list_seq p (.inr rfl) ho hc hd (λh' c' kp e=>fin its r' hz h' c' kp e) (by simp only[ai]<;>omega)
def aA5:ag9 X (.type "tuple") (λxs H Q=>∃p ys,xs=[.ref p]/\((SqL X.K H p ys/\∀l,H l=Oa->Q (.ref l) (upd H l<|.tup ys))\/(SqT X.K H p ys/\Q (.ref p) H))):=by
 intro pins s σ H xs us Q I r h;obtain⟨p,ys,rfl,h⟩:=h;obtain⟨u,rfl,rx⟩:=aK5 r;cases rx;rcases h with⟨hq,q⟩|⟨hq,q⟩
 .obtain⟨its,r',pl,hz⟩:=I.list hq;have hlen:=r'.length;refine call_tuple_list pl.isList (λh' kp=>?_) (by simp only[ai]<;>omega);have I1:Inv X pins σ H { s with heap:=h' }:=I.kept (t':=s.toks) kp
  have I2:Inv X pins σ (upd H h'.objs.size<|.tup ys) { s with heap:=h'.push { cls:=.type "tuple", data:=.seq its.toArray } } :=
   I1.laid (t':=s.toks) (λb o e=>eA _ e) (ah _) (show V0 X.prog X.w _ _ _ (.tup ys) from⟨hz,its,r',ay0.new _ _⟩)
  exact⟨.ref h'.objs.size,_,I2,rfl,q _<|I1.hok.fresh (ah _)⟩
 .obtain⟨its,r',pl,hz⟩:=I.tuple hq;exact call_tuple_same pl ⟨.ref p,H,I,rfl,q⟩
noncomputable def tyV(K:aa)(T:String)(x:V)(H:Hp):Prop:=match x with
 | .str _=>T = "str"
 | .int _=>T = "int"
 | .ref p=>(T = "list" /\ ∃xs,SqL K H p xs)\/(T = "tuple" /\ ∃o,K.lookup p=Ob o/\o.cls=.type "tuple" /\ o.dict=Oa) \/
   (T = "dict" /\ ((∃kvs,H p=Ob (.dK kvs))\/∃kvs,H p=Ob (.dT kvs)))\/(T = "set" /\ ∃S n,H p=Ob (.set S n))
 | _=>False
def cj3(I:Inv X pins σ H s)(r:L0 x v)(ty:tyV X.K T x H):
  s.TypeIs v T/\∀a,v=.ref a->∃ob,s.heap.get? a=Ob ob/\ob.dict=Oa:=by
 cases x with
 | str z =>
  obtain⟨t,rfl⟩:=r;cases(show T = "str" from ty);exact⟨typeIs_str s z t,λ_ e=>nomatch e⟩
 | int i =>
  obtain⟨t,rfl⟩:=r;cases(show T = "int" from ty);exact⟨typeIs_int s i t,λ_ e=>nomatch e⟩
 | ref p =>
  cases r;rcases ty with⟨rfl,xs,hq⟩|⟨rfl,o,hk,hc,hd⟩|⟨rfl,hk⟩|⟨rfl,S,n,hk⟩
  .obtain⟨its,_,pl,_⟩:=I.list hq;refine⟨pl.isList.typeIs,λa e=>?_⟩;cases e;obtain⟨o,n,e,c,hd,_⟩:=pl;exact⟨o,e,hd⟩
  .refine⟨⟨o,I.kIn p o hk,hc⟩,λa e=>?_⟩;cases e;exact⟨o,I.kIn _ o hk,hd⟩
  .have z:∃o,s.heap.get? p=Ob o/\o.ExactDict:=by
    rcases hk with⟨kvs,hk⟩|⟨kvs,hk⟩
    .obtain⟨_,_,_,_,o,_,_,e,ex,_⟩:=I.hok p _ hk;exact⟨o,e,ex⟩
    .obtain⟨_,_,_,_,o,_,_,e,ex,_⟩:=I.hok p _ hk;exact⟨o,e,ex⟩
   obtain⟨o,e,ex⟩:=z;refine⟨⟨o,e,ex.1⟩,λa e2=>?_⟩;cases e2;exact⟨o,e,ex.2.1⟩
  .obtain⟨o,_,_,_,e,ex,_⟩:=I.hok p _ hk;refine⟨⟨o,e,ex.1⟩,λa e2=>?_⟩;cases e2;exact⟨o,e,ex.2.1⟩
 | _=>exact False.elim ty
noncomputable def tBM(K:aa)(T:String)(r:V->List V->Hp->VK->Prop)(to:TE)(t:TA):TE:=λσ H Q=>to σ H λx H1=>tyV K T x H1/\t σ H1 λxs H2=>r x xs H2 Q
variable {o e:Expr}{es:List Expr}{to:TE}{t:TA}{name:Str}{apos cpos:Pos}{T id:String}{r:V->List V->Hp->VK->Prop}
def bf1(pa:PlainAttrs T)(slot:Slot T name id)(hty:typeOf (.builtin id)=pure (.type "method_descriptor"))(hm:MtR X id r)(ho:PE X o to)(ha:PA X (e::es) t)
  (hbase:dZ o name X.env (eval o X.env)=eval o X.env:=by rfl)
  (hfew:((backTo cpos (dI (e::es) X.env)).all (λx=>!x.1)&&(backToKw cpos (keywordEach [] X.env)).all (λx=>x.1.isSome)
   && decide ((e::es).length+([]:List dU).length+(if([]:List dU).isEmpty then 0 else 1) < 30))=true:=by rfl)
  (hline:(apos.endLine==cpos.line)=true:=by rfl) (hs:dI (e::es) X.env=(false,eval e X.env)::dI es X.env:=by rfl) (hplain:(backTo cpos<|dI es X.env).any (·.1)=false:=by rfl) :
  PE X (.Call (.Attribute o name apos) (e::es) [] cpos) (tBM X.K T r to t):=by
 intro pins s σ H Q I h;refine wpAny_Call_method_late hbase hfew hline rfl (thn (ho pins s σ H _ I h) λv s1 ⟨x,H1,I1,r1,ty,q1⟩=>?_);obtain⟨h1,h2⟩:=cj3 I1 r1 ty;refine⟨T,id,pa,slot,hty,h1,h2,?_⟩;have hA:=ha cpos pins s1 σ H1 _ I1 q1;rw[hs]at hA ⊢;refine Calls.callWith_builtin (by show(false || (backTo cpos<|dI es X.env).any (·.1))=false;rw[hplain]<;>rfl) (Calls.evalArgs_plain ?_);exact thn hA λus s2 ⟨vs,H2,I2,r2,q2⟩=>hm pins s2 σ H2 x vs v us Q I2 r1 r2 q2
end
noncomputable def MtM(X:Cx)(id:String)(r:V->List V->Hp->VK->Prop):Prop :=
 ∀(pins:List (eR×Obj)) (s:eQ) (σ:St) (H:Hp) (x:V) (xs:List V) (v:eP) (us:List eP) (Q:VK),Inv X pins σ H s->L0 x v->D7 xs us->r x xs H Q ->
  eh (ez X.prog X.w) X.A (call (.builtin id) (v::us)) (EP X pins σ Q) X.xe s
def D7.one:∀{x:V}{us:List eP},D7 [x] us->∃u,us=[u]/\L0 x u
 | _,_,.cons r .nil=>⟨_,rfl,r⟩
theorem D7.rep(h:D7 xs us):∀k:Nat,D7 (aj k xs).flatten (aj k us).flatten
 | 0=>.nil
 | k+1=>by
  rw[bB,bB,bR,bR];exact D7.append h<|D7.rep h k
theorem aC9(its:List eP):∀(k:Nat) (acc:List eP),
  cQ (λx1 x2=>x1++x2) acc.toArray (aj k its.toArray)=(acc++(aj k its).flatten).toArray
 | 0,acc=>by simp
 | k+1,acc=>by
  have e:acc.toArray++its.toArray=(acc++its).toArray:=by simp
  have e2:(acc++its)++(aj k its).flatten=acc++(aj (k+1) its).flatten:=by rw[bB,bR,aF]
  rw[← e2,← aC9 its k (acc++its),← e,bB,List.foldl_cons]
section
variable {X:Cx}{pins:List (Addr×Obj)}{σ:St}{H:Hp}{s:Shared}{l b:Addr}{xs ys zs:List V}
def Inv.lset{its its':List eP}{n:Nat}{f:Array eP->Array eP}{t':Nat}(I:Inv X pins σ H s)(hH:H l=Ob (.lst xs))
  (e:s.heap.get? l=Ob { cls:=.type "list", data:=.seq its.toArray n }) (hf:f its.toArray=its'.toArray) (hv:D7 ys its') (hz:ys.length<=dJ) :
  Inv X pins σ (upd H l<|.lst ys) { s with heap:=s.heap.update l (Obj.mapSeq f),toks:=t' }:=by
 have q:=PySem.IsL.update e f;rw[hf]at q;refine I.write (x:=l) (e:=l) (by rw[hH];exact trivial) (.inl rfl) (λb' u hb hu=>(Heap.get?_update_other s.heap (Obj.mapSeq f)<|Ne.symm hb).trans hu) ⟨_,q⟩ ?_;exact⟨hz,its',_,hv,q⟩
def Inv.lnew(I:Inv X pins σ H s)(hv:D7 ys its)(hz:ys.length<=dJ):
  Inv X pins σ (upd H s.heap.objs.size<|.lst ys) { s with heap:=s.heap.push { cls:=.type "list", data:=.seq its.toArray },toks:=t' } :=
 I.laid (λ_ _ q=>eA _ q) (ah _) ⟨hz,its,0,hv,eD _ rfl⟩
theorem Inv.fresh(I:Inv X pins σ H s):H s.heap.objs.size=Oa:=I.hok.fresh<|ah _
def Inv.lstM(I:Inv X pins σ H s)(hH:H l=Ob (.lst xs)):xs.length<=dJ/\∃(its:List eP) (n:Nat),D7 xs its/\xs.length=its.length/\s.heap.get? l=Ob { cls:=.type "list", data:=.seq its.toArray n }:=by
 obtain⟨z,its,n,r,e⟩:=I.hok l _ hH;exact⟨z,its,n,r,r.length,e⟩
def ac8(h:n<=dJ):Builtin.List.listTooLong n=false:=by
 unfold Builtin.List.listTooLong;exact decide_eq_false (by omega)
end
section
variable {X:Cx}
noncomputable def bS1:V->List V->Hp->VK->Prop:=λx vs H Q=>∃l xs y,x=.ref l/\vs=[y]/\H l=Ob (.lst xs)/\xs.length < dJ/\Q .non (upd H l<|.lst (xs++[y]))
def aC2:MtM X "list.append" bS1:=by
 intro pins s σ H x vs v us Q I rx rv h;obtain⟨l,xs,y,rfl,rfl,hH,hz,q⟩:=h;cases rx;obtain⟨u,rfl,ru⟩:=rv.one;obtain⟨z,its,n,r,hl,e⟩:=I.lstM hH;refine dY F.slot_list_append ⟨_,e,rfl⟩ F.entry_list_append (F.args_list_append_2 _ _) (PySem.list_append l its.toArray n u (by rw[ai];omega)) ⟨e,?_⟩;refine⟨.non,_,I.lset (its':=its++[u]) hH e (by simp) (r.append<|.cons ru .nil) ?_,rfl,q⟩;rw[az,List.length_singleton];omega
def aH9{α:Type}(xs:List α)(k:Nat):(aj k xs).flatten.length=k*xs.length:=by
 induction k with
 | zero=>simp
 | succ k ih=>rw[bB,bR,az,ih,Nat.succ_mul,dh]
end
section
variable {prog:Program}{w:World}{A:Around}{E:Value->Shared->Prop}{s:Shared}
def bl0(its its2:List eP)(a c:Nat):its.toArray.extract 0 a++its2.toArray++its.toArray.extract c its.toArray.size=(its.take a++its2++its.drop c).toArray:=by
  apply Array.toList_inj.mp
  first
    | (simp
       exact bC (by simp))
    | simp[bC]
    | simp
set_option maxRecDepth 100000 in
end
end L2
namespace Att
open PySem PySem.W PySem.Calls PyProof.Rows
def as4:∀(ns:List Int) (vs:List eP),WellAll P h vs (ns.map WData.int)->IntsAre vs ns:=by
 intro ns
 induction ns with
 | nil =>
  intro vs w;rw[List.map_nil]at w;cases w;exact .nil
 | cons n ns ih =>
  intro vs w;rw[cI]at w;cases w with
  | cons a b =>
   cases a;exact .cons _ _<|ih _ b
def bl3{l:OpenLaw}{n:Nat}(hn:l.most=Ob n){P:Params}{h:Heap}{args:List WData}{vals:List eP}
  (hpre:l.row.toRowW.claim.pre args=true) (hwl:WellAll P h vals args) :
  ∃a vs ns,vals=[eK a]/\args=[WData.list (ns.map WData.int)]/\h.get? a=Ob { cls:=.type "list", data:=.seq vs.toArray }/\IntsAre vs ns/\ns.length<=n:=by
 have hsh:WShape.hasAll [] args [.list .int]=true:=(pre_splitW hpre).1;have hc:l.pre.holds [] { args:=args }=true:=(pre_splitW hpre).2;obtain⟨d,r,rfl,h1,h2⟩:=hasAllW_cons hsh;obtain rfl:=hasAllW_nil h2;obtain⟨xs,rfl,h3⟩:=hasW_list h1;obtain⟨ns,rfl⟩:=items_int h3
 have hlen:ns.length<=n:=by
  unfold OpenLaw.pre at hc
  have h4:(WTm.not<|.lt (.lit<|.int (n:Int)) (.len<|.arg 0)).holds [] { args:=[.list (ns.map .int)] }=true:=by
   have h4:=(holds_andW hc).1;rw[hn]at h4;exact h4
  have h5:=condW_of h4 (w_not<|w_lt w_lit (w_len_list<|w_arg rfl));rw[ay]at h5;refine Nat.le_of_not_lt λq=>?_
  have q':(n:Int) < ((ns.length:Nat):Int):=by omega
  first
   | (rw[decide_eq_true q']at h5;exact absurd h5<|by decide)
   | (simp at h5;omega)
 cases hwl with
 | cons w1 w2 =>
  cases w2;cases w1 with
  | list ho hall=>exact⟨_,_,ns,rfl,rfl,ho,as4 ns _ hall,hlen⟩
def bl6(l:OpenLaw)(args:List WData):l.row.toRowW.claim.post args (.bool true) args=true :=
 postW_of (r:=l.row.toRowW) (X:=(true==true))
  (show WShape.has [] (.bool true) .bool=true by first|rfl|decide|simp[WShape.has,WShape.arms,WShape.armsAll])
  (show(WTm.eq .res<|.lit (.bool true)).value [] { args:=args,res:=Ob (.bool true),after:=args }=Ob (.bool<|true==true) from w_eq_bool (w_res rfl) w_lit) rfl
def attach_call{l:OpenLaw}{n:Nat}{q:dO}{loose:List Str}{XP:(Str->Option eP)->Heap->Prop}{YP:World->Heap->Prop}{d:DefRec}
  (hn:l.most=Ob n) (hdf:d.params.defaults=[])
  (call:∀(w:World) (s₀ s₁:eQ) (mg mb:Str->Option eP) (fa:eR) (o:Obj) (pm cd doc:eP) (a:eR) (vs:List eP) (ns:List Int),
   Ground q loose [] XP w s₀ mg mb s₁.heap->YP w s₁.heap ->
   s₁.heap.get? fa=Ob o->o.data=.func (docDef d.name d.params d.body d.scope pm cd doc)->s₁.heap.CodeRec cd d.name->mg d.name=Ob (.ref fa) ->
   s₁.heap.get? a=Ob { cls:=.type "list", data:=.seq vs.toArray }->IntsAre vs ns->ns.length<=n->s₁.gens = #[] ->
   codeAny (ez l.prog w) callerA (.call (.ref fa) ⟨[.ref a],[]⟩) (λr s'=>r=.ok (.ret (.bool true))/\OldK s₁.heap s'.heap/\s'.os=s₁.os/\AllBare s'.gens) s₁) :
  WalkO q loose XP YP l.row.toRowW d [] (λf vs=>PySem.call f vs):=by
 intro w s₀ s₁ mg mb G Y fa o pm cd doc dV kV ho hd hcd hD hmg hg args vals as hpre hlay hrd hwl hlo;obtain rfl:dV=.none:=Dflts.none hD hdf;obtain rfl:kV=.none:=Dflts.noKw hD;obtain⟨a,vs,ns,rfl,rfl,hobj,hints,hlen⟩:=bl3 hn hpre hwl;refine enter_call (codeAny_mono (call w s₀ s₁ mg mb fa o pm cd doc a vs ns G Y ho (fd_plain hd) hcd hmg hobj hints hlen hg) λr s' hq=>?_);obtain⟨rfl,h2,h3,h4⟩:=hq;exact⟨.inl ⟨.bool true,.bool true,[],rfl,λ_=>rfl,.bool true,bl6 l _,λ_=>⟨List.Pairwise.nil,λ_ hm=>(nomatch hm)⟩⟩,h2,h3,h4⟩
end Att
namespace L2
open PySem PySem.Spec PyProof.Rows
theorem aB0:∀{vs:List eP}{ns:List Int},IntsAre vs ns->D7 (ns.map V.int) vs
 | _,_,.nil=>.nil
 | _,_,.cons n t h=>.cons ⟨t,rfl⟩<|aB0 h
noncomputable def cz3(H:Hp):Prop:=∀b,H b=Oa\/∃o xs,H b=Ob (.frz o<|.lst xs)
def bC3{P:dO}{w:World}{K:aa}{mg mb:Str->Option eP}{CX:CXT}{k:Nat}{fa a:eR}{fd:dQ}{x:Str}{sp:Sp}{s₁:eQ}{vs:List eP}{ns:List Int}
  (KX:K.In s₁.heap) (hns:s₁.heap.Ns dN mg) (hb:s₁.heap.Ns builtinsNs mb) (hbb:∀x:Str,x ≠ "__name__" -> mb x=dR x) (hlim:s₁.heap.NoLimit) (hg:s₁.gens = #[])
  (ha:s₁.heap.get? a=Ob { cls:=.type "list", data:=.seq vs.toArray }) (hi:IntsAre vs ns) (hl:ns.length<=dJ) (hr:Room k callerA)
  (F:∀base:Heap,K.In base->base.Ns dN mg->FnOk P w K mg base CX k fa fd [x] sp) (hbind:∀(s:eQ) (u:eP),BindsTo s fd ⟨[u],[]⟩ [(x,u)])
  (hsp:∀H:Hp,cz3 H->SqL K H a (ns.map V.int)->sp [.ref a] H (λv _=>v=.bl true) λ_ _ _=>False)
  (hCX:∀H e s',CX [] H s₁ (λ_ _ _=>False) e s'->False) :
  codeAny (ez P w) callerA (.call (.ref fa) ⟨[.ref a],[]⟩) (λr s'=>r=.ok (.ret<|.bool true)/\OldK s₁.heap s'.heap/\s'.os=s₁.os/\AllBare s'.gens) s₁:=by
 have rv:=aB0 hi;have lenV:=hi.length
 have core:∀H:Hp,cz3 H->SqL K H a (ns.map V.int)->HOk P w H s₁.heap->(∀b,H b≠Oa->b=a)->(H a≠Oa->K.lookup a=Oa) ->
   codeAny (ez P w) callerA (.call (.ref fa) ⟨[.ref a],[]⟩) (λr s'=>r=.ok (.ret<|.bool true)/\OldK s₁.heap s'.heap/\s'.os=s₁.os/\AllBare s'.gens) s₁:=by
  intro H hO hS hok hA hK;have base_of:∀{b:eR}{o:Obj},s₁.heap.get? b=Ob o->H b=Oa->(aI5 s₁.heap H).get? b=Ob o:=λe n=>bG2 e n
  have noA:∀{b:eR}{o:Obj}{es:Array DictEntry}{ep:Nat},s₁.heap.get? b=Ob o->o.data=.dict es ep->H b=Oa:=λ{b o es ep} e d=>by
   cases q:H b with
   | none=>rfl
   | some u =>
    have e':b=a:=hA b (by rw[q];simp);subst e';rw[ha]at e;cases e;have d':Data.seq vs.toArray _=Data.dict es ep:=d;cases d'
  have nsK:∀{b:eR}{m:Str->Option eP},s₁.heap.Ns b m->(aI5 s₁.heap H).Ns b m:=λ{b m} ⟨o,es,ep,e,d,r⟩=>⟨o,es,ep,base_of e<|noA e d,d,r⟩
  have hKb:K.In (aI5 s₁.heap H):=λb o e=>base_of (KX b o e) (by
   cases q:H b with
   | none=>rfl
   | some u =>
    have e':b=a:=hA b (by rw[q];simp);subst e'
    rw[hK (by rw[q];simp)]at e;cases e)
  have hM:Mod K mg (aI5 s₁.heap H):=⟨hKb,nsK hns,⟨mb,nsK hb,hbb⟩,let⟨mc,h1,h2⟩:=hlim;⟨mc,nsK h1,h2⟩⟩;have e0:Env0 P w K mg (aI5 s₁.heap H) callerA [] s₁ H:=⟨rfl,hM,λb o e=>bU8 e,Nat.le_of_eq<|bn3 _ _,trivial,λb hb=>absurd (show b∈([]:List eR) from hb) (by simp),hok,.of_eq hg⟩;refine codeAny_mono ((F _ hKb<|nsK hns).run callerA [] s₁ H ⟨[.ref a],[]⟩ [.ref a] [.ref a] _ _ hr e0 (hbind s₁<|.ref a) (.cons rfl .nil)<|hsp H hO hS) λr s' h=>?_
  cases r with
  | error e=>exact(hCX H e s' h).elim
  | ok fl =>
   cases fl with
   | next=>exact False.elim h
   | brk=>exact False.elim h
   | cont=>exact False.elim h
   | ret u =>
    obtain⟨v,H',os,bare,un,hok',r',q⟩:=h;have q':v=.bl true:=q;subst q';obtain rfl:u=Value.bool true:=r';refine⟨rfl,OldK.of_keep λb o e=>?_,os,bare⟩;cases q:H b with
    | none=>exact un.keep b o e q (by intro z;exact absurd (show b∈([]:List eR) from z)<|by simp) (by simp)
    | some u =>
     rcases hO b with z|⟨ob,xs,z⟩
     .rw[q]at z;cases z
     .have z2:=un.frzs b ob _ z;obtain⟨e1,_⟩:=hok b _ z;obtain⟨e2,_⟩:=hok' b _ z2;rw[e]at e1;cases e1;exact e2
 cases hk:K.lookup a with
 | some o =>
  have e:=KX a o hk;rw[ha]at e;cases e;refine core (λ_=>Oa) (λ_=>.inl rfl) (.inr ⟨_,vs.toArray,_,hk,rfl,rfl,rfl,by rw[ai,lenV];exact hl,by simpa using rv⟩) (λb u z=>by have z':(Oa:Option HO)=Ob u:=z;cases z') (λb z=>absurd rfl z) λz=>absurd rfl z
 | none =>
  refine core (λb=>if b=a then Ob (.frz { cls:=.type "list", data:=.seq vs.toArray } (.lst<|ns.map V.int)) else Oa) (λb=>?_) (.inl<|.inr ⟨{ cls:=.type "list", data:=.seq vs.toArray },if_pos rfl⟩) (λb u z=>?_) (λb z=>?_) λ_=>hk
  .by_cases hb:b=a
   .exact .inr ⟨_,_,if_pos hb⟩
   .exact .inl (if_neg hb)
  .by_cases hb:b=a
   .have z':=(if_pos hb).symm.trans z;cases z';subst hb;exact⟨ha,by rw[ay];exact hl,vs,_,rv,ha⟩
   .have z':=(if_neg hb).symm.trans z;cases z'
  .by_cases hb:b=a
   .exact hb
   .exact absurd (if_neg hb) z
def bO6{l:PySem.W.OpenLaw}{n k:Nat}{q:dO}{loose:List Str}{XP:(Str->Option eP)->Heap->Prop}{YP:World->Heap->Prop}{d:DefRec}{K:Params->aa}{CX:World->CXT}{sp:World->Sp}{x:Str}
  (hn:l.most=Ob n) (hn2:n<=dJ) (hdf:d.params.defaults=[]) (hr:Room k callerA)
  (hY:∀(w:World) (h:Heap),YP w h->(K w.params).In h)
  (F:∀(w:World) (mg:Str->Option eP) (fa:eR) (h:Heap),(K w.params).In h->h.Ns dN mg->mg d.name=Ob (.ref fa) ->
   ∃fd:dQ,(∀(s:eQ) (u:eP),BindsTo s fd ⟨[u],[]⟩ [(x,u)]) /\
    ∀base:Heap,(K w.params).In base->base.Ns dN mg->FnOk l.prog w (K w.params) mg base (CX w) k fa fd [x] (sp w))
  (hsp:∀(w:World) (H:Hp) (a:eR) (ns:List Int),ns.length<=n->cz3 H->SqL (K w.params) H a (ns.map V.int)->sp w [.ref a] H (λv _=>v=.bl true) λ_ _ _=>False)
  (hCX:∀(w:World) (H:Hp) (s:eQ) (e:eP) (s':eQ),CX w [] H s (λ_ _ _=>False) e s'->False) :
  PySem.W.WalkO q loose XP YP l.row.toRowW d [] (λf vs=>PySem.call f vs):=by
 refine Att.attach_call hn hdf λw s₀ s₁ mg mb fa o pm cd doc a vs ns G Y ho hd hcd hmg hobj hints hlen hg=>?_
 have KX:=hY w _ Y;obtain⟨fd,hb,hF⟩:=F w mg fa _ KX G.T.g hmg;exact bC3 KX G.T.g G.T.b G.T.builtins G.T.nolimit hg hobj hints (aL hlen hn2) hr hF hb (λH hO hS=>hsp w H a ns hlen hO hS) λH e s'=>hCX w H s₁ e s'
noncomputable def V3(s:Stmt):Arguments:=match s with
 | .FunctionDef _ a _ _ _ _ _ _ _ _=>a
 | _=>{ posonlyargs:=[],args:=[],vararg:=Oa,kwonlyargs:=[],kw_defaults:=[],kwarg:=Oa,defaults:=[] }
noncomputable def G0(s:Stmt):List Stmt:=match s with
 | .FunctionDef _ _ b _ _ _ _ _ _ _=>b
 | _=>[]
noncomputable def B9(s:Stmt):Scope:=match s with
 | .FunctionDef _ _ _ _ _ _ sc _ _ _=>sc
 | _=>{ kind:=.function,names:=[],isGenerator:=false,isCoroutine:=false }
noncomputable abbrev CX0:CXT:=λ_ _ _ _ _ _=>False
noncomputable abbrev E0:XK:=λ_ _ _=>False
def aw2:ad7 CX0 X E0:=λ_ _ _ _ _ _ _ h=>h.elim
structure Fun (K:aa) (x qual:Str) (st:Stmt) (f:eR) (fd:dQ):Prop where
 ex:∃(oc:eP) (od:Option eR) (kV doc pm:eP) (an:Option eR) (cdv ct:eP) (osl:Array (Option eP)),
  fd=bp x qual (V3 st) (G0 st) (B9 st) .none kV doc pm an cdv ct/\K.lookup f=Ob ⟨oc,od,.func fd,osl⟩/\bT K cdv qual=true
 kp:aG K (.ref f)=true
section
variable {P:Program}{w:World}{K:PySem.W.Frag}{mg:Str->Option Value}{base:Heap}
def Fun.ok{x qual:Str}{st:Stmt}{f:eR}{fd:dQ}{N ps:List Str}{k:Nat}{sp:Sp}(F:Fun K x qual st f fd)(S:FnScope N ps (B9 st))(len:∀vs H Q E,sp vs H Q E->vs.length=ps.length)
  (hbody:∀(cdv:eP) (A:dP) (outer:List Env) (s:eQ) (H:Hp) (vs:List V) (Q:VK) (E:XK),Room k (A.deeper (envOfC qual (B9 st) s.heap.objs.size f cdv))->sp vs H Q E ->
   ∃t,PSs (as7 CX0 P w K mg base N qual (B9 st) f cdv A outer s H E).nox (G0 st) t/\t { nx:=λ_ H'=>Q .non H',rt:=Q } (start N vs) H):FnOk P w K mg base CX0 (k+1) f fd ps sp:=by
 obtain⟨oc,od,kV,doc,pm,an,cdv,ct,osl,rfl,lk,hcd⟩:=F.ex;refine ax0 lk hcd S len λA outer s H vs Q E hr hsp=>?_
 obtain⟨t,h,q⟩:=hbody cdv A outer s H vs Q E hr hsp;exact⟨t,h.nox,q⟩
def aI6{x qual:Str}{st:Stmt}{f:eR}{oc:eP}{od an:Option eR}{osl:Array (Option eP)}{kV doc pm cdv ct:eP}(l:K.lookup f=Ob ⟨oc,od,.func<|bp x qual (V3 st) (G0 st) (B9 st) .none kV doc pm an cdv ct,osl⟩)
  (c:bT K cdv qual=true) (k:aG K (.ref f)=true):Fun K x qual st f (bp x qual (V3 st) (G0 st) (B9 st) .none kV doc pm an cdv ct):=⟨⟨oc,od,kV,doc,pm,an,cdv,ct,osl,rfl,l,c⟩,k⟩
end
def ae1(h:n<=1000):n < dJ:=bW h (by decide)
section
variable {X:Cx}
def pv(i:Nat)(hN:X.N[i]? = Ob x:=by rfl)(hv:Vis X.env.scope x:=by first|exact Or.inl rfl|exact Or.inr (Or.inl rfl)|exact Or.inr<|Or.inr rfl)(hd:(x==("__debug__" : Str))=false:=by decide)
  (hcd:(x==("__classdict__" : Str))=false:=by decide):PE X (.Name x pos) (cB6 i):=V4 hN hv hd hcd
end
def ao2{A B:Prop}(h:B):if false=true then A else B:=by
 rw[if_neg aB];exact h
def ao1{A B:Prop}(h:A):if true=true then A else B:=by
 rw[if_pos rfl];exact h
noncomputable def B8(H H':Hp):Prop:=∀b o,H b=Ob o->H' b=Ob o
def B8.refl(H:Hp):B8 H H:=λ_ _ h=>h
def B8.trans(a:B8 H H1)(b:B8 H1 H2):B8 H H2:=λc o h=>b c o<|a c o h
def B8.free(e:B8 H H')(h:H' l=Option.none):H l=Option.none:=by
 cases q:H l with
 | none=>rfl
 | some o =>
  rw[e l o q]at h;cases h
end L2
set_option maxHeartbeats 4000000
namespace G
def xbm{α β:Type}{o:Option α}{f:α->Option β}{b:β}(h:o.bind f=Ob b):∃a,o=Ob a/\f a=Ob b:=xbo h
open PySem PySem.Spec PyProof.Rows L2
noncomputable abbrev D:=PyData
mutual
noncomputable def Rep(K:aa) (H:Hp):D->V->Prop
 | .none,v=>v=.non
 | .bool b,v=>v=.bl b
 | .int i,v=>v=.int i
 | .str x,v=>v=.str x
 | .tuple ds,v=>∃a vs,v=.ref a/\SqT K H a vs/\Reps K H ds vs
 | .list ds,v=>∃a vs,v=.ref a/\SqL K H a vs/\Reps K H ds vs
 | .dict kvs,v=>∃a m,v=.ref a/\H a=Ob (.dK m)/\RepKs K H kvs m
noncomputable def Reps(K:aa) (H:Hp):List D->List V->Prop
 | [],vs=>vs=[]
 | d::ds,vs=>∃v r,vs=v::r/\Rep K H d v/\Reps K H ds r
/-- a dict by texts -/
noncomputable def RepKs(K:aa) (H:Hp):List (D×D)->List (Key×V)->Prop
 | [],m=>m=[]
 | (k,d)::r,m=>∃x v t,k=.str x/\m=(.inr x,v)::t/\Rep K H d v/\RepKs K H r t
end
section
variable {K:PySem.W.Frag}{H H' H0 H1 H2 Hf Hf' Hf1 Hf2:Hp}
def bd9(e:B8 H H')(h:Rd H a u):Rd H' a u:=by
 rcases h with h|⟨o,h⟩
 .exact .inl (e _ _ h)
 .exact .inr ⟨o,e _ _ h⟩
def C7(e:B8 H H')(h:SqT K H a xs):SqT K H' a xs:=h.imp (bd9 e) id
def K3(e:B8 H H')(h:SqL K H a xs):SqL K H' a xs:=h.imp (bd9 e) id
mutual
theorem Rep.mono(e:B8 H H'):∀{d:D}{v:V},Rep K H d v->Rep K H' d v
 | .none,_,h=>h
 | .bool _,_,h=>h
 | .int _,_,h=>h
 | .str _,_,h=>h
 | .tuple _,_,⟨a,vs,h1,h2,h3⟩=>⟨a,vs,h1,C7 e h2,Reps.mono e h3⟩
 | .list _,_,⟨a,vs,h1,h2,h3⟩=>⟨a,vs,h1,K3 e h2,Reps.mono e h3⟩
 | .dict _,_,⟨a,m,h1,h2,h3⟩=>⟨a,m,h1,e _ _ h2,RepKs.mono e h3⟩
theorem Reps.mono(e:B8 H H'):∀{ds:List D}{vs:List V},Reps K H ds vs->Reps K H' ds vs
 | [],_,h=>h
 | _::_,_,⟨v,r,h1,h2,h3⟩=>⟨v,r,h1,Rep.mono e h2,Reps.mono e h3⟩
theorem RepKs.mono(e:B8 H H'):∀{ds:List (D×D)}{vs:List (Key×V)},RepKs K H ds vs->RepKs K H' ds vs
 | [],_,h=>h
 | (_,_)::_,_,⟨x,v,t,h1,h2,h3,h4⟩=>⟨x,v,t,h1,h2,Rep.mono e h3,RepKs.mono e h4⟩
end
theorem Reps.length:∀{ds:List D}{vs:List V},Reps K H ds vs->vs.length=ds.length
 | [],_,h=>by cases h;rfl
 | _::_,_,⟨v,r,h1,h2,h3⟩=>by subst h1;simp[Reps.length h3]
theorem Reps.get:∀{ds:List D}{vs:List V}{i:Nat}{d:D},Reps K H ds vs->ds[i]? = Ob d->∃v,vs[i]? = Ob v/\Rep K H d v
 | [],_,_,_,_,e=>by simp at e
 | x::_,_,0,_,⟨v,r,h1,h2,h3⟩,e=>by subst h1;simp at e;subst e;exact⟨v,rfl,h2⟩
 | x::_,_,i+1,_,⟨v,r,h1,h2,h3⟩,e=>by
  subst h1;obtain⟨u,q1,q2⟩:=Reps.get (i:=i) h3 (by simpa using e);exact⟨u,by simpa using q1,q2⟩
theorem Reps.append:∀{ds es:List D}{vs us:List V},Reps K H ds vs->Reps K H es us->Reps K H (ds++es) (vs++us)
 | [],_,_,_,h,q=>by cases h;exact q
 | _::_,_,_,_,⟨v,r,h1,h2,h3⟩,q=>by subst h1;exact⟨v,r++_,rfl,h2,Reps.append h3 q⟩
theorem Reps.take:∀{ds:List D}{vs:List V}(n:Nat),Reps K H ds vs->Reps K H (ds.take n) (vs.take n)
 | [],_,n,h=>by cases h;simp[Reps]
 | _::_,_,0,h=>by simp[Reps]
 | _::_,_,n+1,⟨v,r,h1,h2,h3⟩=>by subst h1;exact⟨v,r.take n,rfl,h2,Reps.take n h3⟩
theorem Reps.drop:∀{ds:List D}{vs:List V}(n:Nat),Reps K H ds vs->Reps K H (ds.drop n) (vs.drop n)
 | [],_,n,h=>by cases h;simp[Reps]
 | _::_,_,0,h=>h
 | _::_,_,n+1,⟨v,r,h1,h2,h3⟩=>by subst h1;exact Reps.drop n h3
theorem Reps.ints:∀(ns:List Int),Reps K H (ns.map eG) (ns.map V.int)
 | []=>rfl
 | n::r=>⟨.int n,r.map V.int,rfl,rfl,Reps.ints r⟩
theorem Reps.flatten(h:Reps K H ds vs):∀k:Nat,Reps K H (aj k ds).flatten (aj k vs).flatten
 | 0=>rfl
 | k+1=>by simp only[bB,bR];exact h.append<|Reps.flatten h k
structure Grow (H Hf H' Hf':Hp):Prop where
 big:B8 H H'
 sub:B8 Hf' H'
 ext:B8 Hf Hf'
 new:∀b,Hf' b≠Oa->Hf b≠Oa\/H b=Oa
theorem Grow.refl(h:B8 Hf H):Grow H Hf H Hf:=⟨B8.refl _,h,B8.refl _,λ_ h=>.inl h⟩
theorem Grow.trans(a:Grow H Hf H1 Hf1)(b:Grow H1 Hf1 H2 Hf2):Grow H Hf H2 Hf2 :=
 ⟨a.big.trans b.big,b.sub,a.ext.trans b.ext,λx h=>(b.new x h).elim (a.new x) λz=>.inr<|a.big.free z⟩
def F7(h:H p=Oa):B8 H (upd H p o):=λb u e=>by rw[B2 (C2 e h)];exact e
def Grow.laid(s:B8 Hf H)(h:H p=Oa):Grow H Hf (upd H p o) (upd Hf p o):=by
 refine⟨F7 h,λb u e=>?_,F7<|s.free h,λb e=>?_⟩
 .by_cases q:b=p
  .subst q;rw[B3]at e;rw[B3];exact e
  .rw[B2 q]at e;rw[B2 q];exact s b u e
 .by_cases q:b=p
  .subst q;exact .inr h
  .rw[B2 q]at e;exact .inl e
def Grow.made(s:B8 Hf H)(h:H p=Oa):Grow H Hf (upd H p o) Hf :=
 ⟨F7 h,s.trans<|F7 h,B8.refl _,λ_ e=>.inl e⟩
def Grow.freeze(g:Grow H Hf H1 Hf1)(h:H1 p=Ob o)(n:Hf1 p=Oa)(f:H p=Oa):Grow H Hf H1 (upd Hf1 p o):=by
 refine⟨g.big,λb u e=>?_,g.ext.trans<|F7 n,λb e=>?_⟩
 .by_cases q:b=p
  .subst q;rw[B3]at e;rw[h];exact e
  .rw[B2 q]at e;exact g.sub b u e
 .by_cases q:b=p
  .subst q;exact .inr f
  .rw[B2 q]at e;exact g.new b e
end
inductive B where
 | val (d:D)
 | own (ds:List D)
 | exc (x:Str)
 | opq (a:eR)
noncomputable abbrev Rho:=List<|Option B
noncomputable def clA(K:aa)(x:Str):Option eR:=match aW K dN x with
 | some (Ob (.ref C))=>Ob C
 | _=>Oa
noncomputable def SB(K:aa)(H0 H Hf:Hp):B->V->Prop
 | .val d,v=>Rep K Hf d v
 | .own ds,v=>∃a vs,v=.ref a/\H a=Ob (.lst vs)/\Hf a=Oa/\H0 a=Oa/\Reps K Hf ds vs
 | .exc x,v=>∃a o C,v=.ref a/\Hf a=Ob (.frz o<|.own a)/\clA K x=Ob C/\o.cls=.ref C
 | .opq a,v=>v=.ref a
structure Slots (K:aa) (H0:Hp) (ρ:Rho) (σ:L2.St) (H Hf:Hp):Prop where
 len:ρ.length=σ.length
 is:∀(i:Nat) (b:B),ρ[i]? = Ob (Ob b)->∃v,σ[i]? = Ob (Ob v)/\SB K H0 H Hf b v
 apart:∀(i j:Nat) (ds es:List D) (a:eR),ρ[i]? = Ob (Ob<|.own ds)->ρ[j]? = Ob (Ob<|.own es)->σ[i]? = Ob (Ob<|V.ref a)->σ[j]? = Ob (Ob<|V.ref a)->i=j
section
variable {K:PySem.W.Frag}{H H' H0 H1 H2 Hf Hf' Hf1 Hf2:Hp}{ρ:Rho}{σ:L2.St}
def SB.grow(h:SB K H0 H Hf b v)(g:Grow H Hf H' Hf'):SB K H0 H' Hf' b v:=by
 cases b with
 | val d=>exact Rep.mono g.ext h
 | opq a=>exact h
 | exc C =>
  obtain⟨a,o,C,e,h1,h2⟩:=h;exact⟨a,o,C,e,g.ext _ _ h1,h2⟩
 | own ds =>
  obtain⟨a,vs,e,h1,h2,h3,h4⟩:=h;refine⟨a,vs,e,g.big _ _ h1,?_,h3,h4.mono g.ext⟩;cases q:Hf' a with
  | none=>rfl
  | some u =>
   rcases g.new a (by rw[q];simp) with z|z
   .exact absurd h2 z
   .rw[h1]at z;cases z
theorem Slots.grow(s:Slots K H0 ρ σ H Hf)(g:Grow H Hf H' Hf'):Slots K H0 ρ σ H' Hf' :=
 ⟨s.len,λi b e=>let⟨v,h1,h2⟩:=s.is i b e;⟨v,h1,h2.grow g⟩,s.apart⟩
end
noncomputable abbrev DE:=Rho->Option D
noncomputable def tJ(K:aa)(ρ:Rho)(R:Hp->V->Hp->Hp->Prop):TE:=λσ H Q=>∃H0 Hf,B8 Hf H/\Slots K H0 ρ σ H Hf/\∀v H' Hf',Grow H Hf H' Hf'->R H v H' Hf'->Q v H'
noncomputable def JE(X:Cx)(e:Expr)(f:DE):Prop:=∀ρ d,f ρ=Ob d->PE X e (tJ X.K ρ λ_ v _ Hf=>Rep X.K Hf d v)
noncomputable def Sq(K:aa):Bool->Hp->eR->List V->Prop
 | true=>SqT K
 | false=>SqL K
noncomputable def RQ(K:aa)(t:Bool)(ds:List D)(v:V)(H Hf:Hp):Prop:=∃a vs,v=.ref a/\Sq K t H a vs/\Reps K Hf ds vs
noncomputable def JQ(X:Cx)(e:Expr)(f:Rho->Option (Bool×List D)):Prop:=∀ρ t ds,f ρ=Ob (t,ds)->PE X e (tJ X.K ρ λ_ v H Hf=>RQ X.K t ds v H Hf)
noncomputable def JN(X:Cx)(e:Expr)(f:Rho->Option (List D)):Prop:=∀ρ ds,f ρ=Ob ds->PE X e (tJ X.K ρ λH v H' Hf'=>∃a vs,v=.ref a/\H a=Oa/\H' a=Ob (.lst vs)/\Hf' a=Oa/\Reps X.K Hf' ds vs)
noncomputable def tJA(K:aa)(ρ:Rho)(ds:List D):TA:=λσ H Q=>∃H0 Hf,B8 Hf H/\Slots K H0 ρ σ H Hf/\∀vs H' Hf',Grow H Hf H' Hf'->Reps K Hf' ds vs->Q vs H'
structure JA (X:Cx) (es:List Expr) (f:Rho->Option (List D)):Prop where
 len:∀ρ ds,f ρ=Ob ds->ds.length=es.length
 run:∀ρ ds,f ρ=Ob ds->PA X es (tJA X.K ρ ds)
noncomputable def JT(X:Cx)(e:Expr)(f:Rho->Option Bool):Prop:=∀ρ c,f ρ=Ob c->PT X e (λσ H Q=>∃H0 Hf,B8 Hf H/\Slots X.K H0 ρ σ H Hf/\∀H' Hf',Grow H Hf H' Hf'->Q c H')
noncomputable def JW(X:Cx)(e:Expr)(f:Rho->Option Bool):Prop:=∀ρ c,f ρ=Ob c->PW X e (λσ H Q=>∃H0 Hf,B8 Hf H/\Slots X.K H0 ρ σ H Hf/\∀H' Hf',Grow H Hf H' Hf'->Q c H')
section
variable {X:Cx}
def B4(h:PE X e t)(i:∀σ H Q,t' σ H Q->t σ H Q):PE X e t':=λpins s σ H Q I q=>h pins s σ H Q I<|i σ H Q q
def ac5(h:PT X e t)(i:∀σ H Q,t' σ H Q->t σ H Q):PT X e t':=λpins s σ H Q I q=>h pins s σ H Q I<|i σ H Q q
noncomputable def dC(d:D):DE:=λ_=>Ob d
noncomputable def A1(i:Nat):DE:=λρ=>match ρ[i]? with
 | some (Ob (.val d))=>Ob d
 | _=>Oa
noncomputable def A6(i:Nat):Rho->Option (Bool×List D):=λρ=>match ρ[i]? with
 | some (Ob (.own ds))=>Ob (false,ds)
 | some (Ob (.val (.list ds)))=>Ob (false,ds)
 | some (Ob (.val (.tuple ds)))=>Ob (true,ds)
 | _=>Oa
noncomputable def aL4:D->Option (Bool×List D)
 | .list ds=>Ob (false,ds)
 | .tuple ds=>Ob (true,ds)
 | _=>Oa
def bF3:JE X (.Constant (.int i) j pos) (dC<|.int i):=λρ d h=>by
 cases h;exact B4 cm7 λσ H Q ⟨H0,Hf,s,sl,k⟩=>k _ H Hf (Grow.refl s) rfl
def cH8:JE X (.Constant (.bool b) j pos) (dC<|.bool b):=λρ d h=>by
 cases h;exact B4 cE2 λσ H Q ⟨H0,Hf,s,sl,k⟩=>k _ H Hf (Grow.refl s) rfl
def cv6:JE X (.Constant .none j pos) (dC .none):=λρ d h=>by
 cases h;exact B4 cm5 λσ H Q ⟨H0,Hf,s,sl,k⟩=>k _ H Hf (Grow.refl s) rfl
def cv0:JE X (.Constant (.str x) j pos) (dC<|.str x):=λρ d h=>by
 cases h;exact B4 cm2 λσ H Q ⟨H0,Hf,s,sl,k⟩=>k _ H Hf (Grow.refl s) rfl
def aW8(i:Nat)(hN:X.N[i]? = Ob x:=by rfl)(hv:Vis X.env.scope x:=by first|exact Or.inl rfl|exact Or.inr (Or.inl rfl)|exact Or.inr<|Or.inr rfl)(hd:(x==("__debug__" : Str))=false:=by decide)
  (hcd:(x==("__classdict__" : Str))=false:=by decide):JE X (.Name x pos) (A1 i):=λρ d h=>by
 refine B4 (V4 hN hv hd hcd) λσ H Q ⟨H0,Hf,s,sl,k⟩=>?_
 unfold A1 at h;split at h
 .rename_i d' e;cases h;obtain⟨v,h1,h2⟩:=sl.is i _ e;exact⟨v,h1,k v H Hf (Grow.refl s) h2⟩
 .cases h
def cu1(i:Nat)(hN:X.N[i]? = Ob x:=by rfl)(hv:Vis X.env.scope x:=by first|exact Or.inl rfl|exact Or.inr (Or.inl rfl)|exact Or.inr<|Or.inr rfl)(hd:(x==("__debug__" : Str))=false:=by decide)
  (hcd:(x==("__classdict__" : Str))=false:=by decide):JQ X (.Name x pos) (A6 i):=λρ t ds h=>by
 refine B4 (V4 hN hv hd hcd) λσ H Q ⟨H0,Hf,s,sl,k⟩=>?_
 unfold A6 at h;split at h
 .rename_i d' e;cases h;obtain⟨v,h1,a,vs,rfl,h2,h3,h4,h5⟩:=sl.is i _ e;exact⟨_,h1,k _ H Hf (Grow.refl s) ⟨a,vs,rfl,SqL.of h2,h5⟩⟩
 .rename_i d' e;cases h;obtain⟨v,h1,a,vs,rfl,h2,h3⟩:=sl.is i _ e;exact⟨_,h1,k _ H Hf (Grow.refl s) ⟨a,vs,rfl,K3 s h2,h3⟩⟩
 .rename_i d' e;cases h;obtain⟨v,h1,a,vs,rfl,h2,h3⟩:=sl.is i _ e;exact⟨_,h1,k _ H Hf (Grow.refl s) ⟨a,vs,rfl,C7 s h2,h3⟩⟩
 .cases h
def Rep.seq{K:aa}{H Hf:Hp}{d:D}{v:V}{t:Bool}{ds:List D}(h:Rep K Hf d v)(s:B8 Hf H)(e:aL4 d=Ob (t,ds)):RQ K t ds v H Hf:=by
 cases d with
 | list xs=>cases e;obtain⟨a,vs,e1,e2,e3⟩:=h;exact⟨a,vs,e1,K3 s e2,e3⟩
 | tuple xs=>cases e;obtain⟨a,vs,e1,e2,e3⟩:=h;exact⟨a,vs,e1,C7 s e2,e3⟩
 | _=>cases e
noncomputable def qE(f:DE):Rho->Option (Bool×List D):=λρ=>(f ρ).bind aL4
def bE0(h:JE X e f):JQ X e (qE f):=λρ t ds q=>by
 obtain⟨d,h1,h2⟩:=xbm q;exact B4 (h ρ d h1) λσ H Q ⟨H0,Hf,s,sl,k⟩=>⟨H0,Hf,s,sl,λv H' Hf' g r=>k v H' Hf' g<|r.seq g.sub h2⟩
noncomputable def A3:Rho->Option (List D):=λ_=>Ob []
noncomputable def A0(f:DE)(g:Rho->Option (List D)):Rho->Option (List D):=λρ=>(f ρ).bind λd=>(g ρ).map λds=>d::ds
def aX0:JA X [] A3:=⟨λρ ds h=>by cases h;rfl,λρ ds h pos pins s σ H Q I ⟨H0,Hf,ss,sl,k⟩=>by
 cases h
 exact Q6 pos pins s σ H Q I (k [] H Hf (Grow.refl ss) rfl)⟩
def aI3(h:JE X e f)(r:JA X es g)(hs:dI (e::es) X.env=(false,eval e X.env)::dI es X.env:=by rfl):JA X (e::es) (A0 f g):=by
 refine⟨λρ ds q=>?_,λρ ds q=>?_⟩
 .obtain⟨d,h1,h2⟩:=xbm q;obtain⟨es',h3,h4⟩:=xmo h2;subst h4;simp[r.len ρ es' h3]
 .obtain⟨d,h1,h2⟩:=xbm q;obtain⟨es',h3,h4⟩:=xmo h2;subst h4;intro pos pins s σ H Q I ⟨H0,Hf,ss,sl,k⟩;refine K5 (h ρ d h1) (r.run ρ es' h3) hs pos pins s σ H Q I ⟨H0,Hf,ss,sl,λv H1 Hf1 g1 r1=>⟨H0,Hf1,g1.sub,sl.grow g1,λvs H2 Hf2 g2 r2=>?_⟩⟩;exact k (v::vs) H2 Hf2 (g1.trans g2) ⟨v,vs,rfl,r1.mono g2.ext,r2⟩
noncomputable def N7(f:Rho->Option (List D)):DE:=λρ=>(f ρ).map PyData.tuple
def bE9(h:JA X es f)(hn:es.length<=1000:=by decide):JE X (.Tuple es k pos) (N7 f):=λρ d q=>by
 obtain⟨ds,h1,h2⟩:=xmo q;subst h2;refine B4 (by8 λpos pins s σ H Q I t=>h.run ρ ds h1 pos pins s σ H Q I t) λσ H Q ⟨H0,Hf,s,sl,k⟩=>?_
 refine⟨H0,Hf,s,sl,λvs H1 Hf1 g r=>⟨?_,λp hp=>?_⟩⟩
 .rw[r.length,h.len ρ ds h1];exact cf<|ae1 hn
 .exact k _ _ _ (g.trans<|Grow.laid g.sub hp) ⟨p,vs,rfl,SqT.of B3,r.mono (Grow.laid (o:=.tup vs) g.sub hp).ext⟩
def bE3(h:JA X es f)(hn:es.length<=1000:=by decide):JN X (.List es pos) f:=λρ ds h1=>by
 refine B4 (cm6 λpos pins s σ H Q I t=>h.run ρ ds h1 pos pins s σ H Q I t) λσ H Q ⟨H0,Hf,s,sl,k⟩=>?_
 refine⟨H0,Hf,s,sl,λvs H1 Hf1 g r=>⟨?_,λp hp=>?_⟩⟩
 .rw[r.length,h.len ρ ds h1];exact cf<|ae1 hn
 .exact k _ _ _ (g.trans<|Grow.made g.sub hp) ⟨p,vs,rfl,g.big.free hp,B3,g.sub.free hp,r⟩
noncomputable def ab8(f:Rho->Option (List D)):DE:=λρ=>(f ρ).map PyData.list
def ak6(h:JN X e f):JE X e (ab8 f):=λρ d q=>by
 obtain⟨ds,h1,h2⟩:=xmo q;subst h2;refine B4 (h ρ ds h1) λσ H Q ⟨H0,Hf,s,sl,k⟩=>⟨H0,Hf,s,sl,λv H' Hf' g ⟨a,vs,e1,e2,e3,e4,e5⟩=>?_⟩
 subst e1;exact k _ _ _ (g.freeze e3 e4 e2) ⟨a,vs,rfl,SqL.of B3,e5.mono<|F7 e4⟩
def bD9(h:JN X e f):JQ X e (λρ=>(f ρ).map λds=>(false,ds)):=λρ t ds q=>by
 obtain⟨ds',h1,h2⟩:=xmo q;cases h2;refine B4 (h ρ ds h1) λσ H Q ⟨H0,Hf,s,sl,k⟩=>⟨H0,Hf,s,sl,λv H' Hf' g ⟨a,vs,e1,e2,e3,e4,e5⟩=>?_⟩
 subst e1;exact k _ _ _ g ⟨a,vs,rfl,SqL.of e3,e5⟩
noncomputable def OpD(X:Cx)(F:eP->eP->Sem eP)(h:D->D->Option D):Prop:=∀x y z,h x y=Ob z ->
 OpR X F λvx vy H Q=>∃Hf,B8 Hf H/\Rep X.K Hf x vx/\Rep X.K Hf y vy/\∀v H' Hf',Grow H Hf H' Hf'->Rep X.K Hf' z v->Q v H'
noncomputable def A4(h:D->D->Option D)(f g:DE):DE:=λρ=>(f ρ).bind λx=>(g ρ).bind λy=>h x y
def u5(o:OpD X (dS op) h)(ha:JE X a f)(hb:JE X b g):JE X (.BinOp a op b pos) (A4 h f g):=λρ d q=>by
 obtain⟨x,h1,q⟩:=xbm q;obtain⟨y,h2,h3⟩:=xbm q;refine B4 (bz0 (o x y d h3) (ha ρ x h1)<|hb ρ y h2) λσ H Q ⟨H0,Hf,s,sl,k⟩=>?_
 refine⟨H0,Hf,s,sl,λv H1 Hf1 g1 r1=>⟨H0,Hf1,g1.sub,sl.grow g1,λu H2 Hf2 g2 r2=>?_⟩⟩;exact⟨Hf2,g2.sub,r1.mono g2.ext,r2,λw H3 Hf3 g3 r3=>k w H3 Hf3 ((g1.trans g2).trans g3) r3⟩
def bF4(o:OpD X (dM op) h)(ha:JE X a f)(hb:JE X b g)(hm:behindInMarks op b=false:=by first|exact aH4 _|rfl):JE X (.Compare a [op] [b] pos) (A4 h f g):=λρ d q=>by
 obtain⟨x,h1,q⟩:=xbm q;obtain⟨y,h2,h3⟩:=xbm q;refine B4 (bf0 (o x y d h3) (ha ρ x h1) (hb ρ y h2) hm) λσ H Q ⟨H0,Hf,s,sl,k⟩=>?_
 refine⟨H0,Hf,s,sl,λv H1 Hf1 g1 r1=>⟨H0,Hf1,g1.sub,sl.grow g1,λu H2 Hf2 g2 r2=>?_⟩⟩;exact⟨Hf2,g2.sub,r1.mono g2.ext,r2,λw H3 Hf3 g3 r3=>k w H3 Hf3 ((g1.trans g2).trans g3) r3⟩
def OpR.imp(h:OpR X F r)(i:∀x y H Q,r' x y H Q->r x y H Q):OpR X F r':=λpins s σ H x y v u Q I rx ry q=>h pins s σ H x y v u Q I rx ry<|i x y H Q q
end
section
variable {X:Cx}
noncomputable def K7(i:Int):Prop:=i.natAbs < 2 ^ 8000
instance:DecidablePred K7:=λi=>inferInstanceAs<|Decidable (i.natAbs < 2 ^ 8000)
def K7.log(h:K7 i)(h0:i.natAbs≠0):i.natAbs.log2 < 8000:=(Nat.log2_lt h0).mpr h
def K7.bits(h:K7 i):Builtin.Int.intBits i<=2 ^ 20:=by
 unfold Builtin.Int.intBits;split
 .exact aU _
 .rename_i h0;have:=h.log (by simpa using h0)
  grind
def bU3:OpR X (dS .Mult) (rI (λi j=>K7 i/\K7 j) λi j=>.int<|i*j):=opI λ_ _ _ _ _ _ _ hc q=>mul_int q<|PySem.IntMulOk.of_bits hc.1.bits hc.2.bits
noncomputable def addI(x y:D):Option D:=match x,y with
 | .int i,.int j=>Ob<|.int (i+j)
 | _,_=>Oa
noncomputable def as1(x y:D):Option D:=match x,y with
 | .int i,.int j=>Ob<|.int (i - j)
 | .int i,.bool b=>Ob<|.int (i - if b=true then 1 else 0)
 | .bool a,.int j=>Ob<|.int ((if a=true then 1 else 0) - j)
 | _,_=>Oa
noncomputable def cp8(x y:D):Option D:=match x,y with
 | .int i,.int j=>if K7 i/\K7 j then Ob (.int<|i*j) else Oa
 | _,_=>Oa
noncomputable def ah7(x y:D):Option D:=match x,y with
 | .int i,.int j=>if 0 < j/\K7 j then Ob (.int<|i / j) else Oa
 | _,_=>Oa
noncomputable def n6(x y:D):Option D:=match x,y with
 | .int i,.int j=>if 0 < j then Ob (.int<|i % j) else Oa
 | _,_=>Oa
def cO7:OpD X (dS .Add) addI:=λx y z h=>by
 unfold addI at h;split at h
 .cases h;exact OpR.imp bA0 λvx vy H Q ⟨Hf,s,r1,r2,k⟩=>⟨_,_,r1,r2,k _ H Hf (Grow.refl s) rfl⟩
 .cases h
def co1:OpD X (dS .Sub) as1:=λx y z h=>by
 unfold as1 at h;split at h
 .cases h;exact OpR.imp cn6 λvx vy H Q ⟨Hf,s,r1,r2,k⟩=>⟨_,_,r1,r2,k _ H Hf (Grow.refl s) rfl⟩
 .cases h;intro pins s σ H vx vy v u Q I rx ry ⟨Hf,ss,r1,r2,k⟩;cases r1;cases r2;obtain⟨t,rfl⟩:=rx;obtain rfl:u=Value.bool _:=ry;exact PySem.IntBool.sub_int_bool ⟨.int _,H,I.tok _,⟨_,rfl⟩,k _ H Hf (Grow.refl ss) rfl⟩
 .cases h;intro pins s σ H vx vy v u Q I rx ry ⟨Hf,ss,r1,r2,k⟩;cases r1;cases r2;obtain⟨t,rfl⟩:=ry;obtain rfl:v=Value.bool _:=rx;exact PySem.IntBool.sub_bool_int ⟨.int _,H,I.tok _,⟨_,rfl⟩,k _ H Hf (Grow.refl ss) rfl⟩
 .cases h
def co2:OpD X (dS .Mult) cp8:=λx y z h=>by
 unfold cp8 at h;split at h
 .split at h
  .rename_i c;cases h;exact OpR.imp bU3 λvx vy H Q ⟨Hf,s,r1,r2,k⟩=>⟨_,_,r1,r2,c,k _ H Hf (Grow.refl s) rfl⟩
  .cases h
 .cases h
def bl9:OpR X (dS .FloorDiv) (rI (λ_ j=>0 < j/\K7 j) λi j=>.int<|i / j):=opI λi j _ _ s Q E hc q=>by
 have e:i.fdiv j=i / j:=Int.fdiv_eq_ediv_of_nonneg i (Int.le_of_lt hc.1);refine floordiv_int (by grind) (by rw[e];exact q) (.inl<|PyProof.noPylong_of_log2 ?_);have h2:=hc.2.log (by grind)
 grind
def co5:OpD X (dS .FloorDiv) ah7:=λx y z h=>by
 unfold ah7 at h;split at h
 .split at h
  .rename_i c;cases h;exact OpR.imp bl9 λvx vy H Q ⟨Hf,s,r1,r2,k⟩=>⟨_,_,r1,r2,c,k _ H Hf (Grow.refl s) rfl⟩
  .cases h
 .cases h
def co3:OpD X (dS .Mod) n6:=λx y z h=>by
 unfold n6 at h;split at h
 .split at h
  .rename_i c;cases h;exact OpR.imp cn7 λvx vy H Q ⟨Hf,s,r1,r2,k⟩=>⟨_,_,r1,r2,c,k _ H Hf (Grow.refl s) rfl⟩
  .cases h
 .cases h
def bz9:OpR X (dS .Add) (λx y H Q=>∃a b ys,x=.ref a/\y=.ref b/\SqT X.K H a []/\SqT X.K H b ys/\Q (.ref b) H):=by
 intro pins s σ H x y v u Q I rx ry h;obtain⟨a,b,ys,rfl,rfl,ha,hb,q⟩:=h;cases rx;cases ry;obtain⟨its,r1,p1,_⟩:=I.tuple ha;obtain⟨its2,r2,p2,_⟩:=I.tuple hb;cases r1;obtain⟨⟨cls,dd,data,sl⟩,ho,hc,n,hd⟩:=id p1;obtain⟨⟨cls2,dd2,data2,sl2⟩,ho2,hc2,n2,hd2⟩:=id p2;simp only at hc hd hc2 hd2;subst hc hd hc2 hd2
 exact concat_meets ⟨_,ho,rfl⟩ ⟨_,ho2,rfl⟩ noFill_tuple_add seq_tuple_add PySem.F.slot_tuple_add PySem.F.entry_tuple_add (PySem.F.args_tuple_add_2 _ _)
   (tuple_addW0 a b _ its2.toArray n n2 dd dd2 sl sl2<|by rfl) ⟨ho,ho2,⟨.ref b,H,I,rfl,q⟩⟩
noncomputable def x5(x y:D):Option D:=match x,y with
 | .tuple xs,.tuple ys=>if xs.length+ys.length<=16777216 then Ob (.tuple<|xs++ys) else Oa
 | .str a,.str b=>if a.length+b.length<=16777216 then Ob (.str<|a++b) else Oa
 | .int i,.int j=>Ob<|.int (i+j)
 | .bool a,.int j=>Ob<|.int ((if a=true then 1 else 0)+j)
 | _,_=>Oa
def bA7:OpD X (dS .Add) x5:=λx y z h=>by
 unfold x5 at h;split at h
 .split at h
  .rename_i xs ys c;cases h;cases xs with
   | nil =>
    refine OpR.imp bz9 λvx vy H Q ⟨Hf,s,r1,r2,k⟩=>?_
    obtain⟨a,vs,rfl,h2,h3⟩:=r1;obtain⟨b,us,rfl,h5,h6⟩:=r2;cases h3;exact⟨a,b,us,rfl,rfl,C7 s h2,C7 s h5,k _ H Hf (Grow.refl s) ⟨b,us,rfl,h5,h6⟩⟩
   | cons d0 ds0 =>
    refine OpR.imp bU4 λvx vy H Q ⟨Hf,s,r1,r2,k⟩=>?_
    obtain⟨a,vs,rfl,h2,h3⟩:=r1;obtain⟨b,us,rfl,h5,h6⟩:=r2;have l1:=h3.length;have l2:=h6.length;refine⟨a,b,vs,us,rfl,rfl,C7 s h2,C7 s h5,?_,by rw[dL];grind,λe=>?_,λe p hp=>?_⟩
    .intro e;subst e;simp at l1
    .subst e;have:ys=[]:=by cases ys<;>simp_all
     subst this;exact k _ H Hf (Grow.refl s) ⟨a,vs,rfl,h2,by rw[aA];exact h3⟩
    .exact k _ _ _ (Grow.laid s hp) ⟨p,vs++us,rfl,SqT.of B3,(h3.append h6).mono<|F7 (s.free hp)⟩
  .cases h
 .split at h
  .rename_i c;cases h;exact OpR.imp aV1 λvx vy H Q ⟨Hf,s,r1,r2,k⟩=>⟨_,_,r1,r2,by rw[dL];exact c,k _ H Hf (Grow.refl s) rfl⟩
  .cases h
 .cases h;exact OpR.imp bA0 λvx vy H Q ⟨Hf,s,r1,r2,k⟩=>⟨_,_,r1,r2,k _ H Hf (Grow.refl s) rfl⟩
 .cases h;intro pins s σ H vx vy v u Q I rx ry ⟨Hf,ss,r1,r2,k⟩;cases r1;cases r2;obtain⟨t,rfl⟩:=ry;obtain rfl:v=Value.bool _:=rx;exact PySem.IntBool.add_bool_int ⟨.int _,H,I.tok _,⟨_,rfl⟩,k _ H Hf (Grow.refl ss) rfl⟩
 .cases h
noncomputable def ltI(x y:D):Option D:=match x,y with
 | .int i,.int j=>Ob<|.bool (decide (i < j))
 | _,_=>Oa
noncomputable def leI(x y:D):Option D:=match x,y with
 | .int i,.int j=>Ob<|.bool (decide (i<=j))
 | _,_=>Oa
noncomputable def gtI(x y:D):Option D:=match x,y with
 | .int i,.int j=>Ob<|.bool (decide (j < i))
 | _,_=>Oa
noncomputable def geI(x y:D):Option D:=match x,y with
 | .int i,.int j=>Ob<|.bool (decide (j<=i))
 | _,_=>Oa
def cF0:OpD X (dM .Lt) ltI:=λx y z h=>by
 unfold ltI at h;split at h
 .cases h;exact OpR.imp cE4 λvx vy H Q ⟨Hf,s,r1,r2,k⟩=>⟨_,_,r1,r2,k _ H Hf (Grow.refl s) rfl⟩
 .cases h
def cF1:OpD X (dM .LtE) leI:=λx y z h=>by
 unfold leI at h;split at h
 .cases h;exact OpR.imp cE5 λvx vy H Q ⟨Hf,s,r1,r2,k⟩=>⟨_,_,r1,r2,k _ H Hf (Grow.refl s) rfl⟩
 .cases h
def cF3:OpD X (dM .Gt) gtI:=λx y z h=>by
 unfold gtI at h;split at h
 .cases h;exact OpR.imp cE6 λvx vy H Q ⟨Hf,s,r1,r2,k⟩=>⟨_,_,r1,r2,k _ H Hf (Grow.refl s) rfl⟩
 .cases h
def cF4:OpD X (dM .GtE) geI:=λx y z h=>by
 unfold geI at h;split at h
 .cases h;exact OpR.imp cE7 λvx vy H Q ⟨Hf,s,r1,r2,k⟩=>⟨_,_,r1,r2,k _ H Hf (Grow.refl s) rfl⟩
 .cases h
mutual
theorem Rep.reads(I:Inv X pins σ H s):∀{d:D}{v:V}{u:eP},Rep X.K H d v->L0 v u->∃as,Reads s.heap u d as
 | .none,_,_,h,r=>by cases h;cases r;exact⟨_,.none⟩
 | .bool b,_,_,h,r=>by cases h;cases r;exact⟨_,.bool b⟩
 | .int i,_,_,h,r=>by cases h;obtain⟨t,rfl⟩:=r;exact⟨_,.int i t⟩
 | .str x,_,_,h,r=>by cases h;obtain⟨t,rfl⟩:=r;exact⟨_,.str x t⟩
 | .tuple ds,_,_,⟨a,vs,h1,h2,h3⟩,r=>by
  subst h1;cases r;obtain⟨its,rv,⟨o,ho,hc,n,hd⟩,_⟩:=I.tuple h2;obtain⟨as,q⟩:=Reps.reads I h3 rv;exact⟨_,.tuple ho hc hd<|by simpa using q⟩
 | .list ds,_,_,⟨a,vs,h1,h2,h3⟩,r=>by
  subst h1;cases r;obtain⟨its,rv,pl,_⟩:=I.list h2;obtain⟨o,ho,hc,n,hd⟩:=pl.isList;obtain⟨as,q⟩:=Reps.reads I h3 rv;exact⟨_,.list ho hc hd<|by simpa using q⟩
 | .dict kvs,_,_,⟨a,m,h1,h2,h3⟩,r=>by
  subst h1;cases r;obtain⟨_,_,vs,rk,o,es,ep,ho,hx,hd,_,hp,_⟩:=(show V0 X.prog X.w H s.heap a (.dK m) from I.hok a _ h2);obtain⟨as,bs,q1,q2⟩:=RepKs.reads I h3 rk hp;exact⟨_,.dict ho hx.1 hd q1 q2⟩
theorem RepKs.reads(I:Inv X pins σ H s):∀{kvs:List (D×D)}{m:List (Key×V)}{vs:List (Key×eP)}{es:List DictEntry},RepKs X.K H kvs m->KV m vs->Pairs (at8 X.prog X.w) es vs ->
  ∃as bs,ReadsAll s.heap (es.map (·.key)) (kvs.map (·.1)) as/\ReadsAll s.heap (es.map (·.val)) (kvs.map (·.2)) bs
 | [],_,_,_,h,r,p=>by cases h;cases r;cases p;exact⟨_,_,.nil,.nil⟩
 | (k,d)::kvs,_,_,_,⟨x,v,t,h1,h2,h3,h4⟩,r,p=>by
  subst h1 h2;cases r with
  | @cons _ b _ bs r1 r2 =>
   cases p with
   | @cons e kv es _ p1 p2 p3 =>
    obtain⟨as,cs,q1,q2⟩:=RepKs.reads I h4 r2 p3;obtain⟨r1,r3⟩:=r1;rw[← p2]at r3;obtain⟨ds,q3⟩:=Rep.reads I h3 r3;rw[← r1]at p1;have hk:∃t,e.key=.str x t:=Value.isStrOf_shape (x:=x) (v:=e.key) p1;obtain⟨t,hk⟩:=hk;refine⟨_,_,.cons (as:=[]) ?_ q1,.cons q3 q2⟩;show Reads s.heap e.key (.str x) [];rw[hk];exact .str x t
theorem Reps.reads(I:Inv X pins σ H s):∀{ds:List D}{vs:List V}{us:List eP},Reps X.K H ds vs->D7 vs us->∃as,ReadsAll s.heap us ds as
 | [],_,_,h,r=>by cases h;cases r;exact⟨_,.nil⟩
 | d::ds,_,_,⟨v,vr,h1,h2,h3⟩,r=>by
  subst h1;cases r with
  | cons r1 r2 =>
   obtain⟨as,q1⟩:=Rep.reads I h2 r1;obtain⟨bs,q2⟩:=Reps.reads I h3 r2;exact⟨_,.cons q1 q2⟩
end
noncomputable def eqD(x y:D):Option D:=if eE x=true/\eE y=true then Ob (.bool<|eF x y) else Oa
noncomputable def neD(x y:D):Option D:=if eE x=true/\eE y=true then Ob (.bool (!PyData.eqv x y)) else Oa
def ce1(hu:X.A.units+64 < cLine):OpD X (dM .Eq) eqD:=λx y z h=>by
 unfold eqD at h;split at h
 .rename_i c;cases h;intro pins s σ H vx vy v u Q I rx ry ⟨Hf,ss,r1,r2,k⟩;obtain⟨as,q1⟩:=Rep.reads I (r1.mono ss) rx;obtain⟨bs,q2⟩:=Rep.reads I (r2.mono ss) ry;exact eq_dataH q1 q2 c.1 c.2 hu ⟨.bl _,H,I,rfl,k _ H Hf (Grow.refl ss) rfl⟩
 .cases h
def cd9(hu:X.A.units+64 < cLine):OpD X (dM .NotEq) neD:=λx y z h=>by
 unfold neD at h;split at h
 .rename_i c;cases h;intro pins s σ H vx vy v u Q I rx ry ⟨Hf,ss,r1,r2,k⟩;obtain⟨as,q1⟩:=Rep.reads I (r1.mono ss) rx;obtain⟨bs,q2⟩:=Rep.reads I (r2.mono ss) ry;exact ne_dataH q1 q2 c.1 c.2 hu ⟨.bl _,H,I,rfl,k _ H Hf (Grow.refl ss) rfl⟩
 .cases h
noncomputable def isN(x y:D):Option D:=match x,y with
 | .none,.none=>Ob<|.bool true
 | _,.none=>Ob<|.bool false
 | _,_=>Oa
def be0{K:aa}{H:Hp}{d:D}{v:V}(h:Rep K H d v):(decide (v=.non))=(match d with | .none=>true|_=>false):=by
 cases d with
 | none=>cases h;rfl
 | bool b=>cases h;rfl
 | int b=>cases h;rfl
 | str b=>cases h;rfl
 | tuple ds=>obtain⟨a,vs,rfl,_⟩:=h;rfl
 | list ds=>obtain⟨a,vs,rfl,_⟩:=h;rfl
 | dict ds=>obtain⟨a,m,rfl,_⟩:=h;rfl
def co4:OpD X (dM .Is) isN:=λx y z h=>by
 refine OpR.imp cn8 λvx vy H Q ⟨Hf,s,r1,r2,k⟩=>?_
 have e:=be0 r1
 cases y<;>cases x<;>simp only[isN,bc.injEq,reduceCtorEq]at h <;>
  (subst h;simp only at e;rw[e];exact⟨r2,k _ H Hf (Grow.refl s) rfl⟩)
noncomputable def co8(x y:D):Option D:=match x,y with
 | .none,.none=>Ob<|.bool false
 | _,.none=>Ob<|.bool true
 | _,_=>Oa
def bU9:OpD X (dM .IsNot) co8:=λx y z h=>by
 refine OpR.imp bU2 λvx vy H Q ⟨Hf,s,r1,r2,k⟩=>?_
 have e:=be0 r1
 cases y<;>cases x<;>simp only[co8,bc.injEq,reduceCtorEq]at h <;>
  (subst h;simp only at e;rw[e];exact⟨r2,k _ H Hf (Grow.refl s) rfl⟩)
noncomputable def Z1(h1 h2:D->D->Option D)(f g k:DE):DE:=λρ=>(f ρ).bind λx=>(g ρ).bind λy=>(h1 x y).bind λz=>match z with
 | .bool true=>(k ρ).bind λw=>h2 y w
 | .bool false=>Ob<|.bool false
 | _=>Oa
def bF5(o1:OpD X (dM op) h1)(o2:OpD X (dM op') h2)(ha:JE X a f)(hb:JE X b g)(hc:JE X c k)
  (hm:lastMarks [op,op'] [b,c]=false:=by with_unfolding_all rfl):JE X (.Compare a [op,op'] [b,c] pos) (Z1 h1 h2 f g k):=λρ d q=>by
 obtain⟨x,e1,q⟩:=xbm q;obtain⟨y,e2,q⟩:=xbm q;obtain⟨z,e3,q⟩:=xbm q;split at q
 .obtain⟨w,e4,e5⟩:=xbm q;refine B4 (aM4 (o1 x y _ e3) (o2 y w d e5) (ha ρ x e1) (hb ρ y e2) (hc ρ w e4) hm) λσ H Q ⟨H0,Hf,s,sl,kk⟩=>?_
  refine⟨H0,Hf,s,sl,λv H1 Hf1 g1 r1=>⟨H0,Hf1,g1.sub,sl.grow g1,λu H2 Hf2 g2 r2=>⟨Hf2,g2.sub,r1.mono g2.ext,r2,λz' H3 Hf3 g3 r3=>?_⟩⟩⟩;refine⟨true,r3,ao1 ⟨H0,Hf3,g3.sub,sl.grow<|(g1.trans g2).trans g3,λw' H4 Hf4 g4 r4=>⟨Hf4,g4.sub,r2.mono (g3.trans g4).ext,r4,λz2 H5 Hf5 g5 r5=>?_⟩⟩⟩;exact kk z2 H5 Hf5 ((((g1.trans g2).trans g3).trans g4).trans g5) r5
 .cases q;intro pins s σ H Q I ⟨H0,Hf,ss,sl,kk⟩;refine aM4 (tc:=λ_ _ _=>False) (r':=λ_ _ _ _=>False) (o1 x y _ e3) (λ_ _ _ _ _ _ _ _ _ _ _ _ h=>h.elim) (ha ρ x e1) (hb ρ y e2) (λ_ _ _ _ _ _ h=>h.elim) hm pins s σ H Q I ?_;refine⟨H0,Hf,ss,sl,λv H1 Hf1 g1 r1=>⟨H0,Hf1,g1.sub,sl.grow g1,λu H2 Hf2 g2 r2=>⟨Hf2,g2.sub,r1.mono g2.ext,r2,λz' H3 Hf3 g3 r3=>?_⟩⟩⟩;exact⟨false,r3,ao2<|kk _ H3 Hf3 ((g1.trans g2).trans g3) rfl⟩
 .cases q
def cv4(h:JE X a f):JE X (.BoolOp op [a] pos) f:=λρ d q=>bz1<|h ρ d q
noncomputable def u6(f g:DE):DE:=λρ=>(f ρ).bind λx=>match x with
 | .bool true=>g ρ
 | .bool false=>Ob<|.bool false
 | _=>Oa
noncomputable def dOr(f g:DE):DE:=λρ=>(f ρ).bind λx=>match x with
 | .bool true=>Ob<|.bool true
 | .bool false=>g ρ
 | .none=>g ρ
 | .tuple (y::r)=>Ob<|.tuple (y::r)
 | _=>Oa
def by9{a b:Expr}{T5:List Expr}{pos:Pos}{ta tb:TE}(ha:PE X a ta)(hb:PE X (.BoolOp .Or (b::T5) pos) tb):PE X (.BoolOp .Or (a::b::T5) pos) (λσ H Q=>ta σ H λx H1=>∃k,cz2 X.K x H1 k/\if k=true then Q x H1 else tb σ H1 Q):=by
 intro pins s σ H Q I h;refine BoolOp_or (thn (ha pins s σ H _ I h) λv s1 ⟨x,H1,I1,r1,k,tk,q1⟩=>?_);refine thn (bu2 pins s1 σ H1 x v (λc H2=>c=k/\H2=H1) I1 r1 ⟨k,tk,rfl,rfl⟩) λc s2 ⟨H2,I2,e1,e2⟩=>?_
 subst e1 e2;cases c with
 | false=>exact hb pins s2 σ _ Q I2 q1
 | true=>exact⟨x,_,I2,r1,q1⟩
noncomputable def bK2(f:DE):DE:=λρ=>(f ρ).bind λx=>match x with
 | .bool c=>Ob<|.bool (!c)
 | _=>Oa
def cw1{a b:Expr}{T5:List Expr}{f g:DE}{pos:Pos}(ha:JE X a f)(hb:JE X (.BoolOp .And (b::T5) pos) g):JE X (.BoolOp .And (a::b::T5) pos) (u6 f g):=λρ d q=>by
 obtain⟨x,e1,q⟩:=xbm q;split at q
 .refine B4 (aG8 (ha ρ _ e1)<|hb ρ d q) λσ H Q ⟨H0,Hf,s,sl,k⟩=>⟨H0,Hf,s,sl,λv H1 Hf1 g1 r1=>⟨true,r1,ao1 ⟨H0,Hf1,g1.sub,sl.grow g1,λu H2 Hf2 g2 r2=>k u H2 Hf2 (g1.trans g2) r2⟩⟩⟩
 .cases q;refine B4 (aG8 (tb:=λ_ _ _=>False) (ha ρ _ e1) λ_ _ _ _ _ _ h=>h.elim) λσ H Q ⟨H0,Hf,s,sl,k⟩=>⟨H0,Hf,s,sl,λv H1 Hf1 g1 r1=>⟨false,r1,ao2<|k _ H1 Hf1 g1 rfl⟩⟩
 .cases q
def cH5{a b:Expr}{T5:List Expr}{f g:DE}{pos:Pos}(ha:JE X a f)(hb:JE X (.BoolOp .Or (b::T5) pos) g):JE X (.BoolOp .Or (a::b::T5) pos) (dOr f g):=λρ d q=>by
 obtain⟨x,e1,q⟩:=xbm q;split at q
 .cases q;refine B4 (cd8 (tb:=λ_ _ _=>False) (ha ρ _ e1) λ_ _ _ _ _ _ h=>h.elim) λσ H Q ⟨H0,Hf,s,sl,k⟩=>⟨H0,Hf,s,sl,λv H1 Hf1 g1 r1=>⟨true,r1,ao1<|k _ H1 Hf1 g1 rfl⟩⟩
 .refine B4 (cd8 (ha ρ _ e1)<|hb ρ d q) λσ H Q ⟨H0,Hf,s,sl,k⟩=>⟨H0,Hf,s,sl,λv H1 Hf1 g1 r1=>⟨false,r1,ao2 ⟨H0,Hf1,g1.sub,sl.grow g1,λu H2 Hf2 g2 r2=>k u H2 Hf2 (g1.trans g2) r2⟩⟩⟩
 .refine B4 (by9 (ha ρ _ e1)<|hb ρ d q) λσ H Q ⟨H0,Hf,s,sl,k⟩=>⟨H0,Hf,s,sl,λv H1 Hf1 g1 r1=>?_⟩
  cases r1;exact⟨false,rfl,ao2 ⟨H0,Hf1,g1.sub,sl.grow g1,λu H2 Hf2 g2 r2=>k u H2 Hf2 (g1.trans g2) r2⟩⟩
 .cases q;refine B4 (by9 (tb:=λ_ _ _=>False) (ha ρ _ e1) λ_ _ _ _ _ _ h=>h.elim) λσ H Q ⟨H0,Hf,s,sl,k⟩=>⟨H0,Hf,s,sl,λv H1 Hf1 g1 r1=>?_⟩
  obtain⟨p,vs,e,h2,h3⟩:=id r1;subst e;refine⟨true,.inr<|.inl ⟨vs,C7 g1.sub h2,?_⟩,ao1<|k _ H1 Hf1 g1 r1⟩;obtain⟨_,_,e,_⟩:=h3;subst e;rfl
 .cases q
def cv5(ha:JE X a f):JE X (.UnaryOp .Not a pos) (bK2 f):=λρ d q=>by
 obtain⟨x,e1,q⟩:=xbm q;split at q
 .cases q;exact B4 (cm4<|ha ρ _ e1) λσ H Q ⟨H0,Hf,s,sl,k⟩=>⟨H0,Hf,s,sl,λv H1 Hf1 g1 r1=>⟨_,r1,k _ H1 Hf1 g1 rfl⟩⟩
 .cases q
noncomputable def bk5:D->Option Bool
 | .none=>Ob false
 | .bool b=>Ob b
 | .int i=>Ob<|i != 0
 | .str x=>if x.length<=16777216 then Ob ((x.length:Int) != 0) else Oa
 | .list ds=>Ob (!ds.isEmpty)
 | .tuple ds=>Ob (!ds.isEmpty)
 | .dict _=>Oa
noncomputable def Q9(f:DE):Rho->Option Bool:=λρ=>(f ρ).bind bk5
def cs7(ha:JE X a f)(he:∀whole,isTrue a X.env whole=(do let v ← whole;standAt a.pos;holding [v] (truthy v)):=by intro _;rfl):JT X a (Q9 f):=λρ c q=>by
 obtain⟨d,e1,e2⟩:=xbm q;refine ac5 (aL9 (ha ρ d e1) he) λσ H Q ⟨H0,Hf,s,sl,k⟩=>⟨H0,Hf,s,sl,λv H1 Hf1 g1 r1=>⟨c,?_,k H1 Hf1 g1⟩⟩
 cases d with
 | none=>cases e2;cases r1;rfl
 | bool b=>cases e2;cases r1;rfl
 | int i=>cases e2;cases r1;rfl
 | str x =>
  simp only[bk5]at e2;split at e2
  .rename_i hx;cases e2;cases r1;exact⟨by rw[dL];exact hx,rfl⟩
  .cases e2
 | list ds =>
  cases e2;obtain⟨a,vs,rfl,h2,h3⟩:=r1;refine .inl ⟨vs,K3 g1.sub h2,?_⟩;have:=h3.length;cases ds<;>cases vs<;>simp_all
 | tuple ds =>
  cases e2;obtain⟨a,vs,rfl,h2,h3⟩:=r1;refine .inr (.inl ⟨vs,C7 g1.sub h2,?_⟩);have:=h3.length;cases ds<;>cases vs<;>simp_all
 | dict _=>cases e2
noncomputable def k6:D->Option Bool
 | .bool b=>Ob b
 | _=>Oa
noncomputable def tB2(h:D->D->Option D)(f g:DE):Rho->Option Bool:=λρ=>(A4 h f g ρ).bind k6
def bj0(h:k6 d=Ob c):d=.bool c:=by
 cases d<;>simp[k6]at h;subst h;rfl
def cs9(o:OpD X (dM op) h)(ha:JE X a f)(hb:JE X b g)(hm:behindInMarks op b=false:=by first|exact aH4 _|rfl):JT X (.Compare a [op] [b] pos) (tB2 h f g):=λρ c q=>by
 obtain⟨d,q,e⟩:=xbm q;obtain⟨x,h1,q⟩:=xbm q;obtain⟨y,h2,h3⟩:=xbm q;have:=bj0 e;subst this;refine ac5 (be4 (o x y _ h3) (ha ρ x h1) (hb ρ y h2) hm) λσ H Q ⟨H0,Hf,s,sl,k⟩=>?_
 refine⟨H0,Hf,s,sl,λv H1 Hf1 g1 r1=>⟨H0,Hf1,g1.sub,sl.grow g1,λu H2 Hf2 g2 r2=>?_⟩⟩;exact⟨Hf2,g2.sub,r1.mono g2.ext,r2,λw H3 Hf3 g3 r3=>⟨c,r3,k H3 Hf3<|(g1.trans g2).trans g3⟩⟩
noncomputable def bc7(f g:Rho->Option Bool):Rho->Option Bool:=λρ=>(f ρ).bind λc=>if c then g ρ else Ob false
noncomputable def v4(f g:Rho->Option Bool):Rho->Option Bool:=λρ=>(f ρ).bind λc=>if c then Ob true else g ρ
noncomputable def R9(f:Rho->Option Bool):Rho->Option Bool:=λρ=>(f ρ).map λc=>!c
def aG5(h:PW X e t)(i:∀σ H Q,t' σ H Q->t σ H Q):PW X e t':=λwhole pins s σ H Q I q=>h whole pins s σ H Q I<|i σ H Q q
def bD1(h:JW X e f):JT X e f:=λρ c q=>(h ρ c q).pt
def bW6(h:JT X a f):JW X (.BoolOp .And [a] pos) f:=λρ c q=>bS3<|h ρ c q
def cs3(h:JT X a f):JW X (.BoolOp .Or [a] pos) f:=λρ c q=>cl1<|h ρ c q
def cs4{a b:Expr}{T5:List Expr}{f g:Rho->Option Bool}{pos:Pos}(ha:JT X a f)(hb:JW X (.BoolOp .And (b::T5) pos) g):JW X (.BoolOp .And (a::b::T5) pos) (bc7 f g):=λρ c q=>by
 obtain⟨x,e1,q⟩:=xbm q;cases x with
 | true=>exact aG5 (bx5 (ha ρ _ e1) (hb ρ c (by simpa using q))) λσ H Q ⟨H0,Hf,s,sl,k⟩=>⟨H0,Hf,s,sl,λH1 Hf1 g1=>ao1 ⟨H0,Hf1,g1.sub,sl.grow g1,λH2 Hf2 g2=>k H2 Hf2<|g1.trans g2⟩⟩
 | false =>
  have:c=false:=by simpa using q.symm
  subst this;exact aG5 (bx5 (tB':=λ_ _ _=>False) (ha ρ _ e1) λ_ _ _ _ _ _ _ h=>h.elim) λσ H Q ⟨H0,Hf,s,sl,k⟩=>⟨H0,Hf,s,sl,λH1 Hf1 g1=>ao2<|k H1 Hf1 g1⟩
def cG8{a b:Expr}{T5:List Expr}{f g:Rho->Option Bool}{pos:Pos}(ha:JT X a f)(hb:JW X (.BoolOp .Or (b::T5) pos) g):JW X (.BoolOp .Or (a::b::T5) pos) (v4 f g):=λρ c q=>by
 obtain⟨x,e1,q⟩:=xbm q;cases x with
 | false=>exact aG5 (cd7 (ha ρ _ e1) (hb ρ c (by simpa using q))) λσ H Q ⟨H0,Hf,s,sl,k⟩=>⟨H0,Hf,s,sl,λH1 Hf1 g1=>ao2 ⟨H0,Hf1,g1.sub,sl.grow g1,λH2 Hf2 g2=>k H2 Hf2<|g1.trans g2⟩⟩
 | true =>
  have:c=true:=by simpa using q.symm
  subst this;exact aG5 (cd7 (tB':=λ_ _ _=>False) (ha ρ _ e1) λ_ _ _ _ _ _ _ h=>h.elim) λσ H Q ⟨H0,Hf,s,sl,k⟩=>⟨H0,Hf,s,sl,λH1 Hf1 g1=>ao1<|k H1 Hf1 g1⟩
def cs8(ha:JT X a f):JT X (.UnaryOp .Not a pos) (R9 f):=λρ c q=>by
 obtain⟨x,e1,e2⟩:=xmo q;subst e2;exact ac5 (bx6<|ha ρ x e1) λσ H Q ⟨H0,Hf,s,sl,k⟩=>⟨H0,Hf,s,sl,λH1 Hf1 g1=>k H1 Hf1 g1⟩
noncomputable def aP8(t:Rho->Option Bool)(f g:DE):DE:=λρ=>(t ρ).bind λc=>if c then f ρ else g ρ
def cv9(hc:JT X c t)(ha:JE X a f)(hb:JE X b g):JE X (.IfExp c a b pos) (aP8 t f g):=λρ d q=>by
 obtain⟨x,e1,q⟩:=xbm q;cases x with
 | true=>exact B4 (aM3 (tb:=λ_ _ _=>False) (hc ρ _ e1) (ha ρ d (by simpa using q)) (λ_ _ _ _ _ _ h=>h.elim)) λσ H Q ⟨H0,Hf,s,sl,k⟩=>⟨H0,Hf,s,sl,λH1 Hf1 g1=>ao1 ⟨H0,Hf1,g1.sub,sl.grow g1,λu H2 Hf2 g2 r2=>k u H2 Hf2 (g1.trans g2) r2⟩⟩
 | false=>exact B4 (aM3 (ta:=λ_ _ _=>False) (hc ρ _ e1) (λ_ _ _ _ _ _ h=>h.elim) (hb ρ d (by simpa using q))) λσ H Q ⟨H0,Hf,s,sl,k⟩=>⟨H0,Hf,s,sl,λH1 Hf1 g1=>ao2 ⟨H0,Hf1,g1.sub,sl.grow g1,λu H2 Hf2 g2 r2=>k u H2 Hf2 (g1.trans g2) r2⟩⟩
noncomputable def dIx(f:Rho->Option (Bool×List D))(g:DE):DE:=λρ=>(f ρ).bind λq=>(g ρ).bind λi=>match i with
 | .int i=>atI q.2 i
 | _=>Oa
def aG0{K:aa}{H:Hp}{ds:List D}{vs:List V}{i:Int}{d:D}(h:Reps K H ds vs)(e:atI ds i=Ob d):∃v,atI vs i=Ob v/\Rep K H d v:=by
 unfold atI at e ⊢;rw[h.length];obtain⟨j,h1,h2⟩:=xbm e;obtain⟨v,h3,h4⟩:=h.get h2;exact⟨v,by rw[h1];exact h3,h4⟩
def cH6{a b:Expr}{f:Rho->Option (Bool×List D)}{g:DE}{pos:Pos}(ha:JQ X a f)(hb:JE X b g)(hs:am2 b:=by intro _ _;rfl):JE X (.Subscript a b pos) (dIx f g):=λρ d q=>by
 obtain⟨⟨t,ds⟩,h1,q⟩:=xbm q;obtain⟨y,h2,h3⟩:=xbm q;split at h3
 .refine B4 (bz3 aX1 (ha ρ t ds h1) (hb ρ _ h2) hs) λσ H Q ⟨H0,Hf,s,sl,k⟩=>?_
  refine⟨H0,Hf,s,sl,λv H1 Hf1 g1 ⟨p,vs,e1,e2,e3⟩=>⟨H0,Hf1,g1.sub,sl.grow g1,λu H2 Hf2 g2 r2=>?_⟩⟩;obtain⟨w,q1,q2⟩:=aG0 (e3.mono g2.ext) h3;cases t with
  | true=>exact .inr<|.inl ⟨p,vs,_,w,e1,r2,C7 g2.big e2,q1,k w H2 Hf2 (g1.trans g2) q2⟩
  | false=>exact .inl ⟨p,vs,_,w,e1,r2,K3 g2.big e2,q1,k w H2 Hf2 (g1.trans g2) q2⟩
 .cases h3
noncomputable def u7(xs:List D)(lo hi:Option Int):List D:=(xs.drop<|HT.sIx xs.length 0 lo).take<|HT.sIx xs.length xs.length hi - HT.sIx xs.length 0 lo
def av9{K:aa}{H:Hp}{ds:List D}{vs:List V}(h:Reps K H ds vs)(lo hi:Option Int):Reps K H (u7 ds lo hi) (aP9 vs lo hi):=by
 unfold u7 aP9;rw[h.length];exact(h.drop _).take _
noncomputable def JO(X:Cx)(e:Option Expr)(f:Rho->Option (Option Int)):Prop:=∀ρ o,f ρ=Ob o->PO X e (λσ H Q=>∃H0 Hf,B8 Hf H/\Slots X.K H0 ρ σ H Hf/\∀H' Hf',Grow H Hf H' Hf'->Q o H')
noncomputable def U7:Rho->Option (Option Int):=λ_=>Ob Oa
noncomputable def bh7:D->Option Int
 | .int i=>Ob i
 | _=>Oa
noncomputable def O5(f:DE):Rho->Option (Option Int):=λρ=>(f ρ).bind λd=>(bh7 d).map Ob
def bX9:JO X Oa U7:=λρ o q=>by
 cases q;intro pins s σ H Q I ⟨H0,Hf,ss,sl,k⟩;exact bT1 pins s σ H Q I<|k H Hf (Grow.refl ss)
def bX8(h:JE X e f):JO X (Ob e) (O5 f):=λρ o q=>by
 obtain⟨d,e1,e2⟩:=xbm q;obtain⟨i,e3,e4⟩:=xmo e2;subst e4;cases d<;>simp[bh7]at e3;subst e3;intro pins s σ H Q I ⟨H0,Hf,ss,sl,k⟩;exact bT0 (h ρ _ e1) pins s σ H Q I ⟨H0,Hf,ss,sl,λv H1 Hf1 g1 r1=>⟨_,r1,k H1 Hf1 g1⟩⟩
noncomputable def aA2(f:DE)(lo hi:Rho->Option (Option Int)):DE:=λρ=>(f ρ).bind λd=>(lo ρ).bind λl=>(hi ρ).bind λh=>match d with
 | .tuple xs=>Ob<|.tuple (u7 xs l h)
 | _=>Oa
def af7{prog:dO}{w:World}{A:dP}{E:eP->eQ->Prop}{s:eQ}{t sl:eR}{items:Array eP}{vl vu:eP}{lo hi:Option Int}{Q:eP->eQ->Prop}(ht:IsTup s.heap t items)(hs:s.heap.IsSliceOf sl vl vu .none)(pl:IsPart vl lo)(pu:IsPart vu hi)
  (hw:HT.sIx items.size 0 lo=0/\HT.sIx items.size items.size hi=items.size) (h:Q (.ref t) s):eh (ez prog w) A (getItem (.ref t)<|.ref sl) Q E s:=by
 obtain⟨os,hos,hcs,hds⟩:=id hs;have hTs:s.TypeIs (.ref sl) "slice" := ⟨os,hos,hcs⟩;unfold getItem
 try with_reducible refine wpAny_holding ?_
 first|refine dB (dD ?_)|skip
 refine dB (wpAny_sequenceKey ht.typeIs (by decide) ?_)
 refine dB (wpAny_callSpecial?_slot (name:=Str.ofString "__getitem__") ht.typeIs PyProof.Rows.slot_tuple_getitem
  (wpAny_call_entry PyProof.Rows.slot_tuple_getitem ht.typeIs entry_tuple_getitem ?_ (args_tuple_getitem _ _)))
 show eh _ _ (Builtin.Tuple.tupleItemsOf (.ref t) >>= _) _ _ s;refine dB (tupleItemsOf_ ht ?_);refine dB (wpAny_typeOf hTs ?_);rw[if_pos (by decide)];refine dB (HT.sliceApplied_gen hs pl pu ?_);have hyes:((((HT.sIx items.size 0 lo:Nat):Int)==0&&(1:Int)==1&&(HT.sIx items.size items.size hi - HT.sIx items.size 0 lo)==items.size)=true):=by rw[hw.1,hw.2];simp
 show eh _ _ (if(((HT.sIx items.size 0 lo:Nat):Int)==0&&(1:Int)==1&&(HT.sIx items.size items.size hi - HT.sIx items.size 0 lo)==items.size)=true then _ else _) _ _ s;rw[if_pos hyes];unfold Builtin.Tuple.tupleIsExact;refine dB (dB<|wpAny_typeOf ht.typeIs (dD ?_));rw[if_pos (by decide +kernel)];exact dB<|wpAny_rule (dD ⟨_,rfl,dD h⟩)
def aF4:SlR X (λx lo hi H Q=>∃a xs,x=.ref a/\SqT X.K H a xs/\(HT.sIx xs.length 0 lo=0/\HT.sIx xs.length xs.length hi=xs.length)/\Q (.ref a) H):=by
 intro pins s σ H x v vl vu lo hi sl Q I rx hs pl pu h;obtain⟨a,xs,rfl,hx,hw,q⟩:=h;cases rx;obtain⟨its,r,ht,hz⟩:=I.tuple hx;have hlen:its.toArray.size=xs.length:=by rw[ai];exact r.length.symm
 refine⟨"tuple", _,PyProof.Rows.slot_tuple_getitem.lookup,ht.typeIs,?_⟩;exact af7 ht hs pl pu (by rw[hlen];exact hw) ⟨.ref a,H,I,rfl,q⟩
def bF0{a:Expr}{lo hi:Option Expr}{f:DE}{l h:Rho->Option (Option Int)}{pos p2:Pos}(ha:JE X a f)(hl:JO X lo l)(hh:JO X hi h):JE X (.Subscript a (.Slice lo hi Oa p2) pos) (aA2 f l h):=λρ d q=>by
 obtain⟨x,e1,q⟩:=xbm q;obtain⟨y,e2,q⟩:=xbm q;obtain⟨z,e3,q⟩:=xbm q;cases x with
 | tuple xs =>
  cases q;refine B4 (aj9 (ck4.or aF4) (ha ρ _ e1) (hl ρ y e2)<|hh ρ z e3) λσ H Q ⟨H0,Hf,s,sl,k⟩=>?_
  refine⟨H0,Hf,s,sl,λv H1 Hf1 g1 ⟨p,vs,q1,q2,q3⟩=>⟨H0,Hf1,g1.sub,sl.grow g1,λH2 Hf2 g2=>⟨H0,Hf2,g2.sub,sl.grow<|g1.trans g2,λH3 Hf3 g3=>?_⟩⟩⟩;subst q1;have q2':=C7 (g2.trans g3).ext q2;have q3':=q3.mono (g2.trans g3).ext;by_cases c:HT.sIx vs.length 0 y=0/\HT.sIx vs.length vs.length z=vs.length
  .refine .inr ⟨p,vs,rfl,C7 g3.sub q2',c,k _ H3 Hf3 ((g1.trans g2).trans g3) ⟨p,vs,rfl,q2',?_⟩⟩
   have:u7 xs y z=xs:=by
    unfold u7;rw[← q3.length,c.1,c.2];simp[q3.length]
   rw[this];exact q3'
  .refine .inl ⟨p,vs,rfl,C7 g3.sub q2',c,λp' hp=>?_⟩;exact k _ _ _ (((g1.trans g2).trans g3).trans<|Grow.laid g3.sub hp) ⟨p',_,rfl,SqT.of B3,(av9 q3' y z).mono<|F7 (g3.sub.free hp)⟩
 | _=>cases q
end
section
variable {X:Cx}
def cy7:dR "len" = Ob (.builtin "len"):=PySem.boot_len
def cy8:dR "isinstance" = Ob (.builtin "isinstance"):=by decide +kernel
def bM2:dR "int" = Ob (.type "int"):=by decide +kernel
def bj1:dR "list" = Ob (.type "list"):=by decide +kernel
def bM1:dR "tuple" = Ob (.type "tuple"):=by decide +kernel
def cy4:dR "zip" = Ob (.type "zip"):=by decide +kernel
noncomputable def Z0(f:Rho->Option (Bool×List D)):DE:=λρ=>(f ρ).map λq=>.int q.2.length
def cv7(hg:Gl X "len")(hm:X.mg "len" = Oa)(h:JQ X e f)(he:dI [e] X.env=[(false,eval e X.env)]:=by rfl):JE X (.Call (.Name "len" p) [e] [] pos) (Z0 f):=λρ d q=>by
 obtain⟨⟨t,ds⟩,h1,h2⟩:=xmo q;subst h2;refine B4 (v8 aJ3 hg hm cy7 (K5 (h ρ t ds h1) Q6 he) (he:=he)) λσ H Q ⟨H0,Hf,s,sl,k⟩=>?_
 refine⟨H0,Hf,s,sl,λv H1 Hf1 g1 ⟨a,vs,e1,e2,e3⟩=>⟨a,vs,by rw[e1],?_,?_⟩⟩
 .cases t with
  | true=>exact .inr e2
  | false=>exact .inl e2
 .exact k _ H1 Hf1 g1 (by rw[e3.length];rfl)
def bE8(hg:Gl X "tuple")(hm:X.mg "tuple" = Oa)(h:JQ X e f)(hz:∀ρ ds,f ρ≠Ob (true,ds)\/True:=by intros;exact .inr trivial)(he:dI [e] X.env=[(false,eval e X.env)]:=by rfl):
  JE X (.Call (.Name "tuple" p) [e] [] pos) (λρ=>(f ρ).bind λq=>if q.1=true then Oa else Ob (.tuple q.2)):=λρ d q=>by
 obtain⟨⟨t,ds⟩,h1,h2⟩:=xbm q;cases t with
 | true=>simp at h2
 | false =>
  simp only[bg,if_false,bc.injEq]at h2;subst h2;refine B4 (v7 aA5 hg hm bM1 (K5 (h ρ false ds h1) Q6 he) (he:=he)) λσ H Q ⟨H0,Hf,s,sl,k⟩=>?_
  refine⟨H0,Hf,s,sl,λv H1 Hf1 g1 ⟨a,vs,e1,e2,e3⟩=>⟨a,vs,by rw[e1],.inl ⟨e2,λl hl=>?_⟩⟩⟩;exact k _ _ _ (g1.trans<|Grow.laid g1.sub hl) ⟨l,vs,rfl,SqT.of B3,e3.mono<|F7 (g1.sub.free hl)⟩
def bY0(hg:Gl X "list")(hm:X.mg "list" = Oa)(h:JQ X e f)(he:dI [e] X.env=[(false,eval e X.env)]:=by rfl):JN X (.Call (.Name "list" p) [e] [] pos) (λρ=>(f ρ).map λq=>q.2):=λρ ds' q=>by
 obtain⟨⟨t,ds⟩,h1,h2⟩:=xmo q;subst h2;refine B4 (v7 am0 hg hm bj1 (K5 (h ρ t ds h1) Q6 he) (he:=he)) λσ H Q ⟨H0,Hf,s,sl,k⟩=>?_
 refine⟨H0,Hf,s,sl,λv H1 Hf1 g1 ⟨a,vs,e1,e2,e3⟩=>⟨a,vs,by rw[e1],?_,λl hl=>?_⟩⟩
 .cases t with
  | true=>exact .inr e2
  | false=>exact .inl e2
 .exact k _ _ _ (g1.trans<|Grow.made g1.sub hl) ⟨l,vs,rfl,g1.big.free hl,B3,g1.sub.free hl,e3⟩
noncomputable def aZ3(f:DE):DE:=λρ=>(f ρ).bind λd=>match d with
 | .int i=>Ob<|.int i
 | .bool b=>Ob<|.int (if b then 1 else 0)
 | _=>Oa
def bF2(hg:Gl X "int")(hm:X.mg "int" = Oa)(h:JE X e f)(he:dI [e] X.env=[(false,eval e X.env)]:=by rfl):JE X (.Call (.Name "int" p) [e] [] pos) (aZ3 f):=λρ d q=>by
 obtain⟨x,h1,h2⟩:=xbm q;split at h2
 .cases h2;exact B4 (v7 aD3 hg hm bM2 (K5 (h ρ _ h1) Q6 he) (he:=he)) λσ H Q ⟨H0,Hf,s,sl,k⟩ =>⟨H0,Hf,s,sl,λv H1 Hf1 g1 r=>.inl ⟨_,by rw[show v=_ from r],k _ H1 Hf1 g1 rfl⟩⟩
 .cases h2;exact B4 (v7 aD3 hg hm bM2 (K5 (h ρ _ h1) Q6 he) (he:=he)) λσ H Q ⟨H0,Hf,s,sl,k⟩ =>⟨H0,Hf,s,sl,λv H1 Hf1 g1 r=>.inr ⟨_,by rw[show v=_ from r],k _ H1 Hf1 g1 rfl⟩⟩
 .cases h2
noncomputable def cL6:List D->Option Bool
 | []=>Ob true
 | .bool b::r=>(cL6 r).map λc=>b&&c
 | _::_=>Oa
noncomputable def aJ2(f:Rho->Option (Bool×List D)):DE:=λρ=>(f ρ).bind λq=>if q.1=true then Oa else(cL6 q.2).map eI
noncomputable def cw5(T:String)(d:D):Option Bool:=match d with
 | .int _=>(match T with | "int" => Ob true | "bool" => Ob false | "str" => Ob false | "tuple" => Ob false | "list" => Ob false|_=>Oa)
 | .bool _=>(match T with | "int" => Ob true | "bool" => Ob true | "str" => Ob false | "tuple" => Ob false | "list" => Ob false|_=>Oa)
 | .none=>(match T with | "int" => Ob false | "bool" => Ob false | "str" => Ob false | "tuple" => Ob false | "list" => Ob false|_=>Oa)
 | .str _=>(match T with | "int" => Ob false | "bool" => Ob false | "str" => Ob true | "tuple" => Ob false | "list" => Ob false|_=>Oa)
 | .tuple _=>(match T with | "int" => Ob false | "bool" => Ob false | "str" => Ob false | "tuple" => Ob true | "list" => Ob false|_=>Oa)
 | .list _=>(match T with | "int" => Ob false | "bool" => Ob false | "str" => Ob false | "tuple" => Ob false | "list" => Ob true|_=>Oa)
 | _=>Oa
noncomputable def ao7(T:String)(f:DE):DE:=λρ=>(f ρ).bind λd=>(cw5 T d).map eI
noncomputable def spF(K:aa)(n:Nat)(F:List D->Option D):Sp:=λvs H Q _=>vs.length=n/\∃Hf ds d,B8 Hf H/\Reps K Hf ds vs/\F ds=Ob d/\∀v H' Hf',Grow H Hf H' Hf'->Rep K Hf' d v->Q v H'
noncomputable def A2(F:List D->Option D)(f:Rho->Option (List D)):DE:=λρ=>(f ρ).bind F
def bh4(Fk:FnOk X.prog X.w X.K X.mg X.base CX0 k f fd ps (spF X.K n F))(hr:Room k X.A)(hg:Gl X x)(hm:X.mg x=Ob (.ref f))(hk:aG X.K (.ref f)=true)(hb:M3 X.K fd ps [])
  (ha:JA X (e::es) g) (hn:(e::es).length=n:=by rfl) (hdb:(x==("__debug__" : Str))=false:=by decide) (he:dI (e::es) X.env=(false,eval e X.env)::dI es X.env:=by rfl) (hpl:(backTo pos<|dI es X.env).any (·.1)=false:=by rfl) :
  JE X (.Call (.Name x p) (e::es) [] pos) (A2 F g):=λρ d q=>by
 obtain⟨ds,h1,h2⟩:=xbm q;refine B4 (aG7 Fk hr hg hm hk hb .nil aw2 (λpos pins s σ H Q I t=>ha.run ρ ds h1 pos pins s σ H Q I t) hdb he hpl) λσ H Q ⟨H0,Hf,s,sl,kk⟩=>?_
 refine⟨H0,Hf,s,sl,λvs H1 Hf1 g1 r1=>⟨?_,Hf1,ds,d,g1.sub,by rw[aA];exact r1,h2,λv H2 Hf2 g2 r2=>kk v H2 Hf2 (g1.trans g2) r2⟩⟩;rw[aA,r1.length,ha.len ρ ds h1,hn]
inductive Fl where
 | nx (ρ:Rho)
 | rt (d:D)
 | bk (ρ:Rho)
 | ct (ρ:Rho)
noncomputable abbrev DS:=Rho->Option Fl
structure At (K:aa) (H0 Hf0:Hp) (ρ:Rho) (σ:L2.St) (H Hf:Hp):Prop where
 gr:Grow H0 Hf0 H Hf
 sl:Slots K H0 ρ σ H Hf
noncomputable def Fl.ends(K:aa)(H0 Hf0 Hf:Hp)(En:Ends):Fl->Prop
 | .nx ρ=>∀σ' H' Hf',At K H0 Hf0 ρ σ' H' Hf'->B8 Hf Hf'->En.nx σ' H'
 | .bk ρ=>∀σ' H' Hf',At K H0 Hf0 ρ σ' H' Hf'->B8 Hf Hf'->En.bk σ' H'
 | .ct ρ=>∀σ' H' Hf',At K H0 Hf0 ρ σ' H' Hf'->B8 Hf Hf'->En.ct σ' H'
 | .rt d=>∀v H' Hf',Grow H0 Hf0 H' Hf'->Rep K Hf' d v->En.rt v H'
noncomputable def tJS(K:aa)(H0 Hf0:Hp)(ρ:Rho)(fl:Fl):TS:=λEn σ H=>∃Hf,At K H0 Hf0 ρ σ H Hf/\fl.ends K H0 Hf0 Hf En
noncomputable def JS(X:Cx)(st:Stmt)(f:DS):Prop:=∀ρ fl,f ρ=Ob fl->∀H0 Hf0,PS X st<|tJS X.K H0 Hf0 ρ fl
noncomputable def JSs(X:Cx)(sts:List Stmt)(f:DS):Prop:=∀ρ fl,f ρ=Ob fl->∀H0 Hf0,PSs X sts<|tJS X.K H0 Hf0 ρ fl
def L9{st:Stmt}{t t':TS}(h:PS X st t)(i:∀En σ H,t' En σ H->t En σ H):PS X st t':=λpins s σ H En I q=>h pins s σ H En I<|i En σ H q
def Z8{st:List Stmt}{t t':TS}(h:PSs X st t)(i:∀En σ H,t' En σ H->t En σ H):PSs X st t':=λpins s σ H En I q=>h pins s σ H En I<|i En σ H q
theorem At.grow{K:aa}{H0 Hf0 H Hf H' Hf':Hp}{ρ:Rho}{σ:L2.St}(a:At K H0 Hf0 ρ σ H Hf)(g:Grow H Hf H' Hf'):At K H0 Hf0 ρ σ H' Hf':=⟨a.gr.trans g,a.sl.grow g⟩
def Fl.ends_mono{K:aa}{H0 Hf0 Hf Hf':Hp}{En:Ends}{fl:Fl}(h:fl.ends K H0 Hf0 Hf En)(e:B8 Hf Hf'):fl.ends K H0 Hf0 Hf' En:=by
 cases fl with
 | nx ρ=>exact λσ' H' Hf'' a s=>h σ' H' Hf'' a<|e.trans s
 | bk ρ=>exact λσ' H' Hf'' a s=>h σ' H' Hf'' a<|e.trans s
 | ct ρ=>exact λσ' H' Hf'' a s=>h σ' H' Hf'' a<|e.trans s
 | rt d=>exact h
noncomputable def K9:DS:=λρ=>Ob<|.nx ρ
noncomputable def A7(f g:DS):DS:=λρ=>(f ρ).bind λfl=>match fl with
 | .nx ρ'=>g ρ'
 | fl=>Ob fl
def bX0:JSs X [] K9:=λρ fl q H0 Hf0=>by
 cases q;exact Z8 be6 λEn σ H ⟨Hf,a,e⟩=>e σ H Hf a<|B8.refl _
def bD3{st:Stmt}{sts:List Stmt}{f g:DS}(h1:JS X st f)(h2:JSs X sts g):JSs X (st::sts) (A7 f g):=λρ fl q H0 Hf0=>by
 obtain⟨fl1,e1,q⟩:=xbm q;cases fl1 with
 | nx ρ' =>refine Z8 (j7 (h1 ρ _ e1 H0 Hf0) (h2 ρ' fl q H0 Hf0)) λEn σ H ⟨Hf,a,e⟩=>⟨Hf,a,λσ' H' Hf' a' s'=>⟨Hf',a',Fl.ends_mono e s'⟩⟩
 | rt d=>cases q;exact Z8 (j7 (h1 ρ _ e1 H0 Hf0) T6) λEn σ H ⟨Hf,a,e⟩=>⟨Hf,a,e⟩
 | bk ρ'=>cases q;exact Z8 (j7 (h1 ρ _ e1 H0 Hf0) T6) λEn σ H ⟨Hf,a,e⟩=>⟨Hf,a,e⟩
 | ct ρ'=>cases q;exact Z8 (j7 (h1 ρ _ e1 H0 Hf0) T6) λEn σ H ⟨Hf,a,e⟩=>⟨Hf,a,e⟩
def bW9{st:Stmt}{f:DS}(h1:JS X st f):JSs X [st] f:=λρ fl q H0 Hf0=>be5<|h1 ρ fl q H0 Hf0
noncomputable def A8(f:DE):DS:=λρ=>(f ρ).map Fl.rt
def bD5{e:Expr}{f:DE}{pos:Pos}(h:JE X e f):JS X (.Return (Ob e) pos) (A8 f):=λρ fl q H0 Hf0=>by
 obtain⟨d,e1,e2⟩:=xmo q;subst e2;exact L9 (bx8<|h ρ d e1) λEn σ H ⟨Hf,a,e⟩=>⟨H0,Hf,a.gr.sub,a.sl,λv H' Hf' g r=>e v H' Hf' (a.gr.trans g) r⟩
noncomputable def sIf(t:Rho->Option Bool)(f g:DS):DS:=λρ=>(t ρ).bind λc=>if c then f ρ else g ρ
def cH0{c:Expr}{a b:List Stmt}{t:Rho->Option Bool}{f g:DS}{pos:Pos}(hc:JT X c t)(ha:JSs X a f)(hb:JSs X b g):JS X (.If c a b pos) (sIf t f g):=λρ fl q H0 Hf0=>by
 obtain⟨x,e1,q⟩:=xbm q;cases x with
 | true =>refine L9 (be8 (hc ρ _ e1) (ha ρ fl (by simpa using q) H0 Hf0) T6) λEn σ H ⟨Hf,a,e⟩=>⟨H0,Hf,a.gr.sub,a.sl,λH' Hf' g=>ao1 ⟨Hf',a.grow g,Fl.ends_mono e g.ext⟩⟩
 | false =>refine L9 (be8 (hc ρ _ e1) T6 (hb ρ fl (by simpa using q) H0 Hf0)) λEn σ H ⟨Hf,a,e⟩=>⟨H0,Hf,a.gr.sub,a.sl,λH' Hf' g=>ao2 ⟨Hf',a.grow g,Fl.ends_mono e g.ext⟩⟩
theorem Slots.set{K:aa}{H0 H Hf:Hp}{ρ:Rho}{σ:L2.St}{i:Nat}{d:D}{v:V}(s:Slots K H0 ρ σ H Hf)(r:Rep K Hf d v):Slots K H0 (ρ.set i<|Ob (.val d)) (σ.set i<|Ob v) H Hf:=by
 refine⟨by simp[s.len],λj b e=>?_,λj k ds es a h1 h2 h3 h4=>?_⟩
 .by_cases q:i=j
  .subst q
   have hi:i < ρ.length:=by
    have:=(ag.mp e).1;simpa using this
   have hi':i < σ.length:=by rw[← s.len];exact hi
   rw[aC hi]at e;cases e;exact⟨v,aC hi',r⟩
  .rw[aq q]at e;obtain⟨u,h1,h2⟩:=s.is j b e;exact⟨u,by rw[aq q];exact h1,h2⟩
 .have hj:i≠j:=by
   intro q;subst q
   have hi:i < ρ.length:=by
    have:=(ag.mp h1).1;simpa using this
   rw[aC hi]at h1;cases h1
  have hk:i≠k:=by
   intro q;subst q
   have hi:i < ρ.length:=by
    have:=(ag.mp h2).1;simpa using this
   rw[aC hi]at h2;cases h2
  rw[aq hj]at h1 h3;rw[aq hk]at h2 h4;exact s.apart j k ds es a h1 h2 h3 h4
noncomputable def B6(i:Nat)(f:DE):DS:=λρ=>(f ρ).map λd=>.nx<|ρ.set i (Ob<|.val d)
def aW6(i:Nat){x:Str}{e:Expr}{f:DE}{pos pos':Pos}(hN:X.N.Nodup)(h:JE X e f)(hi:X.N[i]? = Ob x:=by rfl)(hx:Loc X.env.scope x:=by first|exact Or.inl rfl|exact Or.inr rfl)
  (hs:swapsWith e (Ob<|.Name x pos') pos.line X.env=pure false:=by rfl) (hf:X.fn x=true\/X.env.scope.names.lookup x=Ob .local:=by first|exact .inl rfl|exact .inr rfl):JS X (.Assign [.Name x pos'] e pos) (B6 i f):=λρ fl q H0 Hf0=>by
 obtain⟨d,e1,e2⟩:=xmo q;subst e2;exact L9 (an0 hN hi hx (h ρ d e1) hs hf) λEn σ H ⟨Hf,a,e⟩=>⟨H0,Hf,a.gr.sub,a.sl,λv H' Hf' g r=>e _ H' Hf' ⟨a.gr.trans g,(a.sl.grow g).set r⟩ g.ext⟩
noncomputable def bw9(i j:Nat)(f:Rho->Option (List D)):DS:=λρ=>(f ρ).bind λds=>match ds with
 | [a,b]=>Ob<|.nx ((ρ.set i<|Ob (.val a)).set j<|Ob (.val b))
 | _=>Oa
end
def bq1(I:Nat->eQ->Prop)
  (turn:∀n s,I n s->eh (ez prog w) A (pyNext it) (λr s1=>match r with
   | none=>R (.ok .next) s1
   | some v=>eh (ez prog w) A (letOwnedTupleGo target it v) (λ_ s1'=>eh (ez prog w) A (assign target env v) (λ_ s2 =>
     eh (ez prog w) A (forIn ifs true λc r=>if r=true then do let ok ← isTrue c env (eval c env);pure (ForInStep.yield ok) else pure (ForInStep.yield r)) (λok s3 =>
      if ok=true then eh (ez prog w) A (eval elt env) (λx s4 =>eh (ez prog w) A (call (.builtin "list.append") [acc,x]) (λ_ s5=>∃m,m < n/\I m s5) (λ_ _=>False) s4) (λ_ _=>False) s3
      else ∃m,m < n/\I m s3) (λ_ _=>False) s2) (λ_ _=>False) s1') (λ_ _=>False) s1) (λ_ _=>False) s)
  (n:Nat) (h:I n s) :
  codeAny (ez prog w) A (.compLoop (.ListComp elt [⟨target,iter,ifs,0⟩] scope pos) 0 it acc env) R s:=by
 refine codeAny_loop rfl I (λn s hI=>?_) n h;show eh _ A ((compTurn (.ListComp elt [⟨target,iter,ifs,0⟩] scope pos) 0 it acc env).onRaise (λx=>do noteFrame x env;theTreesLotGoes x)) _ _ s;refine wpAny_noted ?_;rw[compTurn_list];refine dB (wpAny_standAt<|dB (dE (turn n s hI) (λr s1 h1=>?_) λ_ _ h'=>h'.elim));cases r with
 | none=>exact dD h1
 | some v =>
  refine dB (dE h1 (λ_ s1' h1'=>?_) λ_ _ h'=>h'.elim);refine dB (dE h1' (λ_ s2 h2=>dB<|dE h2 (λok s3 h3=>?_) λ_ _ h'=>h'.elim) λ_ _ h'=>h'.elim);cases ok with
  | false=>exact dD ⟨rfl,h3⟩
  | true =>exact dB<|dB (dE h3 (λx s4 h4=>dB (dE h4 (λ_ s5 h5=>dD (dD ⟨rfl,h5⟩)) λ_ _ h'=>h'.elim)) λ_ _ h'=>h'.elim)
noncomputable def U5(cells:List (Str×eR)):List (Str×NameKind)->List (Str×eR)->List (Str×eR)
 | [],cs=>cs
 | (n,k)::r,cs=>if(k==eM)=true then U5 cells r ((n,(cells.lookup n).getD 0)::cs) else U5 cells r cs
theorem ax8:∀(names:List (Str×NameKind)) (cs:List (Str×eR)),(∀y∈names,y.2=.free->∃c,env.cells.lookup y.1=Ob c) ->
  (forIn names cs λ(x:Str×NameKind) (r:List (Str×eR))=>if(x.2==eM)=true then do let a ← cellOf env x.1;pure (ForInStep.yield ((x.1,a)::r)) else pure (ForInStep.yield r):Sem (List<|Str×eR))=pure (U5 env.cells names cs)
 | [],cs,_=>rfl
 | (n,k)::r,cs,h=>by
  rw[dm];have hr:∀y∈r,y.2=.free->∃c,env.cells.lookup y.1=Ob c:=λy hy=>h y<|xmm _ hy
  by_cases hk:(k==eM)=true
  .obtain⟨c,hc⟩:=h (n,k) aw (by simpa using hk);have hc':env.cells.lookup n=Ob c:=hc;simp only[hk,if_true];have e:cellOf env n=pure c:=by unfold cellOf;rw[hc']
   rw[e];show(forIn r ((n,c)::cs) _:Sem _)=_;rw[ax8 r _ hr];simp only[U5,hk,if_true,hc',Option.getD_some]
  .have hk':(k==eM)=false:=by simpa using hk
   simp only[hk',bg,if_false];show(forIn r cs _:Sem _)=_;rw[ax8 r _ hr];simp only[U5,hk',bg,if_false]
def cb2(h:∀y∈scope.names,y.2=.free->∃c,env.cells.lookup y.1=Ob c):closureFor scope env=pure (U5 env.cells scope.names []):=by
 have:=ax8 (env:=env) scope.names [] h;unfold closureFor;exact congrArg (λz=>z >>= λcs=>pure cs) this
theorem al8:∀{names:List (Str×NameKind)}{cs:List (Str×eR)}{x:Str}{c:eR},(x,c)∈U5 cells names cs->(x,c)∈cs\/((x,eM)∈names/\c=(cells.lookup x).getD 0)
 | [],cs,x,c,h=>.inl h
 | (n,k)::r,cs,x,c,h=>by
  unfold U5 at h;split at h
  .rename_i hk;rcases al8 h with q|⟨q1,q2⟩
   .rcases au.mp q with q|q
    .cases q;have:k=.free:=by simpa using hk
     subst this;exact .inr ⟨aw,rfl⟩
    .exact .inl q
   .exact .inr ⟨xmm _ q1,q2⟩
  .rcases al8 h with q|⟨q1,q2⟩
   .exact .inl q
   .exact .inr ⟨xmm _ q1,q2⟩
theorem w9:∀{names:List (Str×NameKind)}{cs:List (Str×eR)}{x:Str},((x,eM)∈names\/∃c,(x,c)∈cs)->∃c,(x,c)∈U5 cells names cs
 | [],cs,x,h=>by
  rcases h with h|h
  .cases h
  .exact h
 | (n,k)::r,cs,x,h=>by
  unfold U5;rcases h with h|⟨c,h⟩
  .rcases au.mp h with q|q
   .cases q;rw[if_pos (by rfl)];exact w9<|.inr ⟨_,aw⟩
   .split
    .exact w9 (.inl q)
    .exact w9 (.inl q)
  .split
   .exact w9 (.inr ⟨c,xmm _ h⟩)
   .exact w9 (.inr ⟨c,h⟩)
def ah3{l:List (Str×eR)}{x:Str}{c:eR}(h:(x,c)∈l):∃c',l.lookup x=Ob c':=by
 induction l with
 | nil=>cases h
 | cons p r ih =>
  obtain⟨n,a⟩:=p;rw[aH];cases e:x==n with
  | true=>exact⟨a,rfl⟩
  | false =>
   rcases au.mp h with q|q
   .cases q;simp at e
   .exact ih q
def aj6:(relabel scope env).names.lookup x=Ob k->∃k0,scope.names.lookup x=Ob k0/\(k=k0\/k0=.free):=by
 unfold relabel;simp only;generalize scope.names=names
 induction names with
 | nil=>intro h;simp at h
 | cons p r ih =>
  obtain⟨n,k1⟩:=p;intro h;rw[cI]at h;by_cases hc:(k1==eM&&env.scope.kind == .function&&env.kindOf n==Ob .cell)=true
  .simp only[hc,if_true,aH]at h;rw[aH];cases e:x==n with
   | true =>
    rw[e]at h;rw[ae,ae]at hc;exact⟨k1,rfl,.inr<|by simpa using hc.1.1⟩
   | false=>rw[e]at h;exact ih h
  .have hc':(k1==eM&&env.scope.kind == .function&&env.kindOf n==Ob .cell)=false:=by simpa using hc
   simp only[hc',bg,if_false,aH]at h;rw[aH];cases e:x==n with
   | true=>rw[e]at h;cases h;exact⟨_,rfl,.inl rfl⟩
   | false=>rw[e]at h;exact ih h
def aG1:scope.names.lookup x=Ob .free->(relabel scope env).names.lookup x=Ob .cell\/(relabel scope env).names.lookup x=Ob .free:=by
 unfold relabel;simp only;generalize scope.names=names
 induction names with
 | nil=>intro h;simp at h
 | cons p r ih =>
  obtain⟨n,k1⟩:=p;intro h;rw[aH]at h;rw[cI];cases e:x==n with
  | true =>
   rw[e]at h;cases h;have en:x=n:=by simpa using e
   subst en;by_cases hc:(eM==eM&&env.scope.kind == .function&&env.kindOf x==Ob .cell)=true
   .simp only[hc,if_true,aH,e];exact .inl trivial
   .have hc':(eM==eM&&env.scope.kind == .function&&env.kindOf x==Ob .cell)=false:=by simpa using hc
    simp only[hc',bg,if_false,aH,e];exact .inr trivial
  | false =>
   rw[e]at h;by_cases hc:(k1==eM&&env.scope.kind == .function&&env.kindOf n==Ob .cell)=true
   .simp only[hc,if_true,aH,e];exact ih h
   .have hc':(k1==eM&&env.scope.kind == .function&&env.kindOf n==Ob .cell)=false:=by simpa using hc
    simp only[hc',bg,if_false,aH,e];exact ih h
noncomputable def K6(X:Cx)(N':List Str)(scope:Scope)(C:eR)(s₀:eQ)(H₀:Hp)(ex:List eR):Cx where
 prog:=X.prog
 w:=X.w
 K:=X.K
 mg:=X.mg
 base:=X.base
 A:=X.A
 N:=N'
 s₀:=s₀
 H₀:=H₀
 env:=compEnvC scope (U5 X.env.cells scope.names []) C X.env
 outer:=X.stack
 stack:=X.stack
 ex:=ex
 fn:=λ_=>false
 calm:=X.calm
 pn:=[]
 xe:=λ_ _=>False
structure CompSc (X:Cx) (N':List Str) (n:Nat) (caps:List Nat) (scope:Scope):Prop where
 kind:scope.kind=.function
 cell:∀y∈scope.names,y.2≠.cell
 loc:∀y∈scope.names,y.2=.local->scope.names.lookup y.1=Ob .local
 free:∀y∈scope.names,y.2=.free->X.env.scope.names.lookup y.1=Ob .cell\/X.env.scope.names.lookup y.1=Ob .free
 len:N'.length=n+caps.length
 cap:∀(i j:Nat),caps[i]? = Ob j->∃x,X.N[j]? = Ob x/\N'[n+i]? = Ob x/\scope.names.lookup x=Ob .free
section
variable {X:Cx}{N':List Str}{n:Nat}{caps:List Nat}{scope:Scope}
def V5{l:List (Str×NameKind)}{x:Str}{k:NameKind}(h:l.lookup x=Ob k):(x,k)∈l:=PySem.mem_of_lookup h
noncomputable def aA3(n:Nat)(caps:List Nat)(σ:L2.St):L2.St:=aj n Oa++caps.map λj=>(σ[j]?).join
def aZ5(S:CompSc X N' n caps scope)(I:Inv X pins σ H s)(hf:∀b∈fp,ap3 X pins H b)(hlt:∀b∈fp,b < s.heap.objs.size)
  (hns:h1.Ns s.heap.objs.size m) (hk:∀b o,s.heap.get? b=Ob o->h1.get? b=Ob o) :
  Inv (K6 X N' scope s.heap.objs.size s H fp) [] (aA3 n caps σ) H { s with heap:=h1,toks:=tk }:=by
 have cl_of:∀x c,(U5 X.env.cells scope.names []).lookup x=Ob c->X.env.cells.lookup x=Ob c:=λx c h=>by
  have hm:=PySem.mem_of_lookup h;rcases al8 hm with q|⟨q1,q2⟩
  .cases q
  .obtain⟨c',hc'⟩:=I.ok.has x (S.free _ q1 rfl);rw[hc']at q2;rw[hc',q2];rfl
 have cl_has:∀x,(x,eM)∈scope.names->∃c,(U5 X.env.cells scope.names []).lookup x=Ob c:=λx h=>by
  obtain⟨c,hc⟩:=w9 (cells:=X.env.cells) (cs:=[]) (.inl h);exact ah3 hc
 have kind_free:∀x,((relabel scope X.env).names.lookup x=Ob .cell\/(relabel scope X.env).names.lookup x=Ob .free)->(x,eM)∈scope.names:=λx h=>by
  rcases h with h|h
  .obtain⟨k0,e1,e2⟩:=aj6 h;rcases e2 with e2|e2
   .subst e2;exact absurd rfl<|S.cell _ (V5 e1)
   .subst e2;exact V5 e1
  .obtain⟨k0,e1,e2⟩:=aj6 h;rcases e2 with e2|e2
   .subst e2;exact V5 e1
   .subst e2;exact V5 e1
 have cell_lt:∀x c,X.env.cells.lookup x=Ob c->c < s.heap.objs.size:=λx c e=>by
  obtain⟨v,q⟩:=I.cell x c e;exact q.lt
 have ok:(K6 X N' scope s.heap.objs.size s H fp).Ok:=by
  refine⟨I.ok.mod,S.kind,I.ok.glob,I.ok.blt,ah _,λx y c e1 e2=>I.ok.inj x y c (cl_of x c e1) (cl_of y c e2),λx hx=>cl_has x (kind_free x hx),λx c e _=>(aB e).elim,I.ok.hd,I.ok.frames,.inl rfl,λb hb=>⟨aS (hlt b hb),λx c e=>(hf b hb).2.2.2.2.1 x c (cl_of x c e)⟩,
   I.bs,aL I.ok.bsz I.sz,λb o e hb=>?_,λb hb hb2=>?_,I.stack,I.stkFree⟩
  .rcases(hf b hb).2.2.2.1 with z|z
   .exact I.ok.noex b o e z
   .exact absurd (aE (eB e)<|aL I.ok.bsz z) (bq _)
  .rcases au.mp (I.stkSub b hb2) with z|z
   .exact(hf b hb).2.1 z
   .exact(hf b hb).2.2.1 z
 refine⟨ok,rfl,I.bare,Un.kept hk,⟨m,hns,λi x v e1 e2 e3=>?_⟩,λx c e=>?_,I.hok.fresh<|ah _,λx c e=>I.freeC x c<|cl_of x c e,λp hp=>absurd (show p∈([]:List (eR×Obj)) from hp) (by simp),I.hok.kept hk,?_⟩
 .have hi:n<=i:=by
   rcases bD i n with h|h
   .unfold aA3 at e2;rw[aM (by simpa using h),be,if_pos h]at e2;cases e2
   .exact h
  unfold aA3 at e2;rw[aK (by simpa using hi),av]at e2;simp only[bw]at e2;cases hj:caps[i - n]? with
  | none=>rw[hj]at e2;cases e2
  | some j =>
   rw[hj]at e2;have e2':(σ[j]?).join=Ob v:=by simpa using e2
   have e2'':σ[j]? = Ob (Ob v):=by
    cases q:σ[j]? with
    | none=>rw[q]at e2';cases e2'
    | some o=>rw[q]at e2';simp at e2';rw[e2']
   obtain⟨y,q1,q2,q3⟩:=S.cap _ _ hj
   have:y=x:=by
    have e1':N'[i]? = Ob x:=e1;rw[show n+(i - n)=i by grind,e1']at q2;cases q2;rfl
   subst this;obtain⟨m0,hn0,hl0⟩:=I.loc
   have hv:Vis X.env.scope y:=by
    rcases S.free _ (V5 q3) rfl with z|z
    .exact .inr (.inl z)
    .exact .inr (.inr z)
   obtain⟨u,ru,lk⟩:=hl0 j y v q1 e2'' hv;refine⟨u,ru,.inr ⟨aG1 q3,?_⟩⟩;rcases lk with⟨lk,_⟩|⟨_,c,hc,hcell⟩
   .rcases S.free _ (V5 q3) rfl with z|z
    .have:X.env.scope.names.lookup y=Ob .local:=lk;rw[z]at this;cases this
    .have:X.env.scope.names.lookup y=Ob .local:=lk;rw[z]at this;cases this
   .obtain⟨c',hc'⟩:=cl_has y (V5 q3);have:=cl_of y c' hc';rw[hc]at this;cases this;obtain⟨o,ho,hd⟩:=hcell;exact⟨c,hc',o,hk c o ho,hd⟩
 .obtain⟨v,o,ho,hd⟩:=I.cell x c (cl_of x c e);exact⟨v,o,hk c o ho,hd⟩
 .show(aA3 n caps σ).length=N'.length;unfold aA3;rw[S.len];simp
def aD1(I:Inv X pins σ H s)(hf:∀b∈fp,ap3 X pins H b)
  (I':Inv (K6 X N' scope s.heap.objs.size s H fp) [] σ' H' s') (sb:Heap.SameBut s.heap.objs.size s'.heap h'):Inv X pins σ H' { s' with heap:=h' }:=by
 have ne:∀b o,s.heap.get? b=Ob o->b≠s.heap.objs.size:=λb o e=>aS<|eB e
 refine I.call' (s':={ s' with heap:=h' }) (ch:=fp) I'.os ?_ ?_ I'.bare λb hb=>⟨(hf b hb).2.2.2.1,(hf b hb).2.1,(hf b hb).2.2.2.2.1,(hf b hb).2.2.2.2.2⟩
 .refine⟨λb o e n hb hx=>sb.extBut b o (ne b o e)<|I'.base.keep b o e n hb hx,λb o e n hb hx=>?_,I'.base.free,λb o e hx=>?_,I'.base.tups,I'.base.frzs,I'.base.tbls⟩
  .obtain⟨sl,q⟩:=I'.base.slot b o e n hb hx;exact⟨sl,sb.extBut b _ (ne b o e) q⟩
  .obtain⟨o',q⟩:=I'.base.there b o e hx;exact⟨o',sb.extBut b _ (ne b o e) q⟩
 .intro b u e
  have nC:∀c v,H' c=Ob v->c≠s.heap.objs.size:=λc v q z=>by
   have:=I'.free;have z':H' c=Oa:=by rw[z];exact this
   rw[z']at q;cases q
  refine(I'.hok b u e).stay (λc v hc q=>sb.extBut c v ?_ q) (λ_ q=>q) λ_ _ q=>q
  rcases hc with z|z
  .rw[z];exact nC b u e
  .exact nC c _ z
noncomputable def PTs(X:Cx)(ifs:List Expr)(t:TT):Prop :=
 ∀(pins:List (eR×Obj)) (s:eQ) (σ:L2.St) (H:Hp) (Q:Bool->Hp->Prop),Inv X pins σ H s->t σ H Q ->
  eh (ez X.prog X.w) X.A (forIn ifs true λc r=>if r=true then do let ok ← isTrue c X.env (eval c X.env);pure (ForInStep.yield ok) else pure (ForInStep.yield r)) (TP X pins σ Q) X.xe s
def bS5:PTs X [] (λ_ H Q=>Q true H):=λpins s σ H Q I h=>wpAny_tests_nil ⟨H,I,h⟩
def bS4(h:PT X c t):PTs X [c] t:=λpins s σ H Q I q=>wpAny_tests_one<|h pins s σ H Q I q
noncomputable def bu5(n:Nat)(caps:List Nat)(wi:TI)(g:TG)(tc:TT)(te:TE):TE:=λσ H Q=>wi σ H λJ H1=>∀Dd,H1 Dd=Oa->∃W:Nat->Nat->List V->L2.St->Hp->Prop,
 (∃m,W 0 m [] (aA3 n caps σ)<|upd H1 Dd (.lst [])) /\
 ∀i m ys σ' H',W i m ys σ' H' ->
  (J.stop i H'/\Q (.ref Dd) H') \/
  (J.go i H'/\∀x H2,J.yld i H' x H2->g x σ' H2 λσ3 H3=>tc σ3 H3 λb H4 =>
   if b=true then te σ3 H4 λy H5=>H5 Dd=Ob (.lst ys)/\ys.length < dJ/\∃m',m' < m/\W (i+1) m' (ys++[y]) σ3 (upd H5 Dd<|.lst (ys++[y]))
   else ∃m',m' < m/\W (i+1) m' ys σ3 H4)
def aQ0{elt tgt iter:Expr}{ifs:List Expr}{pos:Pos}{wi:TI}{g:TG}{tc:TT}{te:TE}{RR:eP->eR->Result->eQ->Prop}{E:eP->eQ->Prop}(S:CompSc X N' n caps scope)(hx:∀e s,X.xe e s->False)(hc:X.calm=true)
  (hi:PI X tgt iter wi) (hg:∀C s0 H0 ex,PG (K6 X N' scope C s0 H0 ex) tgt g) (ht:∀C s0 H0 ex,PTs (K6 X N' scope C s0 H0 ex) ifs tc) (he:∀C s0 H0 ex,PE (K6 X N' scope C s0 H0 ex) elt te)
  {pins:List (eR×Obj)}{s:eQ}{σ:L2.St}{H:Hp}{Q:VK}(I:Inv X pins σ H s) (h:bu5 n caps wi g tc te σ H Q)
  (hRR:∀D C r s',r=.ok .next->(∃m,s'.heap.Ns C m/\∀h',Heap.SameBut C s'.heap h'->∃H',Inv X pins σ H' { s' with heap:=h' }/\Q (.ref D) H') ->
   (∃s2 fp σ' H2 H',s2.heap.objs.size=C/\Inv X pins σ H2 s2/\(∀b∈fp,ap3 X pins H2 b)/\Inv (K6 X N' scope s2.heap.objs.size s2 H2 fp) [] σ' H' s'/\Q (.ref D) H')->RR (.ref D) C r s') :
  eh (ez X.prog X.w) X.A (eval iter X.env) (λx s₁=>eh (ez X.prog X.w) X.A (pyIter x) (λit s₂=>eh (ez X.prog X.w) X.A (newList []) (λacc s₃ =>
   eh (ez X.prog X.w) X.A (newFunctionEnv scope X.env.globals (U5 X.env.cells scope.names []) [] X.env.qual Oa .none (Ob X.env)) (λcenv s₄ =>
    codeAny (ez X.prog X.w) X.A (.compStart (.ListComp elt [⟨tgt,iter,ifs,0⟩] scope pos) 0 it acc { cenv with scope:=relabel scope X.env }) (RR acc cenv.locals) s₄) E s₃) E s₂) E s₁) E s:=by
 refine dE (hi pins s σ H _ I h) (λv s1 h1=>dE h1 (λitv s2 h2=>?_) λ_ _ z=>(hx _ _ z).elim) λ_ _ z=>(hx _ _ z).elim
 obtain⟨it,fp,tn,J,H2,e,I2,T,st2,f2,R⟩:=h2;subst e;refine dF (wpAny_newFunctionEnv S.cell (by intro y hy;simp at hy) (λh₁ hns₁ hsb₁=>?_) S.kind);dsimp only at hns₁ hsb₁ ⊢;obtain⟨W,⟨m0,w0⟩,turn⟩:=R s2.heap.objs.size<|I2.hok.fresh (ah _)
 have lt2:∀b∈fp,b < s2.heap.objs.size:=λb hb=>by
  obtain⟨o,ho,_⟩:=T.obj _ _ st2 b hb;exact eB ho
 have I3:Inv X pins σ (upd H2 s2.heap.objs.size<|.lst []) { s2 with heap:=s2.heap.push { cls:=.type "list", dict:=Oa,data:=.seq ([]:List eP).toArray } } :=
  I2.laid (t':=s2.toks) (λb u e=>eA _ e) (ah _) ⟨aU _,[],0,.nil,eD _ rfl⟩
 generalize hs3:({ s2 with heap:=s2.heap.push { cls:=.type "list", dict:=Oa,data:=.seq ([]:List eP).toArray } }:eQ)=s3 at I3;have es3:s3.heap=s2.heap.push { cls:=.type "list", dict:=Oa,data:=.seq ([]:List eP).toArray }:=by rw[← hs3]
 rw[← es3]at hns₁ hsb₁ ⊢;have keep3:∀b o,s3.heap.get? b=Ob o->h₁.get? b=Ob o:=λb o e=>hsb₁.extBut b o (aS<|eB e)<|eA _ e
 have lt3:∀b∈fp,b < s3.heap.objs.size:=λb hb=>by rw[es3,Heap.size_push];exact Nat.lt_succ_of_lt<|lt2 b hb
 have f3:∀b∈fp,ap3 X pins (upd H2 s2.heap.objs.size<|.lst []) b:=λb hb=>⟨by rw[B2 (aS<|lt2 b hb)];exact(f2 b hb).1,(f2 b hb).2⟩
 generalize hH3:upd H2 s2.heap.objs.size (HO.lst [])=H3 at I3 f3 w0
 have fin3:∀{σ':L2.St}{H':Hp}{pl:List (eR×Obj)},(∀b∈fp,H' b=Oa)->(∀p∈pl,False)->∀b∈fp,ap3 (K6 X N' scope s3.heap.objs.size s3 H3 fp) pl H' b:=λ{σ' H' pl} hn hp b hb=>by
  refine⟨hn b hb,aS<|lt3 b hb,λz=>?_,.inl hb,λx c e=>?_,λp hp'=>?_⟩
  .rcases au.mp (I3.stkSub b z) with z|z
   .exact(f3 b hb).2.1 z
   .exact(f3 b hb).2.2.1 z
  .have hm:=PySem.mem_of_lookup e;rcases al8 hm with q|⟨q1,q2⟩
   .cases q
   .obtain⟨c',hc'⟩:=I3.ok.has x (S.free _ q1 rfl);rw[hc']at q2;have q2':c=c':=q2;subst q2';exact(f3 b hb).2.2.2.2.1 x c hc'
  .exact(hp p<|by simpa [K6] using hp').elim
 have toks:∃tk,({ s2 with heap:=h₁,toks:=s2.toks+([]:List (Str×eP)).length }:eQ)={ s3 with heap:=h₁,toks:=tk }:=⟨s2.toks,by rw[← hs3];rfl⟩;obtain⟨tk,htk⟩:=toks;have st4:tn 0 h₁:=T.keep 0 s2.heap h₁ st2 λb hb o e=>keep3 b o (by rw[es3];exact eA _ e)
 have I4:Inv (K6 X N' scope s3.heap.objs.size s3 H3 fp) [] (aA3 n caps σ) H3 { s3 with heap:=h₁,toks:=tk }:=aZ5 S I3 f3 lt3 hns₁ keep3
 have loop:codeAny (ez X.prog X.w) X.A (.compLoop (.ListComp elt [⟨tgt,iter,ifs,0⟩] scope pos) 0 (.ref it) (.ref s2.heap.objs.size)<|compEnvC scope (U5 X.env.cells scope.names []) s3.heap.objs.size X.env) (RR (.ref s2.heap.objs.size) s3.heap.objs.size) { s3 with heap:=h₁,toks:=tk }:=by
  refine bq1 (λk s'=>∃i ys σ' H',Inv (K6 X N' scope s3.heap.objs.size s3 H3 fp) [] σ' H' s'/\tn i s'.heap/\(∀b∈fp,H' b=Oa)/\W i k ys σ' H') ?_ m0 ⟨0,[],_,H3,I4,st4,λb hb=>(f3 b hb).1,w0⟩
  rintro k s5 ⟨i,ys,σ5,H5,I5,st5,fr5,w5⟩
  have pz:∀p∈([]:List (eR×Obj)),False:=λp hp=>by cases hp
  rcases turn i k ys σ5 H5 w5 with⟨stop,qn⟩|⟨go,step⟩
  .refine dE (T.done (K6 X N' scope s3.heap.objs.size s3 H3 fp) rfl rfl rfl hc i [] s5 σ5 H5 (λ_ _=>False) I5 (fin3 (σ':=σ5) fr5 pz) st5 stop) (λr s6 ⟨hr,I6⟩=>?_) λ_ _ z=>z
   subst hr;obtain⟨m6,hn6,_⟩:=I6.loc;refine hRR _ _ _ s6 rfl ⟨m6,hn6,λh' sb=>⟨H5,aD1 I3 f3 I6 sb,qn⟩⟩ ⟨s3,fp,σ5,H3,H5,rfl,I3,f3,I6,qn⟩
  .refine dE (T.item (K6 X N' scope s3.heap.objs.size s3 H3 fp) rfl rfl rfl hc i [] s5 σ5 H5 (λ_ _=>False) I5 (fin3 (σ':=σ5) fr5 pz) st5 go) (λr s6 ⟨u,hr,h6⟩=>?_) λ_ _ z=>z
   subst hr;refine dE h6 (λ_ s7 ⟨x,H7,I7,r7,y7,st7,fr7⟩=>?_) λ_ _ z=>z
   have I7':=I7.pinned (fin3 (σ':=σ5) fr7 pz) (T.obj _ _ st7);refine dE (hg _ _ _ _ _ s7 σ5 H7 x u _ I7' r7<|step x H7 y7) (λ_ s8 ⟨σ8,H8,I8,q8⟩=>?_) λ_ _ z=>z
   refine dE (ht _ _ _ _ _ s8 σ8 H8 _ I8 q8) (λok s9 ⟨H9,I9,q9⟩=>?_) λ_ _ z=>z
   have again:∀{σ':L2.St}{H':Hp}{s':eQ},Inv (K6 X N' scope s3.heap.objs.size s3 H3 fp) ([]++aw1 fp s7.heap) σ' H' s'->Inv (K6 X N' scope s3.heap.objs.size s3 H3 fp) [] σ' H' s'/\tn (i+1) s'.heap/\∀b∈fp,H' b=Oa:=λ{σ' H' s'} I'=>by
    refine⟨I'.unpinned,T.keep _ _ _ st7 λb hb o e=>(I'.pin (b,o)<|ak _ (ak _<|aa4 hb e)).1,λb hb=>?_⟩;obtain⟨o,e,d⟩:=T.obj _ _ st7 b hb;exact(I'.pin (b,o)<|ak _ (ak _<|aa4 hb e)).2.1
   cases ok with
   | false =>
    rw[if_neg aB]at q9 ⊢;obtain⟨m',hm,w'⟩:=q9;obtain⟨a1,a2,a3⟩:=again I9;exact⟨m',hm,i+1,ys,σ8,H9,a1,a2,a3,w'⟩
   | true =>
    rw[if_pos rfl]at q9 ⊢;refine dE (he _ _ _ _ _ s9 σ8 H9 _ I9 q9) (λy s10 ⟨vy,H10,I10,r10,q10,z10,m',hm,w'⟩=>?_) λ_ _ z=>z
    refine dE (aC2 (X:=K6 X N' scope s3.heap.objs.size s3 H3 fp) _ s10 σ8 H10 (.ref s2.heap.objs.size) [vy] _ _ (λv H'=>v=.non/\H'=upd H10 s2.heap.objs.size (.lst<|ys++[vy])) I10 rfl (.cons r10 .nil) ⟨_,ys,vy,rfl,rfl,q10,z10,rfl,rfl⟩) (λ_ s11 ⟨v11,H11,I11,r11,e11,e12⟩=>?_) λ_ _ z=>z
    subst e12;obtain⟨a1,a2,a3⟩:=again I11;exact⟨m',hm,i+1,ys++[vy],σ8,_,a1,a2,a3,w'⟩
 show codeAny (ez X.prog X.w) X.A _ _ ({ s2 with heap:=h₁,toks:=s2.toks+([]:List (Str×eP)).length }:eQ);rw[htk];exact codeAny_compStart_list loop<|T.self _ _ _ _ _ st4 loop
end
section
variable {X:Cx}
noncomputable def tgJ(K:aa)(f:D->Rho->Option Rho):TG:=λv σ H Q=>∃d ρ ρ' H0 Hf,f d ρ=Ob ρ'/\B8 Hf H/\Slots K H0 ρ σ H Hf/\Rep K Hf d v/\∀σ',Slots K H0 ρ' σ' H Hf->Q σ' H
noncomputable def JG(X:Cx)(tg:Expr)(f:D->Rho->Option Rho):Prop:=PG X tg<|tgJ X.K f
noncomputable def cM9(K:aa)(f:List D->Rho->Option Rho):TGs:=λvs σ H Q=>∃ds ρ ρ' H0 Hf,f ds ρ=Ob ρ'/\B8 Hf H/\Slots K H0 ρ σ H Hf/\Reps K Hf ds vs/\∀σ',Slots K H0 ρ' σ' H Hf->Q σ' H
noncomputable def JGs(X:Cx)(tg:List Expr)(f:List D->Rho->Option Rho):Prop:=PGs X tg<|cM9 X.K f
noncomputable def C3(i:Nat):D->Rho->Option Rho:=λd ρ=>Ob<|ρ.set i (Ob<|.val d)
def bY5(i:Nat)(hN:X.N.Nodup)(hi:X.N[i]? = Ob x:=by rfl)(hx:Loc X.env.scope x:=by first|exact Or.inl rfl|exact Or.inr rfl)(hf:X.fn x=true\/X.env.scope.names.lookup x=Ob .local:=by first|exact .inl rfl|exact .inr rfl):JG X (.Name x pos) (C3 i):=by
 intro pins s σ H v u Q I r ⟨d,ρ,ρ',H0,Hf,e,ss,sl,rp,k⟩;cases e;exact bT4 hN hi hx hf pins s σ H v u Q I r<|k _ (sl.set rp)
noncomputable def S7:List D->Rho->Option Rho:=λds ρ=>match ds with
 | []=>Ob ρ
 | _=>Oa
noncomputable def C9(f:D->Rho->Option Rho)(g:List D->Rho->Option Rho):List D->Rho->Option Rho:=λds ρ=>match ds with
 | d::r=>(f d ρ).bind λρ'=>g r ρ'
 | []=>Oa
def bY4:JGs X [] S7:=by
 intro pins s σ H vs us Q I r ⟨ds,ρ,ρ',H0,Hf,e,ss,sl,rp,k⟩;cases ds with
 | nil=>cases e;exact bT3 pins s σ H vs us Q I r ⟨rp,k _ sl⟩
 | cons d ds=>cases e
def bE7(h1:JG X e f)(h2:JGs X es g)(hs:(dW (e::es) X.env).map (·.2)=assign e X.env::(dW es X.env).map (·.2):=by rfl):JGs X (e::es) (C9 f g):=by
 intro pins s σ H vs us Q I r ⟨ds,ρ,ρ',H0,Hf,e,ss,sl,rp,k⟩;cases ds with
 | nil=>cases e
 | cons d ds =>
  obtain⟨ρ1,e1,e2⟩:=xbm e;obtain⟨v,vr,rfl,q1,q2⟩:=rp;exact by7 h1 h2 hs pins s σ H _ us Q I r ⟨v,vr,rfl,d,ρ,ρ1,H0,Hf,e1,ss,sl,q1,λσ' sl'=>⟨ds,ρ1,ρ',H0,Hf,e2,ss,sl',q2,k⟩⟩
noncomputable def S1(n:Nat)(g:List D->Rho->Option Rho):D->Rho->Option Rho:=λd ρ=>match d with
 | .tuple ds=>if ds.length=n then g ds ρ else Oa
 | _=>Oa
def cu9(h:JGs X es g)(hc:X.calm=true:=by rfl)(hn:(dW es X.env).length=n:=by rfl)(hst:(dW es X.env).findIdx? (·.1)=Oa:=by rfl):JG X (.Tuple es k pos) (S1 n g):=by
 intro pins s σ H v u Q I r ⟨d,ρ,ρ',H0,Hf,e,ss,sl,rp,kk⟩;cases d with
 | tuple ds =>
  simp only[S1]at e;split at e
  .rename_i hl;obtain⟨a,vs,rfl,q1,q2⟩:=rp;exact cm0 hc h hn hst pins s σ H _ u Q I r ⟨a,vs,rfl,C7 ss q1,by rw[q2.length,hl],ds,ρ,ρ',H0,Hf,e,ss,sl,q2,kk⟩
  .cases e
 | _=>cases e
noncomputable def aJ7(K:aa)(J:It)(ds:List D)(Hf1:Hp):Prop:=∀(i:Nat) (H Hf:Hp),B8 Hf1 Hf->B8 Hf H->(ds.length<=i->J.stop i H)/\∀d,ds[i]? = Ob d->J.go i H/\∀x H',J.yld i H x H'->∃Hf',Grow H Hf H' Hf'/\Rep K Hf' d x
noncomputable def tiJ(K:aa)(ρ:Rho)(ds:List D):TI:=λσ H R=>∃H0 Hf,B8 Hf H/\Slots K H0 ρ σ H Hf/\∀J H' Hf',Grow H Hf H' Hf'->aJ7 K J ds Hf'->R J H'
noncomputable def JI(X:Cx)(tg iter:Expr)(f:Rho->Option (List D)):Prop:=∀ρ ds,f ρ=Ob ds->PI X tg iter (tiJ X.K ρ ds)
def aV0(h:PI X tg iter t)(i:∀σ H R,t' σ H R->t σ H R):PI X tg iter t':=λpins s σ H R I q=>h pins s σ H R I<|i σ H R q
noncomputable def T8(f:DE):Rho->Option (List D):=λρ=>(f ρ).bind λd=>match d with
 | .list ds=>Ob ds
 | .tuple ds=>Ob ds
 | _=>Oa
def aW7(h:JE X e f):JI X tg e (T8 f):=λρ ds q=>by
 obtain⟨d,e1,e2⟩:=xbm q;cases d with
 | list xs =>
  cases e2;refine aV0 (bT2<|h ρ _ e1) λσ H R ⟨H0,Hf,s,sl,k⟩=>⟨H0,Hf,s,sl,λv H1 Hf1 g1 ⟨a,vs,h1,h2,h3⟩=>⟨a,h1,⟨vs,K3 g1.sub h2⟩,k _ H1 Hf1 g1 ?_⟩⟩
  intro i H' Hf' sa sb;have q':SqL X.K H' a vs:=K3 (sa.trans sb) h2;refine⟨λhi=>⟨vs,q',by rw[h3.length];exact hi⟩,λd hd=>?_⟩;obtain⟨v,w1,w2⟩:=h3.get hd;refine⟨⟨vs,v,q',w1⟩,λx H'' hy=>?_⟩;obtain⟨rfl,hy⟩:=hy;have:=hy vs q';rw[w1]at this;cases this;exact⟨Hf',Grow.refl sb,w2.mono sa⟩
 | tuple xs =>
  cases e2;refine aV0 (cl9<|h ρ _ e1) λσ H R ⟨H0,Hf,s,sl,k⟩=>⟨H0,Hf,s,sl,λv H1 Hf1 g1 ⟨a,vs,h1,h2,h3⟩=>⟨a,h1,⟨vs,C7 g1.sub h2⟩,k _ H1 Hf1 g1 ?_⟩⟩
  intro i H' Hf' sa sb;have q':SqT X.K H' a vs:=C7 (sa.trans sb) h2;refine⟨λhi=>⟨vs,q',by rw[h3.length];exact hi⟩,λd hd=>?_⟩;obtain⟨v,w1,w2⟩:=h3.get hd;refine⟨⟨vs,v,q',w1⟩,λx H'' hy=>?_⟩;obtain⟨rfl,hy⟩:=hy;have:=hy vs q';rw[w1]at this;cases this;exact⟨Hf',Grow.refl sb,w2.mono sa⟩
 | _=>cases e2
noncomputable def j6(lo hi:Int):List D:=(ax (hi - lo).toNat).map λ(i:Nat)=>eG<|lo+i
def aE9{K:aa}{lo hi:Int}{Hf1:Hp}:aJ7 K (Itr lo (hi - lo).toNat) (j6 lo hi) Hf1:=by
 intro i H Hf sa sb;have hl:(j6 lo hi).length=(hi - lo).toNat:=by simp[j6]
 refine⟨λh=>by rw[hl]at h;exact h,λd hd=>?_⟩
 have hi':i < (hi - lo).toNat:=by
  have:=(ag.mp hd).1;rw[hl]at this;exact this
 refine⟨hi',λx H' hy=>?_⟩;obtain⟨e1,e2⟩:=hy;subst e1 e2
 have:d=.int (lo+i):=by
  have:(j6 lo hi)[i]? = Ob (.int<|lo+i):=by simp[j6,hi']
  rw[hd]at this;cases this;rfl
 subst this;exact⟨Hf,Grow.refl sb,rfl⟩
noncomputable def P0(f:DE):Rho->Option (List D):=λρ=>(f ρ).bind λd=>match d with
 | .int j=>if -(2 ^ 62)<=j/\j < 2 ^ 62 then Ob (j6 0 j) else Oa
 | _=>Oa
def bn1{tg e:Expr}{f:DE}{p pos:Pos}(hg:Gl X "range")(hm:X.mg "range" = Oa)(h:JE X e f)(hs:dI [e] X.env=[(false,eval e X.env)]:=by rfl):JI X tg (.Call (.Name "range" p) [e] [] pos) (P0 f):=λρ ds q=>by
 obtain⟨d,e1,e2⟩:=xbm q;split at e2
 .split at e2
  .rename_i j c;cases e2;refine aV0 (bl7 hg hm (K5 (h ρ _ e1) Q6 hs) hs) λσ H R ⟨H0,Hf,s,sl,k⟩=>⟨H0,Hf,s,sl,λv H1 Hf1 g1 r=>⟨j,by rw[show v=_ from r],c.1,c.2,k _ H1 Hf1 g1 ?_⟩⟩
   have:=aE9 (K:=X.K) (lo:=0) (hi:=j) (Hf1:=Hf1);rw[cg]at this;exact this
  .cases e2
 .cases e2
def Grow.nofr(g:Grow H Hf H' Hf')(h:H a=Ob o)(n:Hf a=Oa):Hf' a=Oa:=by
 cases q:Hf' a with
 | none=>rfl
 | some u =>
  rcases g.new a (by rw[q];simp) with z|z
  .exact absurd n z
  .rw[h]at z;cases z
noncomputable def al9(n:Nat)(caps:List Nat)(ρ:Rho):Rho:=aj n Oa++caps.map λj=>match ρ[j]? with
 | some (Ob (.val d))=>Ob<|.val d
 | _=>Oa
noncomputable def k4(g:D->Rho->Option Rho)(c:Rho->Option Bool)(e:DE):List D->Rho->Option (List D)
 | [],_=>Ob []
 | d::ds,ρ=>(g d ρ).bind λρ1=>(c ρ1).bind λb=>if b then(e ρ1).bind λy=>(k4 g c e ds ρ1).map λr=>y::r else k4 g c e ds ρ1
noncomputable def K1(n:Nat)(caps:List Nat)(src:Rho->Option (List D))(g:D->Rho->Option Rho)(c:Rho->Option Bool)(e:DE):Rho->Option (List D):=λρ=>(src ρ).bind λds=>if ds.length<=16777216 then k4 g c e ds (al9 n caps ρ) else Oa
noncomputable def aB1(K:aa)(c:Rho->Option Bool):TT:=λσ H Q=>∃ρ b,c ρ=Ob b/\∃H0 Hf,B8 Hf H/\Slots K H0 ρ σ H Hf/\∀H' Hf',Grow H Hf H' Hf'->Q b H'
noncomputable def bc6(K:aa)(e:DE):TE:=λσ H Q=>∃ρ d,e ρ=Ob d/\tJ K ρ (λ_ v _ Hf=>Rep K Hf d v) σ H Q
noncomputable def JTs(X:Cx)(ifs:List Expr)(c:Rho->Option Bool):Prop:=PTs X ifs<|aB1 X.K c
noncomputable def M1:Rho->Option Bool:=λ_=>Ob true
def bW8:JTs X [] M1:=λpins s σ H Q I ⟨ρ,b,e,H0,Hf,ss,sl,k⟩=>by
 cases e;exact bS5 pins s σ H Q I<|k H Hf (Grow.refl ss)
def bW7(h:JT X e c):JTs X [e] c:=λpins s σ H Q I ⟨ρ,b,e,H0,Hf,ss,sl,k⟩=>bS4 (h ρ b e) pins s σ H Q I ⟨H0,Hf,ss,sl,k⟩
def aZ9{K:aa}{n:Nat}{caps:List Nat}{H0 H H1 H' Hf:Hp}{ρ:Rho}{σ:L2.St}(sl:Slots K H0 ρ σ H Hf):Slots K H1 (al9 n caps ρ) (aA3 n caps σ) H' Hf:=by
 have noown:∀(i:Nat) (ds:List D),(al9 n caps ρ)[i]?≠Ob (Ob<|.own ds):=λi ds h=>by
  unfold al9 at h;rcases bD i n with q|q
  .rw[aM (by simpa using q),be,if_pos q]at h;cases h
  .rw[aK (by simpa using q),av]at h;cases hj:caps[i - (aj n (Oa:Option B)).length]? with
   | none=>rw[hj]at h;cases h
   | some j =>
    rw[hj]at h;simp only[cN,bc.injEq]at h;split at h<;>cases h
 refine⟨by simp[al9,aA3],λi b e=>?_,λi j ds es a h1=>(noown i ds h1).elim⟩;unfold al9 at e;unfold aA3;rcases bD i n with q|q
 .rw[aM (by simpa using q),be,if_pos q]at e;cases e
 .rw[aK (by simpa using q),av]at e;rw[aK (by simpa using q),av];simp only[bw]at e ⊢;cases hj:caps[i - n]? with
  | none=>rw[hj]at e;cases e
  | some j =>
   rw[hj]at e;simp only[cN,bc.injEq]at e ⊢;split at e
   .rename_i d hd;cases e;obtain⟨v,h1,h2⟩:=sl.is j _ hd;exact⟨v,by rw[h1];rfl,h2⟩
   .cases e
def ai2{K:aa}{n:Nat}{caps:List Nat}{ρ:Rho}{src:Rho->Option (List D)}{g:D->Rho->Option Rho}{c:Rho->Option Bool}{e:DE}{out:List D}(h:K1 n caps src g c e ρ=Ob out):
  ∃ds,src ρ=Ob ds/\∀σ H Q,tJ K ρ (λH v H' Hf'=>∃a vs,v=.ref a/\H a=Oa/\H' a=Ob (.lst vs)/\Hf' a=Oa/\Reps K Hf' out vs) σ H Q->bu5 n caps (tiJ K ρ ds) (tgJ K g) (aB1 K c) (bc6 K e) σ H Q:=by
 obtain⟨ds,e1,e2⟩:=xbm h;split at e2
 .rename_i hz;refine⟨ds,e1,λσ H Q ⟨H0,Hf,s,sl,k⟩=>⟨H0,Hf,s,sl,λJ H1 Hf1 g1 Y Dd hD=>?_⟩⟩
  refine⟨λi m ys σ' H'=>m=ds.length - i/\i<=ds.length/\∃Hf' ρ' o1 o2,Grow H1 Hf1 H' Hf'/\H' Dd=Ob (.lst ys)/\Hf' Dd=Oa/\Slots K (upd H1 Dd (.lst [])) ρ' σ' H' Hf'/\Reps K Hf' o1 ys/\o1.length<=i/\k4 g c e (ds.drop i) ρ'=Ob o2/\o1++o2=out,
   ⟨ds.length,by simp,aU _,Hf1,al9 n caps ρ,[],out,Grow.made g1.sub hD,B3,g1.sub.free hD,aZ9 (sl.grow g1),rfl,ah _,by simpa using e2,rfl⟩,?_⟩
  rintro i m ys σ' H' ⟨rfl,hi,Hf',ρ',o1,o2,gr,hd1,hd2,sl',rp,ho,ec,eo⟩
  obtain⟨Ys,Yg⟩:=Y i H' Hf' gr.ext gr.sub;rcases bD i ds.length with hlt|hge
  .right
   obtain⟨go,yl⟩:=Yg ds[i] (by simp[hlt]);refine⟨go,λx H2 hy=>?_⟩;obtain⟨Hf2,g2,r2⟩:=yl x H2 hy;rw[bu hlt]at ec;obtain⟨ρ1,c1,ec⟩:=xbm ec;obtain⟨b,c2,ec⟩:=xbm ec;refine⟨ds[i],ρ',ρ1,_,Hf2,c1,g2.sub,sl'.grow g2,r2,λσ3 sl3=>⟨ρ1,b,c2,_,Hf2,g2.sub,sl3,λH4 Hf4 g4=>?_⟩⟩;have gr4:=(gr.trans g2).trans g4;have hd4:H4 Dd=Ob (.lst ys):=g4.big _ _ (g2.big _ _ hd1);have hf4:Hf4 Dd=Oa:=(g2.trans g4).nofr hd1 hd2;have rp4:=rp.mono (g2.trans g4).ext;cases b with
   | false =>
    rw[if_neg aB]at ec;refine ao2 ?_;exact⟨ds.length - (i+1),by grind,rfl,hlt,Hf4,ρ1,o1,o2,gr4,hd4,hf4,sl3.grow g4,rp4,by grind,ec,eo⟩
   | true =>
    rw[if_pos rfl]at ec;refine ao1 ?_;obtain⟨y,c3,ec⟩:=xbm ec;obtain⟨o3,c4,rfl⟩:=xmo ec;refine⟨ρ1,y,c3,_,Hf4,g4.sub,sl3.grow g4,λv H5 Hf5 g5 r5=>⟨g5.big _ _ hd4,?_,?_⟩⟩
    .rw[rp.length,dL];grind
    .have hf5:Hf5 Dd=Oa:=g5.nofr hd4 hf4;have gr5:=gr4.trans g5;refine⟨ds.length - (i+1),by grind,rfl,hlt,Hf5,ρ1,o1++[y],o3,⟨λb u q=>?_,λb u q=>?_,gr5.ext,gr5.new⟩,B3,hf5,?_,(rp4.mono g5.ext).append ⟨v,[],rfl,r5,rfl⟩,by simp;grind,c4,by simp[← eo]⟩
     .rw[B2 (C2 q hD)];exact gr5.big b u q
     .rw[B2 (C2 q hf5)];exact gr5.sub b u q
     .have sl5:=(sl3.grow g4).grow g5;refine⟨sl5.len,λj bb q=>?_,sl5.apart⟩;obtain⟨w,q1,q2⟩:=sl5.is j bb q;refine⟨w,q1,?_⟩;cases bb with
      | val d=>exact q2
      | exc C=>exact q2
      | opq _=>exact q2
      | own dd =>
       obtain⟨a,vs,z1,z2,z3,z4,z5⟩:=q2;have ne:a≠Dd:=λz=>by rw[z,B3]at z4;cases z4
       exact⟨a,vs,z1,by rw[B2 ne];exact z2,z3,z4,z5⟩
  .left
   have:i=ds.length:=by grind
   subst this;rw[de]at ec;cases ec;rw[aA]at eo;subst eo;exact⟨Ys (ah _),k _ H' Hf' (g1.trans gr) ⟨Dd,ys,rfl,g1.big.free hD,hd1,hd2,rp⟩⟩
 .cases e2
end
section
variable {X:Cx}
noncomputable def au5(N N':List Str)(n:Nat)(caps:List Nat)(sc scope:Scope):Bool :=
 (match scope.kind with | .function=>true|_=>false) &&
 (scope.names.all λy=>(match y.2 with | .cell=>false | .local=>scope.names.lookup y.1==Ob .local | .free=>sc.names.lookup y.1==Ob .cell || sc.names.lookup y.1==Ob .free|_=>true)) &&
 (N'.length==n+caps.length) &&
 ((ax caps.length).all λi=>match caps[i]? with
  | some j=>(match N[j]? with|some x=>N'[n+i]? == Ob x&&scope.names.lookup x==Ob .free|none=>false)
  | none=>true)
def bq2(h:au5 N N' n caps sc scope=true)(hN:X.N=N)(hS:X.env.scope=sc):CompSc X N' n caps scope:=by
 subst hN hS;unfold au5 at h;simp only[ae,aQ]at h;obtain⟨⟨⟨h1,h2⟩,h3⟩,h4⟩:=h;refine⟨?_,λy hy e=>?_,λy hy e=>?_,λy hy e=>?_,by simpa using h3,λi j e=>?_⟩
 .cases q:scope.kind<;>rw[q]at h1<;>first|rfl|cases h1
 .have:=h2 y hy;rw[e]at this;cases this
 .have:=h2 y hy;rw[e]at this;simpa using this
 .have:=h2 y hy;rw[e]at this;simpa using this
 .have hi:i < caps.length:=(ag.mp e).1;have:=h4 i (by simpa using hi);rw[e]at this;simp only at this;cases q:X.N[j]? with
  | none=>rw[q]at this;cases this
  | some x =>
   rw[q]at this;simp only[ae]at this;exact⟨x,rfl,by simpa using this.1,by simpa using this.2⟩
def bi7(S:CompSc X N' n caps scope)(I:Inv X pins σ H s):closureFor scope X.env=pure (U5 X.env.cells scope.names []) :=
 cb2 λy hy e=>I.ok.has y.1<|S.free y hy e
def bY1(S:CompSc X N' n caps scope)(hx:∀e s,X.xe e s->False)
  (hi:JI X tgt iter src) (hg:∀C s0 H0 ex,JG (K6 X N' scope C s0 H0 ex) tgt g) (ht:∀C s0 H0 ex,JTs (K6 X N' scope C s0 H0 ex) ifs c) (he:∀C s0 H0 ex,JE (K6 X N' scope C s0 H0 ex) elt e)
  (hc:X.calm=true:=by rfl) (hs:∀x,dX iter X.env x=pure x:=by intro _;rfl):JN X (.ListComp elt [⟨tgt,iter,ifs,0⟩] scope pos) (K1 n caps src g c e):=by
 intro ρ out h;obtain⟨ds,e1,k⟩:=ai2 (K:=X.K) h;intro pins s σ H Q I t;rw[eval_ListComp];refine wpAny_comprehension_free (use:=Oa) rfl hs (bi7 S I) S.kind S.loc (aQ0 (RR:=λacc C=>compPost (ez X.prog X.w) X.A X.xe Oa (EP X pins σ Q) acc C) S hx hc (hi ρ ds e1) (g:=tgJ X.K g) (tc:=aB1 X.K c) (te:=bc6 X.K e) hg ht (λC s0 H0 ex pins s σ H Q I ⟨ρ,d,e,t⟩=>he C s0 H0 ex ρ d e pins s σ H Q I t) I (k σ H Q t) ?_);intro Dd C r s' hr ⟨m,hn,kk⟩ _;subst hr;exact⟨m,hn,λh' sb=>let⟨H',I',q⟩:=kk h' sb;⟨.ref Dd,H',I',rfl,q⟩⟩
def aw0(S:CompSc X N' n caps scope)(hx:∀e s,X.xe e s->False)(hc:X.calm=true)
  (hN:X.N.Nodup) (hi:X.N[i]? = Ob x) (hl:X.env.scope.names.lookup x=Ob .local) (hsrc:PI X tgt iter wi) (hg:∀C s0 H0 ex,PG (K6 X N' scope C s0 H0 ex) tgt g) (ht:∀C s0 H0 ex,PTs (K6 X N' scope C s0 H0 ex) ifs tc) (he:∀C s0 H0 ex,PE (K6 X N' scope C s0 H0 ex) elt te)
  (hsw:swapsWith (.ListComp elt [⟨tgt,iter,ifs,0⟩] scope pos) (Ob<|.Name x pos') spos.line X.env=pure true) (hs:∀x,dX iter X.env x=pure x) :
  PS X (.Assign [.Name x pos'] (.ListComp elt [⟨tgt,iter,ifs,0⟩] scope pos) spos) (λEn σ H=>bu5 n caps wi g tc te σ H λv H'=>En.nx (σ.set i<|Ob v) H'):=by
 intro pins s σ H En I h;rw[exec_Assign_Name_used _ _ _ _ hsw];refine dB (wpAny_standAt<|dB ?_);show eh _ X.A (do let _ ← comprehension (.ListComp elt [⟨tgt,iter,ifs,0⟩] scope pos) scope X.env _ (newList []) false (eval iter X.env) (Ob<|assign (.Name x pos') X.env)) _ _ s
 refine dB (dE (wpAny_comprehension_free (use:=Ob (assign (.Name x pos') X.env)) (Q:=λ_ s'=>SP X pins En .next s') rfl hs (bi7 S I) S.kind S.loc
  (aQ0 (RR:=λacc C=>compPost (ez X.prog X.w) X.A X.xe (Ob (assign (.Name x pos') X.env)) (λ_ s'=>SP X pins En .next s') acc C) S hx hc hsrc hg ht he I h ?_)) (λ_ s' hq=>dD (dD hq)) λ_ _ z=>z)
 intro Dd C r s' hr _ ⟨s2,fp,σ',H2,H',eC,I2,f2,I',q⟩;subst hr eC;have IX:Inv X pins σ H' s':=aD1 (h':=s'.heap) I2 f2 I' (Heap.SameBut.refl ..);obtain⟨mC,hnC,_⟩:=I'.loc
 have hCL:s2.heap.objs.size≠X.env.locals:=λz=>by
  have:=I2.lt;rw[← z]at this;exact bq _ this
 show eh _ X.A (assign (.Name x pos') X.env<|.ref Dd) _ _ _;refine wpAny_assign_Name<|aB3 (v:=.ref Dd) IX hN hi (.inl hl) rfl (λs3 I3 ⟨a,sb,ha⟩=>?_) (.inr hl)
 have hCa:s2.heap.objs.size≠a:=λz=>by
  rcases ha with ha|ha
  .exact hCL (z.trans ha)
  .obtain⟨v,q'⟩:=I2.cell x a ha;have:=q'.lt;rw[← z]at this;exact bq _ this
 refine⟨mC,hnC.sameBut sb hCa,λh' sb'=>?_⟩;refine⟨_,H',I3.turned (t':=s3.toks) (it:=s2.heap.objs.size) (λb o hb e=>sb'.extBut b o hb e) I'.free hCL (.inr I2.sz) (λy c e z=>?_) λp hp z=>?_,q⟩
 .obtain⟨v,q'⟩:=I2.cell y c e;have:=q'.lt;rw[z]at this;exact bq _ this
 .have:=eB (I2.pin p hp).1;rw[z]at this;exact bq _ this
noncomputable def ac4(i:Nat)(f:Rho->Option (List D)):DS:=λρ=>(f ρ).map λds=>.nx<|ρ.set i (Ob<|.val (.list ds))
def bX4(i:Nat)(hN:X.N.Nodup)(S:CompSc X N' n caps scope)(hx:∀e s,X.xe e s->False)
  (hi:JI X tgt iter src) (hg:∀C s0 H0 ex,JG (K6 X N' scope C s0 H0 ex) tgt g) (ht:∀C s0 H0 ex,JTs (K6 X N' scope C s0 H0 ex) ifs c) (he:∀C s0 H0 ex,JE (K6 X N' scope C s0 H0 ex) elt e)
  (hi2:X.N[i]? = Ob x:=by rfl) (hl:X.env.scope.names.lookup x=Ob .local:=by rfl) (hsw:swapsWith (.ListComp elt [⟨tgt,iter,ifs,0⟩] scope pos) (Ob<|.Name x pos') spos.line X.env=pure true:=by rfl)
  (hc:X.calm=true:=by rfl) (hs:∀x,dX iter X.env x=pure x:=by intro _;rfl):JS X (.Assign [.Name x pos'] (.ListComp elt [⟨tgt,iter,ifs,0⟩] scope pos) spos) (ac4 i<|K1 n caps src g c e):=λρ fl q H0 Hf0=>by
 obtain⟨out,e1,e2⟩:=xmo q;subst e2;obtain⟨ds,e3,k⟩:=ai2 (K:=X.K) e1;refine L9 (aw0 S hx hc hN hi2 hl (hi ρ ds e3) (g:=tgJ X.K g) (tc:=aB1 X.K c) (te:=bc6 X.K e) hg ht (λC s0 H0 ex pins s σ H Q I ⟨ρ,d,e,t⟩=>he C s0 H0 ex ρ d e pins s σ H Q I t) hsw hs) λEn σ H ⟨Hf,a,ee⟩=>k σ H _ ⟨H0,Hf,a.gr.sub,a.sl,λv H' Hf' gg ⟨p,vs,z1,z2,z3,z4,z5⟩=>?_⟩
 subst z1;have g2:=gg.freeze z3 z4 z2;exact ee _ H' _ ⟨a.gr.trans g2,(a.sl.grow g2).set ⟨p,vs,rfl,SqL.of B3,z5.mono<|F7 z4⟩⟩ g2.ext
def ct1{kt k2 pt2}(hN:X.N.Nodup)(ha:JA X [a,b] f)(hw:swappedStores [.Tuple [.Name x px,.Name y py] kt pt] (.Tuple [a,b] k2 pt2) X.env=pure (Ob [x,y]))(hij:i≠j)
  (hi:X.N[i]? = Ob x:=by rfl) (hj:X.N[j]? = Ob y:=by rfl) (hx:X.env.scope.names.lookup x=Ob .local:=by rfl) (hy:X.env.scope.names.lookup y=Ob .local:=by rfl) (hc:X.calm=true:=by rfl)
  (hs:swapsWithSole [.Tuple [.Name x px,.Name y py] kt pt] (.Tuple [a,b] k2 pt2) pos.line X.env=pure false:=by rfl):JS X (.Assign [.Tuple [.Name x px,.Name y py] kt pt] (.Tuple [a,b] k2 pt2) pos) (bw9 i j f):=λρ fl q H0 Hf0=>by
 obtain⟨ds,e1,e2⟩:=xbm q;split at e2
 .cases e2;refine L9 (cl6 hc hN hi hj hij hx hy (λpos pins s σ H Q I t=>ha.run ρ _ e1 pos pins s σ H Q I t) hw hs) λEn σ H ⟨Hf,at',e⟩=>⟨H0,Hf,at'.gr.sub,at'.sl,λvs H' Hf' gg rp=>?_⟩
  obtain⟨v,r,rfl,r1,w,r',rfl,r2,r3⟩:=rp;cases r3;exact⟨v,w,rfl,e _ H' Hf' ⟨at'.gr.trans gg,((at'.sl.grow gg).set r1).set r2⟩ gg.ext⟩
 .cases e2
noncomputable def bl4(f:DE)(g:D->Rho->Option Rho):DS:=λρ=>(f ρ).bind λd=>(g d ρ).map Fl.nx
def bD6(he:JE X e f)(hg:JG X tg g)(hs:swapsWithSole [tg] e pos.line X.env=pure false:=by rfl)(hw:swappedStores [tg] e X.env=pure Oa:=by rfl)
  (h1:(dW [tg] X.env).map (·.2)=[assign tg X.env]:=by rfl):JS X (.Assign [tg] e pos) (bl4 f g):=λρ fl q H0 Hf0=>by
 obtain⟨d,e1,e2⟩:=xbm q;obtain⟨ρ',e3,e4⟩:=xmo e2;subst e4;exact L9 (by1 (he ρ d e1) hg hs hw h1) λEn σ H ⟨Hf,a,ee⟩=>⟨H0,Hf,a.gr.sub,a.sl,λv H' Hf' gg r=>⟨d,ρ,ρ',H0,Hf',e3,gg.sub,a.sl.grow gg,r,λσ' sl'=>ee σ' H' Hf' ⟨a.gr.trans gg,sl'⟩ gg.ext⟩⟩
noncomputable def aj4(i:Nat)(f:Rho->Option (List D)):DS:=λρ=>(f ρ).map λds=>.nx<|ρ.set i (Ob<|.own ds)
def Slots.setOwn{K:aa}{H0 H H' Hf Hf':Hp}{ρ:Rho}{σ:L2.St}{i:Nat}{ds:List D}{a:eR}{vs:List V}(s:Slots K H0 ρ σ H Hf)(g:Grow H Hf H' Hf')(n0:H0 a=Oa)(n:H a=Oa)(h:H' a=Ob (.lst vs))(nf:Hf' a=Oa)(r:Reps K Hf' ds vs):
  Slots K H0 (ρ.set i<|Ob (.own ds)) (σ.set i<|Ob (.ref a)) H' Hf':=by
 have s':=s.grow g
 have old:∀(j:Nat) (es:List D),i≠j->ρ[j]? = Ob (Ob<|.own es)->σ[j]?≠Ob (Ob<|.ref a):=λj es hj e z=>by
  obtain⟨v,h1,b,us,e1,h2,_⟩:=s.is j _ e;rw[z]at h1;cases h1;cases e1;rw[n]at h2;cases h2
 refine⟨by simp[s.len],λj b e=>?_,λj k ds1 es b h1 h2 h3 h4=>?_⟩
 .by_cases q:i=j
  .subst q;have hi:i < ρ.length:=by simpa using (ag.mp e).1
   have hi':i < σ.length:=by rw[← s.len];exact hi
   rw[aC hi]at e;cases e;exact⟨_,aC hi',a,vs,rfl,h,nf,n0,r⟩
  .rw[aq q]at e;obtain⟨u,h1,h2⟩:=s'.is j b e;exact⟨u,by rw[aq q];exact h1,h2⟩
 .by_cases qj:i=j
  .by_cases qk:i=k
   .rw[← qj,← qk]
   .subst qj;have hi:i < ρ.length:=by simpa using (ag.mp h1).1
    rw[aC (by rw[← s.len];exact hi)]at h3;rw[aq qk]at h2 h4;cases h3;exact(old k es qk h2 h4).elim
  .rw[aq qj]at h1 h3;by_cases qk:i=k
   .subst qk;have hi:i < ρ.length:=by simpa using (ag.mp h2).1
    rw[aC (by rw[← s.len];exact hi)]at h4;cases h4;exact(old j ds1 qj h1 h3).elim
   .rw[aq qk]at h2 h4;exact s.apart j k ds1 es b h1 h2 h3 h4
def ct2(i:Nat)(hN:X.N.Nodup)(h:JN X e f)(hi:X.N[i]? = Ob x:=by rfl)(hx:Loc X.env.scope x:=by first|exact Or.inl rfl|exact Or.inr rfl)
  (hs:swapsWith e (Ob<|.Name x pos') pos.line X.env=pure false:=by rfl) (hf:X.fn x=true\/X.env.scope.names.lookup x=Ob .local:=by first|exact .inl rfl|exact .inr rfl):JS X (.Assign [.Name x pos'] e pos) (aj4 i f):=λρ fl q H0 Hf0=>by
 obtain⟨ds,e1,e2⟩:=xmo q;subst e2;refine L9 (an0 hN hi hx (h ρ ds e1) hs hf) λEn σ H ⟨Hf,a,e⟩=>⟨H0,Hf,a.gr.sub,a.sl,λv H' Hf' g ⟨p,vs,z1,z2,z3,z4,z5⟩=>?_⟩
 subst z1;exact e _ H' Hf' ⟨a.gr.trans g,a.sl.setOwn g (a.gr.big.free z2) z2 z3 z4 z5⟩ g.ext
noncomputable def af6(i:Nat)(f:DE):DS:=λρ=>match ρ[i]? with
 | some (Ob (.own ds))=>if ds.length < 16777216 then(f ρ).map λd=>.nx (ρ.set i<|Ob (.own<|ds++[d])) else Oa
 | _=>Oa
def ct7(i:Nat)(h:JE X e f)(hN:X.N[i]? = Ob x:=by rfl)(hv:Vis X.env.scope x:=by first|exact Or.inl rfl|exact Or.inr (Or.inl rfl)|exact Or.inr<|Or.inr rfl)(hd:(x==("__debug__" : Str))=false:=by decide)
  (hcd:(x==("__classdict__" : Str))=false:=by decide) (hbase:dZ (.Name x p) "append" X.env (eval (.Name x p) X.env)=eval (.Name x p) X.env:=by rfl)
  (hfew:((backTo cpos (dI [e] X.env)).all (λx=>!x.1)&&(backToKw cpos (keywordEach [] X.env)).all (λx=>x.1.isSome)
   && decide (([e]:List Expr).length+([]:List dU).length+(if([]:List dU).isEmpty then 0 else 1) < 30))=true:=by rfl)
  (hline:(apos.endLine==cpos.line)=true:=by rfl) (hs:dI [e] X.env=[(false,eval e X.env)]:=by rfl) (hsw:swapsWith (.Call (.Attribute (.Name x p) "append" apos) [e] [] cpos) Oa pos.line X.env=pure false:=by rfl) :
  JS X (.Expr (.Call (.Attribute (.Name x p) "append" apos) [e] [] cpos) pos) (af6 i f):=λρ fl q H0 Hf0=>by
 unfold af6 at q;split at q
 .rename_i ds eo;split at q
  .rename_i hz;obtain⟨d,e1,e2⟩:=xmo q;subst e2;refine L9 (at6 (bf1 PySem.F.plainAttrs_list PySem.F.slot_list_append PySem.F.type_list_append aC2 (V4 hN hv hd hcd) (K5 (h ρ d e1) Q6 hs) hbase hfew hline hs) hsw) λEn σ H ⟨Hf,a,ee⟩=>?_
   obtain⟨v,h1,b,vs,rfl,h2,h3,h4,h5⟩:=a.sl.is i _ eo;refine⟨_,h1,.inl ⟨rfl,vs,SqL.of h2⟩,H0,Hf,a.gr.sub,a.sl,λw H' Hf' gg r=>?_⟩;have hb:H' b=Ob (.lst vs):=gg.big _ _ h2;have hfb:Hf' b=Oa:=gg.nofr h2 h3;have g2:=a.gr.trans gg;have sl2:=a.sl.grow gg;refine⟨b,vs,w,rfl,rfl,hb,by rw[h5.length,dL];exact hz,ee _ _ Hf' ⟨⟨λc u z=>?_,λc u z=>?_,g2.ext,g2.new⟩,?_⟩ gg.ext⟩
   .rw[B2 (C2 z h4)];exact g2.big c u z
   .rw[B2 (C2 z hfb)];exact g2.sub c u z
   .refine⟨by simpa using sl2.len,λj bb z=>?_,λj k ds1 es c q1 q2 q3 q4=>?_⟩
    .by_cases qj:i=j
     .subst qj;have hi:i < ρ.length:=(ag.mp eo).1;rw[aC hi]at z;cases z;exact⟨_,h1,b,vs++[w],rfl,B3,hfb,h4,(h5.mono gg.ext).append ⟨w,[],rfl,r,rfl⟩⟩
     .rw[aq qj]at z;obtain⟨u,z1,z2⟩:=sl2.is j bb z;refine⟨u,z1,?_⟩;cases bb with
      | val d=>exact z2
      | exc C=>exact z2
      | opq _=>exact z2
      | own dd =>
       obtain⟨a',vs',y1,y2,y3,y4,y5⟩:=z2
       have ne:a'≠b:=λzz=>by
        subst zz y1;exact qj<|a.sl.apart i j ds dd a' eo z h1 z1
       exact⟨a',vs',y1,by rw[B2 ne];exact y2,y3,y4,y5⟩
    .have q1':∃dd,ρ[j]? = Ob (Ob<|.own dd):=by
      by_cases qj:i=j
      .subst qj;exact⟨ds,eo⟩
      .rw[aq qj]at q1;exact⟨_,q1⟩
     have q2':∃dd,ρ[k]? = Ob (Ob<|.own dd):=by
      by_cases qj:i=k
      .subst qj;exact⟨ds,eo⟩
      .rw[aq qj]at q2;exact⟨_,q2⟩
     obtain⟨d1,q1'⟩:=q1';obtain⟨d2,q2'⟩:=q2';exact a.sl.apart j k d1 d2 c q1' q2' q3 q4
  .cases q
 .cases q
noncomputable def frz(i:Nat)(ρ:Rho):Rho:=match ρ[i]? with
 | some (Ob (.own ds))=>ρ.set i<|Ob (.val<|.list ds)
 | _=>ρ
def cx2{K:aa}{H0 Hf0 H Hf:Hp}{ρ:Rho}{σ:L2.St}(i:Nat)(a:At K H0 Hf0 ρ σ H Hf):∃Hf',B8 Hf Hf'/\At K H0 Hf0 (frz i ρ) σ H Hf':=by
 unfold frz;split
 .rename_i ds eo;obtain⟨v,h1,b,vs,rfl,h2,h3,h4,h5⟩:=a.sl.is i _ eo;have g:Grow H0 Hf0 H (upd Hf b<|.lst vs):=a.gr.freeze h2 h3 h4;refine⟨upd Hf b<|.lst vs,F7 h3,g,⟨by simpa using a.sl.len,λj bb z=>?_,λj k ds1 es c q1 q2 q3 q4=>?_⟩⟩
  .have hi:i < ρ.length:=(ag.mp eo).1;by_cases qj:i=j
   .subst qj;rw[aC hi]at z;cases z;exact⟨_,h1,b,vs,rfl,SqL.of B3,h5.mono (F7 h3)⟩
   .rw[aq qj]at z;obtain⟨u,z1,z2⟩:=a.sl.is j bb z;refine⟨u,z1,?_⟩;cases bb with
    | val d=>exact Rep.mono (F7 h3) z2
    | opq _=>exact z2
    | exc C =>
     obtain⟨a',o',C',y1,y2,y3⟩:=z2;exact⟨a',o',C',y1,F7 h3 _ _ y2,y3⟩
    | own dd =>
     obtain⟨a',vs',y1,y2,y3,y4,y5⟩:=z2
     have ne:a'≠b:=λzz=>by
      subst zz y1;exact qj<|a.sl.apart i j ds dd a' eo z h1 z1
     exact⟨a',vs',y1,y2,by rw[B2 ne];exact y3,y4,y5.mono<|F7 h3⟩
  .have hi:i < ρ.length:=(ag.mp eo).1;have qj:i≠j:=λz=>by subst z;rw[aC hi]at q1;cases q1
   have qk:i≠k:=λz=>by subst z;rw[aC hi]at q2;cases q2
   rw[aq qj]at q1;rw[aq qk]at q2;exact a.sl.apart j k ds1 es c q1 q2 q3 q4
 .exact⟨Hf,B8.refl _,a⟩
noncomputable def aL5(i:Nat)(f:DS):DS:=λρ=>f<|frz i ρ
def ct3(i:Nat){st:Stmt}{f:DS}(h:JS X st f):JS X st (aL5 i f):=λρ fl q H0 Hf0=>L9 (h (frz i ρ) fl q H0 Hf0) λEn σ H ⟨Hf,a,e⟩=>by
 obtain⟨Hf',s,a'⟩:=cx2 i a;exact⟨Hf',a',Fl.ends_mono e s⟩
noncomputable def cB4(K:aa)(H0 Hf0:Hp)(f:DS):TS:=λEn σ H=>∃ρ fl,f ρ=Ob fl/\tJS K H0 Hf0 ρ fl En σ H
def be7(h:JSs X sts f):PSs X sts (cB4 X.K H0 Hf0 f):=λpins s σ H En I ⟨ρ,fl,e,t⟩=>h ρ fl e H0 Hf0 pins s σ H En I t
def cl4(h:JT X e c):PT X e (aB1 X.K c):=λpins s σ H Q I ⟨ρ,b,e,t⟩=>h ρ b e pins s σ H Q I t
noncomputable def Y2(t:Rho->Option Bool)(f:DS):Nat->DS
 | 0=>λ_=>Oa
 | n+1=>λρ=>(t ρ).bind λc=>if c then(f ρ).bind λfl=>match fl with
   | .nx ρ'=>Y2 t f n ρ'
   | .ct ρ'=>Y2 t f n ρ'
   | .bk ρ'=>Ob<|.nx ρ'
   | .rt d=>Ob<|.rt d
  else Ob (.nx ρ)
theorem ah5:∀{n:Nat}{ρ:Rho}{fl:Fl},Y2 t f n ρ=Ob fl->Y2 t f (n+1) ρ=Ob fl
 | 0,_,_,h=>by cases h
 | n+1,ρ,fl,h=>by
  obtain⟨c,e1,h⟩:=xbm h;show(t ρ).bind _=_;rw[e1];cases c with
  | false=>exact h
  | true =>
   obtain⟨fl1,e2,h⟩:=xbm h;show(f ρ).bind _=_;rw[e2];cases fl1 with
   | nx ρ'=>exact ah5 (n:=n) h
   | ct ρ'=>exact ah5 (n:=n) h
   | bk ρ'=>exact h
   | rt d=>exact h
def aO1(h:Y2 t f n ρ=Ob fl)(l:n<=m):Y2 t f m ρ=Ob fl:=by
 induction l with
 | refl=>exact h
 | step _ ih=>exact ah5 ih
open Classical in
noncomputable def aa2(t:Rho->Option Bool)(f:DS):DS:=λρ=>if h:∃fl n,Y2 t f n ρ=Ob fl then Ob h.choose else Oa
def aB4(h:Y2 t f n ρ=Ob fl):aa2 t f ρ=Ob fl:=by
 have hx:∃fl n,Y2 t f n ρ=Ob fl:=⟨fl,n,h⟩;unfold aa2;rw[dif_pos hx];obtain⟨m,hm⟩:=hx.choose_spec;have h1:=aO1 h (Nat.le_max_left n m);have h2:=aO1 hm (Nat.le_max_right n m);rw[h1]at h2;exact h2.symm
def bm0(h:aa2 t f ρ=Ob fl):∃n,Y2 t f n ρ=Ob fl:=by
 unfold aa2 at h;split at h
 .rename_i hx;cases h;exact hx.choose_spec
 .cases h
def bD4(hc:JT X c t)(hb:JSs X body f)(hp:PassesOwn (ez X.prog X.w) X.A X.env X.xe:=by exact PassesOwn.never):JS X (.While c body [] pos) (aa2 t f):=λρ fl q H0 Hf0=>by
 obtain⟨n,hn⟩:=bm0 q;refine L9 (bx7 hp (cl4 hc)<|be7 (H0:=H0) (Hf0:=Hf0) hb) λEn σ H ⟨Hf,a,e⟩=>?_
 refine⟨λm σ H=>∃Hf' ρ',At X.K H0 Hf0 ρ' σ H Hf'/\B8 Hf Hf'/\Y2 t f m ρ'=Ob fl,⟨n,Hf,ρ,a,B8.refl _,hn⟩,?_⟩
 rintro m σ' H' ⟨Hf',ρ',a',s',hm⟩
 cases m with
 | zero=>cases hm
 | succ m =>
  obtain⟨b,e1,hm⟩:=xbm hm;refine⟨ρ',b,e1,H0,Hf',a'.gr.sub,a'.sl,λH2 Hf2 g2=>?_⟩;have a2:=a'.grow g2;have s2:=s'.trans g2.ext;cases b with
  | false =>
   have:fl=.nx ρ':=by simpa using hm.symm
   subst this;exact ao2<|e σ' H2 Hf2 a2 s2
  | true =>
   obtain⟨fl1,e2,hm⟩:=xbm (show(f ρ').bind _=Ob fl from hm);refine ao1 ⟨λσ3 H3=>∃m',m' < m+1/\∃Hf' ρ',At X.K H0 Hf0 ρ' σ3 H3 Hf'/\B8 Hf Hf'/\Y2 t f m' ρ'=Ob fl,λσ3 H3 z=>z,ρ',fl1,e2,Hf2,a2,?_⟩;cases fl1 with
   | nx ρ3=>exact λσ3 H3 Hf3 a3 s3=>⟨m,cJ _,Hf3,ρ3,a3,s2.trans s3,hm⟩
   | ct ρ3=>exact λσ3 H3 Hf3 a3 s3=>⟨m,cJ _,Hf3,ρ3,a3,s2.trans s3,hm⟩
   | bk ρ3 =>
    cases hm;exact λσ3 H3 Hf3 a3 s3=>e σ3 H3 Hf3 a3<|s2.trans s3
   | rt d =>
    cases hm;exact e
noncomputable def aa6(g:D->Rho->Option Rho)(f:DS):List D->DS
 | []=>λρ=>Ob<|.nx ρ
 | d::ds=>λρ=>(g d ρ).bind λρ1=>(f ρ1).bind λfl=>match fl with
   | .nx ρ'=>aa6 g f ds ρ'
   | .ct ρ'=>aa6 g f ds ρ'
   | .bk ρ'=>Ob<|.nx ρ'
   | .rt d=>Ob<|.rt d
noncomputable def Y8(src:Rho->Option (List D))(g:D->Rho->Option Rho)(f:DS):DS:=λρ=>(src ρ).bind λds=>aa6 g f ds ρ
def ct4(hi:JI X tg iter src)(hg:JG X tg g)(hb:JSs X body f)(hp:PassesOwn (ez X.prog X.w) X.A X.env X.xe:=by exact PassesOwn.never)(hc:X.calm=true:=by rfl)
  (hs:∀x,dX iter X.env x=pure x:=by intro _;rfl):JS X (.For tg iter body [] pos) (Y8 src g f):=λρ fl q H0 Hf0=>by
 obtain⟨ds,e1,e2⟩:=xbm q;refine L9 (bx9 hp hc (hi ρ ds e1) hg (be7 (H0:=H0) (Hf0:=Hf0) hb) hs) λEn σ H ⟨Hf,a,e⟩=>⟨H0,Hf,a.gr.sub,a.sl,λJ H1 Hf1 g1 Y=>?_⟩
 refine⟨λi m σ H=>m=ds.length - i/\i<=ds.length/\∃Hf' ρ',At X.K H0 Hf0 ρ' σ H Hf'/\B8 Hf1 Hf'/\aa6 g f (ds.drop i) ρ'=Ob fl,⟨ds.length,by simp,aU _,Hf1,ρ,a.grow g1,B8.refl _,by simpa using e2⟩,?_⟩
 rintro i m σ' H' ⟨rfl,hi,Hf',ρ',a',s',hm⟩
 obtain⟨Ys,Yg⟩:=Y i H' Hf' s' a'.gr.sub;rcases bD i ds.length with hlt|hge
 .right
  obtain⟨go,yl⟩:=Yg ds[i] (by simp[hlt]);rw[bu hlt]at hm;obtain⟨ρ1,c1,hm⟩:=xbm hm;obtain⟨fl1,c2,hm⟩:=xbm hm;refine⟨go,λσ3 H3=>∃m',m' < ds.length - i/\m'=ds.length - (i+1)/\i+1<=ds.length/\∃Hf' ρ',At X.K H0 Hf0 ρ' σ3 H3 Hf'/\B8 Hf1 Hf'/\aa6 g f (ds.drop<|i+1) ρ'=Ob fl,λσ3 H3 ⟨m',z1,z2⟩=>⟨m',z1,z2⟩,λx H2 hy=>?_⟩;obtain⟨Hf2,g2,r2⟩:=yl x H2 hy;have a2:=a'.grow g2;refine⟨ds[i],ρ',ρ1,H0,Hf2,c1,g2.sub,a2.sl,r2,λσ3 sl3=>⟨ρ1,fl1,c2,Hf2,⟨a2.gr,sl3⟩,?_⟩⟩;have s2:=s'.trans g2.ext;cases fl1 with
  | nx ρ3=>exact λσ3 H3 Hf3 a3 s3=>⟨_,by omega,rfl,hlt,Hf3,ρ3,a3,s2.trans s3,hm⟩
  | ct ρ3=>exact λσ3 H3 Hf3 a3 s3=>⟨_,by omega,rfl,hlt,Hf3,ρ3,a3,s2.trans s3,hm⟩
  | bk ρ3 =>
   cases hm;exact λσ3 H3 Hf3 a3 s3=>e σ3 H3 Hf3 a3<|g1.ext.trans (s2.trans s3)
  | rt d =>
   cases hm;exact e
 .left
  have:i=ds.length:=by omega
  subst this;rw[de]at hm;cases hm;exact⟨Ys (ah _),e σ' H' Hf' a' (g1.ext.trans s')⟩
def bX1:JS X (.Pass pos) K9:=λρ fl q H0 Hf0=>by
 cases q;exact L9 bS9 λEn σ H ⟨Hf,a,e⟩=>e σ H Hf a<|B8.refl _
def ct6:JS X (.Break pos) (λρ=>Ob<|.bk ρ):=λρ fl q H0 Hf0=>by
 cases q;exact L9 by0 λEn σ H ⟨Hf,a,e⟩=>e σ H Hf a<|B8.refl _
end
noncomputable def Q5(n:Nat)(ds:List D):Rho:=ds.map (λd=>Ob<|B.val d)++aj (n - ds.length) Oa
noncomputable def C6(g:DS)(n:Nat):List D->Option D:=λds=>(g<|Q5 n ds).bind λfl=>match fl with
 | .rt d=>Ob d
 | .nx _=>Ob .none
 | _=>Oa
def n8{K:aa}{H0 H Hf:Hp}{N:List Str}{ds:List D}{vs:List V}(r:Reps K Hf ds vs):Slots K H0 (Q5 N.length ds) (L2.start N vs) H Hf:=by
 have hl:=r.length
 have noown:∀(i:Nat) (b:B),(Q5 N.length ds)[i]? = Ob (Ob b)->∃d,ds[i]? = Ob d/\b=.val d:=λi b h=>by
  unfold Q5 at h;rcases bD i ds.length with q|q
  .rw[aM (by simpa using q),av]at h;rw[ao q]at h ⊢;simp only[cN,bc.injEq]at h;exact⟨ds[i],rfl,h.symm⟩
  .rw[aK (by simpa using q),be]at h;split at h<;>cases h
 refine⟨by simp[Q5,L2.start,hl],λi b e=>?_,λi j d1 d2 a e1 _ _ _=>?_⟩
 .obtain⟨d,h1,h2⟩:=noown i b e;subst h2;obtain⟨v,h3,h4⟩:=r.get h1;refine⟨v,?_,h4⟩;have hi:i < vs.length:=(ag.mp h3).1;unfold L2.start;rw[aM (by simpa using hi),av,h3];rfl
 .obtain⟨d,_,h2⟩:=noown i _ e1;cases h2
def bZ7{P:dO}{w:World}{K:aa}{mg:Str->Option eP}{base:Heap}{x qual:Str}{st:Stmt}{f:eR}{fd:dQ}{N ps:List Str}{k:Nat}{g:DS}(F:Fun K x qual st f fd)(S:FnScope N ps (B9 st))
  (hb:∀(cdv:eP) (A:dP) (outer:List Env) (s:eQ) (H:Hp) (E:XK),Room k (A.deeper<|envOfC qual (B9 st) s.heap.objs.size f cdv)->JSs (as7 CX0 P w K mg base N qual (B9 st) f cdv A outer s H E).nox (G0 st) g) :
  FnOk P w K mg base CX0 (k+1) f fd ps (spF K ps.length<|C6 g N.length):=by
 refine F.ok S (λvs H Q E h=>h.1) λcdv A outer s H vs Q E hr hsp=>?_
 obtain⟨hlen,Hf,ds,d,ss,rp,e,kk⟩:=hsp;obtain⟨fl,e1,e2⟩:=xbm e;refine⟨_,hb cdv A outer s H E hr _ fl e1 H Hf,Hf,⟨Grow.refl ss,n8 rp⟩,?_⟩;cases fl with
 | rt d'=>cases e2;exact λv H' Hf' g r=>kk v H' Hf' g r
 | nx ρ=>cases e2;exact λσ' H' Hf' a _=>kk _ H' Hf' a.gr rfl
 | bk ρ=>cases e2
 | ct ρ=>cases e2
noncomputable def SIt:Bool->Heap->eR->eR->Nat->Prop
 | true=>Heap.IsTupleIter
 | false=>Heap.IsListIter
noncomputable def SSq:Bool->Heap->eR->Array eP->Prop
 | true=>Heap.IsTuple
 | false=>Heap.IsList
section
variable {prog:Program}{w:World}{A:Around}{E:Value->Shared->Prop}{s:Shared}{t t1 t2:Bool}
def SIt.ext(x:SIt t h it l k)(e:∀o,h.get? it=Ob o->h'.get? it=Ob o):SIt t h' it l k:=by
 cases t with
 | true=>obtain⟨o,ho,r⟩:=x;exact⟨o,e o ho,r⟩
 | false=>obtain⟨o,ho,r⟩:=x;exact⟨o,e o ho,r⟩
def SSq.ext(x:SSq t h l xs)(e:∀o,h.get? l=Ob o->h'.get? l=Ob o):SSq t h' l xs:=by
 cases t with
 | true=>obtain⟨o,ho,r⟩:=x;exact⟨o,e o ho,r⟩
 | false=>obtain⟨o,ho,r⟩:=x;exact⟨o,e o ho,r⟩
def SIt.lt(x:SIt t h it l k):it < h.objs.size:=by
 cases t with
 | true=>obtain⟨o,ho,_⟩:=x;exact eB ho
 | false=>obtain⟨o,ho,_⟩:=x;exact eB ho
def aS7(hit:s.heap.IsTupleIter it l k)(hl:s.heap.IsTuple l xs)(hx:xs[k]? = Ob x)
  (hQ:∀h',h'.IsTupleIter it l (k+1)->Heap.SameBut it s.heap h'->Q x { s with heap:=h' }):eh (ez prog w) A (Builtin.SmallTypes.nextOf<|.ref it) Q E s:=by
 obtain⟨o,ho,hc,hd⟩:=id hit;obtain⟨ol,hol,_,nl,hdl⟩:=hl;unfold Builtin.SmallTypes.nextOf;refine dB (wpAny_callSpecial?_slot (name:=Str.ofString "__next__") hit.typeIs F.slot_tuple_iterator_next<|wpAny_call_entry F.slot_tuple_iterator_next hit.typeIs F.entry_tuple_iterator_next ?_ (F.args_tuple_iterator_next_1 _));show eh _ _ (field (.ref it) 0 >>= _) _ _ s;refine dB (dH ho hd (x:=.ref l) rfl ?_);show eh _ _ (if(eK l==eL)=true then _ else _) _ _ s;rw[if_neg (show ¬((eK l==eL)=true) from aB)];show eh _ _ (field (.ref it) 1 >>= _) _ _ s;refine dB (dH ho hd (x:=.int k 0) rfl ?_);show eh _ _ (seqItems? (.ref l) >>= _) _ _ s;refine dB (wpAny_seqItems hol hdl ?_);simp only[aZ,hx];refine dB (wpAny_setField ho hd (by simp)<|dD ⟨x,rfl,dD<|hQ _ ⟨_,Heap.get?_update_self _ ho<|Obj.isFreed_of_fields (Obj.data_mapFields hd _),(Obj.cls_mapFields ..).trans hc,?_⟩ (Heap.SameBut.update ..)⟩);rw[Obj.data_mapFields hd];simp[rawInt]
def bk4(hh:A.handled=Oa)(hit:s.heap.IsTupleIter it l k)(hl:s.heap.IsTuple l xs)(hx:xs[k]? = Oa)
  (hE:∀h' e,Heap.ExtBut it s.heap h'->(∃o,h'.get? e=Ob o/\o.cls=.type "StopIteration")->E (.ref e) { s with heap:=h' }):eh (ez prog w) A (Builtin.SmallTypes.nextOf<|.ref it) Q E s:=by
 obtain⟨o,ho,hc,hd⟩:=id hit;obtain⟨ol,hol,_,nl,hdl⟩:=hl;unfold Builtin.SmallTypes.nextOf;refine dB (wpAny_callSpecial?_slot (name:=Str.ofString "__next__") hit.typeIs F.slot_tuple_iterator_next<|wpAny_call_entry F.slot_tuple_iterator_next hit.typeIs F.entry_tuple_iterator_next ?_ (F.args_tuple_iterator_next_1 _));show eh _ _ (field (.ref it) 0 >>= _) _ _ s;refine dB (dH ho hd (x:=.ref l) rfl ?_);show eh _ _ (if(eK l==eL)=true then _ else _) _ _ s;rw[if_neg (show ¬((eK l==eL)=true) from aB)];show eh _ _ (field (.ref it) 1 >>= _) _ _ s;refine dB (dH ho hd (x:=.int k 0) rfl ?_);show eh _ _ (seqItems? (.ref l) >>= _) _ _ s;refine dB (wpAny_seqItems hol hdl ?_);simp only[aZ,hx];refine dB (wpAny_rule<|dB (wpAny_setField ho hd (by simp) ?_));show eh _ _ (newExc (.type "StopIteration") [] >>= _) _ _ _;refine dB ?_;simp only[newExc,newTuple];refine dB (dF ?_<|by size_fits);refine dB (m:=firstArgMember _ _) (wpAny_of_eq (a:=eL) (by first|rfl|(simp only[firstArgMember];rfl)) ?_);refine dF ?_ (by size_fits);simp only[raiseNew];refine dB (wpAny_handled ?_);first|rw[show A.in1.handled=Oa from hh]|rw[hh]
 refine dB (dD<|wpAny_throw ?_);exact hE _ _ (((Heap.SameBut.update ..).extBut.push _).push _) ⟨_,eD _ rfl,rfl⟩
def aj2(hit:SIt t s.heap it l k)(hl:SSq t s.heap l xs)(hx:xs[k]? = Ob x)
  (hQ:∀h',SIt t h' it l (k+1)->Heap.SameBut it s.heap h'->Q x { s with heap:=h' }):eh (ez prog w) A (Builtin.SmallTypes.nextOf<|.ref it) Q E s:=by
 cases t with
 | true=>exact aS7 hit hl hx hQ
 | false=>exact wpAny_nextOf_list_item hit hl hx hQ
def at5(hh:A.handled=Oa)(hit:SIt t s.heap it l k)(hl:SSq t s.heap l xs)(hx:xs[k]? = Oa)
  (hE:∀h' e,Heap.ExtBut it s.heap h'->(∃o,h'.get? e=Ob o/\o.cls=.type "StopIteration")->E (.ref e) { s with heap:=h' }):eh (ez prog w) A (Builtin.SmallTypes.nextOf<|.ref it) Q E s:=by
 cases t with
 | true=>exact bk4 hh hit hl hx hE
 | false=>exact wpAny_nextOf_list_end hh hit hl hx hE
def bk6{z TI TO i1 i2 l1 l2:eR}{k1 k2:Nat}{xs ys:Array eP}{x y a b:eP}{Q:eP->eQ->Prop}(Z:ZipApart z TI TO i1 i2 l1 l2)
  (hz:IsZip s.heap z TI TO .none) (hTI:IsPair s.heap TI (.ref i1) (.ref i2)) (hTO:IsPair s.heap TO a b) (h1:SIt t1 s.heap i1 l1 k1) (h2:SIt t2 s.heap i2 l2 k2) (hl1:SSq t1 s.heap l1 xs) (hl2:SSq t2 s.heap l2 ys) (hx:xs[k1]? = Ob x) (hy:ys[k2]? = Ob y)
  (hQ:∀h',IsZip h' z TI TO (rawInt s.heap.objs.size)->IsPair h' TO x y->SIt t1 h' i1 l1 (k1+1)->SIt t2 h' i2 l2 (k2+1)->IsPair h' s.heap.objs.size x y->h'.objs.size=s.heap.objs.size+1 ->
   (∀c o,c≠z->c≠TO->c≠i1->c≠i2->s.heap.get? c=Ob o->h'.get? c=Ob o)->Q (.ref s.heap.objs.size) { s with heap:=h' }) :
  eh (ez prog w) A (Builtin.«zip.__next__» ⟨[.ref z],[]⟩) (λfin s'=>∃v,fin=.done (.ret v)/\Q v s') E s:=by
 show eh _ _ (field (.ref z) 2 >>= _) _ _ _;refine dB (dH hz rfl (x:=.bool false) rfl ?_);show eh _ _ (field (.ref z) 3 >>= _) _ _ _;refine dB (dH hz rfl (x:=.ref TI) rfl ?_);refine dB (wpAny_seqItems hTI rfl ?_);show eh _ _ (Builtin.SmallTypes.ownedTupleIsFree (.ref z) >>= _) _ _ _;refine dB ?_;unfold Builtin.SmallTypes.ownedTupleIsFree;refine dB (dH hz rfl (x:=.none) rfl<|dD ?_);simp only[if_true];refine dB (wpAny_rule ?_);refine dB (dH hz rfl (x:=.ref TO) rfl ?_);refine dB (wpAny_setField_rec hz (by simp) λha za sa=>?_);have za':IsZip ha z TI TO .ellipsis:=za;refine dB ?_;simp only[List.zipIdx_cons,List.zipIdx_nil,dm,List.forIn_nil];refine dB (dB<|wpAny_onRaise ?_);show eh _ _ (Builtin.SmallTypes.nextOf (.ref i1) >>= _) _ _ _;refine dB (aj2 (h1.ext λo e=>sa.extBut _ _ Z.i1z e) (hl1.ext λo e=>sa.extBut _ _ Z.l1z e) hx λhb h1b sb=>dD ?_);have hTOb:IsPair hb TO a b:=sb.extBut _ _ Z.TOi1 (sa.extBut _ _ Z.TOz hTO);refine dB (wpAny_seqItems hTOb rfl ?_);refine dB (wpAny_updateSeq_pair hTOb λhcc TOc sc=>?_);have TOc':IsPair hcc TO x b:=TOc;refine dB (wpAny_letGo<|dD ?_);refine dB (dB<|wpAny_onRaise ?_);show eh _ _ (Builtin.SmallTypes.nextOf (.ref i2) >>= _) _ _ _;refine dB (aj2 (((h2.ext λo e=>sa.extBut _ _ Z.i2z e).ext λo e=>sb.extBut _ _ Z.i12.symm e).ext λo e=>sc.extBut _ _ Z.TOi2.symm e) (((hl2.ext λo e=>sa.extBut _ _ Z.l2z e).ext λo e=>sb.extBut _ _ Z.l2i1 e).ext λo e=>sc.extBut _ _ Z.l2TO e) hy λhd h2d sd=>dD ?_);have hTOd:IsPair hd TO x b:=sd.extBut _ _ Z.TOi2 TOc';refine dB (wpAny_seqItems hTOd rfl ?_);refine dB (wpAny_updateSeq_pair hTOd λhe TOe se=>?_);have TOe':IsPair he TO x y:=TOe;refine dB (wpAny_letGo<|dD (dD ?_));refine dB (wpAny_seqItems TOe' rfl ?_);refine dB (wpAny_newTuple ?_);have sz:he.objs.size=s.heap.objs.size:=by rw[se.1,sd.1,sc.1,sb.1,sa.1]
 have ze:IsZip he z TI TO .ellipsis:=se.extBut _ _ Z.TOz.symm (sd.extBut _ _ Z.i2z.symm<|sc.extBut _ _ Z.TOz.symm (sb.extBut _ _ Z.i1z.symm za'));have ke:∀c o,c≠z->c≠TO->c≠i1->c≠i2->s.heap.get? c=Ob o->he.get? c=Ob o:=λc o c1 c2 c3 c4 e=>se.extBut _ _ c2<|sd.extBut _ _ c4 (sc.extBut _ _ c2<|sb.extBut _ _ c3 (sa.extBut _ _ c1 e))
 have h1e:SIt t1 he i1 l1 (k1+1):=((h1b.ext λo e=>sc.extBut _ _ Z.TOi1.symm e).ext λo e=>sd.extBut _ _ Z.i12 e).ext λo e=>se.extBut _ _ Z.TOi1.symm e
 have h2e:SIt t2 he i2 l2 (k2+1):=h2d.ext λo e=>se.extBut _ _ Z.TOi2.symm e
 have zlt:z < he.objs.size:=eB ze;show eh _ _ (Builtin.SmallTypes.ownedTupleHandOut (.ref z) (.ref he.objs.size) >>= _) _ _ _;refine dB ?_;unfold Builtin.SmallTypes.ownedTupleHandOut;have zf:IsZip (he.push { cls:=.type "tuple", data:=.seq #[x,y] }) z TI TO .ellipsis:=eA _ ze;refine dB (wpAny_setField_rec zf (by simp) λhg zg sg=>?_);have zg':IsZip hg z TI TO (rawInt he.objs.size):=zg;refine wpAny_setField_rec zg' (by simp) λhi zi si=>?_;have zi':IsZip hi z TI TO (rawInt he.objs.size):=zi
 have up:∀c o,c≠z->he.get? c=Ob o->hi.get? c=Ob o:=λc o c1 e=>si.extBut _ _ c1<|sg.extBut _ _ c1 (eA _ e)
 have hT:IsPair hi he.objs.size x y:=si.extBut _ _ (Nat.ne_of_gt zlt) (sg.extBut _ _ (Nat.ne_of_gt zlt)<|eD _ rfl);have szi:hi.objs.size=he.objs.size+1:=by rw[si.1,sg.1,Heap.size_push]
 rw[sz]at zi' hT szi;refine dD ⟨_,rfl,?_⟩;show Q (.ref he.objs.size) _;rw[sz];exact hQ hi zi' (up _ _ Z.TOz TOe') (h1e.ext λo e=>up _ o Z.i1z e) (h2e.ext λo e=>up _ o Z.i2z e) hT szi λc o c1 c2 c3 c4 e=>up c o c1<|ke c o c1 c2 c3 c4 e
def bu8{z TI TO i1 i2 l1 l2:eR}{k1 k2:Nat}{xs ys:Array eP}{a b:eP}{Q:Fin->eQ->Prop}(hh:A.handled=Oa)(Z:ZipApart z TI TO i1 i2 l1 l2)
  (hz:IsZip s.heap z TI TO .none) (hTI:IsPair s.heap TI (.ref i1) (.ref i2)) (hTO:IsPair s.heap TO a b) (h1:SIt t1 s.heap i1 l1 k1) (h2:SIt t2 s.heap i2 l2 k2) (hl1:SSq t1 s.heap l1 xs) (hl2:SSq t2 s.heap l2 ys) (hend:xs[k1]? = Oa\/ys[k2]? = Oa)
  (hE:∀h' e,(∀c o,c≠z->c≠TO->c≠i1->c≠i2->s.heap.get? c=Ob o->h'.get? c=Ob o)->(∃o,h'.get? e=Ob o/\o.cls=.type "StopIteration")->E (.ref e) { s with heap:=h' }) :
  eh (ez prog w) A (Builtin.«zip.__next__» ⟨[.ref z],[]⟩) Q E s:=by
 show eh _ _ (field (.ref z) 2 >>= _) _ _ _;refine dB (dH hz rfl (x:=.bool false) rfl ?_);show eh _ _ (field (.ref z) 3 >>= _) _ _ _;refine dB (dH hz rfl (x:=.ref TI) rfl ?_);refine dB (wpAny_seqItems hTI rfl ?_);show eh _ _ (Builtin.SmallTypes.ownedTupleIsFree (.ref z) >>= _) _ _ _;refine dB ?_;unfold Builtin.SmallTypes.ownedTupleIsFree;refine dB (dH hz rfl (x:=.none) rfl<|dD ?_);simp only[if_true];refine dB (wpAny_rule ?_);refine dB (dH hz rfl (x:=.ref TO) rfl ?_);refine dB (wpAny_setField_rec hz (by simp) λha za sa=>?_);have za':IsZip ha z TI TO .ellipsis:=za;refine dB ?_;simp only[List.zipIdx_cons,List.zipIdx_nil,dm,List.forIn_nil];refine dB (dB<|wpAny_onRaise ?_);show eh _ _ (Builtin.SmallTypes.nextOf (.ref i1) >>= _) _ _ _;cases hx:xs[k1]? with
 | none =>
  refine dB (at5 hh (h1.ext λo e=>sa.extBut _ _ Z.i1z e) (hl1.ext λo e=>sa.extBut _ _ Z.l1z e) hx λhb e sb he=>?_);obtain⟨oe,hoe,hce⟩:=he;have zb:IsZip hb z TI TO .ellipsis:=sb _ _ Z.i1z.symm za';have hez:e≠z:=λq=>by subst q;rw[zb]at hoe;cases hoe;simp at hce
  exact wpAny_setField_rec zb (by simp) λhcc _ sc=>hE hcc e (λc o c1 _ c3 _ q=>sc.extBut _ _ c1<|sb _ _ c3 (sa.extBut _ _ c1 q)) ⟨oe,sc.extBut _ _ hez hoe,hce⟩
 | some x =>
  have hy:ys[k2]? = Oa:=by rcases hend with h|h;rw[hx]at h;cases h;exact h
  refine dB (aj2 (h1.ext λo e=>sa.extBut _ _ Z.i1z e) (hl1.ext λo e=>sa.extBut _ _ Z.l1z e) hx λhb h1b sb=>dD ?_);have hTOb:IsPair hb TO a b:=sb.extBut _ _ Z.TOi1 (sa.extBut _ _ Z.TOz hTO);refine dB (wpAny_seqItems hTOb rfl ?_);refine dB (wpAny_updateSeq_pair hTOb λhcc TOc sc=>?_);refine dB (wpAny_letGo<|dD ?_);refine dB (dB<|wpAny_onRaise ?_);show eh _ _ (Builtin.SmallTypes.nextOf (.ref i2) >>= _) _ _ _;refine dB (at5 hh (((h2.ext λo e=>sa.extBut _ _ Z.i2z e).ext λo e=>sb.extBut _ _ Z.i12.symm e).ext λo e=>sc.extBut _ _ Z.TOi2.symm e) (((hl2.ext λo e=>sa.extBut _ _ Z.l2z e).ext λo e=>sb.extBut _ _ Z.l2i1 e).ext λo e=>sc.extBut _ _ Z.l2TO e) hy λhd e sd he=>?_);obtain⟨oe,hoe,hce⟩:=he;have zd:IsZip hd z TI TO .ellipsis:=sd _ _ Z.i2z.symm (sc.extBut _ _ Z.TOz.symm<|sb.extBut _ _ Z.i1z.symm za');have hez:e≠z:=λq=>by subst q;rw[zd]at hoe;cases hoe;simp at hce
  exact wpAny_setField_rec zd (by simp) λhf _ sf=>hE hf e (λc o c1 c2 c3 c4 q=>sf.extBut _ _ c1<|sd _ _ c4 (sc.extBut _ _ c2<|sb.extBut _ _ c3 (sa.extBut _ _ c1 q))) ⟨oe,sf.extBut _ _ hez hoe,hce⟩
def aT7{z TI TO i1 i2 l1 l2:eR}{k1 k2:Nat}{xs ys:Array eP}{x y a b:eP}{Q:Option eP->eQ->Prop}(Z:ZipApart z TI TO i1 i2 l1 l2)
  (hz:IsZip s.heap z TI TO .none) (hTI:IsPair s.heap TI (.ref i1) (.ref i2)) (hTO:IsPair s.heap TO a b) (h1:SIt t1 s.heap i1 l1 k1) (h2:SIt t2 s.heap i2 l2 k2) (hl1:SSq t1 s.heap l1 xs) (hl2:SSq t2 s.heap l2 ys) (hx:xs[k1]? = Ob x) (hy:ys[k2]? = Ob y)
  (hQ:∀h',IsZip h' z TI TO (rawInt s.heap.objs.size)->IsPair h' TO x y->SIt t1 h' i1 l1 (k1+1)->SIt t2 h' i2 l2 (k2+1)->IsPair h' s.heap.objs.size x y->h'.objs.size=s.heap.objs.size+1 ->
   (∀c o,c≠z->c≠TO->c≠i1->c≠i2->s.heap.get? c=Ob o->h'.get? c=Ob o)->Q (Ob (.ref s.heap.objs.size)) { s with heap:=h' }):eh (ez prog w) A (pyNext (.ref z)) Q E s:=by
 have hT:s.TypeIs (.ref z) "zip" := ⟨_,hz,rfl⟩;unfold pyNext;refine dB (wpAny_attempt<|wpAny_callSpecial?_slot (name:=Str.ofString "__next__") hT F.slot_zip_next (wpAny_call_entry F.slot_zip_next hT F.entry_zip_next (bk6 Z hz hTI hTO h1 h2 hl1 hl2 hx hy ?_)<|F.args_zip_next_1 _));exact λh' a1 a2 a3 a4 a5 a6 a7=>dD<|hQ h' a1 a2 a3 a4 a5 a6 a7
def bl1{z TI TO i1 i2 l1 l2:eR}{k1 k2:Nat}{xs ys:Array eP}{a b:eP}{Q:Option eP->eQ->Prop}(hh:A.handled=Oa)(Z:ZipApart z TI TO i1 i2 l1 l2)
  (hz:IsZip s.heap z TI TO .none) (hTI:IsPair s.heap TI (.ref i1) (.ref i2)) (hTO:IsPair s.heap TO a b) (h1:SIt t1 s.heap i1 l1 k1) (h2:SIt t2 s.heap i2 l2 k2) (hl1:SSq t1 s.heap l1 xs) (hl2:SSq t2 s.heap l2 ys) (hend:xs[k1]? = Oa\/ys[k2]? = Oa)
  (hQ:∀h',(∀c o,c≠z->c≠TO->c≠i1->c≠i2->s.heap.get? c=Ob o->h'.get? c=Ob o)->Q Oa { s with heap:=h' }):eh (ez prog w) A (pyNext<|.ref z) Q E s:=by
 have hT:s.TypeIs (.ref z) "zip" := ⟨_,hz,rfl⟩;unfold pyNext;refine dB (wpAny_attempt<|wpAny_callSpecial?_slot (name:=Str.ofString "__next__") hT F.slot_zip_next (wpAny_call_entry F.slot_zip_next hT F.entry_zip_next (bu8 hh Z hz hTI hTO h1 h2 hl1 hl2 hend λh' e hk he=>?_)<|F.args_zip_next_1 _));obtain⟨o,ho,hc⟩:=he;exact dB<|wpAny_isInstance (T := "StopIteration") (b:=true) ⟨o,ho,hc⟩ isSubtype_stop (dD<|hQ _ hk)
noncomputable def ak7(t:Bool)(l:eR):Obj:={ cls:=.type (if t then "tuple_iterator" else "list_iterator"),data:=.fields #[.ref l,.int 0 0] }
def aF5{h:Heap}{l:eR}(t:Bool):SIt t (h.push<|ak7 t l) h.objs.size l 0:=by
 cases t with
 | true=>exact⟨_,eD _ rfl,rfl,rfl⟩
 | false=>exact⟨_,eD _ rfl,rfl,rfl⟩
def ac3(hl:SSq t s.heap l xs)(hQ:Q (.ref s.heap.objs.size) { s with heap:=s.heap.push (ak7 t l) }):eh (ez prog w) A (pyIter<|.ref l) Q E s:=by
 cases t with
 | true=>exact wpAny_pyIter_tuple hl hQ
 | false=>exact wpAny_pyIter_list hl hQ
end
noncomputable abbrev zp1(h:Heap)(t1:Bool)(l1:eR):Heap:=h.push<|ak7 t1 l1
noncomputable abbrev zp2(h:Heap)(t1 t2:Bool)(l1 l2:eR):Heap:=(zp1 h t1 l1).push<|ak7 t2 l2
noncomputable abbrev zp3(h:Heap)(t1 t2:Bool)(l1 l2:eR):Heap:=(zp2 h t1 t2 l1 l2).push { cls:=.type "tuple", data:=.seq #[.ref h.objs.size,.ref (zp1 h t1 l1).objs.size] }
noncomputable abbrev zp4(h:Heap)(t1 t2:Bool)(l1 l2:eR):Heap:=(zp3 h t1 t2 l1 l2).push { cls:=.type "tuple", data:=.seq #[.none,.none] }
noncomputable abbrev zp5(h:Heap)(t1 t2:Bool)(l1 l2:eR):Heap:=(zp4 h t1 t2 l1 l2).push { cls:=.type "zip", data:=.fields #[.none,.bool false,.bool false,.ref (zp2 h t1 t2 l1 l2).objs.size,.ref (zp3 h t1 t2 l1 l2).objs.size] }
def bu7(l1 l2:eR)(xs ys:Array eP)(t1 t2:Bool):
  Meets (Builtin.«zip.__new__» ⟨[.type "zip", .ref l1,.ref l2],[]⟩) (λ_ R s=>SSq t1 s.heap l1 xs/\SSq t2 s.heap l2 ys/\∀h',IsZip h' (s.heap.objs.size+4) (s.heap.objs.size+2) (s.heap.objs.size+3) .none->IsPair h' (s.heap.objs.size+2) (.ref s.heap.objs.size) (.ref (s.heap.objs.size+1)) ->
   IsPair h' (s.heap.objs.size+3) .none .none->SIt t1 h' s.heap.objs.size l1 0->SIt t2 h' (s.heap.objs.size+1) l2 0->(∀c o,s.heap.get? c=Ob o->h'.get? c=Ob o)->R (.ok (.ret (.ref (s.heap.objs.size+4)))) { s with heap:=h' }) :=
 .of_wp λprog w A R s h=>by
  obtain⟨hp,g,d,tk,os⟩:=s;obtain⟨hl1,hl2,h⟩:=h;have hsub:=sub_zip;have q1:SSq t1 (Shared.heap ⟨hp,g,d,tk,os⟩) l1 xs:=hl1;have q2:SSq t2 (Shared.heap ⟨hp.push<|ak7 t1 l1,g,d,tk,os⟩) l2 ys:=SSq.ext hl2 λo e=>eA _ e
  wp_walk using ac3 q1,ac3 q2
  refine⟨_,rfl,?_⟩;have z1:(zp1 hp t1 l1).objs.size=hp.objs.size+1:=Heap.size_push ..;have z2:(zp2 hp t1 t2 l1 l2).objs.size=hp.objs.size+2:=by rw[Heap.size_push,z1]
  have z3:(zp3 hp t1 t2 l1 l2).objs.size=hp.objs.size+3:=by rw[Heap.size_push,z2]
  have z4:(zp4 hp t1 t2 l1 l2).objs.size=hp.objs.size+4:=by rw[Heap.size_push,z3]
  show R (.ok<|.ret (.ref (zp4 hp t1 t2 l1 l2).objs.size)) ⟨zp5 hp t1 t2 l1 l2,g,d,tk,os⟩;rw[z4];have g5:(zp5 hp t1 t2 l1 l2).get? (zp4 hp t1 t2 l1 l2).objs.size=Ob _:=eD _ rfl;have g4:(zp5 hp t1 t2 l1 l2).get? (zp3 hp t1 t2 l1 l2).objs.size=Ob _:=eA _ (eD _ rfl);have g3:(zp5 hp t1 t2 l1 l2).get? (zp2 hp t1 t2 l1 l2).objs.size=Ob _:=eA _ (eA _<|eD _ rfl);rw[z4,z2,z3]at g5;rw[z3]at g4;rw[z2,z1]at g3;have k1:∀c o,hp.get? c=Ob o->(zp5 hp t1 t2 l1 l2).get? c=Ob o:=λc o e=>eA _<|eA _ (eA _<|eA _ (eA _ e))
  have s1:SIt t1 (zp5 hp t1 t2 l1 l2) hp.objs.size l1 0:=(aF5 (h:=hp) (l:=l1) t1).ext λo e=>eA _<|eA _ (eA _<|eA _ e)
  have s2:SIt t2 (zp5 hp t1 t2 l1 l2) (zp1 hp t1 l1).objs.size l2 0:=(aF5 (h:=zp1 hp t1 l1) (l:=l2) t2).ext λo e=>eA _<|eA _ (eA _ e)
  rw[z1]at s2;exact h _ g5 g3 g4 s1 s2 k1
section
variable {prog:Program}{w:World}{A:Around}{E:Value->Shared->Prop}{s:Shared}{t1 t2:Bool}
def bk7(hl1:SSq t1 s.heap l1 xs)(hl2:SSq t2 s.heap l2 ys)
  (h:∀h',IsZip h' (s.heap.objs.size+4) (s.heap.objs.size+2) (s.heap.objs.size+3) .none->IsPair h' (s.heap.objs.size+2) (.ref s.heap.objs.size) (.ref (s.heap.objs.size+1)) ->
   IsPair h' (s.heap.objs.size+3) .none .none->SIt t1 h' s.heap.objs.size l1 0->SIt t2 h' (s.heap.objs.size+1) l2 0->(∀c o,s.heap.get? c=Ob o->h'.get? c=Ob o)->Q (.ref (s.heap.objs.size+4)) { s with heap:=h' }) :
  eh (ez prog w) A (call (.type "zip") [.ref l1,.ref l2]) Q E s:=by
 refine callType_new F.called_zip (by decide) (F.typeCall_zip_2 _ _) (F.newCall_zip_2 _ _) (λobj=>F.args_object_init_3 obj _ _) F.entry_zip_new (bu7 l1 l2 xs ys t1 t2) ⟨hl1,hl2,λh' a1 a2 a3 a4 a5 a6=>?_⟩;exact⟨⟨_,a1,rfl⟩,h h' a1 a2 a3 a4 a5 a6⟩
end
noncomputable def Itz(K:aa)(t1 t2:Bool)(a1 a2:eR):It :=
  ⟨λi H=>∃xs ys x y,Sq K t1 H a1 xs/\Sq K t2 H a2 ys/\xs[i]? = Ob x/\ys[i]? = Ob y,
   λi H v H'=>∃T x y,v=.ref T/\H T=Oa/\H'=upd H T (.tup [x,y])/\(∀xs,Sq K t1 H a1 xs->xs[i]? = Ob x)/\∀ys,Sq K t2 H a2 ys->ys[i]? = Ob y,
   λi H=>∃xs ys,Sq K t1 H a1 xs/\Sq K t2 H a2 ys/\(xs.length<=i\/ys.length<=i)⟩
def aT5(I:Inv X pins σ H s)(h:Sq X.K t H a xs)(h':Sq X.K t H a ys):xs=ys:=by
 cases t with
 | true=>exact I.tuple_inj h h'
 | false=>exact I.list_inj h h'
def Z7(I:Inv X pins σ H s)(h:Sq X.K t H a xs):∃its:List eP,D7 xs its/\SSq t s.heap a its.toArray/\a < s.heap.objs.size:=by
 cases t with
 | true =>
  obtain⟨its,r,p,_⟩:=I.tuple h;exact⟨its,r,p,by obtain⟨o,ho,_⟩:=p;exact eB ho⟩
 | false =>
  obtain⟨its,r,p,_⟩:=I.list h;exact⟨its,r,p.isList,by obtain⟨o,ho,_⟩:=p.isList;exact eB ho⟩
def ab4{X:Cx}{pins:List (eR×Obj)}{σ:L2.St}{H:Hp}{s:eQ}{h':Heap}{t':Nat}{ch:List eR}{T:eR}{o:HO}(I:Inv X pins σ H s)(hf:∀b∈ch,ap3 X pins H b)(hT:s.heap.objs.size<=T)
  (k:∀b u,b∉ch->s.heap.get? b=Ob u->h'.get? b=Ob u) (new:V0 X.prog X.w (upd H T o) h' T o):Inv X pins σ (upd H T o) { s with heap:=h',toks:=t' }:=by
 have hn:H T=Oa:=I.hok.fresh hT;have neT:∀b u,s.heap.get? b=Ob u->b≠T:=λb u e=>aS<|aE (eB e) hT
 have nch:∀b u,H b=Ob u->b∉ch:=λb u e z=>by rw[(hf b z).1]at e;cases e
 refine I.step (g':=s.gens) (d':=s.drawn) (ch:=ch) (λb hb=>⟨(hf b hb).2.2.2.1,(hf b hb).2.1,(hf b hb).2.2.2.2.1,(hf b hb).2.2.2.2.2⟩) (λb u _ _ hc e _=>k b u hc e) (λb u _ _ hc e _=>⟨u.slots,k b u hc e⟩)
  (λb u _ e n=>by rw[B2 (neT b u e)];exact n) (λb u hc e=>⟨u,k b u hc e⟩) (λb xs e=>by rw[B2 (C2 e hn)];exact e) (λb ob u e=>by rw[B2 (C2 e hn)];exact e)
  (λb ps e=>⟨#[],by rw[B2 (C2 e hn),e];simp⟩) (λm hm=>?_) (λb u e=>?_) I.bare
 .obtain⟨ob,es,ep,ho,r⟩:=hm;exact⟨ob,es,ep,k _ ob (λz=>(hf _ z).2.1 rfl) ho,r⟩
 .by_cases hb:b=T
  .subst hb;rw[B3]at e;cases e;exact new
  .rw[B2 hb]at e;refine(I.hok b u e).stay (λc v hc q=>k c v ?_ q) (λc q=>by rw[B2 (C2 q hn)];exact q) λc xs q=>by rw[B2 (C2 q hn)];exact q
   rcases hc with z|z
   .rw[z];exact nch b u e
   .exact nch c _ z
def aw8{X:Cx}{pins:List (eR×Obj)}{σ:L2.St}{H:Hp}{s:eQ}{h':Heap}{t':Nat}{ch:List eR}(I:Inv X pins σ H s)(hf:∀b∈ch,ap3 X pins H b)
  (k:∀b u,b∉ch->s.heap.get? b=Ob u->h'.get? b=Ob u):Inv X pins σ H { s with heap:=h',toks:=t' }:=by
 have nch:∀b u,H b=Ob u->b∉ch:=λb u e z=>by rw[(hf b z).1]at e;cases e
 refine I.step (g':=s.gens) (d':=s.drawn) (ch:=ch) (λb hb=>⟨(hf b hb).2.2.2.1,(hf b hb).2.1,(hf b hb).2.2.2.2.1,(hf b hb).2.2.2.2.2⟩) (λb u _ _ hc e _=>k b u hc e) (λb u _ _ hc e _=>⟨u.slots,k b u hc e⟩)
  (λb u _ e n=>n) (λb u hc e=>⟨u,k b u hc e⟩) (λb xs e=>e) (λb ob u e=>e) (λb ps e=>⟨#[],by rw[e];simp⟩) (λm hm=>?_) (λb u e=>?_) I.bare
 .obtain⟨ob,es,ep,ho,r⟩:=hm;exact⟨ob,es,ep,k _ ob (λz=>(hf _ z).2.1 rfl) ho,r⟩
 .refine(I.hok b u e).stay (λc v hc q=>k c v ?_ q) (λc q=>q) λc xs q=>q
  rcases hc with z|z
  .rw[z];exact nch b u e
  .exact nch c _ z
def bu1{P:dO}{w:World}{K:aa}{elts:List Expr}{k0:Nat}{pos:Pos}{t1 t2:Bool}{z TI TO i1 i2 a1 a2:eR}(Z:ZipApart z TI TO i1 i2 a1 a2):
  Turn P w K (.Tuple elts k0 pos) (Itz K t1 t2 a1 a2) [z,TI,TO,i1,i2] z (λi h=>IsZip h z TI TO .none/\IsPair h TI (.ref i1) (.ref i2)/\(∃a b,IsPair h TO a b)/\SIt t1 h i1 a1 i/\SIt t2 h i2 a2 i) where
 mem:=by simp
 obj:=λi h ⟨hz,hTI,⟨a,b,hTO⟩,h1,h2⟩ c hc=>by
  simp only[au,aR,or_false]at hc;rcases hc with rfl|rfl|rfl|rfl|rfl
  .exact⟨_,hz,λv q=>by cases q⟩
  .exact⟨_,hTI,λv q=>by cases q⟩
  .exact⟨_,hTO,λv q=>by cases q⟩
  .cases t1 with
   | true=>obtain⟨o,ho,_,hd⟩:=h1;exact⟨o,ho,λv q=>by rw[hd]at q;cases q⟩
   | false=>obtain⟨o,ho,_,hd⟩:=h1;exact⟨o,ho,λv q=>by rw[hd]at q;cases q⟩
  .cases t2 with
   | true=>obtain⟨o,ho,_,hd⟩:=h2;exact⟨o,ho,λv q=>by rw[hd]at q;cases q⟩
   | false=>obtain⟨o,ho,_,hd⟩:=h2;exact⟨o,ho,λv q=>by rw[hd]at q;cases q⟩
 keep:=λi h h' ⟨hz,hTI,⟨a,b,hTO⟩,h1,h2⟩ hk=>⟨hk z (by simp) _ hz,hk TI (by simp) _ hTI,⟨a,b,hk TO (by simp) _ hTO⟩,h1.ext λo e=>hk i1 (by simp) o e,h2.ext λo e=>hk i2 (by simp) o e⟩
 item:=by
  intro X hP hw hK hc i pins s σ H E I hf ⟨hz,hTI,⟨a,b,hTO⟩,h1,h2⟩ hg;subst hP hw hK;obtain⟨xs,ys,x,y,q1,q2,ex,ey⟩:=hg;obtain⟨us,r1,p1,lt1⟩:=Z7 I q1;obtain⟨ws,r2,p2,lt2⟩:=Z7 I q2;obtain⟨ux,eux,rx⟩:=r1.get ex;obtain⟨uy,euy,ry⟩:=r2.get ey;refine aT7 Z hz hTI hTO h1 h2 p1 p2 (x:=ux) (y:=uy) (by simpa using eux) (by simpa using euy) λh' b1 b2 b3 b4 b5 b6 b7=>⟨_,rfl,wpAny_letOwnedTupleGo_zip b1 λh'' c1 c2=>?_⟩
  have neT:∀c o,s.heap.get? c=Ob o->c≠s.heap.objs.size:=λc o e=>aS<|eB e
  have up:∀c o,c≠z->h'.get? c=Ob o->h''.get? c=Ob o:=λc o n e=>c2.extBut c o n e
  refine⟨.ref s.heap.objs.size,upd H s.heap.objs.size<|.tup [x,y],ab4 (s:=s) (h':=h'') (t':=s.toks) (ch:=[z,TI,TO,i1,i2]) I hf (ah _) (λc u hc e=>?_) ?_,rfl,⟨_,x,y,rfl,I.hok.fresh<|ah _,rfl,λzs hz'=>by rw[aT5 I hz' q1];exact ex,λzs hz'=>by rw[aT5 I hz' q2];exact ey⟩,⟨c1,?_,⟨_,_,up TO _ Z.TOz b2⟩,b3.ext λo e=>up i1 o Z.i1z e,b4.ext λo e=>up i2 o Z.i2z e⟩,λc hc=>?_⟩
  .simp only[au,aR,or_false,not_or]at hc;exact up c u hc.1<|b7 c u hc.1 hc.2.2.1 hc.2.2.2.1 hc.2.2.2.2 e
  .refine⟨by show 2<=dJ;decide,[ux,uy],.cons rx<|.cons ry .nil,_,up _ _ ?_ b5,rfl,⟨_,rfl⟩,rfl⟩;exact λq=>neT z _ hz q.symm
  .exact up TI _ Z.TIz (b7 TI _ Z.TIz Z.TITO Z.TIi1 Z.TIi2 hTI)
  .have e:c < s.heap.objs.size:=by
    simp only[au,aR,or_false]at hc;rcases hc with rfl|rfl|rfl|rfl|rfl
    .exact eB hz
    .exact eB hTI
    .exact eB hTO
    .exact h1.lt
    .exact h2.lt
   rw[B2 (aS e)];exact(hf c hc).1
 done:=by
  intro X hP hw hK hc i pins s σ H E I hf ⟨hz,hTI,⟨a,b,hTO⟩,h1,h2⟩ hg;subst hP hw hK;obtain⟨xs,ys,q1,q2,hl⟩:=hg;obtain⟨us,r1,p1,lt1⟩:=Z7 I q1;obtain⟨ws,r2,p2,lt2⟩:=Z7 I q2;have l1:=r1.length;have l2:=r2.length;refine bl1 (I.ok.hd hc) Z hz hTI hTO h1 h2 p1 p2 ?_ λh' hk=>⟨rfl,aw8 (t':=s.toks) (ch:=[z,TI,TO,i1,i2]) I hf λc u hc e=>?_⟩
  .rcases hl with h|h
   .left;simp;grind
   .right;simp;grind
  .simp only[au,aR,or_false,not_or]at hc;exact hk c u hc.1 hc.2.2.1 hc.2.2.2.1 hc.2.2.2.2 e
 self:=λ_ _ _ _ _ st h=>wpAny_pyIter_zip st.1 h
section
variable {X:Cx}
noncomputable def aO2(f g:Rho->Option (Bool×List D)):Rho->Option (List D):=λρ=>(f ρ).bind λp=>(g ρ).bind λq=>Ob<|(p.2.zip q.2).map λ(x,y)=>PyData.tuple [x,y]
def aR7{K:aa}{t1 t2:Bool}{a1 a2:eR}{vs us:List V}{ds es:List D}{Hf1:Hp}(h1:Sq K t1 Hf1 a1 vs)(h2:Sq K t2 Hf1 a2 us)(r1:Reps K Hf1 ds vs)(r2:Reps K Hf1 es us):
  aJ7 K (Itz K t1 t2 a1 a2) ((ds.zip es).map λ(x,y)=>PyData.tuple [x,y]) Hf1:=by
 have mono:∀{t:Bool}{a:eR}{xs:List V}{H H':Hp},B8 H H'->Sq K t H a xs->Sq K t H' a xs:=λ{t a xs H H'} e h=>by
  cases t with
  | true=>exact C7 e h
  | false=>exact K3 e h
 intro i H Hf sa sb;have m1:=mono (sa.trans sb) h1;have m2:=mono (sa.trans sb) h2;have l1:=r1.length;have l2:=r2.length;refine⟨λhi=>⟨vs,us,m1,m2,?_⟩,λd hd=>?_⟩
 .simp at hi;grind
 .rw[av]at hd;obtain⟨⟨x,y⟩,q1,q2⟩:=xmo hd;subst q2;obtain⟨q1,q2⟩:=bF.mp q1;obtain⟨vx,e1,e2⟩:=r1.get q1;obtain⟨vy,e3,e4⟩:=r2.get q2;refine⟨⟨vs,us,vx,vy,m1,m2,e1,e3⟩,λv H' ⟨T,x',y',z1,z2,z3,z4,z5⟩=>?_⟩;subst z1 z3;have w1:=z4 vs m1;have w2:=z5 us m2;rw[e1]at w1;rw[e3]at w2;cases w1;cases w2;have nf:Hf T=Oa:=sb.free z2;refine⟨upd Hf T<|.tup [vx,vy],Grow.laid sb z2,T,[vx,vy],rfl,SqT.of B3,vx,[vy],rfl,(e2.mono sa).mono<|F7 nf,vy,[],rfl,(e4.mono sa).mono<|F7 nf,rfl⟩
def cu7{elts:List Expr}{k0:Nat}{tpos:Pos}{a b:Expr}{f g:DE}{p pos:Pos}(hg:Gl X "zip")(hm:X.mg "zip" = Oa)(ha:JE X a f)(hb:JE X b g)(hs:dI [a,b] X.env=[(false,eval a X.env),(false,eval b X.env)]:=by rfl)(hs2:dI [b] X.env=[(false,eval b X.env)]:=by rfl):
  JI X (.Tuple elts k0 tpos) (.Call (.Name "zip" p) [a,b] [] pos) (aO2 (qE f)<|qE g):=λρ out q=>by
 obtain⟨⟨t1,ds⟩,e1,q⟩:=xbm q;obtain⟨⟨t2,es⟩,e2,q⟩:=xbm q;cases q;obtain⟨d1,e1,e1'⟩:=xbm e1;obtain⟨d2,e2,e2'⟩:=xbm e2;intro pins s σ H R I ⟨H0,Hf,ss,sl,k⟩
 refine Call_ (an9 I hg hm cy4 (PyProof.Rows.callWith_type1 (thn (K5 (ha ρ d1 e1) (K5 (hb ρ d2 e2) Q6 hs2) (by rw[hs,hs2]) pos pins s σ H
  (λvs H'=>∃v u Hf',vs=[v,u]/\Grow H Hf H' Hf'/\Rep X.K Hf' d1 v/\Rep X.K Hf' d2 u) I ⟨H0,Hf,ss,sl,λv H1 Hf1 g1 r1=>⟨H0,Hf1,g1.sub,sl.grow g1,λu H2 Hf2 g2 r2=>⟨v,u,Hf2,rfl,g1.trans g2,r1.mono g2.ext,r2⟩⟩⟩) λus s1 ⟨vs,H1,I1,r1,v,u,Hf1,ev,gr,p1,p2⟩=>?_) (by rw[hs,hs2]) (by rw[hs2];rfl)))
 subst ev;obtain⟨uv,uu,rfl,rv,ru⟩:=bb9 r1;obtain⟨a1,vs1,rfl,w1,w2⟩:=p1.seq (B8.refl Hf1) e1';obtain⟨a2,vs2,rfl,w3,w4⟩:=p2.seq (B8.refl Hf1) e2';cases rv;cases ru
 have mono:∀{t:Bool}{a:eR}{xs:List V}{H H':Hp},B8 H H'->Sq X.K t H a xs->Sq X.K t H' a xs:=λ{t a xs H H'} e h=>by
  cases t with
  | true=>exact C7 e h
  | false=>exact K3 e h
 obtain⟨us1,rr1,hp1,lt1⟩:=Z7 I1 (mono gr.sub w1);obtain⟨us2,rr2,hp2,lt2⟩:=Z7 I1 (mono gr.sub w3);refine bk7 hp1 hp2 λh' b1 b2 b3 b4 b5 b6=>?_
 have I2:Inv X pins σ H1 { s1 with heap:=h' }:=I1.kept (t':=s1.toks) b6;refine wpAny_pyIter_zip b1 ⟨_,_,_,_,H1,rfl,I2,bu1<|zipApart_new lt1 lt2,⟨b1,b2,⟨_,_,b3⟩,b4,b5⟩,λb hb=>?_,k _ H1 Hf1 gr<|aR7 w1 w3 w2 w4⟩
 have hb':s1.heap.objs.size<=b:=by
  simp only[au,aR,or_false]at hb;rcases hb with rfl|rfl|rfl|rfl|rfl
  .exact bi _ _
  .exact bi _ _
  .exact bi _ _
  .exact ah _
  .exact bi _ _
 exact I1.fpOk hb'<|I1.hok.fresh hb'
end
def aq7:fillsNumberSlot (.type "tuple") "mul" = pure false:=PySem.fillsNumberSlot_seq (id := "tuple.__mul__") (r:=Ob<|.builtin "tuple.__rmul__") F.slot_tuple_mul.lookup (by decide +kernel) F.slot_tuple_rmul.lookup (by decide +kernel)
def aB6:seqRepeat? (.type "tuple")=pure (Ob<|.builtin "tuple.__mul__"):=by
 unfold seqRepeat?;rw[PySem.seqSlot_of (T := "tuple") (name := "__mul__") (id := "tuple.__mul__") F.slot_tuple_mul.lookup (by decide +kernel),PySem.seqSlot_of (T := "tuple") (name := "__rmul__") (id := "tuple.__rmul__") F.slot_tuple_rmul.lookup (by decide +kernel)];rfl
def aj5(a:Int)(t:Tok)(l:eR)(items:Array eP)(n:Nat)(dd:Option eR)(sl:Array (Option eP)):
  Meets (Builtin.«int.__rmul__» ⟨[.int a t,.ref l],[]⟩) (λ_ R s=>s.heap.get? l=Ob ⟨.type "tuple", dd,.seq items n,sl⟩/\R (.ok<|.ret Value.notImplemented) s) :=
 .of_wp λprog w A R s h=>by obtain⟨hp,g,d,tk,os⟩:=s;obtain⟨hl,h⟩:=h;wp_walk;exact⟨_,rfl,h⟩
def aU5(items:Array eP)(k:Nat):cQ (λx1 x2=>x1++x2) #[] (aj k items)=(aj k items.toList).flatten.toArray:=by
 have:=aC9 items.toList k [];rw[List.nil_append]at this;simpa using this
def aN2(l:eR)(items:Array eP)(n:Nat)(dd:Option eR)(sl:Array (Option eP))(x:Int)(u:Tok)(h2:2<=x)(h3:x < 1000000)(he:items.isEmpty=false)(hz:items.size*x.toNat<=dJ):
  Meets (Builtin.«tuple.__mul__» ⟨[.ref l,.int x u],[]⟩) (λ_ R s=>s.heap.get? l=Ob ⟨.type "tuple", dd,.seq items n,sl⟩/\R (.ok<|.ret (eK s.heap.objs.size)) { s with heap:=s.heap.push { cls:=Value.type "tuple", data:=Data.seq (cQ (λx1 x2=>x1++x2) #[] (aj x.toNat items)) } }) :=
 .of_wp λprog w A R s h=>by
  obtain⟨hp,g,d,tk,os⟩:=s;obtain⟨hl,h⟩:=h
  have hm:(items.size:Int)*x<=16777216:=by
   have e:((items.size*x.toNat:Nat):Int)=(items.size:Int)*x:=by rw[aI,cR (by omega)]
   have:items.size*x.toNat<=16777216:=by rw[← dL];exact hz
   omega
  wp_walk
  refine wpAny_ite_false (by simp;omega) ?_;have ht:Heap.IsTuple (Shared.heap ⟨hp,g,d,tk,os⟩) l items:=⟨_,hl,rfl,n,rfl⟩;refine dB (tupleItemsOf_ ht ?_);refine wpAny_ite_false (by rw[he];simp;omega) ?_;show eh _ _ (if(decide (x<=0) || items.isEmpty)=true then _ else _) _ _ _;refine wpAny_ite_false (by rw[he];simp;omega) ?_;show eh _ _ (if(items.size:Int)*x > (2 ^ 63 - 1) / 8 then _ else _) _ _ _;rw[if_neg (by omega)];show eh _ _ (if Builtin.Tuple.tupleTooMany ((items.size:Int)*x)=true then _ else _) _ _ _;rw[if_neg (by unfold Builtin.Tuple.tupleTooMany;rw[dL];simp;omega)];refine dB (m:=Builtin.Tuple.tupleExact _) (dF (dD ⟨_,rfl,h⟩) ?_);show(cQ (λx1 x2=>x1++x2) #[] (aj x.toNat items)).size<=dJ;rw[aU5 items x.toNat,ai,aH9,br,bK];exact hz
section
variable {X:Cx}
def bU0:OpR X (dS .Mult) (λx y H Q=>∃l k xs,x=.ref l/\y=.int k/\SqT X.K H l xs/\xs≠[]/\2<=k/\k < 1000000/\xs.length*k.toNat<=dJ/\∀p,H p=Oa->Q (.ref p) (upd H p<|.tup (aj k.toNat xs).flatten)):=by
 intro pins s σ H x y v u Q I rx ry h;obtain⟨l,k,xs,rfl,rfl,hq,hx,h2,h3,hz,q⟩:=h;cases rx;obtain⟨t,rfl⟩:=ry;obtain⟨its,r,p1,_⟩:=I.tuple hq;obtain⟨⟨cls,dd,data,sl⟩,ho,hc,n,hd⟩:=id p1;simp only at hc hd;subst hc hd;have hl:=r.length
 have he:its.toArray.isEmpty=false:=by
  cases its with
  | nil=>exact absurd (r.nil_iff.mp rfl) hx
  | cons a b=>rfl
 refine wpAny_binaryOp_repeat_ref (T := "tuple") (U := "int") (by decide) ⟨_,ho,rfl⟩ (λs'=>typeIs_int s' k t) aq7 F.fills_int_mul F.slot_int_rmul aB6 F.slot_int_index.lookup
  (dY F.slot_int_rmul (typeIs_int s k t) F.entry_int_rmul (F.args_int_rmul_2 _ _) (aj5 k t l its.toArray n dd sl) ⟨ho,rfl,⟨_,ho,rfl⟩,
   dY F.slot_tuple_mul ⟨_,ho,rfl⟩ F.entry_tuple_mul (F.args_tuple_mul_2 _ _) (aN2 l its.toArray n dd sl k t h2 h3 he (by rw[ai,← hl];exact hz)) ⟨ho,?_⟩⟩)
 rw[aU5];refine⟨.ref _,_,I.laid (t':=s.toks) (o:=.tup (aj k.toNat xs).flatten) (λb ob q=>eA _ q) (ah _) ⟨?_,_,r.rep k.toNat,ay0.new _ _⟩,rfl,q _<|I.hok.fresh (ah _)⟩;rw[aH9,bK];exact hz
noncomputable def Y1(x y:D):Option D:=match x,y with
 | .int i,.int j=>if K7 i/\K7 j then Ob (.int<|i*j) else Oa
 | .tuple xs,.int k=>if xs.isEmpty=false/\2<=k/\k < 1000000/\xs.length*k.toNat<=16777216 then Ob (.tuple (aj k.toNat xs).flatten) else Oa
 | _,_=>Oa
def aH2:OpD X (dS .Mult) Y1:=λx y z h=>by
 unfold Y1 at h;split at h
 .exact co2 _ _ z (by unfold cp8;exact h)
 .split at h
  .rename_i xs k c;cases h;refine OpR.imp bU0 λvx vy H Q ⟨Hf,s,r1,r2,kk⟩=>?_
   obtain⟨a,vs,rfl,h2,h3⟩:=r1;refine⟨a,k,vs,rfl,r2,C7 s h2,?_,c.2.1,c.2.2.1,by rw[h3.length,dL];exact c.2.2.2,λp hp=>?_⟩
   .intro e;subst e;have:=h3.length;cases xs with
    | nil=>exact absurd c.1 (by simp)
    | cons a b=>simp at this
   .exact kk _ _ _ (Grow.laid s hp) ⟨p,_,rfl,SqT.of B3,(h3.flatten k.toNat).mono<|F7 (s.free hp)⟩
  .cases h
 .cases h
noncomputable def bK3(f:DE):DE:=λρ=>(f ρ).bind λd=>match d with
 | .int i=>Ob<|.int (-i)
 | _=>Oa
def aW9(h:JE X a f):JE X (.UnaryOp .USub a pos) (bK3 f):=λρ d q=>by
 obtain⟨x,e1,e2⟩:=xbm q;cases x with
 | int i =>
  cases e2;exact B4 (cE1 ci4<|h ρ _ e1) λσ H Q ⟨H0,Hf,s,sl,k⟩=>⟨H0,Hf,s,sl,λv H1 Hf1 g1 r1=>⟨_,r1,k _ H1 Hf1 g1 rfl⟩⟩
 | _=>cases e2
noncomputable def isB(x y:D):Option D:=match y with
 | .bool b=>(match x with
  | .bool c=>Ob<|.bool (c==b)
  | .dict _=>Oa
  | _=>Ob (.bool false))
 | .none=>isN x .none
 | _=>Oa
noncomputable def ak2(x y:D):Option D:=match y with
 | .bool b=>(match x with
  | .bool c=>Ob<|.bool (!(c==b))
  | .dict _=>Oa
  | _=>Ob (.bool true))
 | .none=>co8 x .none
 | _=>Oa
def ce0:OpD X (dM .Is) isB:=λx y z h=>by
 cases y with
 | none=>exact co4 x .none z h
 | bool b =>
  intro pins s σ H vx vy v u Q I rx ry ⟨Hf,ss,r1,r2,k⟩;cases r2;cases ry;have fin:∀c,z=.bool c->(v==Value.bool b)=c->EP X pins σ Q (.bool<|v==Value.bool b) s:=λc e1 e2=>by rw[e2];subst e1;exact⟨.bl c,H,I,rfl,k _ H Hf (Grow.refl ss) rfl⟩
  cases x with
  | none=>cases r1;cases rx;cases h;exact wpAny_is_plain rfl<|fin _ rfl rfl
  | bool c=>cases r1;cases rx;cases h;exact wpAny_is_plain rfl (fin _ rfl (by cases c<;>cases b<;>rfl))
  | int i=>cases r1;obtain⟨t,rfl⟩:=rx;cases h;exact wpAny_is_plain rfl<|fin _ rfl rfl
  | str i=>cases r1;obtain⟨t,rfl⟩:=rx;cases h;exact wpAny_is_plain rfl<|fin _ rfl rfl
  | tuple ds=>obtain⟨a,vs,rfl,_⟩:=r1;cases rx;cases h;exact wpAny_is_plain rfl<|fin _ rfl rfl
  | list ds=>obtain⟨a,vs,rfl,_⟩:=r1;cases rx;cases h;exact wpAny_is_plain rfl<|fin _ rfl rfl
  | dict ds=>cases h
 | _=>cases h
def aM6:OpD X (dM .IsNot) ak2:=λx y z h=>by
 cases y with
 | none=>exact bU9 x .none z h
 | bool b =>
  intro pins s σ H vx vy v u Q I rx ry ⟨Hf,ss,r1,r2,k⟩;cases r2;cases ry;have fin:∀c,z=.bool c->(!(v==Value.bool b))=c->EP X pins σ Q (.bool (!(v==Value.bool b))) s:=λc e1 e2=>by rw[e2];subst e1;exact⟨.bl c,H,I,rfl,k _ H Hf (Grow.refl ss) rfl⟩
  cases x with
  | none=>cases r1;cases rx;cases h;exact wpAny_isNot_plain rfl<|fin _ rfl rfl
  | bool c=>cases r1;cases rx;cases h;exact wpAny_isNot_plain rfl (fin _ rfl (by cases c<;>cases b<;>rfl))
  | int i=>cases r1;obtain⟨t,rfl⟩:=rx;cases h;exact wpAny_isNot_plain rfl<|fin _ rfl rfl
  | str i=>cases r1;obtain⟨t,rfl⟩:=rx;cases h;exact wpAny_isNot_plain rfl<|fin _ rfl rfl
  | tuple ds=>obtain⟨a,vs,rfl,_⟩:=r1;cases rx;cases h;exact wpAny_isNot_plain rfl<|fin _ rfl rfl
  | list ds=>obtain⟨a,vs,rfl,_⟩:=r1;cases rx;cases h;exact wpAny_isNot_plain rfl<|fin _ rfl rfl
  | dict ds=>cases h
 | _=>cases h
noncomputable def ba6(K:aa)(d:D)(u:eP):Prop:=∃v,L0 v u/\∀H:Hp,Rep K H d v
def cw0(r:ba6 X.K d u)(hg:Gl X x)(hm:X.mg x=Ob u)(hd:(x==("__debug__" : Str))=false:=by decide):JE X (.Name x pos) (dC d):=λρ d' q=>by
 cases q;obtain⟨v,rv,rp⟩:=r;exact B4 (bT7 hg hm rv hd) λσ H Q ⟨H0,Hf,s,sl,k⟩=>k _ H Hf (Grow.refl s)<|rp Hf
noncomputable def qN(f:Rho->Option (List D)):Rho->Option (Bool×List D):=λρ=>(f ρ).map λds=>(false,ds)
def cu2(h:JN X e f):JQ X e (qN f):=bD9 h
noncomputable def S2(f:Rho->Option (Bool×List D)):DE:=λρ=>(f ρ).bind λq=>if q.1=true then Oa else Ob (.tuple q.2)
def bY6(hg:Gl X "tuple")(hm:X.mg "tuple" = Oa)(h:JQ X e f)(he:dI [e] X.env=[(false,eval e X.env)]:=by rfl):JE X (.Call (.Name "tuple" p) [e] [] pos) (S2 f):=bE8 hg hm h (he:=he)
end
def bq6(l b:eR)(items items2:Array eP)(n n2:Nat)(dd dd2:Option eR)(sl sl2:Array (Option eP))(hz:items.size+items2.size<=dJ):
  Meets (Builtin.«list.__add__» ⟨[.ref l,.ref b],[]⟩) (λ_ R s=>s.heap.get? l=Ob ⟨.type "list", dd,.seq items n,sl⟩/\s.heap.get? b=Ob ⟨.type "list", dd2,.seq items2 n2,sl2⟩/\R (.ok<|.ret (eK s.heap.objs.size)) { s with heap:=s.heap.push { cls:=Value.type "list", data:=Data.seq (items++items2) } }) :=
 .of_wp λprog w A R s h=>by
  obtain⟨hp,g,d,tk,os⟩:=s;obtain⟨hl,hb,h⟩:=h;have hsub:isSubtype (.type "list") (.type "list")=pure true:=by rw[isSubtype_type];kernel_rfl
  have hsz:=hz
  wp_walk
  exact⟨_,rfl,h⟩
section
variable {X:Cx}
def bf4:OpR X (dS .Add) (λx y H Q=>∃a b xs ys,x=.ref a/\y=.ref b/\SqL X.K H a xs/\SqL X.K H b ys/\xs.length+ys.length<=dJ/\∀p,H p=Oa->Q (.ref p) (upd H p<|.lst (xs++ys))):=by
 intro pins s σ H x y v u Q I rx ry h;obtain⟨a,b,xs,ys,rfl,rfl,ha,hb,hz,q⟩:=h;cases rx;cases ry;obtain⟨its,r1,p1,_⟩:=I.list ha;obtain⟨its2,r2,p2,_⟩:=I.list hb;obtain⟨⟨cls,dd,data,sl⟩,ho,hc,n,hd⟩:=p1.isList;obtain⟨⟨cls2,dd2,data2,sl2⟩,ho2,hc2,n2,hd2⟩:=p2.isList;simp only at hc hd hc2 hd2;subst hc hd hc2 hd2;have l1:=r1.length;have l2:=r2.length;refine concat_meets ⟨_,ho,rfl⟩ ⟨_,ho2,rfl⟩ noFill_list_add seq_list_add PySem.F.slot_list_add PySem.F.entry_list_add (PySem.F.args_list_add_2 _ _) (bq6 a b its.toArray its2.toArray n n2 dd dd2 sl sl2 (by simp only[ai];grind)) ⟨ho,ho2,?_⟩;have ea:its.toArray++its2.toArray=(its++its2).toArray:=by simp
 rw[ea];exact⟨.ref _,_,I.lnew (t':=s.toks) (r1.append r2) (by rw[az];grind),rfl,q _ I.fresh⟩
noncomputable def B0(x y:D):Option D:=match x,y with
 | .list xs,.list ys=>if xs.length+ys.length<=16777216 then Ob (.list<|xs++ys) else Oa
 | x,y=>x5 x y
def aH3:OpD X (dS .Add) B0:=λx y z h=>by
 unfold B0 at h;split at h
 .split at h
  .rename_i c;cases h;refine OpR.imp bf4 λvx vy H Q ⟨Hf,s,r1,r2,k⟩=>?_
   obtain⟨a,vs,rfl,h2,h3⟩:=r1;obtain⟨b,us,rfl,h5,h6⟩:=r2;refine⟨a,b,vs,us,rfl,rfl,K3 s h2,K3 s h5,by rw[h3.length,h6.length,dL];exact c,λp hp=>?_⟩;exact k _ _ _ (Grow.laid s hp) ⟨p,vs++us,rfl,SqL.of B3,(h3.append h6).mono<|F7 (s.free hp)⟩
  .cases h
 .exact bA7 _ _ z h
noncomputable def cf3(f:DE):DE:=λρ=>(f ρ).bind λd=>match d with
 | .tuple xs=>Ob<|.tuple xs.reverse
 | _=>Oa
end
section
variable {prog:Program}{w:World}{A:Around}{E:Value->Shared->Prop}{s:Shared}
def ba3(n:Nat):Builtin.Slice.sliceAdjust Oa Oa (-1) (n:Int)=((n:Int) - 1,-1):=by
 unfold Builtin.Slice.sliceAdjust;have h1:(-1:Int) < 0:=by omega
 simp only[h1,if_true]
def aU7(n:Nat):Builtin.Slice.slicePlaces ((n:Int) - 1) (-1) (-1)=n:=by
 unfold Builtin.Slice.slicePlaces;have h1:¬(-1:Int) > 0:=by grind
 have h2:-(-1:Int)=1:=by grind
 simp only[h1,if_false,h2,Int.ediv_one];split<;>grind
def am7{sl:eR}{t:Tok}{n:Nat}{Q:Int×Int×Nat->eQ->Prop}(hs:s.heap.IsSliceOf sl .none .none (.int (-1) t))
  (h:Q ((n:Int) - 1,-1,n) s):eh (ez prog w) A (Builtin.Slice.sliceApplied (.ref sl)<|pure (n:Int)) Q E s:=by
 obtain⟨os,hos,hcs,hds⟩:=id hs;unfold Builtin.Slice.sliceApplied Builtin.Slice.sliceFields;refine dB (dB<|dH hos hds (x:=.none) rfl (dB<|dH hos hds (x:=.none) rfl (dB<|dH hos hds (x:=.int (-1) t) rfl (dD ?_))));refine dB (slicePart_int ?_);show eh _ _ (if((-1:Int)==0)=true then _ else _) _ _ s;rw[if_neg (by decide)];refine dB (slicePart_none<|dB (slicePart_none<|dB (dD ?_)));show eh _ _ (match Builtin.Slice.sliceAdjust Oa Oa (-1) (n:Int) with|(lo,hi)=>pure (lo,(-1:Int),Builtin.Slice.slicePlaces lo hi (-1))) _ _ s;rw[ba3 n];show eh _ _ (pure ((n:Int) - 1,(-1:Int),Builtin.Slice.slicePlaces ((n:Int) - 1) (-1) (-1))) _ _ s;rw[aU7];exact dD h
theorem aM2{α:Type}:∀l:List α,(ax l.length).filterMap (λk=>l[k]?)=l
 | []=>rfl
 | a::l=>by
  rw[aJ,cG,bL,List.filterMap_map];simp only[List.getElem?_cons_zero]
  congr 1
  exact aM2 l
theorem aO4{α β:Type}{f g:α->Option β}:∀{l:List α},(∀x∈l,f x=g x)->l.filterMap f=l.filterMap g
 | [],_=>rfl
 | a::l,h=>by rw[bL,bL,h a (aw ..),aO4 λx hx=>h x (xmm _ hx)]
def by5(xs:Array eP):((ax xs.size).filterMap λ(k:Nat)=>xs[(((xs.size:Int) - 1)+(k:Int) * -1).toNat]?).toArray=xs.toList.reverse.toArray:=by
 congr 1
 have e:∀k∈ax xs.size,xs[(((xs.size:Int) - 1)+(k:Int) * -1).toNat]? = xs.toList.reverse[k]?:=by
  intro k hk;have hk:=aO.mp hk;have:(((xs.size:Int) - 1)+(k:Int) * -1).toNat=xs.size - 1 - k:=by grind
  rw[this,List.getElem?_reverse (by rw[br];exact hk),br,Array.getElem?_toList]
 rw[aO4 e];have:=aM2 xs.toList.reverse;rw[cS,br]at this;exact this
def al1(ht:IsTup s.heap t items)(hs:s.heap.IsSliceOf sl .none .none (.int (-1) k))
  (h:Q (.ref s.heap.objs.size) { s with heap:=s.heap.push { cls:=.type "tuple", data:=.seq items.toList.reverse.toArray } })
  (hsz:items.size<=dJ):eh (ez prog w) A (getItem (.ref t)<|.ref sl) Q E s:=by
 have htake:sizeOk (.seq items.toList.reverse.toArray):=by
  show items.toList.reverse.toArray.size<=dJ;rw[ai,cS,br];omega
 obtain⟨os,hos,hcs,hds⟩:=id hs;have hTs:s.TypeIs (.ref sl) "slice" := ⟨os,hos,hcs⟩;unfold getItem
 try with_reducible refine wpAny_holding ?_
 first|refine dB (dD ?_)|skip
 refine dB (wpAny_sequenceKey ht.typeIs (by decide) ?_)
 refine dB (wpAny_callSpecial?_slot (name:=Str.ofString "__getitem__") ht.typeIs PyProof.Rows.slot_tuple_getitem
  (wpAny_call_entry PyProof.Rows.slot_tuple_getitem ht.typeIs entry_tuple_getitem ?_ (args_tuple_getitem _ _)))
 show eh _ _ (Builtin.Tuple.tupleItemsOf (.ref t) >>= _) _ _ s;refine dB (tupleItemsOf_ ht ?_);refine dB (wpAny_typeOf hTs ?_);rw[if_pos (by decide)];refine dB<|am7 hs ?_
 have hno:¬((((items.size:Int) - 1)==0&&(-1:Int)==1&&items.size==items.size)=true):=by
  have:((-1:Int)==1)=false:=rfl;rw[this];simp
 show eh _ _ (if(((items.size:Int) - 1)==0&&(-1:Int)==1&&items.size==items.size)=true then _ else _) _ _ s;rw[if_neg hno,by5]
 first
  | exact dB (m:=Builtin.Tuple.tupleExact _)<|dF (dD ⟨_,rfl,dD h⟩) htake
  | exact dB (m:=Builtin.Tuple.tupleExact _)<|dF (dB<|dD (dD ⟨_,rfl,dD h⟩)) htake
  | exact dB<|dB (m:=Builtin.Tuple.tupleExact _) (dF (dD<|dD ⟨_,rfl,dD h⟩) htake)
  | exact dB<|dB (m:=Builtin.Tuple.tupleExact _) (dF (dD ⟨_,rfl,dD h⟩) htake)
end
section
variable {X:Cx}{e st:Expr}{te ts:TE}{p2 pos:Pos}
theorem aK4:∀{xs:List V}{us:List eP},D7 xs us->D7 xs.reverse us.reverse
 | [],[],h=>h
 | x::xs,u::us,h=>by
  cases h with
  | cons a b=>rw[cF,cF];exact(aK4 b).append (.cons a .nil)
def cm3(he:PE X e te)(hs:PE X st ts):PE X (.Subscript e (.Slice Oa Oa (Ob st) p2) pos)
  (λσ H Q=>te σ H λx H1=>ts σ H1 λy H2=>∃a xs,x=.ref a/\y=.int (-1)/\SqT X.K H2 a xs/\∀p,H2 p=Oa->Q (.ref p) (upd H2 p<|.tup xs.reverse)):=by
 intro pins s σ H Q I h;refine Subscript_ (thn (he pins s σ H _ I h) λv s1 ⟨x,H1,I1,r1,q1⟩=>?_);refine wpAny_Slice ?_;rw[evalPart_none];refine dD (dD ?_);rw[evalPart_some];refine thn (hs pins s1 σ H1 _ I1 q1) λvs s3 ⟨y,H3,I3,r3,a,xs,e1,e2,hx,q⟩=>?_
 subst e1 e2;cases r1;obtain⟨tk,rfl⟩:=r3;have I4:Inv X pins σ H3 { s3 with heap:=s3.heap.push { cls:=.type "slice", data:=.fields #[.none,.none,.int (-1) tk] } }:=I3.kept (t':=s3.toks) λb ob q=>eA _ q
 obtain⟨its,r,ht,hz⟩:=I4.tuple hx;have hlen:its.toArray.size=xs.length:=by rw[ai];exact r.length.symm
 show eh (ez X.prog X.w) X.A (subscriptTail e (.Slice Oa Oa (Ob st) p2) (.ref a)<|.ref s3.heap.objs.size) (EP X pins σ Q) X.xe { s3 with heap:=s3.heap.push { cls:=.type "slice", data:=.fields #[.none,.none,.int (-1) tk] } };refine tail_any (ops:=[.ref a,.ref s3.heap.objs.size]) ht.typeIs PyProof.Rows.slot_tuple_getitem.lookup ?_ (by with_unfolding_all rfl);refine al1 ht (Heap.IsSliceOf.new ..) ?_ (by rw[hlen];exact hz);refine⟨.ref _,_,I4.laid (t':=s3.toks) (o:=.tup xs.reverse) (λb ob q=>eA _ q) (ah _) ?_,rfl,q _<|I4.hok.fresh (ah _)⟩;exact⟨by rw[cS];exact hz,_,aK4 r,ay0.new _ _⟩
def bx2{K:aa}{H:Hp}{ds:List D}{vs:List V}(h:Reps K H ds vs):Reps K H ds.reverse vs.reverse:=by
 induction ds generalizing vs with
 | nil=>cases vs with
  | nil=>exact h
  | cons _ _=>exact absurd h.length (by simp)
 | cons d ds ih=>cases vs with
  | nil=>exact absurd h.length (by simp)
  | cons v vs =>
   obtain⟨v',r',e,h1,h2⟩:=h;cases e;rw[cF,cF];exact(ih h2).append ⟨_,_,rfl,h1,rfl⟩
def bY7(ha:JE X a f)(hs:JE X st (bK3<|dC (.int 1))):JE X (.Subscript a (.Slice Oa Oa (Ob st) p2) pos) (cf3 f):=λρ d q=>by
 obtain⟨x,e1,q⟩:=xbm q;cases x with
 | tuple xs =>
  cases q;refine B4 (cm3 (ha ρ _ e1)<|hs ρ (.int (-1)) rfl) λσ H Q ⟨H0,Hf,s,sl,k⟩=>?_
  refine⟨H0,Hf,s,sl,λv H1 Hf1 g1 ⟨p,vs,q1,q2,q3⟩=>⟨H0,Hf1,g1.sub,sl.grow g1,λu H2 Hf2 g2 r2=>?_⟩⟩;subst q1;cases r2;have q2':=C7 g2.ext q2;have q3':=q3.mono g2.ext;refine⟨p,vs,rfl,rfl,C7 g2.sub q2',λp' hp=>?_⟩;exact k _ _ _ ((g1.trans g2).trans<|Grow.laid g2.sub hp) ⟨p',_,rfl,SqT.of B3,(bx2 q3').mono<|F7 (g2.sub.free hp)⟩
 | _=>cases q
end
section
variable {X:Cx}
noncomputable def atS(x:Str)(i:Int):Option D:=if x.length<=16777216 then(atI x.cps.toList i).map λc=>.str ⟨#[c]⟩ else Oa
noncomputable def ai1(f g:DE):DE:=λρ=>(f ρ).bind λx=>(g ρ).bind λi=>match x,i with
 | .str x,.int i=>atS x i
 | _,_=>Oa
def cv8(ha:JE X a f)(hb:JE X b g)(hs:am2 b:=by intro _ _;rfl):JE X (.Subscript a b pos) (ai1 f g):=λρ d q=>by
 obtain⟨x,h1,q⟩:=xbm q;obtain⟨y,h2,h3⟩:=xbm q;split at h3
 .rename_i x i;unfold atS at h3;split at h3
  .rename_i hz;obtain⟨c,e1,e2⟩:=xmo h3;subst e2;refine B4 (bz3 aX1 (ha ρ _ h1) (hb ρ _ h2) hs) λσ H Q ⟨H0,Hf,s,sl,k⟩=>?_
   refine⟨H0,Hf,s,sl,λv H1 Hf1 g1 r1=>⟨H0,Hf1,g1.sub,sl.grow g1,λu H2 Hf2 g2 r2=>?_⟩⟩;exact .inr (.inr ⟨x,i,c,r1,r2,by rw[dL];exact hz,e1,k _ H2 Hf2 (g1.trans g2) rfl⟩)
  .cases h3
 .cases h3
noncomputable def ai0(f:DE)(lo hi:Rho->Option (Option Int)):DE:=λρ=>(f ρ).bind λd=>(lo ρ).bind λl=>(hi ρ).bind λh=>match d with
 | .tuple xs=>Ob<|.tuple (u7 xs l h)
 | .list xs=>Ob<|.list (u7 xs l h)
 | _=>Oa
def cv3{a:Expr}{lo hi:Option Expr}{f:DE}{l h:Rho->Option (Option Int)}{pos p2:Pos}(ha:JE X a f)(hl:JO X lo l)(hh:JO X hi h):JE X (.Subscript a (.Slice lo hi Oa p2) pos) (ai0 f l h):=λρ d q=>by
 obtain⟨x,e1,q⟩:=xbm q;obtain⟨y,e2,q⟩:=xbm q;obtain⟨z,e3,q⟩:=xbm q;cases x with
 | tuple xs =>
  cases q;refine bF0 ha hl hh ρ _ ?_;unfold aA2;rw[e1,cK,e2,cK,e3,cK]
 | list xs =>
  cases q;refine B4 (aj9 bd7 (ha ρ _ e1) (hl ρ y e2)<|hh ρ z e3) λσ H Q ⟨H0,Hf,s,sl,k⟩=>?_
  refine⟨H0,Hf,s,sl,λv H1 Hf1 g1 ⟨p,vs,q1,q2,q3⟩=>⟨H0,Hf1,g1.sub,sl.grow g1,λH2 Hf2 g2=>⟨H0,Hf2,g2.sub,sl.grow<|g1.trans g2,λH3 Hf3 g3=>?_⟩⟩⟩;subst q1;have q2':=K3 (g2.trans g3).ext q2;have q3':=q3.mono (g2.trans g3).ext;refine⟨p,vs,rfl,K3 g3.sub q2',λp' hp=>?_⟩;exact k _ _ _ (((g1.trans g2).trans g3).trans<|Grow.laid g3.sub hp) ⟨p',_,rfl,SqL.of B3,(av9 q3' y z).mono<|F7 (g3.sub.free hp)⟩
 | _=>cases q
end
section
variable {X:Cx}
theorem bd4:∀{ys:List Str}{us:List eP},D7 (ys.map V.str) us->∃l:List (Str×Tok),us=strValues l/\l.map (·.1)=ys
 | [],[],_=>⟨[],rfl,rfl⟩
 | y::ys,u::us,h=>by
  cases h with
  | cons a b =>
   obtain⟨t,rfl⟩:=a;obtain⟨l,rfl,rfl⟩:=bd4 b;exact⟨(y,t)::l,rfl,rfl⟩
noncomputable def ak4(sep:Str)(ys:List Str):Nat:=ys.toArray.foldl (λn y=>n+y.length+sep.length) 0
noncomputable def cD3(K:aa):V->List V->Hp->VK->Prop:=λx vs H Q=>∃sep p ys,x=.str sep/\vs=[.ref p]/\SqL K H p (ys.map V.str)/\ak4 sep ys<=dJ/\(Builtin.Str.glued sep ys).length<=dJ/\Q (.str<|Builtin.Str.glued sep ys) H
def bW2:MtR X "str.join" (cD3 X.K):=by
 intro pins s σ H x vs v us Q I rx rv h;obtain⟨sep,p,ys,rfl,rfl,hq,hz,hg,q⟩:=h;obtain⟨t,rfl⟩:=rx;obtain⟨u,rfl,ru⟩:=rv.one;cases ru;obtain⟨its,r,pl,_⟩:=I.list hq;obtain⟨l,rfl,rfl⟩:=bd4 r;refine dY F.slot_str_join (typeIs_str s sep t) F.entry_str_join (F.args_str_join_2 _ _) (meets_str_join_list sep t p l ?_) ⟨pl.isList,?_⟩
 .show decide (ak4 sep (l.map (·.1)) > dJ)=false;exact decide_eq_false (by grind)
 .match l,q,hg with
  | [],q,hg=>exact⟨hg,.str _,H,I.tok _,⟨_,rfl⟩,q⟩
  | [a],q,_=>exact⟨.str _,H,I,⟨_,rfl⟩,q⟩
  | a::b::r,q,hg=>exact⟨hg,.str _,H,I.tok _,⟨_,rfl⟩,q⟩
noncomputable def bv3:List D->Option (List Str)
 | []=>Ob []
 | .str x::r=>(bv3 r).map λys=>x::ys
 | _::_=>Oa
theorem aB5{K:aa}{H:Hp}:∀{ds:List D}{ys:List Str}{vs:List V},bv3 ds=Ob ys->Reps K H ds vs->vs=ys.map V.str
 | [],ys,vs,h,r=>by cases h;exact r
 | .str x::ds,ys,vs,h,r=>by
  obtain⟨zs,e1,e2⟩:=xmo h;subst e2;obtain⟨v,r',e,h1,h2⟩:=r;subst e;rw[aB5 e1 h2];cases h1;rfl
noncomputable def ax7(f:DE)(g:Rho->Option (Bool×List D)):DE:=λρ=>(f ρ).bind λs=>(g ρ).bind λq=>match s with
 | .str sep=>if q.1=true then Oa else(bv3 q.2).bind λys=>if ak4 sep ys<=16777216/\(Builtin.Str.glued sep ys).length<=16777216 then Ob (.str<|Builtin.Str.glued sep ys) else Oa
 | _=>Oa
def bZ0(ho:JE X o f)(h:JQ X e g)
  (hbase:dZ o "join" X.env (eval o X.env)=eval o X.env:=by rfl)
  (hfew:((backTo cpos (dI [e] X.env)).all (λx=>!x.1)&&(backToKw cpos (keywordEach [] X.env)).all (λx=>x.1.isSome)
   && decide (([e]:List Expr).length+([]:List dU).length+(if([]:List dU).isEmpty then 0 else 1) < 30))=true:=by rfl)
  (hline:(apos.endLine==cpos.line)=true:=by rfl) (hs:dI [e] X.env=[(false,eval e X.env)]:=by rfl) :
  JE X (.Call (.Attribute o "join" apos) [e] [] cpos) (ax7 f g):=λρ d q=>by
 obtain⟨s,e1,q⟩:=xbm q;obtain⟨⟨t,ds⟩,e2,q⟩:=xbm q;cases s with
 | str sep =>
  cases t with
  | true=>simp at q
  | false =>
   simp only[bg,if_false]at q;obtain⟨ys,e3,q⟩:=xbm q;split at q
   .rename_i hz;cases q;refine B4 (bf1 F.plainAttrs_str F.slot_str_join F.type_str_join bW2 (ho ρ _ e1) (K5 (h ρ false ds e2) Q6 hs) hbase hfew hline hs) λσ H Q ⟨H0,Hf,s,sl,k⟩=>?_
    refine⟨H0,Hf,s,sl,λv H1 Hf1 g1 r1=>?_⟩;cases r1;refine⟨rfl,H0,Hf1,g1.sub,sl.grow g1,λw H2 Hf2 g2 ⟨p,vs,z1,z2,z3⟩=>?_⟩;subst z1;rw[aB5 e3 z3]at z2;exact⟨sep,p,ys,rfl,rfl,z2,by rw[dL];exact hz.1,by rw[dL];exact hz.2,k _ H2 Hf2 (g1.trans g2) rfl⟩
   .cases q
 | _=>cases q
end
section
open PySem.SeqAt PySem.MeetsSeq PySem.MeetsSeq2 PySem.MeetsSeq3 PySem.SeqRoads2
open PySem.AutoSeq1 (wpAny_loadPart')
def av2(l:eR)(items:Array eP)(n:Nat)(dd:Option eR)(sl:Array (Option eP))(x:eP)(e:Nat->Bool):
  Meets (Builtin.«tuple.__contains__» ⟨[.ref l,x],[]⟩)
   (λA R s=>s.heap.get? l=Ob { cls:=.type "tuple", dict:=dd,data:=.seq items n,slots:=sl }/\(∀j (h:j < items.size),EqAt A.in1 s items[j] x (e j))/\R (.ok<|.ret (.bool<|(ax items.size).any e)) s) :=
 .of_wp λprog w A R s h=>by
  obtain⟨hp,g,d,tk,os⟩:=s;obtain⟨hl,he,h⟩:=h
  wp_walk using wpAny_loadPart' hl,wpAny_forIn_array _ (λT5 b s'=>b.1=Oa/\s'=⟨hp,g,d,tk,os⟩/\∃i,T5=items.toList.drop i/\R (.ok<|.ret (.bool<|((ax items.size).drop i).any e)) ⟨hp,g,d,tk,os⟩) _
  case turn =>
   rintro y T5 b s' ⟨hb,rfl,i,hz,hR⟩
   have hlt:i < items.toList.length:=by
    rcases bD i items.toList.length with h'|h'
    .exact h'
    .rw[cH h']at hz;cases hz
   have hi:i < items.size:=by simpa using hlt
   rw[bu hlt]at hz;injection hz with hy hrest
   have hy:y=items[i]:=by simpa using hy
   subst hy;have hd:(ax items.size).drop i=i::(ax items.size).drop (i+1):=by simp[bu,hi]
   rw[hd,cq]at hR;refine dB (he i hi prog w _ _ ?_);cases hy:e i with
   | true =>
    rw[hy]at hR
    wp_walk
    exact⟨_,rfl,by simpa using hR⟩
   | false =>
    rw[hy]at hR
    wp_walk
    exact⟨rfl,rfl,i+1,hrest,by simpa using hR⟩
  case fin =>
   rintro⟨b1,b2⟩ s' ⟨hb,rfl,i,hz,hR⟩
   simp only at hb;subst hb
   have hge:items.size<=i:=by
    rcases bD i items.toList.length with h'|h'
    .rw[bu h']at hz;cases hz
    .simpa using h'
   rw[cH (by simpa using hge)]at hR
   wp_walk
   exact⟨_,rfl,by simpa using hR⟩
  case h =>exact⟨rfl,rfl,0,by simp,by simpa using h⟩
end
section
variable {X:Cx}
noncomputable def ad3:D->Bool
 | .none=>true
 | .bool _=>true
 | .int _=>true
 | .str _=>true
 | _=>false
noncomputable def toV:D->V
 | .none=>.non
 | .bool b=>.bl b
 | .int i=>.int i
 | .str x=>.str x
 | _=>.non
def j4{K:aa}{H:Hp}{d:D}{v:V}(f:ad3 d=true)(r:Rep K H d v):v=toV d/\ag4 v=true:=by
 cases d with
 | none=>cases r;exact⟨rfl,rfl⟩
 | bool b=>cases r;exact⟨rfl,rfl⟩
 | int i=>cases r;exact⟨rfl,rfl⟩
 | str x=>cases r;exact⟨rfl,rfl⟩
 | tuple _=>cases f
 | list _=>cases f
 | dict _=>cases f
theorem am9{K:aa}{H:Hp}:∀{ds:List D}{vs:List V},ds.all ad3=true->Reps K H ds vs->vs=ds.map toV/\vs.all ag4=true
 | [],vs,_,r=>by cases(show vs=[] from r);exact⟨rfl,rfl⟩
 | d::ds,vs,f,r=>by
  rw[aV,ae]at f;obtain⟨v,r',e,h1,h2⟩:=r;subst e;obtain⟨e1,e2⟩:=j4 f.1 h1;obtain⟨e3,e4⟩:=am9 f.2 h2;subst e1 e3;exact⟨rfl,by rw[aV,e2,e4];rfl⟩
noncomputable def isS:D->Bool
 | .str _=>true
 | _=>false
noncomputable def inD(neg:Bool)(x y:D):Option D:=match y with
 | .list ds=>if ad3 x=true/\ds.all ad3=true then Ob (.bool (if neg then !inV (toV x) (ds.map toV) else inV (toV x) (ds.map toV))) else Oa
 | .tuple ds=>if ad3 x=true/\ds.all ad3=true then Ob (.bool (if neg then !inV (toV x) (ds.map toV) else inV (toV x) (ds.map toV))) else if ad3 x=false/\eE x=true/\ds.all isS=true then Ob (.bool neg) else if eE x=true/\x.depth<=60/\ds.all eE=true then Ob (.bool (if neg then !(ds.any λy=>eF y x) else ds.any λy=>eF y x)) else Oa
 | _=>Oa
def ca0(f:ad3 x=false)(sh:eE x=true)(r:Reads s.heap v x as)(hu:A.units < cLine)(a:Str)(t:Tok):SeqAt.EqAt A s (.str a t) v false:=by
 cases r with
 | none=>cases f
 | bool _=>cases f
 | int _ _=>cases f
 | str _ _=>cases f
 | list h1 h2 h3 _=>exact SeqAt.EqAt.str_list a t ⟨_,h1,h2,_,h3⟩ hu
 | tuple h1 h2 h3 _=>exact SeqAt.EqAt.str_tuple a t ⟨_,h1,h2,_,h3⟩ hu
 | dict _ _ _ _ _=>exact absurd (SeqAt.canLay_of_shaped sh) (by simp[eJ])
theorem aO5{K:aa}{H:Hp}:∀{ds:List D}{vs:List V}{us:List eP},ds.all isS=true->Reps K H ds vs->D7 vs us->∀y∈us,∃a t,y=Value.str a t
 | [],_,_,_,r,w=>by cases(show _=[] from r);cases w;intro y hy;cases hy
 | d::ds,_,_,f,r,w=>by
  rw[aV,ae]at f;obtain⟨v,r',rfl,h1,h2⟩:=r;cases w with
  | cons w1 w2 =>
   intro y hy;rcases au.mp hy with rfl|hy
   .cases d with
    | str a =>
     cases(show v=.str a from h1);obtain⟨t,e⟩:=w1;exact⟨a,t,e⟩
    | _=>cases f.1
   .exact aO5 f.2 h2 w2 y hy
def bF9{x:D}{ds:List D}{vx vy:V}{v u:eP}{pins:List (eR×Obj)}{s:eQ}{σ:L2.St}{H Hf:Hp}{Q:eP->eQ->Prop}(hu:X.A.units+64 < cLine)(f:ad3 x=false)(sh:eE x=true)(a:ds.all isS=true)(I:L2.Inv X pins σ H s)(rx:L0 vx v)(ry:L0 vy u)(ss:B8 Hf H)(r1:Rep X.K Hf x vx)(r2:Rep X.K Hf (.tuple ds) vy):
  (Q (.bool false) s->eh (ez X.prog X.w) X.A (dM .In v u) Q X.xe s)/\(Q (.bool true) s->eh (ez X.prog X.w) X.A (dM .NotIn v u) Q X.xe s):=by
 obtain⟨p,vs,rfl,h2,h3⟩:=r2;obtain rfl:u=eK p:=ry;obtain⟨its,rv,pl,_⟩:=I.tuple (C7 ss h2);obtain⟨as,rd⟩:=Rep.reads I (r1.mono ss) rx;have st:=aO5 a h3 rv
 have he:∀y,y∈its.toArray->SeqAt.EqAt X.A.in1 s y v ((λ_=>false) y):=λy hy=>by
  obtain⟨b,t,rfl⟩:=st y (by simpa using hy);exact ca0 f sh rd (by show X.A.units+1 < _;grind) b t
 have no:its.toArray.any (λ_=>false)=false:=by simp
 refine⟨λq=>SeqAt.in_tupleAt (λ_=>false) pl he (by rw[no];exact q),λq=>SeqAt.notIn_tupleAt (λ_=>false) pl he (by rw[no];exact q)⟩
theorem cD1:∀{vs:List eP}{ds:List D}{as:List eR},ReadsAll h vs ds as->vs.length=ds.length/\∀(j:Nat) (hj:j < vs.length),∃bs,Reads h vs[j] (ds.getD j .none) bs
 | [],_,_,r=>by cases r;exact⟨rfl,λj hj=>absurd hj<|dq _⟩
 | v::vs,_,_,r=>by
  cases r with
  | cons r1 r2 =>
   obtain⟨h1,h2⟩:=cD1 r2;refine⟨by rw[aJ,aJ,h1],λj hj=>?_⟩;cases j with
   | zero=>exact⟨_,r1⟩
   | succ j=>exact h2 j (by simpa using hj)
def bq5{α:Type}(p:α->Bool)(z:α)(l:List α):(ax l.length).any (λj=>p<|l.getD j z)=l.any p:=by
 rw[Bool.eq_iff_iff,List.any_eq_true,List.any_eq_true];constructor
 .rintro⟨j,hj,h⟩
  have hj:=aO.mp hj;exact⟨l[j],bj hj,by simpa [hj] using h⟩
 .rintro⟨x,hx,h⟩
  obtain⟨j,hj,rfl⟩:=List.getElem_of_mem hx;exact⟨j,aO.mpr hj,by simpa [hj] using h⟩
def bQ5(hu:X.A.units+64 < cLine)(sx:eE x=true)(dx:x.depth<=60)(sd:ds.all eE=true)(I:L2.Inv X pins σ H s)(rx:L0 vx v)(ss:B8 Hf H)(r1:Rep X.K Hf x vx)(h2:SqT X.K Hf p vs)(h3:Reps X.K Hf ds vs):
  ∃its:List eP,IsTup s.heap p its.toArray/\its.length=ds.length/\∀j (h:j < its.toArray.size),SeqAt.EqAt X.A.in1 s its.toArray[j] v (eF (ds.getD j .none) x):=by
 obtain⟨its,rv,pl,_⟩:=I.tuple (C7 ss h2);obtain⟨as,rd⟩:=Rep.reads I (r1.mono ss) rx;obtain⟨bs,ra⟩:=Reps.reads I (h3.mono ss) rv;obtain⟨e1,e2⟩:=cD1 ra;refine⟨its,pl,e1,λj hj=>?_⟩;have hj':j < its.length:=by simpa using hj
 obtain⟨cs,q⟩:=e2 j hj';have hd:j < ds.length:=by grind
 have sj:=aQ.mp sd _ (bj hd);have ej:ds.getD j .none=ds[j]:=by simp[hd]
 rw[ej]at q ⊢;have:=SeqAt.eqAt_reads ds[j] x X.A.in1 s _ _ _ _ q rd (SeqAt.canLay_of_shaped sj) (SeqAt.canLay_of_shaped sx) (by show X.A.units+1+_ < _;have:=Nat.min_le_right ds[j].depth x.depth;grind);simpa using this
def bF8(hu:X.A.units+64 < cLine)(sx:eE x=true)(dx:x.depth<=60)(sd:ds.all eE=true)(I:L2.Inv X pins σ H s)(rx:L0 vx v)(ry:L0 vy u)(ss:B8 Hf H)(r1:Rep X.K Hf x vx)(r2:Rep X.K Hf (.tuple ds) vy):
  (Q (.bool<|ds.any λy=>eF y x) s->eh (ez X.prog X.w) X.A (dM .In v u) Q X.xe s)/\(Q (.bool (!(ds.any λy=>eF y x))) s->eh (ez X.prog X.w) X.A (dM .NotIn v u) Q X.xe s):=by
 obtain⟨p,vs,rfl,h2,h3⟩:=r2;obtain rfl:u=eK p:=ry;obtain⟨its,pl,ln,he⟩:=bQ5 hu sx dx sd I rx ss r1 h2 h3;obtain⟨⟨cls,dd,data,sl⟩,ho,hc,n,hd⟩:=id pl;simp only at hc hd;subst hc hd
 have ea:(ax its.toArray.size).any (λj=>eF (ds.getD j .none) x)=ds.any λy=>eF y x:=by
  rw[ai,ln];exact bq5 (λy=>eF y x) .none ds
 refine⟨λq=>SeqRoads2.in_meets ⟨_,ho,rfl⟩ F.slot_tuple_contains F.entry_tuple_contains (F.args_tuple_contains_2 _ _) (av2 p its.toArray n dd sl v _) ⟨ho,he,_,rfl,by rw[ea];exact q⟩,
  λq=>SeqRoads2.notIn_meets ⟨_,ho,rfl⟩ F.slot_tuple_contains F.entry_tuple_contains (F.args_tuple_contains_2 _ _) (av2 p its.toArray n dd sl v _) ⟨ho,he,_,rfl,by rw[ea];exact q⟩⟩
def bG0{op:CmpOp}{neg:Bool}(o:OpR X (dM op) (rIn X.K neg))(o2:∀x ds,ad3 x=false->eE x=true->ds.all isS=true->OpR X (dM op) (λvx vy H Q=>∃Hf,B8 Hf H/\Rep X.K Hf x vx/\Rep X.K Hf (.tuple ds) vy/\∀v H' Hf',Grow H Hf H' Hf'->Rep X.K Hf' (.bool neg) v->Q v H'))
  (o3:∀x ds,eE x=true->x.depth<=60->ds.all eE=true->OpR X (dM op) (λvx vy H Q=>∃Hf,B8 Hf H/\Rep X.K Hf x vx/\Rep X.K Hf (.tuple ds) vy/\∀v H' Hf',Grow H Hf H' Hf'->Rep X.K Hf' (.bool (if neg then !(ds.any λy=>eF y x) else ds.any λy=>eF y x)) v->Q v H')):OpD X (dM op) (inD neg):=λx y z h=>by
 unfold inD at h;split at h
 .split at h
  .rename_i c;cases h;refine OpR.imp o λvx vy H Q ⟨Hf,s,r1,r2,k⟩=>?_
   obtain⟨p,vs,rfl,h2,h3⟩:=r2;obtain⟨e1,e2⟩:=j4 c.1 r1;obtain⟨e3,e4⟩:=am9 c.2 h3;subst e1 e3;exact⟨p,_,rfl,.inl<|K3 s h2,e2,e4,k _ H Hf (Grow.refl s) rfl⟩
  .cases h
 .split at h
  .rename_i c;cases h;refine OpR.imp o λvx vy H Q ⟨Hf,s,r1,r2,k⟩=>?_
   obtain⟨p,vs,rfl,h2,h3⟩:=r2;obtain⟨e1,e2⟩:=j4 c.1 r1;obtain⟨e3,e4⟩:=am9 c.2 h3;subst e1 e3;exact⟨p,_,rfl,.inr<|C7 s h2,e2,e4,k _ H Hf (Grow.refl s) rfl⟩
  .split at h
   .rename_i c;cases h;exact o2 _ _ c.1 c.2.1 c.2.2
   .split at h
    .rename_i c;cases h;exact o3 _ _ c.1 c.2.1 c.2.2
    .cases h
 .cases h
def cF2(hu:X.A.units+64 < cLine):OpD X (dM .In) (inD false):=bG0 bl8 (λx ds f sh a pins s σ H vx vy v u Q I rx ry ⟨Hf,ss,r1,r2,k⟩=>(bF9 hu f sh a I rx ry ss r1 r2).1 ⟨.bl false,H,I,rfl,k _ H Hf (Grow.refl ss) rfl⟩)
 λx ds sx dx sd pins s σ H vx vy v u Q I rx ry ⟨Hf,ss,r1,r2,k⟩=>(bF8 hu sx dx sd I rx ry ss r1 r2).1 ⟨.bl _,H,I,rfl,k _ H Hf (Grow.refl ss) rfl⟩
def bA6(hu:X.A.units+64 < cLine):OpD X (dM .NotIn) (inD true):=bG0 aH1 (λx ds f sh a pins s σ H vx vy v u Q I rx ry ⟨Hf,ss,r1,r2,k⟩=>(bF9 hu f sh a I rx ry ss r1 r2).2 ⟨.bl true,H,I,rfl,k _ H Hf (Grow.refl ss) rfl⟩)
 λx ds sx dx sd pins s σ H vx vy v u Q I rx ry ⟨Hf,ss,r1,r2,k⟩=>(bF8 hu sx dx sd I rx ry ss r1 r2).2 ⟨.bl _,H,I,rfl,k _ H Hf (Grow.refl ss) rfl⟩
end
section
variable {X:Cx}
def cy5:dR "min" = Ob (.builtin "min"):=by decide +kernel
def cy6:dR "max" = Ob (.builtin "max"):=by decide +kernel
noncomputable def ab6(f g:DE):DE:=λρ=>(f ρ).bind λx=>(g ρ).bind λy=>match x,y with
 | .int i,.int j=>Ob<|.int (if j < i then j else i)
 | _,_=>Oa
noncomputable def ab7(f g:DE):DE:=λρ=>(f ρ).bind λx=>(g ρ).bind λy=>match x,y with
 | .int i,.int j=>Ob<|.int (if j > i then j else i)
 | _,_=>Oa
def bY8(hg:Gl X "min")(hm:X.mg "min" = Oa)(h:JE X e f)(h':JE X e' g)(hc:X.calm=true:=by rfl)(he:dI [e,e'] X.env=(false,eval e X.env)::dI [e'] X.env:=by rfl)(he':dI [e'] X.env=[(false,eval e' X.env)]:=by rfl)
  (hpl:(backTo pos<|dI [e'] X.env).any (·.1)=false:=by rfl):JE X (.Call (.Name "min" p) [e,e'] [] pos) (ab6 f g):=λρ d q=>by
 obtain⟨x,h1,q⟩:=xbm q;obtain⟨y,h2,h3⟩:=xbm q;split at h3
 .cases h3;exact B4 (v8 (bq3 hc) hg hm cy5 (K5 (h ρ _ h1) (K5 (h' ρ _ h2) Q6 he') he) (he:=he) (hpl:=hpl)) λσ H Q ⟨H0,Hf,s,sl,k⟩ =>⟨H0,Hf,s,sl,λv H1 Hf1 g1 r=>⟨H0,Hf1,g1.sub,sl.grow g1,λw H2 Hf2 g2 r2=>⟨_,_,by rw[show v=_ from r,show w=_ from r2],k _ H2 Hf2 (g1.trans g2) rfl⟩⟩⟩
 .cases h3
def bY9(hg:Gl X "max")(hm:X.mg "max" = Oa)(h:JE X e f)(h':JE X e' g)(hc:X.calm=true:=by rfl)(he:dI [e,e'] X.env=(false,eval e X.env)::dI [e'] X.env:=by rfl)(he':dI [e'] X.env=[(false,eval e' X.env)]:=by rfl)
  (hpl:(backTo pos<|dI [e'] X.env).any (·.1)=false:=by rfl):JE X (.Call (.Name "max" p) [e,e'] [] pos) (ab7 f g):=λρ d q=>by
 obtain⟨x,h1,q⟩:=xbm q;obtain⟨y,h2,h3⟩:=xbm q;split at h3
 .cases h3;exact B4 (v8 (bq4 hc) hg hm cy6 (K5 (h ρ _ h1) (K5 (h' ρ _ h2) Q6 he') he) (he:=he) (hpl:=hpl)) λσ H Q ⟨H0,Hf,s,sl,k⟩ =>⟨H0,Hf,s,sl,λv H1 Hf1 g1 r=>⟨H0,Hf1,g1.sub,sl.grow g1,λw H2 Hf2 g2 r2=>⟨_,_,by rw[show v=_ from r,show w=_ from r2],k _ H2 Hf2 (g1.trans g2) rfl⟩⟩⟩
 .cases h3
def bF6(Fk:FnOk X.prog X.w X.K X.mg X.base CX0 k f fd ps (spF X.K 0 F))(hr:Room k X.A)(hg:Gl X x)(hm:X.mg x=Ob (.ref f))(hk:aG X.K (.ref f)=true)(hb:M3 X.K fd ps [])
  (hdb:(x==("__debug__" : Str))=false:=by decide):JE X (.Call (.Name x p) [] [] pos) (A2 F A3):=λρ d q=>by
 have h2:F []=Ob d:=q;refine B4 (bz4 Fk hr hg hm hk hb .nil aw2 hdb) λσ H Q ⟨H0,Hf,s,sl,kk⟩=>?_
 exact⟨rfl,Hf,[],d,s,rfl,h2,λv H2 Hf2 g2 r2=>kk v H2 Hf2 g2 r2⟩
end
noncomputable def aD9(K:aa):List D->List eP->Prop
 | [],us=>us=[]
 | d::ds,us=>∃u r,us=u::r/\ba6 K d u/\aD9 K ds r
section
variable {K:PySem.W.Frag}
def W9:aD9 K [] []:=rfl
def K4(h:ba6 K d u)(t:aD9 K ds us):aD9 K (d::ds) (u::us):=⟨u,us,rfl,h,t⟩
theorem aC6:∀{ds:List D}{us:List eP},aD9 K ds us->∃vs,D7 vs us/\∀H:Hp,Reps K H ds vs
 | [],_,h=>by cases h;exact⟨[],.nil,λ_=>rfl⟩
 | d::ds,_,⟨u,r,e,⟨v,h1,h2⟩,h3⟩=>by
  subst e;obtain⟨vs,q1,q2⟩:=aC6 h3;exact⟨v::vs,.cons h1 q1,λH=>⟨v,vs,rfl,h2 H,q2 H⟩⟩
def S0(i:Int)(t:Tok):ba6 K (.int i) (.int i t):=⟨.int i,⟨t,rfl⟩,λ_=>rfl⟩
def j9(h:K.lookup a=Ob o)(hc:o.cls=.type "tuple")(hn:o.dict=Oa)(hd:o.data=.seq its n)(hz:its.size<=1000)(hi:aD9 K ds its.toList):ba6 K (.tuple ds) (.ref a):=by
 obtain⟨vs,q1,q2⟩:=aC6 hi;exact⟨.ref a,rfl,λH=>⟨a,vs,rfl,.inr ⟨o,its,n,h,hc,hn,hd,cf<|ae1 hz,q1⟩,q2 H⟩⟩
end
def aN1(l:eR)(items:Array eP)(n:Nat)(dd:Option eR)(sl:Array (Option eP))(u:Tok):
  Meets (Builtin.«tuple.__mul__» ⟨[.ref l,.int 1 u],[]⟩) (λ_ R s=>s.heap.get? l=Ob ⟨.type "tuple", dd,.seq items n,sl⟩/\R (.ok<|.ret (eK l)) s) :=
 .of_wp λprog w A R s h=>by
  obtain⟨hp,g,d,tk,os⟩:=s;obtain⟨hl,h⟩:=h
  wp_walk
  exact⟨_,rfl,h⟩
section
variable {X:Cx}
def bz8:OpR X (dS .Mult) (λx y H Q=>∃l xs,x=.ref l/\y=.int 1/\SqT X.K H l xs/\Q (.ref l) H):=by
 intro pins s σ H x y v u Q I rx ry h;obtain⟨l,xs,rfl,rfl,hq,q⟩:=h;cases rx;obtain⟨t,rfl⟩:=ry;obtain⟨its,r,p1,_⟩:=I.tuple hq;obtain⟨⟨cls,dd,data,sl⟩,ho,hc,n,hd⟩:=id p1;simp only at hc hd;subst hc hd
 exact wpAny_binaryOp_repeat_ref (T := "tuple") (U := "int") (by decide) ⟨_,ho,rfl⟩ (λs'=>typeIs_int s' 1 t) aq7 F.fills_int_mul F.slot_int_rmul aB6 F.slot_int_index.lookup
  (dY F.slot_int_rmul (typeIs_int s 1 t) F.entry_int_rmul (F.args_int_rmul_2 _ _) (aj5 1 t l its.toArray n dd sl) ⟨ho,rfl,⟨_,ho,rfl⟩,
   dY F.slot_tuple_mul ⟨_,ho,rfl⟩ F.entry_tuple_mul (F.args_tuple_mul_2 _ _) (aN1 l its.toArray n dd sl t) ⟨ho,⟨.ref l,H,I,rfl,q⟩⟩⟩)
def aF9(a:Int)(t:Tok)(l:eR)(items:Array eP)(n:Nat)(dd:Option eR)(sl:Array (Option eP)):
  Meets (Builtin.«int.__rmul__» ⟨[.int a t,.ref l],[]⟩) (λ_ R s=>s.heap.get? l=Ob ⟨.type "list", dd,.seq items n,sl⟩/\R (.ok<|.ret Value.notImplemented) s):=Meets.of_wp λprog w A R s h=>by
 obtain⟨hp,g,d,tk,os⟩:=s;obtain⟨hl,h⟩:=h
 wp_walk
 exact⟨_,rfl,h⟩
def aN3(l:eR)(items:Array eP)(n:Nat)(dd:Option eR)(sl:Array (Option eP))(x:Int)(u:Tok)(c0:¬(!Builtin.List.listFitsIndex x)=true)(c1:¬items.size*x.toNat > (2 ^ 63 - 1) / 8)(c2:¬Builtin.List.listTooLong (items.size*x.toNat)=true):
  Meets (Builtin.«list.__mul__» ⟨[.ref l,.int x u],[]⟩) (λ_ R s=>s.heap.get? l=Ob ⟨.type "list", dd,.seq items n,sl⟩/\R (.ok<|.ret (eK s.heap.objs.size)) { s with heap:=s.heap.push { cls:=Value.type "list", data:=Data.seq (cQ (λx1 x2=>x1++x2) #[] (aj (if items.isEmpty=true then 0 else x.toNat) items)) } }):=Meets.of_wp λprog w A R s h=>by
 obtain⟨hp,g,d,tk,os⟩:=s;obtain⟨hl,h⟩:=h;have hsz:=AutoListH.joined_fits c2
 wp_walk
 refine wpAny_ite_false (decide_eq_false<|Nat.not_lt.mpr hsz) ?_
 wp_walk
 exact⟨_,rfl,h⟩
def bU1:OpR X (dS .Mult) (λx y H Q=>∃l k xs,x=.ref l/\y=.int k/\SqL X.K H l xs/\0<=k/\k < 1000000/\xs.length*k.toNat<=dJ/\∀p,H p=Oa->Q (.ref p) (upd H p<|.lst (aj k.toNat xs).flatten)):=by
 intro pins s σ H x y v u Q I rx ry h;obtain⟨l,k,xs,rfl,rfl,hq,h1,h2,hz,q⟩:=h;cases rx;obtain⟨t,rfl⟩:=ry;obtain⟨its,r,p1,_⟩:=I.list hq;obtain⟨⟨cls,dd,data,sl⟩,ho,hc,n,hd⟩:=p1.isList;simp only at hc hd;subst hc hd;have hl:=r.length;have hlen:its.toArray.size*k.toNat<=dJ:=by rw[ai,← hl];exact hz
 have hcap:¬its.toArray.size*k.toNat > (2 ^ 63 - 1) / 8:=by
  have:(dJ:Nat)<=(2 ^ 63 - 1) / 8:=by decide
  grind
 have hfit:¬(!Builtin.List.listFitsIndex k)=true:=by rw[fitsIndex_both (by grind) (by grind)];exact aB
 have hlong:¬Builtin.List.listTooLong (its.toArray.size*k.toNat)=true:=by rw[ac8 hlen];exact aB
 have hnew:cQ (λx1 x2=>x1++x2) #[] (aj (if its.toArray.isEmpty=true then 0 else k.toNat) its.toArray)=(aj k.toNat its).flatten.toArray:=by
  rw[aU5];cases its with
  | nil=>simp
  | cons a r'=>rw[if_neg (by simp)]
 refine wpAny_binaryOp_repeat_ref (T := "list") (U := "int") (by decide) ⟨_,ho,rfl⟩ (λs'=>typeIs_int s' k t) noFill_list_mul F.fills_int_mul F.slot_int_rmul repeat_list F.slot_int_index.lookup
  (dY F.slot_int_rmul (typeIs_int s k t) F.entry_int_rmul (F.args_int_rmul_2 _ _) (aF9 k t l its.toArray n dd sl) ⟨ho,rfl,⟨_,ho,rfl⟩,
   dY F.slot_list_mul ⟨_,ho,rfl⟩ F.entry_list_mul (F.args_list_mul_2 _ _) (aN3 l its.toArray n dd sl k t hfit hcap hlong) ⟨ho,?_⟩⟩)
 rw[hnew];exact⟨.ref _,_,I.lnew (t':=s.toks) (r.rep k.toNat) (by rw[aH9,bK];exact hz),rfl,q _ I.fresh⟩
noncomputable def F9(x y:D):Option D:=match x,y with
 | .tuple xs,.int k=>if k=1 then Ob (.tuple xs) else Y1 (.tuple xs) (.int k)
 | .list xs,.int k=>if 0<=k/\k < 1000000/\xs.length*k.toNat<=16777216 then Ob (.list (aj k.toNat xs).flatten) else Oa
 | x,y=>Y1 x y
def bf7:OpD X (dS .Mult) F9:=λx y z h=>by
 unfold F9 at h;split at h
 .split at h
  .rename_i xs k c;subst c;cases h;refine OpR.imp bz8 λvx vy H Q ⟨Hf,s,r1,r2,kk⟩=>?_
   obtain⟨a,vs,rfl,h2,h3⟩:=r1;exact⟨a,vs,rfl,r2,C7 s h2,kk _ _ _ (Grow.refl s) ⟨a,vs,rfl,h2,h3⟩⟩
  .exact aH2 _ _ z h
 .split at h
  .rename_i xs k c;cases h;refine OpR.imp bU1 λvx vy H Q ⟨Hf,s,r1,r2,kk⟩=>?_
   obtain⟨a,vs,rfl,h2,h3⟩:=r1;refine⟨a,k,vs,rfl,r2,K3 s h2,c.1,c.2.1,by rw[h3.length,dL];exact c.2.2,λp hp=>?_⟩;exact kk _ _ _ (Grow.laid s hp) ⟨p,_,rfl,SqL.of B3,(h3.flatten k.toNat).mono<|F7 (s.free hp)⟩
  .cases h
 .exact aH2 _ _ z h
def ad5(i j:Int):B0 (.int i) (.int j)=Ob (.int<|i+j):=rfl
noncomputable def bq0(f:Rho->Option (Bool×List D))(lo hi:Rho->Option (Option Int)):DE:=λρ=>(f ρ).bind λq=>(lo ρ).bind λl=>(hi ρ).bind λh=>if q.1=true then Oa else Ob (.list<|u7 q.2 l h)
def cv2{a:Expr}{lo hi:Option Expr}{f:Rho->Option (Bool×List D)}{l h:Rho->Option (Option Int)}{pos p2:Pos}(ha:JQ X a f)(hl:JO X lo l)(hh:JO X hi h):JE X (.Subscript a (.Slice lo hi Oa p2) pos) (bq0 f l h):=λρ d q=>by
 obtain⟨⟨t,xs⟩,e1,q⟩:=xbm q;obtain⟨y,e2,q⟩:=xbm q;obtain⟨z,e3,q⟩:=xbm q;cases t with
 | true=>simp at q
 | false =>
  simp only[bg,if_false]at q;cases q;refine B4 (aj9 bd7 (ha ρ _ _ e1) (hl ρ y e2)<|hh ρ z e3) λσ H Q ⟨H0,Hf,s,sl,k⟩=>?_
  refine⟨H0,Hf,s,sl,λv H1 Hf1 g1 ⟨p,vs,q1,q2,q3⟩=>⟨H0,Hf1,g1.sub,sl.grow g1,λH2 Hf2 g2=>⟨H0,Hf2,g2.sub,sl.grow<|g1.trans g2,λH3 Hf3 g3=>?_⟩⟩⟩;subst q1;have q3':=q3.mono (g2.trans g3).ext;refine⟨p,vs,rfl,K3 (g2.trans g3).big q2,λp' hp=>?_⟩;exact k _ _ _ (((g1.trans g2).trans g3).trans<|Grow.laid g3.sub hp) ⟨p',_,rfl,SqL.of B3,(av9 q3' y z).mono<|F7 (g3.sub.free hp)⟩
noncomputable def E1:DS:=λ_=>Oa
def B7{st:Stmt}:JS X st E1:=λρ fl q=>by cases q
noncomputable def aT0(f:DE):Rho->Option Bool:=λρ=>(f ρ).bind k6
def bD2(o1:OpD X (dM op) h1)(o2:OpD X (dM op') h2)(ha:JE X a f)(hb:JE X b g)(hc:JE X c k)
  (hm:lastMarks [op,op'] [b,c]=false:=by with_unfolding_all rfl):JT X (.Compare a [op,op'] [b,c] pos) (aT0<|Z1 h1 h2 f g k):=λρ d q=>by
 obtain⟨dd,q,ed⟩:=xbm q;have ed:=bj0 ed;subst ed;obtain⟨x,e1,q⟩:=xbm q;obtain⟨y,e2,q⟩:=xbm q;obtain⟨z,e3,q⟩:=xbm q;split at q
 .obtain⟨w,e4,e5⟩:=xbm q;refine ac5 (aM0 (o1 x y _ e3) (o2 y w _ e5) (ha ρ x e1) (hb ρ y e2) (hc ρ w e4) hm) λσ H Q ⟨H0,Hf,s,sl,kk⟩=>?_
  refine⟨H0,Hf,s,sl,λv H1 Hf1 g1 r1=>⟨H0,Hf1,g1.sub,sl.grow g1,λu H2 Hf2 g2 r2=>⟨Hf2,g2.sub,r1.mono g2.ext,r2,λz' H3 Hf3 g3 r3=>?_⟩⟩⟩;refine⟨true,r3,ao1 ⟨H0,Hf3,g3.sub,sl.grow<|(g1.trans g2).trans g3,λw' H4 Hf4 g4 r4=>⟨Hf4,g4.sub,r2.mono (g3.trans g4).ext,r4,λz2 H5 Hf5 g5 r5=>?_⟩⟩⟩;exact⟨d,r5,kk H5 Hf5<|(((g1.trans g2).trans g3).trans g4).trans g5⟩
 .cases q;intro pins s σ H Q I ⟨H0,Hf,ss,sl,kk⟩;refine aM0 (tc:=λ_ _ _=>False) (r':=λ_ _ _ _=>False) (o1 x y _ e3) (λ_ _ _ _ _ _ _ _ _ _ _ _ h=>h.elim) (ha ρ x e1) (hb ρ y e2) (λ_ _ _ _ _ _ h=>h.elim) hm pins s σ H Q I ?_;refine⟨H0,Hf,ss,sl,λv H1 Hf1 g1 r1=>⟨H0,Hf1,g1.sub,sl.grow g1,λu H2 Hf2 g2 r2=>⟨Hf2,g2.sub,r1.mono g2.ext,r2,λz' H3 Hf3 g3 r3=>?_⟩⟩⟩;exact⟨false,r3,ao2 ⟨false,rfl,kk H3 Hf3<|(g1.trans g2).trans g3⟩⟩
 .cases q
end
def bn9(hh:A.handled=Oa)(t:Bool)(it l:eR)(hne:l≠it)(xs:Array eP):Draws prog w A it [it,l] xs.size (λi x=>xs[i]? = Ob x) (λi h=>SIt t h it l i/\SSq t h l xs):=by
 refine⟨λi h ⟨a,_⟩=>?_,λi h h' ⟨a,b⟩ k=>⟨a.ext λo e=>k it (by simp) o e,b.ext λo e=>k l (by simp) o e⟩,λi s Q E hi ⟨a,b⟩ hQ=>?_,λs Q E ⟨a,b⟩ hE=>at5 hh a b (by simp) hE⟩
 .cases t with
  | true=>obtain⟨o,ho,_⟩:=a;exact⟨o,ho⟩
  | false=>obtain⟨o,ho,_⟩:=a;exact⟨o,ho⟩
 .have hx:xs[i]? = Ob xs[i]:=by simp[hi]
  exact aj2 a b hx λh' c sb=>hQ _ h' s.toks hx ⟨c,b.ext λo e=>sb.extBut l o hne e⟩ sb
def bl2(l:eR)(items:Array eP)(n:Nat)(dd:Option eR)(sl:Array (Option eP)):
  Meets (Builtin.«enumerate.__new__» ⟨[.type "enumerate", .ref l],[]⟩) (λ_ R s=>s.heap.get? l=Ob ⟨.type "tuple", dd,.seq items n,sl⟩ /\
   R (.ok (.ret (.ref (s.heap.push (ak7 true l)).objs.size))) { s with heap:=(s.heap.push (ak7 true l)).push { cls:=.type "enumerate", data:=.fields #[.none,.bool false,.ref s.heap.objs.size,rawInt 0,.none,.none] } }):=Meets.of_wp λprog w A R s h=>by
 obtain⟨hp,g,d,tk,os⟩:=s;obtain⟨hl,h⟩:=h;have hsub:=sub_enumerate;have q1:SSq true (Shared.heap ⟨hp,g,d,tk,os⟩) l items:=⟨_,hl,rfl,n,rfl⟩
 wp_walk using AutoSeq1.wpAny_loadPart' hl
 refine wpAny_stack_any λst=>dD ?_
 split
 .rename_i c _ _ _ _ _;cases(c==Value.type "enumerate")
  .wp_walk using AutoSeq1.wpAny_loadPart' hl,ac3 q1
   exact⟨_,rfl,h⟩
  .wp_walk using AutoSeq1.wpAny_loadPart' hl,ac3 q1
   exact⟨_,rfl,h⟩
 .wp_walk using AutoSeq1.wpAny_loadPart' hl,ac3 q1
  exact⟨_,rfl,h⟩
section
variable {prog:Program}{w:World}{A:Around}{E:Value->Shared->Prop}{s:Shared}{t:Bool}
def aU1(hl:SSq t s.heap l xs)
  (h:∀h',IsEnum h' (s.heap.objs.size+1) s.heap.objs.size 0 .none->SIt t h' s.heap.objs.size l 0->(∀c o,s.heap.get? c=Ob o->h'.get? c=Ob o)->Q (.ref<|s.heap.objs.size+1) { s with heap:=h' }) :
  eh (ez prog w) A (call (.type "enumerate") [.ref l]) Q E s:=by
 cases t with
 | false=>exact call_enumerate_list hl λh' a b _ d=>h h' a b d
 | true =>
  obtain⟨⟨cls,dd,data,sl⟩,ho,hc,n,hd⟩:=hl;simp only at hc hd;subst hc hd;refine callType_new F.called_enumerate (by decide) (F.typeCall_enumerate_1 _) (F.newCall_enumerate_1 _) (λobj=>F.args_object_init_2 obj _) F.entry_enumerate_new (bl2 l xs n dd sl) ⟨ho,?_⟩;have z1:(s.heap.push<|ak7 true l).objs.size=s.heap.objs.size+1:=Heap.size_push ..;show _/\_;rw[z1];have he:=eD (s.heap.push<|ak7 true l) (o:={ cls:=.type "enumerate", data:=.fields #[.none,.bool false,.ref s.heap.objs.size,rawInt 0,.none,.none] }) rfl;rw[z1]at he;exact⟨⟨_,he,rfl⟩,h _ he ((aF5 (h:=s.heap) (l:=l) true).ext λo e=>eA _ e) λc o e=>eA _<|eA _ e⟩
def bn8(hh:A.handled=Oa)(he:IsEnum s.heap e it i old)(hit:SIt t s.heap it l k)(hl:SSq t s.heap l xs)(hx:xs[k]? = Oa)
  (hQ:∀h',Heap.ExtBut it s.heap h'->Q Oa { s with heap:=h' }):eh (ez prog w) A (pyNext<|.ref e) Q E s:=by
 have hT:s.TypeIs (.ref e) "enumerate" := ⟨_,he,rfl⟩;unfold pyNext;refine dB (wpAny_attempt<|wpAny_callSpecial?_slot (name:=Str.ofString "__next__") hT F.slot_enumerate_next (wpAny_call_entry F.slot_enumerate_next hT F.entry_enumerate_next ?_<|F.args_enumerate_next_1 _));show eh _ _ (field (.ref e) 2 >>= _) _ _ _;refine dB (dH he rfl (x:=.ref it) rfl<|dB (at5 hh hit hl hx λh' x he' hx'=>?_));obtain⟨o,ho,hc⟩:=hx';exact dB<|wpAny_isInstance (T := "StopIteration") (b:=true) ⟨o,ho,hc⟩ isSubtype_stop (dD<|hQ _ he')
end
noncomputable def Ite(K:aa)(t:Bool)(a:eR):It :=
  ⟨λi H=>∃xs x,Sq K t H a xs/\xs[i]? = Ob x,
   λi H v H'=>∃T x,v=.ref T/\H T=Oa/\H'=upd H T (.tup [.int i,x])/\∀xs,Sq K t H a xs->xs[i]? = Ob x,
   λi H=>∃xs,Sq K t H a xs/\xs.length<=i⟩
def bk3{P:dO}{w:World}{K:aa}{elts:List Expr}{k0:Nat}{pos:Pos}{t:Bool}{e it a:eR}(h1:e≠it)(h2:a≠e)(h3:a≠it):
  Turn P w K (.Tuple elts k0 pos) (Ite K t a) [e,it] e (λi h=>(∃old,IsEnum h e it i old)/\SIt t h it a i) where
 mem:=by simp
 obj:=λi h ⟨⟨old,he⟩,hi⟩ c hc=>by
  simp only[au,aR,or_false]at hc;rcases hc with rfl|rfl
  .exact⟨_,he,λv q=>by cases q⟩
  .cases t with
   | true=>obtain⟨o,ho,_,hd⟩:=hi;exact⟨o,ho,λv q=>by rw[hd]at q;cases q⟩
   | false=>obtain⟨o,ho,_,hd⟩:=hi;exact⟨o,ho,λv q=>by rw[hd]at q;cases q⟩
 keep:=λi h h' ⟨⟨old,he⟩,hi⟩ hk=>⟨⟨old,hk e (by simp) _ he⟩,hi.ext λo q=>hk it (by simp) o q⟩
 item:=by
  intro X hP hw hK hc i pins s σ H E I hf ⟨⟨old,he⟩,hi⟩ hg;subst hP hw hK;obtain⟨xs,x,q1,ex⟩:=hg;obtain⟨us,r1,p1,lt1⟩:=Z7 I q1;obtain⟨ux,eux,rx⟩:=r1.get ex;have hlt:i < us.toArray.size:=by rw[ai];exact(ag.mp eux).1
  refine wpAny_pyNext_enum_itemD (bn9 (A:=X.A.in1) (I.ok.hd hc) t it a h3 us.toArray) he ⟨hi,p1⟩ hlt h1 (by simp only[au,aR,or_false,not_or];exact⟨h1,λz=>h2 z.symm⟩) λy h' tk hy ho hst hT hsz hk=>⟨_,rfl,wpAny_letOwnedTupleGo_enum ho λh'' c1 c2=>?_⟩
  have ey:y=ux:=by
   have:us[i]? = Ob y:=by simpa using hy
   rw[eux]at this;exact(bc.inj this).symm
  subst ey;have neT:∀c o,s.heap.get? c=Ob o->c≠s.heap.objs.size:=λc o q=>aS<|eB q
  have up:∀c o,c≠e->h'.get? c=Ob o->h''.get? c=Ob o:=λc o n q=>c2.extBut c o n q
  refine⟨.ref s.heap.objs.size,upd H s.heap.objs.size<|.tup [.int i,x],ab4 (s:=s) (h':=h'') (t':=tk+1) (ch:=[e,it]) I hf (ah _) (λc u hc q=>?_) ?_,rfl,⟨_,x,rfl,I.hok.fresh<|ah _,rfl,λzs hz'=>by rw[aT5 I hz' q1];exact ex⟩,⟨⟨_,by simpa using c1⟩,hst.1.ext λo q=>up it o h1.symm q⟩,λc hc=>?_⟩
  .simp only[au,aR,or_false,not_or]at hc;exact up c u hc.1<|hk c u hc.1 hc.2 q
  .refine⟨by show 2<=dJ;decide,[.int i tk,y],.cons ⟨tk,rfl⟩<|.cons rx .nil,_,up _ _ ?_ hT,rfl,⟨_,rfl⟩,rfl⟩;exact λq=>neT e _ he q.symm
  .have lt:c < s.heap.objs.size:=by
    simp only[au,aR,or_false]at hc;rcases hc with rfl|rfl
    .exact eB he
    .exact hi.lt
   rw[B2 (aS lt)];exact(hf c hc).1
 done:=by
  intro X hP hw hK hc i pins s σ H E I hf ⟨⟨old,he⟩,hi⟩ hg;subst hP hw hK;obtain⟨xs,q1,hl⟩:=hg;obtain⟨us,r1,p1,lt1⟩:=Z7 I q1;have l1:=r1.length;refine bn8 (I.ok.hd hc) he hi p1 (by simp;grind) λh' hk=>⟨rfl,aw8 (t':=s.toks) (ch:=[e,it]) I hf λc u hc q=>?_⟩
  simp only[au,aR,or_false,not_or]at hc;exact hk c u hc.2 q
 self:=λ_ _ _ _ _ st h=>by
  obtain⟨⟨old,he⟩,_⟩:=st;exact wpAny_pyIter_enum he h
section
variable {X:Cx}
noncomputable def ar2(ds:List D):List D:=(ax ds.length).zip ds |>.map λ(k,d)=>PyData.tuple [.int (k:Nat),d]
noncomputable def aO3(f:Rho->Option (Bool×List D)):Rho->Option (List D):=λρ=>(f ρ).map λq=>ar2 q.2
def al3(ds:List D)(i:Nat):(ar2 ds)[i]? = (ds[i]?).map λd=>.tuple [.int i,d]:=by
 unfold ar2;rw[av];cases e:ds[i]? with
 | none =>
  have:ds.length<=i:=by simpa using e
  have z:((ax ds.length).zip ds)[i]? = Oa:=by simp;omega
  rw[z];rfl
 | some d =>
  have hi:=(ag.mp e).1;have z:((ax ds.length).zip ds)[i]? = Ob (i,d):=bF.mpr ⟨by simp[hi],e⟩;rw[z];rfl
def aO6(ds:List D):(ar2 ds).length=ds.length:=by unfold ar2;simp
def aK2{K:aa}{t:Bool}{a:eR}{vs:List V}{ds:List D}{Hf1:Hp}(h1:Sq K t Hf1 a vs)(r1:Reps K Hf1 ds vs):aJ7 K (Ite K t a) (ar2 ds) Hf1:=by
 have mono:∀{t:Bool}{a:eR}{xs:List V}{H H':Hp},B8 H H'->Sq K t H a xs->Sq K t H' a xs:=λ{t a xs H H'} e h=>by
  cases t with
  | true=>exact C7 e h
  | false=>exact K3 e h
 intro i H Hf sa sb;have m1:=mono (sa.trans sb) h1;have l1:=r1.length;refine⟨λhi=>⟨vs,m1,by rw[aO6]at hi;grind⟩,λd hd=>?_⟩;rw[al3]at hd;obtain⟨x,q1,q2⟩:=xmo hd;subst q2;obtain⟨vx,e1,e2⟩:=r1.get q1;refine⟨⟨vs,vx,m1,e1⟩,λv H' ⟨T,x',z1,z2,z3,z4⟩=>?_⟩;subst z1 z3;have w1:=z4 vs m1;rw[e1]at w1;cases w1;have nf:Hf T=Oa:=sb.free z2;exact⟨upd Hf T<|.tup [.int i,vx],Grow.laid sb z2,T,[.int i,vx],rfl,SqT.of B3,.int i,[vx],rfl,rfl,vx,[],rfl,(e2.mono sa).mono<|F7 nf,rfl⟩
def bY3{elts:List Expr}{k0:Nat}{tpos:Pos}{a:Expr}{f:DE}{p pos:Pos}(hg:Gl X "enumerate")(hm:X.mg "enumerate" = Oa)(ha:JE X a f)(hs:dI [a] X.env=[(false,eval a X.env)]:=by rfl):
  JI X (.Tuple elts k0 tpos) (.Call (.Name "enumerate" p) [a] [] pos) (aO3<|qE f):=λρ out q=>by
 obtain⟨⟨t1,ds⟩,e1,q⟩:=xmo q;subst q;obtain⟨d1,e1,e1'⟩:=xbm e1;intro pins s σ H R I ⟨H0,Hf,ss,sl,k⟩
 refine Call_ (an9 I hg hm rfl (PyProof.Rows.callWith_type1 (thn (K5 (ha ρ d1 e1) Q6 (by rw[hs];rfl) pos pins s σ H
  (λvs H'=>∃v Hf',vs=[v]/\Grow H Hf H' Hf'/\Rep X.K Hf' d1 v) I ⟨H0,Hf,ss,sl,λv H1 Hf1 g1 r1=>⟨v,Hf1,rfl,g1,r1⟩⟩) λus s1 ⟨vs,H1,I1,r1,v,Hf1,ev,gr,p1⟩=>?_) (by rw[hs];rfl) (by rfl)))
 subst ev;obtain⟨uv,rfl,rv⟩:=r1.one;obtain⟨a1,vs1,rfl,w1,w2⟩:=p1.seq (B8.refl Hf1) e1';cases rv
 have mono:∀{t:Bool}{a:eR}{xs:List V}{H H':Hp},B8 H H'->Sq X.K t H a xs->Sq X.K t H' a xs:=λ{t a xs H H'} e h=>by
  cases t with
  | true=>exact C7 e h
  | false=>exact K3 e h
 obtain⟨us1,rr1,hp1,lt1⟩:=Z7 I1 (mono gr.sub w1);refine aU1 hp1 λh' b1 b2 b3=>?_
 have I2:Inv X pins σ H1 { s1 with heap:=h' }:=I1.kept (t':=s1.toks) b3;refine wpAny_pyIter_enum b1 ⟨_,_,_,_,H1,rfl,I2,bk3 (e:=s1.heap.objs.size+1) (it:=s1.heap.objs.size) (a:=a1) (Nat.succ_ne_self _) (aS<|Nat.lt_succ_of_lt lt1)<|aS lt1,⟨⟨_,b1⟩,b2⟩,λb hb=>?_,k _ H1 Hf1 gr<|aK2 w1 w2⟩
 have hb':s1.heap.objs.size<=b:=by
  simp only[au,aR,or_false]at hb;rcases hb with rfl|rfl
  .exact bi _ _
  .exact ah _
 exact I1.fpOk hb'<|I1.hok.fresh hb'
end
section
variable {prog:Program}{w:World}{A:Around}{E:Value->Shared->Prop}{s:Shared}
def av8{l b sl:eR}{items new:Array eP}{n n2:Nat}{vl vu:eP}{lo hi:Option Int}{Q:Unit->eQ->Prop}
    (e:s.heap.get? l=Ob { cls:=.type "list", data:=.seq items n }) (e2:s.heap.get? b=Ob { cls:=.type "list", data:=.seq new n2 }) (hne:l≠b)
    (hs:s.heap.IsSliceOf sl vl vu .none) (pl:IsPart vl lo) (pu:IsPart vu hi) (hsz:items.size+new.size<=dJ)
    (h:Q () { s with heap:=s.heap.update l (Obj.mapSeq λxs=>xs.extract 0 (HT.sIx items.size 0 lo)++new++xs.extract (max (HT.sIx items.size 0 lo)<|HT.sIx items.size items.size hi) xs.size) }) :
    eh (ez prog w) A (setItem (.ref l) (.ref sl)<|.ref b) Q E s:=by
  have hl:s.heap.IsList l items:=PySem.IsL.isList e;have hb:s.heap.IsList b new:=PySem.IsL.isList e2;obtain⟨os,hos,hcs,hds⟩:=id hs;have hTs:s.TypeIs (.ref sl) "slice" := ⟨os,hos,hcs⟩;have hstep:¬((rawPart Oa==rawInt 0)=true):=aB
  have hsame:Builtin.List.listSameRef (.ref l) (.ref b)=false:=by
    unfold Builtin.List.listSameRef;exact beq_eq_false_iff_ne.mpr hne
  have hbd:sliceBounds lo hi Oa items.size=(((HT.sIx items.size 0 lo:Nat):Int),((HT.sIx items.size items.size hi:Nat):Int),1):=by
    obtain⟨h1,h2,h3⟩:=aj1 lo hi items.size;exact Prod.ext h1<|Prod.ext h2 h3
  have hmax:(max ((HT.sIx items.size 0 lo:Nat):Int) ((HT.sIx items.size items.size hi:Nat):Int)).toNat=max (HT.sIx items.size 0 lo) (HT.sIx items.size items.size hi):=by grind
  have hz':((λxs:Array eP=>xs.extract 0 (HT.sIx items.size 0 lo)++new++xs.extract (max (HT.sIx items.size 0 lo)<|HT.sIx items.size items.size hi) xs.size) items).size<=dJ+1:=by
    simp only[bJ,Array.size_extract]
    grind
  unfold setItem
  try with_reducible refine wpAny_holding ?_
  first|refine dB (dD ?_)|skip
  refine dB (wpAny_sequenceKey hl.typeIs (by decide) ?_);refine dB (wpAny_callSpecial?_slot (name:=Str.ofString "__setitem__") hl.typeIs slot_list_setitem<|wpAny_call_entry slot_list_setitem hl.typeIs entry_list_setitem ?_ (args_list_setitem _ _ _));show eh _ _ (Builtin.List.listSubscript? (.ref sl) >>= _) _ _ s;refine dB ?_;unfold Builtin.List.listSubscript?;refine dB (wpAny_specialOf hTs slice_no_index ?_);simp only[Option.isNone_none,if_true];refine dD ?_;show eh _ _ (typeOf (.ref sl) >>= _) _ _ s;refine dB<|wpAny_typeOf hTs ?_
  first
    | rw[if_neg (by decide)]
    | refine PySem.W.KFB.if_not (by decide) ?_
  rw[listSliceParts_eq];refine dB (dB<|dH hos hds (x:=.none) rfl (dB<|wpAny_listPart .none ?_));rw[if_neg hstep];refine dB (dH hos hds (x:=vl) rfl<|dB (wpAny_listPart pl ?_));refine dB<|dH hos hds (x:=vu) rfl (dB<|wpAny_listPart pu (dD ?_))
  first
    | simp only[hsame,bg,if_false]
    | refine PySem.W.KFB.if_not hsame ?_
    | (dsimp only
       rw[if_neg (by rw[hsame];exact aB)])
  refine dB (m:=Builtin.List.listAllItems (.ref b) "must assign iterable to extended slice") ?_;unfold Builtin.List.listAllItems;refine dB<|wpAny_typeOf hb.typeIs ?_
  first
    | refine PySem.W.KFB.if_so (by decide) ?_
    | rw[if_pos (by decide)]
    | simp only[beq_self_eq_true,Bool.true_or,if_true]
  unfold Builtin.List.listItems;refine dB (wpAny_seqItems e2 rfl<|dD ?_);refine dB (dB<|wpAny_seqItems e rfl (dD ?_));refine dB (wpAny_of_eq ((sliceIndices_raw lo hi Oa items.size<|by simp).trans<|congrArg (pure:Int×Int×Int->Sem (Int×Int×Int)) hbd) ?_);show eh _ _ (if((1:Int)==1)=true then _ else _) _ _ s;rw[if_pos (by decide)];refine dB<|wpAny_rule ?_
  first
    | simp only[ac8 hsz,bg,if_false]
    | refine PySem.W.KFB.if_not (ac8 hsz) ?_
  first|refine dB (dD ?_)|skip
  show eh _ _ (updateSeq l (λxs=>xs.extract 0 (((HT.sIx items.size 0 lo:Nat):Int)).toNat++new++xs.extract (max ((HT.sIx items.size 0 lo:Nat):Int) ((HT.sIx items.size items.size hi:Nat):Int)).toNat xs.size) >>= _) _ _ s;rw[hmax,aZ];refine dB (wpAny_updateSeq (hz:=aL (bi _ _) hsz) (_hz':=hz') e rfl ?_);refine dB<|wpAny_letGo ?_
  first
    | exact dB<|dD (dD ⟨.none,rfl,dD h⟩)
    | exact dD ⟨.none,rfl,dD h⟩
end
section
variable {X:Cx}
noncomputable def av5{α:Type}(xs:List α)(lo hi:Option Int)(ys:List α):List α:=xs.take (HT.sIx xs.length 0 lo)++ys++xs.drop (max (HT.sIx xs.length 0 lo)<|HT.sIx xs.length xs.length hi)
def aU0{pins:List (eR×Obj)}{s:eQ}{σ:L2.St}{H:Hp}{l b sl:eR}{xs ys:List V}{lo hi:Option Int}{vl vu:eP}{Q:Unit->eQ->Prop}(I:Inv X pins σ H s)
  (hH:H l=Ob (.lst xs)) (hB:H b=Ob (.lst ys)) (hne:l≠b) (hs:s.heap.IsSliceOf sl vl vu .none) (pl:IsPart vl lo) (pu:IsPart vu hi)
  (hz:xs.length+ys.length<=dJ) (h:∀s',Inv X pins σ (upd H l<|.lst (av5 xs lo hi ys)) s'->Q () s') :
  eh (ez X.prog X.w) X.A (setItem (.ref l) (.ref sl)<|.ref b) Q X.xe s:=by
 obtain⟨z,its,n,r,hl,e⟩:=I.lstM hH;obtain⟨z2,its2,n2,r2,hl2,e2⟩:=I.lstM hB;refine av8 e e2 hne hs pl pu (by rw[ai,ai];grind) (h _ ?_);have hz0:its.toArray.size=xs.length:=by rw[ai];exact hl.symm
 refine I.lset (its':=its.take (HT.sIx xs.length 0 lo)++its2++its.drop (max (HT.sIx xs.length 0 lo)<|HT.sIx xs.length xs.length hi)) (t':=s.toks) hH e ?_ (D7.append (D7.append (r.take _) r2)<|r.drop _) ?_
 .have e0:=bl0 its its2 (HT.sIx xs.length 0 lo) (max (HT.sIx xs.length 0 lo)<|HT.sIx xs.length xs.length hi);rw[hz0]at e0 ⊢;exact e0
 .unfold av5;rw[az,az,cn,bU]
  grind
def bx1{K:aa}{H:Hp}{ds es:List D}{vs us:List V}(h:Reps K H ds vs)(g:Reps K H es us)(lo hi:Option Int):Reps K H (av5 ds lo hi es) (av5 vs lo hi us):=by
 unfold av5;rw[h.length];exact((h.take _).append g).append (h.drop _)
def Slots.reOwn{K:aa}{H0 H Hf:Hp}{ρ:Rho}{σ:L2.St}{i:Nat}{ds ds':List D}{b:eR}{vs':List V}(sl:Slots K H0 ρ σ H Hf)(eo:ρ[i]? = Ob (Ob<|.own ds))(h1:σ[i]? = Ob (Ob<|.ref b))(hf:Hf b=Oa)(h0:H0 b=Oa)(r:Reps K Hf ds' vs'):
  Slots K H0 (ρ.set i<|Ob (.own ds')) σ (upd H b<|.lst vs') Hf:=by
 refine⟨by simpa using sl.len,λj bb z=>?_,λj k ds1 es c q1 q2 q3 q4=>?_⟩
 .by_cases qj:i=j
  .subst qj;have hi:i < ρ.length:=(ag.mp eo).1;rw[aC hi]at z;cases z;exact⟨_,h1,b,vs',rfl,B3,hf,h0,r⟩
  .rw[aq qj]at z;obtain⟨u,z1,z2⟩:=sl.is j bb z;refine⟨u,z1,?_⟩;cases bb with
   | val d=>exact z2
   | exc C=>exact z2
   | opq _=>exact z2
   | own dd =>
    obtain⟨a',us',y1,y2,y3,y4,y5⟩:=z2
    have ne:a'≠b:=λzz=>by
     subst zz y1;exact qj<|sl.apart i j ds dd a' eo z h1 z1
    exact⟨a',us',y1,by rw[B2 ne];exact y2,y3,y4,y5⟩
 .have f:∀(j:Nat) (es:List D),(ρ.set i<|Ob (B.own ds'))[j]? = Ob (Ob<|B.own es)->∃dd:List D,ρ[j]? = Ob (Ob<|B.own dd):=λj es q=>by
   by_cases qj:i=j
   .subst qj;exact⟨ds,eo⟩
   .rw[aq qj]at q;exact⟨_,q⟩
  obtain⟨d1,q1'⟩:=f j _ q1;obtain⟨d2,q2'⟩:=f k _ q2;exact sl.apart j k d1 d2 c q1' q2' q3 q4
noncomputable def bw8(i:Nat)(lo hi:Rho->Option (Option Int))(f:Rho->Option (List D)):DS:=λρ=>(f ρ).bind λes=>(lo ρ).bind λl=>(hi ρ).bind λh=>match ρ[i]? with
 | some (Ob (.own ds))=>if ds.length+es.length<=16777216 then Ob (.nx<|ρ.set i (Ob<|.own (av5 ds l h es))) else Oa
 | _=>Oa
def ct0(i:Nat){x:Str}{e:Expr}{lo hi:Option Expr}{f:Rho->Option (List D)}{l h:Rho->Option (Option Int)}{p p2 pos' pos:Pos}(he:JN X e f)(hl:JO X lo l)(hh:JO X hi h)(hN:X.N[i]? = Ob x:=by rfl)
  (hv:Vis X.env.scope x:=by first|exact Or.inl rfl|exact Or.inr (Or.inl rfl)|exact Or.inr<|Or.inr rfl) (hd:(x==("__debug__" : Str))=false:=by decide) (hcd:(x==("__classdict__" : Str))=false:=by decide)
  (hsw:swapsWith e (Ob<|.Subscript (.Name x p) (.Slice lo hi Oa p2) pos') pos.line X.env=pure false:=by rfl):JS X (.Assign [.Subscript (.Name x p) (.Slice lo hi Oa p2) pos'] e pos) (bw8 i l h f):=λρ fl q H0 Hf0=>by
 obtain⟨es,e1,q⟩:=xbm q;obtain⟨y,e2,q⟩:=xbm q;obtain⟨z,e3,q⟩:=xbm q;split at q
 .rename_i ds eo;split at q
  .rename_i hz;cases q;intro pins s σ H En I ⟨Hf,a,ee⟩;refine wpAny_Assign_Subscript (thn (he ρ es e1 pins s σ H (λv H'=>∃Hf',Grow H Hf H' Hf'/\∃b us,v=.ref b/\H b=Oa/\H' b=Ob (.lst us)/\Hf' b=Oa/\Reps X.K Hf' es us) I ⟨H0,Hf,a.gr.sub,a.sl,λv H' Hf' g r=>⟨Hf',g,r⟩⟩) λv s1 ⟨x1,H1,I1,r1,Hf1,g1,b,us,ev,b1,b2,b3,b4⟩=>?_) hsw;subst ev;cases r1;obtain⟨vl0,h1,c,vs,ev,h2,h3,h4,h5⟩:=a.sl.is i _ eo;subst ev;refine thn (V4 hN hv hd hcd pins s1 σ H1 (λv H'=>v=.ref c/\H'=H1) I1 ⟨_,h1,rfl,rfl⟩) λov s2 ⟨x2,H2,I2,r2,ex,eH⟩=>?_
   subst ex eH;cases r2;have sl1:=a.sl.grow g1;refine wpAny_Slice (thn (hl ρ y e2 pins s2 σ H2 (λo H'=>o=y/\∃Hf',Grow H2 Hf1 H' Hf') I2 ⟨H0,Hf1,g1.sub,sl1,λH' Hf' g=>⟨rfl,Hf',g⟩⟩) λwl s3 ⟨o3,H3,I3,pl,eo3,Hf3,g3⟩=>?_);subst eo3;have sl3:=sl1.grow g3;refine thn (hh ρ z e3 pins s3 σ H3 (λo H'=>o=z/\∃Hf',Grow H3 Hf3 H' Hf') I3 ⟨H0,Hf3,g3.sub,sl3,λH' Hf' g=>⟨rfl,Hf',g⟩⟩) λwu s4 ⟨o4,H4,I4,pu,eo4,Hf4,g4⟩=>?_
   subst eo4;have sl4:=sl3.grow g4;have gg:Grow H Hf H4 Hf4:=(g1.trans g3).trans g4;rw[evalPart_none];refine dD ?_;have I5:Inv X pins σ H4 { s4 with heap:=s4.heap.push { cls:=.type "slice", data:=.fields #[wl,wu,.none] } }:=I4.kept (t':=s4.toks) λb ob q=>eA _ q
   have hc:H4 c=Ob (.lst vs):=gg.big _ _ h2;have hb:H4 b=Ob (.lst us):=(g3.trans g4).big _ _ b2;have hcb:c≠b:=λzz=>by subst zz;rw[h2]at b1;cases b1
   have hfc:Hf4 c=Oa:=gg.nofr h2 h3;have rd:Reps X.K Hf4 (av5 ds o3 o4 es) (av5 vs o3 o4 us):=bx1 (h5.mono gg.ext) (b4.mono (g3.trans g4).ext) _ _;refine aU0 I5 hc hb hcb (Heap.IsSliceOf.new ..) pl pu (by rw[h5.length,b4.length,dL];exact hz) λs' I'=>?_
   have ga:=a.gr.trans gg;refine⟨σ,_,I',ee σ _ Hf4 ⟨⟨λd u zz=>?_,λd u zz=>?_,ga.ext,ga.new⟩,sl4.reOwn eo h1 hfc h4 rd⟩ gg.ext⟩
   .rw[B2 (C2 zz h4)];exact ga.big d u zz
   .rw[B2 (C2 zz hfc)];exact ga.sub d u zz
  .cases q
 .cases q
def bX2(i:Nat)(hN:X.N.Nodup)(S:CompSc X N' n caps scope)(hx:∀e s,X.xe e s->False)
  (hi:JI X tgt iter src) (hg:∀C s0 H0 ex,JG (K6 X N' scope C s0 H0 ex) tgt g) (ht:∀C s0 H0 ex,JTs (K6 X N' scope C s0 H0 ex) ifs c) (he:∀C s0 H0 ex,JE (K6 X N' scope C s0 H0 ex) elt e)
  (hi2:X.N[i]? = Ob x:=by rfl) (hl:X.env.scope.names.lookup x=Ob .local:=by rfl) (hsw:swapsWith (.ListComp elt [⟨tgt,iter,ifs,0⟩] scope pos) (Ob<|.Name x pos') spos.line X.env=pure true:=by rfl)
  (hc:X.calm=true:=by rfl) (hs:∀x,dX iter X.env x=pure x:=by intro _;rfl):JS X (.Assign [.Name x pos'] (.ListComp elt [⟨tgt,iter,ifs,0⟩] scope pos) spos) (aj4 i<|K1 n caps src g c e):=λρ fl q H0 Hf0=>by
 obtain⟨out,e1,e2⟩:=xmo q;subst e2;obtain⟨ds,e3,k⟩:=ai2 (K:=X.K) e1;refine L9 (aw0 S hx hc hN hi2 hl (hi ρ ds e3) (g:=tgJ X.K g) (tc:=aB1 X.K c) (te:=bc6 X.K e) hg ht (λC s0 H0 ex pins s σ H Q I ⟨ρ,d,e,t⟩=>he C s0 H0 ex ρ d e pins s σ H Q I t) hsw hs) λEn σ H ⟨Hf,a,ee⟩=>k σ H _ ⟨H0,Hf,a.gr.sub,a.sl,λv H' Hf' gg ⟨p,vs,z1,z2,z3,z4,z5⟩=>?_⟩
 subst z1;exact ee _ H' Hf' ⟨a.gr.trans gg,a.sl.setOwn gg (a.gr.big.free z2) z2 z3 z4 z5⟩ gg.ext
noncomputable def cd2:DS:=λρ=>Ob<|.ct ρ
def bX3:JS X (.Continue pos) cd2:=λρ fl q H0 Hf0=>by
 cases q;exact L9 aM1 λEn σ H ⟨Hf,a,e⟩=>e σ H Hf a<|B8.refl _
end
section
variable {X:Cx}
noncomputable def as3(x:Str)(k:Int):Str:=if(k==1 || x.length==0)=true then x else⟨(aj k.toNat x.cps).foldl (·++·) #[]⟩
noncomputable def bm5(x y:D):Option D:=match x,y with
 | .str x,.int k=>if 1<=k/\k<=2/\x.length<=1000/\(as3 x k).length<=16777216 then Ob (.str<|as3 x k) else Oa
 | _,_=>Oa
def bV0:OpD X (dS .Mult) bm5:=λx y z h=>by
 unfold bm5 at h;split at h
 .split at h
  .rename_i x k c;cases h;intro pins s σ H vx vy v u Q I rx ry ⟨Hf,ss,r1,r2,kk⟩;cases r1;cases r2;obtain⟨t,rfl⟩:=rx;obtain⟨t2,rfl⟩:=ry;have w:=kk (.str<|as3 x k) H Hf (Grow.refl ss) rfl;have k12:k=1\/k=2:=by grind
   refine P.mul_str (by rw[decide_eq_false (by grind),decide_eq_false (by grind)];rfl) (λ_ _=>by rcases k12 with rfl|rfl<;>grind) (λ_ _=>?_) ?_
   .unfold Builtin.Str.tooLong;rw[dL];refine decide_eq_false ?_;rcases k12 with rfl|rfl<;>simp<;>grind
   .rw[if_neg (by grind)];unfold as3 at w c;split
    .rename_i e;rw[if_pos e]at w;exact⟨.str x,H,I,⟨_,rfl⟩,w⟩
    .rename_i e;rw[if_neg e]at w c;exact⟨by rw[dL];exact c.2.2.2,.str _,H,I.tok _,⟨_,rfl⟩,w⟩
  .cases h
 .cases h
noncomputable def slS(x:Str)(lo hi:Option Int):Str:=if((1:Int)==1&&(Builtin.Str.strSliceIndices lo hi 1 x.length).length==x.length)=true then x else⟨((Builtin.Str.strSliceIndices lo hi 1 x.length).filterMap (x.cps[·]?)).toArray⟩
noncomputable def bp9(f:DE)(lo hi:Rho->Option (Option Int)):DE:=λρ=>(f ρ).bind λd=>(lo ρ).bind λl=>(hi ρ).bind λh=>match d with
 | .str x=>if x.length<=1000/\(slS x l h).length<=16777216 then Ob (.str<|slS x l h) else Oa
 | _=>Oa
def bf2(h:IsPart u o):∃p:Option (Int×Tok),u=partValue p/\p.map (·.1)=o:=by
 cases h with
 | none=>exact⟨Oa,rfl,rfl⟩
 | int i t=>exact⟨Ob (i,t),rfl,rfl⟩
def bR2:SlR X (λx lo hi H Q=>∃z,x=.str z/\(slS z lo hi).length<=16777216/\Q (.str<|slS z lo hi) H):=by
 intro pins s σ H x v vl vu lo hi sl Q I rx hs pl pu h;obtain⟨z,rfl,hz,q⟩:=h;obtain⟨t,rfl⟩:=rx;obtain⟨pl',rfl,rfl⟩:=bf2 pl;obtain⟨pu',rfl,rfl⟩:=bf2 pu;refine⟨"str", _,F.slot_str_getitem.lookup,typeIs_str s z t,wpAny_getItem_str_slice (l:=pl') (u:=pu') (st:=Oa) hs rfl ?_⟩;show(if((1:Int)==1&&(Builtin.Str.strSliceIndices (pl'.map (·.1)) (pu'.map (·.1)) 1 z.length).length==z.length)=true then Made.val (.str z t) else Made.str ⟨((Builtin.Str.strSliceIndices (pl'.map (·.1)) (pu'.map (·.1)) 1 z.length).filterMap (z.cps[·]?)).toArray⟩).post _ _;unfold slS at q hz;by_cases e:((1:Int)==1&&(Builtin.Str.strSliceIndices (pl'.map (·.1)) (pu'.map (·.1)) 1 z.length).length==z.length)=true
 .rw[if_pos e]at q ⊢;exact⟨.str z,H,I,⟨_,rfl⟩,q⟩
 .rw[if_neg e]at q hz ⊢;exact⟨by rw[dL];exact hz,.str _,H,I.tok _,⟨_,rfl⟩,q⟩
def cv1{a:Expr}{lo hi:Option Expr}{f:DE}{l h:Rho->Option (Option Int)}{pos p2:Pos}(ha:JE X a f)(hl:JO X lo l)(hh:JO X hi h):JE X (.Subscript a (.Slice lo hi Oa p2) pos) (bp9 f l h):=λρ d q=>by
 obtain⟨x,e1,q⟩:=xbm q;obtain⟨y,e2,q⟩:=xbm q;obtain⟨z,e3,q⟩:=xbm q;cases x with
 | str x =>
  simp only at q;split at q
  .rename_i c;cases q;refine B4 (aj9 bR2 (ha ρ _ e1) (hl ρ y e2)<|hh ρ z e3) λσ H Q ⟨H0,Hf,s,sl,k⟩=>?_
   refine⟨H0,Hf,s,sl,λv H1 Hf1 g1 r1=>⟨H0,Hf1,g1.sub,sl.grow g1,λH2 Hf2 g2=>⟨H0,Hf2,g2.sub,sl.grow<|g1.trans g2,λH3 Hf3 g3=>?_⟩⟩⟩;exact⟨x,r1,c.2,k _ H3 Hf3 ((g1.trans g2).trans g3) rfl⟩
  .cases q
 | _=>cases q
noncomputable def aF6(i:Nat)(f:DE):DS:=λρ=>match ρ[i]? with
 | some (Ob (.own ds))=>(f ρ).bind λd=>match d with
  | .list es=>if ds.length+es.length<=16777216 then Ob (.nx<|ρ.set i (Ob<|.own (ds++es))) else Oa
  | .tuple es=>if ds.length+es.length<=16777216 then Ob (.nx<|ρ.set i (Ob<|.own (ds++es))) else Oa
  | _=>Oa
 | _=>Oa
end
section
variable {X:Cx}
noncomputable def cF7(f g:Rho->Option (Bool×List D)):Rho->Option (List D):=λρ=>(f ρ).bind λp=>(g ρ).bind λq=>if p.1=false/\q.1=false/\p.2.length+q.2.length<=16777216 then Ob (p.2++q.2) else Oa
def cu4(ha:JQ X a f)(hb:JQ X b g):JN X (.BinOp a .Add b pos) (cF7 f g):=λρ out q=>by
 obtain⟨⟨t1,xs⟩,e1,q⟩:=xbm q;obtain⟨⟨t2,ys⟩,e2,q⟩:=xbm q;split at q
 .rename_i c;obtain⟨c1,c2,c3⟩:=c;simp only at c1 c2 c3;subst c1 c2;cases q;refine B4 (bz0 bf4 (ha ρ _ _ e1)<|hb ρ _ _ e2) λσ H Q ⟨H0,Hf,s,sl,k⟩=>?_
  refine⟨H0,Hf,s,sl,λv H1 Hf1 g1 ⟨p,vs,z1,z2,z3⟩=>⟨H0,Hf1,g1.sub,sl.grow g1,λu H2 Hf2 g2 ⟨p',us,z1',z2',z3'⟩=>?_⟩⟩;subst z1 z1';refine⟨p,p',vs,us,rfl,rfl,K3 g2.big z2,z2',by rw[z3.length,z3'.length,dL];exact c3,λn hn=>?_⟩;exact k _ _ _ ((g1.trans g2).trans<|Grow.made g2.sub hn) ⟨n,vs++us,rfl,(g1.trans g2).big.free hn,B3,g2.sub.free hn,(z3.mono g2.ext).append z3'⟩
 .cases q
end
section
variable {X:Cx}
def ca2(l b:eR)(xs ys:Array eP)(n m:Nat)(dd:Option eR)(sl:Array (Option eP))(h0:¬(!xs.isEmpty&&Builtin.List.listTooLong (xs.size+ys.size))=true)(h1:xs.size<=dJ)(h2:xs.size+ys.size<=dJ+1):
  Meets (Builtin.«list.extend» ⟨[.ref l,.ref b],[]⟩) (λ_ R s=>s.heap.get? l=Ob { cls:=.type "list", data:=.seq xs n }/\s.heap.get? b=Ob ⟨.type "list", dd,.seq ys m,sl⟩ /\
   R (.ok (.ret eL)) { s with heap:=s.heap.update l (Obj.mapSeq λx=>x++ys),toks:=s.toks }) :=
 .of_wp λprog w A R s h=>by
  obtain⟨hp,g,d,tk,os⟩:=s;obtain⟨hl,hb,h⟩:=h;have f1:=AutoSeq1.idx_int;have f2:=AutoSeq1.sub_tuple_tuple;have f3:=AutoSeq1.sub_list_list;have f4:=AutoSeq1.sub_tuple_list;have f5:=AutoSeq1.sub_list_tuple;have hz':(xs++ys).size<=dJ+1:=by rw[bJ];exact h2
  wp_walk using (wpAny_updateSeq hl rfl (hz:=h1) (_hz':=hz')),AutoSeq1.wpAny_loadPart' hl,AutoSeq1.wpAny_loadPart' hb
  exact⟨_,rfl,h⟩
def ca1(l b:eR)(xs ys:Array eP)(n m:Nat)(dd:Option eR)(sl:Array (Option eP))(h0:¬(!xs.isEmpty&&Builtin.List.listTooLong (xs.size+ys.size))=true)(h1:xs.size<=dJ)(h2:xs.size+ys.size<=dJ+1):
  Meets (Builtin.«list.extend» ⟨[.ref l,.ref b],[]⟩) (λ_ R s=>s.heap.get? l=Ob { cls:=.type "list", data:=.seq xs n }/\s.heap.get? b=Ob ⟨.type "tuple", dd,.seq ys m,sl⟩ /\
   R (.ok (.ret eL)) { s with heap:=s.heap.update l (Obj.mapSeq λx=>x++ys),toks:=s.toks }) :=
 .of_wp λprog w A R s h=>by
  obtain⟨hp,g,d,tk,os⟩:=s;obtain⟨hl,hb,h⟩:=h;have f1:=AutoSeq1.idx_int;have f2:=AutoSeq1.sub_tuple_tuple;have f3:=AutoSeq1.sub_list_list;have f4:=AutoSeq1.sub_tuple_list;have f5:=AutoSeq1.sub_list_tuple;have hz':(xs++ys).size<=dJ+1:=by rw[bJ];exact h2
  wp_walk using (wpAny_updateSeq hl rfl (hz:=h1) (_hz':=hz')),AutoSeq1.wpAny_loadPart' hl,AutoSeq1.wpAny_loadPart' hb
  exact⟨_,rfl,h⟩
noncomputable def cO6(K:aa):V->List V->Hp->VK->Prop:=λx vs H Q=>∃l b xs zs,x=.ref l/\vs=[.ref b]/\H l=Ob (.lst xs)/\(SqL K H b zs\/SqT K H b zs)/\xs.length+zs.length<=dJ/\Q .non (upd H l<|.lst (xs++zs))
def bB7:MtM X "list.extend" (cO6 X.K):=by
 intro pins s σ H x vs v us Q I rx rv h;obtain⟨l,b,xs,zs,rfl,rfl,hH,hB,hz,q⟩:=h;cases rx;obtain⟨u,rfl,ru⟩:=rv.one;cases ru;obtain⟨z,its,n,r,hl,e⟩:=I.lstM hH;rcases hB with hB|hB
 .obtain⟨its2,r2,pl,_⟩:=I.list hB;obtain⟨⟨cls,dd,data,sl⟩,ho,hc,m,hd⟩:=pl.isList;simp only at hc hd;subst hc hd;have hl2:=r2.length;have hsz:its.toArray.size+its2.toArray.size<=dJ:=by rw[ai,ai];grind
  have hlong:¬(!its.toArray.isEmpty&&Builtin.List.listTooLong (its.toArray.size+its2.toArray.size))=true:=by rw[ac8 hsz,dy];exact aB
  refine dY F.slot_list_extend ⟨_,e,rfl⟩ F.entry_list_extend (F.args_list_extend_2 _ _) (ca2 l b its.toArray its2.toArray n m dd sl hlong (by rw[ai];grind)<|by grind) ⟨e,ho,?_⟩;refine⟨.non,_,I.lset (its':=its++its2) hH e (by simp) (r.append r2) ?_,rfl,q⟩;rw[az];grind
 .obtain⟨its2,r2,pl,_⟩:=I.tuple hB;obtain⟨⟨cls,dd,data,sl⟩,ho,hc,m,hd⟩:=pl;simp only at hc hd;subst hc hd;have hl2:=r2.length;have hsz:its.toArray.size+its2.toArray.size<=dJ:=by rw[ai,ai];grind
  have hlong:¬(!its.toArray.isEmpty&&Builtin.List.listTooLong (its.toArray.size+its2.toArray.size))=true:=by rw[ac8 hsz,dy];exact aB
  refine dY F.slot_list_extend ⟨_,e,rfl⟩ F.entry_list_extend (F.args_list_extend_2 _ _) (ca1 l b its.toArray its2.toArray n m dd sl hlong (by rw[ai];grind)<|by grind) ⟨e,ho,?_⟩;refine⟨.non,_,I.lset (its':=its++its2) hH e (by simp) (r.append r2) ?_,rfl,q⟩;rw[az];grind
def ct5(i:Nat)(h:JE X e f)(hN:X.N[i]? = Ob x)(hv:Vis X.env.scope x)(hd:(x==("__debug__" : Str))=false)
  (hcd:(x==("__classdict__" : Str))=false) (hline:(apos.endLine==cpos.line)=true) (hs:dI [e] X.env=[(false,eval e X.env)]) :
  JS X (.Expr (.Call (.Attribute (.Name x p) "extend" apos) [e] [] cpos) pos) (aF6 i f):=λρ fl q H0 Hf0=>by
 unfold aF6 at q;split at q
 .rename_i ds eo;obtain⟨d,e1,q⟩:=xbm q;split at q
  .rename_i es;split at q
   .rename_i hz;cases q;refine L9 (at6 (bf1 PySem.F.plainAttrs_list PySem.F.slot_list_extend PySem.F.type_list_extend bB7 (V4 hN hv hd hcd) (K5 (h ρ _ e1) Q6 hs) rfl (by rw[hs];rfl) hline hs) rfl) λEn σ H ⟨Hf,a,ee⟩=>?_
    obtain⟨v,h1,b,vs,rfl,h2,h3,h4,h5⟩:=a.sl.is i _ eo;refine⟨_,h1,.inl ⟨rfl,vs,SqL.of h2⟩,H0,Hf,a.gr.sub,a.sl,λw H' Hf' gg r=>?_⟩;obtain⟨b2,us,rfl,r1,r2⟩:=r;have hb:H' b=Ob (.lst vs):=gg.big _ _ h2;have hfb:Hf' b=Oa:=gg.nofr h2 h3;have g2:=a.gr.trans gg;have sl2:=a.sl.grow gg;refine⟨b,b2,vs,us,rfl,rfl,hb,.inl<|K3 gg.sub r1,by rw[h5.length,r2.length,dL];exact hz,ee _ _ Hf' ⟨⟨λc u z=>?_,λc u z=>?_,g2.ext,g2.new⟩,?_⟩ gg.ext⟩
    .rw[B2 (C2 z h4)];exact g2.big c u z
    .rw[B2 (C2 z hfb)];exact g2.sub c u z
    .exact sl2.reOwn eo h1 hfb h4 ((h5.mono gg.ext).append r2)
   .cases q
  .rename_i es;split at q
   .rename_i hz;cases q;refine L9 (at6 (bf1 PySem.F.plainAttrs_list PySem.F.slot_list_extend PySem.F.type_list_extend bB7 (V4 hN hv hd hcd) (K5 (h ρ _ e1) Q6 hs) rfl (by rw[hs];rfl) hline hs) rfl) λEn σ H ⟨Hf,a,ee⟩=>?_
    obtain⟨v,h1,b,vs,rfl,h2,h3,h4,h5⟩:=a.sl.is i _ eo;refine⟨_,h1,.inl ⟨rfl,vs,SqL.of h2⟩,H0,Hf,a.gr.sub,a.sl,λw H' Hf' gg r=>?_⟩;obtain⟨b2,us,rfl,r1,r2⟩:=r;have hb:H' b=Ob (.lst vs):=gg.big _ _ h2;have hfb:Hf' b=Oa:=gg.nofr h2 h3;have g2:=a.gr.trans gg;have sl2:=a.sl.grow gg;refine⟨b,b2,vs,us,rfl,rfl,hb,.inr<|C7 gg.sub r1,by rw[h5.length,r2.length,dL];exact hz,ee _ _ Hf' ⟨⟨λc u z=>?_,λc u z=>?_,g2.ext,g2.new⟩,?_⟩ gg.ext⟩
    .rw[B2 (C2 z h4)];exact g2.big c u z
    .rw[B2 (C2 z hfb)];exact g2.sub c u z
    .exact sl2.reOwn eo h1 hfb h4 ((h5.mono gg.ext).append r2)
   .cases q
  .cases q
 .cases q
end
section
variable {X:Cx}
noncomputable def cI4(x y:Str):Bool:=!(Builtin.Str.occurrences y x 0 y.length 1).isEmpty
noncomputable def inS(neg:Bool)(x y:D):Option D:=match x,y with
 | .str i,.str j=>Ob<|.bool (if neg then !cI4 i j else cI4 i j)
 | _,_=>Oa
noncomputable def cJ3(f:DE):DE:=λρ=>(f ρ).bind λd=>match d with
 | .str x=>if x.length<=16777216 then Ob (.int x.length) else Oa
 | _=>Oa
noncomputable def cD0(x:Str):List D:=x.cps.toList.map λc=>.str ⟨#[c]⟩
noncomputable def cP5(f:DE):Rho->Option (List D):=λρ=>(f ρ).bind λd=>match d with
 | .str x=>if x.cps.all (· < 128)=true then Ob (cD0 x) else Oa
 | _=>Oa
end
end G
namespace G
open PySem PySem.Spec PyProof PyProof.Rows L2
section
variable {X:Cx}
noncomputable def mnF(m x:Int):Int:=if x < m then x else m
noncomputable def mxF(m x:Int):Int:=if x > m then x else m
noncomputable def mnL:List Int->Int
 | []=>0
 | a::r=>r.foldl mnF a
noncomputable def mxL:List Int->Int
 | []=>0
 | a::r=>r.foldl mxF a
end
end G
namespace G
open PySem PySem.Spec PyProof.Rows L2
section
variable {X:Cx}
noncomputable def lsB(x:D)(ds:List D):Prop:=eE x=true/\x.depth<=60/\ds.all eE=true/\ds.all ad3=true
instance (x:D) (ds:List D):Decidable (lsB x ds):=by unfold lsB;exact inferInstance
end
end G
namespace L2
open PySem PySem.Spec PyProof.Rows
end L2
namespace G
open PySem PySem.Spec PyProof.Rows L2
def ax3{K:aa}{h:Heap}{C:eR}{bb:List eP}{nid:String}(kin:K.In h)(q:bM K C bb nid=true):
  ∃nm qn N bs bm hd sn sub ab col dd k0 k1 k2 k3 k5 mN,h.get? C=Ob (excClassObj nm qn C N bs bm hd sn sub ab col dd k0 k1 k2 k3 k5 nid)/\h.Ns N mN/\mN "__init__" = Oa/\OwnTail h bb bm:=by
 unfold bM at q;split at q
 case h_2=>cases q
 rename_i d0 c0 sl0 lk;split at q
 case h_2=>cases q
 rename_i C1 tl p0 p1 p2 p3 n1 p5 e1 e2;simp only[ae,beq_iff_eq,bf]at q;obtain⟨⟨⟨⟨⟨q1,q2⟩,q3⟩,q4⟩,q5⟩,q6⟩:=q;subst q1 q2;obtain⟨f1,f2,f3,f4,f5,f6,f7,f8,f9,f10,f11⟩:=c0;dsimp only at e1 q3 q5 q6;subst e1 q3;obtain⟨sll⟩:=sl0;dsimp only at e2;subst e2;exact⟨f1,f5,f4,f2,tl,f6,f7,f8,f9,f10,d0,p0,p1,p2,p3,p5,_,kin _ _ lk,.of_isNs<|PySem.W.isNs_of_in kin q5,PySem.W.nsMap_none_of_in kin q5 q6,PySem.W.tail_of_in kin q4⟩
structure Fly (R:eR->Prop) (l:List Env) (g B:Heap) (C a:eR) (h:Heap):Prop where
 keep:∀b o,R b->g.get? b=Ob o->b∉frs l->B.get? b=Ob o
 fly:∃t,Heap.FlyingW B l a (.ref C) (.ref t) h
 sl:∀b o,g.get? b=Ob o->b∈frs l->∃z,h.get? b=Ob { o with slots:=z }
noncomputable def Rl(s:eQ)(H':Hp)(b:eR):Prop:=s.heap.get? b≠Oa\/H' b≠Oa
noncomputable def CX1(P:dO)(w:World):CXT:=λouter H s E e s'=>∃a C g B H',e=.ref a/\s'.os=s.os/\AllBare s'.gens/\Un (frs outer) [] H H' s.heap g/\HOk P w H' g/\Fly (Rl s H') outer g B C a s'.heap/\E (.ref C) Oa H'
section
variable {X:Cx}{pins:List (Addr×Obj)}{σ:L2.St}{H H':Hp}{s s':Shared}{g B:Heap}
def bZ8(I:Inv X pins σ H s)(os:s'.os=s.os)(bare:AllBare s'.gens)(un:Un (frs X.stack) [] H H' s.heap g)(hok:HOk X.prog X.w H' g)(keep:∀b o,Rl s H' b->g.get? b=Ob o->b∉frs X.stack->B.get? b=Ob o)
  (hB:B.StaysIn s'.heap) (sl:∀b o,g.get? b=Ob o->b∈frs X.stack->∃z,s'.heap.get? b=Ob { o with slots:=z }):Inv X pins σ H' s':=by
 have nx:∀b:eR,b∉([]:List eR):=λb z=>absurd z (by simp)
 refine I.call' (ch:=[]) os ⟨λb o e n m z=>hB b o (keep b o (.inl (by rw[e];simp)) (un.keep b o e n m z) m),λb o e n m z=>?_,un.free,λb o e z=>?_,un.tups,un.frzs,un.tbls⟩ ?_ bare λb z=>absurd z<|nx b
 .obtain⟨z1,q⟩:=un.slot b o e n m z;obtain⟨z2,q2⟩:=sl b _ q m;exact⟨z2,q2⟩
 .obtain⟨o',q⟩:=un.there b o e z;by_cases m:b∈frs X.stack
  .obtain⟨z2,q2⟩:=sl b _ q m;exact⟨_,q2⟩
  .exact⟨o',hB b o'<|keep b o' (.inl (by rw[e];simp)) q m⟩
 .intro a o e
  have fr0:∀b,b∈frs X.stack->H' b=Oa:=λb m=>by
   obtain⟨_,o1,h1,_⟩:=I.stack.mem m;exact un.free b o1 h1 (I.stkFree b m)<|nx b
  refine(hok a o e).stay (λb u hb q=>?_) (λ_ q=>q) λ_ _ q=>q
  have hn:H' b≠Oa:=by
   rcases hb with rfl|hb
   .rw[e];simp
   .rw[hb];simp
  exact hB b u<|keep b u (.inr hn) q λm=>hn<|fr0 b m
end
section
variable {P:Program}{w:World}{K:PySem.W.Frag}{mg:Str->Option Value}{base:Heap}{N:List Str}{qual:Str}{scope:Scope}{f:Addr}{cd:Value}{A:Around}{outer:List Env}{s:Shared}{H H1:Hp}{E:XK}
 {pins:List (eR×Obj)}{σ:L2.St}{s1 s':eQ}{h2:Heap}{a C:eR}{vs:List eP}
noncomputable abbrev cx1(P:dO)(w:World)(K:aa)(mg:Str->Option eP)(base:Heap)(N:List Str)(qual:Str)(scope:Scope)(f:eR)(cd:eP)(A:dP)(outer:List Env)(s:eQ)(H:Hp)(E:XK):Cx:=as7 (CX1 P w) P w K mg base N qual scope f cd A outer s H E
def cd3(I:Inv (cx1 P w K mg base N qual scope f cd A outer s H E) pins σ H1 s1)(r:Rl s H1 b):b≠s.heap.objs.size:=by
 rintro rfl
 rcases r with r|r
 .exact r (Heap.get?_none_of_le<|ah _)
 .exact r I.free
def aB8(h1:b∉frs outer)(h2:b≠s.heap.objs.size):b∉frs (cx1 P w K mg base N qual scope f cd A outer s H E).stack:=λm=>by
 have m:b∈s.heap.objs.size::frs outer:=m;rcases au.mp m with z|z
 .exact h2 z
 .exact h1 z
def aw6(I:Inv (cx1 P w K mg base N qual scope f cd A outer s H E) pins σ H1 s1)(hm:Heap.MadeExcOf s1.heap h2 a (.ref C) vs)(hE:E (.ref C) Oa H1):(cx1 P w K mg base N qual scope f cd A outer s H E).xe (.ref a) { s1 with heap:=h2 }:=by
 have hin:∀env∈(cx1 P w K mg base N qual scope f cd A outer s H E).stack,∀b,env.frame=Ob b->b∈frs (cx1 P w K mg base N qual scope f cd A outer s H E).stack:=λenv he b hb=>cy.mpr ⟨env,he,hb⟩
 refine wpAny_leaves_madeW (base:=PySem.W.hideAll s1.heap<|frs (cx1 P w K mg base N qual scope f cd A outer s H E).stack) (h:=s1.heap) (outer:=outer) I.ok.frames rfl (λb o q=>PySem.W.of_hideAll _ q) (PySem.W.funFrames_hide I.stack hin) hm λh' t x1 _ _ x4=>?_
 refine⟨a,C,s1.heap,_,H1,rfl,I.os,I.bare,I.base,I.hok,⟨λb o r e m=>PySem.W.hideAll_get _ e<|aB8 m (cd3 I r),⟨t,x1⟩,λb o e m=>?_⟩,hE⟩;obtain⟨_,o',e',hd⟩:=I.stack.mem (xmm _ m);rw[e]at e';cases e';exact x4 b o (hm.keeps b o e) hd
def aG9(I:Inv (cx1 P w K mg base N qual scope f cd A outer s H E) pins σ H1 s1)(hx:CX1 P w (cx1 P w K mg base N qual scope f cd A outer s H E).stack H1 s1 E e s'):(cx1 P w K mg base N qual scope f cd A outer s H E).xe e s':=by
 obtain⟨a,C,g,B,H',rfl,os,bare,un,hok,F,hE⟩:=hx;have J:Inv (cx1 P w K mg base N qual scope f cd A outer s H E) pins σ H' { s' with heap:=g }:=I.call' (s':={ s' with heap:=g }) (ch:=[]) os un hok bare (λb z=>absurd z<|by simp);obtain⟨t,fl⟩:=F.fly;refine wpAny_leaves_onW (outer:=outer) I.ok.frames rfl fl λh' x1 x2=>?_
 have up:∀b,Rl s H' b->Rl s1 H' b:=λb r=>r.imp (λz q=>by
  cases e:s.heap.get? b with
  | none=>exact z e
  | some o =>
   obtain⟨o',q'⟩:=I.base.there b o e (λz=>absurd (show b∈([]:List eR) from z)<|by simp)
   rw[q]at q';cases q') id
 refine⟨a,C,g,B,H',rfl,J.os,bare,J.base,J.hok,⟨λb o r e m=>F.keep b o (up b r) e<|aB8 m (cd3 J r),⟨t,x1⟩,λb o e m=>?_⟩,hE⟩;obtain⟨z,e2⟩:=F.sl b o e (xmm _ m);obtain⟨_,o',e',hd⟩:=J.stack.mem (xmm _ m);have e':g.get? b=Ob o':=e';rw[e]at e';cases e';obtain⟨z2,q⟩:=x2 b _ e2 hd;exact⟨z2,q⟩
end
noncomputable abbrev veB:List eP:=[.type "ValueError", .type "Exception", .type "BaseException", .type "object"]
noncomputable def n5(K:aa)(x:Str):Bool:=match clA K x with
 | some C=>bM K C veB "ValueError.__new__"
 | none=>false
noncomputable abbrev RD:=Rho->Option (Str×Rho)
noncomputable def EC(C:eR)(H1:Hp):XK:=λcls _ H'=>cls=.ref C/\B8 H1 H'
noncomputable def Ou(X:Cx)(m:Bool)(pins:List (eR×Obj))(ρ1:Rho)(C:eR)(H0 Hf0:Hp)(e:eP)(s':eQ):Prop:=∃σ1 H1 Hf1 s1,Inv X pins σ1 H1 s1/\At X.K H0 Hf0 ρ1 σ1 H1 Hf1 /\
 ((m=true/\∃h' a vs,s'={ s1 with heap:=h' }/\e=.ref a/\Heap.MadeExcOf s1.heap h' a (.ref C) vs)\/CX1 X.prog X.w X.stack H1 s1 (EC C H1) e s')
noncomputable def Lo(X:Cx)(C:eR)(H0:Hp)(e:eP)(s':eQ):Prop:=eh (ez X.prog X.w) X.A (leaving X.env e) (λ_ s''=>CX1 X.prog X.w X.outer X.H₀ X.s₀ (EC C H0) e s'') (λe' s''=>CX1 X.prog X.w X.outer X.H₀ X.s₀ (EC C H0) e' s'') s'
noncomputable def Ot(X:Cx)(m:Bool)(pins:List (eR×Obj))(ρ1:Rho)(C:eR)(H0 Hf0:Hp)(e:eP)(s':eQ):Prop:=Ou X m pins ρ1 C H0 Hf0 e s'\/(m=true/\Lo X C H0 e s')
noncomputable def JR(X:Cx)(m:Bool)(st:Stmt)(r:RD):Prop:=∀ρ x ρ1 C,r ρ=Ob (x,ρ1)->clA X.K x=Ob C->∀H0 Hf0 pins s σ H Hf,Inv X pins σ H s->At X.K H0 Hf0 ρ σ H Hf ->
 eh (ez X.prog X.w) X.A (exec st X.env) (λ_ _=>False) (Ot X m pins ρ1 C H0 Hf0) s
noncomputable def JRs(X:Cx)(m:Bool)(sts:List Stmt)(r:RD):Prop:=∀ρ x ρ1 C,r ρ=Ob (x,ρ1)->clA X.K x=Ob C->∀H0 Hf0 pins s σ H Hf,Inv X pins σ H s->At X.K H0 Hf0 ρ σ H Hf ->
 eh (ez X.prog X.w) X.A (execs sts X.env) (λ_ _=>False) (Ot X m pins ρ1 C H0 Hf0) s
noncomputable def PX(X:Cx)(m:Bool)(e:Expr)(r:RD):Prop:=∀ρ x ρ1 C,r ρ=Ob (x,ρ1)->clA X.K x=Ob C->∀H0 Hf0 pins s σ H Hf,Inv X pins σ H s->At X.K H0 Hf0 ρ σ H Hf ->
 eh (ez X.prog X.w) X.A (eval e X.env) (λ_ _=>False) (Ot X m pins ρ1 C H0 Hf0) s
def noX{α:Type}{t:Sem α}{Q Q':α->eQ->Prop}{M:Model}{A:dP}{E E':eP->eQ->Prop}{s:eQ}(hx:∀e s,E e s->False)(h:eh M A t Q E s)(hQ:∀a s,Q a s->Q' a s):eh M A t Q' E' s:=dE h hQ λe s z=>(hx e s z).elim
section
variable {X:Cx}{m:Bool}(hx:∀e s,X.xe e s->False)
include hx
noncomputable def aG4(x:Str)(f:DE):RD:=λρ=>(f ρ).map λ_=>(x,ρ)
def bD8{x:Str}{e:Expr}{f:DE}{np cpos pos:Pos}(hq:n5 X.K x=true)(hg:Gl X x)(hm:∀C,clA X.K x=Ob C->X.mg x=Ob (.ref C))(hc:X.calm=true)(he:JE X e f)(hd:(x==("__debug__" : Str))=false)
  (hs:dI [e] X.env=[(false,eval e X.env)]):JR X true (.Raise (Ob<|.Call (.Name x np) [e] [] cpos) Oa pos) (aG4 x f):=by
 intro ρ y ρ1 C q hC H0 Hf0 pins s σ H Hf I at_;obtain⟨d,q1,q2⟩:=xmo q;cases q2;have hq:bM X.K C veB "ValueError.__new__" = true:=by unfold n5 at hq;rw[hC]at hq;exact hq
 obtain⟨nm,qn,N,bs,bm,hd',sn,sub,ab,col,dd,k0,k1,k2,k3,k5,mN,g1,g2,g3,g4⟩:=ax3 I.mod.kin hq;refine wpAny_Raise_call_subT (C:=C) (bm:=bm) (nm:=nm) (q:=qn) (N:=N) (bs:=bs) (hdct:=hd') (sn:=sn) (sub:=sub) (ab:=ab) (col:=col) (dd:=dd) (k0:=k0) (k1:=k1) (k2:=k2) (k3:=k3) (k5:=k5) F.excBase_ValueError (g4.hasType<|by decide) (I.ok.hd hc) (by rw[hs];rfl) g3 ?_;refine c7 I hg (hm C hC) ⟨rfl,?_⟩ hd;have hA:=(aI3 he aX0 (by rw[hs];rfl)).run ρ [d] (by simp only[A0,A3,q1,cK,cN]) cpos pins s σ H (λvs H'=>(∃Hf',At X.K H0 Hf0 ρ σ H' Hf')/\vs.length=1) I ⟨H0,Hf,at_.gr.sub,at_.sl,λvs H' Hf' gr rs=>⟨⟨Hf',at_.grow gr⟩,rs.length⟩⟩;rw[hs]at hA ⊢;refine Calls.evalArgs_plain (noX hx hA λus s2 ⟨vs,H2,I2,r2,⟨Hf2,a2⟩,l1⟩=>?_);have ln:us.length=1:=by rw[← r2.length];exact l1
 exact⟨rfl,by show us.length<=_;rw[ln];decide,I2.bk _ _ g1,g2.keeps I2.bk,g4.keeps I2.bk,λh' a hm'=>.inl ⟨σ,H2,Hf2,s2,I2,a2,.inl ⟨rfl,h',a,us,rfl,rfl,hm'⟩⟩⟩
noncomputable def rNo:RD:=λ_=>Oa
omit hx in
def ab1{st:Stmt}:JR X m st rNo:=λρ x ρ1 C q=>by cases q
omit hx in
def ct8:JRs X m sts rNo:=λρ x ρ1 C q=>by cases q
noncomputable def rIf(t:Rho->Option Bool)(a b:RD):RD:=λρ=>(t ρ).bind λc=>if c=true then a ρ else b ρ
def cH1{c:Expr}{a b:List Stmt}{t:Rho->Option Bool}{f g:RD}{pos:Pos}(hc:JT X c t)(ha:JRs X m a f)(hb:JRs X m b g):JR X m (.If c a b pos) (rIf t f g):=by
 intro ρ x ρ1 C q hC H0 Hf0 pins s σ H Hf I at_;obtain⟨d,q1,q2⟩:=xbm q;refine wpAny_If (noX hx (hc ρ d q1 pins s σ H (λd' H'=>d'=d/\∃Hf',Grow H Hf H' Hf') I ⟨H0,Hf,at_.gr.sub,at_.sl,λH' Hf' gr=>⟨rfl,Hf',gr⟩⟩) λd' s1 ⟨H1,I1,e,Hf1,gr⟩=>?_);subst e;cases d' with
 | true=>exact ha ρ x ρ1 C q2 hC H0 Hf0 pins s1 σ H1 Hf1 I1<|at_.grow gr
 | false=>exact hb ρ x ρ1 C q2 hC H0 Hf0 pins s1 σ H1 Hf1 I1<|at_.grow gr
noncomputable def aG3(r:RD)(f:DS)(r2:RD):RD:=λρ=>match r ρ with
 | some x=>Ob x
 | none=>match f ρ with
  | some (.nx ρ')=>r2 ρ'
  | _=>Oa
def bD7{st:Stmt}{sts:List Stmt}{r r2:RD}{f:DS}(h1:JR X m st r)(h2:JS X st f)(h3:JRs X m sts r2):JRs X m (st::sts) (aG3 r f r2):=by
 intro ρ x ρ1 C q hC H0 Hf0 pins s σ H Hf I at_;unfold aG3 at q;split at q
 .rename_i y e;cases q;exact wpAny_execs_cons<|thn (h1 ρ x ρ1 C e hC H0 Hf0 pins s σ H Hf I at_) λ_ _ z=>z.elim
 .split at q
  .rename_i ρ' e;refine wpAny_execs_cons (noX hx (h2 ρ _ e H0 Hf0 pins s σ H { nx:=λσ' H'=>∃Hf',At X.K H0 Hf0 ρ' σ' H' Hf',rt:=λ_ _=>False } I ⟨Hf,at_,λσ' H' Hf' a _=>⟨Hf',a⟩⟩) λfl s1 z=>?_);cases fl with
   | next =>
    obtain⟨σ1,H1,I1,Hf1,a1⟩:=z;exact h3 ρ' x ρ1 C q hC H0 Hf0 pins s1 σ1 H1 Hf1 I1 a1
   | ret v=>obtain⟨_,_,_,_,_,z⟩:=z;exact z.elim
   | brk=>obtain⟨_,_,_,z⟩:=z;exact z.elim
   | cont=>obtain⟨_,_,_,z⟩:=z;exact z.elim
  .cases q
omit hx in
def bX5{st:Stmt}{r:RD}(h1:JR X m st r):JRs X m [st] r:=λρ x ρ1 C q hC H0 Hf0 pins s σ H Hf I at_ =>wpAny_execs_cons<|thn (h1 ρ x ρ1 C q hC H0 Hf0 pins s σ H Hf I at_) λ_ _ z=>z.elim
noncomputable def spR(K:aa)(n:Nat)(R:List D->Option Str):Sp:=λvs H _ E=>vs.length=n/\∃Hf ds x C,B8 Hf H/\Reps K Hf ds vs/\R ds=Ob x/\clA K x=Ob C/\∀H',B8 H H'->E (.ref C) Oa H'
noncomputable def be3(R:List D->Option Str)(g:Rho->Option (List D)):RD:=λρ=>(g ρ).bind λds=>(R ds).map λx=>(x,ρ)
def bS2{k:Nat}{f:eR}{fd:dQ}{ps:List Str}{n:Nat}{R:List D->Option Str}{x:Str}{e:Expr}{es:List Expr}{g:Rho->Option (List D)}{p pos:Pos}(Fk:FnOk X.prog X.w X.K X.mg X.base (CX1 X.prog X.w) k f fd ps (spR X.K n R))(hr:Room k X.A)(hg:Gl X x)(hm:X.mg x=Ob (.ref f))(hk:aG X.K (.ref f)=true)(hb:M3 X.K fd ps [])
  (ha:JA X (e::es) g) (hn:(e::es).length=n) (hdb:(x==("__debug__" : Str))=false) (he:dI (e::es) X.env=(false,eval e X.env)::dI es X.env) (hpl:(backTo pos<|dI es X.env).any (·.1)=false) :
  PX X m (.Call (.Name x p) (e::es) [] pos) (be3 R g):=by
 intro ρ y ρ1 C q hC H0 Hf0 pins s σ H Hf I at_;obtain⟨ds,h1,h2⟩:=xbm q;obtain⟨y',h4,h3⟩:=xmo h2;cases h3;refine wpAny_Call_Name_kw (c7 I hg hm ?_ hdb);refine PySem.W.callWith_K (h₀:=X.base) I.ok.mod.kin hk (noX hx (ha.run ρ ds h1 pos pins s σ H (λvs H'=>∃Hf',At X.K H0 Hf0 ρ σ H' Hf'/\Reps X.K Hf' ds vs) I ⟨H0,Hf,at_.gr.sub,at_.sl,λvs H1 Hf1 g1 r1=>⟨Hf1,at_.grow g1,r1⟩⟩) λus s1 ⟨vs,H1,I1,r,Hf1,a1,rp⟩=>⟨I1.kIn,?_⟩) he hpl;have hl:vs.length=n:=by rw[rp.length,ha.len ρ ds h1,hn]
 have sp:spR X.K n R vs H1 (λ_ _=>False) (EC C H1):=⟨hl,Hf1,ds,y,C,a1.gr.sub,rp,h4,hC,λH' sm=>⟨rfl,sm⟩⟩;have hl2:us.length=ps.length:=by rw[← r.length];exact Fk.len vs H1 (λ_ _=>False) (EC C H1) sp
 have bd:BindsTo s1 fd ⟨us,[]⟩ (ps.zip us):=by
  have:=hb s1 us I1.kIn (by rw[aA];exact hl2)
  rwa [aA]at this
 refine wpAny_call (codeAny_mono (Fk.run X.A X.stack s1 H1 ⟨us,[]⟩ us vs (λ_ _=>False) (EC C H1) hr I1.env0 bd r sp) λrs s' hq=>?_);cases rs with
 | error e=>exact .inl ⟨σ,H1,Hf1,s1,I1,a1,.inr hq⟩
 | ok fl =>
  cases fl with
  | ret u=>obtain⟨_,_,_,_,_,_,_,z⟩:=hq;exact z.elim
  | next=>exact False.elim hq
  | brk=>exact False.elim hq
  | cont=>exact False.elim hq
omit hx in
def bX6(h:PX X m e r)(hs:swapsWith e Oa pos.line X.env=pure false):JR X m (.Expr e pos) r:=λρ x ρ1 C q hC H0 Hf0 pins s σ H Hf I at_ =>wpAny_Expr_any (thn (h ρ x ρ1 C q hC H0 Hf0 pins s σ H Hf I at_) λ_ _ z=>z.elim) I.quiet hs
omit hx in
def cu0(h:PX X m e r):JR X m (.Return (Ob e) pos) r:=λρ x ρ1 C q hC H0 Hf0 pins s σ H Hf I at_ =>wpAny_Return_some<|thn (h ρ x ρ1 C q hC H0 Hf0 pins s σ H Hf I at_) λ_ _ z=>z.elim
omit hx in
def ct9(h:PX X m e r)(hs:swapsWith e (Ob<|.Name x pos') pos.line X.env=pure false):JR X m (.Assign [.Name x pos'] e pos) r:=λρ y ρ1 C q hC H0 Hf0 pins s σ H Hf I at_ =>wpAny_Assign_Name (thn (h ρ y ρ1 C q hC H0 Hf0 pins s σ H Hf I at_) λ_ _ z=>z.elim) hs
end
def CX1.mono(h:CX1 P w outer H s E e s')(m:∀cls H',E cls Oa H'->E' cls Oa H'):CX1 P w outer H s E' e s':=by
 obtain⟨a,C,g,B,H',q1,q2,q3,q4,q5,q6,q7⟩:=h;exact⟨a,C,g,B,H',q1,q2,q3,q4,q5,q6,m _ _ q7⟩
noncomputable def aU4(r:RD)(n:Nat):List D->Option Str:=λds=>(r<|Q5 n ds).map (·.1)
def bH6{P:dO}{w:World}{K:aa}{mg:Str->Option eP}{base:Heap}{x qual:Str}{st:Stmt}{f:eR}{fd:dQ}{N ps:List Str}{k:Nat}{r:RD}(F:Fun K x qual st f fd)(S:FnScope N ps (B9 st))
  (hb:∀(cdv:eP) (A:dP) (outer:List Env) (s:eQ) (H:Hp) (E:XK),Room k (A.deeper<|envOfC qual (B9 st) s.heap.objs.size f cdv)->JRs (cx1 P w K mg base N qual (B9 st) f cdv A outer s H E).nox true (G0 st) r) :
  FnOk P w K mg base (CX1 P w) (k+1) f fd ps (spR K ps.length<|aU4 r N.length):=by
 obtain⟨oc,od,kV,doc,pm,an,cdv,ct,osl,rfl,lk,hcd⟩:=F.ex;refine ax0 lk hcd S (λvs H Q E h=>h.1) λA outer s H vs Q E hr hsp=>?_
 obtain⟨hlen,Hf,ds,y,C,ss,rp,e,hC,hE⟩:=hsp;obtain⟨⟨y',ρ1⟩,e1,e2⟩:=xmo e;cases e2;refine⟨λ_ σ H'=>σ=L2.start N vs/\H'=H,λpins s1 σ H1 D I z=>?_,rfl,rfl⟩;obtain⟨rfl,rfl⟩:=z;refine dE (hb cdv A outer s H1 E hr (Q5 N.length ds) y' ρ1 C e1 hC H1 Hf pins s1 _ H1 Hf (I.wish _) ⟨Grow.refl ss,n8 rp⟩) (λ_ _ z=>z.elim) λex s' ho=>?_
 rcases ho with ho|⟨_,lo⟩
 case inr =>exact dE lo (λ_ s'' z=>CX1.mono z λcls H' q=>by obtain⟨rfl,sm⟩:=q;exact hE H' sm) λe' s'' z=>CX1.mono z λcls H' q=>by obtain⟨rfl,sm⟩:=q;exact hE H' sm
 obtain⟨σ1,H2,Hf2,s2,I2,a2,o⟩:=ho;have I2:=I2.unwish;rcases o with⟨_,h',a,vs',rfl,rfl,hm⟩|hc
 .exact aw6 I2 hm (hE H2 a2.gr.big)
 .refine aG9 I2 ?_;obtain⟨a,C',g,B,H',q1,q2,q3,q4,q5,q6,q7,q8⟩:=hc;cases q7;exact⟨a,C,g,B,H',q1,q2,q3,q4,q5,q6,hE H' (a2.gr.big.trans q8)⟩
section
variable {M:Model}{A:Around}{E:Value->Shared->Prop}{h:Heap}{g:Array GenState}{d:Drawn}{t:Nat}{os:OsState}
variable {nm qn nm2 qn2:Str}{C N D N2:Addr}{bs bm bs2 bm2:List Value}{hd hd2:Bool}{sn sn2:List Str}{sub sub2:List Value}{ab ab2:Bool}{col col2:Option Bool}{dd dd2:Option Addr}{k0 k1 k2 k3 k5 j0 j1 j2 j3 j5:Option Value}{nid nid2:String}
def cP9(hC:h.get? C=Ob (excClassObj nm qn C N bs bm hd sn sub ab col dd k0 k1 k2 k3 k5 nid))(hD:h.get? D=Ob (excClassObj nm2 qn2 D N2 bs2 bm2 hd2 sn2 sub2 ab2 col2 dd2 j0 j1 j2 j3 j5 nid2))
  (he:h.get? e=Ob oe) (hcls:oe.cls=.ref C) (hb:bm2.contains (.type "BaseException")=true) (hq:Q ((eK C::bm).contains<|.ref D) ⟨h,g,d,t,os⟩):eh M A (excMatches (.ref e)<|.ref D) Q E ⟨h,g,d,t,os⟩:=by
 have cB:(eK D::bm2).contains (.type "BaseException")=true:=by rw[List.contains_cons,hb,Bool.or_true]
 have f:=tc_notTuple;generalize hb:(eK C::bm).contains (.ref D)=b at hq;unfold excMatches
 repeat (first|(with_reducible refine wpAny_loadPart_at he ?_;rw[hcls])|with_reducible refine wpAny_loadPart_at hD ?_|(with_reducible refine wpAny_isSubtype_exc hD ?_;rw[cB])|(with_reducible refine wpAny_isSubtype_exc hC ?_;rw[hb])|wp_step)
 cases b<;>(wp_walk;exact hq)
end
noncomputable abbrev Cx.held(X:Cx)(e:eP):Cx:={ X with A:=X.A.mark (Ob e),calm:=false }
section
variable {X:Cx}{pins:List (Addr×Obj)}{σ:L2.St}{H:Hp}{s:Shared}
theorem Inv.held(I:Inv X pins σ H s)(e:eP):Inv (Cx.held X e) pins σ H s :=
 ⟨⟨I.ok.mod,I.ok.kind,I.ok.glob,I.ok.blt,I.ok.above,I.ok.inj,I.ok.has,I.ok.cab,(λz=>by cases z),I.ok.frames,I.ok.stk,I.ok.exf,I.ok.bs,I.ok.bsz,I.ok.noex,I.ok.exfs,I.ok.funs,I.ok.frf⟩,I.os,I.bare,I.base,I.loc,I.cell,I.free,I.freeC,I.pin,I.hok,I.len⟩
def Inv.unheld(I:Inv (Cx.held X e) pins σ H s)(ok:X.Ok):Inv X pins σ H s:=⟨ok,I.os,I.bare,I.base,I.loc,I.cell,I.free,I.freeC,I.pin,I.hok,I.len⟩
def Inv.wipe(I:Inv X pins σ H s)(hn:h'.Ns X.env.locals m')(hs:Heap.SameBut X.env.locals s.heap h'):Inv X pins (aj σ.length Oa) H { s with heap:=h',toks:=tk }:=by
 have ne0:∀b o,X.s₀.heap.get? b=Ob o->b≠X.env.locals:=λb o e z=>by
  have:=eB e;rw[z]at this;exact absurd (aE this I.ok.above)<|bq _
 have eq:∀b,b≠X.env.locals->h'.get? b=s.heap.get? b:=λb hb=>hs.2 b hb
 refine⟨I.ok,I.os,I.bare,⟨λb o e n hb hx=>?_,λb o e n hb hx=>?_,I.base.free,λb o e hx=>?_,I.base.tups,I.base.frzs,I.base.tbls⟩,⟨m',hn,λi x v _ e _=>?_⟩,λx c e=>?_,I.free,I.freeC,λp hp=>?_,λa o e=>?_,by rw[bw];exact I.len⟩
 .show h'.get? b=_;rw[eq b (ne0 b o e)];exact I.base.keep b o e n hb hx
 .obtain⟨sl,q⟩:=I.base.slot b o e n hb hx;exact⟨sl,by show h'.get? b=_;rw[eq b (ne0 b o e)];exact q⟩
 .obtain⟨o',q⟩:=I.base.there b o e hx;exact⟨o',by show h'.get? b=_;rw[eq b (ne0 b o e)];exact q⟩
 .rw[be]at e;split at e<;>cases e
 .obtain⟨v,o,q1,q2⟩:=I.cell x c e;exact⟨v,o,by show h'.get? c=_;rw[eq c (I.cne x c e)];exact q1,q2⟩
 .obtain⟨q1,q2,q3,q4,q5⟩:=I.pin p hp;exact⟨by show h'.get? p.1=_;rw[eq p.1 q3];exact q1,q2,q3,q4,q5⟩
 .refine(I.hok a o e).stay (λb u hb q=>?_) (λ_ q=>q) λ_ _ q=>q
  show h'.get? b=_;rw[eq b λz=>?_]
  .exact q
  .have f:=I.free;rcases hb with rfl|hb
   .rw[z,f]at e;cases e
   .rw[z,f]at hb;cases hb
end
def V0.is(x:V0 P w H h a o):∃u,h.get? a=Ob u:=by
 cases o with
 | lst xs=>obtain⟨_,_,_,_,e⟩:=x;exact⟨_,e⟩
 | tup xs=>obtain⟨_,_,_,ob,e,_⟩:=x;exact⟨_,e⟩
 | dK kvs=>obtain⟨_,_,_,_,ob,_,_,e,_⟩:=x;exact⟨_,e⟩
 | dT kvs=>obtain⟨_,_,_,_,ob,_,_,e,_⟩:=x;exact⟨_,e⟩
 | set S n=>obtain⟨ob,_,_,_,e,_⟩:=x;exact⟨_,e⟩
 | ins C dx fs=>obtain⟨_,_,_,e,_⟩:=x;exact⟨_,e⟩
 | own y=>exact x
 | xd fs=>obtain⟨_,⟨ob,_,_,e,_⟩,_⟩:=x;exact⟨_,e⟩
 | rng lo hi=>obtain⟨_,_,_,e⟩:=x;exact⟨_,e⟩
 | frz ob u=>obtain⟨e,_⟩:=x;exact⟨_,e⟩
 | tbl ps=>exact⟨_,x⟩
 | met f y=>exact⟨_,x⟩
 | ext φ=>obtain⟨_,e,_⟩:=x;exact e
section
variable {X:Cx}{pins:List (Addr×Obj)}{σ:L2.St}{H:Hp}{s:Shared}{a:Addr}{oe:Obj}
noncomputable abbrev fz(oe:Obj)(a:eR):HO:=.frz oe<|.own a
def Inv.track(I:Inv X pins σ H s)(ha:H a=Oa)(e:s.heap.get? a=Ob oe)(n0:X.s₀.heap.get? a=Oa)(np:∀p∈X.pn++pins,p.1≠a)(nl:X.env.locals≠a)(nc:∀x c,X.env.cells.lookup x=Ob c->c≠a):Inv X pins σ (upd H a<|fz oe a) s:=by
 have nb:∀b o,X.s₀.heap.get? b=Ob o->b≠a:=λb o q z=>by rw[z,n0]at q;cases q
 have up:∀b o,H b=Ob o->upd H a (fz oe a) b=Ob o:=λb o q=>by rw[B2 (λz=>by rw[z,ha]at q;cases q)];exact q
 refine⟨I.ok,I.os,I.bare,⟨I.base.keep,I.base.slot,λb o q n hx=>?_,I.base.there,λb xs q=>up b _<|I.base.tups b xs q,λb o u q=>up b _<|I.base.frzs b o u q,λb ps q=>?_⟩,I.loc,I.cell,?_,λx c q=>?_,λp hp=>?_,λb o q=>?_,I.len⟩
 .rw[B2 (nb b o q)];exact I.base.free b o q n hx
 .obtain⟨more,z⟩:=I.base.tbls b ps q;exact⟨more,up b _ z⟩
 .rw[B2 nl];exact I.free
 .rw[B2 (nc x c q)];exact I.freeC x c q
 .obtain⟨q1,q2,q3⟩:=I.pin p hp;exact⟨q1,by rw[B2 (np p hp)];exact q2,q3⟩
 .by_cases hb:b=a
  .subst hb;rw[B3]at q;cases q;exact⟨e,oe,e⟩
  .rw[B2 hb]at q;exact(I.hok b o q).stay (λ_ _ _ z=>z) (λc z=>up c _ z) λc xs z=>up c _ z
def aX7(sm:B8 H1 H')(sb:B8 Hf1 H1)(ha:H' a=Oa):Grow H1 Hf1 (upd H' a<|fz oe a) (upd Hf1 a<|fz oe a):=by
 have h1:H1 a=Oa:=sm.free ha;have h2:Hf1 a=Oa:=sb.free h1;refine⟨λb o q=>?_,λb o q=>?_,λb o q=>?_,λb q=>?_⟩
 .rw[B2 (C2 q h1)];exact sm b o q
 .by_cases hb:b=a
  .subst hb;rw[B3]at q ⊢;exact q
  .rw[B2 hb]at q ⊢;exact sm b o<|sb b o q
 .rw[B2 (C2 q h2)];exact q
 .by_cases hb:b=a
  .subst hb;exact .inr h1
  .rw[B2 hb]at q;exact .inl q
end
noncomputable def bv2(K:aa)(x c:Str):Bool:=match clA K x,clA K c with
 | some C,Ob D=>(match K.lookup C with
  | some ⟨_,_,.cls cd,_⟩=>cd.mro.contains<|.ref D
  | _=>false)
 | _,_=>false
def Slots.setExc{K:aa}{H0 H Hf:Hp}{ρ:Rho}{σ:L2.St}(s:Slots K H0 ρ σ H Hf){i:Nat}{x:Str}{v:V}(hb:SB K H0 H Hf (.exc x) v):Slots K H0 (ρ.set i<|Ob (.exc x)) (σ.set i<|Ob v) H Hf:=by
 have own:∀(j:Nat) (ds:List D),(ρ.set i<|Ob (B.exc x))[j]? = Ob (Ob<|.own ds)->i≠j/\ρ[j]? = Ob (Ob<|.own ds):=λj ds h=>by
  rw[bv]at h;split at h
  .split at h<;>cases h
  .rename_i n;exact⟨n,h⟩
 have gt:∀j,i≠j->(σ.set i<|Ob v)[j]? = σ[j]?:=λj n=>by rw[bv,if_neg n]
 refine⟨by rw[bY,bY];exact s.len,λj b h=>?_,λj k ds es c h1 h2 h3 h4=>?_⟩
 .by_cases q:i=j
  .subst q;rw[bv,if_pos rfl]at h;split at h
   .rename_i l;cases h;exact⟨v,by rw[bv,if_pos rfl,if_pos (by rw[← s.len];exact l)],hb⟩
   .cases h
  .rw[bv,if_neg q]at h;rw[gt j q];exact s.is j b h
 .obtain⟨n1,h1⟩:=own j _ h1;obtain⟨n2,h2⟩:=own k _ h2;rw[gt j n1]at h3;rw[gt k n2]at h4;exact s.apart j k ds es c h1 h2 h3 h4
section
variable {prog:Program}{w:World}{A:Around}{E:Value->Shared->Prop}{h:Heap}{g:Array GenState}{d:Drawn}{t:Nat}{os:OsState}{a C:Addr}{o:Obj}{K:PySem.W.Frag}
noncomputable def xcB(K:aa)(C:eR):Bool:=PySem.W.findIn K (.ref C) "__class__" == Ob (Ob<|.builtin "object.__class__")&&PySem.W.findIn K (.ref C) "__getattribute__" == Ob (Ob<|.builtin "BaseException.__getattribute__") &&
 PySem.W.findIn K (.ref C) "__getattr__" == Ob Oa&&PySem.W.mroIn K C (.type "object")==Ob true&&PySem.W.mroIn K C (.type "BaseException")==Ob true
def cg0(kin:K.In h)(hx:h.get? a=Ob o)(hc:o.cls=.ref C)(hm:PySem.W.mroIn K C (.type "object")=Ob true)(hq:R (.ok<|.ret (.ref C)) ⟨h,g,d,t,os⟩):
  codeAny (ez prog w) A (.call (.builtin "getset_descriptor.__get__") ⟨[.builtin "object.__class__", .ref a,.ref C],[]⟩) R ⟨h,g,d,t,os⟩:=by
 have hT5:(⟨h,g,d,t,os⟩:eQ).TypeIs (.builtin "object.__class__") "getset_descriptor" := F.typeOf_object_class;have L:PySem.W.Looks (ez prog w) h (isSubtype (.ref C)<|.type (".".intercalate ("object.__class__".cutAt '.').dropLast)) true:=by rw[F.owner_object_class];exact PySem.W.looks_mroIn kin hm
 refine codeAny_call_builtin F.slot_gs_get.plain F.entry_gs_get<|F.slot_gs_get.check _ _ _ _ _ _ _ _ hT5 (F.args_gs_get _ _ _) ?_
 repeat (any_goals (first|assumption|(with_reducible refine wpAny_loadPart_at hx ?_;rw[hc])|with_reducible refine L.at ?_|wp_step))
 refine⟨Code.quiet_builtin _ (by decide +kernel),codeAny_builtin F.entry_object_class ?_⟩
 repeat (any_goals (first|assumption|(with_reducible refine wpAny_loadPart_at hx ?_;rw[hc])|wp_step))
def bs5(kin:K.In h)(hx:h.get? a=Ob o)(hc:o.cls=.ref C)(hf:PySem.W.findIn K (.ref C) "__class__" = Ob (Ob<|.builtin "object.__class__"))(hm:PySem.W.mroIn K C (.type "object")=Ob true)(hq:Q (.done<|.ret (.ref C)) ⟨h,g,d,t,os⟩):
  eh (ez prog w) A (Builtin.«object.__getattribute__» ⟨[.ref a,.str "__class__" tk],[]⟩) Q E ⟨h,g,d,t,os⟩:=by
 have hT5:(⟨h,g,d,t,os⟩:eQ).TypeIs (.builtin "object.__class__") "getset_descriptor" := F.typeOf_object_class;have f5:=F.typeOf_object_class;have f6:=F.slot_gs_get.lookup;have f7:=F.slot_gs_set.lookup;have L:=PySem.W.looks_findIn (M:=ez prog w) kin hf
 repeat (any_goals (first|assumption|(with_reducible refine wpAny_loadPart_at hx ?_;rw[hc])|with_reducible refine L.at ?_|wp_step))
 refine cg0 kin hx hc hm ?_
 repeat (any_goals (first|assumption|wp_step))
def bs6(kin:K.In h)(hx:h.get? a=Ob o)(hc:o.cls=.ref C)(hm:PySem.W.mroIn K C (.type "BaseException")=Ob true)(hq:Q () ⟨h,g,d,t,os⟩):eh M A (checkBuiltinCall "BaseException.__getattribute__" ⟨[.ref a,nameV],[]⟩) Q E ⟨h,g,d,t,os⟩:=by
 have hk:builtinKind "BaseException.__getattribute__" = Ob .slot:=by decide +kernel
 have hsplit:splitId "BaseException.__getattribute__" = Ob ("BaseException", "__getattribute__"):=by decide +kernel
 have ha:=F.args_bexc_ga (.ref a) nameV;have L:=PySem.W.looks_mroIn (M:=M) kin hm;simp only[checkBuiltinCall,hk,hsplit];refine dB ?_;unfold isInstance
 repeat (first|(with_reducible refine wpAny_loadPart_at hx ?_;rw[hc])|with_reducible refine L.at ?_|wp_step)
 exact hq
def bN4(kin:K.In h)(hx:h.get? a=Ob o)(hc:o.cls=.ref C)(hb:xcB K C=true)(hq:R (.ok<|.ret (.ref C)) ⟨h,g,d,t,os⟩):
  codeAny (ez prog w) A (.call (.builtin "BaseException.__getattribute__") ⟨[.ref a,.str "__class__" tk],[]⟩) R ⟨h,g,d,t,os⟩:=by
 simp only[xcB,ae,beq_iff_eq]at hb;exact codeAny_call_builtin F.attr_ValueError.ga.plain F.entry_bexc_ga<|bs6 kin hx hc hb.2 (bs5 kin hx hc hb.1.1.1.1 hb.1.2 hq)
def cz9{tk:Tok}{fill expr:Bool}{Q:eP->eQ->Prop}(kin:K.In h)(hx:h.get? a=Ob o)(hc:o.cls=.ref C)(hb:xcB K C=true)(hq:Q (.ref C) ⟨h,g,d,t,os⟩):eh (ez prog w) A (getAttrBy (.ref a) (.str "__class__" tk) fill expr) Q E ⟨h,g,d,t,os⟩:=by
 have hb':=hb;simp only[xcB,ae,beq_iff_eq]at hb';have L1:=PySem.W.looks_findIn (M:=ez prog w) kin hb'.1.1.1.2;have L2:=PySem.W.looks_findIn (M:=ez prog w) kin hb'.1.1.2;have f3:=F.attr_ValueError.ga.bind (.ref a);have z0:(expr&&onTheHeap (Value.builtin "BaseException.__getattribute__"))=false:=by cases expr<;>rfl
 have z2:(Value.builtin "BaseException.__getattribute__" == Value.builtin "object.__getattribute__")=false:=by decide +kernel
 have z1:(onTheHeap (eK C)&&Value.builtin "BaseException.__getattribute__" == Value.builtin "object.__getattribute__")=false:=by rw[z2];rfl
 repeat (any_goals (first|assumption|(with_reducible refine wpAny_loadPart_at hx ?_;rw[hc])|with_reducible refine L1.at ?_|with_reducible refine L2.at ?_|wp_step))
 refine bN4 kin hx hc hb ?_
 repeat (any_goals (first|assumption|wp_step))
def bN5{Q:Option eP->eQ->Prop}(kin:K.In h)(hx:h.get? a=Ob o)(hc:o.cls=.ref C)(hb:xcB K C=true)(hq:Q (Ob<|.ref C) ⟨h,g,d,t+1,os⟩):eh (ez prog w) A (getAttr? (.ref a) "__class__") Q E ⟨h,g,d,t,os⟩:=by
 unfold getAttr? getAttrBy?
 repeat (any_goals (first|assumption|with_reducible apply cz9 kin hx hc hb|wp_step))
def bC8(hb:xcB K C=true)(hq:bM K C bb nid=true):PySem.W.KitX K (.ref a) (.ref C) (λh=>∃o,h.get? a=Ob o/\o.cls=.ref C) where
 ty:=λ_ _ _ ⟨o,h1,h2⟩=>h2 ▸ (PySem.W.Looks.ld h1).andThen .now
 it:=λ_ _ kin _=>by
  obtain⟨nm,qn,N,bs,bm,hd,sn,sub,ab,col,dd,k0,k1,k2,k3,k5,mN,g1,_⟩:=ax3 kin hq;intro A' Q' E' s' k q;unfold isType loadHead;exact dB<|wpAny_loadPart (k _ _ g1) (dD q)
 ne:=λh tp dd its n sl kin htp=>by
  obtain⟨nm,qn,N,bs,bm,hd,sn,sub,ab,col,dd',k0,k1,k2,k3,k5,mN,g1,_⟩:=ax3 kin hq;refine Bool.eq_false_iff.mpr λq=>?_
  have e:C=tp:=Value.ref.inj (beq_iff_eq.mp q);subst e;rw[g1]at htp;have z:=congrArg Obj.data (bc.inj htp);cases z
 ca:=λ{_ _ _ _ _ s} kin ⟨o,h1,h2⟩ k=>by
  obtain⟨h,g,d,t,os⟩:=s;exact bN5 kin h1 h2 hb k
end
section
variable {X:Cx}
noncomputable def aZ2(i:Nat)(tb:Str->Option Bool):DE:=λρ=>match ρ[i]? with
 | some (Ob (.exc x))=>(tb x).map eI
 | _=>Oa
noncomputable def am3(K:aa)(cv:eP)(tb:Str->Option Bool):Prop:=∀x b,tb x=Ob b->∃C,clA K x=Ob C/\xcB K C=true/\bM K C veB "ValueError.__new__" = true/\PySem.W.kitOne K (.ref C) cv=Ob b
def bL3(hv:L0 v cv)(hv':∀u,L0 v u->u=cv)(ok:am3 X.K cv tb):ag9 X (.builtin "isinstance") (λxs H Q=>∃x y b H0 Hf,xs=[y,v]/\B8 Hf H/\SB X.K H0 H Hf (.exc x) y/\tb x=Ob b/\Q (.bl b) H):=by
 intro pins s σ H xs us Q I r h;obtain⟨x,y,b,H0,Hf,rfl,sm,⟨a,o,C,rfl,e1,e2,e3⟩,hb,q⟩:=h;obtain⟨u,c,rfl,rx,rc⟩:=bb9 r;cases rx;obtain rfl:=hv' c rc;obtain⟨C',f1,f2,f3,f4⟩:=ok x b hb;rw[e2]at f1;cases f1;obtain⟨z,_⟩:=(show V0 X.prog X.w H s.heap a (.frz o<|.own a) from I.hok a _ (sm _ _ e1));exact PySem.W.kia_one (bC8 f2 f3) I.kIn ⟨o,z,e3⟩ f4 (λz=>nomatch z) λtk=>⟨.bl b,H,I.tok tk,rfl,q⟩
end
section
variable {X:Cx}
def bT8{y:Str}{D:eR}{pos:Pos}(hg:Gl X y)(hm:X.mg y=Ob (.ref D))(hd:(y==("__debug__" : Str))=false):PE X (.Name y pos) (tC<|.ref D):=λpins s σ H Q I h=>c7 I hg hm ⟨.ref D,H,I,rfl,h⟩ hd
def bF1(hg:Gl X "isinstance")(hm:X.mg "isinstance" = Oa)(hN:X.N[i]? = Ob n)(hv:Vis X.env.scope n)(hd:(n==("__debug__" : Str))=false)(hcd:(n==("__classdict__" : Str))=false)
  (hc:PE X (.Name y p2) (tC v)) (r1:L0 v cv) (r2:∀u,L0 v u->u=cv) (ok:am3 X.K cv tb)
  (he:dI [.Name n p1,.Name y p2] X.env=(false,eval (.Name n p1) X.env)::dI [.Name y p2] X.env:=by rfl) (he2:dI [.Name y p2] X.env=[(false,eval (.Name y p2) X.env)]:=by rfl) (hpl:(backTo pos<|dI [.Name y p2] X.env).any (·.1)=false:=by rfl) :
  JE X (.Call (.Name "isinstance" p) [.Name n p1,.Name y p2] [] pos) (aZ2 i tb):=λρ d q=>by
 unfold aZ2 at q;split at q
 case h_2=>cases q
 rename_i x e;obtain⟨b,hb,rfl⟩:=xmo q;refine B4 (v8 (bL3 r1 r2 ok) hg hm cy8 (K5 (V4 hN hv hd hcd) (K5 hc Q6 he2) he) (he:=he) (hpl:=hpl)) λσ H Q ⟨H0,Hf,s,sl,k⟩=>?_
 obtain⟨v0,h1,sb⟩:=sl.is i _ e;exact⟨v0,h1,x,v0,b,H0,Hf,rfl,s,sb,hb,k _ H Hf (Grow.refl s) rfl⟩
noncomputable def dRp(f:DE):DE:=λρ=>(f ρ).bind λd=>match d with
 | .str x=>if x.length<=1000/\x.cps.all (· < 1114112)=true then Ob (.str<|reprText x) else Oa
 | _=>Oa
def cH4(h:JE X e f):JE X (.FormattedValue e 114 Oa pos) (dRp f):=λρ d q=>by
 obtain⟨y,h1,h2⟩:=xbm q;cases y with
 | str x =>
  dsimp only at h2;split at h2
  case isFalse=>cases h2
  rename_i c;cases h2
  have ln:(reprText x).length<=dJ:=by
   refine aL (PySem.StrLaws.reprText_len x λz hz=>?_) ?_
   .have:=c.2;rw[← Array.all_toList,aQ]at this;have:=of_decide_eq_true (this z hz);omega
   .have:=c.1;exact aL (show 10*x.length+2<=10002 by omega) (by decide)
  intro pins s σ H Q I hw;obtain⟨H0,Hf,sm,sl,k⟩:=hw;refine wpAny_FormattedValue_repr (thn (h ρ _ h1 pins s σ H (λv H'=>v=.str x/\∃Hf',Grow H Hf H' Hf') I ⟨H0,Hf,sm,sl,λv H' Hf' g r=>⟨r,Hf',g⟩⟩) λv s1 ⟨v',H1,I1,r1,e1,Hf1,g1⟩=>?_);subst e1;obtain⟨t,rfl⟩:=(show ∃t,v=Value.str x t from r1);refine wpAny_pyReprObj_str ?_ ln;exact wpAny_formatField_str ⟨.str<|reprText x,H1,I1.tok _,⟨_,rfl⟩,k _ H1 Hf1 g1 rfl⟩ ⟨.str<|reprText x,H1,(I1.tok _).tok _,⟨_,rfl⟩,k _ H1 Hf1 g1 rfl⟩ ln
 | none=>cases h2
 | bool b=>cases h2
 | int i=>cases h2
 | tuple xs=>cases h2
 | list xs=>cases h2
 | dict xs=>cases h2
noncomputable def aZ4:Str->List DE->DE
 | acc,[]=>λ_=>Ob<|.str acc
 | acc,f::fs=>λρ=>(f ρ).bind λd=>match d with
  | .str y=>if(acc++y).length<=16777216 then aZ4 (acc++y) fs ρ else Oa
  | _=>Oa
inductive JEs (X:Cx):List Expr->List DE->Prop
 | nil:JEs X [] []
 | cons {e:Expr}{es:List Expr}{f:DE}{fs:List DE}:JE X e f->JEs X es fs->JEs X (e::es) (f::fs)
theorem ah4:∀(ps:List (Sem eP)) (a:Str) (Q Q':Str->eQ->Prop) (s:eQ),(∀o s,Q o s->Q' o s)->Joins (ez X.prog X.w) X.A X.xe ps a Q s->Joins (ez X.prog X.w) X.A X.xe ps a Q' s
 | [],_,_,_,_,hq,z=>hq _ _ z
 | _::ps,_,Q,Q',_,hq,z=>thn z λ_ s1 ⟨y,t,e,c,z⟩=>⟨y,t,e,c,ah4 ps _ Q Q' s1 hq z⟩
theorem bi0:∀(fs:List DE) (acc:Str) (ρ:Rho) (d:D),aZ4 acc fs ρ=Ob d->acc.length<=16777216->∃x:Str,d=.str x/\x.length<=16777216
 | [],acc,ρ,d,q,l=>by cases q;exact⟨acc,rfl,l⟩
 | f::fs,acc,ρ,d,q,l=>by
  obtain⟨y,h1,h2⟩:=xbm q;cases y<;>dsimp only at h2
  case str x =>
   split at h2
   .rename_i c;exact bi0 fs (acc++x) ρ d h2 c
   .cases h2
  all_goals cases h2
def cH2(h:JEs X es fs):∀(acc:Str) (ρ:Rho) (d:D),aZ4 acc fs ρ=Ob d->∀(pins:List (eR×Obj)) (s:eQ) (σ:L2.St) (H0 H Hf:Hp),Inv X pins σ H s->B8 Hf H->Slots X.K H0 ρ σ H Hf ->
  Joins (ez X.prog X.w) X.A X.xe (evalEach es X.env) acc (λout s1=>d=.str out/\∃H1 Hf1,Inv X pins σ H1 s1/\Grow H Hf H1 Hf1) s:=by
 induction h with
 | nil =>
  intro acc ρ d q pins s σ H0 H Hf I sm sl;cases q;exact⟨rfl,H,Hf,I,Grow.refl sm⟩
 | @cons e es f fs he hs ih =>
  intro acc ρ d q pins s σ H0 H Hf I sm sl;obtain⟨y,h1,h2⟩:=xbm q;cases y with
  | str x =>
   dsimp only at h2;split at h2
   case isFalse=>cases h2
   rename_i c;refine thn (he ρ _ h1 pins s σ H (λv H'=>v=.str x/\∃Hf',Grow H Hf H' Hf') I ⟨H0,Hf,sm,sl,λv H' Hf' g r=>⟨r,Hf',g⟩⟩) λv s1 ⟨v',H1,I1,r1,e1,Hf1,g1⟩=>?_
   subst e1;obtain⟨t,rfl⟩:=(show ∃t,v=Value.str x t from r1);refine⟨x,t,rfl,c,?_⟩;have z:=ih (acc++x) ρ d h2 pins s1 σ H0 H1 Hf1 I1 g1.sub (sl.grow g1);exact ah4 _ _ _ _ _ (λo s ⟨z1,H2,Hf2,I2,g2⟩=>⟨z1,H2,Hf2,I2,g1.trans g2⟩) z
  | none=>cases h2
  | bool b=>cases h2
  | int i=>cases h2
  | tuple xs=>cases h2
  | list xs=>cases h2
  | dict xs=>cases h2
def cH7(h:JEs X (ea::eb::es) fs):JE X (.JoinedStr (ea::eb::es) pos) (aZ4 eO fs):=λρ d q=>by
 intro pins s σ H Q I hw;obtain⟨H0,Hf,sm,sl,k⟩:=hw;obtain⟨x,rfl,lx⟩:=bi0 fs _ ρ d q (by decide);refine wpAny_JoinedStr (ah4 _ _ _ _ _ (λo s1 z=>?_)<|cH2 h eO ρ _ q pins s σ H0 H Hf I sm sl);obtain⟨e,H1,Hf1,I1,g1⟩:=z;cases e;exact⟨lx,.str x,H1,I1.tok _,⟨_,rfl⟩,k _ H1 Hf1 g1 rfl⟩
end
noncomputable def cz4(X:Cx):Prop:=∀pins ρ1 C H0 Hf0 e s',Ou X true pins ρ1 C H0 Hf0 e s'->Lo X C H0 e s'
section
variable {X:Cx}
def cq5{P:dO}{w:World}{K:aa}{mg:Str->Option eP}{base:Heap}{N:List Str}{qual:Str}{scope:Scope}{f:eR}{cd:eP}{A:dP}{outer:List Env}{s:eQ}{H:Hp}{E:XK}:cz4 (cx1 P w K mg base N qual scope f cd A outer s H E).nox:=by
 intro pins ρ1 C H0 Hf0 e s' h;obtain⟨σ1,H2,Hf2,s2,I2,a2,o⟩:=h;have I3:Inv (cx1 P w K mg base N qual scope f cd A outer s H<|EC C H0) pins σ1 H2 s2:=(I2.unwish).wish (cx1 P w K mg base N qual scope f cd A outer s H<|EC C H0).xe;rcases o with⟨_,h',a,vs',rfl,rfl,hm⟩|hc
 .exact aw6 I3 hm ⟨rfl,a2.gr.big⟩
 .exact aG9 I3 (CX1.mono hc λcls H' q=>⟨q.1,a2.gr.big.trans q.2⟩)
end
noncomputable def ck0(K:aa)(x c:Str):Bool:=match clA K x,clA K c with
 | some C,Ob D=>(match K.lookup C with
  | some ⟨_,_,.cls cd,_⟩=>!cd.mro.contains (.ref D)
  | _=>false)
 | _,_=>false
structure RoomQ (k:Nat) (A:dP):Prop where
 dp:A.depth+3*k+5 < recursionLimit
 un:A.units+16*k+200 < cLine
structure FnQ (P:dO) (w:World) (K:aa) (mg:Str->Option eP) (base:Heap) (k:Nat) (f:eR) (fd:dQ) (ps:List Str) (sp:Sp):Prop where
 len:∀vs H Q E,sp vs H Q E->vs.length=ps.length
 run:∀(A:dP) (outer:List Env) (s:eQ) (H:Hp) (args:Args) (us:List eP) (vs:List V) (Q:VK),RoomQ k A->Env0 P w K mg base A outer s H->BindsTo s fd args (ps.zip us)->D7 vs us->sp vs H Q E0->codeAny (ez P w) A (.call (.ref f) args) (CR CX0 outer P w H s Q E0) s
def FnQ.mono{P:dO}{w:World}{K:aa}{mg:Str->Option eP}{base:Heap}{j k:Nat}{f:eR}{fd:dQ}{ps:List Str}{sp:Sp}(F:FnQ P w K mg base j f fd ps sp)(h:j<=k):FnQ P w K mg base k f fd ps sp :=
 ⟨F.len,λA outer s H args us vs Q hr=>F.run A outer s H args us vs Q ⟨by have:=hr.dp;omega,by have:=hr.un;omega⟩⟩
noncomputable def spX(K:aa)(F:Str->Option D):Sp:=λvs H Q _=>∃Hf x v d,vs=[v]/\B8 Hf H/\SB K H H Hf (.exc x) v/\F x=Ob d/\∀u H' Hf',Grow H Hf H' Hf'->Rep K Hf' d u->Q u H'
end G
namespace G
def xg0{α:Type}{a:α}{l:List α}:(a::l)[0]? = Ob a:=rfl
def xg1{α:Type}{a:α}{i:Nat}{l:List α}:(a::l)[i+1]? = l[i]?:=rfl
def xw0{α:Type}{a b:α}{l:List α}:(a::l).set 0 b=b::l:=rfl
def xw1{α:Type}{a b:α}{i:Nat}{l:List α}:(a::l).set (i+1) b=a::l.set i b:=rfl
def xbs{α β:Type}{a:α}{f:α->Option β}:(Ob a).bind f=f a:=rfl
def xms{α β:Type}{a:α}{f:α->β}:(Ob a).map f=Ob (f a):=rfl
def xca{α:Type}{a:α}{l m:List α}:(a::l)++m=a::(l++m):=rfl
def xna{α:Type}{l:List α}:[]++l=l:=rfl
def xmc{α β:Type}{f:α->β}{a:α}{l:List α}:(a::l).map f=f a::l.map f:=rfl
def xmn{α β:Type}{f:α->β}:[].map f=[]:=rfl
def xnf:(!false)=true:=rfl
def xnt:(!true)=false:=rfl
def xft:(false=true)=False:=by simp
end G
local macro_rules
  | `(‹$x›) => `(some (G.B.val $x))
local macro_rules
  | `(⇑$x) => `(G.dC (PySem.PyData.int $x))
noncomputable section
namespace Sh
open PySem PySem.Spec PyProof.Rows L2 G
def ap2:DS:=(A7 (aa2 (tB2 neD (A1 1) ⇑0)<|A7 (B6 2<|A4 n6 (A1 0) (A1 1)) (A7 (B6 0<|A1 1)<|B6 1 (A1 2)))<|A8 (A1 0))
def U2:List D->Option D:=C6 ap2 3
def g7:DS:=(A7 (B6 2<|A2 U2 (A0 (A1 0)<|A0 (A1 1) A3))<|A8 (N7<|A0 (A4 ah7 (A1 0)<|A1 2) (A0 (A4 ah7 (A1 1)<|A1 2) A3)))
def W4:List D->Option D:=C6 g7 3
def h9:DS:=(A8<|A4 leI (A4 Y1 (dIx (A6 0) ⇑0)<|dIx (A6 1) ⇑1) (A4 Y1 (dIx (A6 1) ⇑0)<|dIx (A6 0) ⇑1))
def i5:List D->Option D:=C6 h9 2
def au7:DS:=(A8<|A2 W4 (A0 (A4 x5 (A4 Y1 (dIx (A6 0) ⇑0)<|dIx (A6 1) ⇑1)<|A4 Y1 (dIx (A6 1) ⇑0) (dIx (A6 0) ⇑1))<|A0 (A4 Y1 (dIx (A6 0) ⇑1)<|dIx (A6 1) ⇑1) A3))
def U3:List D->Option D:=C6 au7 2
def aa7:DS:=(A8<|A2 W4 (A0 (A4 as1 (A4 Y1 (dIx (A6 0) ⇑0)<|dIx (A6 1) ⇑1)<|A4 Y1 (dIx (A6 1) ⇑0) (dIx (A6 0) ⇑1))<|A0 (A4 Y1 (dIx (A6 0) ⇑1)<|dIx (A6 1) ⇑1) A3))
def T2:List D->Option D:=C6 aa7 2
def au6:DS:=(A8<|A2 W4 (A0 (A4 Y1 (dIx (A6 0) ⇑0)<|dIx (A6 1) ⇑0)<|A0 (A4 Y1 (dIx (A6 0) ⇑1)<|dIx (A6 1) ⇑1) A3))
def U1:List D->Option D:=C6 au6 2
def ae7:DS:=(A8<|A2 T2 (A0 (dC<|.tuple [(.int 1),(.int 1)])<|A0 (A1 0) A3))
def i6:List D->Option D:=C6 ae7 1
def X7:DS:=(A8<|aP8 (Q9<|A2 i5 (A0 (A1 0)<|A0 (dC<|.tuple [(.int 1),(.int 1)]) A3)) (A1 0) (dC<|.tuple [(.int 1),(.int 1)]))
def X9:List D->Option D:=C6 X7 1
def O4:DS:=(A7 (sIf (tB2 eqD (A1 0)<|dC (.str "plus")) (A8<|A2 X9 (A0 (A2 U3<|A0 (A1 1) (A0 (A1 2) A3)) A3)) K9)<|A7 (sIf (tB2 eqD (A1 0)<|dC (.str "atop")) (A8<|A1 2) K9) (A7 (sIf (tB2 eqD (A1 0)<|dC (.str "cut")) (A8<|A2 U1 (A0 (A1 2)<|A0 (A2 i6<|A0 (A1 1) A3) A3)) K9)<|A8 (A2 T2<|A0 (A2 U3<|A0 (A1 1) (A0 (A1 2) A3)) (A0 (A2 U1<|A0 (A1 1) (A0 (A1 2) A3)) A3))))
def Z2:List D->Option D:=C6 O4 3
def N4:DS:=(A7 (sIf (tB2 eqD (A1 0)<|dC (.str "plus")) (A8<|A2 X9 (A0 (A2 U3<|A0 (A1 3) (A0 (A1 4) A3)) A3)) K9)<|A7 (sIf (tB2 eqD (A1 0)<|dC (.str "screen")) (A8<|A2 T2 (A0 (A2 U3<|A0 (A1 3) (A0 (A1 4) A3))<|A0 (A2 U1<|A0 (A1 3) (A0 (A1 4) A3)) A3)) K9) (A7 (B6 5<|A2 U1 (A0 (A1 4)<|A0 (A2 i6<|A0 (A1 1) A3) A3))<|A7 (sIf (tB2 eqD (A1 0)<|dC (.str "over")) (A8<|A2 U3 (A0 (A1 3)<|A0 (A1 5) A3)) K9) (A7 (sIf (tB2 eqD (A1 0)<|dC (.str "multiply")) (A8<|A2 U3 (A0 (A2 U3<|A0 (A2 U1<|A0 (A1 3) (A0 (A1 4) A3)) (A0 (A2 U1<|A0 (A1 3) (A0 (A2 i6<|A0 (A1 2) A3) A3)) A3))<|A0 (A1 5) A3)) K9)<|A7 (sIf (tB2 eqD (A1 0)<|dC (.str "atop")) (A8<|A2 U3 (A0 (A2 U1<|A0 (A1 3) (A0 (A1 2) A3))<|A0 (A1 5) A3)) K9) (A8<|A1 5))))
def X2:List D->Option D:=C6 N4 6
def aE7:DS:=(A7 (B6 3<|dIx (A6 1) ⇑0)<|A7 (B6 4<|dIx (A6 2) ⇑0) (A7 (ac4 5<|K1 2 [0,3,4] (aO2 (qE<|aA2 (A1 1) (O5 ⇑1) U7)<|qE (aA2 (A1 2) (O5 ⇑1) U7)) (S1 2<|C9 (C3 0) (C9 (C3 1) S7)) M1 (A2 X2<|A0 (A1 2) (A0 (A1 3)<|A0 (A1 4) (A0 (A1 0)<|A0 (A1 1) A3))))<|A8 (N7<|A0 (A2 Z2<|A0 (A1 0) (A0 (A1 3)<|A0 (A1 4) A3)) (A0 (dIx (A6 5) ⇑0)<|A0 (dIx (A6 5) ⇑1) (A0 (dIx (A6 5) ⇑2) A3)))))
def aa0:List D->Option D:=C6 aE7 6
def ay8:DS:=(A7 (sIf (tB2 eqD (A1 0)<|ab8 A3) (A8<|A4 Y1 ⇑7 (A1 1)) K9)<|A8 (A4 x5 (dIx (A6 0)<|A4 n6 (A1 1) (Z0<|A6 0))<|A4 Y1 ⇑6553 (A4 ah7 (A1 1)<|Z0 (A6 0))))
def az0:List D->Option D:=C6 ay8 2
def aE5:DS:=(A7 (B6 3<|A4 n6 (A4 x5 (A4 Y1 (A4 n6 (A2 az0<|A0 (A1 0) (A0 (A1 1) A3)) ⇑2147483563) ⇑69069)<|A4 Y1 ⇑104723 (A4 x5 (A1 1) ⇑1)) ⇑2147483563)<|A7 (B6 3<|A4 n6 (A4 x5 (A4 Y1 (A1 3)<|A1 3)<|A4 ah7 (A1 3) ⇑3) ⇑2147483399) (A8<|A4 n6 (A4 ah7 (A4 n6 (A4 x5 (A4 Y1 (A1 3)<|A1 3)<|A4 ah7 (A1 3) ⇑7) ⇑2147483647) ⇑11) (A1 2)))
def A5:List D->Option D:=C6 aE5 4
def am5:DS:=(A7 (B6 2<|A1 0)<|A7 (B6 3<|A1 1) (A7 (aa2 (tB2 gtI (A1 2) ⇑0)<|bw9 2 3 (A0 (A4 n6 (A1 3)<|A1 2)<|A0 (A1 2) A3))<|A8 (N7<|A0 (A4 ah7 (A1 0)<|A1 3) (A0 (A4 ah7 (A1 1)<|A1 3) A3))))
def am6:List D->Option D:=C6 am5 4
def aE1:DS:=(A8<|A2 am6 (A0 (A4 Y1 (dIx (A6 0) ⇑0)<|dIx (A6 1) ⇑0)<|A0 (A4 Y1 (dIx (A6 0) ⇑1)<|dIx (A6 1) ⇑1) A3))
def ap5:List D->Option D:=C6 aE1 2
def aE2:DS:=(A7 (B6 2<|A4 x5 ⇑1 (A2 A5<|A0 (A1 0) (A0 (A1 1)<|A0 ⇑12 A3)))<|A7 (B6 3<|A2 am6 (A0 (A2 A5<|A0 (A1 0) (A0 (A4 x5 (A1 1) ⇑1)<|A0 (A4 x5 (A1 2) ⇑1) A3))<|A0 (A1 2) A3)) (A8<|dIx (qN<|A0 (A1 3) (A0 (A1 3)<|A0 (A1 3) (A0 (N7<|A0 ⇑0 (A0 ⇑1 A3))<|A0 (N7<|A0 ⇑1 (A0 ⇑1 A3)) A3))) (A2 A5<|A0 (A1 0) (A0 (A4 x5 (A1 1) ⇑2)<|A0 ⇑5 A3))))
def P7:List D->Option D:=C6 aE2 4
def aR1:DS:=(A7 (B6 2<|A2 P7 (A0 (A1 0)<|A0 (A1 1) A3))<|A8 (A4 x5 (N7<|A0 (A1 2) A3)<|S2 (qN<|K1 1 [2,0,1] (P0 ⇑3) (C3 0) M1 (A2 ap5<|A0 (A1 1) (A0 (A2 P7<|A0 (A1 2) (A0 (A4 x5 (A4 x5 (A1 3) ⇑3)<|A4 Y1 ⇑3 (A1 0)) A3)) A3)))))
def Y4:List D->Option D:=C6 aR1 3
def ba8:DS:=(A8<|u6 (ao7 "int"<|A1 0) (bK2<|ao7 "bool" (A1 0)))
def ab0:List D->Option D:=C6 ba8 1
def bb3:DS:=(A7 (sIf (v4 (R9<|Q9 (ao7 "tuple"<|A1 0))<|tB2 neD (Z0<|A6 0) ⇑2) (A8<|dC (.bool false)) K9)<|A7 (B6 1<|dIx (A6 0) ⇑0) (A7 (B6 2<|dIx (A6 0) ⇑1)<|A7 (sIf (v4 (R9<|Q9 (A2 ab0<|A0 (A1 1) A3))<|R9 (Q9<|A2 ab0 (A0 (A1 2) A3))) (A8<|dC (.bool false)) K9) (A8<|u6 (A4 gtI (A1 2) ⇑0) (u6 (Z1 leI leI ⇑0 (A1 1)<|A1 2)<|A4 eqD (A2 U2<|A0 (A1 1) (A0 (A1 2) A3)) ⇑1))))
def ai6:List D->Option D:=C6 bb3 3
def br5:DS:=(A7 (sIf (v4 (R9<|Q9 (ao7 "tuple"<|A1 0))<|tB2 neD (Z0<|A6 0) ⇑4) (A8<|dC (.bool false)) K9)<|A7 (sIf (R9<|Q9 (aJ2<|qN (K1 1 [] (T8<|A1 0) (C3 0) M1<|A2 ai6 (A0 (A1 0) A3)))) (A8<|dC (.bool false)) K9) (A8<|aJ2 (qN<|K1 1 [0] (T8<|aA2 (A1 0) (O5 ⇑1) U7) (C3 0) M1 (A2 i5<|A0 (A1 0) (A0 (dIx (A6 1) ⇑0) A3)))))
def br9:List D->Option D:=C6 br5 1
def ae8:DS:=(A7 (B6 2<|dIx (A6 1) ⇑0)<|A7 (B6 3<|dIx (A6 1) ⇑1) (A7 (B6 4<|dIx (A6 1) ⇑2)<|A7 (B6 5<|dIx (A6 1) ⇑3) (A7 (sIf (tB2 eqD (A1 0)<|dC (.str "turn")) (A8<|N7 (A0 (A1 2)<|A0 (A2 T2<|A0 (A1 2) (A0 (A1 3) A3)) (A0 (A2 T2<|A0 (A1 2) (A0 (A1 4) A3))<|A0 (A2 T2<|A0 (A1 2) (A0 (A1 5) A3)) A3))) K9)<|A7 (sIf (tB2 eqD (A1 0)<|dC (.str "grey")) (A7 (B6 6<|A2 U1 (A0 (A2 U3<|A0 (A2 U3<|A0 (A1 3) (A0 (A1 4) A3)) (A0 (A1 5) A3))<|A0 (dC<|.tuple [(.int 1),(.int 3)]) A3))<|A8 (N7<|A0 (A1 2) (A0 (A1 6)<|A0 (A1 6) (A0 (A1 6) A3)))) K9) (A8<|N7 (A0 (A1 2)<|A0 (A1 4) (A0 (A1 5)<|A0 (A1 3) A3))))))
def ap8:List D->Option D:=C6 ae8 7
def bj6:DS:=(A8<|A2 U3 (A0 (A2 U1<|A0 (A1 0) (A0 (A1 1) A3))<|A0 (A2 U1<|A0 (A2 i6<|A0 (A1 0) A3) (A0 (A1 2) A3)) A3))
def aJ9:List D->Option D:=C6 bj6 3
def bj5:DS:=(A8<|S2 (qN<|K1 2 [2] (aO2 (qE<|A2 ap8 (A0 (A1 0)<|A0 (A1 1) A3))<|qE (A1 1)) (S1 2<|C9 (C3 0) (C9 (C3 1) S7)) M1 (A2 aJ9<|A0 (A1 2) (A0 (A1 0)<|A0 (A1 1) A3))))
def au8:List D->Option D:=C6 bj5 3
def ay2:DS:=(A8<|S2 (qN<|K1 1 [1] (T8<|A1 0) (C3 0) M1 (A2 U1<|A0 (A1 0) (A0 (A1 1) A3))))
def aa8:List D->Option D:=C6 ay2 2
def br6:DS:=(A8<|u6 (A2 ab0<|A0 (A1 0) A3) (Z1 leI leI ⇑1 (A1 0) ⇑8))
def aE8:List D->Option D:=C6 br6 1
def bb0:DS:=(A7 (sIf (v4 (R9<|Q9 (ao7 "tuple"<|A1 0))<|tB2 neD (Z0<|A6 0) ⇑3) (A8<|dC (.bool false)) K9)<|A8 (u6 (A2 aE8<|A0 (dIx (A6 0) ⇑0) A3)<|u6 (A2 aE8<|A0 (dIx (A6 0) ⇑1) A3) (ao7 "tuple"<|dIx (A6 0) ⇑2)))
def bb7:List D->Option D:=C6 bb0 1
def bb2:DS:=(A7 (sIf (R9<|Q9 (A2 bb7<|A0 (A1 0) A3)) (A8<|dC (.bool false)) K9)<|A7 (B6 1<|dIx (A6 0) ⇑2) (A8<|u6 (A4 eqD (Z0<|A6 1)<|A4 F9 (dIx (A6 0) ⇑0) (dIx (A6 0) ⇑1)) (aJ2<|qN (K1 1 [] (T8<|A1 1) (C3 0) M1<|A2 br9 (A0 (A1 0) A3)))))
def bb8:List D->Option D:=C6 bb2 2
def ar5:DS:=(A8<|ab8 (K1 1 [0] (P0<|A4 F9 (A1 0) (A1 1)) (C3 0) M1<|N7 (A0 (A4 n6 (A1 0)<|A1 1)<|A0 (A4 ah7 (A1 0)<|A1 1) A3)))
def V9:List D->Option D:=C6 ar5 2
def ar9:DS:=(A8<|u6 (Z1 leI ltI ⇑0 (A1 1)<|dIx (A6 0) ⇑0) (Z1 leI ltI ⇑0 (A1 2)<|dIx (A6 0) ⇑1))
def Y5:List D->Option D:=C6 ar9 3
def t7:DS:=(A8<|A4 B0 (A4 F9 (A1 2)<|dIx (A6 0) ⇑0) (A1 1))
def D8:List D->Option D:=C6 t7 3
def ap0:DS:=(A7 (sIf (R9<|Q9 (A2 Y5<|A0 (A1 0) (A0 (A1 1)<|A0 (A1 2) A3))) (A8<|dC (.tuple [(.tuple [(.int 0),(.int 1)]),(.tuple [(.int 0),(.int 1)]),(.tuple [(.int 0),(.int 1)]),(.tuple [(.int 0),(.int 1)])])) K9)<|A8 (dIx (qE<|dIx (A6 0) ⇑2)<|A2 D8 (A0 (A1 0)<|A0 (A1 1) (A0 (A1 2) A3))))
def ap4:List D->Option D:=C6 ap0 3
def ag5:DS:=(A8<|N7 (A0 (A1 0)<|A0 (A1 1) (A0 (A4 F9 (N7<|A0 (A1 2) A3)<|A4 F9 (A1 0) (A1 1)) A3)))
def Q2:List D->Option D:=C6 ag5 3
def ap1:DS:=(A7 (ac4 4<|K1 1 [0,1] (P0<|A4 F9 (A1 2) (A1 3)) (C3 0) M1 (A2 Y4<|A0 (A1 1) (A0 (A4 B0 (A1 2)<|A4 F9 ⇑12 (A1 0)) A3)))<|A7 (sIf (tB2 eqD (A2 A5<|A0 (A1 0) (A0 (A4 B0 (A1 1) ⇑7)<|A0 ⇑3 A3)) ⇑0) (B6 4<|A4 F9 (ai0 (A1 4) U7<|O5 ⇑1) (A4 F9 (A1 2)<|A1 3)) K9) (A8<|N7 (A0 (A1 2)<|A0 (A1 3) (A0 (S2<|A6 4) A3))))
def y9:List D->Option D:=C6 ap1 5
def br3:DS:=(A8<|dIx (A6 0) ⇑0)
def af4:List D->Option D:=C6 br3 1
def bb4:DS:=(A8<|A4 eqD (A2 af4<|A0 (A1 0) A3) (dC<|.str "layer"))
def m8:List D->Option D:=C6 bb4 1
def br4:DS:=(A8<|A4 eqD (A2 af4<|A0 (A1 0) A3) (dC<|.str "tone"))
def Q8:List D->Option D:=C6 br4 1
def aQ7:DS:=(A8<|dIx (A6 0) ⇑2)
def T1:List D->Option D:=C6 aQ7 1
def bq8:DS:=(A8<|dIx (A6 0) ⇑2)
def af0:List D->Option D:=C6 bq8 1
def aA8:DS:=(A8<|dIx (A6 0) ⇑3)
def P1:List D->Option D:=C6 aA8 1
def bb1:DS:=(A8<|dIx (A6 0) ⇑4)
def R6:List D->Option D:=C6 bb1 1
def br2:DS:=(A8<|dIx (A6 0) ⇑5)
def y8:List D->Option D:=C6 br2 1
def bM7:DS:=(A8<|dIx (A6 0) ⇑6)
def ae0:List D->Option D:=C6 bM7 1
def br0:DS:=(A8<|dIx (A6 0) ⇑7)
def af2:List D->Option D:=C6 br0 1
def ba7:DS:=(A8<|dIx (A6 0) ⇑8)
def X1:List D->Option D:=C6 ba7 1
def aA9:DS:=(A8<|dIx (A6 0) ⇑5)
def K0:List D->Option D:=C6 aA9 1
def X5:DS:=(A7 (B6 3<|A2 X1 (A0 (A1 0) A3))<|A7 (B6 4<|A2 af2 (A0 (A1 0) A3)) (A7 (B6 5<|A2 ap4 (A0 (A1 3)<|A0 (A1 1) (A0 (A1 2) A3)))<|A7 (sIf (v4 (tB2 isB (A1 4)<|dC .none)<|R9 (Q9<|A2 Y5 (A0 (A1 3)<|A0 (A1 1) (A0 (A1 2) A3)))) (A8<|A1 5) K9) (A8<|A2 aa8 (A0 (A1 5)<|A0 (dIx (A6 4)<|A2 D8 (A0 (A1 3)<|A0 (A1 1) (A0 (A1 2) A3))) A3))))
def u9:List D->Option D:=C6 X5 6
def y6(self:Nat->List D->Option D):DS:=(A7 (sIf (Q9<|A2 m8 (A0 (A1 0) A3)) (B6 3<|A2 u9 (A0 (A1 0)<|A0 (A4 as1 (A1 1)<|A2 y8 (A0 (A1 0) A3)) (A0 (A4 as1 (A1 2)<|A2 ae0 (A0 (A1 0) A3)) A3)))<|B6 3 (A2 (self 2)<|A0 (A2 K0<|A0 (A1 0) A3) (A0 (A1 1)<|A0 (A1 2) A3)))<|A8 (A2 aa8<|A0 (A1 3) (A0 (A2 P1<|A0 (A1 0) A3) A3)))
def M0(self:Nat->List D->Option D):DS:=(A7 (sIf (R9<|Q9 (A2 R6<|A0 (A1 0) A3)) (A8<|A1 1) K9)<|A7 (sIf (Q9<|A2 Q8 (A0 (A1 0) A3)) (A8<|A2 au8 (A0 (A2 af0<|A0 (A1 0) A3)<|A0 (A1 1) (A0 (A2 P1<|A0 (A1 0) A3) A3))) K9) (A8<|A2 aa0 (A0 (A2 T1<|A0 (A1 0) A3)<|A0 (A2 (self 0)<|A0 (A1 0) (A0 (A1 2)<|A0 (A1 3) A3)) (A0 (A1 1) A3))))
def k7(self:Nat->List D->Option D):DS:=(A7 (B6 3<|dC (.tuple [(.tuple [(.int 0),(.int 1)]),(.tuple [(.int 0),(.int 1)]),(.tuple [(.int 0),(.int 1)]),(.tuple [(.int 0),(.int 1)])]))<|A7 (Y8 (T8<|A1 0) (C3 4)<|B6 3 (A2 (self 1)<|A0 (A1 4) (A0 (A1 3)<|A0 (A1 1) (A0 (A1 2) A3)))) (A8<|A1 3))
def W7:Nat->Nat->List D->Option D
 | 0=>λ_ _=>Oa
 | k+1=>λi=>match i with
  | 0=>C6 (y6<|W7 k) 4
  | 1=>C6 (M0<|W7 k) 4
  | 2=>C6 (k7<|W7 k) 5
  | _=>λ_=>Oa
def af5(k:Nat):List D->Option D:=W7 k 0
def ag7(k:Nat):List D->Option D:=W7 k 1
def k8(k:Nat):List D->Option D:=W7 k 2
def aE6:DS:=(A8<|A2 (k8 12) (A0 (dIx (A6 0) ⇑2)<|A0 (A1 1) (A0 (A1 2) A3)))
def W1:List D->Option D:=C6 aE6 3
def bM8:DS:=(A7 (ac4 1<|K1 2 [0] (T8<|A2 V9 (A0 (dIx (A6 0) ⇑0)<|A0 (dIx (A6 0) ⇑1) A3)) (S1 2<|C9 (C3 0) (C9 (C3 1) S7)) M1 (A2 W1<|A0 (A1 2) (A0 (A1 0)<|A0 (A1 1) A3)))<|A8 (N7<|A0 (dIx (A6 0) ⇑0) (A0 (dIx (A6 0) ⇑1)<|A0 (S2<|A6 1) A3)))
def ap7:List D->Option D:=C6 bM8 2
def nbA:DS:=(B6 6<|ax7 (dC<|.str "") (qN<|K1 1 [0,1,5] (P0 ⇑2) (C3 0) M1 (ai1 (dC<|.str "abcdefghijklmnopqrstuvwxyz")<|A2 A5 (A0 (A1 1)<|A0 (A4 B0 (A4 B0 (A4 B0 (A1 2) ⇑1)<|A4 F9 ⇑3 (A1 3))<|A1 0) (A0 ⇑26 A3)))))
def nbB:DS:=(B6 6<|A4 bm5 (bp9 (A1 6) U7<|O5 (A2 A5<|A0 (A1 0) (A0 (A4 B0 (A4 B0 (A1 1) ⇑3)<|A4 F9 ⇑3 (A1 5))<|A0 ⇑3 A3))) (dIx (qN<|A0 ⇑1 (A0 ⇑2 A3))<|A2 A5 (A0 (A1 0)<|A0 (A4 B0 (A4 B0 (A1 1) ⇑2)<|A4 F9 ⇑3 (A1 5)) (A0 ⇑2 A3))))
def nbC:DS:=(af6 4<|dIx (qN<|A0 (A4 B0 (A1 6)<|ai1 (dC<|.str "abcdefghijklmn") (A1 5)) (A0 (A4 B0 (ai1 (dC<|.str "abcdefghijklmn")<|A1 5)<|A1 6) A3)) (aZ3<|A1 3))
def aE4:DS:=(A7 (B6 3<|A4 eqD (A2 A5<|A0 (A1 0) (A0 (A1 1)<|A0 ⇑2 A3)) ⇑0)<|A7 (aj4 4 A3) (A7 (Y8 (P0<|A1 2) (C3 5)<|A7 nbA (A7 nbB nbC))<|aL5 4 (A8<|A1 4)))
def af3:List D->Option D:=C6 aE4 7
def ac2:DS:=(B6 4<|A2 P7 (A0 (A1 0)<|A0 (A1 1) A3))
def ac1:DS:=(B6 5<|A4 gtI (A2 A5<|A0 (A1 0) (A0 (A4 B0 (A1 1) ⇑3)<|A0 ⇑6 A3)) ⇑0)
def Y0:DS:=(sIf (tB2 eqD (A2 A5<|A0 (A1 0) (A0 (A4 B0 (A1 1) ⇑4)<|A0 ⇑6 A3)) ⇑0) (A8<|N7 (A0 (dC<|.str "tone")<|A0 (A1 2) (A0 (dIx (qN<|A0 (dC<|.str "turn") (A0 (dC<|.str "grey")<|A0 (dC<|.str "round") A3))<|A2 A5 (A0 (A1 0)<|A0 (A4 B0 (A1 1) ⇑5) (A0 ⇑3 A3)))<|A0 (A1 4) (A0 (A1 5) A3)))) K9)
def aq4:DS:=(B6 6<|dIx (qN<|A0 (dC<|.str "over") (A0 (dC<|.str "multiply")<|A0 (dC<|.str "screen") (A0 (dC<|.str "plus")<|A0 (dC<|.str "atop") (A0 (dC<|.str "cut") A3)))) (A2 A5<|A0 (A1 0) (A0 (A4 B0 (A1 1) ⇑5)<|A0 ⇑6 A3)))
def o5:DS:=(sIf (tB2 gtI (A2 A5<|A0 (A1 0) (A0 (A4 B0 (A1 1) ⇑6)<|A0 ⇑3 A3)) ⇑0) (B6 6<|A1 3) K9)
def aq3:DS:=(B6 7<|A4 B0 ⇑1 (A2 A5<|A0 (A1 0) (A0 (A4 B0 (A1 1) ⇑7)<|A0 ⇑3 A3)))
def aq2:DS:=(B6 8<|A4 B0 ⇑1 (A2 A5<|A0 (A1 0) (A0 (A4 B0 (A1 1) ⇑8)<|A0 ⇑3 A3)))
def aq1:DS:=(B6 9<|dC .none)
def n9:DS:=(sIf (tB2 eqD (A2 A5<|A0 (A1 0) (A0 (A4 B0 (A1 1) ⇑9)<|A0 ⇑3 A3)) ⇑0) (B6 9<|S2 (qN<|K1 1 [0,1] (P0<|A4 F9 (A1 7) (A1 8)) (C3 0) M1 (A2 P7<|A0 (A1 1) (A0 (A4 B0 (A4 B0 (A1 2) ⇑20)<|A4 F9 ⇑3 (A1 0)) A3)))) K9)
def aq0:DS:=(B6 10<|A4 as1 (A2 A5<|A0 (A1 0) (A0 (A4 B0 (A1 1) ⇑10)<|A0 ⇑4 A3)) ⇑1)
def aj0:DS:=(B6 11<|A4 as1 (A2 A5<|A0 (A1 0) (A0 (A4 B0 (A1 1) ⇑11)<|A0 ⇑4 A3)) ⇑1)
def Z6:DS:=(sIf (tB2 eqD (A2 A5<|A0 (A1 0) (A0 (A4 B0 (A1 1) ⇑12)<|A0 ⇑3 A3)) ⇑0) (bl4 (N7<|A0 ⇑3 (A0 ⇑3<|A0 ⇑0 (A0 ⇑0<|A0 (dC .none) A3)))<|S1 5 (C9 (C3 7)<|C9 (C3 8) (C9 (C3 10)<|C9 (C3 11) (C9 (C3 9) S7)))) K9)
def ai9:DS:=(B6 12<|A2 y9 (A0 (A1 0)<|A0 (A4 B0 (A1 1) ⇑50) (A0 (A1 7)<|A0 (A1 8) A3)))
def aa1:DS:=(A8<|N7 (A0 (dC<|.str "layer")<|A0 (A1 2) (A0 (A1 6)<|A0 (A1 4) (A0 (A1 5)<|A0 (A1 10) (A0 (A1 11)<|A0 (A1 9) (A0 (A1 12) A3))))))
def ay7:DS:=(A7 ac2<|A7 ac1 (A7 Y0<|A7 aq4 (A7 o5<|A7 aq3 (A7 aq2<|A7 aq1 (A7 n9<|A7 aq0 (A7 aj0<|A7 Z6 (A7 ai9 aa1)))))))
def W5:List D->Option D:=C6 ay7 13
def gb0:DS:=(B6 8<|A2 A5 (A0 (A1 0)<|A0 (A4 B0 (A4 B0 (A1 1) ⇑3)<|A4 F9 ⇑5 (A1 7)) (A0 (A4 B0 (Z0<|A6 6) ⇑1) A3)))
def gb1:DS:=(B6 9<|A4 B0 (A1 8) (A2 A5<|A0 (A1 0) (A0 (A4 B0 (A4 B0 (A1 1) ⇑4)<|A4 F9 ⇑5 (A1 7))<|A0 ⇑3 A3)))
def gb2:DS:=(B6 10<|dIx (qN<|A0 (N7<|A0 ⇑1 (A0 ⇑1 A3)) (A0 (A2 P7<|A0 (A1 0) (A0 (A4 B0 (A4 B0 (A1 1) ⇑5)<|A4 F9 ⇑5 (A1 7)) A3)) A3)) (A2 A5<|A0 (A1 0) (A0 (A4 B0 (A4 B0 (A1 1) ⇑6)<|A4 F9 ⇑5 (A1 7))<|A0 ⇑2 A3)))
def gb3:DS:=(B6 11<|dIx (qN<|A0 (A1 4) (A0 (dC<|.str "atop")<|A0 (A1 4) (A0 (dC<|.str "cut") A3))) (A2 A5<|A0 (A1 0) (A0 (A4 B0 (A4 B0 (A1 1) ⇑7)<|A4 F9 ⇑5 (A1 7))<|A0 ⇑4 A3)))
def gb4:DS:=(B6 12<|N7 (A0 (dC<|.str "group")<|A0 (dIx (A6 3)<|A4 B0 (A1 2) (A1 7)) (A0 (A1 11)<|A0 (A1 10) (A0 (A4 gtI (A2 A5<|A0 (A1 0) (A0 (A4 B0 (A4 B0 (A1 1) ⇑14)<|A1 7)<|A0 ⇑7 A3)) ⇑0) A3))))
def gb5:DS:=(bw8 6 (O5<|A1 8) (O5<|A1 9)<|A0 (A4 B0 (A1 12)<|N7 (A0 (S2<|qE (bq0 (A6 6) (O5<|A1 8)<|O5 (A1 9))) A3)) A3)
def bh9:DS:=(A7 gb0<|A7 gb1 (A7 gb2<|A7 gb3 (A7 gb4 gb5)))
def gn0:DS:=(B6 4<|dIx (qN<|A0 (dC<|.str "over") (A0 (dC<|.str "multiply")<|A0 (dC<|.str "screen") (A0 (dC<|.str "plus") A3))) (A2 A5<|A0 (A1 0) (A0 (A1 1)<|A0 ⇑4 A3)))
def gn1:DS:=(B6 5<|A2 A5 (A0 (A1 0)<|A0 (A4 B0 (A1 1) ⇑1) (A0 (A4 B0 (A1 2) ⇑1) A3)))
def gn2:DS:=(aj4 6<|K1 1 [0,4,3,1] (P0<|A1 5) (C3 0) M1 (A2 W5<|A0 (A1 1) (A0 (A4 B0 (A4 B0 (A1 4) ⇑20)<|A4 F9 ⇑170 (A1 0))<|A0 (dIx (A6 3)<|A1 0) (A0 (A1 2) A3))))
def gn3:DS:=(Y8 (P0<|A2 A5 (A0 (A1 0)<|A0 (A4 B0 (A1 1) ⇑2) (A0 ⇑3 A3))) (C3 7) bh9)
def aE3:DS:=(A7 gn0<|A7 gn1 (A7 gn2<|A7 gn3 (A8<|S2 (A6 6))))
def ap6:List D->Option D:=C6 aE3 13
def ar8:DS:=(A7 (B6 4<|A4 B0 ⇑1 (A2 A5<|A0 (A1 0) (A0 (A1 1)<|A0 ⇑3 A3)))<|A7 (B6 5<|A4 B0 ⇑1 (A2 A5<|A0 (A1 0) (A0 (A4 B0 (A1 1) ⇑1)<|A0 ⇑3 A3))) (A8<|N7 (A0 (A1 4)<|A0 (A1 5) (A0 (A2 ap6<|A0 (A1 0) (A0 (A4 B0 (A1 1) ⇑2)<|A0 (A1 2) (A0 (A1 3) A3))) A3))))
def t8:List D->Option D:=C6 ar8 6
def bb5:DS:=(A8<|A4 eqD (A2 af4<|A0 (A1 0) A3) (dC<|.str "group"))
def R7:List D->Option D:=C6 bb5 1
def bq9:DS:=(A8<|dIx (A6 0) ⇑1)
def O3:List D->Option D:=C6 bq9 1
def ai5:DS:=(A8<|A4 B0 (ai0 (A1 0) U7<|O5 ⇑5) (N7<|A0 (A1 1) A3))
def V8:List D->Option D:=C6 ai5 2
def ay3:DS:=(A7 (Y8 (aO3<|qE (A1 0)) (S1 2<|C9 (C3 2) (C9 (C3 3) S7))<|sIf (tB2 eqD (A2 O3<|A0 (A1 3) A3)<|A1 1) (A8<|A1 2) K9)<|A8 (dC .none))
def K8:List D->Option D:=C6 ay3 4
def O9(self:List D->Option D):DS:=(A7 (sIf (tB2 ak2 (A2 K8<|A0 (A1 0) (A0 (A1 1) A3))<|dC .none) (A8<|A1 0) K9)<|A7 (Y8 (T8<|A1 0) (C3 2)<|sIf (Q9<|A2 R7 (A0 (A1 2) A3)) (A7 (B6 3<|A2 self (A0 (A2 K0<|A0 (A1 2) A3)<|A0 (A1 1) A3))<|sIf (tB2 ak2 (A1 3)<|dC .none) (A8<|A1 3) K9) K9) (A8<|dC .none))
def K2:Nat->List D->Option D
 | 0=>λ_=>Oa
 | k+1=>C6 (O9<|K2 k) 4
def ad8:DS:=(A7 (B6 2<|A2 (K2 12) (A0 (dIx (A6 0) ⇑2)<|A0 (A1 1) A3))<|A7 (sIf (tB2 isB (A1 2)<|dC .none) E1 K9) (A8<|A1 2))
def T0:List D->Option D:=C6 ad8 3
def O6(self:Nat->List D->Option D):DS:=(A7 (sIf (tB2 ak2 (A2 K8<|A0 (A1 0) (A0 (A1 1) A3))<|dC .none) (A8<|A1 2) K9)<|A8 (S2<|qN (K1 1 [1,2] (T8<|A1 0) (C3 0) M1<|A2 (self 1) (A0 (A1 0)<|A0 (A1 1) (A0 (A1 2) A3)))))
def N3(self:Nat->List D->Option D):DS:=(A7 (sIf (R9<|Q9 (A2 R7<|A0 (A1 0) A3)) (A8<|A1 0) K9)<|A8 (A2 V8<|A0 (A1 0) (A0 (A2 (self 0)<|A0 (A2 K0<|A0 (A1 0) A3) (A0 (A1 1)<|A0 (A1 2) A3)) A3)))
def ag8:Nat->Nat->List D->Option D
 | 0=>λ_ _=>Oa
 | k+1=>λi=>match i with
  | 0=>C6 (O6<|ag8 k) 3
  | 1=>C6 (N3<|ag8 k) 3
  | _=>λ_=>Oa
def M2(k:Nat):List D->Option D:=ag8 k 0
def N6(k:Nat):List D->Option D:=ag8 k 1
def Z5:DS:=(A8<|N7 (A0 (dIx (A6 0) ⇑0)<|A0 (dIx (A6 0) ⇑1) (A0 (A2 (M2 12)<|A0 (dIx (A6 0) ⇑2) (A0 (A1 1)<|A0 (A1 2) A3)) A3)))
def U6:List D->Option D:=C6 Z5 3
def ar4:DS:=(A7 (B6 3<|A2 T0 (A0 (A1 0)<|A0 (A1 1) A3))<|A7 (B6 4<|A2 K8 (A0 (A1 3)<|A0 (A1 1) A3)) (A8<|A2 U6 (A0 (A1 0)<|A0 (A1 1) (A0 (A4 B0 (A4 B0 (ai0 (A1 3) U7<|O5 (A1 4))<|N7 (A0 (A1 2) A3))<|ai0 (A1 3) (O5<|A4 B0 (A1 4) ⇑1) U7) A3))))
def S8:List D->Option D:=C6 ar4 5
end Sh
namespace G
open PySem PySem.Spec PyProof.Rows L2
abbrev FnD:=List D->Option D
structure Sg where
 fn:List (Str×FnD×Nat)
 cs:List (Str×D)
 bl:List Str
structure Kx where
 N:List Str
 sc:Scope
 df:Bool
 own:List Nat
 cpt:List Nat
 tx:List Nat
 dx:List Nat
 old:Bool
 fz:List (Nat×List Nat)
 hc:List ((Nat×Nat)×List Nat)
def biS(K:aa)(n:Nat)(F:List D->Option D):List V->Hp->VK->Prop:=λvs H Q=>vs.length=n/\∃Hf ds d,B8 Hf H/\Reps K Hf ds vs/\F ds=Ob d/\∀v H' Hf',Grow H Hf H' Hf'->Rep K Hf' d v->Q v H'
def cz7(x:Str)(F:FnD)(n:Nat):Prop:=0 < n/\x ≠ "__name__" /\ ∃nm,dR x=Ob (.builtin nm)/\∀X:Cx,X.A.units+64 < cLine->ag9 X (.builtin nm) (biS X.K n F)
def cf0(hb:cz7 x F n)(hu:X.A.units+64 < cLine)(hg:Gl X x)(hm:X.mg x=Oa)(ha:JA X (e::es) g)(hn:(e::es).length=n)(hdb:(x==("__debug__" : Str))=false)
  (he:dI (e::es) X.env=(false,eval e X.env)::dI es X.env) (hpl:(backTo pos<|dI es X.env).any (·.1)=false):JE X (.Call (.Name x p) (e::es) [] pos) (A2 F g):=λρ d q=>by
 obtain⟨ds,h1,h2⟩:=xbo q;obtain⟨_,hnn,nm,hv,hc⟩:=hb;refine B4 (v8 (hc X hu) hg hm hv (ha.run ρ ds h1) hnn hdb he hpl) λσ H Q ⟨H0,Hf,s,sl,kk⟩=>?_
 exact⟨H0,Hf,s,sl,λvs H1 Hf1 g1 r1=>⟨by rw[r1.length,ha.len ρ ds h1,hn],Hf1,ds,d,g1.sub,r1,h2,λv H2 Hf2 g2 r2=>kk v H2 Hf2 (g1.trans g2) r2⟩⟩
def cM1(X:Cx)(x:Str)(F:FnD)(n:Nat):Prop:=(∃(k:Nat) (f:eR) (fd:dQ) (ps:List Str),FnOk X.prog X.w X.K X.mg X.base CX0 k f fd ps (spF X.K n F)/\Room k X.A/\X.mg x=Ob (.ref f)/\aG X.K (.ref f)=true/\M3 X.K fd ps [])\/(X.mg x=Oa/\cz7 x F n)
structure Fit (S:Sg) (c:Kx) (X:Cx):Prop where
 N:X.N=c.N
 sc:X.env.scope=c.sc
 nd:c.N.Nodup
 calm:X.calm=true
 xe:X.xe=λ_ _=>False
 units:X.A.units+64 < cLine
 df:c.df=true->(∀x,X.fn x=true)/\c.sc.kind=.function
 fns:∀x F n,S.fn.lookup x=Ob (F,n)->cM1 X x F n
 css:∀x d,S.cs.lookup x=Ob d->∃u,ba6 X.K d u/\X.mg x=Ob u
 bls:∀x,S.bl.contains x=true->X.mg x=Oa
def pl:Expr->Bool
 | .Starred ..=>false
 | .Slice ..=>false
 | .Set ..=>false
 | _=>true
def bB0:Expr->Bool
 | .Call ..=>false
 | _=>true
def isC:Expr->Bool
 | .ListComp ..=>true
 | .SetComp ..=>true
 | .DictComp ..=>true
 | _=>false
def plT:Expr->Bool
 | .UnaryOp ..=>false
 | .BoolOp ..=>false
 | .IfExp ..=>false
 | .Compare ..=>false
 | _=>true
def Y9(x:Str):List Str->Option Nat
 | []=>Oa
 | y::r=>if y==x then Ob 0 else(Y9 x r).map (·+1)
theorem aO0:∀{l:List Str}{i:Nat},Y9 x l=Ob i->l[i]? = Ob x
 | [],i,h=>by cases h
 | y::r,i,h=>by
  unfold Y9 at h;split at h
  .rename_i e;cases h;simp only[beq_iff_eq]at e;subst e;rfl
  .obtain⟨j,h1,h2⟩:=xmo h;subst h2;simpa using aO0 h1
def an6:List Str->Bool
 | []=>true
 | x::r=>!(r.contains x)&&an6 r
theorem an5:∀{l:List Str},an6 l=true->l.Nodup
 | [],_=>List.nodup_nil
 | x::r,h=>by
  unfold an6 at h;simp only[ae,bf]at h;refine bn.mpr ⟨λz=>?_,an5 h.2⟩;have:=h.1;rw[bN.mpr z]at this;cases this
def ai7(sc:Scope)(x:Str):Bool:=(match sc.names.lookup x with|some .local=>true|some .cell=>true|some .free=>true|_=>false) && !(x==("__debug__" : Str)) && !(x==("__classdict__" : Str))
def aW1(c:Kx)(x:Str):Bool:=(match c.sc.names.lookup x with|some .local=>true|some .cell=>c.df|_=>false)
def ah6(sc:Scope)(x:Str):Bool:=(match sc.names.lookup x with|some .globalImplicit=>true|_=>false) && !(x==("__debug__" : Str))
def biB(S:Sg)(c:Kx)(w x:Str):Bool:=x==w&&S.bl.contains w&&ah6 c.sc w
section
variable {X:Cx}{S:Sg}{c:Kx}
def T4(F:Fit S c X)(h:ai7 c.sc x=true):Vis X.env.scope x/\(x==("__debug__" : Str))=false/\(x==("__classdict__" : Str))=false:=by
 unfold ai7 at h;simp only[ae,bf]at h;obtain⟨⟨h1,h2⟩,h3⟩:=h;refine⟨?_,h2,h3⟩;rw[F.sc];unfold Vis;split at h1
 .rename_i e;exact .inl e
 .rename_i e;exact .inr<|.inl e
 .rename_i e;exact .inr<|.inr e
 .cases h1
def at9(F:Fit S c X)(h:aW1 c x=true):L2.Loc X.env.scope x/\(X.fn x=true\/X.env.scope.names.lookup x=Ob .local):=by
 unfold aW1 at h;rw[F.sc];unfold L2.Loc;split at h
 .rename_i e;exact⟨.inl e,.inr e⟩
 .rename_i e;exact⟨.inr e,.inl<|(F.df h).1 x⟩
 .cases h
def V2(F:Fit S c X)(h:ah6 c.sc x=true):Gl X x/\(x==("__debug__" : Str))=false:=by
 unfold ah6 at h;simp only[ae,bf]at h;refine⟨?_,h.2⟩;unfold Gl Env.kindOf;rw[F.sc];have h1:=h.1;split at h1
 .rename_i e;exact e
 .cases h1
def V7(F:Fit S c X)(h:biB S c w x=true):x=w/\Gl X w/\X.mg w=Oa:=by
 unfold biB at h;simp only[ae,beq_iff_eq]at h;exact⟨h.1.1,(V2 F h.2).1,F.bls _ h.1.2⟩
def F6(h:pl e=true)(es:List Expr)(env:Env):dI (e::es) env=(false,eval e env)::dI es env:=by cases e<;>first|rfl|cases h
def by3(h:pl e=true):am2 e:=by
 intro o i;cases e<;>first|rfl|cases h
def aj8(h:pl e=true)(op:CmpOp):behindInMarks op e=false:=by cases e<;>first|rfl|cases h
def aG6(h:pl e=true)(env:Env)(x:eP):dX e env x=pure x:=by cases e<;>first|rfl|cases h
def aM8(h:bB0 o=true)(attr:Str)(env:Env)(t:Sem eP):dZ o attr env t=t:=by cases o<;>first|rfl|cases h
def U8(h:isC e=false)(t:Option Expr)(l:Nat)(env:Env):swapsWith e t l env=pure false:=by cases e<;>first|rfl|cases h
def by4(h:plT e=true)(env:Env)(whole:Sem eP):isTrue e env whole=(do let v ← whole;standAt e.pos;holding [v] (truthy v)):=by cases e<;>first|rfl|cases h
end
abbrev DA:=Rho->Option (List D)
abbrev DQ:=Rho->Option (Bool×List D)
abbrev DT:=Rho->Option Bool
abbrev DG:=D->Rho->Option Rho
def dNo:DE:=λ_=>Oa
def aNo:DA:=λ_=>Oa
def qNo:DQ:=λ_=>Oa
def tNo:DT:=λ_=>Oa
def gNo:DG:=λ_ _=>Oa
structure Ev where
 e:Kx->Expr->DE
 q:Kx->Expr->DQ
 n:Kx->Expr->DA
 t:Kx->Expr->DT
 g:Kx->Expr->DG
 b:Kx->List Stmt->DS
def aZ7:CmpOp->D->D->Option D
 | .Lt=>ltI | .LtE=>leI | .Gt=>gtI | .GtE=>geI | .Eq=>eqD | .NotEq=>neD | .Is=>isB | .IsNot=>ak2 | .In=>inD false | .NotIn=>inD true
def evA(f:Expr->DE):List Expr->DA
 | []=>A3
 | e::es=>if pl e then A0 (f e) (evA f es) else aNo
def bn6(f:Expr->DE)(op:BoolOp):List Expr->DE
 | []=>dNo
 | [a]=>f a
 | a::b::r=>match op with
  | .And=>u6 (f a)<|bn6 f op (b::r)
  | .Or=>dOr (f a)<|bn6 f op (b::r)
def bI7(f:Expr->DT)(op:BoolOp):List Expr->DT
 | []=>tNo
 | [a]=>f a
 | a::b::r=>match op with
  | .And=>bc7 (f a)<|bI7 f op (b::r)
  | .Or=>v4 (f a)<|bI7 f op (b::r)
def evO(f:Expr->DE):Option Expr->Rho->Option (Option Int)
 | none=>U7
 | some e=>O5<|f e
def ca3(f:Expr->DG):List Expr->List D->Rho->Option Rho
 | []=>S7
 | e::es=>C9 (f e)<|ca3 f es
def bI6(f:Expr->DT):List Expr->DT
 | []=>M1
 | [t]=>f t
 | _=>tNo
def Y7:Expr->List Str
 | .Name x _=>[x]
 | .Tuple es _ _=>es.filterMap λ| .Name x _=>Ob x|_=>Oa
 | _=>[]
def rl(scope sc:Scope):Scope:={ scope with names:=scope.names.map λ(n,k)=>if(k == .free&&sc.kind == .function&&sc.names.lookup n==Ob .cell) then(n,.cell) else(n,k) }
def aX4(n:Nat)(caps l:List Nat):List Nat:=(ax caps.length).filterMap λi=>match caps[i]? with|some j=>if l.contains j then Ob (n+i) else Oa|none=>Oa
def cC9(c:Kx)(j:Nat):Str:=(c.N[j]?).getD ""
def inner(c:Kx)(tn:List Str)(caps:List Nat)(scope:Scope):Kx :=
 { N:=tn++caps.map (cC9 c),sc:=rl scope c.sc,df:=false,own:=aX4 tn.length caps c.own,cpt:=[],tx:=aX4 tn.length caps c.tx,dx:=aX4 tn.length caps c.dx,old:=c.old,fz:=[],hc:=c.hc }
def isList:Expr->Bool
 | .List ..=>true
 | .ListComp ..=>true
 | _=>false
def au2(c:Kx)(l:List Nat):Expr->Bool
 | .Name x _=>(match Y9 x c.N with|some i=>l.contains i|none=>false)
 | _=>false
def cw6:Expr->Bool
 | .Constant (.str _) _ _=>true
 | _=>false
def opW(S:Sg)(c:Kx)(op:CmpOp)(b:Expr):D->D->Option D:=aZ7 op
def ak8:Expr->Bool
 | .Tuple ..=>true
 | _=>false
section
variable (S:Sg) (r:Ev)
def evR(c:Kx)(tg:Expr)(a:Expr):DA:=match a with
 | .Call f as kw _=>(match f,as,kw with
  | .Name y _,[e],[]=>(match e with
   | .Call f2 as2 kw2 _=>(match f2,as2,kw2 with
    | .Name z _,[b],[]=>if biB S c "list" y&&biB S c "enumerate" z&&ak8 tg&&pl b then λ_=>Oa else λ_=>Oa
    | _,_,_=>λ_=>Oa)
   | _=>λ_=>Oa)
  | _,_,_=>λ_=>Oa)
 | _=>λ_=>Oa
def evI(c:Kx)(tg it:Expr):DA:=match it with
 | .Call (.Name x _) [a] [] _=>if biB S c "reversed" x then evR S c tg a else if biB S c "range" x&&pl a then P0 (r.e c a) else if biB S c "enumerate" x&&ak8 tg&&pl a then aO3 (qE<|r.e c a) else T8 (r.e c it)
 | .Call (.Name x _) [a,b] [] _=>if biB S c "range" x&&pl a&&pl b then(λ_=>Oa) else if biB S c "zip" x&&ak8 tg&&pl a&&pl b then aO2 (qE<|r.e c a) (qE<|r.e c b) else T8 (r.e c it)
 | _=>if au2 c c.tx it then(λ_=>Oa) else T8 (r.e c it)
def evC(c:Kx)(ex:Expr):DA:=match ex with
 | .ListComp elt [⟨tgt,iter,ifs,0⟩] scope pos =>
  let tn:=Y7 tgt
  let caps:=(c.hc.lookup (pos.line,pos.col)).getD []
  let c':=inner c tn caps scope
  if au5 c.N c'.N tn.length caps c.sc scope&&an6 c'.N&&pl iter then K1 tn.length caps (evI S r c tgt iter) (r.g c' tgt) (bI6 (r.t c') ifs) (r.e c' elt) else aNo
 | _=>aNo
def aS0(c:Kx)(x:Str)(a:Expr):DE :=
 if !(pl a) then dNo
 else if biB S c "len" x then Z0 (r.q c a)
 else if biB S c "tuple" x then S2 (r.q c a)
 else if biB S c "int" x then aZ3 (r.e c a)
 else dNo
def aR9(c:Kx)(x:Str)(a b:Expr):DE :=
 if !(pl a) then dNo
 else if !(pl b) then dNo
 else if biB S c "min" x then ab6 (r.e c a) (r.e c b)
 else if biB S c "max" x then ab7 (r.e c a) (r.e c b)
 else dNo
def bs9(c:Kx)(x:Str)(args:List Expr)(ex:Expr):DE:=match S.fn.lookup x with
 | some (F,n)=>if ah6 c.sc x&&args.length==n&&args.all pl then A2 F (evA (r.e c) args) else dNo
 | none=>match args with
  | [a]=>if biB S c "list" x then ab8 (r.n c ex) else aS0 S r c x a
  | [a,b]=>aR9 S r c x a b
  | _=>dNo
def ck3:Expr->Option (Option Expr×Option Expr×Option Expr)
 | .Slice lo hi st _=>Ob (lo,hi,st)
 | _=>Oa
def unE:Expr->Option (UnaryOp×Expr)
 | .UnaryOp o a _=>Ob (o,a)
 | _=>Oa
def cQ7:Const->Bool
 | .int i=>decide (i=1)
 | _=>false
def cE9:Expr->Bool
 | .Constant k _ _=>cQ7 k
 | _=>false
def m1E(e:Expr):Bool:=match unE e with
 | some t=>(match t.1 with
  | .USub=>cE9 t.2
  | _=>false)
 | none=>false
def nmP:Expr->Option (Str×Pos)
 | .Name x p=>Ob (x,p)
 | _=>Oa
def cB2:List Expr->Option ((Str×Pos)×Str×Pos)
 | [a,b]=>(nmP a).bind λx=>(nmP b).map λy=>(x,y)
 | _=>Oa
def cB1:Expr->Option (Expr×Expr)
 | .Tuple es _ _=>(match es with
  | [a,b]=>Ob (a,b)
  | _=>Oa)
 | _=>Oa
def cg2(c:Kx)(a i:Expr):DE:=match ck3 i with
 | some t=>(match t.2.2 with
  | none =>
   if c.old then aA2 (r.e c a) (evO (r.e c) t.1) (evO (r.e c) t.2.1)
   else if au2 c c.tx a then bp9 (r.e c a) (evO (r.e c) t.1) (evO (r.e c) t.2.1)
   else if au2 c c.own a then bq0 (r.q c a) (evO (r.e c) t.1) (evO (r.e c) t.2.1)
   else ai0 (r.e c a) (evO (r.e c) t.1) (evO (r.e c) t.2.1)
  | some e=>if t.1.isNone&&t.2.1.isNone&&m1E e then cf3 (r.e c a) else dNo)
 | none=>if pl i then(if cw6 a then ai1 (r.e c a) (r.e c i) else dIx (r.q c a) (r.e c i)) else dNo
def xCn(k:Const):DE:=match k with
 | .none=>dC .none
 | .bool b=>dC<|.bool b
 | .int i=>dC<|.int i
 | .str x=>dC<|.str x
 | _=>dNo
def cg9(c:Kx)(a:Expr)(op:Operator)(b:Expr):DE:=match op with
 | .Add=>if c.old && !(isList a || isList b) then A4 x5 (r.e c a) (r.e c b) else A4 B0 (r.e c a) (r.e c b)
 | .Sub=>A4 as1 (r.e c a)<|r.e c b
 | .Mult=>if c.old then A4 Y1 (r.e c a) (r.e c b) else(match a with
  | .Subscript v _ _=>if au2 c c.tx v then A4 bm5 (r.e c a) (r.e c b) else A4 F9 (r.e c a) (r.e c b)
  | _=>A4 F9 (r.e c a) (r.e c b))
 | .FloorDiv=>A4 ah7 (r.e c a)<|r.e c b
 | .Mod=>A4 n6 (r.e c a)<|r.e c b
 | .Pow=>dNo
 | _=>dNo
def xUn(c:Kx)(op:UnaryOp)(a:Expr):DE:=match op with
 | .USub=>bK3<|r.e c a
 | _=>dNo
def cg7(c:Kx)(a:Expr)(ops:List CmpOp)(bs:List Expr):DE:=match ops,bs with
 | [op],[b]=>if pl b then A4 (opW S c op b) (r.e c a) (r.e c b) else dNo
 | [op,op'],[b,d]=>if pl d then Z1 (aZ7 op) (aZ7 op') (r.e c a) (r.e c b) (r.e c d) else dNo
 | _,_=>dNo
def cg4(c:Kx)(o:Expr)(m:Str)(apos cpos:Pos)(args:List Expr):DE:=match args with
 | [a]=>if m == "join" && bB0 o&&apos.endLine==cpos.line&&pl a then ax7 (r.e c o) (r.q c a) else dNo
 | _=>dNo
def xCl(c:Kx)(f:Expr)(args:List Expr)(kw:List dU)(pos:Pos):DE:=match kw with
 | []=>(match f with
  | .Name x p=>bs9 S r c x args<|.Call (.Name x p) args [] pos
  | .Attribute o m apos=>cg4 r c o m apos pos args
  | _=>dNo)
 | _=>dNo
def xDs(ks:List (Option Expr))(vs:List Expr):DE:=dNo
def xE(c:Kx)(ex:Expr):DE:=match ex with
 | .Constant k _ _=>xCn k
 | .Name x _=>(match Y9 x c.N with
  | some i=>if ai7 c.sc x then A1 i else dNo
  | none=>(match S.cs.lookup x with
   | some d=>if ah6 c.sc x then dC d else dNo
   | none=>dNo))
 | .Tuple es _ _=>if es.length<=1000 then N7 (evA (r.e c) es) else dNo
 | .List _ _=>ab8<|r.n c ex
 | .ListComp _ _ _ _=>ab8<|r.n c ex
 | .BinOp a op b _=>cg9 r c a op b
 | .UnaryOp op a _=>xUn r c op a
 | .Compare a ops bs _=>cg7 S r c a ops bs
 | .BoolOp op vs _=>bn6 (r.e c) op vs
 | .IfExp t a b _=>aP8 (r.t c t) (r.e c a)<|r.e c b
 | .Subscript a i _=>cg2 r c a i
 | .Call f args kw pos=>xCl S r c f args kw pos
 | .Dict ks vs _=>xDs ks vs
 | _=>dNo
def cP3(c:Kx)(f:Expr)(as:List Expr)(kw:List dU):Bool:=match f with
 | .Name x _=>as.length==1&&kw.isEmpty&&biB S c "list" x
 | _=>false
def xQ(c:Kx)(ex:Expr):DQ:=match ex with
 | .Name x _=>(match Y9 x c.N with
  | some i=>if ai7 c.sc x then A6 i else qNo
  | none=>qE (r.e c ex))
 | .List _ _=>qN<|r.n c ex
 | .ListComp _ _ _ _=>qN<|r.n c ex
 | .Call f as kw _=>if cP3 S c f as kw then qN (r.n c ex) else qE (r.e c ex)
 | _=>qE<|r.e c ex
def xNl(c:Kx)(f:Expr)(as:List Expr)(kw:List dU):DA:=match f with
 | .Name x _=>(match as,kw with
  | [a],[]=>if biB S c "list" x&&pl a then(λρ=>(r.q c a ρ).map λq=>q.2) else aNo
  | _,_=>aNo)
 | _=>aNo
def xN(c:Kx)(ex:Expr):DA:=match ex with
 | .List es _=>if es.length<=1000 then evA (r.e c) es else aNo
 | .ListComp _ _ _ _=>evC S r c ex
 | .Call f as kw _=>xNl S r c f as kw
 | .BinOp a op b _=>(match op with
  | .Add=>cF7 (r.q c a)<|r.q c b
  | _=>aNo)
 | _=>aNo
def cc5(c:Kx)(a:Expr)(ops:List CmpOp)(bs:List Expr):DT:=match ops,bs with
 | [op],[b]=>if pl b then tB2 (opW S c op b) (r.e c a) (r.e c b) else tNo
 | [op,op'],[b,d]=>if pl d then aT0 (Z1 (aZ7 op) (aZ7 op') (r.e c a) (r.e c b)<|r.e c d) else tNo
 | _,_=>tNo
def cM7(c:Kx)(op:UnaryOp)(a:Expr):DT:=match op with
 | .Not=>R9<|r.t c a
 | _=>tNo
def xT(c:Kx)(ex:Expr):DT:=match ex with
 | .Compare a ops bs _=>cc5 S r c a ops bs
 | .BoolOp op vs _=>bI7 (r.t c) op vs
 | .UnaryOp op a _=>cM7 r c op a
 | _=>if plT ex then Q9 (r.e c ex) else tNo
def xG(c:Kx)(ex:Expr):DG:=match ex with
 | .Name x _=>(match Y9 x c.N with
  | some i=>if aW1 c x then C3 i else gNo
  | none=>gNo)
 | .Tuple es _ _=>if es.all pl then S1 es.length (ca3 (r.g c) es) else gNo
 | _=>gNo
def cE3(c:Kx)(x y:Str)(px py:Pos)(a b:Expr):Bool :=
 c.df&&pl a&&pl b && !(x==y)&&px.line==py.line&&c.sc.names.lookup x==Ob .local&&c.sc.names.lookup y==Ob .local && !(([a,b]:List Expr).all<|foldedForSure 8) && !(([a,b]:List Expr).all<|constantsAlone 8)
def ch0(c:Kx)(tg v:Expr)(es:List Expr):DS:=match cB2 es with
 | some ((x,px),(y,py))=>if ak8 v then(match cB1 v with
  | some (a,b)=>(match Y9 x c.N with
   | some i=>(match Y9 y c.N with
    | some j=>if cE3 c x y px py a b then bw9 i j (evA (r.e c) [a,b]) else E1
    | none=>E1)
   | none=>E1)
  | none=>E1) else bl4 (r.e c v) (r.g c tg)
 | none=>if ak8 v&&(es.length==2 || es.length==3) then E1 else bl4 (r.e c v) (r.g c tg)
def ch2(c:Kx)(x:Str)(p':Pos)(v:Expr):DS:=match Y9 x c.N with
 | none=>E1
 | some i=>if !(aW1 c x) then E1 else(match v with
  | .ListComp _ _ sc pv=>if c.sc.names.lookup x==Ob .local then
    (if c.df&&p'.line==pv.line && !(sc.names.any λ(n,k)=>n==x&&(k == .local || k == .cell)) then(if c.own.contains i then aj4 i (evC S r c v) else ac4 i (evC S r c v)) else E1)
   else B6 i (r.e c v)
  | _=>if isC v then E1 else if c.own.contains i then aj4 i (r.n c v) else B6 i (r.e c v))
def ch1(c:Kx)(a i v:Expr):DS:=match nmP a with
 | none=>E1
 | some x=>(match ck3 i with
  | none=>E1
  | some t=>if t.2.2.isSome then E1 else(match Y9 x.1 c.N with
   | none=>E1
   | some i=>if ai7 c.sc x.1 && !(isC v) then bw8 i (evO (r.e c) t.1) (evO (r.e c) t.2.1) (r.n c v) else E1))
def cA5(c:Kx)(tg v:Expr)(p:Pos):DS:=match tg with
 | .Name x p'=>ch2 S r c x p' v
 | .Subscript a i _=>ch1 r c a i v
 | .Tuple es _ _=>ch0 r c tg v es
 | _=>E1
def cg3(c:Kx)(x m:Str)(e:Expr):DS:=match Y9 x c.N with
 | none=>E1
 | some i=>if ai7 c.sc x&&pl e then(if m == "append" then af6 i (r.e c e) else if m == "extend" then aF6 i (r.e c e) else E1) else E1
def xEx(c:Kx)(e:Expr):DS:=match e with
 | .Call f args kw cpos=>(match f with
  | .Attribute o m apos=>(match o with
   | .Name x _=>(match args,kw with
    | [e],[]=>if apos.endLine==cpos.line then cg3 r c x m e else E1
    | _,_=>E1)
   | _=>E1)
  | _=>E1)
 | _=>E1
def cM8(c:Kx):Option Expr->DS
 | some e=>A8<|r.e c e
 | none=>E1
def xWh(c:Kx)(t:Expr)(a:List Stmt):List Stmt->DS
 | []=>aa2 (r.t c t)<|r.b c a
 | _=>E1
def xFo(c:Kx)(tg it:Expr)(a:List Stmt):List Stmt->DS
 | []=>if pl it then Y8 (evI S r c tg it) (r.g c tg) (r.b c a) else E1
 | _=>E1
def xAs(c:Kx)(v:Expr)(p:Pos):List Expr->DS
 | [tg]=>cA5 S r c tg v p
 | _=>E1
def xS0(c:Kx)(st:Stmt):DS:=match st with
 | .Return o _=>cM8 r c o
 | .If t a b _=>sIf (r.t c t) (r.b c a)<|r.b c b
 | .While t a o _=>xWh r c t a o
 | .For tg it a o _=>xFo S r c tg it a o
 | .Assign ts v p=>xAs S r c v p ts
 | .Expr e _=>xEx r c e
 | .Continue _=>cd2
 | .Break _=>λρ=>Ob<|.bk ρ
 | .Pass _=>K9
 | _=>E1
def cq6:Stmt->Nat
 | .Return _ p=>p.line
 | .If _ _ _ p=>p.line
 | .While _ _ _ p=>p.line
 | .For _ _ _ _ p=>p.line
 | .Assign _ _ p=>p.line
 | .Expr _ p=>p.line
 | _=>0
def fzW(g:DS):Option (List Nat)->DS
 | none=>g
 | some l=>l.foldl (λg i=>aL5 i g) g
def xS(c:Kx)(st:Stmt):DS:=fzW (xS0 S r c st)<|c.fz.lookup (cq6 st)
def evB(f:Stmt->DS):List Stmt->DS
 | []=>K9
 | [s]=>f s
 | s::t::T5=>A7 (f s)<|evB f (t::T5)
def step:Ev:=⟨xE S r,xQ S r,xN S r,xT S r,xG r,λc=>evB<|xS S r c⟩
end
def ev(S:Sg):Nat->Ev
 | 0=>⟨λ_ _=>dNo,λ_ _=>qNo,λ_ _=>aNo,λ_ _=>tNo,λ_ _=>gNo,λ_ _=>E1⟩
 | n+1=>step S<|ev S n
end G
namespace Sh
open PySem PySem.Spec PyProof.Rows L2 G
def br7:DS:=(A8<|u6 (ao7 "str"<|A1 0) (u6 (Z1 leI leI ⇑1 (cJ3<|A1 0) ⇑6)<|aJ2 (qN<|K1 1 [] (cP5<|A1 0) (C3 0) M1 (A4 (inS false) (A1 0)<|dC (.str "abcdefghijklmnopqrstuvwxyz")))))
def bs0:List D->Option D:=C6 br7 1
def ba9:DS:=(A8<|ao7 "bool" (A1 0))
def bb6:List D->Option D:=C6 ba9 1
def aR2:DS:=(A8<|u6 (A2 ab0<|A0 (A1 0) A3) (Z1 leI leI (bK3 ⇑9) (A1 0) ⇑9))
def as0:List D->Option D:=C6 aR2 1
def br8:DS:=(A7 (sIf (tB2 isB (A1 0)<|dC .none) (A8<|dC (.bool true)) K9)<|A7 (sIf (v4 (R9<|Q9 (ao7 "tuple"<|A1 0))<|tB2 neD (Z0<|A6 0) (Z0<|qE (dIx (A6 1) ⇑2))) (A8<|dC (.bool false)) K9) (A8<|aJ2 (qN<|K1 1 [] (T8<|A1 0) (C3 0) M1 (A2 ai6<|A0 (A1 0) A3))))
def bs1:List D->Option D:=C6 br8 2
def ag0:DS:=(A7 (sIf (v4 (tB2 neD (Z0<|A6 0) ⇑9)<|v4 (tB2 (inD true) (A2 T1<|A0 (A1 0) A3)<|dC (.tuple [(.str "over"),(.str "multiply"),(.str "screen"),(.str "plus"),(.str "atop"),(.str "cut")])) (R9<|Q9 (A2 bb8<|A0 (A2 X1<|A0 (A1 0) A3) A3))) (A8<|dC (.bool false)) K9)<|A8 (u6 (A2 as0<|A0 (A2 y8<|A0 (A1 0) A3) A3)<|u6 (A2 as0<|A0 (A2 ae0<|A0 (A1 0) A3) A3) (A2 bs1<|A0 (A2 af2<|A0 (A1 0) A3) (A0 (A2 X1<|A0 (A1 0) A3) A3))))
def ag2:List D->Option D:=C6 ag0 1
def ag1(self:Nat->List D->Option D):DS:=(A7 (sIf (v4 (tB2 neD (Z0<|A6 0) ⇑6)<|v4 (tB2 (inD true) (A2 T1<|A0 (A1 0) A3)<|dC (.tuple [(.str "over"),(.str "multiply"),(.str "screen"),(.str "plus"),(.str "atop"),(.str "cut")])) (tB2 eqD (A1 1) ⇑0)) (A8<|dC (.bool false)) K9)<|A8 (A2 (self 2)<|A0 (A2 K0<|A0 (A1 0) A3) (A0 (A4 as1 (A1 1) ⇑1) A3)))
def as8(self:Nat->List D->Option D):DS:=(A7 (sIf (v4 (R9<|Q9 (ao7 "tuple"<|A1 0))<|tB2 ltI (Z0<|A6 0) ⇑5) (A8<|dC (.bool false)) K9)<|A7 (sIf (v4 (R9<|Q9 (A2 bs0<|A0 (A2 O3<|A0 (A1 0) A3) A3))<|v4 (R9<|Q9 (A2 ai6<|A0 (A2 P1<|A0 (A1 0) A3) A3)) (R9<|Q9 (A2 bb6<|A0 (A2 R6<|A0 (A1 0) A3) A3))) (A8<|dC (.bool false)) K9) (A7 (sIf (Q9<|A2 m8 (A0 (A1 0) A3)) (A8<|A2 ag2 (A0 (A1 0) A3)) K9)<|A7 (sIf (Q9<|A2 R7 (A0 (A1 0) A3)) (A8<|A2 (self 0) (A0 (A1 0)<|A0 (A1 1) A3)) K9) (A8<|u6 (A2 Q8<|A0 (A1 0) A3) (u6 (A4 eqD (Z0<|A6 0) ⇑5)<|A4 (inD false) (A2 af0<|A0 (A1 0) A3) (dC<|.tuple [(.str "turn"),(.str "grey"),(.str "round")])))))
def aR3(self:Nat->List D->Option D):DS:=(A8<|u6 (ao7 "tuple"<|A1 0) (aJ2<|qN (K1 1 [1] (T8<|A1 0) (C3 0) M1<|A2 (self 1) (A0 (A1 0)<|A0 (A1 1) A3))))
def D9:Nat->Nat->List D->Option D
 | 0=>λ_ _=>Oa
 | k+1=>λi=>match i with
  | 0=>C6 (ag1<|D9 k) 2
  | 1=>C6 (as8<|D9 k) 2
  | 2=>C6 (aR3<|D9 k) 2
  | _=>λ_=>Oa
def ag6(self:List D->Option D):DS:=(A7 (aj4 1 A3)<|A7 (Y8 (T8<|A1 0) (C3 2)<|A7 (af6 1<|A2 O3 (A0 (A1 2) A3)) (sIf (Q9<|A2 R7 (A0 (A1 2) A3)) (aF6 1<|A2 self (A0 (A2 K0<|A0 (A1 2) A3) A3)) K9)) (aL5 1<|A8 (A1 1)))
def N8:Nat->List D->Option D
 | 0=>λ_=>Oa
 | k+1=>C6 (ag6<|N8 k) 3
def as9:DS:=(A7 (ac4 2<|K1 2 [1] (T8<|A2 V9 (A0 (dIx (A6 0) ⇑0)<|A0 (dIx (A6 0) ⇑1) A3)) (S1 2<|C9 (C3 0) (C9 (C3 1) S7)) M1 (A2 (af5 12)<|A0 (A1 2) (A0 (A1 0)<|A0 (A1 1) A3)))<|A8 (N7<|A0 (dIx (A6 0) ⇑0) (A0 (dIx (A6 0) ⇑1)<|A0 (S2<|A6 2) A3)))
def at1:List D->Option D:=C6 as9 3
def ay4:DS:=(A8<|A2 (N8 12) (A0 (dIx (A6 0) ⇑2) A3))
def m4:List D->Option D:=C6 ay4 1
def X6:DS:=(A7 (sIf (v4 (tB2 leI (A1 2)<|A1 0)<|tB2 leI (A1 3) (A1 1)) (A8<|dC .none) K9)<|A8 (N7<|A0 (A1 0) (A0 (A1 1)<|A0 (A4 as1 (A1 2)<|A1 0) (A0 (A4 as1 (A1 3)<|A1 1) A3))))
def X8:List D->Option D:=C6 X6 4
def g8:DS:=(A7 (sIf (tB2 isB (A1 0)<|dC .none) (A8<|A1 1) K9)<|A7 (sIf (tB2 isB (A1 1)<|dC .none) (A8<|A1 0) K9) (A7 (B6 2<|ab7 (A4 B0 (dIx (A6 0) ⇑0)<|dIx (A6 0) ⇑2) (A4 B0 (dIx (A6 1) ⇑0)<|dIx (A6 1) ⇑2))<|A7 (B6 3<|ab7 (A4 B0 (dIx (A6 0) ⇑1)<|dIx (A6 0) ⇑3) (A4 B0 (dIx (A6 1) ⇑1)<|dIx (A6 1) ⇑3)) (A8<|A2 X8 (A0 (ab6 (dIx (A6 0) ⇑0)<|dIx (A6 1) ⇑0)<|A0 (ab6 (dIx (A6 0) ⇑1)<|dIx (A6 1) ⇑1) (A0 (A1 2)<|A0 (A1 3) A3)))))
def N9:List D->Option D:=C6 g8 4
def ay9:DS:=(A7 (B6 1<|dC .none)<|A7 (Y8 (T8<|A1 0) (C3 2)<|B6 1 (A2 N9<|A0 (A1 1) (A0 (A1 2) A3))) (A8<|A1 1))
def m7:List D->Option D:=C6 ay9 3
def aQ6:DS:=(A8<|N7 (A0 ⇑0<|A0 ⇑0 (A0 (dIx (A6 0) ⇑0)<|A0 (dIx (A6 0) ⇑1) A3)))
def S9:List D->Option D:=C6 aQ6 1
def ar6:DS:=(A7 (sIf (tB2 isB (A1 0)<|dC .none) (A8<|ab8 A3) K9)<|A8 (ab8<|K1 2 [0] (T8<|A2 V9 (A0 (dIx (A6 0) ⇑2)<|A0 (dIx (A6 0) ⇑3) A3)) (S1 2<|C9 (C3 0) (C9 (C3 1) S7)) M1 (N7<|A0 (A4 B0 (dIx (A6 2) ⇑0)<|A1 0) (A0 (A4 B0 (dIx (A6 2) ⇑1)<|A1 1) A3))))
def W0:List D->Option D:=C6 ar6 1
def p7:DS:=(B6 2<|A2 y8 (A0 (A1 1) A3))
def p6:DS:=(B6 3<|A2 ae0 (A0 (A1 1) A3))
def o9:DS:=(B6 4<|A2 X1 (A0 (A1 1) A3))
def o8:DS:=(B6 5<|ab6 (A4 B0 (A1 2)<|dIx (A6 4) ⇑0) (dIx (A6 0) ⇑0))
def o7:DS:=(B6 6<|ab6 (A4 B0 (A1 3)<|dIx (A6 4) ⇑1) (dIx (A6 0) ⇑1))
def o6:DS:=(A8<|A2 X8 (A0 (ab7 (A1 2) ⇑0)<|A0 (ab7 (A1 3) ⇑0) (A0 (A1 5)<|A0 (A1 6) A3)))
def ad9:DS:=(A7 p7<|A7 p6 (A7 o9<|A7 o8 (A7 o7 o6)))
def n4:List D->Option D:=C6 ad9 7
def W3(self:List D->Option D):DS:=(A7 (sIf (R9<|Q9 (A2 R6<|A0 (A1 1) A3)) (A8<|dC .none) K9)<|A7 (sIf (Q9<|A2 Q8 (A0 (A1 1) A3)) (A8<|A2 S9 (A0 (A1 0) A3)) K9) (A7 (sIf (Q9<|A2 R7 (A0 (A1 1) A3)) (A8<|A2 m7 (A0 (ab8<|K1 1 [0] (T8<|A2 K0 (A0 (A1 1) A3)) (C3 0) (R9<|Q9 (A2 Q8<|A0 (A1 0) A3)) (A2 self<|A0 (A1 1) (A0 (A1 0) A3))) A3)) K9)<|A8 (A2 n4<|A0 (A1 0) (A0 (A1 1) A3))))
def O1:Nat->List D->Option D
 | 0=>λ_=>Oa
 | k+1=>C6 (W3<|O1 k) 2
def aR0(self:List D->Option D):DS:=(A7 (aj4 3 A3)<|A7 (Y8 (T8<|A1 0) (C3 4)<|sIf (tB2 eqD (dIx (A6 4) ⇑1)<|A1 1) (aF6 3<|A1 2) (sIf (tB2 eqD (dIx (A6 4) ⇑0)<|dC (.str "group")) (af6 3<|A4 B0 (ai0 (A1 4) U7<|O5 ⇑5) (N7<|A0 (A2 self<|A0 (dIx (A6 4) ⇑5) (A0 (A1 1)<|A0 (A1 2) A3)) A3))<|af6 3 (A1 4))) (A8<|S2 (A6 3)))
def Q7:Nat->List D->Option D
 | 0=>λ_=>Oa
 | k+1=>C6 (aR0<|Q7 k) 5
def bM9:DS:=(A7 (sIf (v4 (Q9<|A2 Q8 (A0 (A1 1) A3))<|v4 (R9<|Q9 (A2 R6<|A0 (A1 1) A3)) (tB2 neD (A2 T1<|A0 (A1 1) A3)<|dC (.str "over"))) (A8<|dC (.bool false)) K9)<|A8 (aJ2<|qN (K1 1 [] (T8<|dIx (qE<|A2 at1 (A0 (A1 0)<|A0 (A1 1) A3)) ⇑2) (C3 0) M1<|A4 eqD (dIx (A6 0) ⇑0) (dC<|.tuple [(.int 1),(.int 1)]))))
def bN1:List D->Option D:=C6 bM9 2
end Sh
namespace Sh
open PySem G
def cp3(i j:Int):neD (.int i) (.int j)=Ob (.bool (!(i==j))):=rfl
def bn7(i j:Int):eqD (.int i) (.int j)=Ob (.bool<|i==j):=rfl
def bh6{t:Rho->Option Bool}{f:DS}{n:Nat}{ρ ρ':Rho}(h1:t ρ=Ob true)(h2:f ρ=Ob (.nx ρ')):Y2 t f (n+1) ρ=Y2 t f n ρ':=by simp only[Y2,h1,h2,xbs,if_true]
def bG9:∀(b a:Nat) (x:Option B),∃n x',Y2 (tB2 neD (A1 1) ⇑0) (A7 (B6 2<|A4 n6 (A1 0) (A1 1))<|A7 (B6 0<|A1 1) (B6 1<|A1 2)) n [‹.int a›,‹.int b›,x]
  = Ob (.nx [‹.int (ce a b)›,‹.int 0›,x']):=by
 intro b
 induction b using Nat.strongRecOn with
 | _ b ih =>
  intro a x;by_cases hb:b=0
  .subst hb;refine⟨1,x,?_⟩;rw[Nat.gcd_zero_right];rfl
  .obtain⟨n,x',h⟩:=ih (a % b) (cT _<|cz hb) b (‹.int ((a % b:Nat):Int)›);refine⟨n+1,x',?_⟩
   have e1:tB2 neD (A1 1) ⇑0 [‹.int a›,‹.int b›,x]=Ob true:=by
    show(neD (.int b)<|.int 0).bind k6=Ob true;rw[cp3];have:((b:Int)==0)=false:=by simp;omega
    rw[this];rfl
   have e2:n6 (.int a) (.int b)=Ob (.int ((a % b:Nat):Int)):=by
    show(if(0:Int) < (b:Int) then Ob (eG<|(a:Int) % (b:Int)) else Oa)=_;rw[if_pos (by omega)];simp
   have e3:A7 (B6 2<|A4 n6 (A1 0) (A1 1)) (A7 (B6 0<|A1 1)<|B6 1 (A1 2)) [‹.int a›,‹.int b›,x]=Ob (.nx [‹.int b›,‹.int ((a % b:Nat):Int)›,‹.int ((a % b:Nat):Int)›]):=by
    show((((n6 (.int a)<|.int b)).map λd=>Fl.nx [‹.int a›,‹.int b›,‹d›]).bind _)=_;rw[e2];rfl
   rw[bh6 e1 e3,h,Nat.gcd_comm b,Nat.gcd_comm a b,← Nat.gcd_rec]
def cM2(a b:Nat):U2 [.int a,.int b]=Ob (.int<|ce a b):=by
 obtain⟨n,x',h⟩:=bG9 b a Oa;show((aa2 _ _ [‹.int a›,‹.int b›,Oa]).bind _).bind _=_;rw[aB4 h];rfl
def bm8:∀(a b:Nat) (t u:D),∃n,Y2 (tB2 gtI (A1 2) ⇑0) (bw9 2 3<|A0 (A4 n6 (A1 3)<|A1 2) (A0 (A1 2) A3)) n [‹t›,‹u›,‹.int a›,‹.int b›]
  = Ob (.nx [‹t›,‹u›,‹.int 0›,‹.int (ce a b)›]):=by
 intro a
 induction a using Nat.strongRecOn with
 | _ a ih =>
  intro b t u;by_cases ha:a=0
  .subst ha;refine⟨1,?_⟩;rw[Nat.gcd_zero_left];rfl
  .obtain⟨n,h⟩:=ih (b % a) (cT _<|cz ha) a t u;refine⟨n+1,?_⟩
   have e1:tB2 gtI (A1 2) ⇑0 [‹t›,‹u›,‹.int a›,‹.int b›]=Ob true:=by
    show Ob (decide ((0:Int) < (a:Int)))=Ob true;rw[decide_eq_true (by omega)]
   have e2:n6 (.int b) (.int a)=Ob (.int ((b % a:Nat):Int)):=by
    show(if(0:Int) < (a:Int) then Ob (eG<|(b:Int) % (a:Int)) else Oa)=_;rw[if_pos (by omega)];simp
   have e3:bw9 2 3 (A0 (A4 n6 (A1 3)<|A1 2)<|A0 (A1 2) A3) [‹t›,‹u›,‹.int a›,‹.int b›]=Ob (.nx [‹t›,‹u›,‹.int ((b % a:Nat):Int)›,‹.int a›]):=by
    show((n6 (.int b)<|.int a).bind λd=>(Ob [eG (a:Int)]).map λds=>d::ds).bind _=_;rw[e2];rfl
   rw[bh6 e1 e3,h,← Nat.gcd_rec]
def fr(r:Rat):D:=.tuple [.int r.num,.int r.den]
def O0{i:Int}{k:Nat}(h:i.natAbs < 2 ^ k)(hk:k<=8000):K7 i:=aE h (ck (by decide) hk)
def aN4(a b:Nat)(hb:0 < b):fr (mkRat a b)=.tuple [.int ((a / ce a b:Nat):Int),.int ((b / ce a b:Nat):Int)]:=by
 unfold fr;rw[Rat.num_mkRat,Rat.den_mkRat,if_neg (by omega),if_neg (by omega)];have e:b.gcd (a:Int).natAbs=ce a b:=by rw[bX,Nat.gcd_comm]
 rw[e];simp
def bi3(a b x k:Nat)(hb:0 < b)(hk:b < 2 ^ k)(hk8:k<=8000):ah7 (.int x) (.int<|ce a b)=Ob (.int ((x / ce a b:Nat):Int)):=by
 have g0:0 < ce a b:=Nat.gcd_pos_of_pos_right _ hb;have gs:K7 (ce a b:Nat):=O0 (k:=k) (by rw[bX];exact bW (Nat.le_of_dvd hb<|Nat.gcd_dvd_right a b) hk) hk8;show(if(0:Int) < ((ce a b:Nat):Int)/\K7 (ce a b:Nat) then Ob (eG<|(x:Int) / ((ce a b:Nat):Int)) else Oa)=_;rw[if_pos ⟨by omega,gs⟩];simp
def aK0(a b k:Nat)(hb:0 < b)(hk:b < 2 ^ k)(hk8:k<=8000):W4 [.int a,.int b]=Ob (fr<|mkRat a b):=by
 have d:=λx=>bi3 a b x k hb hk hk8
 have e:g7 [‹.int a›,‹.int b›,Oa]=Ob (.rt<|fr (mkRat a b)):=by
  rw[aN4 a b hb];simp only[g7,A7,B6,A2,A0,A3,A1,xg0,xg1,xbs,xms,cM2,xw1,xw0,A8,N7,A4,d]
 show(g7 [‹.int a›,‹.int b›,Oa]).bind _=_;rw[e];rfl
def bN0(a b k:Nat)(hb:0 < b)(hk:b < 2 ^ k)(hk8:k<=8000):am6 [.int a,.int b]=Ob (fr<|mkRat a b):=by
 have d:=λx=>bi3 a b x k hb hk hk8
 obtain⟨n,h⟩:=bm8 a b (.int a)<|.int b
 have e:am5 [‹.int a›,‹.int b›,Oa,Oa]=Ob (.rt<|fr (mkRat a b)):=by
  rw[aN4 a b hb];simp only[am5,A7,B6,A2,A0,A3,A1,xg0,xg1,xbs,xms,xw1,xw0,A8,N7,A4,d,aB4 h]
 show(am5 [‹.int a›,‹.int b›,Oa,Oa]).bind _=_;rw[e];rfl
structure Bd (k:Nat) (r:Rat):Prop where
 nn:0<=r
 num:r.num.natAbs < 2 ^ k
 den:r.den < 2 ^ k
def Bd.mono{j k:Nat}{r:Rat}(h:Bd j r)(l:j<=k):Bd k r:=⟨h.nn,aE h.num (ck (by decide) l),aE h.den<|ck (by decide) l⟩
def Bd.nat{k:Nat}{r:Rat}(h:Bd k r):r.num=(r.num.natAbs:Int):=by
 have:=Rat.num_nonneg.mpr h.nn;omega
def bB8(a b:Nat):0<=mkRat (a:Int) b:=by
 rw[← Rat.num_nonneg,Rat.num_mkRat];split
 .exact cY _
 .exact Int.ediv_nonneg (by omega) (by omega)
def Bd.of{a b k:Nat}(hb:0 < b)(h1:a < 2 ^ k)(h2:b < 2 ^ k):Bd k (mkRat a b):=by
 refine⟨bB8 a b,?_,?_⟩
 .rw[Rat.num_mkRat,if_neg (by omega)];rw[show((a:Int) / ((b.gcd (a:Int).natAbs:Nat):Int))=((a / b.gcd (a:Int).natAbs:Nat):Int) by simp,bX];exact bW (dt _ _) h1
 .rw[Rat.den_mkRat,if_neg (by omega)];exact bW (dt _ _) h2
def P2{a b j k:Nat}(h1:a < 2 ^ j)(h2:b < 2 ^ k):a*b < 2 ^ (j+k):=by
 rw[Nat.pow_add];exact Nat.mul_lt_mul'' h1 h2
def aG2{j k:Nat}{r s:Rat}(hr:Bd j r)(hs:Bd k s):r*s=mkRat ((r.num.natAbs*s.num.natAbs:Nat):Int) (r.den*s.den):=by rw[Rat.mul_def,Rat.normalize_eq_mkRat,aI,← hr.nat,← hs.nat]
def be2{j k:Nat}{r s:Rat}(hr:Bd j r)(hs:Bd k s):r+s=mkRat ((r.num.natAbs*s.den+s.num.natAbs*r.den:Nat):Int) (r.den*s.den):=by rw[Rat.add_def,Rat.normalize_eq_mkRat,du,aI,aI,← hr.nat,← hs.nat]
def bv1{j k:Nat}{r s:Rat}(hr:Bd j r)(hs:Bd k s)(l:s<=r):s.num.natAbs*r.den<=r.num.natAbs*s.den:=by
 have:=(Rat.le_iff s r).mp l;rw[hr.nat,hs.nat]at this
 exact_mod_cast this
def be1{j k:Nat}{r s:Rat}(hr:Bd j r)(hs:Bd k s)(l:s<=r):r - s=mkRat ((r.num.natAbs*s.den - s.num.natAbs*r.den:Nat):Int) (r.den*s.den):=by rw[Rat.sub_def,Rat.normalize_eq_mkRat,Int.ofNat_sub (bv1 hr hs l),aI,aI,← hr.nat,← hs.nat]
def O2(r:Rat):0 < r.den:=cz r.den_nz
def Bd.mul{j k:Nat}{r s:Rat}(hr:Bd j r)(hs:Bd k s):Bd (j+k) (r*s):=by
 rw[aG2 hr hs];exact Bd.of (bz (O2 r)<|O2 s) (P2 hr.num hs.num)<|P2 hr.den hs.den
def Bd.add{j k:Nat}{r s:Rat}(hr:Bd j r)(hs:Bd k s):Bd (j+k+1) (r+s):=by
 rw[be2 hr hs];have h1:=P2 hr.num hs.den;have h2:=P2 hs.num hr.den;have h3:=P2 hr.den hs.den;rw[dh k j]at h2;exact Bd.of (bz (O2 r)<|O2 s) (by rw[Nat.pow_succ];omega) (by rw[Nat.pow_succ];omega)
def Bd.sub{j k:Nat}{r s:Rat}(hr:Bd j r)(hs:Bd k s)(l:s<=r):Bd (j+k) (r - s):=by
 rw[be1 hr hs l];have h1:=P2 hr.num hs.den;have h3:=P2 hr.den hs.den;exact Bd.of (bz (O2 r)<|O2 s) (by omega) (by omega)
def Bd.one:Bd 1 1:=⟨by decide,by decide,by decide⟩
def Bd.zero:Bd 1 0:=⟨by decide,by decide,by decide⟩
def bH4:fr 1=.tuple [.int 1,.int 1]:=rfl
def Bd.sn{k:Nat}{r:Rat}(h:Bd k r)(hk:k<=8000):K7 r.num:=O0 h.num hk
def Bd.sd{k:Nat}{r:Rat}(h:Bd k r)(hk:k<=8000):K7 r.den:=O0 (k:=k) (by rw[bX];exact h.den) hk
def U4{i j:Int}(h1:K7 i)(h2:K7 j):Y1 (.int i) (.int j)=Ob (.int<|i*j):=by
 show(if K7 i/\K7 j then Ob (eG<|i*j) else Oa)=_;rw[if_pos ⟨h1,h2⟩]
def bL0(i j:Int):x5 (.int i) (.int j)=Ob (.int<|i+j):=rfl
def bu9(i j:Int):as1 (.int i) (.int j)=Ob (.int<|i - j):=rfl
def cq7(i j:Int):leI (.int i) (.int j)=Ob (.bool<|decide (i<=j)):=rfl
def cz0(a b:D):L2.atI [a,b] 0=Ob a:=rfl
def cy9(a b:D):L2.atI [a,b] 1=Ob b:=rfl
def ix0{ρ:Rho}{i:Nat}{r:Rat}(h:ρ[i]? = Ob (‹fr r›)):dIx (A6 i) ⇑0 ρ=Ob (.int r.num):=by simp only[dIx,A6,h,fr,dC,xbs,cz0]
def ix1{ρ:Rho}{i:Nat}{r:Rat}(h:ρ[i]? = Ob (‹fr r›)):dIx (A6 i) ⇑1 ρ=Ob (.int r.den):=by simp only[dIx,A6,h,fr,dC,xbs,cy9]
def v0(x:Option B)(l:Rho):(x::l)[0]? = Ob x:=rfl
def v1(y x:Option B)(l:Rho):(y::x::l)[1]? = Ob x:=rfl
def N5{j k:Nat}{r s:Rat}(hr:Bd j r)(hs:Bd k s)(l:j+k<=8000):U1 [fr r,fr s]=Ob (fr<|r*s):=by
 have e:au6 [‹fr r›,‹fr s›]=Ob (.rt<|fr (r*s)):=by
  simp only[au6,A8,A2,A0,A3,A4,ix0 (v0 _ _),ix1 (v0 _ _),ix0 (v1 _ _ _),ix1 (v1 _ _ _),xbs,xms,U4 (hr.sn<|by omega) (hs.sn<|by omega),U4 (hr.sd<|by omega) (hs.sd<|by omega)];have:=aK0 (r.num.natAbs*s.num.natAbs) (r.den*s.den) (j+k) (bz (O2 r)<|O2 s) (P2 hr.den hs.den) l;rw[← aG2 hr hs,aI,aI,← hr.nat,← hs.nat]at this;rw[this];rfl
 show(au6 [‹fr r›,‹fr s›]).bind _=_;rw[e];rfl
def R8{j k:Nat}{r s:Rat}(hr:Bd j r)(hs:Bd k s)(l:j+k<=8000):U3 [fr r,fr s]=Ob (fr<|r+s):=by
 have e:au7 [‹fr r›,‹fr s›]=Ob (.rt<|fr (r+s)):=by
  simp only[au7,A8,A2,A0,A3,A4,ix0 (v0 _ _),ix1 (v0 _ _),ix0 (v1 _ _ _),ix1 (v1 _ _ _),xbs,xms,U4 (hr.sn<|by omega) (hs.sd<|by omega),U4 (hs.sn<|by omega) (hr.sd<|by omega),U4 (hr.sd<|by omega) (hs.sd<|by omega),bL0];have:=aK0 (r.num.natAbs*s.den+s.num.natAbs*r.den) (r.den*s.den) (j+k) (bz (O2 r)<|O2 s) (P2 hr.den hs.den) l;rw[← be2 hr hs,du,aI,aI,aI,← hr.nat,← hs.nat]at this;rw[this];rfl
 show(au7 [‹fr r›,‹fr s›]).bind _=_;rw[e];rfl
def S4{j k:Nat}{r s:Rat}(hr:Bd j r)(hs:Bd k s)(l:j+k<=8000)(hl:s<=r):T2 [fr r,fr s]=Ob (fr<|r - s):=by
 have e:aa7 [‹fr r›,‹fr s›]=Ob (.rt<|fr (r - s)):=by
  simp only[aa7,A8,A2,A0,A3,A4,ix0 (v0 _ _),ix1 (v0 _ _),ix0 (v1 _ _ _),ix1 (v1 _ _ _),xbs,xms,U4 (hr.sn<|by omega) (hs.sd<|by omega),U4 (hs.sn<|by omega) (hr.sd<|by omega),U4 (hr.sd<|by omega) (hs.sd<|by omega),bu9];have:=aK0 (r.num.natAbs*s.den - s.num.natAbs*r.den) (r.den*s.den) (j+k) (bz (O2 r)<|O2 s) (P2 hr.den hs.den) l;rw[← be1 hr hs hl,Int.ofNat_sub (bv1 hr hs hl),aI,aI,aI,← hr.nat,← hs.nat]at this;rw[this];rfl
 show(aa7 [‹fr r›,‹fr s›]).bind _=_;rw[e];rfl
def af1{k:Nat}{s:Rat}(hs:Bd k s)(l:k+1<=8000)(hl:s<=1):i6 [fr s]=Ob (fr<|1 - s):=by
 have e:ae7 [‹fr s›]=Ob (.rt<|fr (1 - s)):=by
  simp only[ae7,A8,A2,A0,A3,dC,A1,xg0,xbs,xms];rw[← bH4,S4 Bd.one hs (by omega) hl];rfl
 show(ae7 [‹fr s›]).bind _=_;rw[e];rfl
def aR5{j k:Nat}{r s:Rat}(hr:Bd j r)(hs:Bd k s)(l:j+k<=8000):i5 [fr r,fr s]=Ob (.bool<|decide (r<=s)):=by
 have e:h9 [‹fr r›,‹fr s›]=Ob (.rt<|.bool (decide (r<=s))):=by
  simp only[h9,A8,A2,A0,A3,A4,ix0 (v0 _ _),ix1 (v0 _ _),ix0 (v1 _ _ _),ix1 (v1 _ _ _),xbs,xms,U4 (hr.sn<|by omega) (hs.sd<|by omega),U4 (hs.sn<|by omega) (hr.sd<|by omega),cq7];simp only[← Rat.le_iff]
 show(h9 [‹fr r›,‹fr s›]).bind _=_;rw[e];rfl
def aR6{k:Nat}{r:Rat}(hr:Bd k r)(l:k+1<=8000):X9 [fr r]=Ob (fr (if r<=1 then r else 1)):=by
 have e:X7 [‹fr r›]=Ob (.rt<|fr (if r<=1 then r else 1)):=by
  simp only[X7,A8,aP8,Q9,A2,A0,A3,dC,A1,xg0,xbs,xms];rw[← bH4,aR5 hr Bd.one l];by_cases h:r<=1
  .simp[h,bk5]
  .simp[h,bk5]
 show(X7 [‹fr r›]).bind _=_;rw[e];rfl
end Sh
set_option exponentiation.threshold 9000
namespace Sh
open PySem G L2
def cG0(i j:Int):ltI (.int i) (.int j)=Ob (.bool<|decide (i < j)):=rfl
def cI5(i j:Int):gtI (.int i) (.int j)=Ob (.bool<|decide (j < i)):=rfl
def bS0{α:Type}(x:α):aj 0 x=[]:=rfl
def bR9{α:Type}(x:α):aj 1 x=[x]:=rfl
def bR8{α:Type}(x:α):aj 2 x=[x,x]:=rfl
def bi4(a b c d:D):u7 [a,b,c,d] (Ob 1) Oa=[b,c,d]:=rfl
def cL2(a b c d:D):L2.atI [a,b,c,d] 0=Ob a:=rfl
def cL1(a b c d:D):L2.atI [a,b,c,d] 1=Ob b:=rfl
def cL0(a b c d:D):L2.atI [a,b,c,d] 2=Ob c:=rfl
def cK9(a b c d:D):L2.atI [a,b,c,d] 3=Ob d:=rfl
def cL5(a b c:D):L2.atI [a,b,c] 0=Ob a:=rfl
def cL4(a b c:D):L2.atI [a,b,c] 1=Ob b:=rfl
def cL3(a b c:D):L2.atI [a,b,c] 2=Ob c:=rfl
def v5{n k:Nat}(h:n < 2 ^ k)(hk:k<=8000):K7 (n:Int):=O0 (k:=k) (by rw[bX];exact h) hk
def aC3{i j:Int}(h:0 < j):n6 (.int i) (.int j)=Ob (.int<|i % j):=by
 show(if(0:Int) < j then Ob (eG<|i % j) else Oa)=_;rw[if_pos h]
def aO9{i j:Int}(h:0 < j)(s:K7 j):ah7 (.int i) (.int j)=Ob (.int<|i / j):=by
 show(if(0:Int) < j/\K7 j then Ob (eG<|i / j) else Oa)=_;rw[if_pos ⟨h,s⟩]
def A9{g:DS}{n:Nat}{ds:List D}{ρ:Rho}{d:D}(h:Q5 n ds=ρ)(e:g ρ=Ob (.rt d)):C6 g n ds=Ob d:=by
 unfold C6;rw[h,e];rfl
def rX3{g:DS}{a b c z:D}(e:g [‹a›,‹b›,‹c›]=Ob (.rt z)):C6 g 3 [a,b,c]=Ob z:=A9 rfl e
def ai4{j k:Nat}{r s:Rat}(hr:Bd j r)(hs:Bd k s)(l:j+k<=8000):ap5 [fr r,fr s]=Ob (fr<|r*s):=by
 refine A9 (ρ:=[‹fr r›,‹fr s›]) rfl ?_;simp only[aE1,A8,A2,A0,A3,A4,ix0 (v0 _ _),ix1 (v0 _ _),ix0 (v1 _ _ _),ix1 (v1 _ _ _),xbs,xms,U4 (hr.sn<|by grind) (hs.sn<|by grind),U4 (hr.sd<|by grind) (hs.sd<|by grind)];have:=bN0 (r.num.natAbs*s.num.natAbs) (r.den*s.den) (j+k) (bz (O2 r)<|O2 s) (P2 hr.den hs.den) l;rw[← aG2 hr hs,aI,aI,← hr.nat,← hs.nat]at this;rw[this];rfl
def aD2(ns:List Int)(k:Nat):Int:=if ns.length=0 then 7*(k:Int) else ns.getD (k % ns.length) 0+6553*((k / ns.length:Nat):Int)
def bJ0(ns:List Int):eqD (.list<|ns.map eG) (.list [])=Ob (.bool<|decide (ns.length=0)):=by
 have h1:eE (.list<|ns.map eG)=true:=by
  have c:∀l:List Int,PyData.canLayAll0 (l.map eG)=true:=λl=>by
   induction l with
   | nil=>rfl
   | cons a r ih=>simp only[xmc,PyData.canLayAll0,eJ,ih];rfl
  have d:∀l:List Int,PyData.depthAll (l.map eG)=0:=λl=>by
   induction l with
   | nil=>rfl
   | cons a r ih=>simp only[xmc,PyData.depthAll,PyData.depth,ih];rfl
  unfold eE;simp only[eJ,c,PyData.depth,d];rfl
 unfold eqD;rw[if_pos ⟨h1,rfl⟩];cases ns with
 | nil=>rfl
 | cons a r=>simp[eF,PyData.eqvAll]
end Sh
local macro_rules
  | `(tactic| exists evP, $ts,*) => `(tactic| simp only [G.A7, G.B6, G.A8, G.sIf, G.K9, G.ac4, G.bl4, G.A1, G.dC, G.N7, G.ab8, G.A4, G.A2, G.u6, G.dOr, G.bK2, G.Z1, G.S2, G.aJ2, G.aZ3, G.ao7, G.U7, G.O5, G.bh7, G.A3, G.A0, G.Q9, G.tB2, G.bc7, G.v4, G.R9, G.bk5, G.k6, G.M1, G.C3, G.S1, G.C9, G.S7, G.T8, G.cw5, G.xg0, G.xg1, G.xw0, G.xw1, G.xbs, G.xms, G.xmc, G.xmn, G.xna, G.xca, Sh.bL0, Sh.bu9, Sh.cq7, Sh.cp3, Sh.bn7, Sh.cG0, Sh.cI5, Sh.cL2, Sh.cL1, Sh.cL0, Sh.cK9, Sh.cL5, Sh.cL4, Sh.cL3, Sh.cz0, Sh.cy9, G.xnt, G.xnf, G.xft, if_true, if_false, $[$ts:term],*])
local macro_rules
  | `(tactic| exists evB) => `(tactic| exists evP, G.dIx, G.Z0, G.A6, G.qE, G.qN, G.aL4)
  | `(tactic| exists evB, $ts,*) => `(tactic| exists evP, G.dIx, G.Z0, G.A6, G.qE, G.qN, G.aL4, $ts,*)
local macro_rules
  | `(tactic| exists evA) => `(tactic| exists evB, G.aP8, G.aA2, G.K1, G.k4, G.al9, G.P0, G.aO2, Sh.bS0, Sh.bR9, Sh.bR8, Sh.bi4, ite_true, ite_false)
  | `(tactic| exists evA, $ts,*) => `(tactic| exists evB, G.aP8, G.aA2, G.K1, G.k4, G.al9, G.P0, G.aO2, Sh.bS0, Sh.bR9, Sh.bR8, Sh.bi4, ite_true, ite_false, $ts,*)
local macro_rules
  | `(tactic| exists evD) => `(tactic| exists evB, G.ad5, G.aT0)
  | `(tactic| exists evD, $ts,*) => `(tactic| exists evB, G.ad5, G.aT0, $ts,*)
local macro_rules
  | `(tactic| exists evC) => `(tactic| exists evD, G.aP8, G.aA2, G.K1, G.k4, G.al9, G.P0, G.aO2, Sh.bS0, Sh.bR9, Sh.bR8, Sh.bi4, ite_true, ite_false)
  | `(tactic| exists evC, $ts,*) => `(tactic| exists evD, G.aP8, G.aA2, G.K1, G.k4, G.al9, G.P0, G.aO2, Sh.bS0, Sh.bR9, Sh.bR8, Sh.bi4, ite_true, ite_false, $ts,*)
local macro_rules
  | `(tactic| exists evQ) => `(tactic| exists evP, G.ad5, G.aT0)
  | `(tactic| exists evQ, $ts,*) => `(tactic| exists evP, G.ad5, G.aT0, $ts,*)
namespace Sh
open PySem G L2
def cz6(ns:List Int)(k:Nat)(hn:ns.length<=63)(hk:k < 2 ^ 60):az0 [.list (ns.map eG),.int k]=Ob (.int<|aD2 ns k):=by
 refine A9 (ρ:=[‹.list (ns.map eG)›,‹.int k›]) rfl ?_;have sk:K7 (k:Int):=v5 hk (by decide);by_cases h:ns.length=0
 .have e:aD2 ns k=7*(k:Int):=by unfold aD2;rw[if_pos h]
  exists evA,ay8,bJ0,h,decide_true,U4 (i:=7) (O0 (k:=3) (by decide)<|by decide) sk,e
 .have e:aD2 ns k=ns.getD (k % ns.length) 0+6553*((k / ns.length:Nat):Int):=by unfold aD2;rw[if_neg h]
  have hl:(List.map eG ns).length=ns.length:=ay ..;have hp:0 < ns.length:=cz h;have m1:n6 (.int k) (.int ns.length)=Ob (.int ((k % ns.length:Nat):Int)):=by rw[aC3 (by grind)];simp
  have m2:ah7 (.int k) (.int ns.length)=Ob (.int ((k / ns.length:Nat):Int)):=by rw[aO9 (by grind) (v5 (k:=6) (by grind)<|by decide)];simp
  have m3:L2.atI (List.map eG ns) ((k % ns.length:Nat):Int)=Ob (.int<|ns.getD (k % ns.length) 0):=by
   refine L2.cb8 ?_;have hlt:k % ns.length < ns.length:=cT _ hp;rw[av,ao hlt];simp[List.getD,hlt]
  have sq:K7 ((k / ns.length:Nat):Int):=v5 (k:=60) (bW (dt _ _) hk) (by decide)
  exists evA,ay8,bJ0,h,decide_false,hl,m1,m2,m3,U4 (i:=6553) (O0 (k:=13) (by decide)<|by decide) sq,e
def al5(ns:List Int)(k:Nat)(m:Int):Int :=
 let c:=(aD2 ns k % 2147483563*69069+104723*((k:Int)+1)) % 2147483563
 let c:=(c*c+c / 3) % 2147483399
 (c*c+c / 7) % 2147483647 / 11 % m
def av6{i:Int}(h0:0<=i)(h:i < 4294967296):K7 i:=O0 (k:=32) (by omega) (by decide)
def au9(ns:List Int)(k:Nat)(m:Int)(hn:ns.length<=63)(hk:k < 2 ^ 60)(hm:0 < m):A5 [.list (ns.map eG),.int k,.int m]=Ob (.int<|al5 ns k m):=by
 refine A9 (ρ:=[‹.list (ns.map eG)›,‹.int k›,‹.int m›,Oa]) rfl ?_;have c0:∀x:Int,K7 (x % 2147483563):=λx=>av6 (by grind) (by grind)
 have c1:∀x:Int,K7 (x % 2147483399):=λx=>av6 (by grind) (by grind)
 have sk:K7 ((k:Int)+1):=O0 (k:=61) (by grind) (by decide);have s1:K7 69069:=O0 (k:=17) (by decide) (by decide);have s2:K7 104723:=O0 (k:=17) (by decide) (by decide);have s3:K7 3:=O0 (k:=2) (by decide) (by decide);have s7:K7 7:=O0 (k:=3) (by decide) (by decide);have s11:K7 11:=O0 (k:=4) (by decide) (by decide)
 exists evA,aE5,cz6 ns k hn hk,aC3 (show(0:Int) < 2147483563 by decide),aC3 (show(0:Int) < 2147483399 by decide),aC3 (show(0:Int) < 2147483647 by decide),aC3 hm,U4 (c0 _) s1,U4 s2 sk,U4 (c0 _) (c0 _),U4 (c1 _) (c1 _),aO9 (show(0:Int) < 3 by decide) s3,aO9 (show(0:Int) < 7 by decide) s7,aO9 (show(0:Int) < 11 by decide) s11
 rfl
def au3(ns:List Int)(k:Nat)(m:Int)(hm:0 < m):0<=al5 ns k m/\al5 ns k m < m:=by
 unfold al5;exact⟨Int.emod_nonneg _ (by omega),Int.emod_lt_of_pos _ hm⟩
structure IsSh (k:Nat) (r:Rat):Prop where
 bd:Bd k r
 le:r<=1
def bn0{a b:Nat}(hb:0 < b)(h:a<=b):mkRat (a:Int) b<=1:=by
 rw[Rat.le_iff,Rat.num_mkRat,Rat.den_mkRat,if_neg (by omega),if_neg (by omega)];have e0:(1:Rat).num=1:=rfl;have e1:(1:Rat).den=1:=rfl;rw[e0,e1];have:a / b.gcd a<=b / b.gcd a:=Nat.div_le_div_right h;simp
 exact_mod_cast this
def ae9(ns:List Int)(at':Nat)(hn:ns.length<=63)(hk:at' < 2 ^ 40):∃r,P7 [.list (ns.map eG),.int at']=Ob (fr r)/\IsSh 4 r:=by
 obtain⟨u0,u1⟩:=au3 ns at' 12 (by decide);obtain⟨u,hu⟩:∃u:Nat,(1:Int)+al5 ns at' 12=u/\0 < u/\u<=12:=⟨(1+al5 ns at' 12).toNat,by grind,by grind,by grind⟩;obtain⟨t0,t1⟩:=au3 ns (at'+1) ((u:Int)+1) (by grind);obtain⟨t,ht⟩:∃t:Nat,al5 ns (at'+1) ((u:Int)+1)=t/\t<=u:=⟨(al5 ns (at'+1)<|(u:Int)+1).toNat,by grind,by grind⟩;obtain⟨p0,p1⟩:=au3 ns (at'+2) 5 (by decide);have hs:IsSh 4 (mkRat (t:Int) u):=⟨Bd.of (by grind) (by grind) (by grind),bn0 (by grind)<|by grind⟩;have e1:=au9 ns at' 12 hn (by grind) (by decide);have e2:=au9 ns (at'+1) ((u:Int)+1) hn (by grind) (by grind);have e3:=au9 ns (at'+2) 5 hn (by grind) (by decide);have e4:=bN0 t u 4 (by grind) (by grind) (by decide);have c1:((at':Int)+1)=((at'+1:Nat):Int):=by grind
 have c2:((at':Int)+2)=((at'+2:Nat):Int):=by grind
 rw[ht.1]at e2
 have pick:∀(j:Int),0<=j->j < 5->∃r,L2.atI [fr (mkRat (t:Int) u),fr (mkRat (t:Int) u),fr (mkRat (t:Int) u),.tuple [.int 0,.int 1],.tuple [.int 1,.int 1]] j=Ob (fr r)/\IsSh 4 r:=λj h0 h5=>by
  have:j=0\/j=1\/j=2\/j=3\/j=4:=by grind
  rcases this with rfl|rfl|rfl|rfl|rfl
  .exact⟨_,rfl,hs⟩
  .exact⟨_,rfl,hs⟩
  .exact⟨_,rfl,hs⟩
  .exact⟨0,rfl,Bd.zero.mono (by decide),by decide⟩
  .exact⟨1,rfl,Bd.one.mono (by decide),by decide⟩
 obtain⟨r,hr1,hr2⟩:=pick _ p0 p1;refine⟨r,A9 (ρ:=[‹.list (ns.map eG)›,‹.int at'›,Oa,Oa]) rfl ?_,hr2⟩
 exists evA,aE2,e1,hu.1,c1,c2,e2,e3,e4,hr1
def sp(c x y z:Rat):D:=.tuple [fr c,fr x,fr y,fr z]
structure Spot (k:Nat) (c x y z:Rat):Prop where
 hc:IsSh k c
 hx:Bd k x
 hy:Bd k y
 hz:Bd k z
 xc:x<=c
 yc:y<=c
 zc:z<=c
theorem IsSh.mono{j k:Nat}{r:Rat}(h:IsSh j r)(l:j<=k):IsSh k r:=⟨h.bd.mono l,h.le⟩
theorem Spot.mono{j k:Nat}{c x y z:Rat}(h:Spot j c x y z)(l:j<=k):Spot k c x y z:=⟨h.hc.mono l,h.hx.mono l,h.hy.mono l,h.hz.mono l,h.xc,h.yc,h.zc⟩
def r6{c r:Rat}(hc:0<=c)(hr:r<=1):c*r<=c:=by
 have:=Rat.mul_le_mul_of_nonneg_right hr hc
 grind
def cO3:j6 0 3=[.int 0,.int 1,.int 2]:=rfl
def cc3(ns:List Int)(k:Nat)(hn:ns.length<=63)(hk:k < 2 ^ 30):∃c a0 a1 a2,Y4 [.list (ns.map eG),.int k]=Ob (sp c (c*a0) (c*a1)<|c*a2)/\IsSh 4 c/\IsSh 4 a0/\IsSh 4 a1/\IsSh 4 a2:=by
 obtain⟨c,ec,hc⟩:=ae9 ns k hn (by grind);obtain⟨a0,e0,h0⟩:=ae9 ns (k+3) hn (by grind);obtain⟨a1,e1,h1⟩:=ae9 ns (k+6) hn (by grind);obtain⟨a2,e2,h2⟩:=ae9 ns (k+9) hn (by grind);refine⟨c,a0,a1,a2,?_,hc,h0,h1,h2⟩;refine A9 (ρ:=[‹.list (ns.map eG)›,‹.int k›,Oa]) rfl ?_;have i0:(k:Int)+3+3*0=((k+3:Nat):Int):=by grind
 have i1:(k:Int)+3+3*1=((k+6:Nat):Int):=by grind
 have i2:(k:Int)+3+3*2=((k+9:Nat):Int):=by grind
 have s0:K7 0:=O0 (k:=2) (by decide) (by decide);have s1:K7 1:=O0 (k:=2) (by decide) (by decide);have s2:K7 2:=O0 (k:=2) (by decide) (by decide);have s3:K7 3:=O0 (k:=2) (by decide) (by decide);have m0:=U4 s3 s0;have m1:=U4 s3 s1;have m2:=U4 s3 s2;have r3:((-(2 ^ 62):Int)<=3/\(3:Int) < 2 ^ 62):=by decide
 have l3:([eG 0,.int 1,.int 2]:List D).length<=16777216:=by decide
 have ct:∀a b c d:D,x5 (.tuple [a]) (.tuple [b,c,d])=Ob (.tuple [a,b,c,d]):=λa b c d=>rfl
 exists evA,aR1,ec,r3,and_self,cO3,l3,m0,m1,m2,i0,i1,i2,e0,e1,e2,ai4 hc.bd h0.bd (by decide),ai4 hc.bd h1.bd (by decide),ai4 hc.bd h2.bd (by decide),ct,sp
def cz5(ns:List Int)(k:Nat)(hn:ns.length<=63)(hk:k < 2 ^ 30):∃c x y z,Y4 [.list (ns.map eG),.int k]=Ob (sp c x y z)/\Spot 8 c x y z:=by
 obtain⟨c,a0,a1,a2,e,hc,h0,h1,h2⟩:=cc3 ns k hn hk;exact⟨c,c*a0,c*a1,c*a2,e,⟨hc.mono (by decide),hc.bd.mul h0.bd,hc.bd.mul h1.bd,hc.bd.mul h2.bd,r6 hc.bd.nn h0.le,r6 hc.bd.nn h1.le,r6 hc.bd.nn h2.le⟩⟩
def B1{x y:Str}{b:Bool}(hx:eJ (.str x)=true)(hy:eJ (.str y)=true)(e:(x==y)=b):eqD (.str x) (.str y)=Ob (.bool b):=by
 unfold eqD;have s:∀z:Str,eJ (.str z)=true->eE (.str z)=true:=λz h=>by unfold eE;rw[h];rfl
 rw[if_pos ⟨s x hx,s y hy⟩];show Ob (eI<|x==y)=_;rw[e]
def B1z{x y:Str}{b:Bool}(hx:eJ (.str x)=true:=by decide +kernel)(hy:eJ (.str y)=true:=by decide +kernel)(e:(x==y)=b:=by decide +kernel):eqD (.str x) (.str y)=Ob (.bool b):=B1 hx hy e
def Z9{x y:Str}{b:Bool}(hx:eJ (.str x)=true)(hy:eJ (.str y)=true)(e:(!(x==y))=b):neD (.str x) (.str y)=Ob (.bool b):=by
 unfold neD;have s:∀z:Str,eJ (.str z)=true->eE (.str z)=true:=λz h=>by unfold eE;rw[h];rfl
 rw[if_pos ⟨s x hx,s y hy⟩];show Ob (eI (!(x==y)))=_;rw[e]
def Z9z{x y:Str}{b:Bool}(hx:eJ (.str x)=true:=by decide +kernel)(hy:eJ (.str y)=true:=by decide +kernel)(e:(!(x==y))=b:=by decide +kernel):neD (.str x) (.str y)=Ob (.bool b):=Z9 hx hy e
def J2:eqD (.str "over") (.str "over")=Ob (.bool true):=B1z
def M6:eqD (.str "over") (.str "multiply")=Ob (.bool false):=B1z
def D5:eqD (.str "over") (.str "screen")=Ob (.bool false):=B1z
def J1:eqD (.str "over") (.str "plus")=Ob (.bool false):=B1z
def J3:eqD (.str "over") (.str "atop")=Ob (.bool false):=B1z
def L4:eqD (.str "over") (.str "cut")=Ob (.bool false):=B1z
def M8:eqD (.str "multiply") (.str "over")=Ob (.bool false):=B1z
def R4:eqD (.str "multiply") (.str "multiply")=Ob (.bool true):=B1z
def J4:eqD (.str "multiply") (.str "screen")=Ob (.bool false):=B1z
def M7:eqD (.str "multiply") (.str "plus")=Ob (.bool false):=B1z
def M9:eqD (.str "multiply") (.str "atop")=Ob (.bool false):=B1z
def P3:eqD (.str "multiply") (.str "cut")=Ob (.bool false):=B1z
def D1:eqD (.str "screen") (.str "over")=Ob (.bool false):=B1z
def G8:eqD (.str "screen") (.str "multiply")=Ob (.bool false):=B1z
def C4:eqD (.str "screen") (.str "screen")=Ob (.bool true):=B1z
def D0:eqD (.str "screen") (.str "plus")=Ob (.bool false):=B1z
def D2:eqD (.str "screen") (.str "atop")=Ob (.bool false):=B1z
def E7:eqD (.str "screen") (.str "cut")=Ob (.bool false):=B1z
def I0:eqD (.str "plus") (.str "over")=Ob (.bool false):=B1z
def M5:eqD (.str "plus") (.str "multiply")=Ob (.bool false):=B1z
def D4:eqD (.str "plus") (.str "screen")=Ob (.bool false):=B1z
def G9:eqD (.str "plus") (.str "plus")=Ob (.bool true):=B1z
def J0:eqD (.str "plus") (.str "atop")=Ob (.bool false):=B1z
def L3:eqD (.str "plus") (.str "cut")=Ob (.bool false):=B1z
def J8:eqD (.str "atop") (.str "over")=Ob (.bool false):=B1z
def N1:eqD (.str "atop") (.str "multiply")=Ob (.bool false):=B1z
def D6:eqD (.str "atop") (.str "screen")=Ob (.bool false):=B1z
def J7:eqD (.str "atop") (.str "plus")=Ob (.bool false):=B1z
def J9:eqD (.str "atop") (.str "atop")=Ob (.bool true):=B1z
def L8:eqD (.str "atop") (.str "cut")=Ob (.bool false):=B1z
def L6:eqD (.str "cut") (.str "over")=Ob (.bool false):=B1z
def P4:eqD (.str "cut") (.str "multiply")=Ob (.bool false):=B1z
def F4:eqD (.str "cut") (.str "screen")=Ob (.bool false):=B1z
def L5:eqD (.str "cut") (.str "plus")=Ob (.bool false):=B1z
def L7:eqD (.str "cut") (.str "atop")=Ob (.bool false):=B1z
def N0:eqD (.str "cut") (.str "cut")=Ob (.bool true):=B1z
def G6:eqD (.str "turn") (.str "turn")=Ob (.bool true):=B1z
def G7:eqD (.str "turn") (.str "grey")=Ob (.bool false):=B1z
def E6:eqD (.str "turn") (.str "round")=Ob (.bool false):=B1z
def J5:eqD (.str "grey") (.str "turn")=Ob (.bool false):=B1z
def J6:eqD (.str "grey") (.str "grey")=Ob (.bool true):=B1z
def F0:eqD (.str "grey") (.str "round")=Ob (.bool false):=B1z
def E8:eqD (.str "round") (.str "turn")=Ob (.bool false):=B1z
def E9:eqD (.str "round") (.str "grey")=Ob (.bool false):=B1z
def D3:eqD (.str "round") (.str "round")=Ob (.bool true):=B1z
def G1:neD (.str "turn") (.str "turn")=Ob (.bool false):=Z9z
def G2:neD (.str "turn") (.str "grey")=Ob (.bool true):=Z9z
def E2:neD (.str "turn") (.str "round")=Ob (.bool true):=Z9z
def G3:neD (.str "grey") (.str "turn")=Ob (.bool true):=Z9z
def G4:neD (.str "grey") (.str "grey")=Ob (.bool false):=Z9z
def E5:neD (.str "grey") (.str "round")=Ob (.bool true):=Z9z
def E3:neD (.str "round") (.str "turn")=Ob (.bool true):=Z9z
def E4:neD (.str "round") (.str "grey")=Ob (.bool true):=Z9z
def C8:neD (.str "round") (.str "round")=Ob (.bool false):=Z9z
inductive Man where
 | over|mult|screen|plus|atop|cut
def Man.s:Man->Str
 | .over => "over"
 | .mult => "multiply"
 | .screen => "screen"
 | .plus => "plus"
 | .atop => "atop"
 | .cut => "cut"
def aA4(r:Rat):Rat:=if r<=1 then r else 1
def Man.cov:Man->Rat->Rat->Rat
 | .plus,c,d=>aA4<|c+d
 | .atop,c,d=>d
 | .cut,c,d=>d*(1 - c)
 | _,c,d=>c+d - c*d
def Man.col:Man->Rat->Rat->Rat->Rat->Rat
 | .over,c,d,x,y=>x+y*(1 - c)
 | .mult,c,d,x,y=>x*y+x*(1 - d)+y*(1 - c)
 | .screen,c,d,x,y=>x+y - x*y
 | .plus,c,d,x,y=>aA4<|x+y
 | .atop,c,d,x,y=>x*d+y*(1 - c)
 | .cut,c,d,x,y=>y*(1 - c)
def ae2{k:Nat}{c:Rat}(h:IsSh k c):IsSh (k+1) (1 - c):=by
 have b:=Bd.one.sub h.bd h.le;rw[dh]at b;exact⟨b,by have:=h.bd.nn;grind⟩
def aw5{a b:Rat}(ha:0<=a)(hb:0<=b)(ha1:a<=1)(hb1:b<=1):a*b<=a+b:=by
 have:=Rat.mul_le_mul_of_nonneg_right ha1 hb
 grind
def bL2{k:Nat}{r:Rat}(h:Bd k r)(hk:1<=k):IsSh k (aA4 r):=by
 unfold aA4;split
 .rename_i l;exact⟨h,l⟩
 .exact⟨Bd.one.mono hk,Rat.le_refl⟩
local macro_rules
  | `(tactic| exists evS, $ts,*) => `(tactic| exists evA, J2, M6, D5, J1, J3, L4, M8, R4, J4, M7, M9, P3, D1, G8, C4, D0, D2, E7, I0, M5, D4, G9, J0, L3, J8, N1, D6, J7, J9, L8, L6, P4, F4, L5, L7, N0, G6, G7, E6, J5, J6, F0, E8, E9, D3, G1, G2, E2, G3, G4, E5, E3, E4, C8, $ts,*)
def bN2(m:Man){k:Nat}{c d:Rat}(hc:IsSh k c)(hd:IsSh k d)(l:6*k+4<=8000):Z2 [.str m.s,fr c,fr d]=Ob (fr<|m.cov c d)/\Bd (6*k+4) (m.cov c d):=by
 have r1:=af1 hc.bd (by grind) hc.le;have h1:=(ae2 hc);have ml:=aw5 hc.bd.nn hd.bd.nn hc.le hd.le;have e1:=R8 hc.bd hd.bd (by grind);have e2:=N5 hc.bd hd.bd (by grind);have b1:=hc.bd.add hd.bd;have b2:=hc.bd.mul hd.bd;have e3:=S4 b1 b2 (by grind) ml;have e4:=aR6 b1 (by grind);have e5:=N5 hd.bd h1.bd (by grind);cases m with
 | plus=>exact⟨A9 (ρ:=[‹.str "plus"›,‹fr c›,‹fr d›]) rfl (by exists evS,O4,e1,e4;rfl),(bL2 b1<|by grind).bd.mono<|by grind⟩
 | atop=>exact⟨A9 (ρ:=[‹.str "atop"›,‹fr c›,‹fr d›]) rfl (by exists evS,O4;rfl),hd.bd.mono<|by grind⟩
 | cut=>exact⟨A9 (ρ:=[‹.str "cut"›,‹fr c›,‹fr d›]) rfl (by exists evS,O4,r1,e5;rfl),(hd.bd.mul h1.bd).mono<|by grind⟩
 | over=>exact⟨A9 (ρ:=[‹.str "over"›,‹fr c›,‹fr d›]) rfl (by exists evS,O4,e1,e2,e3;rfl),(b1.sub b2 ml).mono<|by grind⟩
 | mult=>exact⟨A9 (ρ:=[‹.str "multiply"›,‹fr c›,‹fr d›]) rfl (by exists evS,O4,e1,e2,e3;rfl),(b1.sub b2 ml).mono<|by grind⟩
 | screen=>exact⟨A9 (ρ:=[‹.str "screen"›,‹fr c›,‹fr d›]) rfl (by exists evS,O4,e1,e2,e3;rfl),(b1.sub b2 ml).mono<|by grind⟩
def az1(m:Man){k:Nat}{c d x y:Rat}(hc:IsSh k c)(hd:IsSh k d)(hx:IsSh k x)(hy:IsSh k y)(l:6*k+4<=8000):X2 [.str m.s,fr c,fr d,fr x,fr y]=Ob (fr<|m.col c d x y)/\Bd (6*k+4) (m.col c d x y):=by
 have r1:=af1 hc.bd (by grind) hc.le;have r2:=af1 hd.bd (by grind) hd.le;have h1:=ae2 hc;have h2:=ae2 hd;have ml:=aw5 hx.bd.nn hy.bd.nn hx.le hy.le;have e1:=R8 hx.bd hy.bd (by grind);have e2:=N5 hx.bd hy.bd (by grind);have b1:=hx.bd.add hy.bd;have b2:=hx.bd.mul hy.bd;have e3:=S4 b1 b2 (by grind) ml;have e4:=aR6 b1 (by grind);have bt:=hy.bd.mul h1.bd;have et:=N5 hy.bd h1.bd (by grind);have e6:=R8 hx.bd bt (by grind);have bd:=hx.bd.mul h2.bd;have e7:=N5 hx.bd h2.bd (by grind);have b8:=b2.add bd;have e8:=R8 b2 bd (by grind);have e9:=R8 b8 bt (by grind);have b10:=hx.bd.mul hd.bd;have e10:=N5 hx.bd hd.bd (by grind);have e11:=R8 b10 bt (by grind);cases m with
 | plus=>exact⟨A9 (ρ:=[‹.str "plus"›,‹fr c›,‹fr d›,‹fr x›,‹fr y›,Oa]) rfl (by exists evS,N4,e1,e4;rfl),(bL2 b1<|by grind).bd.mono<|by grind⟩
 | screen=>exact⟨A9 (ρ:=[‹.str "screen"›,‹fr c›,‹fr d›,‹fr x›,‹fr y›,Oa]) rfl (by exists evS,N4,e1,e2,e3;rfl),(b1.sub b2 ml).mono<|by grind⟩
 | over=>exact⟨A9 (ρ:=[‹.str "over"›,‹fr c›,‹fr d›,‹fr x›,‹fr y›,Oa]) rfl (by exists evS,N4,r1,et,e6;rfl),(hx.bd.add bt).mono<|by grind⟩
 | mult=>exact⟨A9 (ρ:=[‹.str "multiply"›,‹fr c›,‹fr d›,‹fr x›,‹fr y›,Oa]) rfl (by exists evS,N4,r1,r2,et,e2,e7,e8,e9;rfl),(b8.add bt).mono<|by grind⟩
 | atop=>exact⟨A9 (ρ:=[‹.str "atop"›,‹fr c›,‹fr d›,‹fr x›,‹fr y›,Oa]) rfl (by exists evS,N4,r1,et,e10,e11;rfl),(b10.add bt).mono<|by grind⟩
 | cut=>exact⟨A9 (ρ:=[‹.str "cut"›,‹fr c›,‹fr d›,‹fr x›,‹fr y›,Oa]) rfl (by exists evS,N4,r1,et;rfl),bt.mono<|by grind⟩
def cx9(m:Man){c d:Rat}(hc:0<=c)(hd:0<=d)(hc1:c<=1)(hd1:d<=1):m.cov c d<=1:=by
 have p:0<=(1 - c)*(1 - d):=Rat.mul_nonneg (by grind) (by grind);have q:d*(1 - c)<=1*(1 - c):=Rat.mul_le_mul_of_nonneg_right hd1 (by grind);cases m<;>simp only[Man.cov,aA4]<;>grind
def aZ6(m:Man){c d x y:Rat}(hc:0<=c)(hd:0<=d)(hc1:c<=1)(hd1:d<=1)(hx:0<=x)(hy:0<=y)(xc:x<=c)(yd:y<=d):m.col c d x y<=m.cov c d:=by
 have q1:y*(1 - c)<=d*(1 - c):=Rat.mul_le_mul_of_nonneg_right yd (by grind);have q2:x*(y+1 - d)<=c*(y+1 - d):=Rat.mul_le_mul_of_nonneg_right xc (by grind);have q3:x*d<=c*d:=Rat.mul_le_mul_of_nonneg_right xc hd;have q4:(1 - c)*(1 - d)<=(1 - x)*(1 - d):=Rat.mul_le_mul_of_nonneg_right (by grind) (by grind);have q5:(1 - d)*(1 - x)<=(1 - y)*(1 - x):=Rat.mul_le_mul_of_nonneg_right (by grind) (by grind);cases m<;>simp only[Man.cov,Man.col,aA4]<;>grind
def cM5(a b c d e f:D):(List.zip [a,b,c] [d,e,f])=[(a,d),(b,e),(c,f)]:=rfl
def ln2(a b:D):([a,b]:List D).length=2:=rfl
def ba1(m:Man){k:Nat}{c x1 x2 x3 d y1 y2 y3:Rat}(S:Spot k c x1 x2 x3)(T:Spot k d y1 y2 y3)(l:6*k+4<=8000):
  aa0 [.str m.s,sp c x1 x2 x3,sp d y1 y2 y3]=Ob (sp (m.cov c d) (m.col c d x1 y1) (m.col c d x2 y2)<|m.col c d x3 y3)/\Spot (6*k+4) (m.cov c d) (m.col c d x1 y1) (m.col c d x2 y2) (m.col c d x3 y3):=by
 have s1:IsSh k x1:=⟨S.hx,Rat.le_trans S.xc S.hc.le⟩;have s2:IsSh k x2:=⟨S.hy,Rat.le_trans S.yc S.hc.le⟩;have s3:IsSh k x3:=⟨S.hz,Rat.le_trans S.zc S.hc.le⟩;have t1:IsSh k y1:=⟨T.hx,Rat.le_trans T.xc T.hc.le⟩;have t2:IsSh k y2:=⟨T.hy,Rat.le_trans T.yc T.hc.le⟩;have t3:IsSh k y3:=⟨T.hz,Rat.le_trans T.zc T.hc.le⟩;have a0:=bN2 m S.hc T.hc l;have a1:=az1 m S.hc T.hc s1 t1 l;have a2:=az1 m S.hc T.hc s2 t2 l;have a3:=az1 m S.hc T.hc s3 t3 l;refine⟨?_,⟨⟨a0.2,cx9 m S.hc.bd.nn T.hc.bd.nn S.hc.le T.hc.le⟩,a1.2,a2.2,a3.2,aZ6 m S.hc.bd.nn T.hc.bd.nn S.hc.le T.hc.le S.hx.nn T.hx.nn S.xc T.xc,aZ6 m S.hc.bd.nn T.hc.bd.nn S.hc.le T.hc.le S.hy.nn T.hy.nn S.yc T.yc,aZ6 m S.hc.bd.nn T.hc.bd.nn S.hc.le T.hc.le S.hz.nn T.hz.nn S.zc T.zc⟩⟩;refine A9 (ρ:=[‹.str m.s›,‹sp c x1 x2 x3›,‹sp d y1 y2 y3›,Oa,Oa,Oa]) rfl ?_;have f3:∀a b c:D,([a,b,c]:List D).length<=16777216:=λa b c=>by show 3<=16777216;decide
 exists evA,aE7,sp,cM5,f3,ln2,a0.1,a1.1,a2.1,a3.1
inductive Rul where
 | turn|grey|round
def Rul.s:Rul->Str
 | .turn => "turn"
 | .grey => "grey"
 | .round => "round"
def third:Rat:=mkRat 1 3
def bH3:fr third=.tuple [.int 1,.int 3]:=by
 show PyData.tuple [.int (mkRat 1 3).num,.int (mkRat 1 3).den]=_;rw[show(mkRat 1 3).num=1 by decide +kernel,show(mkRat 1 3).den=3 by decide +kernel];rfl
def bu4:third*3=1:=by decide +kernel
def av3:IsSh 2 third:=⟨⟨by decide +kernel,by decide +kernel,by decide +kernel⟩,by decide +kernel⟩
def Rul.new:Rul->Rat->Rat->Rat->Rat->Rat
 | .turn,c,x,y,z=>c - x
 | .grey,c,x,y,z=>(x+y+z)*third
 | .round,c,x,y,z=>y
def Rul.mix(r:Rul)(s c x y z:Rat):Rat:=s*r.new c x y z+(1 - s)*x
def aa9{j k:Nat}{s n o:Rat}(hs:IsSh k s)(hn:Bd j n)(ho:Bd k o)(l:k+j+2*k+1<=8000):aJ9 [fr s,fr n,fr o]=Ob (fr<|s*n+(1 - s)*o):=by
 have e1:=N5 hs.bd hn (by grind);have r1:=af1 hs.bd (by grind) hs.le;have e2:=N5 (ae2 hs).bd ho (by grind);have e3:=R8 (hs.bd.mul hn) ((ae2 hs).bd.mul ho) (by grind);refine rX3 ?_
 exists evA,bj6,e1,r1,e2,e3
def aK1(r:Rul){k:Nat}{c x y z:Rat}(S:Spot k c x y z)(l:6*k+6<=8000):ap8 [.str r.s,sp c x y z]=Ob (sp c (r.new c x y z) (r.new c y z x)<|r.new c z x y):=by
 have e1:=S4 S.hc.bd S.hx (by grind) S.xc;have e2:=S4 S.hc.bd S.hy (by grind) S.yc;have e3:=S4 S.hc.bd S.hz (by grind) S.zc;have b4:=S.hx.add S.hy;have e4:=R8 S.hx S.hy (by grind);have e5:=R8 b4 S.hz (by grind);have e6:=N5 (b4.add S.hz) av3.bd (by grind);rw[bH3]at e6;have g1:(y+z+x)*third=(x+y+z)*third:=by grind
 have g2:(z+x+y)*third=(x+y+z)*third:=by grind
 cases r with
 | turn =>
  refine A9 (ρ:=[‹.str "turn"›,‹sp c x y z›,Oa,Oa,Oa,Oa,Oa]) rfl ?_
  exists evS,ae8,sp,e1,e2,e3;rfl
 | grey =>
  refine A9 (ρ:=[‹.str "grey"›,‹sp c x y z›,Oa,Oa,Oa,Oa,Oa]) rfl ?_
  exists evS,ae8,sp,e4,e5,e6
  simp only[Rul.new,g1,g2]
 | round =>
  refine A9 (ρ:=[‹.str "round"›,‹sp c x y z›,Oa,Oa,Oa,Oa,Oa]) rfl ?_
  exists evS,ae8,sp;rfl
def aH5(r:Rul){k:Nat}{c x y z:Rat}(S:Spot k c x y z):Bd (3*k+4) (r.new c x y z):=by
 cases r with
 | turn=>exact(S.hc.bd.sub S.hx S.xc).mono (by grind)
 | grey=>exact(((S.hx.add S.hy).add S.hz).mul av3.bd).mono (by grind)
 | round=>exact S.hy.mono (by grind)
def Spot.rot{k:Nat}{c x y z:Rat}(S:Spot k c x y z):Spot k c y z x:=⟨S.hc,S.hy,S.hz,S.hx,S.yc,S.zc,S.xc⟩
def cp2(r:Rul){k:Nat}{c x y z:Rat}(S:Spot k c x y z):r.new c x y z<=c:=by
 have h1:=S.xc;have h2:=S.yc;have h3:=S.zc;have h4:=S.hx.nn;cases r with
 | turn=>simp only[Rul.new];grind
 | grey =>
  simp only[Rul.new];have:(x+y+z)*third<=(c+c+c)*third:=Rat.mul_le_mul_of_nonneg_right (by grind) av3.bd.nn;have e:(c+c+c)*third=c:=by have:=bu4;grind
  rw[e]at this;exact this
 | round=>exact h2
def aV5(r:Rul){k:Nat}{s c x y z:Rat}(S:Spot k c x y z)(hs:IsSh k s):r.mix s c x y z<=c:=by
 have h1:r.new c x y z*s<=c*s:=Rat.mul_le_mul_of_nonneg_right (cp2 r S) hs.bd.nn;have h2:x*(1 - s)<=c*(1 - s):=Rat.mul_le_mul_of_nonneg_right S.xc (by have:=hs.le;grind);unfold Rul.mix
 grind
def aV6(r:Rul){k:Nat}{s c x y z:Rat}(S:Spot k c x y z)(hs:IsSh k s):Bd (6*k+6) (r.mix s c x y z):=by
 unfold Rul.mix;exact((hs.bd.mul<|aH5 r S).add<|(ae2 hs).bd.mul S.hx).mono (by grind)
def cM4(a b c d e f g h:D):(List.zip [a,b,c,d] [e,f,g,h])=[(a,e),(b,f),(c,g),(d,h)]:=rfl
def bu3(r:Rul){k:Nat}{s c x y z:Rat}(S:Spot k c x y z)(hs:IsSh k s)(l:6*k+6<=8000):
  au8 [.str r.s,sp c x y z,fr s]=Ob (sp c (r.mix s c x y z) (r.mix s c y z x)<|r.mix s c z x y)/\Spot (6*k+6) c (r.mix s c x y z) (r.mix s c y z x) (r.mix s c z x y):=by
 refine⟨?_,⟨S.hc.mono (by grind),aV6 r S hs,aV6 r S.rot hs,aV6 r S.rot.rot hs,aV5 r S hs,aV5 r S.rot hs,aV5 r S.rot.rot hs⟩⟩;have e0:=aK1 r S l;have ec:=aa9 hs S.hc.bd S.hc.bd (by grind);have e1:=aa9 hs (aH5 r S) S.hx (by grind);have e2:=aa9 hs (aH5 r S.rot) S.hy (by grind);have e3:=aa9 hs (aH5 r S.rot.rot) S.hz (by grind);have cc:s*c+(1 - s)*c=c:=by grind
 rw[cc]at ec;refine rX3 ?_;have f4:∀a b c d:D,([a,b,c,d]:List D).length<=16777216:=λa b c d=>by show 4<=16777216;decide
 simp only[sp]at e0
 exists evA,bj5,sp,cM4,f4,ln2,e0,ec,e1,e2,e3
 rfl
def cat_tup{xs ys:List D}(h:xs.length+ys.length<=16777216):x5 (.tuple xs) (.tuple ys)=Ob (.tuple<|xs++ys):=if_pos h
def z3(a b c d e f:D):(List.zip [a,b,c] [d,e,f]).map (λ(x,y)=>PyData.tuple [x,y])=[.tuple [a,d],.tuple [b,e],.tuple [c,f]]:=rfl
structure Q4 where
 c:Rat
 x:Rat
 y:Rat
 z:Rat
def Q4.d(q:Q4):D:=sp q.c q.x q.y q.z
def Q4.ok(k:Nat)(q:Q4):Prop:=Spot k q.c q.x q.y q.z
def q0:Q4:=⟨0,0,0,0⟩
def cE0:q0.d=.tuple [.tuple [.int 0,.int 1],.tuple [.int 0,.int 1],.tuple [.int 0,.int 1],.tuple [.int 0,.int 1]]:=rfl
def cD9{k:Nat}(hk:1<=k):q0.ok k:=by
 have z:IsSh k 0:=⟨Bd.zero.mono hk,by decide⟩;exact⟨z,z.bd,z.bd,z.bd,Rat.le_refl,Rat.le_refl,Rat.le_refl⟩
theorem Q4.ok.mono{j k:Nat}{q:Q4}(h:q.ok j)(l:j<=k):q.ok k:=Spot.mono h l
def Ly(n:Nat)(d:D):Prop:=eJ d=true/\PyData.depth d<=n
theorem ax9{n:Nat}:∀xs:List D,(∀x∈xs,Ly n x)->PyData.canLayAll0 xs=true/\PyData.depthAll xs<=n
 | [],_=>⟨rfl,aU _⟩
 | x::xs,g=>by
  have a:=g x (aw ..);have b:=ax9 xs λy hy=>g y<|xmm _ hy
  refine⟨?_,?_⟩
  .show(eJ x&&PyData.canLayAll0 xs)=true;rw[a.1,b.1];rfl
  .show max (PyData.depth x) (PyData.depthAll xs)<=n;have:=a.2;have:=b.2;grind
def Ly.tup{n:Nat}{xs:List D}(h:∀x∈xs,Ly n x):Ly (n+1) (.tuple xs):=⟨(ax9 xs h).1,Nat.succ_le_succ (ax9 xs h).2⟩
def Ly.lst{n:Nat}{xs:List D}(h:∀x∈xs,Ly n x):Ly (n+1) (.list xs):=⟨(ax9 xs h).1,Nat.succ_le_succ (ax9 xs h).2⟩
theorem Ly.int(n:Nat)(i:Int):Ly n (.int i):=⟨rfl,aU _⟩
def Ly.mono{m n:Nat}{d:D}(h:Ly m d)(l:m<=n):Ly n d:=⟨h.1,aL h.2 l⟩
def Ly.shaped{n:Nat}{d:D}(g:Ly n d)(hn:n<=64):eE d=true:=by
 unfold eE;rw[g.1,Bool.true_and];exact decide_eq_true (by have:=g.2;grind)
def Ly.q4(q:Q4)(n:Nat):Ly (n+2) q.d:=⟨rfl,by show 2<=n+2;grind⟩
def Ly.spots(l:List Q4)(n:Nat):Ly (n+3) (.tuple<|l.map Q4.d):=Ly.tup λx hx=>by
 obtain⟨q,_,rfl⟩:=aT.mp hx;exact Ly.q4 q n
def bV9{n:Nat}{d:D}(g:Ly n d)(hn:n<=64):neD d d=Ob (.bool false):=by
 unfold neD;rw[if_pos ⟨g.shaped hn,g.shaped hn⟩,SeqAt.eqv_refl d g.1];rfl
def bi1{n:Nat}{d:D}(g:Ly n d)(hn:n<=64):eqD d d=Ob (.bool true):=by
 unfold eqD;rw[if_pos ⟨g.shaped hn,g.shaped hn⟩,SeqAt.eqv_refl d g.1]
def shD(w h:Nat)(l:List Q4):D:=.tuple [.int w,.int h,.tuple (l.map Q4.d)]
def Ly.sheet(w h:Nat)(l:List Q4):Ly 4 (shD w h l):=Ly.tup λx hx=>by
 simp only[au,aR,or_false]at hx;rcases hx with rfl|rfl|rfl
 .exact Ly.int _ _
 .exact Ly.int _ _
 .exact Ly.spots l 0
def atQ(w h:Nat)(l:List Q4)(x y:Int):Q4:=if 0<=x/\x < w/\0<=y/\y < h then l.getD (y*w+x).toNat q0 else q0
structure ShOk (k:Nat) (w h:Nat) (l:List Q4):Prop where
 w1:1<=w
 w8:w<=8
 h1:1<=h
 h8:h<=8
 len:l.length=w*h
 ok:∀q∈l,q.ok k
theorem cf5{α:Type}{e:DE}{r:Rho}{h f:α->D}:∀(l:List α) (x:Option B),(∀a∈l,e (‹h a›::r)=Ob (f a))->k4 (C3 0) M1 e (l.map h) (x::r)=Ob (l.map f)
 | [],_,_=>rfl
 | a::l,x,H=>by simp only[xmc,k4,C3,xw0,xbs,M1,if_true,H a (aw ..),cf5 l _ (λb hb=>H b<|xmm _ hb),xms]
theorem cf4{α:Type}{e:DE}{r:Rho}{h1 h2 f:α->D}:∀(l:List α) (x y:Option B),(∀a∈l,e (‹h1 a›::‹h2 a›::r)=Ob (f a))->k4 (S1 2<|C9 (C3 0) (C9 (C3 1) S7)) M1 e (l.map λa=>.tuple [h1 a,h2 a]) (x::y::r)=Ob (l.map f)
 | [],_,_,_=>rfl
 | a::l,x,y,H=>by
  have hl:([h1 a,h2 a]:List D).length=2:=rfl;simp only[xmc,k4,S1,C9,S7,C3,hl,if_true,xw0,xw1,xbs,M1,if_true,H a (aw ..),cf4 l _ _ (λb hb=>H b<|xmm _ hb),xms]
theorem bK7{α:Type}{c:Rho->Option Bool}{e:DE}{r:Rho}{h f:α->D}{p:α->Bool}:∀(l:List α) (x:Option B),(∀a∈l,c (‹h a›::r)=Ob (p a))->(∀a∈l,e (‹h a›::r)=Ob (f a))->k4 (C3 0) c e (l.map h) (x::r)=Ob ((l.filter p).map f)
 | [],_,_,_=>rfl
 | a::l,x,C,H=>by
  have ih:=bK7 l (‹h a›) (λb hb=>C b<|xmm _ hb) (λb hb=>H b<|xmm _ hb);cases q:p a with
  | true =>simp only[xmc,k4,C3,xw0,xbs,C a (aw ..),q,if_true,H a (aw ..),ih,xms,di q]
  | false =>
   have q':¬p a=true:=by rw[q];exact aB
   simp only[xmc,k4,C3,xw0,xbs,C a (aw ..),q,xft,if_false,ih,dj q']
def an7{α:Type}{caps:List Nat}{src:Rho->Option (List D)}{e:DE}{ρ r:Rho}{l:List α}{h f:α->D}(hr:al9 1 caps ρ=Oa::r)(hs:src ρ=Ob (l.map h))(hl:l.length<=1000)(H:∀a∈l,e (‹h a›::r)=Ob (f a)):
  K1 1 caps src (C3 0) M1 e ρ=Ob (l.map f):=by
 unfold K1;rw[hs,xbs,if_pos (by rw[ay];grind),hr,cf5 l _ H]
def bB3{α:Type}{caps:List Nat}{src:Rho->Option (List D)}{e:DE}{ρ r:Rho}{l:List α}{h1 h2 f:α->D}(hr:al9 2 caps ρ=Oa::Oa::r)(hs:src ρ=Ob (l.map λa=>.tuple [h1 a,h2 a]))(hl:l.length<=1000)(H:∀a∈l,e (‹h1 a›::‹h2 a›::r)=Ob (f a)):
  K1 2 caps src (S1 2<|C9 (C3 0) (C9 (C3 1) S7)) M1 e ρ=Ob (l.map f):=by
 unfold K1;rw[hs,xbs,if_pos (by rw[ay];omega),hr,cf4 l _ _ H]
def bW0{α:Type}{caps:List Nat}{src:Rho->Option (List D)}{c:Rho->Option Bool}{e:DE}{ρ r:Rho}{l:List α}{h f:α->D}{p:α->Bool}(hr:al9 1 caps ρ=Oa::r)(hs:src ρ=Ob (l.map h))(hl:l.length<=1000)(C:∀a∈l,c (‹h a›::r)=Ob (p a))(H:∀a∈l,e (‹h a›::r)=Ob (f a)):
  K1 1 caps src (C3 0) c e ρ=Ob ((l.filter p).map f):=by
 unfold K1;rw[hs,xbs,if_pos (by rw[ay];omega),hr,bK7 l _ C H]
def aa3{f:DE}{ρ:Rho}{n:Nat}(h:f ρ=Ob (.int n))(hn:n<=1000):P0 f ρ=Ob ((ax n).map λk:Nat=>eG k):=by
 unfold P0;rw[h,xbs];show(if -(2 ^ 62)<=(n:Int)/\(n:Int) < 2 ^ 62 then Ob (j6 0 n) else Oa)=_;rw[if_pos ⟨by grind,by grind⟩];unfold j6
 congr 1
 have e:((n:Int) - 0).toNat=n:=by grind
 rw[e];apply bV;intro k _
 congr 1
 grind
def bB4{i j:Int}(h1:K7 i)(h2:K7 j):F9 (.int i) (.int j)=Ob (.int<|i*j):=U4 h1 h2
def P8{i j:Nat}(h1:i<=1000)(h2:j<=1000):F9 (.int i) (.int j)=Ob (.int ((i*j:Nat):Int)):=by rw[bB4 (v5 (k:=10) (by grind)<|by decide) (v5 (k:=10) (by grind)<|by decide),aI]
def sm8{i:Int}(h0:0<=i)(h:i<=1000):K7 i:=av6 h0 (by omega)
def plc(w n:Nat):List (Int×Int):=(ax n).map λk=>(((k % w:Nat):Int),((k / w:Nat):Int))
def aB7{w h:Nat}(w1:1<=w)(w8:w<=8)(h8:h<=8):V9 [.int w,.int h]=Ob (.list<|(plc w<|w*h).map λp=>.tuple [.int p.1,.int p.2]):=by
 refine A9 (ρ:=[‹.int w›,‹.int h›]) rfl ?_;have hm:(A4 F9 (A1 0)<|A1 1) [‹.int w›,‹.int h›]=Ob (.int ((w*h:Nat):Int)):=P8 (by grind) (by grind);have wh:w*h<=64:=bG w8 h8;unfold ar5 A8 ab8;rw[an7 (l:=ax<|w*h) (h:=λk:Nat=>eG k) (f:=λk=>.tuple [.int ((k % w:Nat):Int),.int ((k / w:Nat):Int)]) (r:=[‹.int w›]) rfl (aa3 hm<|by grind) (by rw[aP];grind) ?_]
 .unfold plc;rw[bE];rfl
 .intro k _;have wp:(0:Int) < (w:Int):=by grind
  simp only[N7,A0,A3,A4,A1,xg0,xg1,xbs,xms,aC3 wp,aO9 wp (sm8 (by grind)<|by grind)];rfl
def aj7(w n:Nat):(plc w n).length=n:=by unfold plc;rw[ay,aP]
def al0(w h:Int)(s:D)(x y:Int):Y5 [.tuple [.int w,.int h,s],.int x,.int y]=Ob (.bool<|decide (0<=x/\x < w/\0<=y/\y < h)):=by
 refine rX3 ?_;by_cases a:0<=x<;>by_cases b:x < w<;>by_cases c:0<=y<;>by_cases e:y < h<;>simp[ar9,A7,B6,A8,sIf,K9,ac4,bl4,A1,dC,N7,ab8,A4,A2,u6,dOr,bK2,Z1,dIx,Z0,S2,aJ2,aZ3,ao7,A6,qE,qN,aL4,U7,O5,bh7,A3,A0,Q9,tB2,bc7,v4,R9,bk5,k6,M1,C3,S1,C9,S7,T8,cw5,xg0,xg1,xw0,xw1,xbs,xms,xmc,xmn,xna,xca,bL0,bu9,cq7,cp3,bn7,cG0,cI5,cL2,cL1,cL0,cK9,cL5,cL4,cL3,cz0,cy9,xnt,xnf,xft,if_true,if_false,ad5,aT0,a,b,c,e]
def ad0{n:Nat}{i:Int}(h0:0<=i)(h1:i < n):ixN n i=Ob i.toNat:=by unfold ixN;rw[if_pos h0,if_pos h1]
def atD(l:List Q4){i:Int}(h0:0<=i)(h1:i < l.length):L2.atI (l.map Q4.d) i=Ob (l.getD i.toNat q0).d:=by
 unfold L2.atI;rw[ay,ad0 h0 h1,xbs,av,aN];have:i.toNat < l.length:=by omega
 rw[ao this];rfl
def an1{w h:Nat}{x y:Int}(b:0<=x/\x < w/\0<=y/\y < h):0<=y*w+x/\y*w+x < ((w*h:Nat):Int):=by
 obtain⟨a,b,c,e⟩:=b;have p:0<=y*(w:Int):=Int.mul_nonneg c (by grind);refine⟨by grind,?_⟩;have:(y+1)*(w:Int)<=h*(w:Int):=Int.mul_le_mul_of_nonneg_right (by grind) (by grind);have e2:(y+1)*(w:Int)=y*w+w:=by rw[Int.add_mul,Int.one_mul]
 have e3:((w*h:Nat):Int)=h*w:=by rw[aI,Int.mul_comm]
 grind
def an2{w h:Nat}{x y:Int}(s:D)(w8:w<=8)(h8:h<=8)(b:0<=x/\x < w/\0<=y/\y < h):D8 [.tuple [.int w,.int h,s],.int x,.int y]=Ob (.int<|y*w+x):=by
 refine rX3 ?_
 exists evD,t7,bB4 (sm8 b.2.2.1<|by grind) (sm8 (show(0:Int)<=w by grind)<|by grind)
def aT6{k w h:Nat}{l:List Q4}(S:ShOk k w h l)(x y:Int):ap4 [shD w h l,.int x,.int y]=Ob (atQ w h l x y).d:=by
 refine rX3 ?_;have hp:=al0 w h (.tuple<|l.map Q4.d) x y;unfold atQ;by_cases b:0<=x/\x < w/\0<=y/\y < h
 .rw[if_pos b];rw[decide_eq_true b]at hp;have nm:=an2 (.tuple<|l.map Q4.d) S.w8 S.h8 b;have pn:=an1 b;have e:=atD l pn.1 (by rw[S.len];exact pn.2)
  exists evD,ap0,shD,hp,nm,e
 .rw[if_neg b];rw[decide_eq_false b]at hp
  exists evD,ap0,shD,hp
  rfl
def Man.bl(m:Man)(a b:Q4):Q4:=⟨m.cov a.c b.c,m.col a.c b.c a.x b.x,m.col a.c b.c a.y b.y,m.col a.c b.c a.z b.z⟩
def cJ7(m:Man){k:Nat}{a b:Q4}(S:a.ok k)(T:b.ok k)(l:6*k+4<=8000):aa0 [.str m.s,a.d,b.d]=Ob (m.bl a b).d/\(m.bl a b).ok (6*k+4):=ba1 m S T l
abbrev scr(ns:List Int):D:=.list<|ns.map eG
def aO7(ns:List Int)(k m:Nat)(hn:ns.length<=63)(hk:k < 2 ^ 60)(hm:0 < m):∃n:Nat,A5 [scr ns,.int k,.int m]=Ob (.int n)/\n < m:=by
 have a:=au9 ns k m hn hk (by grind);have b:=au3 ns k m (by grind);refine⟨(al5 ns k m).toNat,?_,by grind⟩;rw[a]
 congr 2
 grind
def au4{h:D->D->Option D}{f g:DE}{ρ:Rho}{x y:D}(h1:f ρ=Ob x)(h2:g ρ=Ob y):A4 h f g ρ=h x y:=by unfold A4;rw[h1,xbs,h2,xbs]
theorem j4{α:Type}(a:α):∀n:Nat,(aj n [a]).flatten=aj n a
 | 0=>rfl
 | n+1=>by rw[bB,bR,j4 a n];rfl
def bB6{xs:List D}{n:Nat}(hn:n<=1000)(hx:xs.length<=1000):F9 (.list xs) (.int n)=Ob (.list (aj n xs).flatten):=by
 show(if 0<=(n:Int)/\(n:Int) < 1000000/\xs.length*((n:Int)).toNat<=16777216 then Ob (PyData.list (aj ((n:Int)).toNat xs).flatten) else Oa)=_;rw[aZ,if_pos ⟨by omega,by omega,aL (bG hx hn)<|by decide⟩]
def cQ5(a:D)(r:List D):u7 (a::r) Oa (Ob 1)=[a]:=by
 unfold u7;have h1:HT.sIx (a::r).length 0 Oa=0:=by simp[HT.sIx]
 have h2:HT.sIx (a::r).length (a::r).length (Ob 1)=1:=by simp only[HT.sIx,aJ];first|omega|(simp;omega)|simp
 rw[h1,h2];rfl
def bj7(ns:List Int)(k:Nat)(hn:ns.length<=63)(hk:k < 2 ^ 30):∃q:Q4,Y4 [scr ns,.int k]=Ob q.d/\q.ok 8:=by
 obtain⟨c,x,y,z,e,S⟩:=cz5 ns k hn hk;exact⟨⟨c,x,y,z⟩,e,S⟩
def bw2(ns:List Int)(at':Nat)(hn:ns.length<=63)(ha:at' < 2 ^ 20):∃f:Nat->Q4,∀k,k < 1000->Y4 [scr ns,.int ((at'+12*k:Nat):Int)]=Ob (f k).d/\(f k).ok 8:=by
 refine⟨λk=>if h:k < 1000 then Classical.choose (bj7 ns (at'+12*k) hn<|by grind) else q0,λk hk=>?_⟩;simp only[dif_pos hk];exact dw (bj7 ns (at'+12*k) hn<|by grind)
def aN6{P:Q4->Prop}(ns:List Int)(at' w h:Nat)(hn:ns.length<=63)(ha:at' < 2 ^ 20)(w1:1<=w)(w8:w<=8)(h1:1<=h)(h8:h<=8)(hf:∃f:Nat->Q4,∀k,k < 1000->Y4 [scr ns,.int ((at'+12*k:Nat):Int)]=Ob (f k).d/\P (f k)):∃l:List Q4,y9 [scr ns,.int at',.int w,.int h]=Ob (shD w h l)/\l.length=w*h/\∀q∈l,P q:=by
 obtain⟨f,hf⟩:=hf;have wh:w*h<=64:=bG w8 h8;have wh1:1<=w*h:=bG w1 h1;obtain⟨t,et,ht⟩:=aO7 ns (at'+7) 3 hn (by grind) (by decide);have et':A5 [scr ns,.int ((at':Int)+7),.int 3]=Ob (.int t):=by rw[← et];simp
 have c:K1 1 [0,1] (P0<|A4 F9 (A1 2) (A1 3)) (C3 0) M1 (A2 Y4<|A0 (A1 1) (A0 (A4 B0 (A1 2)<|A4 F9 ⇑12 (A1 0)) A3)) [‹scr ns›,‹.int at'›,‹.int w›,‹.int h›,Oa]=Ob ((ax<|w*h).map λk=>(f k).d):=by
  refine an7 (l:=ax<|w*h) (h:=λk:Nat=>eG k) (r:=[‹scr ns›,‹.int at'›]) rfl (aa3 ?_<|by grind) (by rw[aP];grind) ?_
  .exact P8 (by grind) (by grind)
  .intro k hk;have hk:=aO.mp hk;have m12:F9 (.int 12) (.int k)=Ob (.int ((12*k:Nat):Int)):=P8 (i:=12) (by decide) (by grind);have e1:((at':Int)+((12*k:Nat):Int))=((at'+12*k:Nat):Int):=by grind
   exists evD,m12,e1,(hf k<|by grind).1
 have mwh:F9 (.int w) (.int h)=Ob (.int ((w*h:Nat):Int)):=P8 (by grind) (by grind)
 have cv:((t:Int)==0)=decide (t=0):=by cases t with
  | zero=>rfl
  | succ n=>rw[decide_eq_false (by grind)];exact beq_eq_false_iff_ne.mpr (by grind)
 obtain⟨n,en⟩:∃n,w*h=n+1:=⟨w*h - 1,by grind⟩;by_cases t0:t=0
 .refine⟨aj (w*h)<|f 0,?_,bw ..,λq hq=>by rw[(cV.mp hq).2];exact(hf 0<|by decide).2⟩;refine A9 (ρ:=[‹scr ns›,‹.int at'›,‹.int w›,‹.int h›,Oa]) rfl ?_;have hd:(ax<|w*h).map (λk=>(f k).d)=(f 0).d::(ax n).map (λk=>(f<|k+1).d):=by rw[en,cG,xmc,bE];rfl
  rw[hd]at c
  have v:A4 F9 (ai0 (A1 4) U7<|O5 ⇑1) (A4 F9 (A1 2)<|A1 3) [‹scr ns›,‹.int at'›,‹.int w›,‹.int h›,‹.list ((f 0).d::(ax n).map (λk=>(f<|k+1).d))›]=Ob (.list<|aj (w*h) (f 0).d):=by
   have a1:ai0 (A1 4) U7 (O5 ⇑1) [‹scr ns›,‹.int at'›,‹.int w›,‹.int h›,‹.list ((f 0).d::(ax n).map (λk=>(f<|k+1).d))›]=Ob (.list<|u7 ((f 0).d::(ax n).map (λk=>(f<|k+1).d)) Oa (Ob 1)):=rfl;have a2:A4 F9 (A1 2) (A1 3) [‹scr ns›,‹.int at'›,‹.int w›,‹.int h›,‹.list ((f 0).d::(ax n).map (λk=>(f<|k+1).d))›]=Ob (.int ((w*h:Nat):Int)):=(au4 rfl rfl).trans mwh;rw[cQ5]at a1;have a3:=bB6 (xs:=[(f 0).d]) (show w*h<=1000 by grind) (show 1<=1000 by decide);rw[j4]at a3;exact(au4 a1 a2).trans a3
  have t1:tB2 eqD (A2 A5<|A0 (A1 0) (A0 (A4 B0 (A1 1) ⇑7)<|A0 ⇑3 A3)) ⇑0 [‹scr ns›,‹.int at'›,‹.int w›,‹.int h›,‹.list ((f 0).d::(ax n).map (λk=>(f<|k+1).d))›]=Ob true:=by simp only[tB2,A4,A2,A0,A3,A1,dC,xms,xbs,xg0,xg1,ad5,et',bn7,cv,decide_eq_true t0,k6]
  simp only[ap1,A7,ac4,c,sIf,t1,B6,v,A8,N7,A0,A3,S2,A6,A1,xms,xbs,xw0,xw1,xg0,xg1,if_true,xft,if_false,shD,cW]
 .refine⟨(ax (w*h)).map f,?_,by rw[ay,aP],λq hq=>by
   obtain⟨k,hk,rfl⟩:=aT.mp hq
   exact(hf k (by have:=aO.mp hk;grind)).2⟩
  refine A9 (ρ:=[‹scr ns›,‹.int at'›,‹.int w›,‹.int h›,Oa]) rfl ?_
  exists evD,ap1,c,et',cv,decide_eq_false t0,shD,bE
  rfl
def aI1(ns:List Int)(at' w h:Nat)(hn:ns.length<=63)(ha:at' < 2 ^ 20)(w1:1<=w)(w8:w<=8)(h1:1<=h)(h8:h<=8):∃l:List Q4,y9 [scr ns,.int at',.int w,.int h]=Ob (shD w h l)/\ShOk 8 w h l:=by
 obtain⟨l,e,n,hl⟩:=aN6 ns at' w h hn ha w1 w8 h1 h8 (bw2 ns at' hn ha);exact⟨l,e,w1,w8,h1,h8,n,hl⟩
def q4:(4:Nat)<=16777216:=by decide
def q3:(3:Nat)<=16777216:=by decide
def Dv(N:Nat)(r:Rat):Prop:=∃z:Int,r*(N:Rat)=(z:Rat)
def Dv.add{N:Nat}{r s:Rat}(h:Dv N r)(g:Dv N s):Dv N (r+s):=by
 obtain⟨a,ha⟩:=h;obtain⟨b,hb⟩:=g;exact⟨a+b,by rw[Rat.add_mul,ha,hb,Rat.intCast_add]⟩
def Dv.sub{N:Nat}{r s:Rat}(h:Dv N r)(g:Dv N s):Dv N (r - s):=by
 obtain⟨a,ha⟩:=h;obtain⟨b,hb⟩:=g;exact⟨a - b,by rw[Rat.intCast_sub,← ha,← hb];grind⟩
def Dv.mul{M N:Nat}{r s:Rat}(h:Dv M r)(g:Dv N s):Dv (M*N) (r*s):=by
 obtain⟨a,ha⟩:=h;obtain⟨b,hb⟩:=g;exact⟨a*b,by rw[Rat.intCast_mul,← ha,← hb,Rat.natCast_mul];grind⟩
def Dv.int(N:Nat)(i:Int):Dv N (i:Rat):=⟨i*N,by rw[Rat.intCast_mul];rfl⟩
def Dv.one(N:Nat):Dv N 1:=Dv.int N 1
def Dv.zero(N:Nat):Dv N 0:=Dv.int N 0
def Dv.right{N:Nat}{r:Rat}(h:Dv N r)(M:Nat):Dv (N*M) r:=by have:=h.mul (Dv.one M);rwa [Rat.mul_one]at this
def Dv.left{N:Nat}{r:Rat}(h:Dv N r)(M:Nat):Dv (M*N) r:=by have:=(Dv.one M).mul h;rwa [Rat.one_mul]at this
def Dv.comm{M N:Nat}{r:Rat}(h:Dv (M*N) r):Dv (N*M) r:=by rwa [bK]
def Dv.of(a:Int){N:Nat}(hN:0 < N):Dv N (mkRat a N):=by
 refine⟨a,?_⟩
 have hN':(N:Rat)≠0:=by
  intro h;have:N=0:=by exact_mod_cast h
  omega
 rw[Rat.mkRat_eq_div];exact Rat.div_mul_cancel hN'
def Dv.mk{N:Nat}{r:Rat}(hN:0 < N)(h:Dv N r)(h0:0<=r)(h1:r<=1):∃a:Nat,a<=N/\r=mkRat a N:=by
 obtain⟨z,hz⟩:=h;have hN':(0:Rat) < N:=by exact_mod_cast hN
 have z0:0<=z:=by
  have:(0:Rat)<=(z:Rat):=by rw[← hz];exact Rat.mul_nonneg h0<|Rat.le_of_lt hN'
  exact_mod_cast this
 have z1:z<=N:=by
  have:(z:Rat)<=(N:Rat):=by
   rw[← hz];have:=Rat.mul_le_mul_of_nonneg_right h1<|Rat.le_of_lt hN'
   rwa [Rat.one_mul]at this
  exact_mod_cast this
 refine⟨z.toNat,by omega,?_⟩;have e:((z.toNat:Nat):Int)=z:=by omega
 rw[Rat.mkRat_eq_div];have hne:(N:Rat)≠0:=λh=>by rw[h]at hN';exact absurd hN' (by decide)
 have e2:(((z.toNat:Nat):Int):Rat)=r*N:=by rw[e,hz]
 rw[e2];exact(Rat.mul_div_cancel hne).symm
def Dv.cap{N:Nat}{r:Rat}(h:Dv N r):Dv N (aA4 r):=by
 unfold aA4;split
 .exact h
 .exact Dv.one N
theorem Dv.cov(m:Man){M N:Nat}{c d:Rat}(hc:Dv M c)(hd:Dv N d):Dv (M*N) (m.cov c d):=by
 cases m
 case plus=>exact((hc.right N).add<|hd.left M).cap
 case atop=>exact hd.left M
 case cut=>exact(hd.mul<|(Dv.one M).sub hc).comm
 all_goals exact((hc.right N).add<|hd.left M).sub (hc.mul hd)
theorem Dv.col(m:Man){M N:Nat}{c d x y:Rat}(hc:Dv M c)(hd:Dv N d)(hx:Dv M x)(hy:Dv N y):Dv (M*N) (m.col c d x y):=by
 have r:=(hy.mul<|(Dv.one M).sub hc).comm;cases m
 case over=>exact(hx.right N).add r
 case mult=>exact((hx.mul hy).add<|hx.mul ((Dv.one N).sub hd)).add r
 case screen=>exact((hx.right N).add<|hy.left M).sub (hx.mul hy)
 case plus=>exact((hx.right N).add<|hy.left M).cap
 case atop=>exact(hx.mul hd).add r
 case cut=>exact r
def Dn(k:Nat)(q:Q4):Prop:=∃N,0 < N/\N < 2 ^ k/\Dv N q.c/\Dv N q.x/\Dv N q.y/\Dv N q.z
def Ds(k:Nat)(s:Rat):Prop:=∃N,0 < N/\N < 2 ^ k/\Dv N s
def V6{a b j k:Nat}(h1:a < 2 ^ j)(h2:b < 2 ^ k):a*b < 2 ^ (j+k):=by
 rw[Nat.pow_add];exact Nat.mul_lt_mul'' h1 h2
theorem Dn.bl(m:Man){j k:Nat}{a b:Q4}(h:Dn j a)(g:Dn k b):Dn (j+k) (m.bl a b):=by
 obtain⟨M,m0,m1,hc,hx,hy,hz⟩:=h;obtain⟨N,n0,n1,gc,gx,gy,gz⟩:=g;exact⟨M*N,bz m0 n0,V6 m1 n1,hc.cov m gc,hc.col m gc hx gx,hc.col m gc hy gy,hc.col m gc hz gz⟩
def Q4.wt(q:Q4)(s:Rat):Q4:=⟨q.c*s,q.x*s,q.y*s,q.z*s⟩
theorem Dn.wt{j k:Nat}{q:Q4}{s:Rat}(h:Dn j q)(g:Ds k s):Dn (j+k) (q.wt s):=by
 obtain⟨M,m0,m1,hc,hx,hy,hz⟩:=h;obtain⟨N,n0,n1,gs⟩:=g;exact⟨M*N,bz m0 n0,V6 m1 n1,hc.mul gs,hx.mul gs,hy.mul gs,hz.mul gs⟩
def Rul.tn(r:Rul)(s:Rat)(q:Q4):Q4:=⟨q.c,r.mix s q.c q.x q.y q.z,r.mix s q.c q.y q.z q.x,r.mix s q.c q.z q.x q.y⟩
theorem Dv.third:Dv 3 third:=Dv.of 1 (by decide)
theorem Dv.new(r:Rul){N:Nat}{c x y z:Rat}(hc:Dv N c)(hx:Dv N x)(hy:Dv N y)(hz:Dv N z):Dv (N*3) (r.new c x y z):=by
 cases r
 .exact(hc.sub hx).right 3
 .exact((hx.add hy).add hz).mul Dv.third
 .exact hy.right 3
theorem Dv.mix(r:Rul){M N:Nat}{s c x y z:Rat}(hs:Dv M s)(hc:Dv N c)(hx:Dv N x)(hy:Dv N y)(hz:Dv N z):Dv (M*(N*3)) (r.mix s c x y z) :=
 (hs.mul<|Dv.new r hc hx hy hz).add (((Dv.one M).sub hs).mul<|hx.right 3)
theorem Dn.tn(r:Rul){j k:Nat}{q:Q4}{s:Rat}(h:Dn j q)(g:Ds k s):Dn (k+(j+2)) (r.tn s q):=by
 obtain⟨N,n0,n1,hc,hx,hy,hz⟩:=h;obtain⟨M,m0,m1,gs⟩:=g;exact⟨M*(N*3),bz m0 (bz n0<|by decide),V6 m1 (V6 n1<|by decide),(hc.right 3).left M,gs.mix r hc hx hy hz,gs.mix r hc hy hz hx,gs.mix r hc hz hx hy⟩
def Dn.mono{j k:Nat}{q:Q4}(h:Dn j q)(l:j<=k):Dn k q:=by
 obtain⟨N,n0,n1,r⟩:=h;exact⟨N,n0,aE n1 (ck (by decide) l),r⟩
def Q4.or(q:Q4):Prop:=0<=q.x/\0<=q.y/\0<=q.z/\q.x<=q.c/\q.y<=q.c/\q.z<=q.c/\q.c<=1
theorem Q4.ok.or{k:Nat}{q:Q4}(h:q.ok k):q.or:=⟨h.hx.nn,h.hy.nn,h.hz.nn,h.xc,h.yc,h.zc,h.hc.le⟩
structure Dq (k:Nat) (q:Q4):Prop where
 o:q.or
 n:Dn k q
def bd8{k N:Nat}{r:Rat}(n0:0 < N)(n1:N < 2 ^ k)(d:Dv N r)(h0:0<=r)(h1:r<=1):IsSh k r:=by
 obtain⟨a,ha,e⟩:=d.mk n0 h0 h1;refine⟨?_,h1⟩;rw[e];exact Bd.of n0 (by omega) n1
theorem Dq.ok{k:Nat}{q:Q4}(h:Dq k q):q.ok k:=by
 obtain⟨⟨x0,y0,z0,xc,yc,zc,c1⟩,N,n0,n1,hc,hx,hy,hz⟩:=h;have c0:=Rat.le_trans x0 xc;exact⟨bd8 n0 n1 hc c0 c1,(bd8 n0 n1 hx x0<|Rat.le_trans xc c1).bd,(bd8 n0 n1 hy y0<|Rat.le_trans yc c1).bd,(bd8 n0 n1 hz z0<|Rat.le_trans zc c1).bd,xc,yc,zc⟩
theorem Dq.mono{j k:Nat}{q:Q4}(h:Dq j q)(l:j<=k):Dq k q:=⟨h.o,h.n.mono l⟩
theorem Dq.zero(k:Nat):Dq (k+1) q0:=⟨(cD9 (k:=1)<|by decide).or,1,by decide,Nat.one_lt_two_pow (by omega),Dv.zero 1,Dv.zero 1,Dv.zero 1,Dv.zero 1⟩
structure Sr (k:Nat) (s:Rat):Prop where
 h:IsSh k s
 n:Ds k s
theorem Dq.bl(m:Man){j k:Nat}{a b:Q4}(h:Dq j a)(g:Dq k b)(l:j+k<=1000):Dq (j+k) (m.bl a b)/\aa0 [.str m.s,a.d,b.d]=Ob (m.bl a b).d:=by
 have r:=cJ7 m (h.ok.mono (k:=j+k)<|by omega) (g.ok.mono (k:=j+k)<|by omega) (by omega);exact⟨⟨r.2.or,h.n.bl m g.n⟩,r.1⟩
def aK3{j k:Nat}{q:Q4}{s:Rat}(S:q.ok j)(hs:IsSh k s)(l:j+k<=8000):aa8 [q.d,fr s]=Ob (q.wt s).d:=by
 refine A9 (ρ:=[‹q.d›,‹fr s›]) rfl ?_;have f4:∀a b c d:D,([a,b,c,d]:List D).length<=16777216:=λa b c d=>by show 4<=16777216;decide
 exists evC,ay2,Q4.d,Q4.wt,sp,f4,N5 S.hc.bd hs.bd l,N5 S.hx hs.bd l,N5 S.hy hs.bd l,N5 S.hz hs.bd l
def cA7{q:Q4}{s:Rat}(h:q.or)(s0:0<=s)(s1:s<=1):(q.wt s).or:=by
 obtain⟨x0,y0,z0,xc,yc,zc,c1⟩:=h;have mono:∀{u v:Rat},u<=v->u*s<=v*s:=λh=>Rat.mul_le_mul_of_nonneg_right h s0
 exact⟨Rat.mul_nonneg x0 s0,Rat.mul_nonneg y0 s0,Rat.mul_nonneg z0 s0,mono xc,mono yc,mono zc,Rat.le_trans (r6 (Rat.le_trans x0 xc) s1) c1⟩
theorem Dq.wt{j k:Nat}{q:Q4}{s:Rat}(h:Dq j q)(g:Sr k s):Dq (j+k) (q.wt s):=⟨cA7 h.o g.h.bd.nn g.h.le,h.n.wt g.n⟩
theorem Dq.tn(r:Rul){j k:Nat}{q:Q4}{s:Rat}(h:Dq j q)(g:Sr k s)(l:j+k+2<=1000):Dq (j+k+2) (r.tn s q)/\au8 [.str r.s,q.d,fr s]=Ob (r.tn s q).d:=by
 have t:=bu3 r (h.ok.mono (k:=j+k)<|by omega) (g.h.mono (k:=j+k)<|by omega) (by omega);refine⟨⟨Q4.ok.or (q:=r.tn s q) t.2,?_⟩,t.1⟩;have:=h.n.tn r g.n
 rwa [show k+(j+2)=j+k+2 by omega]at this
inductive Nd where
 | layer (nm:D) (m:Man) (s:Rat) (sh:Bool) (lf tp:Int) (mk:Option (List Rat)) (w h:Nat) (l:List Q4) (kb:Nat)
 | tone (nm:D) (r:Rul) (s:Rat) (sh:Bool)
 | group (nm:D) (m:Man) (s:Rat) (sh:Bool) (ns:List Nd)
def mkD:Option (List Rat)->D
 | none=>.none
 | some ms=>.tuple<|ms.map fr
mutual
def Nd.d:Nd->D
 | .layer nm m s sh lf tp mk w h l _=>.tuple [.str "layer", nm,.str m.s,fr s,.bool sh,.int lf,.int tp,mkD mk,shD w h l]
 | .tone nm r s sh=>.tuple [.str "tone", nm,.str r.s,fr s,.bool sh]
 | .group nm m s sh ns=>.tuple [.str "group", nm,.str m.s,fr s,.bool sh,.tuple (Nd.ds ns)]
def Nd.ds:List Nd->List D
 | []=>[]
 | n::r=>n.d::Nd.ds r
end
def aH6(mk:Option (List Rat))(w h:Nat)(l:List Q4)(x y:Int):Q4:=match mk with
 | none=>atQ w h l x y
 | some ms=>if 0<=x/\x < w/\0<=y/\y < h then(atQ w h l x y).wt (ms.getD (y*w+x).toNat 1) else atQ w h l x y
def bC1(s:Rat)(lf tp:Int)(mk:Option (List Rat))(w h:Nat)(l:List Q4)(x y:Int):Q4:=(aH6 mk w h l (x - lf)<|y - tp).wt s
mutual
def Nd.ab(x y:Int):Nd->Q4->Q4
 | .layer _ m s sh lf tp mk w h l _,q=>if sh=true then m.bl (bC1 s lf tp mk w h l x y) q else q
 | .tone _ r s sh,q=>if sh=true then r.tn s q else q
 | .group _ m s sh ns,q=>if sh=true then m.bl ((Nd.sw x y ns q0).wt s) q else q
def Nd.sw(x y:Int):List Nd->Q4->Q4
 | [],q=>q
 | n::r,q=>Nd.sw x y r<|Nd.ab x y n q
end
mutual
def Nd.Ok:Nd->Prop
 | .layer _ _ s _ _ _ mk w h l kb=>Sr 4 s/\ShOk kb w h l/\(∀q∈l,Dq kb q)/\(∀ms,mk=Ob ms->ms.length=w*h/\∀r∈ms,Sr 4 r)/\1<=kb
 | .tone _ _ s _=>Sr 4 s
 | .group _ _ s _ ns=>Sr 4 s/\Nd.Oks ns
def Nd.Oks:List Nd->Prop
 | []=>True
 | n::r=>n.Ok/\Nd.Oks r
end
mutual
def Nd.wg:Nd->Nat
 | .layer _ _ _ _ _ _ _ _ _ _ kb=>kb+8
 | .tone ..=>6
 | .group _ _ _ _ ns=>5+Nd.wgs ns
def Nd.wgs:List Nd->Nat
 | []=>0
 | n::r=>n.wg+Nd.wgs r
end
mutual
def Nd.dp:Nd->Nat
 | .layer ..=>0
 | .tone ..=>0
 | .group _ _ _ _ ns=>1+Nd.dps ns
def Nd.dps:List Nd->Nat
 | []=>0
 | n::r=>max n.dp<|Nd.dps r
end
def cQ1:eqD (.str "layer") (.str "tone")=Ob (.bool false):=B1z
def cQ0:eqD (.str "tone") (.str "tone")=Ob (.bool true):=B1z
def cQ3:eqD (.str "group") (.str "tone")=Ob (.bool false):=B1z
def cQ2:eqD (.str "layer") (.str "layer")=Ob (.bool true):=B1z
def cQ4:eqD (.str "group") (.str "layer")=Ob (.bool false):=B1z
def cJ0:eqD (.str "layer") (.str "group")=Ob (.bool false):=B1z
def cJ1:eqD (.str "group") (.str "group")=Ob (.bool true):=B1z
section
variable {nm:D}{m:Man}{r:Rul}{s:Rat}{sh:Bool}{lf tp:Int}{mk:Option (List Rat)}{w h:Nat}{l:List Q4}{kb:Nat}{ns:List Nd}
def ak3:R6 [Nd.d (.layer nm m s sh lf tp mk w h l kb)]=Ob (.bool sh):=by rw[Nd.d];rfl
def at3:R6 [Nd.d (.tone nm r s sh)]=Ob (.bool sh):=by rw[Nd.d];rfl
def al2:R6 [Nd.d (.group nm m s sh ns)]=Ob (.bool sh):=by rw[Nd.d];rfl
def aW2:Q8 [Nd.d (.layer nm m s sh lf tp mk w h l kb)]=Ob (.bool false):=by rw[Nd.d];exact A9 (ρ:=[‹.tuple [.str "layer", nm,.str m.s,fr s,.bool sh,.int lf,.int tp,mkD mk,shD w h l]›]) rfl<|congrArg (bO Fl.rt) cQ1
def aS8:Q8 [Nd.d (.tone nm r s sh)]=Ob (.bool true):=by rw[Nd.d];exact A9 (ρ:=[‹.tuple [.str "tone", nm,.str r.s,fr s,.bool sh]›]) rfl<|congrArg (bO Fl.rt) cQ0
def aX9:Q8 [Nd.d (.group nm m s sh ns)]=Ob (.bool false):=by rw[Nd.d];exact A9 (ρ:=[‹.tuple [.str "group", nm,.str m.s,fr s,.bool sh,.tuple (Nd.ds ns)]›]) rfl<|congrArg (bO Fl.rt) cQ3
def bW4:m8 [Nd.d (.layer nm m s sh lf tp mk w h l kb)]=Ob (.bool true):=by rw[Nd.d];exact A9 (ρ:=[‹.tuple [.str "layer", nm,.str m.s,fr s,.bool sh,.int lf,.int tp,mkD mk,shD w h l]›]) rfl<|congrArg (bO Fl.rt) cQ2
def bZ6:m8 [Nd.d (.group nm m s sh ns)]=Ob (.bool false):=by rw[Nd.d];exact A9 (ρ:=[‹.tuple [.str "group", nm,.str m.s,fr s,.bool sh,.tuple (Nd.ds ns)]›]) rfl<|congrArg (bO Fl.rt) cQ4
def bC4:T1 [Nd.d (.layer nm m s sh lf tp mk w h l kb)]=Ob (.str m.s):=by rw[Nd.d];rfl
def bH1:T1 [Nd.d (.group nm m s sh ns)]=Ob (.str m.s):=by rw[Nd.d];rfl
def cj4:af0 [Nd.d (.tone nm r s sh)]=Ob (.str r.s):=by rw[Nd.d];rfl
def aW3:P1 [Nd.d (.layer nm m s sh lf tp mk w h l kb)]=Ob (fr s):=by rw[Nd.d];rfl
def aS9:P1 [Nd.d (.tone nm r s sh)]=Ob (fr s):=by rw[Nd.d];rfl
def aY0:P1 [Nd.d (.group nm m s sh ns)]=Ob (fr s):=by rw[Nd.d];rfl
def bC5:y8 [Nd.d (.layer nm m s sh lf tp mk w h l kb)]=Ob (.int lf):=by rw[Nd.d];rfl
def ce4:ae0 [Nd.d (.layer nm m s sh lf tp mk w h l kb)]=Ob (.int tp):=by rw[Nd.d];rfl
def aW4:af2 [Nd.d (.layer nm m s sh lf tp mk w h l kb)]=Ob (mkD mk):=by rw[Nd.d];rfl
def au0:X1 [Nd.d (.layer nm m s sh lf tp mk w h l kb)]=Ob (shD w h l):=by rw[Nd.d];rfl
def ae5:K0 [Nd.d (.group nm m s sh ns)]=Ob (.tuple<|Nd.ds ns):=by rw[Nd.d];rfl
end
def atF(ms:List Rat){i:Int}(h0:0<=i)(h1:i < ms.length):L2.atI (ms.map fr) i=Ob (fr<|ms.getD i.toNat 1):=by
 unfold L2.atI;rw[ay,ad0 h0 h1,xbs,av,aN];have:i.toNat < ms.length:=by omega
 rw[ao this];rfl
def bh8{k:Nat}{ms:List Rat}(h:∀r∈ms,Sr k r){i:Nat}(hi:i < ms.length):Sr k (ms.getD i 1):=by
 rw[aN,ao hi];exact h _<|bj hi
def aJ5{w h kb:Nat}{l:List Q4}(k1:1<=kb)(H:∀q∈l,Dq kb q)(x y:Int):Dq kb (atQ w h l x y):=by
 unfold atQ;split
 .rw[aN];cases e:l[(y*(w:Int)+x).toNat]? with
  | none=>exact(Dq.zero 0).mono (by omega)
  | some q=>exact H q<|bS e
 .exact(Dq.zero 0).mono (by omega)
def bg2{mk:Option (List Rat)}{w h kb:Nat}{l:List Q4}(k1:1<=kb)(H:∀q∈l,Dq kb q)(M:∀ms,mk=Ob ms->ms.length=w*h/\∀r∈ms,Sr 4 r)(x y:Int):Dq (kb+4) (aH6 mk w h l x y):=by
 unfold aH6;split
 .exact(aJ5 k1 H x y).mono (by omega)
 .rename_i ms;split
  .rename_i b;have pn:=an1 b;have hl:=(M ms rfl).1;exact(aJ5 k1 H x y).wt (bh8 (M ms rfl).2<|by omega)
  .exact(aJ5 k1 H x y).mono (by omega)
def bW3{s:Rat}{lf tp:Int}{mk:Option (List Rat)}{w h kb:Nat}{l:List Q4}(k1:1<=kb)(hs:Sr 4 s)(H:∀q∈l,Dq kb q)(M:∀ms,mk=Ob ms->ms.length=w*h/\∀r∈ms,Sr 4 r)(x y:Int):Dq (kb+8) (bC1 s lf tp mk w h l x y):=(bg2 k1 H M _ _).wt hs
def cw7:isB .none .none=Ob (.bool true):=rfl
def ao3(ds:List D):isB (.tuple ds) .none=Ob (.bool false):=rfl
def bm7{nm:D}{m:Man}{s:Rat}{sh:Bool}{lf tp:Int}{mk:Option (List Rat)}{w h kb:Nat}{l:List Q4}(k1:1<=kb)(k9:kb<=900)(S:ShOk kb w h l)(H:∀q∈l,Dq kb q)(M:∀ms,mk=Ob ms->ms.length=w*h/\∀r∈ms,Sr 4 r)(x y:Int):
  u9 [Nd.d (.layer nm m s sh lf tp mk w h l kb),.int x,.int y]=Ob (aH6 mk w h l x y).d:=by
 have hp:Y5 [shD w h l,.int x,.int y]=_:=al0 w h (.tuple<|l.map Q4.d) x y;have sa:=aT6 S x y;refine A9 (ρ:=[‹Nd.d (.layer nm m s sh lf tp mk w h l kb)›,‹.int x›,‹.int y›,Oa,Oa,Oa]) rfl ?_;cases mk with
 | none=>exists evD,X5,au0,aW4,sa,mkD,cw7,aH6
 | some ms =>
  by_cases b:0<=x/\x < w/\0<=y/\y < h
  .rw[decide_eq_true b]at hp;have nm:D8 [shD w h l,.int x,.int y]=_:=an2 (.tuple<|l.map Q4.d) S.w8 S.h8 b;have pn:=an1 b;have hl:=(M ms rfl).1;have af:=atF ms pn.1 (by rw[hl];exact pn.2);have hs:=bh8 (M ms rfl).2 (show(y*(w:Int)+x).toNat < ms.length by grind);have wo:=aK3 (aJ5 (w:=w) (h:=h) k1 H x y).ok hs.h (by grind)
   exists evD,X5,au0,aW4,sa,mkD,ao3,hp,nm,af,wo,aH6,if_pos b
  .rw[decide_eq_false b]at hp
   exists evD,X5,au0,aW4,sa,mkD,ao3,hp,aH6,if_neg b
def bL7{nm:D}{m:Man}{s:Rat}{sh:Bool}{lf tp:Int}{mk:Option (List Rat)}{w h kb:Nat}{l:List Q4}(k1:1<=kb)(k9:kb<=900)(hs:Sr 4 s)(S:ShOk kb w h l)(H:∀q∈l,Dq kb q)(M:∀ms,mk=Ob ms->ms.length=w*h/\∀r∈ms,Sr 4 r)(f:Nat)(x y:Int):
  af5 (f+1) [Nd.d (.layer nm m s sh lf tp mk w h l kb),.int x,.int y]=Ob (bC1 s lf tp mk w h l x y).d:=by
 refine A9 (g:=y6<|W7 f) (ρ:=[‹Nd.d (.layer nm m s sh lf tp mk w h l kb)›,‹.int x›,‹.int y›,Oa]) rfl ?_;have mo:=bm7 (nm:=nm) (m:=m) (s:=s) (sh:=sh) (lf:=lf) (tp:=tp) k1 k9 S H M (x - lf) (y - tp);have wo:=aK3 (bg2 k1 H M (x - lf)<|y - tp).ok hs.h (by grind)
 exists evD,y6,bW4,bC5,ce4,mo,aW3,wo,bC1
def bL8{nm:D}{m:Man}{s:Rat}{sh:Bool}{ns:List Nd}{q:Q4}{j:Nat}(hs:Sr 4 s)(f:Nat)(x y:Int)(e:k8 f [.tuple (Nd.ds ns),.int x,.int y]=Ob q.d)(hq:Dq j q)(l:j+4<=8000):
  af5 (f+1) [Nd.d (.group nm m s sh ns),.int x,.int y]=Ob (q.wt s).d:=by
 refine A9 (g:=y6<|W7 f) (ρ:=[‹Nd.d (.group nm m s sh ns)›,‹.int x›,‹.int y›,Oa]) rfl ?_;have e':W7 f 2 [.tuple (Nd.ds ns),.int x,.int y]=Ob q.d:=e;have wo:=aK3 hq.ok hs.h l
 exists evD,y6,bZ6,ae5,e',aY0,wo
mutual
theorem bM4(x y:Int):∀(n:Nd) (f:Nat) (q:Q4) (j:Nat),n.Ok->3*n.dp+2<=f->Dq j q->j+n.wg<=900->ag7 f [n.d,q.d,.int x,.int y]=Ob (Nd.ab x y n q).d/\Dq (j+n.wg) (Nd.ab x y n q)
 | .layer nm m s sh lf tp mk w h l kb,f,q,j,ok,hf,hq,hj=>by
  obtain⟨f,rfl⟩:∃g,f=g+2:=⟨f - 2,by grind⟩;simp only[Nd.Ok]at ok;simp only[Nd.wg]at hj;obtain⟨hs,S,H,M,k1⟩:=ok;have bo:W7 (f+1) 0 [Nd.d (.layer nm m s sh lf tp mk w h l kb),.int x,.int y]=_:=bL7 (nm:=nm) (m:=m) (sh:=sh) k1 (by grind) hs S H M f x y;have b:=Dq.bl m (bW3 (lf:=lf) (tp:=tp) k1 hs H M x y) hq (by grind)
  have st:C6 (M0<|W7 (f+1)) 4 [Nd.d (.layer nm m s sh lf tp mk w h l kb),q.d,.int x,.int y]=Ob (Nd.ab x y (.layer nm m s sh lf tp mk w h l kb) q).d:=by
   refine A9 (ρ:=[‹Nd.d (.layer nm m s sh lf tp mk w h l kb)›,‹q.d›,‹.int x›,‹.int y›]) rfl ?_;cases sh with
   | true=>exists evD,M0,ak3,aW2,bC4,bo,b.2,Nd.ab
   | false=>exists evD,M0,ak3,Nd.ab
  refine⟨st,?_⟩;simp only[Nd.ab,Nd.wg];split
  .exact b.1.mono (by grind)
  .exact hq.mono (by grind)
 | .tone nm r s sh,f,q,j,ok,hf,hq,hj=>by
  obtain⟨f,rfl⟩:∃g,f=g+2:=⟨f - 2,by grind⟩;simp only[Nd.Ok]at ok;simp only[Nd.wg]at hj;have b:=Dq.tn r hq ok (by grind)
  have st:C6 (M0<|W7 (f+1)) 4 [Nd.d (.tone nm r s sh),q.d,.int x,.int y]=Ob (Nd.ab x y (.tone nm r s sh) q).d:=by
   refine A9 (ρ:=[‹Nd.d (.tone nm r s sh)›,‹q.d›,‹.int x›,‹.int y›]) rfl ?_;cases sh with
   | true=>exists evD,M0,at3,aS8,cj4,aS9,b.2,Nd.ab
   | false=>exists evD,M0,at3,Nd.ab
  refine⟨st,?_⟩;simp only[Nd.ab,Nd.wg];split
  .exact b.1.mono (by grind)
  .exact hq.mono (by grind)
 | .group nm m s sh ns,f,q,j,ok,hf,hq,hj=>by
  simp only[Nd.dp]at hf;obtain⟨f,rfl⟩:∃g,f=g+3:=⟨f - 3,by grind⟩;simp only[Nd.Ok]at ok;simp only[Nd.wg]at hj;obtain⟨hs,oks⟩:=ok;have lp:=loop_ok x y ns f q0 1 oks (by grind) (Dq.zero 0) (by grind)
  have sb:k8 (f+1) [.tuple (Nd.ds ns),.int x,.int y]=Ob (Nd.sw x y ns q0).d:=by
   obtain⟨a4,e4⟩:=lp.1 (‹.tuple (Nd.ds ns)›) Oa;refine A9 (g:=k7<|W7 f) (ρ:=[‹.tuple (Nd.ds ns)›,‹.int x›,‹.int y›,Oa,Oa]) rfl ?_;simp only[cE0]at e4;simp only[k7,A7,B6,dC,Y8,T8,A1,A8,xms,xbs,xw0,xw1,xg0,xg1,e4]
  have bo:W7 (f+2) 0 [Nd.d (.group nm m s sh ns),.int x,.int y]=_:=bL8 (nm:=nm) (m:=m) (sh:=sh) hs (f+1) x y sb lp.2 (by grind);have b:=Dq.bl m (lp.2.wt hs) hq (by grind)
  have st:C6 (M0<|W7 (f+2)) 4 [Nd.d (.group nm m s sh ns),q.d,.int x,.int y]=Ob (Nd.ab x y (.group nm m s sh ns) q).d:=by
   refine A9 (ρ:=[‹Nd.d (.group nm m s sh ns)›,‹q.d›,‹.int x›,‹.int y›]) rfl ?_;cases sh with
   | true=>exists evD,M0,al2,aX9,bH1,bo,b.2,Nd.ab
   | false=>exists evD,M0,al2,Nd.ab
  refine⟨st,?_⟩;simp only[Nd.ab,Nd.wg];split
  .exact b.1.mono (by grind)
  .exact hq.mono (by grind)
theorem loop_ok(x y:Int):∀(ns:List Nd) (f:Nat) (q:Q4) (j:Nat),Nd.Oks ns->3*Nd.dps ns+2<=f->Dq j q->j+Nd.wgs ns<=900 ->
  (∀a0 a4:Option B,∃a4',aa6 (C3 4) (B6 3<|A2 (W7 f 1) (A0 (A1 4)<|A0 (A1 3) (A0 (A1 1)<|A0 (A1 2) A3))) (Nd.ds ns) [a0,‹.int x›,‹.int y›,‹q.d›,a4]=Ob (.nx [a0,‹.int x›,‹.int y›,Ob (.val (Nd.sw x y ns q).d),a4']))/\Dq (j+Nd.wgs ns) (Nd.sw x y ns q)
 | [],f,q,j,ok,hf,hq,hj=>by
  simp only[Nd.sw,Nd.wgs];exact⟨λa0 a4=>⟨a4,by simp only[Nd.ds];rfl⟩,hq⟩
 | n::r,f,q,j,ok,hf,hq,hj=>by
  simp only[Nd.Oks]at ok;simp only[Nd.dps]at hf;simp only[Nd.wgs]at hj;have a:=bM4 x y n f q j ok.1 (by grind) hq (by grind);have b:=loop_ok x y r f (Nd.ab x y n q) (j+n.wg) ok.2 (by grind) a.2 (by grind);have e:W7 f 1 [n.d,q.d,.int x,.int y]=_:=a.1;simp only[Nd.sw,Nd.wgs];refine⟨λa0 a4=>?_,by rw[← Nat.add_assoc];exact b.2⟩;obtain⟨a4',e'⟩:=b.1 a0 (‹n.d›);refine⟨a4',?_⟩;simp only[Nd.ds,aa6,C3,B6,A2,A0,A3,A1,xbs,xms,xw0,xw1,xg0,xg1,e,e']
end
def aL2(x y:Int)(ns:List Nd)(f:Nat)(ok:Nd.Oks ns)(hf:3*Nd.dps ns+2<=f)(hj:1+Nd.wgs ns<=900):k8 (f+1) [.tuple (Nd.ds ns),.int x,.int y]=Ob (Nd.sw x y ns q0).d/\Dq (1+Nd.wgs ns) (Nd.sw x y ns q0):=by
 have lp:=loop_ok x y ns f q0 1 ok hf (Dq.zero 0) hj;refine⟨?_,lp.2⟩;obtain⟨a4,e4⟩:=lp.1 (‹.tuple (Nd.ds ns)›) Oa;refine A9 (g:=k7<|W7 f) (ρ:=[‹.tuple (Nd.ds ns)›,‹.int x›,‹.int y›,Oa,Oa]) rfl ?_;simp only[cE0]at e4;simp only[k7,A7,B6,dC,Y8,T8,A1,A8,xms,xbs,xw0,xw1,xg0,xg1,e4]
end Sh
open Sh.Nd renaming d→eS,ds→eT,ab→eU,sw→eV,Oks→eW,wgs→eX,dp→eY,dps→eZ
local macro_rules
  | `(↥$x) => `(PySem.PyData.tuple (Sh.Nd.ds $x))
namespace Sh
open PySem G L2
def cK3(a b c d e f g h i:D):L2.atI [a,b,c,d,e,f,g,h,i] 0=Ob a:=rfl
def cK2(a b c d e f g h i:D):L2.atI [a,b,c,d,e,f,g,h,i] 1=Ob b:=rfl
def cK6(a b c d e f:D):L2.atI [a,b,c,d,e,f] 0=Ob a:=rfl
def cK5(a b c d e f:D):L2.atI [a,b,c,d,e,f] 1=Ob b:=rfl
def cK4(a b c d e f:D):L2.atI [a,b,c,d,e,f] 5=Ob f:=rfl
def cK8(a b c d e:D):L2.atI [a,b,c,d,e] 0=Ob a:=rfl
def cK7(a b c d e:D):L2.atI [a,b,c,d,e] 1=Ob b:=rfl
def aC0:ak2 .none .none=Ob (.bool false):=rfl
def F5{f g:DS}{ρ ρ':Rho}(h:f ρ=Ob (.nx ρ')):A7 f g ρ=g ρ':=by unfold A7;rw[h];rfl
def bw7{f g:DS}{ρ:Rho}{d:D}(h:f ρ=Ob (.rt d)):A7 f g ρ=Ob (.rt d):=by unfold A7;rw[h];rfl
theorem ad2{α:Type}{g:D->Rho->Option Rho}{f:DS}{h:α->D}{I:Nat->Rho->Prop}:∀(l:List α) (i:Nat) (ρ:Rho),I i ρ->(∀(j:Nat) (a:α),l[j]? = Ob a->∀ρ,I (i+j) ρ->∃ρ1,g (h a) ρ=Ob ρ1/\∃ρ',f ρ1=Ob (.nx ρ')/\I (i+j+1) ρ')->∃ρ',aa6 g f (l.map h) ρ=Ob (.nx ρ')/\I (i+l.length) ρ'
 | [],i,ρ,h0,_=>⟨ρ,rfl,h0⟩
 | a::l,i,ρ,h0,H=>by
  obtain⟨ρ1,e1,ρ2,e2,h2⟩:=H 0 a rfl ρ h0
  obtain⟨ρ',e3,h3⟩:=ad2 l (i+1) ρ2 (by simpa using h2) (λj b hb ρ hρ=>by
   have:=H (j+1) b (by simpa using hb) ρ (by rwa [show i+(j+1)=i+1+j by grind])
   rwa [show i+(j+1)+1=i+1+j+1 by grind]at this)
  refine⟨ρ',?_,by rw[aJ,show i+(l.length+1)=i+1+l.length by grind];exact h3⟩;simp only[xmc,aa6,e1,xbs,e2,e3]
def ax0{α:Type}(x:α){n:Nat}{P:Nat->α->Prop}(h:∀j,j < n->∃a,P j a):∃f:Nat->α,∀j,j < n->P j (f j):=by
 refine⟨λj=>if hj:j < n then Classical.choose (h j hj) else x,λj hj=>?_⟩;simp only[dif_pos hj];exact dw<|h j hj
def S6(ns:List Int)(hn:ns.length<=63){e m':Int}(k m:Nat)(he:e=(k:Int))(hm':m'=(m:Int))(hk:k < 2 ^ 60)(hm:0 < m):∃n:Nat,A5 [scr ns,.int e,.int m']=Ob (.int n)/\n < m:=by
 subst he hm';exact aO7 ns k m hn hk hm
def drw(ns:List Int)(hn:ns.length<=63)(a:Nat)(c m:Int)(ha:a < 2 ^ 59)(hc:0<=c/\c < 1048576:=by decide)(hm:0 < m:=by decide):∃n:Nat,A5 [scr ns,.int ((a:Int)+c),.int m]=Ob (.int n)/\n < m.toNat :=
 S6 ns hn (e:=a+c) (m':=m) (a+c.toNat) m.toNat (by grind) (by grind) (by grind) (by grind)
def aL3(ns:List Int)(hn:ns.length<=63){e:Int}(k:Nat)(he:e=(k:Int))(hk:k < 2 ^ 40):∃r,P7 [scr ns,.int e]=Ob (fr r)/\IsSh 4 r:=by
 subst he;exact ae9 ns k hn hk
def bw5(ns:List Int)(hn:ns.length<=63){e:Int}(k w h:Nat)(he:e=(k:Int))(hk:k < 2 ^ 20)(w1:1<=w)(w8:w<=8)(h1:1<=h)(h8:h<=8):∃l:List Q4,y9 [scr ns,.int e,.int w,.int h]=Ob (shD w h l)/\ShOk 8 w h l:=by
 subst he;exact aI1 ns k w h hn hk w1 w8 h1 h8
def al4(r:Rat):Dv r.den r:=by
 have:=Dv.of r.num<|O2 r
 rwa [Rat.mkRat_self]at this
def bd5{k:Nat}{s:Rat}(h:IsSh k s):Sr k s:=⟨h,s.den,O2 s,h.bd.den,al4 s⟩
def cJ2{q:Q4}(h:q.ok 8):Dq 32 q :=
 ⟨h.or,q.c.den*q.x.den*(q.y.den*q.z.den),bz (bz (O2 _) (O2 _)) (bz (O2 _) (O2 _)),V6 (V6 h.hc.bd.den h.hx.den) (V6 h.hy.den h.hz.den),
  ((al4 q.c).right _).right _,((al4 q.x).left _).right _,((al4 q.y).right _).left _,((al4 q.z).left _).left _⟩
def SOk(s:Str):Prop:=∀c∈s.cps.toList,97<=c/\c<=122
def SOk.ok{s:Str}(h:SOk s):eJ (.str s)=true:=by
 show s.cps.all (· < 0x110000)=true;rw[Array.all_eq_true'];intro c hc;exact decide_eq_true (by have:=h c (cj.mpr hc);grind)
def SOk.app{a b:Str}(ha:SOk a)(hb:SOk b):SOk (a++b):=by
 intro c hc;have:c∈(a.cps++b.cps).toList:=hc;rw[cU]at this;rcases aD.mp this with h|h
 .exact ha c h
 .exact hb c h
def cw4(x:Str)(n:Nat)(h:n < x.length)(hx:x.length<=1000):∃s:Str,atS x (n:Int)=Ob (.str s)/\s.length=1/\(SOk x->SOk s):=by
 unfold atS;rw[if_pos (by grind)];have hl:x.cps.toList.length=x.length:=by unfold Str.length;simp
 have h':n < x.cps.toList.length:=by grind
 have:atI x.cps.toList (n:Int)=Ob x.cps.toList[n]:=by
  unfold atI;rw[ad0 (by grind) (by grind),xbs,aZ,ao h']
 rw[this];refine⟨⟨#[x.cps.toList[n]]⟩,rfl,rfl,λhs c hc=>?_⟩;have:c=x.cps.toList[n]:=by simpa using hc
 rw[this];exact hs _<|bj h'
def bR4(x:Str)(lo hi:Option Int):(slS x lo hi).length<=x.length:=by
 unfold slS;split
 .exact ah _
 .unfold Str.length;rw[ai];exact aL (List.length_filterMap_le ..)<|PyProof.Rows.indices_len_le ..
def bR3{x:Str}(h:SOk x)(lo hi:Option Int):SOk (slS x lo hi):=by
 unfold slS;split
 .exact h
 .intro c hc;simp only[List.toList_toArray]at hc;obtain⟨i,_,e⟩:=cy.mp hc;exact h c<|cj.mpr (Array.mem_of_getElem? e)
def bx3{x:Str}(h:SOk x)(k:Int)(hk:k=1\/k=2):SOk (as3 x k):=by
 unfold as3;split
 .exact h
 .rename_i e;rcases hk with rfl|rfl
  .simp at e
  .intro c hc;have:c∈((#[]++x.cps)++x.cps).toList:=hc;simp at this;exact h c<|cj.mpr this
def bG6{a b:Str}(ha:SOk a)(hb:SOk b):SOk (Builtin.Str.glued "" [a,b]):=by
 intro c hc;have:c∈(a.cps++("" : Str).cps++b.cps).toList:=hc;rw[cU,cU]at this;rcases aD.mp this with h|h
 .rcases aD.mp h with h|h
  .exact ha c h
  .exact absurd h (by simp[show("" : Str).cps = #[] from rfl])
 .exact hb c h
def cc0:SOk "abcdefghijklmnopqrstuvwxyz" := by
 have:("abcdefghijklmnopqrstuvwxyz" : Str).cps.toList.all (λc=>decide (97<=c/\c<=122))=true:=by decide +kernel
 intro c hc;exact of_decide_eq_true<|aQ.mp this c hc
def ltr(k:Nat):Str:=⟨#[97+k]⟩
def cq4:∀k:Nat,k < 14->atS "abcdefghijklmn" (k:Int)=Ob (.str<|ltr k):=by
 have e:("abcdefghijklmn" : Str)=⟨#[97,98,99,100,101,102,103,104,105,106,107,108,109,110]⟩:=by decide +kernel
 intro k hk;rw[e];rcases k with _|_|_|_|_|_|_|_|_|_|_|_|_|_|k
 all_goals first|rfl|grind
def bg5(k:Nat)(h:k < 14):SOk (ltr k):=by
 intro c hc;have:c=97+k:=by simpa [ltr] using hc
 grind
def nmS(b:Bool)(k:Nat)(y:Str):Str:=if b=true then ltr k++y else y++ltr k
def bV6(b:Bool){k:Nat}{y:Str}(hk:k < 14)(hy:SOk y):SOk (nmS b k y):=by
 unfold nmS;split
 .exact(bg5 k hk).app hy
 .exact hy.app (bg5 k hk)
def bV7{b:Bool}{i j:Nat}{y z:Str}(e:nmS b i y=nmS b j z):i=j:=by
 unfold nmS at e;cases b with
 | true =>
  have e:(ltr i).cps++y.cps=(ltr j).cps++z.cps:=congrArg Str.cps e;have e:=congrArg (λa=>a.toList.head?) e;simp[ltr]at e;omega
 | false =>
  have e:y.cps++(ltr i).cps=z.cps++(ltr j).cps:=congrArg Str.cps e;have e:=congrArg (λa=>a.toList.getLast?) e;simp[ltr]at e;omega
def aL6(x:Str)(k:Int)(hk:k=1\/k=2):(as3 x k).length<=2*x.length:=by
 unfold as3;split
 .grind
 .rename_i e;rcases hk with rfl|rfl
  .simp at e
  .show((#[]++x.cps)++x.cps).size<=2*x.cps.size;simp;grind
def ce8(a b:Str)(ha:a.length=1)(hb:b.length=1):ax7 (dC<|.str "") (λ_=>Ob (false,[.str a,.str b])) []=Ob (.str<|Builtin.Str.glued "" [a,b])/\(Builtin.Str.glued "" [a,b]).length=2:=by
 have h2:(Builtin.Str.glued "" [a,b]).length=2:=by
  show(a.cps++("" : Str).cps++b.cps).size=2;unfold Str.length at ha hb;rw[bJ,bJ,ha,hb];rfl
 have h1:ak4 "" [a,b]<=16777216:=by
  show 0+a.length+("" : Str).length+b.length+("" : Str).length<=16777216;have:("" : Str).length=0:=rfl
  grind
 refine⟨?_,h2⟩;show(if ak4 "" [a,b]<=16777216/\(Builtin.Str.glued "" [a,b]).length<=16777216 then Ob (PyData.str<|Builtin.Str.glued "" [a,b]) else Oa)=_;rw[if_pos ⟨h1,by grind⟩]
def bX7{f:DE}{g:Rho->Option (Bool×List D)}{ρ:Rho}{a b:Str}(hf:f ρ=Ob (.str ""))(hg:g ρ=Ob (false,[.str a,.str b]))(ha:a.length=1)(hb:b.length=1):ax7 f g ρ=Ob (.str<|Builtin.Str.glued "" [a,b]):=by
 rw[← (ce8 a b ha hb).1];unfold ax7;rw[hf,hg];rfl
def bW1(x:Str)(k:Int)(hk:k=1\/k=2)(hx:x.length<=1000):bm5 (.str x) (.int k)=Ob (.str<|as3 x k):=by
 show(if 1<=k/\k<=2/\x.length<=1000/\(as3 x k).length<=16777216 then Ob (PyData.str<|as3 x k) else Oa)=_;have:=aL6 x k hk;rw[if_pos ⟨by grind,by grind,hx,by grind⟩]
def aQ3(a b:Str)(ha:a.length<=1000)(hb:b.length<=1000):B0 (.str a) (.str b)=Ob (.str<|a++b):=by
 show(if a.length+b.length<=16777216 then Ob (PyData.str<|a++b) else Oa)=_;rw[if_pos (by grind)]
def cP2:∀n:Nat,n < 2->∃k:Int,atI ([.int 1,.int 2]:List D) (n:Int)=Ob (.int k)/\(k=1\/k=2)
 | 0,_=>⟨1,rfl,.inl rfl⟩
 | 1,_=>⟨2,rfl,.inr rfl⟩
 | n+2,h=>absurd h (by grind)
def aM9:DS:=A7 nbA<|A7 nbB nbC
def bG4:aE4=(A7 (B6 3<|A4 eqD (A2 A5<|A0 (A1 0) (A0 (A1 1)<|A0 ⇑2 A3)) ⇑0)<|A7 (aj4 4 A3) (A7 (Y8 (P0<|A1 2) (C3 5) aM9)<|aL5 4 (A8<|A1 4))):=rfl
def gn4:DS:=(A8<|S2 (A6 6))
def bG3:aE3=(A7 gn0<|A7 gn1 (A7 gn2<|A7 gn3 gn4)):=rfl
def cp7(ns:List Int)(hn:ns.length<=63)(at' k:Nat)(ha:at' < 2 ^ 20)(hk:k < 14)(a2:Option B)(b:Bool)(L:List D)(a6:Option B):∃x:Str,nbA [‹scr ns›,‹.int at'›,a2,‹.bool b›,Ob (.own L),‹.int k›,a6]=Ob (.nx [‹scr ns›,‹.int at'›,a2,‹.bool b›,Ob (.own L),‹.int k›,‹.str x›])/\x.length=2/\SOk x:=by
 have m3:F9 (.int 3) (.int k)=Ob (.int ((3*k:Nat):Int)):=P8 (i:=3) (by decide) (by grind)
 have P:∀j,j < 2->∃s:Str,ai1 (dC<|.str "abcdefghijklmnopqrstuvwxyz") (A2 A5<|A0 (A1 1) (A0 (A4 B0 (A4 B0 (A4 B0 (A1 2) ⇑1)<|A4 F9 ⇑3 (A1 3))<|A1 0)<|A0 ⇑26 A3)) [‹.int (j:Nat)›,‹scr ns›,‹.int at'›,‹.int k›]=Ob (.str s)/\s.length=1/\SOk s:=λj hj=>by
  obtain⟨d,ed,ld⟩:=S6 ns hn (e:=(at':Int)+1+((3*k:Nat):Int)+(j:Int)) (m':=26) (at'+1+3*k+j) 26 (by grind) rfl (by grind) (by decide);obtain⟨s,es,ls,ss⟩:=cw4 "abcdefghijklmnopqrstuvwxyz" d ld (by decide);refine⟨s,?_,ls,ss cc0⟩
  exists evD,ai1,m3,ed,es
 obtain⟨S,hS⟩:=ax0 (x:=("" : Str)) P
 have c:K1 1 [0,1,5] (P0 ⇑2) (C3 0) M1 (ai1 (dC<|.str "abcdefghijklmnopqrstuvwxyz")<|A2 A5 (A0 (A1 1)<|A0 (A4 B0 (A4 B0 (A4 B0 (A1 2) ⇑1)<|A4 F9 ⇑3 (A1 3))<|A1 0) (A0 ⇑26 A3))) [‹scr ns›,‹.int at'›,a2,‹.bool b›,Ob (.own L),‹.int k›,a6]=Ob ((ax 2).map λj=>.str<|S j) :=
  an7 (l:=ax 2) (h:=λj:Nat=>eG j) (r:=[‹scr ns›,‹.int at'›,‹.int k›]) rfl (aa3 (n:=2) rfl<|by decide) (by decide) λj hj=>(hS j<|aO.mp hj).1
 refine⟨Builtin.Str.glued "" [S 0,S 1],?_,(ce8 _ _ (hS 0<|by decide).2.1 (hS 1<|by decide).2.1).2,bG6 (hS 0<|by decide).2.2 (hS 1<|by decide).2.2⟩;have jn:=bX7 (f:=dC<|.str "") (g:=qN<|K1 1 [0,1,5] (P0 ⇑2) (C3 0) M1 (ai1 (dC<|.str "abcdefghijklmnopqrstuvwxyz")<|A2 A5 (A0 (A1 1)<|A0 (A4 B0 (A4 B0 (A4 B0 (A1 2) ⇑1)<|A4 F9 ⇑3 (A1 3))<|A1 0) (A0 ⇑26 A3)))) (ρ:=[‹scr ns›,‹.int at'›,a2,‹.bool b›,Ob (.own L),‹.int k›,a6]) rfl (by unfold qN;rw[c];rfl) (hS 0<|by decide).2.1 (hS 1<|by decide).2.1;unfold nbA B6;rw[jn];rfl
def cp6(ns:List Int)(hn:ns.length<=63)(at' k:Nat)(ha:at' < 2 ^ 20)(hk:k < 14)(a2:Option B)(b:Bool)(L:List D)(x:Str)(hx:x.length=2)(sx:SOk x):∃y:Str,nbB [‹scr ns›,‹.int at'›,a2,‹.bool b›,Ob (.own L),‹.int k›,‹.str x›]=Ob (.nx [‹scr ns›,‹.int at'›,a2,‹.bool b›,Ob (.own L),‹.int k›,‹.str y›])/\y.length<=4/\SOk y:=by
 have m3:F9 (.int 3) (.int k)=Ob (.int ((3*k:Nat):Int)):=P8 (i:=3) (by decide) (by grind);obtain⟨d,ed,ld⟩:=S6 ns hn (e:=(at':Int)+3+((3*k:Nat):Int)) (m':=3) (at'+3+3*k) 3 (by grind) rfl (by grind) (by decide);obtain⟨d',ed',ld'⟩:=S6 ns hn (e:=(at':Int)+2+((3*k:Nat):Int)) (m':=2) (at'+2+3*k) 2 (by grind) rfl (by grind) (by decide);obtain⟨kk,ek,hk'⟩:=cP2 d' ld';have sl:=bR4 x Oa (Ob (d:Int));have rl:=aL6 (slS x Oa<|Ob (d:Int)) kk hk';refine⟨as3 (slS x Oa<|Ob (d:Int)) kk,?_,by grind,bx3 (bR3 sx _ _) kk hk'⟩
 have a1:bp9 (A1 6) U7 (O5<|A2 A5 (A0 (A1 0)<|A0 (A4 B0 (A4 B0 (A1 1) ⇑3)<|A4 F9 ⇑3 (A1 5)) (A0 ⇑3 A3))) [‹scr ns›,‹.int at'›,a2,‹.bool b›,Ob (.own L),‹.int k›,‹.str x›]=Ob (.str<|slS x Oa (Ob (d:Int))):=by
  have cnd:x.length<=1000/\(slS x Oa<|Ob (d:Int)).length<=16777216:=⟨by grind,by grind⟩
  exists evD,bp9,m3,ed,if_pos cnd
 have a2:dIx (qN<|A0 ⇑1 (A0 ⇑2 A3)) (A2 A5<|A0 (A1 0) (A0 (A4 B0 (A4 B0 (A1 1) ⇑2)<|A4 F9 ⇑3 (A1 5))<|A0 ⇑2 A3)) [‹scr ns›,‹.int at'›,a2,‹.bool b›,Ob (.own L),‹.int k›,‹.str x›]=Ob (.int kk):=by exists evD,m3,ed',ek
 unfold nbB B6;rw[au4 a1 a2,bW1 _ kk hk' (by grind)];rfl
def ifb(b:Bool)(x y:D):atI [x,y] (if b=true then 1 else 0)=Ob (if b=true then y else x):=by cases b<;>rfl
def cp5(ns:List Int)(at' k:Nat)(hk:k < 14)(a2:Option B)(b:Bool)(L:List D)(hL:L.length<=100)(y:Str)(hy:y.length<=4):nbC [‹scr ns›,‹.int at'›,a2,‹.bool b›,Ob (.own L),‹.int k›,‹.str y›]=Ob (.nx [‹scr ns›,‹.int at'›,a2,‹.bool b›,Ob (.own<|L++[.str (nmS b k y)]),‹.int k›,‹.str y›]):=by
 have ec:=cq4 k hk;have lc:(ltr k).length=1:=rfl;have c1:=aQ3 y (ltr k) (by grind) (by grind);have c2:=aQ3 (ltr k) y (by grind) (by grind);have hl:L.length < 16777216:=by grind
 have e:dIx (qN<|A0 (A4 B0 (A1 6)<|ai1 (dC<|.str "abcdefghijklmn") (A1 5)) (A0 (A4 B0 (ai1 (dC<|.str "abcdefghijklmn")<|A1 5)<|A1 6) A3)) (aZ3<|A1 3) [‹scr ns›,‹.int at'›,a2,‹.bool b›,Ob (.own L),‹.int k›,‹.str y›]=Ob (.str<|nmS b k y):=by
  exists evD,ai1,ec,c1,c2,ifb
  cases b<;>rfl
 unfold nbC af6;simp only[xg0,xg1,if_pos hl,e,xms,xw0,xw1]
def bB2(ns:List Int)(hn:ns.length<=63)(at' many:Nat)(ha:at' < 2 ^ 20)(hm:many<=14):∃L:List D,af3 [scr ns,.int at',.int many]=Ob (.list L)/\L.length=many/\∃b:Bool,∀i,i < many->∃y,L[i]? = Ob (.str<|nmS b i y)/\SOk y/\y.length<=4:=by
 obtain⟨d,ed,ld⟩:=S6 ns hn (e:=(at':Int)) (m':=2) at' 2 rfl rfl (by grind) (by decide)
 obtain⟨ρ',e,L,a5,a6,hρ,hL,hP⟩:=ad2 (g:=C3 5) (f:=aM9) (h:=λj:Nat=>eG j) (I:=λi ρ=>∃(L:List D) (a5 a6:Option B),ρ=[‹scr ns›,‹.int at'›,‹.int many›,‹.bool ((d:Int)==0)›,Ob (.own L),a5,a6]/\L.length=i/\∀n,n < i->∃y,L[n]? = Ob (.str (nmS ((d:Int)==0) n y))/\SOk y/\y.length<=4) (ax many) 0 [‹scr ns›,‹.int at'›,‹.int many›,‹.bool ((d:Int)==0)›,Ob (.own []),Oa,Oa] ⟨[],Oa,Oa,rfl,rfl,λn h=>absurd h (dq n)⟩ (λj a hj ρ hρ=>by
  obtain⟨L,a5,a6,rfl,hL,hP⟩:=hρ;obtain⟨hj1,hj2⟩:=ag.mp hj;rw[aP]at hj1;rw[List.getElem_range]at hj2;subst hj2;refine⟨_,rfl,?_⟩;simp only[xw0,xw1];obtain⟨x,e1,hx,sx⟩:=cp7 ns hn at' j ha (by grind) (‹.int many›) ((d:Int)==0) L a6;obtain⟨y,e2,hy,sy⟩:=cp6 ns hn at' j ha (by grind) (‹.int many›) ((d:Int)==0) L x hx sx;have e3:=cp5 ns at' j (by grind) (‹.int many›) ((d:Int)==0) L (by grind) y hy
  have eb:aM9 [‹scr ns›,‹.int at'›,‹.int many›,‹.bool ((d:Int)==0)›,Ob (.own L),‹.int j›,a6]=Ob (.nx [‹scr ns›,‹.int at'›,‹.int many›,‹.bool ((d:Int)==0)›,Ob (.own<|L++[.str (nmS ((d:Int)==0) j y)]),‹.int j›,‹.str y›]):=by
   unfold aM9;rw[F5 e1,F5 e2,e3]
  refine⟨_,eb,L++[.str (nmS ((d:Int)==0) j y)],_,_,rfl,by rw[az,hL];rfl,λn hn=>?_⟩;by_cases q:n < 0+j
  .obtain⟨z,e1,e2⟩:=hP n q;exact⟨z,by rw[aM (by grind)];exact e1,e2⟩
  .have:n=L.length:=by grind
   refine⟨y,?_,sy,hy⟩;rw[this,aK (ah _),ci];rw[show L.length=j by grind]
   rfl)
 subst hρ;rw[aP,cP]at hL hP;refine⟨L,?_,hL,_,hP⟩;refine A9 (ρ:=[‹scr ns›,‹.int at'›,‹.int many›,Oa,Oa,Oa,Oa]) rfl ?_;have rn:P0 (A1 2) [‹scr ns›,‹.int at'›,‹.int many›,‹.bool ((d:Int)==0)›,Ob (.own []),Oa,Oa]=_:=aa3 (n:=many) rfl (by grind);have s1:(aj4 4 A3) [‹scr ns›,‹.int at'›,‹.int many›,‹.bool ((d:Int)==0)›,Oa,Oa,Oa]=Ob (.nx [‹scr ns›,‹.int at'›,‹.int many›,‹.bool ((d:Int)==0)›,Ob (.own []),Oa,Oa]):=rfl
 have s2:(Y8 (P0<|A1 2) (C3 5) aM9) [‹scr ns›,‹.int at'›,‹.int many›,‹.bool ((d:Int)==0)›,Ob (.own []),Oa,Oa]=Ob (.nx [‹scr ns›,‹.int at'›,‹.int many›,‹.bool ((d:Int)==0)›,Ob (.own L),a5,a6]):=by
  unfold Y8;rw[rn];exact e
 have s3:(aL5 4<|A8 (A1 4)) [‹scr ns›,‹.int at'›,‹.int many›,‹.bool ((d:Int)==0)›,Ob (.own L),a5,a6]=Ob (.rt<|.list L):=rfl;rw[bG4];refine(F5 (by simp only[B6,A4,A2,A0,A3,A1,dC,xbs,xms,xg0,xg1,xw0,xw1,ed,bn7];rfl)).trans ?_;rw[F5 s1,F5 s2];exact s3
def cO9:∀n:Nat,n < 6->∃m:Man,atI ([.str "over", .str "multiply", .str "screen", .str "plus", .str "atop", .str "cut"]:List D) (n:Int)=Ob (.str m.s)
 | 0,_=>⟨.over,rfl⟩
 | 1,_=>⟨.mult,rfl⟩
 | 2,_=>⟨.screen,rfl⟩
 | 3,_=>⟨.plus,rfl⟩
 | 4,_=>⟨.atop,rfl⟩
 | 5,_=>⟨.cut,rfl⟩
 | n+6,h=>absurd h (by grind)
def cP0:∀n:Nat,n < 4->∃m:Man,atI ([.str "over", .str "multiply", .str "screen", .str "plus"]:List D) (n:Int)=Ob (.str m.s)
 | 0,_=>⟨.over,rfl⟩
 | 1,_=>⟨.mult,rfl⟩
 | 2,_=>⟨.screen,rfl⟩
 | 3,_=>⟨.plus,rfl⟩
 | n+4,h=>absurd h (by grind)
def cF8(m:Man):∀n:Nat,n < 4->∃m':Man,atI ([.str m.s,.str "atop", .str m.s,.str "cut"]:List D) (n:Int)=Ob (.str m'.s)
 | 0,_=>⟨m,rfl⟩
 | 1,_=>⟨.atop,rfl⟩
 | 2,_=>⟨m,rfl⟩
 | 3,_=>⟨.cut,rfl⟩
 | n+4,h=>absurd h (by omega)
def cO2:∀n:Nat,n < 3->∃r:Rul,atI ([.str "turn", .str "grey", .str "round"]:List D) (n:Int)=Ob (.str r.s)
 | 0,_=>⟨.turn,rfl⟩
 | 1,_=>⟨.grey,rfl⟩
 | 2,_=>⟨.round,rfl⟩
 | n+3,h=>absurd h (by grind)
def bj8(n:Nat):((n:Int)==0)=decide (n=0):=by
 cases n with
 | zero=>rfl
 | succ n=>rw[decide_eq_false (by omega)];exact beq_eq_false_iff_ne.mpr (by omega)
def bs4(n:Nat):(decide ((0:Int) < (n:Int)))=decide (0 < n):=by
 cases n with
 | zero=>rfl
 | succ n=>rw[decide_eq_true (by omega),decide_eq_true (by omega)]
def ad1(n:Nat):(1:Int)+(n:Int)=((1+n:Nat):Int):=by grind
def Nd.nm:Nd->D
 | .layer nm ..=>nm
 | .tone nm ..=>nm
 | .group nm ..=>nm
mutual
def Nd.near:Nd->Prop
 | .layer _ _ _ _ lf tp _ w h l kb=>-2<=lf/\lf<=2/\-2<=tp/\tp<=2/\kb<=40/\w<=3/\h<=3/\∀q∈l,q.ok 8
 | .tone ..=>True
 | .group _ _ _ _ ns=>Nd.nears ns
def Nd.nears:List Nd->Prop
 | []=>True
 | n::r=>n.near/\Nd.nears r
end
theorem v9:∀l:List Nd,Nd.nears l↔∀n∈l,n.near
 | []=>by simp[Nd.nears]
 | n::r=>by simp[Nd.nears,v9 r]
abbrev lv(ns:List Int)(at':Nat)(nm:D)(m:Man)(s:Rat)(d:Nat)(r:Rho):Rho:=‹scr ns›::‹.int at'›::‹nm›::‹.str m.s›::‹fr s›::‹.bool (decide (0 < d))›::r
def bg6(ns:List Int)(hn:ns.length<=63)(at':Nat)(ha:at' < 2 ^ 19)(nm:D)(m:Man):∃n:Nd,W5 [scr ns,.int at',nm,.str m.s]=Ob n.d/\n.Ok/\n.dp=0/\n.wg<=40/\n.nm=nm/\n.near:=by
 obtain⟨s,es,hs⟩:=ae9 ns at' hn (by grind);have es:P7 [scr ns,.int at']=Ob (fr s):=es;obtain⟨d3,e3,l3⟩:=drw ns hn at' 3 6 (by grind);obtain⟨d4,e4,l4⟩:=drw ns hn at' 4 6 (by grind);obtain⟨d6,e6,l6⟩:=drw ns hn at' 6 3 (by grind);obtain⟨d7,e7,l7⟩:=drw ns hn at' 7 3 (by grind);obtain⟨d8,e8,l8⟩:=drw ns hn at' 8 3 (by grind);obtain⟨d9,e9,l9⟩:=drw ns hn at' 9 3 (by grind);obtain⟨d10,e10,l10⟩:=drw ns hn at' 10 4 (by grind);obtain⟨d11,e11,l11⟩:=drw ns hn at' 11 4 (by grind);obtain⟨d12,e12,l12⟩:=drw ns hn at' 12 3 (by grind);obtain⟨d5,e5,l5⟩:=drw ns hn at' 5 3 (by grind);obtain⟨d5',e5',l5'⟩:=drw ns hn at' 5 6 (by grind);by_cases t4:d4=0
 .obtain⟨r,er⟩:=cO2 d5 l5;refine⟨.tone nm r s<|decide (0 < d3),?_,bd5 hs,rfl,by show 6<=40;decide,rfl,by rw[Nd.near];trivial⟩;have s2:Y0 (lv ns at' nm m s d3 [Oa,Oa,Oa,Oa,Oa,Oa,Oa])=Ob (.rt<|.tuple [.str "tone", nm,.str r.s,fr s,.bool (decide (0 < d3))]):=by exists evD,Y0,lv,e4,bj8,decide_eq_true t4,e5,er
  refine A9 (ρ:=[‹scr ns›,‹.int at'›,‹nm›,‹.str m.s›,Oa,Oa,Oa,Oa,Oa,Oa,Oa,Oa,Oa]) rfl ?_;unfold ay7;refine(F5 (by exists evD,ac2,lv,es;rfl)).trans ?_;refine(F5 (by exists evD,ac1,lv,e3,bs4;rfl)).trans ?_;rw[bw7 s2,eS]
 have s2:Y0 (lv ns at' nm m s d3 [Oa,Oa,Oa,Oa,Oa,Oa,Oa])=Ob (.nx<|lv ns at' nm m s d3 [Oa,Oa,Oa,Oa,Oa,Oa,Oa]):=by exists evD,Y0,lv,e4,bj8,decide_eq_false t4
 obtain⟨m0,em0⟩:=cO9 d5' l5'
 obtain⟨m1,s4⟩:∃m1:Man,o5 (lv ns at' nm m s d3 [‹.str m0.s›,Oa,Oa,Oa,Oa,Oa,Oa])=Ob (.nx<|lv ns at' nm m s d3 [‹.str m1.s›,Oa,Oa,Oa,Oa,Oa,Oa]):=by
  by_cases t6:0 < d6
  .exact⟨m,by exists evD,o5,lv,e6,bs4,decide_eq_true t6⟩
  .exact⟨m0,by exists evD,o5,lv,e6,bs4,decide_eq_false t6⟩
 have wh:(1+d7)*(1+d8)<=9:=bG (show 1+d7<=3 by grind) (show 1+d8<=3 by grind);have mwh:F9 (.int ((1+d7:Nat):Int)) (.int ((1+d8:Nat):Int))=Ob (.int (((1+d7)*(1+d8):Nat):Int)):=P8 (by grind) (by grind)
 obtain⟨mk,s8,hmk⟩:∃mk:Option (List Rat),n9 (lv ns at' nm m s d3 [‹.str m1.s›,‹.int ((1+d7:Nat):Int)›,‹.int ((1+d8:Nat):Int)›,Ob (.val .none),Oa,Oa,Oa])=Ob (.nx<|lv ns at' nm m s d3 [‹.str m1.s›,‹.int ((1+d7:Nat):Int)›,‹.int ((1+d8:Nat):Int)›,‹mkD mk›,Oa,Oa,Oa])/\∀ms,mk=Ob ms->ms.length=(1+d7)*(1+d8)/\∀r∈ms,Sr 4 r:=by
  by_cases t9:d9=0
  .have P:∀j,j < 9->∃r:Rat,P7 [scr ns,.int ((at':Int)+20+((3*j:Nat):Int))]=Ob (fr r)/\IsSh 4 r:=λj hj=>aL3 ns hn (at'+20+3*j) (by grind) (by grind)
   obtain⟨R,hR⟩:=ax0 (x:=(0:Rat)) P
   have c:K1 1 [0,1] (P0<|A4 F9 (A1 7) (A1 8)) (C3 0) M1 (A2 P7<|A0 (A1 1) (A0 (A4 B0 (A4 B0 (A1 2) ⇑20)<|A4 F9 ⇑3 (A1 0)) A3)) (lv ns at' nm m s d3 [‹.str m1.s›,‹.int ((1+d7:Nat):Int)›,‹.int ((1+d8:Nat):Int)›,Ob (.val .none),Oa,Oa,Oa])=Ob ((ax<|(1+d7)*(1+d8)).map λj=>fr<|R j):=by
    refine an7 (l:=ax<|(1+d7)*(1+d8)) (h:=λj:Nat=>eG j) (r:=[‹scr ns›,‹.int at'›]) rfl (aa3 ((au4 rfl rfl).trans mwh)<|by grind) (by rw[aP];grind) λj hj=>?_
    have hj:=aO.mp hj;have m3:F9 (.int 3) (.int j)=Ob (.int ((3*j:Nat):Int)):=P8 (i:=3) (by decide) (by grind)
    exists evD,lv,m3,(hR j<|by grind).1
   refine⟨Ob<|(ax<|(1+d7)*(1+d8)).map R,?_,λms e=>?_⟩
   .simp only[n9,sIf,tB2,B6,S2,qN,c,A4,A2,A0,A3,A1,dC,ad5,e9,bn7,bj8,decide_eq_true t9,k6,xbs,xms,xg0,xg1,xw0,xw1,if_true,xft,if_false,mkD,bE];rfl
   .cases e;refine⟨by rw[ay,aP],λr hr=>?_⟩;obtain⟨j,hj,rfl⟩:=aT.mp hr;exact bd5 (hR j (by have:=aO.mp hj;grind)).2
  .exact⟨Oa,by(exists evD,n9,lv,e9,bj8,decide_eq_false t9,mkD),λms e=>by cases e⟩
 obtain⟨w,h,lf,tp,mk',s11,hw,hh,hmk',hof⟩:∃(w h:Nat) (lf tp:Int) (mk':Option (List Rat)),Z6 (lv ns at' nm m s d3 [‹.str m1.s›,‹.int ((1+d7:Nat):Int)›,‹.int ((1+d8:Nat):Int)›,‹mkD mk›,‹.int ((d10:Int) - 1)›,‹.int ((d11:Int) - 1)›,Oa])=Ob (.nx<|lv ns at' nm m s d3 [‹.str m1.s›,‹.int (w:Nat)›,‹.int (h:Nat)›,‹mkD mk'›,‹.int lf›,‹.int tp›,Oa])/\(1<=w/\w<=3)/\(1<=h/\h<=3)/\(∀ms,mk'=Ob ms->ms.length=w*h/\∀r∈ms,Sr 4 r)/\(-2<=lf/\lf<=2/\-2<=tp/\tp<=2):=by
  by_cases t12:d12=0
  .refine⟨3,3,0,0,Oa,?_,by decide,by decide,(λms e=>by cases e),by decide⟩;have l5:∀a b c d e:D,([a,b,c,d,e]:List D).length=5:=λ_ _ _ _ _=>rfl
   exists evD,Z6,lv,e12,bj8,decide_eq_true t12,l5,mkD
   rfl
  .exact⟨1+d7,1+d8,(d10:Int) - 1,(d11:Int) - 1,mk,by(exists evD,Z6,lv,e12,bj8,decide_eq_false t12),by grind,by grind,hmk,by grind⟩
 obtain⟨l,el,S⟩:=bw5 ns hn (e:=(at':Int)+50) (at'+50) w h (by grind) (by grind) hw.1 (by grind) hh.1 (by grind);refine⟨.layer nm m1 s (decide (0 < d3)) lf tp mk' w h l 32,?_,?_,rfl,ah _,rfl,by rw[Nd.near];exact⟨hof.1,hof.2.1,hof.2.2.1,hof.2.2.2,by decide,by grind,by grind,S.ok⟩⟩
 .have s13:aa1 (lv ns at' nm m s d3 [‹.str m1.s›,‹.int (w:Nat)›,‹.int (h:Nat)›,‹mkD mk'›,‹.int lf›,‹.int tp›,‹shD w h l›])=Ob (.rt<|.tuple [.str "layer", nm,.str m1.s,fr s,.bool (decide (0 < d3)),.int lf,.int tp,mkD mk',shD w h l]):=by
   exists evD,aa1,lv
  refine A9 (ρ:=[‹scr ns›,‹.int at'›,‹nm›,‹.str m.s›,Oa,Oa,Oa,Oa,Oa,Oa,Oa,Oa,Oa]) rfl ?_;unfold ay7;refine(F5 (by exists evD,ac2,lv,es;rfl)).trans ?_;refine(F5 (by exists evD,ac1,lv,e3,bs4;rfl)).trans ?_;rw[F5 s2];refine(F5 (by exists evD,aq4,lv,e5',em0;rfl)).trans ?_;rw[F5 s4];refine(F5 (by exists evD,aq3,lv,e7,ad1;rfl)).trans ?_;refine(F5 (by exists evD,aq2,lv,e8,ad1;rfl)).trans ?_;refine(F5 (by exists evD,aq1,lv;rfl)).trans ?_;rw[F5 s8];refine(F5 (by exists evD,aq0,lv,e10;rfl)).trans ?_;refine(F5 (by exists evD,aj0,lv,e11;rfl)).trans ?_;rw[F5 s11];refine(F5 (by exists evD,ai9,lv,el;rfl)).trans ?_;rw[s13,eS]
 .rw[Nd.Ok];exact⟨bd5 hs,⟨S.w1,S.w8,S.h1,S.h8,S.len,λq hq=>(S.ok q hq).mono<|by decide⟩,λq hq=>cJ2<|S.ok q hq,hmk',by decide⟩
theorem M4:∀l:List Nd,eT l=l.map eS
 | []=>by rw[eT];rfl
 | n::r=>by rw[eT,M4 r];rfl
theorem X3:∀l:List Nd,eW l↔∀n∈l,n.Ok
 | []=>by simp[eW]
 | n::r=>by simp[eW,X3 r]
theorem T3:∀a b:List Nd,eX (a++b)=eX a+eX b
 | [],b=>by simp[eX]
 | n::a,b=>by rw[xca,eX,eX,T3 a b];grind
theorem Q3:∀a b:List Nd,eZ (a++b)=max (eZ a) (eZ b)
 | [],b=>by simp[eZ]
 | n::a,b=>by rw[xca,eZ,eZ,Q3 a b,Nat.max_assoc]
theorem bt0:∀l:List Nd,(∀n∈l,n.wg<=40)->eX l<=40*l.length
 | [],_=>by simp[eX]
 | n::l,h=>by
  have a:=h n (aw ..);have b:=bt0 l λm hm=>h m<|xmm _ hm
  rw[eX,aJ];grind
theorem aO8:∀l:List Nd,(∀n∈l,n.dp=0)->eZ l=0
 | [],_=>by simp[eZ]
 | n::l,h=>by
  have a:=h n (aw ..);have b:=aO8 l λm hm=>h m<|xmm _ hm
  rw[eZ];grind
mutual
def Nd.nms:Nd->List D
 | .layer nm _ _ _ _ _ _ _ _ _ _=>[nm]
 | .tone nm _ _ _=>[nm]
 | .group nm _ _ _ ns=>nm::Nd.nmss ns
def Nd.nmss:List Nd->List D
 | []=>[]
 | n::r=>n.nms++Nd.nmss r
end
theorem C5:∀a b:List Nd,Nd.nmss (a++b)=Nd.nmss a++Nd.nmss b
 | [],b=>by simp[Nd.nmss]
 | n::a,b=>by rw[xca,Nd.nmss,Nd.nmss,C5 a b,aF]
mutual
def Nd.thin:Nd->Prop
 | .layer ..=>True
 | .tone ..=>True
 | .group _ _ _ _ ns=>ns.length<=1000/\Nd.thins ns
def Nd.thins:List Nd->Prop
 | []=>True
 | n::r=>n.thin/\Nd.thins r
end
theorem S3:∀l:List Nd,Nd.thins l↔∀n∈l,n.thin
 | []=>by simp[Nd.thins]
 | n::r=>by simp[Nd.thins,S3 r]
def as5(l:List Nd)(a c:Nat)(g:List Nd->Nd):List Nd:=l.take a++[g ((l.drop a).take<|c - a)]++l.drop c
def ck2(l:List Nd){a c:Nat}(h:a<=c):l.take a++(l.drop a).take (c - a)++l.drop c=l:=by
 have e:l.drop c=(l.drop a).drop (c - a):=by rw[List.drop_drop];congr 1;grind
 rw[e,aF,cL,cL]
def ca9{ds:List D}{a b:Nat}(ha:a<=ds.length):u7 ds (Ob (a:Int)) (Ob (b:Int))=(ds.drop a).take (min b ds.length - a)/\∀es:List D,av5 ds (Ob (a:Int)) (Ob (b:Int)) es=ds.take a++es++ds.drop (max a<|min b ds.length):=by
 have h1:HT.sIx ds.length 0 (Ob (a:Int))=a:=by rw[HT.sIx_nat];grind
 have h2:HT.sIx ds.length ds.length (Ob (b:Int))=min b ds.length:=HT.sIx_nat ..;refine⟨?_,λes=>?_⟩
 .unfold u7;rw[h1,h2]
 .unfold av5;rw[h1,h2]
abbrev gE(ns:List Int)(at' most:Nat)(N:List D)(m:Man)(r:Rho):Rho:=‹scr ns›::‹.int at'›::‹.int most›::‹.list N›::‹.str m.s›::r
def bH0(ns:List Int)(hn:ns.length<=63)(at' most k:Nat)(ha:at' < 2 ^ 18)(hk:k < 2)(hmost:most<=6)(N:List D)(hN:most+2<=N.length)(m:Man)(l:List Nd)(hl:l.length<=100)(a5 a8 a9 a10 a11 a12:Option B):
  ∃(a c:Nat) (nm:D) (m':Man) (s:Rat) (sh:Bool) (b8 b9 b10 b11 b12:Option B),bh9 (gE ns at' most N m [a5,Ob (.own<|eT l),‹.int k›,a8,a9,a10,a11,a12])=Ob (.nx<|gE ns at' most N m [a5,Ob (.own<|eT (as5 l a c<|Nd.group nm m' s sh)),‹.int k›,b8,b9,b10,b11,b12])/\a<=c/\c<=l.length/\IsSh 4 s/\nm=N.getD (most+k) .none:=by
 have m5:F9 (.int 5) (.int k)=Ob (.int ((5*k:Nat):Int)):=P8 (i:=5) (by decide) (by grind);have hds:(eT l).length=l.length:=by rw[M4,ay]
 obtain⟨f,ef,lf⟩:=S6 ns hn (e:=(at':Int)+3+((5*k:Nat):Int)) (m':=(((eT l).length:Nat):Int)+1) (at'+3+5*k) (l.length+1) (by grind) (by rw[hds];grind) (by grind) (by grind);obtain⟨d,ed,ld⟩:=S6 ns hn (e:=(at':Int)+4+((5*k:Nat):Int)) (m':=3) (at'+4+5*k) 3 (by grind) rfl (by grind) (by decide);obtain⟨s0,es0,hs0⟩:=aL3 ns hn (e:=(at':Int)+5+((5*k:Nat):Int)) (at'+5+5*k) (by grind) (by grind);obtain⟨d6,e6,l6⟩:=S6 ns hn (e:=(at':Int)+6+((5*k:Nat):Int)) (m':=2) (at'+6+5*k) 2 (by grind) rfl (by grind) (by decide);obtain⟨d7,e7,l7⟩:=S6 ns hn (e:=(at':Int)+7+((5*k:Nat):Int)) (m':=4) (at'+7+5*k) 4 (by grind) rfl (by grind) (by decide);obtain⟨d14,e14,l14⟩:=S6 ns hn (e:=(at':Int)+14+(k:Int)) (m':=7) (at'+14+k) 7 (by grind) rfl (by grind) (by decide);obtain⟨m',em'⟩:=cF8 m d7 l7
 obtain⟨s,est,hs⟩:∃s:Rat,atI ([.tuple [.int 1,.int 1],fr s0]:List D) (d6:Int)=Ob (fr s)/\IsSh 4 s:=by
  rcases(show d6=0\/d6=1 by grind) with rfl|rfl
  .exact⟨1,rfl,Bd.one.mono (by decide),Rat.le_refl⟩
  .exact⟨s0,rfl,hs0⟩
 obtain⟨nm,enm,hnm⟩:∃nm,atI N ((most:Int)+(k:Int))=Ob nm/\nm=N.getD (most+k) .none:=by
  unfold atI;rw[ad0 (by grind) (by grind),xbs];have h':((most:Int)+(k:Int)).toNat=most+k:=by grind
  rw[h'];exact⟨N[most+k]'(by grind),ao (by grind),by rw[aN,ao (by grind)];rfl⟩
 refine⟨f,max f<|min (f+d) l.length,nm,m',s,decide (0 < d14),?_⟩;have s0:gb0 (gE ns at' most N m [a5,Ob (.own<|eT l),‹.int k›,a8,a9,a10,a11,a12])=Ob (.nx<|gE ns at' most N m [a5,Ob (.own<|eT l),‹.int k›,‹.int f›,a9,a10,a11,a12]):=by exists evD,gb0,gE,m5,ef
 have fd:(f:Int)+(d:Int)=((f+d:Nat):Int):=by grind
 obtain⟨q1,q2⟩:=ca9 (ds:=eT l) (a:=f) (b:=f+d) (by grind)
 have mid:((eT l).drop f).take (min (f+d) (eT l).length - f)=eT ((l.drop f).take<|max f (min (f+d) l.length) - f):=by
  rw[hds,M4,M4,← dz,← dA]
  congr 2;grind
 have s5:gb5 (gE ns at' most N m [a5,Ob (.own<|eT l),‹.int k›,‹.int f›,‹.int ((f+d:Nat):Int)›,‹fr s›,‹.str m'.s›,‹.tuple [.str "group", nm,.str m'.s,fr s,.bool (decide (0 < d14))]›])=Ob (.nx<|gE ns at' most N m [a5,Ob (.own<|eT (as5 l f (max f<|min (f+d) l.length)<|Nd.group nm m' s (decide (0 < d14)))),‹.int k›,‹.int f›,‹.int ((f+d:Nat):Int)›,‹fr s›,‹.str m'.s›,‹.tuple [.str "group", nm,.str m'.s,fr s,.bool (decide (0 < d14))]›]):=by
  have x1:bq0 (A6 6) (O5<|A1 8) (O5<|A1 9) (gE ns at' most N m [a5,Ob (.own<|eT l),‹.int k›,‹.int f›,‹.int ((f+d:Nat):Int)›,‹fr s›,‹.str m'.s›,‹.tuple [.str "group", nm,.str m'.s,fr s,.bool (decide (0 < d14))]›])=Ob (.list<|eT ((l.drop f).take<|max f (min (f+d) l.length) - f)):=by rw[← mid,← q1];rfl
  have x2:(A0 (A4 B0 (A1 12)<|N7 (A0 (S2<|qE (bq0 (A6 6) (O5<|A1 8)<|O5 (A1 9))) A3)) A3) (gE ns at' most N m [a5,Ob (.own<|eT l),‹.int k›,‹.int f›,‹.int ((f+d:Nat):Int)›,‹fr s›,‹.str m'.s›,‹.tuple [.str "group", nm,.str m'.s,fr s,.bool (decide (0 < d14))]›])=Ob [eS (Nd.group nm m' s (decide (0 < d14))<|(l.drop f).take (max f (min (f+d) l.length) - f))]:=by
   have cc:∀a b c d e g:D,B0 (.tuple [a,b,c,d,e]) (.tuple [g])=Ob (.tuple [a,b,c,d,e,g]):=λ_ _ _ _ _ _=>rfl
   simp only[A0,A3,A4,N7,S2,qE,x1,aL4,A1,xbs,xms,xg0,xg1,xft,if_false,cc,eS]
  have sz:(eT l).length+1<=16777216:=by grind
  have fin:av5 (eT l) (Ob (f:Int)) (Ob ((f+d:Nat):Int)) [eS (Nd.group nm m' s (decide (0 < d14))<|(l.drop f).take (max f (min (f+d) l.length) - f))]=eT (as5 l f (max f<|min (f+d) l.length)<|Nd.group nm m' s (decide (0 < d14))):=by
   rw[q2,hds];unfold as5;rw[M4,M4,bQ,bQ,dA,dz];rfl
  rw[← fin];unfold gb5 bw8;rw[x2,xbs];show(if(eT l).length+1<=16777216 then Ob (Fl.nx _) else Oa)=_;rw[if_pos sz];rfl
 refine⟨‹.int f›,‹.int ((f+d:Nat):Int)›,‹fr s›,‹.str m'.s›,‹.tuple [.str "group", nm,.str m'.s,fr s,.bool (decide (0 < d14))]›,?_,by grind,by grind,hs,hnm⟩;unfold bh9;rw[F5 s0];refine(F5 (by exists evD,gb1,gE,m5,ed,fd;rfl)).trans ?_;refine(F5 (by exists evD,gb2,gE,m5,es0,e6,est;rfl)).trans ?_;refine(F5 (by exists evD,gb3,gE,m5,e7,em';rfl)).trans ?_;refine(F5 (by exists evD,gb4,gE,enm,e14,bs4;rfl)).trans ?_;rw[s5]
structure NOk (N:List D) (i:Nat) (most:Nat) (l:List Nd):Prop where
 ok:eW l
 wg:eX l<=40*most+5*i
 dp:eZ l<=i
 len:l.length<=most+i
 th:Nd.thins l
 nr:Nd.nears l
 ix:∃is:List Nat,Nd.nmss l=is.map (λj=>N.getD j .none)/\is.Nodup/\∀j∈is,j < most+i
def NOk.grp{N:List D}{i most:Nat}{l:List Nd}(h:NOk N i most l){a c:Nat}{nm:D}{m:Man}{s:Rat}{sh:Bool}(ac:a<=c)(hs:IsSh 4 s)(hnm:nm=N.getD (most+i) .none)(h100:l.length<=100):NOk N (i+1) most (as5 l a c<|Nd.group nm m s sh):=by
 have e:=ck2 l ac;have w1:=congrArg eX e;have w2:=congrArg eZ e;rw[T3,T3]at w1;rw[Q3,Q3]at w2;have hw:=h.wg;have hd:=h.dp;refine⟨?_,?_,?_,?_,?_,?_,?_⟩
 .rw[X3];have ok:=(X3 l).mp h.ok;intro n hn;unfold as5 at hn;rcases aD.mp hn with hn|hn
  .rcases aD.mp hn with hn|hn
   .exact ok n (bH hn)
   .rw[bh.mp hn];rw[Nd.Ok];exact⟨bd5 hs,(X3 _).mpr λn' hn'=>ok n'<|bI (bH hn')⟩
  .exact ok n (bI hn)
 .unfold as5;rw[T3,T3];simp only[eX,Nd.wg]
  grind
 .unfold as5;rw[Q3,Q3];simp only[eZ,eY]
  grind
 .unfold as5;rw[az,az,cn,bU,List.length_singleton];have:=h.len
  grind
 .rw[S3];have th:=(S3 l).mp h.th;intro n hn;unfold as5 at hn;rcases aD.mp hn with hn|hn
  .rcases aD.mp hn with hn|hn
   .exact th n (bH hn)
   .rw[bh.mp hn,Nd.thin];exact⟨aL (List.length_take_le' ..) (by rw[bU];grind),(S3 _).mpr λn' hn'=>th n'<|bI (bH hn')⟩
  .exact th n (bI hn)
 .rw[v9];have th:=(v9 l).mp h.nr;intro n hn;unfold as5 at hn;rcases aD.mp hn with hn|hn
  .rcases aD.mp hn with hn|hn
   .exact th n (bH hn)
   .rw[bh.mp hn,Nd.near];exact(v9 _).mpr λn' hn'=>th n'<|bI (bH hn')
  .exact th n (bI hn)
 .obtain⟨is,e1,e2,e3⟩:=h.ix;have w3:=congrArg Nd.nmss e;rw[C5,C5,e1]at w3;obtain⟨i12,i3,q1,q2,q3⟩:=dv.mp w3.symm;obtain⟨i1,i2,p1,p2,p3⟩:=dv.mp q2;subst p1 q1;refine⟨i1++((most+i)::i2)++i3,?_,?_,?_⟩
  .unfold as5;rw[C5,C5,← q3,← p2];simp only[Nd.nmss,Nd.nms,aA,bQ,xmc,p3,hnm]
  .have pm:(i1++((most+i)::i2)++i3).Perm ((most+i)::(i1++i2++i3)):=by
    rw[aF,xca,aF i1 i2 i3];exact List.perm_middle
   rw[pm.nodup_iff,bn];exact⟨λz=>by have:=e3 _ z;grind,e2⟩
  .intro j hj
   have:j=most+i\/j∈i1++i2++i3:=by
    simp only[aD,au]at hj ⊢;rcases hj with(h|h|h)|h
    .exact .inr (.inl<|.inl h)
    .exact .inl h
    .exact .inr (.inl<|.inr h)
    .exact .inr (.inr h)
   rcases this with rfl|h
   .grind
   .have:=e3 j h;grind
def bA8(ns:List Int)(hn:ns.length<=63)(at' most:Nat)(ha:at' < 2 ^ 18)(hmost:most<=6)(N:List D)(hN:most+2<=N.length):∃l:List Nd,ap6 [scr ns,.int at',.int most,.list N]=Ob ↥l/\NOk N 2 most l:=by
 obtain⟨d0,e0,l0⟩:=S6 ns hn (e:=(at':Int)) (m':=4) at' 4 rfl rfl (by grind) (by decide);obtain⟨d1,e1,l1⟩:=S6 ns hn (e:=(at':Int)+1) (m':=(most:Int)+1) (at'+1) (most+1) (by grind) (by grind) (by grind) (by grind);obtain⟨d2,e2,l2⟩:=drw ns hn at' 2 3 (by grind);obtain⟨m,em⟩:=cP0 d0 l0
 have P:∀j,j < d1->∃n:Nd,A2 W5 (A0 (A1 1)<|A0 (A4 B0 (A4 B0 (A1 4) ⇑20)<|A4 F9 ⇑170 (A1 0)) (A0 (dIx (A6 3)<|A1 0)<|A0 (A1 2) A3)) [‹.int (j:Nat)›,‹scr ns›,‹.str m.s›,‹.list N›,‹.int at'›]=Ob n.d/\n.Ok/\n.dp=0/\n.wg<=40/\n.nm=N.getD j .none/\n.near:=λj hj=>by
  have m170:F9 (.int 170) (.int j)=Ob (.int ((170*j:Nat):Int)):=P8 (i:=170) (by decide) (by grind)
  have en:atI N (j:Int)=Ob (N[j]'(by grind)):=by
   unfold atI;rw[ad0 (by grind) (by grind),xbs,aZ];exact ao (by grind)
  obtain⟨n,en',hn'⟩:=bg6 ns hn (at'+20+170*j) (by grind) (N[j]'(by grind)) m;have ei:(at':Int)+20+((170*j:Nat):Int)=((at'+20+170*j:Nat):Int):=by grind
  refine⟨n,?_,hn'.1,hn'.2.1,hn'.2.2.1,by rw[hn'.2.2.2.1,aN,ao (by grind)];rfl,hn'.2.2.2.2⟩
  exists evD,gE,m170,en,ei,en'
 obtain⟨f,hf⟩:=ax0 (x:=Nd.tone .none .turn 0 true) P
 have g2:gn2 (gE ns at' most N m [‹.int d1›,Oa,Oa,Oa,Oa,Oa,Oa,Oa])=Ob (.nx<|gE ns at' most N m [‹.int d1›,Ob (.own<|eT ((ax d1).map f)),Oa,Oa,Oa,Oa,Oa,Oa]):=by
  have c:K1 1 [0,4,3,1] (P0<|A1 5) (C3 0) M1 (A2 W5<|A0 (A1 1) (A0 (A4 B0 (A4 B0 (A1 4) ⇑20)<|A4 F9 ⇑170 (A1 0))<|A0 (dIx (A6 3)<|A1 0) (A0 (A1 2) A3))) (gE ns at' most N m [‹.int d1›,Oa,Oa,Oa,Oa,Oa,Oa,Oa])=Ob ((ax d1).map λj=>(f j).d) :=
   an7 (l:=ax d1) (h:=λj:Nat=>eG j) (r:=[‹scr ns›,‹.str m.s›,‹.list N›,‹.int at'›]) rfl (aa3 (n:=d1) rfl<|by grind) (by rw[aP];grind) λj hj=>(hf j<|aO.mp hj).1
  unfold gn2 aj4;rw[c,M4,bE];rfl
 have start:NOk N 0 most ((ax d1).map f):=by
  refine⟨(X3 _).mpr λn h=>?_,?_,?_,?_,(S3 _).mpr λn h=>?_,(v9 _).mpr λn h=>?_,ax d1,?_,List.nodup_range,λj hj=>by have:=aO.mp hj;grind⟩
  .obtain⟨j,hj,rfl⟩:=aT.mp h;exact(hf j<|aO.mp hj).2.1
  .have:=bt0 ((ax d1).map f) λn h=>by
    obtain⟨j,hj,rfl⟩:=aT.mp h;exact(hf j<|aO.mp hj).2.2.2.1
   rw[ay,aP]at this
   grind
  .rw[aO8 _ λn h=>by
    obtain⟨j,hj,rfl⟩:=aT.mp h
    exact(hf j (aO.mp hj)).2.2.1]
   exact ah _
  .rw[ay,aP];grind
  .obtain⟨j,hj,rfl⟩:=aT.mp h;have:=(hf j<|aO.mp hj).2.2.1;cases q:f j with
   | group=>rw[q,eY]at this;grind
   | layer=>rw[Nd.thin];trivial
   | tone=>rw[Nd.thin];trivial
  .obtain⟨j,hj,rfl⟩:=aT.mp h;exact(hf j<|aO.mp hj).2.2.2.2.2
  .have key:∀is:List Nat,(∀j∈is,j < d1)->Nd.nmss (is.map f)=is.map λj=>N.getD j .none:=by
    intro is
    induction is with
    | nil=>intro _;simp[Nd.nmss]
    | cons j is ih =>
     intro hj;have a:=hf j (hj j<|aw ..);rw[xmc,Nd.nmss,ih λi hi=>hj i (xmm _ hi),xmc,← a.2.2.2.2.1];cases q:f j with
     | group=>have:=a.2.2.1;rw[q,eY]at this;grind
     | layer=>simp[Nd.nms,Nd.nm]
     | tone=>simp[Nd.nms,Nd.nm]
   exact key _ λj hj=>aO.mp hj
 obtain⟨ρ',e3,l,b7,b8,b9,b10,b11,b12,hρ,hl⟩:=ad2 (g:=C3 7) (f:=bh9) (h:=λj:Nat=>eG j) (I:=λi ρ=>∃(l:List Nd) (b7 b8 b9 b10 b11 b12:Option B),ρ=(gE ns at' most N m [‹.int d1›,Ob (.own (eT l)),b7,b8,b9,b10,b11,b12])/\NOk N i most l) (ax d2) 0 (gE ns at' most N m [‹.int d1›,Ob (.own (eT ((ax d1).map f))),Oa,Oa,Oa,Oa,Oa,Oa]) ⟨_,_,_,_,_,_,_,rfl,start⟩ (λj a hj ρ hρ=>by
  obtain⟨l,b7,b8,b9,b10,b11,b12,rfl,hl⟩:=hρ;obtain⟨hj1,hj2⟩:=ag.mp hj;rw[aP]at hj1;rw[List.getElem_range]at hj2;subst hj2;refine⟨_,rfl,?_⟩;simp only[xw0,xw1];have hll:=hl.len;obtain⟨a,c,nm,m',s,sh,c8,c9,c10,c11,c12,eb,ac,cl,hs,hnm⟩:=bH0 ns hn at' most j ha (by grind) hmost N hN m l (by grind) (‹.int d1›) b8 b9 b10 b11 b12
  exact⟨_,eb,_,_,_,_,_,_,_,rfl,hl.grp ac hs (by rw[hnm,cP]) (by grind)⟩)
 subst hρ;rw[aP,cP]at hl
 refine⟨l,?_,hl.ok,by have:=hl.wg;grind,by have:=hl.dp;grind,by have:=hl.len;grind,hl.th,hl.nr,by
  obtain⟨is,q1,q2,q3⟩:=hl.ix
  exact⟨is,q1,q2,λj hj=>by have:=q3 j hj;grind⟩⟩
 have rn:P0 (A2 A5<|A0 (A1 0) (A0 (A4 B0 (A1 1) ⇑2)<|A0 ⇑3 A3)) (gE ns at' most N m [‹.int d1›,Ob (.own<|eT ((ax d1).map f)),Oa,Oa,Oa,Oa,Oa,Oa])=_:=aa3 (n:=d2) (by exists evD,gE,e2) (by grind)
 have g3:gn3 (gE ns at' most N m [‹.int d1›,Ob (.own<|eT ((ax d1).map f)),Oa,Oa,Oa,Oa,Oa,Oa])=Ob (.nx<|gE ns at' most N m [‹.int d1›,Ob (.own<|eT l),b7,b8,b9,b10,b11,b12]):=by
  unfold gn3 Y8;rw[rn];exact e3
 have g4:gn4 (gE ns at' most N m [‹.int d1›,Ob (.own<|eT l),b7,b8,b9,b10,b11,b12])=Ob (.rt ↥l):=rfl;refine A9 (ρ:=[‹scr ns›,‹.int at'›,‹.int most›,‹.list N›,Oa,Oa,Oa,Oa,Oa,Oa,Oa,Oa,Oa]) rfl ?_;rw[bG3];refine(F5 (by exists evD,gn0,gE,e0,em;rfl)).trans ?_;refine(F5 (by exists evD,gn1,gE,e1;rfl)).trans ?_;rw[F5 g2,F5 g3];exact g4
def B5(w h:Nat)(l:List Nd):D:=.tuple [.int w,.int h,↥l]
def aU9(ns:List Int)(hn:ns.length<=63)(at' most:Nat)(ha:at' < 2 ^ 17)(hmost:most<=6)(N:List D)(hN:most+2<=N.length):∃(w h:Nat) (l:List Nd),t8 [scr ns,.int at',.int most,.list N]=Ob (B5 w h l)/\NOk N 2 most l/\(1<=w/\w<=3)/\(1<=h/\h<=3):=by
 obtain⟨d0,e0,l0⟩:=S6 ns hn (e:=(at':Int)) (m':=3) at' 3 rfl rfl (by grind) (by decide);obtain⟨d1,e1,l1⟩:=drw ns hn at' 1 3 (by grind);obtain⟨l,el,hl⟩:=bA8 ns hn (at'+2) most (by grind) hmost N hN;have e2:(at':Int)+2=((at'+2:Nat):Int):=by grind
 refine⟨1+d0,1+d1,l,?_,hl,by grind,by grind⟩;refine A9 (ρ:=[‹scr ns›,‹.int at'›,‹.int most›,‹.list N›,Oa,Oa]) rfl ?_
 exists evD,ar8,gE,e0,e1,ad1,e2,el,B5
def flL(w h:Nat)(l:List Nd):List Q4:=(plc w<|w*h).map λp=>eV p.1 p.2 l q0
structure Small6 (l:List Nd):Prop where
 ok:eW l
 wg:eX l<=800
 dp:eZ l<=3
def ax2{w h:Nat}{l:List Nd}(S:Small6 l)(x y:Int):W1 [B5 w h l,.int x,.int y]=Ob (eV x y l q0).d:=by
 have e:=(aL2 x y l 11 S.ok (by have:=S.dp;grind) (by have:=S.wg;grind)).1;refine rX3 ?_
 exists evD,aE6,B5,gE,e
def bZ9{w h:Nat}{l:List Nd}(S:Small6 l)(w1:1<=w)(w8:w<=8)(h8:h<=8):ap7 [B5 w h l]=Ob (shD w h<|flL w h l):=by
 have wh:w*h<=64:=bG w8 h8;refine A9 (ρ:=[‹B5 w h l›,Oa]) rfl ?_
 have c:K1 2 [0] (T8<|A2 V9 (A0 (dIx (A6 0) ⇑0)<|A0 (dIx (A6 0) ⇑1) A3)) (S1 2<|C9 (C3 0) (C9 (C3 1) S7)) M1 (A2 W1<|A0 (A1 2) (A0 (A1 0)<|A0 (A1 1) A3)) [‹B5 w h l›,Oa]=Ob ((flL w h l).map Q4.d):=by
  rw[bB3 (l:=plc w<|w*h) (h1:=λp=>.int p.1) (h2:=λp=>.int p.2) (f:=λp=>(eV p.1 p.2 l q0).d) (r:=[‹B5 w h l›]) rfl ?_ (by rw[aj7];grind) ?_]
  .unfold flL;rw[bE];rfl
  .exists evD,B5,gE,aB7 w1 w8 h8
  .intro p _
   exists evD,gE,ax2 S
 have g0:∀v:Option B,dIx (A6 0) ⇑0 [‹B5 w h l›,v]=Ob (.int w):=λ_=>rfl
 have g1:∀v:Option B,dIx (A6 0) ⇑1 [‹B5 w h l›,v]=Ob (.int h):=λ_=>rfl
 simp only[bM8,A7,ac4,c,g0,g1,A8,N7,A0,A3,S2,A6,xw0,xw1,xms,xbs,xg0,xg1];rfl
def S5(n:Nd):n.nm∈n.nms:=by cases n<;>simp[Nd.nm,Nd.nms]
def T7{n:Nd}{l:List Nd}(h:n∈l){d:D}(hd:d∈n.nms):d∈Nd.nmss l:=by
 obtain⟨a,b,rfl⟩:=cX h;rw[C5,Nd.nmss];simp[hd]
def P6(d:D):Prop:=∃s:Str,d=.str s/\SOk s
def same(a b:D):Bool:=@decide (a=b)<|cC _
def am8(a:D):same a a=true:=@decide_eq_true _ (cC _) rfl
def aj3{a b:D}(h:a≠b):same a b=false:=@decide_eq_false _ (cC _) h
def bq7(d:D):Prop:=∃s:Str,d=.str s/\eJ (.str s)=true
def P6.l{d:D}(h:P6 d):bq7 d:=by
 obtain⟨s,rfl,hs⟩:=h;exact⟨s,rfl,hs.ok⟩
def bI9{a b:D}(ha:P6 a)(hb:bq7 b):eqD a b=Ob (.bool<|same a b):=by
 obtain⟨s,rfl,hs⟩:=ha;obtain⟨t,rfl,ht⟩:=hb;refine B1 hs.ok ht ?_;by_cases e:s=t
 .subst e;rw[am8];simp
 .rw[aj3 (λz=>e (by cases z;rfl))];simp[e]
def cI9{a b:D}(ha:P6 a)(hb:P6 b):eqD a b=Ob (.bool<|same a b):=bI9 ha hb.l
theorem aI7{g:D->Rho->Option Rho}{f:DS}{I:Rho->Prop}{d:D}:∀(X:List D) (i:Nat) (ρ:Rho),I ρ->(∀j x,j < i->X[j]? = Ob x->∀ρ,I ρ->∃ρ1,g x ρ=Ob ρ1/\∃ρ',f ρ1=Ob (.nx ρ')/\I ρ')->(∀x,X[i]? = Ob x->∀ρ,I ρ->∃ρ1,g x ρ=Ob ρ1/\f ρ1=Ob (.rt d))->i < X.length->aa6 g f X ρ=Ob (.rt d)
 | [],i,ρ,_,_,_,h=>absurd h<|dq i
 | x::X,0,ρ,h0,_,H,_=>by
  obtain⟨ρ1,e1,e2⟩:=H x rfl ρ h0;simp only[aa6,e1,xbs,e2]
 | x::X,i+1,ρ,h0,S,H,hl=>by
  obtain⟨ρ1,e1,ρ',e2,h2⟩:=S 0 x (by grind) rfl ρ h0;have:=aI7 X i ρ' h2 (λj y hj hy=>S (j+1) y (by grind)<|by simpa using hy) (λy hy=>H y<|by simpa using hy) (by simpa using hl);simp only[aa6,e1,xbs,e2,this]
theorem aw9{g:D->Rho->Option Rho}{f:DS}{I:Rho->Prop}:∀(X:List D) (ρ:Rho),I ρ->(∀x∈X,∀ρ,I ρ->∃ρ1,g x ρ=Ob ρ1/\∃ρ',f ρ1=Ob (.nx ρ')/\I ρ')->∃ρ',aa6 g f X ρ=Ob (.nx ρ')/\I ρ'
 | [],ρ,h,_=>⟨ρ,rfl,h⟩
 | x::X,ρ,h,H=>by
  obtain⟨ρ1,e1,ρ2,e2,h2⟩:=H x (aw ..) ρ h;obtain⟨ρ',e3,h3⟩:=aw9 X ρ2 h2 λy hy=>H y<|xmm _ hy
  exact⟨ρ',by simp only[aa6,e1,xbs,e2,e3],h3⟩
def name_of(n:Nd):O3 [n.d]=Ob n.nm:=by cases n<;>(rw[eS];rfl)
def nab:DS:=(sIf (tB2 eqD (A2 O3<|A0 (A1 3) A3)<|A1 1) (A8<|A1 2) K9)
def aV3{n:Nd}{nm:D}(h1:P6 n.nm)(h2:bq7 nm)(a0 a2:Option B)(k:D):nab [a0,‹nm›,‹k›,‹n.d›]=if same n.nm nm=true then Ob (.rt k) else Ob (.nx [a0,‹nm›,‹k›,‹n.d›]):=by simp only[nab,sIf,tB2,A4,A2,A0,A3,A1,name_of,bI9 h1 h2,k6,A8,K9,xbs,xms,xg0,xg1]
def ao4(l:List Nd)(j:Nat):(eT l)[j]? = (l[j]?).map eS:=by rw[M4,av]
def an3{l:List Nd}{nm:D}(hs:∀n∈l,P6 n.nm)(hn:bq7 nm)(h:∀n∈l,n.nm≠nm):K8 [↥l,nm]=Ob .none:=by
 refine A9 (ρ:=[‹↥l›,‹nm›,Oa,Oa]) rfl ?_
 obtain⟨ρ',e,_⟩:=ad2 (g:=S1 2 (C9 (C3 2) (C9 (C3 3) S7))) (f:=nab) (h:=id) (I:=λ_ ρ=>∃a2 a3,ρ=[‹↥l›,‹nm›,a2,a3]) (ar2 (eT l)) 0 [‹↥l›,‹nm›,Oa,Oa] ⟨Oa,Oa,rfl⟩ (λj d hj ρ hρ=>by
  obtain⟨a2,a3,rfl⟩:=hρ;rw[al3,ao4]at hj;cases q:l[j]? with
  | none=>rw[q]at hj;cases hj
  | some n =>
   rw[q]at hj;cases hj;have hm:=bS q;refine⟨_,rfl,[‹↥l›,‹nm›,‹.int j›,‹n.d›],?_,_,_,rfl⟩;have:=aV3 (hs n hm) hn (‹↥l›) Oa (.int j);rw[aj3 (h n hm)]at this
   exact this)
 rw[List.map_id]at e;have s0:(Y8 (aO3<|qE (A1 0)) (S1 2<|C9 (C3 2) (C9 (C3 3) S7)) nab) [‹↥l›,‹nm›,Oa,Oa]=Ob (.nx ρ'):=e;exact(F5 s0).trans rfl
def ak1{l:List Nd}{nm:D}(hs:∀n∈l,P6 n.nm)(hn:P6 nm)(h:∀n∈l,n.nm≠nm):K8 [↥l,nm]=Ob .none:=an3 hs hn.l h
def aw4{a b:List Nd}{n:Nd}(hs:∀n'∈a,P6 n'.nm)(hn:P6 n.nm)(h:∀n'∈a,n'.nm≠n.nm):K8 [↥(a++n::b),n.nm]=Ob (.int a.length):=by
 refine A9 (ρ:=[‹↥(a++n::b)›,‹n.nm›,Oa,Oa]) rfl ?_
 have e:=aI7 (g:=S1 2 (C9 (C3 2) (C9 (C3 3) S7))) (f:=nab) (d:=.int a.length) (I:=λρ=>∃a2 a3,ρ=[‹↥(a++n::b)›,‹n.nm›,a2,a3]) (ar2 (eT (a++n::b))) a.length [‹↥(a++n::b)›,‹n.nm›,Oa,Oa] ⟨Oa,Oa,rfl⟩ (λj x hj hx ρ hρ=>by
  obtain⟨a2,a3,rfl⟩:=hρ;rw[al3,ao4,aM hj,ao hj]at hx;cases hx;have hm:=bj hj;refine⟨_,rfl,[‹↥(a++n::b)›,‹n.nm›,‹.int j›,Ob (.val (a[j]).d)],?_,_,_,rfl⟩;have:=aV3 (hs _ hm) hn.l (‹↥(a++n::b)›) Oa (.int j);rw[aj3 (h _ hm)]at this;exact this) (λx hx ρ hρ=>by
  obtain⟨a2,a3,rfl⟩:=hρ;rw[al3,ao4,aK (ah _),ci]at hx;cases hx;refine⟨_,rfl,?_⟩;have:=aV3 hn hn.l (‹↥(a++n::b)›) Oa (.int a.length);rw[am8]at this
  exact this) (by rw[aO6,M4,ay,az];simp)
 have s0:(Y8 (aO3<|qE (A1 0)) (S1 2<|C9 (C3 2) (C9 (C3 3) S7)) nab) [‹↥(a++n::b)›,‹n.nm›,Oa,Oa]=Ob (.rt<|.int a.length):=e;exact bw7 s0
def G5(n:Nd):R7 [n.d]=Ob (.bool (match n with | .group ..=>true|_=>false)):=by
 have e_tg:eqD (.str "tone") (.str "group")=Ob (.bool false):=B1z;cases n with
 | layer nm m s sh lf tp mk w h l kb=>rw[eS];exact A9 (ρ:=[‹.tuple [.str "layer", nm,.str m.s,fr s,.bool sh,.int lf,.int tp,mkD mk,shD w h l]›]) rfl<|congrArg (bO Fl.rt) cJ0
 | tone nm r s sh=>rw[eS];exact A9 (ρ:=[‹.tuple [.str "tone", nm,.str r.s,fr s,.bool sh]›]) rfl<|congrArg (bO Fl.rt) e_tg
 | group nm m s sh ns=>rw[eS];exact A9 (ρ:=[‹.tuple [.str "group", nm,.str m.s,fr s,.bool sh,↥ns]›]) rfl<|congrArg (bO Fl.rt) cJ1
def cO8(ds:List D):ak2 (.tuple ds) .none=Ob (.bool true):=rfl
def cF6(i:Int):ak2 (.int i) .none=Ob (.bool true):=rfl
def ab9{l:List Nd}{nm:D}(h:nm∉Nd.nmss l):∀n∈l,n.nm≠nm:=λn hn e=>h<|e ▸ T7 hn (S5 n)
def u3{l:List Nd}(h:∀d∈Nd.nmss l,P6 d):∀n∈l,P6 n.nm:=λn hn=>h _<|T7 hn (S5 n)
def twb(f:Nat):DS:=(sIf (Q9<|A2 R7 (A0 (A1 2) A3)) (A7 (B6 3<|A2 (K2 f) (A0 (A2 K0<|A0 (A1 2) A3)<|A0 (A1 1) A3))<|sIf (tB2 ak2 (A1 3)<|dC .none) (A8<|A1 3) K9) K9)
def T9{l:List Nd}{n:Nd}(h:n∈l):n.dp<=eZ l:=by
 obtain⟨a,b,rfl⟩:=cX h;rw[Q3,eZ];grind
def aL1(nm:D)(hn:bq7 nm):∀(k:Nat) (l:List Nd) (f:Nat),eZ l<=k->k+1<=f->(∀d∈Nd.nmss l,P6 d)->nm∉Nd.nmss l->K2 f [↥l,nm]=Ob .none:=by
 intro k
 induction k with
 | zero =>
  intro l f hd hf hs hni;obtain⟨f,rfl⟩:∃g,f=g+1:=⟨f - 1,by grind⟩;have e0:=an3 (u3 hs) hn<|ab9 hni
  obtain⟨ρ',e,a2,a3,hρ⟩:=aw9 (g:=C3 2) (f:=twb f) (I:=λρ=>∃a2 a3,ρ=[‹↥l›,‹nm›,a2,a3]) (eT l) [‹↥l›,‹nm›,Oa,Oa] ⟨Oa,Oa,rfl⟩ (λx hx ρ hρ=>by
   obtain⟨a2,a3,rfl⟩:=hρ;rw[M4]at hx;obtain⟨n,hm,rfl⟩:=aT.mp hx;refine⟨_,rfl,[‹↥l›,‹nm›,‹n.d›,a3],?_,_,_,rfl⟩;have:=T9 hm;cases n with
   | group _ _ _ _ _=>rw[eY]at this;grind
   | layer=>exists evD,twb,G5
   | tone=>exists evD,twb,G5)
  subst hρ;refine A9 (g:=O9<|K2 f) (ρ:=[‹↥l›,‹nm›,Oa,Oa]) rfl ?_;unfold twb at e
  exists evD,O9,Y8,e0,aC0,e
 | succ k ih =>
  intro l f hd hf hs hni;obtain⟨f,rfl⟩:∃g,f=g+1:=⟨f - 1,by grind⟩;have e0:=an3 (u3 hs) hn<|ab9 hni
  obtain⟨ρ',e,a2,a3,hρ⟩:=aw9 (g:=C3 2) (f:=twb f) (I:=λρ=>∃a2 a3,ρ=[‹↥l›,‹nm›,a2,a3]) (eT l) [‹↥l›,‹nm›,Oa,Oa] ⟨Oa,Oa,rfl⟩ (λx hx ρ hρ=>by
   obtain⟨a2,a3,rfl⟩:=hρ;rw[M4]at hx;obtain⟨n,hm,rfl⟩:=aT.mp hx;have hdp:=T9 hm;refine⟨_,rfl,?_⟩;cases n with
   | group nm' m s sh ns =>
    rw[eY]at hdp;have sub:∀d∈Nd.nmss ns,d∈Nd.nmss l:=λd hd=>T7 hm (by rw[Nd.nms];exact xmm _ hd)
    have e1:=ih ns f (by grind) (by grind) (λd hd=>hs d<|sub d hd) (λz=>hni<|sub _ z);refine⟨[‹↥l›,‹nm›,‹eS (.group nm' m s sh ns)›,Ob (.val .none)],?_,_,_,rfl⟩
    exists evD,twb,G5,ae5,e1,aC0
   | layer=>exact⟨_,by exists evD,twb,G5;rfl,_,_,rfl⟩
   | tone=>exact⟨_,by exists evD,twb,G5;rfl,_,_,rfl⟩)
  subst hρ;refine A9 (g:=O9<|K2 f) (ρ:=[‹↥l›,‹nm›,Oa,Oa]) rfl ?_;unfold twb at e
  exists evD,O9,Y8,e0,aC0,e
def bQ4(nm:D)(hn:P6 nm)(k:Nat)(l:List Nd)(f:Nat):eZ l<=k->k+1<=f->(∀d∈Nd.nmss l,P6 d)->nm∉Nd.nmss l->K2 f [↥l,nm]=Ob .none:=aL1 nm hn.l k l f
inductive Stands (a:List Nd) (n:Nd) (b:List Nd):List Nd->Prop
 | top:Stands a n b (a++n::b)
 | deep {c e:List Nd}{nm:D}{m:Man}{s:Rat}{sh:Bool}{ns:List Nd}:Stands a n b ns->Stands a n b (c ++ .group nm m s sh ns::e)
def Stands.nm{a:List Nd}{n:Nd}{b l:List Nd}(h:Stands a n b l):∀d∈n.nms,d∈Nd.nmss l:=by
 induction h with
 | top=>intro d hd;rw[C5,Nd.nmss];simp[hd]
 | deep _ ih=>intro d hd;rw[C5,Nd.nmss,Nd.nms];simp[ih d hd]
def bQ3{a b:List Nd}{n:Nd}(hn:P6 n.nm){l:List Nd}(h:Stands a n b l):∀f:Nat,eZ l+1<=f->(∀d∈Nd.nmss l,P6 d)->(Nd.nmss l).Nodup->K2 f [↥l,n.nm]=Ob ↥(a++n::b):=by
 induction h with
 | top =>
  intro f hf hs hd;obtain⟨f,rfl⟩:∃g,f=g+1:=⟨f - 1,by grind⟩;rw[C5,Nd.nmss]at hd
  have e0:=aw4 (a:=a) (b:=b) (n:=n) (λn' hn'=>u3 hs n' (am _ hn')) hn (λn' hn' e=>by
   have d1:=(aY.mp hd).2.2
   exact d1 n'.nm (T7 hn' (S5 n')) n.nm (am _ (S5 n)) e)
  refine A9 (g:=O9<|K2 f) (ρ:=[‹↥(a++n::b)›,‹n.nm›,Oa,Oa]) rfl ?_
  exists evD,O9,e0,cF6
 | @deep c e nm m s sh ns h ih =>
  intro f hf hs hd;obtain⟨f,rfl⟩:∃g,f=g+1:=⟨f - 1,by grind⟩;rw[Q3,eZ,eY]at hf;have hin:=h.nm n.nm (S5 n);rw[C5,Nd.nmss,Nd.nms]at hd;have dc:=(aY.mp hd);have dg:=(aY.mp dc.2.1);have dn:=bn.mp dg.1;have hc:n.nm∉Nd.nmss c:=λz=>dc.2.2 n.nm z n.nm (by simp[hin]) rfl
  have hg:nm≠n.nm:=λz=>dn.1<|z ▸ hin
  have he:n.nm∉Nd.nmss e:=λz=>dg.2.2 n.nm (by simp[hin]) n.nm z rfl
  have hsc:∀d∈Nd.nmss c,P6 d:=λd hd=>hs d (by rw[C5];simp[hd])
  have hsn:∀d∈Nd.nmss ns,P6 d:=λd hd=>hs d (by rw[C5,Nd.nmss,Nd.nms];simp[hd])
  have e0:=ak1 (l:=c ++ .group nm m s sh ns::e) (u3 hs) hn (λn' hn' z=>by
   rcases aD.mp hn' with q|q
   .exact ab9 hc n' q z
   .rcases au.mp q with rfl|q
    .exact hg z
    .exact ab9 he n' q z)
  have e1:=ih f (by grind) hsn dn.2
  have e2:=aI7 (g:=C3 2) (f:=twb f) (d:=.tuple (eT (a++n::b))) (I:=λρ=>∃a2 a3,ρ=[‹↥(c ++ .group nm m s sh ns::e)›,‹n.nm›,a2,a3]) (eT (c ++ .group nm m s sh ns::e)) c.length [‹↥(c ++ .group nm m s sh ns::e)›,‹n.nm›,Oa,Oa] ⟨Oa,Oa,rfl⟩ (λj x hj hx ρ hρ=>by
   obtain⟨a2,a3,rfl⟩:=hρ;rw[ao4,aM hj,ao hj]at hx;cases hx;have hm:=bj hj;have hdp:=T9 hm;refine⟨_,rfl,?_⟩;cases q:c[j] with
   | group nm' m' s' sh' ns' =>
    rw[q]at hm hdp;rw[eY]at hdp;have sub:∀d∈Nd.nmss ns',d∈Nd.nmss c:=λd hd=>T7 hm (by rw[Nd.nms];exact xmm _ hd)
    have e3:=bQ4 n.nm hn (eZ ns') ns' f (ah _) (by grind) (λd hd=>hsc d<|sub d hd) (λz=>hc<|sub _ z);refine⟨[‹↥(c ++ .group nm m s sh ns::e)›,‹n.nm›,‹eS (.group nm' m' s' sh' ns')›,Ob (.val .none)],?_,_,_,rfl⟩
    exists evD,twb,G5,ae5,e3,aC0
   | layer=>exact⟨_,by exists evD,twb,G5;rfl,_,_,rfl⟩
   | tone=>exact⟨_,by exists evD,twb,G5;rfl,_,_,rfl⟩) (λx hx ρ hρ=>by
   obtain⟨a2,a3,rfl⟩:=hρ;rw[ao4,aK (ah _),ci]at hx;cases hx;refine⟨_,rfl,?_⟩
   exists evD,twb,G5,ae5,e1,cO8) (by rw[M4,ay,az];simp)
  refine A9 (g:=O9<|K2 f) (ρ:=[‹↥(c ++ .group nm m s sh ns::e)›,‹n.nm›,Oa,Oa]) rfl ?_;unfold twb at e2
  exists evD,O9,Y8,e0,aC0,e2
def aS2{nm:D}{m:Man}{s:Rat}{sh:Bool}{ns ns':List Nd}:V8 [eS (.group nm m s sh ns),↥ns']=Ob (eS<|.group nm m s sh ns'):=by
 rw[eS,eS];rfl
def aw3{l l':List Nd}{nm oth:D}{f:Nat}(hl:l.length<=1000)(e0:K8 [↥l,nm]=Ob .none)(hz:l'.length=l.length)(H:∀(j:Nat) (hj:j < l.length),N6 f [(l[j]).d,nm,oth]=Ob ((l'[j]'(by omega)).d)):
  M2 (f+1) [↥l,nm,oth]=Ob ↥l':=by
 refine A9 (g:=O6<|ag8 f) (ρ:=[‹↥l›,‹nm›,‹oth›]) rfl ?_
 have c:K1 1 [1,2] (T8<|A1 0) (C3 0) M1 (A2 (ag8 f 1)<|A0 (A1 0) (A0 (A1 1)<|A0 (A1 2) A3)) [‹↥l›,‹nm›,‹oth›]=Ob (eT l'):=by
  have q:eT l=(ax l.length).map λj=>((l[j]?).map eS).getD .none:=by
   rw[M4];apply cb;intro j;rw[av,av];by_cases hj:j < l.length
   .simp[cr hj,ao hj]
   .rw[bA (by omega),bA (by rw[aP];omega)];rfl
  have q':eT l'=(ax l.length).map λj=>((l'[j]?).map eS).getD .none:=by
   rw[M4];apply cb;intro j;rw[av,av];by_cases hj:j < l.length
   .have hj':j < l'.length:=by omega
    simp[cr hj,ao hj']
   .rw[bA (by omega),bA (by rw[aP];omega)];rfl
  rw[q'];refine an7 (l:=ax l.length) (h:=λj=>((l[j]?).map eS).getD .none) (r:=[‹nm›,‹oth›]) rfl (by rw[← q];rfl) (by rw[aP];exact hl) λj hj=>?_
  have hj:=aO.mp hj;have:=H j hj;rw[ao hj,ao (by omega)];exact this
 simp only[O6,A7,sIf,K9,tB2,A4,A2,A0,A3,A1,dC,e0,aC0,k6,A8,S2,qN,c,xbs,xms,xg0,xg1,xft,if_false]
def ac7{n:Nd}{nm oth:D}{f:Nat}(h:n.dp=0):N6 (f+1) [n.d,nm,oth]=Ob n.d:=by
 refine A9 (g:=N3<|ag8 f) (ρ:=[‹n.d›,‹nm›,‹oth›]) rfl ?_;cases n with
 | group=>rw[eY]at h;grind
 | layer=>exists evD,N3,G5
 | tone=>exists evD,N3,G5
def an4{nm':D}{m:Man}{s:Rat}{sh:Bool}{ns ns':List Nd}{nm oth:D}{f:Nat}(h:M2 f [↥ns,nm,oth]=Ob ↥ns'):N6 (f+1) [eS (.group nm' m s sh ns),nm,oth]=Ob (eS<|.group nm' m s sh ns'):=by
 refine A9 (g:=N3<|ag8 f) (ρ:=[‹eS (.group nm' m s sh ns)›,‹nm›,‹oth›]) rfl ?_;have h':ag8 f 0 [↥ns,nm,oth]=Ob ↥ns':=h
 exists evD,N3,G5,ae5,h',aS2
def co6(nm:D)(hn:P6 nm)(oth:D):∀(k:Nat) (l:List Nd) (f:Nat),eZ l<=k->2*k+2<=f->(∀d∈Nd.nmss l,P6 d)->nm∉Nd.nmss l->l.length<=1000->Nd.thins l->M2 f [↥l,nm,oth]=Ob ↥l:=by
 intro k
 induction k with
 | zero =>
  intro l f hd hf hs hni hl ht;obtain⟨f,rfl⟩:∃g,f=g+2:=⟨f - 2,by grind⟩;refine aw3 hl (ak1 (u3 hs) hn<|ab9 hni) rfl λj hj=>?_
  have:=T9 (bj hj);exact ac7 (by grind)
 | succ k ih =>
  intro l f hd hf hs hni hl ht;obtain⟨f,rfl⟩:∃g,f=g+2:=⟨f - 2,by grind⟩;refine aw3 hl (ak1 (u3 hs) hn<|ab9 hni) rfl λj hj=>?_
  have hm:=bj hj;have hdp:=T9 hm;have htn:=(S3 l).mp ht _ hm;generalize l[j]=n at hm hdp htn;cases n with
  | group nm' m s sh ns =>
   rw[eY]at hdp;rw[Nd.thin]at htn;have sub:∀d∈Nd.nmss ns,d∈Nd.nmss l:=λd hd=>T7 hm (by rw[Nd.nms];exact xmm _ hd)
   exact an4 (ih ns f (by grind) (by grind) (λd hd=>hs d<|sub d hd) (λz=>hni<|sub _ z) htn.1 htn.2)
  | layer=>exact ac7 rfl
  | tone=>exact ac7 rfl
def co7(nm:D)(hn:P6 nm)(oth:D)(n:Nd)(f:Nat)(hf:2*n.dp+1<=f)(hs:∀d∈n.nms,P6 d)(hni:nm∉n.nms)(ht:n.thin):N6 f [n.d,nm,oth]=Ob n.d:=by
 obtain⟨f,rfl⟩:∃g,f=g+1:=⟨f - 1,by grind⟩;cases n with
 | group nm' m s sh ns =>
  rw[eY]at hf;rw[Nd.thin]at ht;rw[Nd.nms]at hs hni;exact an4 (co6 nm hn oth (eZ ns) ns f (ah _) (by grind) (λd hd=>hs d<|xmm _ hd) (λz=>hni<|xmm _ z) ht.1 ht.2)
 | layer=>exact ac7 rfl
 | tone=>exact ac7 rfl
theorem av4(x y:Int):∀(a b:List Nd) (q:Q4),eV x y (a++b) q=eV x y b (eV x y a q)
 | [],b,q=>by simp[eV]
 | n::a,b,q=>by rw[xca,eV,eV,av4 x y a b]
structure StProps (a:List Nd) (n:Nd) (b l:List Nd):Prop where
 ok:eW l->n.Ok
 wg:n.wg<=eX l
 dp:n.dp<=eZ l
 nd:(Nd.nmss l).Nodup->(Nd.nmss (a++n::b)).Nodup
 sub:∀d∈Nd.nmss (a++n::b),d∈Nd.nmss l
 len:l.length<=1000->Nd.thins l->(a++n::b).length<=1000
def Stands.props{a b l:List Nd}{n:Nd}(h:Stands a n b l):StProps a n b l:=by
 induction h with
 | top =>
  refine⟨λo=>(X3 _).mp o n (by simp),?_,?_,λh=>h,λd h=>h,λh _=>h⟩
  .rw[T3,eX];grind
  .rw[Q3,eZ];grind
 | @deep c e nm m s sh ns h ih =>
  refine⟨λo=>?_,?_,?_,λhd=>?_,λd hd=>?_,λhl ht=>?_⟩
  .have og:=(X3 _).mp o (.group nm m s sh ns) (by simp);rw[Nd.Ok]at og;exact ih.ok og.2
  .have:=ih.wg;rw[T3,eX,Nd.wg];grind
  .have:=ih.dp;rw[Q3,eZ,eY];grind
  .rw[C5,Nd.nmss,Nd.nms]at hd;exact ih.nd (bn.mp (aY.mp (aY.mp hd).2.1).1).2
  .rw[C5,Nd.nmss,Nd.nms];simp[ih.sub d hd]
  .have tg:=(S3 _).mp ht (.group nm m s sh ns) (by simp);rw[Nd.thin]at tg;exact ih.len tg.1 tg.2
def e_tg:eqD (.str "tone") (.str "group")=Ob (.bool false):=B1z
def Low(s:Str):Prop:=∀c∈s.cps.toList,97<=c/\c<=122
def Nm(d:D):Prop:=∃s:Str,d=.str s/\Low s/\1<=s.length/\s.length<=6
mutual
def Nd.off:Nd->Prop
 | .layer _ _ _ _ lf tp _ _ _ _ kb=>-9<=lf/\lf<=9/\-9<=tp/\tp<=9/\kb<=4000
 | .tone ..=>True
 | .group _ _ _ _ ns=>ns.length<=1000/\Nd.offs ns
def Nd.offs:List Nd->Prop
 | []=>True
 | n::r=>n.off/\Nd.offs r
end
theorem ak0:∀l:List Nd,Nd.offs l↔∀n∈l,n.off
 | []=>by simp[Nd.offs]
 | n::r=>by simp[Nd.offs,ak0 r]
def strength_of(n:Nd):∃s,P1 [n.d]=Ob (fr s)/\(n.Ok->Sr 4 s):=by
 cases n with
 | layer nm m s sh lf tp mk w h l kb=>exact⟨s,by rw[eS];rfl,λo=>by rw[Nd.Ok]at o;exact o.1⟩
 | tone nm r s sh=>exact⟨s,by rw[eS];rfl,λo=>by rw[Nd.Ok]at o;exact o⟩
 | group nm m s sh ns=>exact⟨s,by rw[eS];rfl,λo=>by rw[Nd.Ok]at o;exact o.1⟩
def nmb(f:Nat):DS:=(A7 (af6 1<|A2 O3 (A0 (A1 2) A3))<|sIf (Q9<|A2 R7 (A0 (A1 2) A3)) (aF6 1<|A2 (N8 f) (A0 (A2 K0<|A0 (A1 2) A3) A3)) K9)
def cp1{n:Nd}(f:Nat)(a0:Option B)(X:List D)(hX:X.length+n.nms.length<=1000)(H:∀nm m s sh ns,n=.group nm m s sh ns->N8 f [↥ns]=Ob (.list<|Nd.nmss ns)):nmb f [a0,Ob (.own X),‹n.d›]=Ob (.nx [a0,Ob (.own<|X++n.nms),‹n.d›]):=by
 have hx:X.length < 16777216:=by grind
 have en:=name_of n;have eg:=G5 n;unfold nmb;refine(F5 (by simp only[af6,A2,A0,A3,en,xg0,xg1,if_pos hx,A1,xms,xbs,xw0,xw1];rfl)).trans ?_;cases n with
 | layer=>exists evD,eg;rw[Nd.nm,Nd.nms]
 | tone=>exists evD,eg;rw[Nd.nm,Nd.nms]
 | group nm m s sh ns =>
  have e1:K0 [eS (.group nm m s sh ns)]=Ob ↥ns:=by rw[eS];rfl
  have e2:=H nm m s sh ns rfl;rw[Nd.nms]at hX;have e3:(X++[nm]).length+(Nd.nmss ns).length<=16777216:=by simp at hX ⊢;grind
  rw[Nd.nm]
  exists evD,aF6,eg,e1,e2,if_pos e3
  rw[Nd.nms,aF];rfl
def bf9{l:List Nd}{f:Nat}(hw:(Nd.nmss l).length<=1000)(H:∀n∈l,∀nm m s sh ns,n=.group nm m s sh ns->N8 f [↥ns]=Ob (.list<|Nd.nmss ns)):N8 (f+1) [↥l]=Ob (.list<|Nd.nmss l):=by
 obtain⟨ρ',e,a2,hρ⟩:=ad2 (g:=C3 2) (f:=nmb f) (h:=eS) (I:=λi ρ=>∃a2,ρ=[‹↥l›,Ob (.own (Nd.nmss (l.take i))),a2]) l 0 [‹↥l›,Ob (.own []),Oa] ⟨Oa,rfl⟩ (λj n hj ρ hρ=>by
  obtain⟨a2,rfl⟩:=hρ;rw[cP];obtain⟨hjl,rfl⟩:=ag.mp hj;have ww:Nd.nmss (l.take<|j+1)=Nd.nmss (l.take j)++(l[j]).nms:=by rw[List.take_succ_eq_append_getElem hjl,C5,Nd.nmss,Nd.nmss,aA]
  have wl:=congrArg (λx=>(Nd.nmss x).length) (cL (j+1) l);simp only[C5,ww,az]at wl
  exact⟨_,rfl,_,cp1 f _ _ (by grind) (H _ (bj hjl)),_,by rw[ww]⟩)
 subst hρ;rw[cP,bC (ah _),← M4]at e;refine A9 (g:=ag6<|N8 f) (ρ:=[‹↥l›,Oa,Oa]) rfl ?_;have s0:(aj4 1 A3) [‹↥l›,Oa,Oa]=Ob (.nx [‹↥l›,Ob (.own []),Oa]):=rfl;have s1:(Y8 (T8<|A1 0) (C3 2)<|nmb f) [‹↥l›,Ob (.own []),Oa]=Ob (.nx [‹↥l›,Ob (.own<|Nd.nmss l),a2]):=e;have s2:(aL5 1<|A8 (A1 1)) [‹↥l›,Ob (.own<|Nd.nmss l),a2]=Ob (.rt<|.list (Nd.nmss l)):=rfl;exact(F5 s0).trans ((F5 s1).trans s2)
def bV5{n:Nd}{l:List Nd}(h:n∈l):n.nms.length<=(Nd.nmss l).length:=by
 obtain⟨a,b,rfl⟩:=cX h;rw[C5,Nd.nmss,az,az];grind
def names_among:∀(k:Nat) (l:List Nd) (f:Nat),eZ l<=k->k+1<=f->(Nd.nmss l).length<=1000->N8 f [↥l]=Ob (.list<|Nd.nmss l):=by
 intro k
 induction k with
 | zero =>
  intro l f hd hf hw;obtain⟨f,rfl⟩:∃g,f=g+1:=⟨f - 1,by grind⟩;refine bf9 hw λn hn nm m s sh ns e=>?_
  have:=T9 hn;rw[e,eY]at this;grind
 | succ k ih =>
  intro l f hd hf hw;obtain⟨f,rfl⟩:∃g,f=g+1:=⟨f - 1,by grind⟩;refine bf9 hw λn hn nm m s sh ns e=>?_
  have h1:=T9 hn;have h2:=bV5 hn;rw[e,eY]at h1;rw[e,Nd.nms,aJ]at h2;exact ih ns f (by grind) (by grind) (by grind)
def bK4(l:List Nd)(a:Nat):u7 (eT l) Oa (Ob (a:Int))=eT (l.take a):=by
 unfold u7;rw[HT.sIx_none,HT.sIx_nat,List.drop_zero,M4,M4,ay,← dA,Nat.sub_zero]
 congr 1
 rcases Nat.le_total a l.length with h|h
 .rw[Nat.min_eq_left h]
 .rw[Nat.min_eq_right h,bC (ah _),bC h]
def bK5(l:List Nd)(a:Nat):u7 (eT l) (Ob (a:Int)) Oa=eT (l.drop a):=by
 unfold u7;rw[HT.sIx_none,HT.sIx_nat,M4,M4,ay];rcases Nat.le_total a l.length with h|h
 .rw[Nat.min_eq_left h,← dz,bC (by rw[ay,bU];exact ah _)]
 .rw[Nat.min_eq_right h,ci,List.take_zero,cH h];rfl
def bL1(a b:List Nd)(h:a.length+b.length<=1000):B0 ↥a ↥b=Ob ↥(a++b):=by
 have:=cat_tup (xs:=eT a) (ys:=eT b) (by rw[M4,M4,ay,ay];grind);have e:eT a++eT b=eT (a++b):=by simp[M4]
 rw[e]at this;exact this
def cK1{l:List Nd}{i:Nat}{n:Nd}(h:l[i]? = Ob n):atI (eT l) (i:Int)=Ob n.d:=by
 obtain⟨hi,_⟩:=ag.mp h;unfold atI;rw[ad0 (by grind) (by rw[M4,ay];grind),xbs,aZ,ao4,h];rfl
def Nd.isM(m:Man):Nd->Prop
 | .layer _ m' _ sh _ _ _ _ _ _ _=>m'=m/\sh=true
 | .tone ..=>False
 | .group _ m' _ sh _=>m'=m/\sh=true
def m_shown{m:Man}{n:Nd}(h:n.isM m):R6 [n.d]=Ob (.bool true):=by
 cases n with
 | layer=>rw[Nd.isM]at h;rw[ak3,h.2]
 | tone=>rw[Nd.isM]at h;exact h.elim
 | group=>rw[Nd.isM]at h;rw[al2,h.2]
def cC5{l:List Nd}(S:Small6 l)(x y:Int):(eV x y l q0).or:=(aL2 x y l 11 S.ok (by have:=S.dp;grind) (by have:=S.wg;grind)).2.o
def mn(i j:Int):Int:=if j < i then j else i
def mx(i j:Int):Int:=if j > i then j else i
abbrev Bx:=Option<|Int×Int×Int×Int
def bxD:Bx->D
 | none=>.none
 | some (l,t,r,b)=>.tuple [.int l,.int t,.int (r - l),.int (b - t)]
def btw(l t r b:Int):Bx:=if r<=l\/b<=t then Oa else Ob (l,t,r,b)
def jn:Bx->Bx->Bx
 | none,o=>o
 | some a,Oa=>Ob a
 | some (l,t,r,b),Ob (l',t',r',b')=>btw (mn l l') (mn t t') (mx r r')<|mx b b'
def Bx.wf:Bx->Prop
 | none=>True
 | some (l,t,r,b)=>l < r/\t < b
def Bx.has(B:Bx)(x y:Int):Prop:=match B with
 | none=>False
 | some (l,t,r,b)=>l<=x/\x < r/\t<=y/\y < b
def Bx.le(A B:Bx):Prop:=match A,B with
 | none,_=>True
 | some _,Oa=>False
 | some (l,t,r,b),Ob (l',t',r',b')=>l'<=l/\t'<=t/\r<=r'/\b<=b'
def aC4(i j:Int):mn i j<=i/\mn i j<=j:=by unfold mn;split<;>grind
def aC1(i j:Int):i<=mx i j/\j<=mx i j:=by unfold mx;split<;>grind
def bg3(i j:Int):mn i j=mn j i:=by unfold mn;split<;>split<;>grind
def bg1(i j:Int):mx i j=mx j i:=by unfold mx;split<;>split<;>grind
def ce2{i j k:Int}(h1:k<=i)(h2:k<=j):k<=mn i j:=by unfold mn;split<;>omega
def bg0{i j k:Int}(h1:i<=k)(h2:j<=k):mx i j<=k:=by unfold mx;split<;>omega
def bL5(l t r b:Int):Bx.wf (btw l t r b):=by
 unfold btw;split
 .exact trivial
 .show l < r/\t < b;omega
def bh0{l t r b l' t' r' b':Int}(h1:l < r)(h2:t < b):jn (Ob (l,t,r,b)) (Ob (l',t',r',b'))=Ob (mn l l',mn t t',mx r r',mx b b'):=by
 have a1:=aC4 l l';have a2:=aC4 t t';have a3:=aC1 r r';have a4:=aC1 b b';show btw _ _ _ _=_;unfold btw;rw[if_neg (by omega)]
def bg9{A B:Bx}(ha:Bx.wf A)(hb:Bx.wf B):Bx.wf (jn A B):=by
 cases A with
 | none=>cases B<;>exact hb
 | some a =>
  cases B with
  | none=>exact ha
  | some b=>exact bL5 ..
def le_refl(A:Bx):Bx.le A A:=by
 cases A with
 | none=>exact trivial
 | some a=>show _/\_/\_/\_;grind
def aI0{A B:Bx}(ha:Bx.wf A):Bx.le A (jn A B):=by
 cases A with
 | none=>exact trivial
 | some a =>
  cases B with
  | none=>exact le_refl _
  | some b =>
   obtain⟨l,t,r,b1⟩:=a;obtain⟨l',t',r',b'⟩:=b;rw[bh0 ha.1 ha.2];have a1:=aC4 l l';have a2:=aC4 t t';have a3:=aC1 r r';have a4:=aC1 b1 b';show _/\_/\_/\_;omega
def bY2(A B:Bx):jn A B=jn B A:=by
 cases A with
 | none=>cases B<;>rfl
 | some a =>
  cases B with
  | none=>rfl
  | some b=>show btw _ _ _ _=btw _ _ _ _;rw[bg3,bg3 a.2.1,bg1,bg1 a.2.2.2]
def aN5{A B:Bx}(hb:Bx.wf B):Bx.le B (jn A B):=by rw[bY2];exact aI0 hb
def aN8{A B C:Bx}(wa:Bx.wf A)(ha:Bx.le A C)(hb:Bx.le B C):Bx.le (jn A B) C:=by
 cases A with
 | none=>exact hb
 | some a =>
  cases B with
  | none=>exact ha
  | some b =>
   cases C with
   | none=>exact ha.elim
   | some c =>
    obtain⟨l,t,r,b1⟩:=a;obtain⟨l',t',r',b'⟩:=b;obtain⟨p,q,u,v⟩:=c;rw[bh0 wa.1 wa.2];exact⟨ce2 ha.1 hb.1,ce2 ha.2.1 hb.2.1,bg0 ha.2.2.1 hb.2.2.1,bg0 ha.2.2.2 hb.2.2.2⟩
def le_trans{A B C:Bx}(h1:Bx.le A B)(h2:Bx.le B C):Bx.le A C:=by
 cases A with
 | none=>exact trivial
 | some a =>
  cases B with
  | none=>exact h1.elim
  | some b =>
   cases C with
   | none=>exact h2.elim
   | some c =>
    obtain⟨a1,a2,a3,a4⟩:=h1;obtain⟨b1,b2,b3,b4⟩:=h2;exact⟨cD b1 a1,cD b2 a2,cD a3 b3,cD a4 b4⟩
def aX6{A B:Bx}{x y:Int}(h:Bx.le A B)(hx:Bx.has A x y):Bx.has B x y:=by
 cases A with
 | none=>exact hx.elim
 | some a =>
  cases B with
  | none=>exact h.elim
  | some b =>
   obtain⟨a1,a2,a3,a4⟩:=h;obtain⟨b1,b2,b3,b4⟩:=hx;exact⟨cD a1 b1,Int.lt_of_lt_of_le b2 a3,cD a2 b3,Int.lt_of_lt_of_le b4 a4⟩
def bL6(l t r b:Int):X8 [.int l,.int t,.int r,.int b]=Ob (bxD<|btw l t r b):=by
 refine A9 (ρ:=[‹.int l›,‹.int t›,‹.int r›,‹.int b›]) rfl ?_;unfold btw;by_cases h1:r<=l
 .rw[if_pos (.inl h1)]
  exists evD,X6,decide_eq_true h1,bxD
 .by_cases h2:b<=t
  .rw[if_pos (.inr h2)]
   exists evD,X6,decide_eq_false h1,decide_eq_true h2,bxD
  .rw[if_neg (by grind)]
   exists evD,X6,decide_eq_false h1,decide_eq_false h2,bxD
def ce9(A B:Bx):N9 [bxD A,bxD B]=Ob (bxD<|jn A B):=by
 refine A9 (ρ:=[‹bxD A›,‹bxD B›,Oa,Oa]) rfl ?_;have i0:isB .none .none=Ob (.bool true):=rfl;cases A with
 | none=>exists evD,g8,bxD,i0;rfl
 | some a =>
  obtain⟨l,t,r,b⟩:=a;cases B with
  | none=>exists evD,g8,bxD,i0,ao3;rfl
  | some c =>
   obtain⟨l',t',r',b'⟩:=c;have e1:l+(r - l)=r:=by grind
   have e2:t+(b - t)=b:=by grind
   have e3:l'+(r' - l')=r':=by grind
   have e4:t'+(b' - t')=b':=by grind
   have bo:=bL6 (mn l l') (mn t t') (mx r r') (mx b b');unfold mn mx at bo
   exists evD,g8,bxD,ao3,ab7,ab6,e1,e2,e3,e4,bo
   rfl
def jns:Bx->List Bx->Bx
 | A,[]=>A
 | A,B::r=>jns (jn A B) r
def cu3(L:List Bx):m7 [.list (L.map bxD)]=Ob (bxD<|jns Oa L):=by
 have lp:∀(L:List Bx) (A:Bx) (a0 a2:Option B),∃a2',aa6 (C3 2) (B6 1<|A2 N9 (A0 (A1 1)<|A0 (A1 2) A3)) (L.map bxD) [a0,‹bxD A›,a2]=Ob (.nx [a0,‹bxD (jns A L)›,a2']):=by
  intro L
  induction L with
  | nil=>intro A a0 a2;exact⟨a2,rfl⟩
  | cons X r ih =>
   intro A a0 a2;obtain⟨a2',e⟩:=ih (jn A X) a0 (‹bxD X›);refine⟨a2',?_⟩
   exists evD,xmc,aa6,ce9
   exact e
 obtain⟨a2',e⟩:=lp L Oa (‹.list (L.map bxD)›) Oa;refine A9 (ρ:=[‹.list (L.map bxD)›,Oa,Oa]) rfl ?_;have s1:(Y8 (T8<|A1 0) (C3 2)<|B6 1 (A2 N9<|A0 (A1 1) (A0 (A1 2) A3))) [‹.list (L.map bxD)›,Ob (.val .none),Oa]=Ob (.nx [‹.list (L.map bxD)›,‹bxD (jns Oa L)›,a2']):=e;exact(F5 (ρ':=[‹.list (L.map bxD)›,Ob (.val .none),Oa]) rfl).trans ((F5 s1).trans rfl)
theorem bE1:∀(L:List Bx) (A:Bx),Bx.wf A->(∀X∈L,Bx.wf X)->Bx.wf (jns A L)
 | [],A,ha,_=>ha
 | X::r,A,ha,h=>bE1 r _ (bg9 ha (h X (aw ..))) λY hY=>h Y<|xmm _ hY
theorem bE2:∀(L:List Bx) (A:Bx),Bx.wf A->(∀X∈L,Bx.wf X)->Bx.le A (jns A L)/\∀X∈L,Bx.le X (jns A L)
 | [],A,ha,_=>⟨le_refl A,λX h=>by simp at h⟩
 | X::r,A,ha,h=>by
  have wx:=h X (aw ..);obtain⟨i1,i2⟩:=bE2 r (jn A X) (bg9 ha wx) λY hY=>h Y<|xmm _ hY
  refine⟨le_trans (aI0 ha) i1,λY hY=>?_⟩;rcases au.mp hY with rfl|hY
  .exact le_trans (aN5 wx) i1
  .exact i2 Y hY
theorem aC8:∀(L:List Bx) (A C:Bx),Bx.wf A->(∀X∈L,Bx.wf X)->Bx.le A C->(∀X∈L,Bx.le X C)->Bx.le (jns A L) C
 | [],A,C,_,_,h,_=>h
 | X::r,A,C,wa,wl,h,hl=>aC8 r (jn A X) C (bg9 wa (wl X (aw ..))) (λY hY=>wl Y (xmm _ hY)) (aN8 wa h (hl X (aw ..))) λY hY=>hl Y<|xmm _ hY
def Nd.isT:Nd->Bool
 | .tone ..=>true
 | _=>false
mutual
def Nd.bx(w h:Int):Nd->Bx
 | .layer _ _ _ sh lf tp _ w' h' _ _=>if sh=true then btw (mx lf 0) (mx tp 0) (mn (lf+w') w) (mn (tp+h') h) else Oa
 | .tone _ _ _ sh=>if sh=true then Ob (0,0,w,h) else Oa
 | .group _ _ _ sh ns=>if sh=true then jns Oa (Nd.bxs w h ns) else Oa
def Nd.bxs(w h:Int):List Nd->List Bx
 | []=>[]
 | n::r=>if n.isT=true then Nd.bxs w h r else n.bx w h::Nd.bxs w h r
end
theorem bi9(w h:Int):∀l:List Nd,Nd.bxs w h l=(l.filter λn=>!n.isT).map (Nd.bx w h)
 | []=>by rw[Nd.bxs];rfl
 | n::r=>by
  rw[Nd.bxs,bi9 w h r];cases q:n.isT
  .rw[di (by rw[q];rfl)];rfl
  .rw[dj (by rw[q];simp)];rfl
mutual
theorem aQ4(w h:Int) (hw:0 < w) (hh:0 < h):∀n:Nd,Bx.wf (n.bx w h)
 | .layer nm m s sh lf tp mk w' h' l kb=>by
  rw[Nd.bx];split
  .exact bL5 ..
  .exact trivial
 | .tone nm r s sh=>by
  rw[Nd.bx];split
  .exact⟨hw,hh⟩
  .exact trivial
 | .group nm m s sh ns=>by
  rw[Nd.bx];split
  .exact bE1 _ _ trivial (bxs_wf w h hw hh ns)
  .exact trivial
theorem bxs_wf(w h:Int) (hw:0 < w) (hh:0 < h):∀l:List Nd,∀X∈Nd.bxs w h l,Bx.wf X
 | [],X,hX=>by rw[Nd.bxs]at hX;simp at hX
 | n::r,X,hX=>by
  rw[Nd.bxs]at hX;split at hX
  .exact bxs_wf w h hw hh r X hX
  .rcases au.mp hX with rfl|hX
   .exact aQ4 w h hw hh n
   .exact bxs_wf w h hw hh r X hX
end
mutual
theorem bL4(w h:Int) (hw:0 < w) (hh:0 < h):∀n:Nd,Bx.le (n.bx w h) (Ob (0,0,w,h))
 | .layer nm m s sh lf tp mk w' h' l kb=>by
  rw[Nd.bx];split
  .unfold btw;split
   .exact trivial
   .exact⟨(aC1 _ _).2,(aC1 _ _).2,(aC4 _ _).2,(aC4 _ _).2⟩
  .exact trivial
 | .tone nm r s sh=>by
  rw[Nd.bx];split
  .exact le_refl _
  .exact trivial
 | .group nm m s sh ns=>by
  rw[Nd.bx];split
  .exact aC8 _ _ _ trivial (bxs_wf w h hw hh ns) trivial (bxs_le w h hw hh ns)
  .exact trivial
theorem bxs_le(w h:Int) (hw:0 < w) (hh:0 < h):∀l:List Nd,∀X∈Nd.bxs w h l,Bx.le X (Ob (0,0,w,h))
 | [],X,hX=>by rw[Nd.bxs]at hX;simp at hX
 | n::r,X,hX=>by
  rw[Nd.bxs]at hX;split at hX
  .exact bxs_le w h hw hh r X hX
  .rcases au.mp hX with rfl|hX
   .exact bL4 w h hw hh n
   .exact bxs_le w h hw hh r X hX
end
def aX2(n:Nd):Q8 [n.d]=Ob (.bool n.isT):=by
 cases n with
 | layer=>exact aW2
 | tone=>exact aS8
 | group=>exact aX9
def bL9(w h:Nat)(l0:List Nd):∀(k:Nat) (n:Nd) (f:Nat),n.dp<=k->k+1<=f->n.thin->O1 f [B5 w h l0,n.d]=Ob (bxD<|n.bx w h):=by
 have leaf:∀(n:Nd) (f:Nat),n.dp=0->O1 (f+1) [B5 w h l0,n.d]=Ob (bxD<|n.bx w h):=λn f hd=>by
  refine A9 (g:=W3<|O1 f) (ρ:=[‹B5 w h l0›,‹n.d›]) rfl ?_;cases n with
  | group=>rw[eY]at hd;grind
  | tone nm r s sh =>
   have wb:S9 [B5 w h l0]=Ob (.tuple [.int 0,.int 0,.int w,.int h]):=rfl;rw[Nd.bx];cases sh with
   | false=>exists evD,W3,at3;rfl
   | true =>
    exists evD,W3,at3,aS8,wb
    show _=Ob (Fl.rt<|.tuple [.int 0,.int 0,.int ((w:Int) - 0),.int ((h:Int) - 0)]);rw[cg,cg]
  | layer nm m s sh lf tp mk w' h' l kb =>
   rw[Nd.bx];cases sh with
   | false=>exists evD,W3,ak3;rfl
   | true =>
    have bl:n4 [B5 w h l0,eS (.layer nm m s true lf tp mk w' h' l kb)]=Ob (bxD<|btw (mx lf 0) (mx tp 0) (mn (lf+w') w) (mn (tp+h') h)):=by
     refine A9 (ρ:=[‹B5 w h l0›,‹eS (.layer nm m s true lf tp mk w' h' l kb)›,Oa,Oa,Oa,Oa,Oa]) rfl ?_;have bo:=bL6 (mx lf 0) (mx tp 0) (mn (lf+w') w) (mn (tp+h') h);unfold mx mn at bo
     exists evD,ad9,p7,p6,o9,o8,o7,o6,bC5,ce4,au0,shD,B5,ab6,ab7,bo
     rfl
    have ig:=G5<|.layer nm m s true lf tp mk w' h' l kb
    exists evD,W3,ak3,aW2,ig,bl,if_pos
 intro k
 induction k with
 | zero =>
  intro n f hd hf _;obtain⟨f,rfl⟩:∃g,f=g+1:=⟨f - 1,by grind⟩;exact leaf n f (by grind)
 | succ k ih =>
  intro n f hd hf ht;obtain⟨f,rfl⟩:∃g,f=g+1:=⟨f - 1,by grind⟩;by_cases hz:n.dp=0
  .exact leaf n f hz
  cases n with
  | layer=>exact absurd rfl hz
  | tone=>exact absurd rfl hz
  | group nm m s sh ns =>
   refine A9 (g:=W3<|O1 f) (ρ:=[‹B5 w h l0›,‹eS (.group nm m s sh ns)›]) rfl ?_;rw[Nd.bx];rw[Nd.thin]at ht;rw[eY]at hd;have th:=(S3 ns).mp ht.2;cases sh with
   | false=>exists evD,W3,al2;rfl
   | true =>
    have ig:=G5<|.group nm m s true ns
    have c:K1 1 [0] (T8<|A2 K0 (A0 (A1 1) A3)) (C3 0) (R9<|Q9 (A2 Q8<|A0 (A1 0) A3)) (A2 (O1 f)<|A0 (A1 1) (A0 (A1 0) A3)) [‹B5 w h l0›,‹eS (.group nm m s true ns)›]=Ob ((Nd.bxs w h ns).map bxD):=by
     rw[bW0 (l:=ns) (h:=eS) (f:=λn=>bxD<|n.bx w h) (p:=λn=>!n.isT) (r:=[‹B5 w h l0›]) rfl ?_ ht.1 ?_ ?_]
     .rw[bi9,bE];rfl
     .rw[← M4];exists evD,ae5
     .intro n hn
      exists evD,aX2
     .intro n hn
      exists evD,ih n f (by have:=T9 hn;grind) (by grind)<|th n hn
    exists evD,W3,al2,aX9,ig,c,cu3,if_pos
def cd4(s:Rat):q0.wt s=q0:=by
 unfold Q4.wt q0;simp only[Rat.zero_mul]
def cD8(r:Rul)(s:Rat):r.tn s q0=q0:=by
 have k:r.mix s 0 0 0 0=0:=by
  unfold Rul.mix;cases r<;>simp only[Rul.new]<;>grind
 unfold Rul.tn q0;simp only[k]
def cd6(m:Man){q:Q4}(o:q.or):m.bl q0 q=q:=by
 obtain⟨x0,y0,z0,xc,yc,zc,c1⟩:=o;have cov:∀{d:Rat},0<=d->d<=1->m.cov 0 d=d:=λ{d} _ _=>by cases m<;>simp only[Man.cov,aA4]<;>grind
 have col:∀{d y:Rat},0<=y->y<=1->m.col 0 d 0 y=y:=λ{d y} _ _=>by cases m<;>simp only[Man.col,aA4]<;>grind
 unfold Man.bl q0;simp only;rw[cov (Rat.le_trans x0 xc) c1,col x0 (Rat.le_trans xc c1),col y0 (Rat.le_trans yc c1),col z0 (Rat.le_trans zc c1)]
def cd5:q0.or:=(Dq.zero 0).o
mutual
theorem aH0{w h x y:Int}(hw:0 < w) (hh:0 < h) (bb:0<=x/\x < w/\0<=y/\y < h):∀(n:Nd) (q:Q4),q.or->¬Bx.has (n.bx w h) x y->eU x y n q=q
 | .layer nm m s sh lf tp mk w' h' l kb,q,o,ho=>by
  rw[eU];split
  .rename_i e;rw[Nd.bx,if_pos e]at ho
   have out:¬(0<=x - lf/\x - lf < w'/\0<=y - tp/\y - tp < h'):=λc=>ho (by
    unfold btw;have a1:mx lf 0<=x:=bg0 (by grind) bb.1;have a2:mx tp 0<=y:=bg0 (by grind) bb.2.2.1;have a3:x < mn (lf+w') w:=by unfold mn;split<;>grind
    have a4:y < mn (tp+h') h:=by unfold mn;split<;>grind
    rw[if_neg (by grind)]
    exact⟨a1,a3,a2,a4⟩)
   have at0:atQ w' h' l (x - lf) (y - tp)=q0:=by unfold atQ;rw[if_neg out]
   have mq:aH6 mk w' h' l (x - lf) (y - tp)=q0:=by
    unfold aH6;cases mk with
    | none=>exact at0
    | some ms=>simp only;rw[if_neg out,at0]
   unfold bC1;rw[mq,cd4,cd6 m o]
  .rfl
 | .tone nm r s sh,q,o,ho=>by
  rw[eU];split
  .rename_i e;rw[Nd.bx,if_pos e]at ho;exact absurd bb ho
  .rfl
 | .group nm m s sh ns,q,o,ho=>by
  rw[eU];split
  .rename_i e;rw[Nd.bx,if_pos e]at ho;rw[out_sw hw hh bb ns λX hX hc=>ho (aX6 ((bE2 _ Oa trivial (bxs_wf w h hw hh ns)).2 X hX) hc),cd4,cd6 m o]
  .rfl
theorem out_sw{w h x y:Int}(hw:0 < w) (hh:0 < h) (bb:0<=x/\x < w/\0<=y/\y < h):∀(l:List Nd),(∀X∈Nd.bxs w h l,¬Bx.has X x y)->eV x y l q0=q0
 | [],_=>by rw[eV]
 | .tone nm r s sh::l,H=>by
  rw[Nd.bxs,if_pos (by rfl)]at H;rw[eV,eU,cD8];have:=out_sw hw hh bb l H;split<;>exact this
 | .layer nm m s sh lf tp mk w' h' l' kb::l,H=>by
  rw[Nd.bxs,if_neg (by exact aB)]at H;rw[eV,aH0 hw hh bb _ q0 cd5 (H _<|aw ..),out_sw hw hh bb l λX hX=>H X (xmm _ hX)]
 | .group nm m s sh ns::l,H=>by
  rw[Nd.bxs,if_neg (by exact aB)]at H;rw[eV,aH0 hw hh bb _ q0 cd5 (H _<|aw ..),out_sw hw hh bb l λX hX=>H X (xmm _ hX)]
end
def aN0{w h:Nat}{l:List Nd}(hd:eZ l<=3)(hl:(Nd.nmss l).length<=1000):m4 [B5 w h l]=Ob (.list<|Nd.nmss l):=by
 have na:=names_among 3 l 12 hd (by decide) hl;refine A9 (ρ:=[‹B5 w h l›]) rfl ?_
 exists evD,ay4,B5,na
def hcb:DS:=(sIf (Q9<|A2 bN1 (A0 (A1 0)<|A0 (A1 3) A3)) (A8<|A1 2) K9)
section
variable {w h:Nat}{K:List D}{p:Int×Int}
mutual
theorem bm4(c e:List Nd):∀n:Nd,∀d∈n.nms,∃a n' b,Stands a n' b (c++n::e)/\n'.nm=d
 | .layer nm m s sh lf tp mk w h l kb,d,hd=>by
  rw[Nd.nms]at hd;exact⟨c,_,e,.top,(bh.mp hd).symm⟩
 | .tone nm r s sh,d,hd=>by
  rw[Nd.nms]at hd;exact⟨c,_,e,.top,(bh.mp hd).symm⟩
 | .group nm m s sh ns,d,hd=>by
  rw[Nd.nms]at hd;rcases au.mp hd with q|q
  .exact⟨c,_,e,.top,q.symm⟩
  .obtain⟨a,n',b,st,en⟩:=nms_stands [] ns d q;exact⟨a,n',b,.deep st,en⟩
theorem nms_stands(c:List Nd):∀l:List Nd,∀d∈Nd.nmss l,∃a n' b,Stands a n' b (c++l)/\n'.nm=d
 | [],d,hd=>by rw[Nd.nmss]at hd;simp at hd
 | n::r,d,hd=>by
  rw[Nd.nmss]at hd;rcases aD.mp hd with q|q
  .exact bm4 c r n d q
  .have:=nms_stands (c++[n]) r d q
   rwa [aF]at this
end
end
end Sh
open Sh.Nd renaming nms→fb,nmss→fc,thin→fe,thins→ff,offs→fg,bxs→fh
namespace G
open PySem PySem.Spec PyProof.Rows L2
section
variable {X:Cx}{S:Sg}{c:Kx}
def F8{e:Expr}:JE X e dNo:=λρ d h=>by cases h
def ce7{e:Expr}:JQ X e qNo:=λρ t d h=>by cases h
def ak5{e:Expr}:JN X e aNo:=λρ d h=>by cases h
def aC7{e:Expr}:JT X e tNo:=λρ d h=>by cases h
def cG9{e:Expr}:JW X e tNo:=λρ d h=>by cases h
def aN9{e:Expr}:JG X e gNo:=by
 unfold JG PG
 intros
 rename_i h;obtain⟨d,ρ,ρ',H0,Hf,z,_⟩:=h;cases z
def cH9{es:List Expr}:JA X es aNo:=⟨λρ d h=>(nomatch h),λρ d h=>(nomatch h)⟩
def cs5{es:List Expr}:JTs X es tNo:=λpins s σ H Q I ⟨ρ,b,h,_⟩=>by cases h
def ae4(hu:X.A.units+64 < cLine):∀op:CmpOp,OpD X (dM op) (aZ7 op)
 | .Lt=>cF0 | .LtE=>cF1 | .Gt=>cF3 | .GtE=>cF4 | .Eq=>ce1 hu | .NotEq=>cd9 hu | .Is=>ce0 | .IsNot=>aM6 | .In=>cF2 hu | .NotIn=>bA6 hu
def bA5(hu:X.A.units+64 < cLine)(S:Sg)(c:Kx)(op:CmpOp)(b:Expr):OpD X (dM op) (opW S c op b):=ae4 hu op
theorem ab3{f:Expr->DE}(h:∀e,JE X e<|f e):∀es,JA X es (evA f es)
 | []=>aX0
 | e::es=>by
  unfold evA;split
  .rename_i p;exact aI3 (h e) (ab3 h es)<|F6 p es _
  .exact cH9
theorem au1{f:Expr->DE}(h:∀e,JE X e<|f e)(op:BoolOp)(pos:Pos):∀vs,JE X (.BoolOp op vs pos) (bn6 f op vs)
 | []=>F8
 | [a]=>cv4<|h a
 | a::b::r=>by
  unfold bn6;cases op
  .exact cw1 (h a) (au1 h .And pos (b::r))
  .exact cH5 (h a) (au1 h .Or pos (b::r))
theorem aI2{f:Expr->DT}(h:∀e,JT X e<|f e)(op:BoolOp)(pos:Pos):∀vs,JW X (.BoolOp op vs pos) (bI7 f op vs)
 | []=>cG9
 | [a]=>by cases op;exact bW6 (h a);exact cs3<|h a
 | a::b::r=>by
  unfold bI7;cases op
  .exact cs4 (h a) (aI2 h .And pos (b::r))
  .exact cG8 (h a) (aI2 h .Or pos (b::r))
def ag3{f:Expr->DE}(h:∀e,JE X e<|f e):∀o,JO X o (evO f o)
 | none=>bX9
 | some e=>bX8<|h e
def cs6{f:Expr->DT}(h:∀e,JT X e<|f e):∀l,JTs X l (bI6 f l)
 | []=>bW8
 | [t]=>bW7<|h t
 | _::_::_=>cs5
theorem bE6{f:Expr->DG}(h:∀e,JG X e<|f e):∀es,es.all pl=true->JGs X es (ca3 f es)
 | [],_=>bY4
 | e::es,p=>by
  simp only[aV,ae]at p;refine bE7 (h e) (bE6 h es p.2) ?_;have p1:=p.1;cases e<;>first|rfl|cases p1
theorem bj3{env:Env}:∀{es:List Expr},es.all pl=true->(dW es env).length=es.length/\(dW es env).findIdx? (·.1)=Oa
 | [],_=>⟨rfl,rfl⟩
 | e::es,p=>by
  simp only[aV,ae]at p;obtain⟨h1,h2⟩:=bj3 (env:=env) p.2;have p1:=p.1;have q:dW (e::es) env=(false,assign e env)::dW es env:=by cases e<;>first|rfl|cases p1
  rw[q];refine⟨by simp[h1],?_⟩;simp[List.findIdx?_cons,h2]
structure Sound (S:Sg) (r:Ev):Prop where
 e:∀{c X},Fit S c X->∀ex,JE X ex<|r.e c ex
 q:∀{c X},Fit S c X->∀ex,JQ X ex<|r.q c ex
 n:∀{c X},Fit S c X->∀ex,JN X ex<|r.n c ex
 t:∀{c X},Fit S c X->∀ex,JT X ex<|r.t c ex
 g:∀{c X},Fit S c X->∀ex,JG X ex<|r.g c ex
 b:∀{c X},Fit S c X->∀sts,JSs X sts<|r.b c sts
def Fit.hx(F:Fit S c X):∀e s,X.xe e s->False:=λe s h=>by rw[F.xe]at h;exact h
def Fit.po(F:Fit S c X):PassesOwn (ez X.prog X.w) X.A X.env X.xe:=by rw[F.xe];exact PassesOwn.never
def Fit.slot(F:Fit S c X){x:Str}{i:Nat}(h:Y9 x c.N=Ob i):X.N[i]? = Ob x:=by rw[F.N];exact aO0 h
theorem Fit.inner{tn:List Str}{caps:List Nat}{scope:Scope}{C:eR}{s0:eQ}{H0:Hp}{ex:List eR}(F:Fit S c X)(hn:(G.inner c tn caps scope).N.Nodup):Fit S (G.inner c tn caps scope) (K6 X (G.inner c tn caps scope).N scope C s0 H0 ex) :=
 ⟨rfl,by show relabel scope X.env=rl scope c.sc;rw[← F.sc];rfl,hn,F.calm,rfl,F.units,(λh=>by cases h),F.fns,F.css,F.bls⟩
variable {r:Ev}
def cu8(R:Sound S r)(F:Fit S c X)(tg a:Expr){p pos:Pos}(hg:Gl X "reversed")(hm:X.mg "reversed" = Oa):JI X tg (.Call (.Name "reversed" p) [a] [] pos) (evR S c tg a):=by
 have no:∀e:Expr,JI X tg e λ_=>Oa:=λe ρ ds q=>nomatch q
 unfold evR;split
 .split
  .split
   .split
    .split
     .rename_i h;simp only[ae]at h;obtain⟨rfl,h1,h2⟩:=V7 F h.1.1.1;obtain⟨rfl,h3,h4⟩:=V7 F h.1.1.2;have ht:=h.1.2;exact no _
     .exact no _
    .exact no _
   .exact no _
  .exact no _
 .exact no _
def bE5(R:Sound S r)(F:Fit S c X)(tg it:Expr):JI X tg it (evI S r c tg it):=by
 unfold evI;split
 .rename_i x p a pos;split
  .rename_i h;obtain⟨rfl,h1,h2⟩:=V7 F h;exact cu8 R F tg a h1 h2
  .split
   .rename_i h;simp only[ae]at h;obtain⟨rfl,h1,h2⟩:=V7 F h.1;exact bn1 h1 h2 (R.e F a)<|F6 h.2 _ _
   .split
    .rename_i h;simp only[ae]at h;obtain⟨rfl,h1,h2⟩:=V7 F h.1.1;have ht:=h.1.2;cases tg<;>first|(exact bY3 h1 h2 (R.e F a)<|F6 h.2 _ _)|(exact nomatch ht)
    .exact aW7 (R.e F _)
 .rename_i x p a b pos;split
  .rename_i h;simp only[ae]at h;obtain⟨rfl,h1,h2⟩:=V7 F h.1.1;exact λρ ds q=>nomatch q
  .split
   .rename_i h;simp only[ae]at h;obtain⟨rfl,h1,h2⟩:=V7 F h.1.1.1;have ht:=h.1.1.2;cases tg<;>first|(exact cu7 h1 h2 (R.e F a) (R.e F b) (by rw[F6 h.1.2,F6 h.2];rfl)<|F6 h.2 _ _)|(exact nomatch ht)
   .exact aW7 (R.e F _)
 .split
  .exact λρ ds q=>nomatch q
  .exact aW7 (R.e F _)
def bi5(R:Sound S r)(F:Fit S c X){elt tgt iter:Expr}{ifs:List Expr}{scope:Scope}{caps:List Nat}
  (h:(au5 c.N (G.inner c (Y7 tgt) caps scope).N (Y7 tgt).length caps c.sc scope&&an6 (G.inner c (Y7 tgt) caps scope).N&&pl iter)=true) :
  CompSc X (G.inner c (Y7 tgt) caps scope).N (Y7 tgt).length caps scope/\JI X tgt iter (evI S r c tgt iter)/\(∀C s0 H0 ex,JG (K6 X (G.inner c (Y7 tgt) caps scope).N scope C s0 H0 ex) tgt<|r.g (G.inner c (Y7 tgt) caps scope) tgt) /\
  (∀C s0 H0 ex,JTs (K6 X (G.inner c (Y7 tgt) caps scope).N scope C s0 H0 ex) ifs<|bI6 (r.t<|G.inner c (Y7 tgt) caps scope) ifs)/\(∀C s0 H0 ex,JE (K6 X (G.inner c (Y7 tgt) caps scope).N scope C s0 H0 ex) elt<|r.e (G.inner c (Y7 tgt) caps scope) elt) /\
  ∀x,dX iter X.env x=pure x:=by
 simp only[ae]at h;obtain⟨⟨h1,h2⟩,h3⟩:=h;have hn:=an5 h2;exact⟨bq2 h1 F.N F.sc,bE5 R F tgt iter,λC s0 H0 ex=>R.g (F.inner hn) tgt,λC s0 H0 ex=>cs6 (R.t<|F.inner hn) ifs,λC s0 H0 ex=>R.e (F.inner hn) elt,aG6 h3 _⟩
def cH3(R:Sound S r)(F:Fit S c X)(ex:Expr):JN X ex (evC S r c ex):=by
 unfold evC;split
 .rename_i elt tgt iter ifs scope pos;dsimp only;split
  .rename_i h;obtain⟨h1,h2,h3,h4,h5,h6⟩:=bi5 (ifs:=ifs) (elt:=elt) R F h;exact bY1 h1 F.hx h2 h3 h4 h5 F.calm h6
  .exact ak5
 .exact ak5
def be9{e:Expr}(h:pl e=true)(pos:Pos)(env:Env):(backTo pos<|dI [e] env).any (·.1)=false:=by rw[F6 h];rfl
theorem Q1(pos:Pos)(env:Env):∀{es:List Expr},es.all pl=true->(dI es env).any (·.1)=false
 | [],_=>rfl
 | e::es,h=>by
  simp only[aV,ae]at h;rw[F6 h.1,cq,Q1 pos env h.2];rfl
end
section
variable {X:Cx}{S:Sg}{c:Kx}{r:Ev}
def bd6(h:ck3 e=Ob t):∃p,e=.Slice t.1 t.2.1 t.2.2 p:=by cases e<;>first|(cases h;exact⟨_,rfl⟩)|cases h
def W8(h:nmP e=Ob t):e=.Name t.1 t.2:=by cases e<;>first|(cases h;rfl)|cases h
def ci5(h:unE e=Ob t):∃p,e=.UnaryOp t.1 t.2 p:=by cases e<;>first|(cases h;exact⟨_,rfl⟩)|cases h
def bU6(h:cE9 e=true):∃p q,e=.Constant (.int 1) p q:=by
 cases e with
 | Constant k p q =>
  cases k with
  | int i=>cases(show i=1 from of_decide_eq_true h);exact⟨p,q,rfl⟩
  | _=>cases h
 | _=>cases h
def cq0(h:m1E e=true):∃p q s,e=.UnaryOp .USub (.Constant (.int 1) p q) s:=by
 unfold m1E at h;split at h
 .rename_i t ht;obtain⟨s,rfl⟩:=ci5 ht;obtain⟨op,a⟩:=t;cases op with
  | USub=>obtain⟨p,q,rfl⟩:=bU6 h;exact⟨p,q,s,rfl⟩
  | _=>cases h
 .cases h
def bN6(R:Sound S r)(F:Fit S c X)(a i:Expr)(pos:Pos):JE X (.Subscript a i pos) (cg2 r c a i):=by
 unfold cg2;split
 .rename_i t ht;obtain⟨p,rfl⟩:=bd6 ht;obtain⟨lo,hi,st⟩:=t;cases st with
  | none =>
   dsimp only;split
   .exact bF0 (R.e F _) (ag3 (R.e F) _) (ag3 (R.e F) _)
   .split
    .exact cv1 (R.e F _) (ag3 (R.e F) _) (ag3 (R.e F) _)
    .split
     .exact cv2 (R.q F _) (ag3 (R.e F) _) (ag3 (R.e F) _)
     .exact cv3 (R.e F _) (ag3 (R.e F) _) (ag3 (R.e F) _)
  | some e =>
   dsimp only;split
   .rename_i h;simp only[ae,Option.isNone_iff_eq_none]at h;obtain⟨⟨h1,h2⟩,h3⟩:=h;subst h1 h2;obtain⟨_,_,_,rfl⟩:=cq0 h3;exact bY7 (R.e F _)<|aW9 bF3
   .exact F8
 .split
  .rename_i h;split
   .exact cv8 (R.e F _) (R.e F _) (by3 h)
   .exact cH6 (R.q F _) (R.e F _) (by3 h)
  .exact F8
def bk0(R:Sound S r)(F:Fit S c X)(x:Str)(a:Expr)(p pos:Pos):JE X (.Call (.Name x p) [a] [] pos) (aS0 S r c x a):=by
 unfold aS0;split
 .exact F8
 rename_i hp;have hp:pl a=true:=by simpa using hp
 have hs:=F6 hp [] X.env;split
 .rename_i h;obtain⟨rfl,h1,h2⟩:=V7 F h;exact cv7 h1 h2 (R.q F a) hs
 split
 .rename_i h;obtain⟨rfl,h1,h2⟩:=V7 F h;exact bY6 h1 h2 (R.q F a) hs
 split
 .rename_i h;obtain⟨rfl,h1,h2⟩:=V7 F h;exact bF2 h1 h2 (R.e F a) hs
 exact F8
def bj9(R:Sound S r)(F:Fit S c X)(x:Str)(a b:Expr)(p pos:Pos):JE X (.Call (.Name x p) [a,b] [] pos) (aR9 S r c x a b):=by
 unfold aR9;split
 .exact F8
 rename_i hp;have hp:pl a=true:=by simpa using hp
 split
 .exact F8
 rename_i hb;have hb:pl b=true:=by simpa using hb
 split
 .rename_i h;obtain⟨rfl,h1,h2⟩:=V7 F h;exact bY8 h1 h2 (R.e F a) (R.e F b) F.calm (F6 hp _ _) (F6 hb _ _)<|be9 hb pos _
 split
 .rename_i h;obtain⟨rfl,h1,h2⟩:=V7 F h;exact bY9 h1 h2 (R.e F a) (R.e F b) F.calm (F6 hp _ _) (F6 hb _ _)<|be9 hb pos _
 exact F8
theorem U9(pos:Pos):∀l:List (Bool×Sem eP),(backTo pos l).any (·.1)=l.any (·.1)
 | []=>rfl
 | (b,t)::r=>by
  have ih:=U9 pos r;unfold backTo at ih ⊢;rw[xmc,cq,cq,ih]
def bs8(R:Sound S r)(F:Fit S c X)(x:Str)(args:List Expr)(p pos:Pos):JE X (.Call (.Name x p) args [] pos) (bs9 S r c x args<|.Call (.Name x p) args [] pos):=by
 unfold bs9;split
 .rename_i Fn n hl;split
  .rename_i h;simp only[ae,beq_iff_eq]at h;obtain⟨⟨hg,hn⟩,hp⟩:=h;obtain⟨g1,g2⟩:=V2 F hg;rcases F.fns _ _ _ hl with⟨k,f,fd,ps,hk,hr,hm,hkp,hb⟩|⟨hm,hb⟩
   case inr =>
    cases args with
    | nil=>cases hn;exact absurd hb.1<|bq _
    | cons e es =>
     simp only[aV,ae]at hp;exact cf0 hb F.units g1 hm (ab3 (R.e F) (e::es)) hn g2 (F6 hp.1 _ _)<|(U9 pos _).trans (Q1 pos _ hp.2)
   cases args with
   | nil=>cases hn;exact bF6 hk hr g1 hm hkp hb g2
   | cons e es =>
    simp only[aV,ae]at hp;exact bh4 hk hr g1 hm hkp hb (ab3 (R.e F) (e::es)) hn g2 (F6 hp.1 _ _)<|(U9 pos _).trans (Q1 pos _ hp.2)
  .exact F8
 .split
  .split
   .exact ak6 (R.n F _)
   .exact bk0 R F _ _ _ _
  .exact bj9 R F _ _ _ _ _
  .exact F8
def aR8(k:Const)(u:Nat)(pos:Pos):JE X (.Constant k u pos) (xCn k):=by
 unfold xCn;split
 .exact cv6
 .exact cH8
 .exact bF3
 .exact cv0
 .exact F8
def bO0(R:Sound S r)(F:Fit S c X)(a:Expr)(op:Operator)(b:Expr)(pos:Pos):JE X (.BinOp a op b pos) (cg9 r c a op b):=by
 unfold cg9;split
 .split
  .exact u5 bA7 (R.e F _) (R.e F _)
  .exact u5 aH3 (R.e F _) (R.e F _)
 .exact u5 co1 (R.e F _) (R.e F _)
 .split
  .exact u5 aH2 (R.e F _) (R.e F _)
  .split
   .split
    .exact u5 bV0 (R.e F _) (R.e F _)
    .exact u5 bf7 (R.e F _) (R.e F _)
   .exact u5 bf7 (R.e F _) (R.e F _)
 .exact u5 co5 (R.e F _) (R.e F _)
 .exact u5 co3 (R.e F _) (R.e F _)
 .exact F8
 .exact F8
def cg1(R:Sound S r)(F:Fit S c X)(op:UnaryOp)(a:Expr)(pos:Pos):JE X (.UnaryOp op a pos) (xUn r c op a):=by
 unfold xUn;split
 .exact aW9 (R.e F _)
 .exact F8
def bN9(R:Sound S r)(F:Fit S c X)(a:Expr)(ops:List CmpOp)(bs:List Expr)(pos:Pos):JE X (.Compare a ops bs pos) (cg7 S r c a ops bs):=by
 have hu:=F.units;unfold cg7;split
 .split
  .rename_i h;exact bF4 (bA5 hu S c _ _) (R.e F _) (R.e F _)<|aj8 h _
  .exact F8
 .split
  .rename_i h;exact bF5 (ae4 hu _) (ae4 hu _) (R.e F _) (R.e F _) (R.e F _)<|aj8 h _
  .exact F8
 .exact F8
def bN8(R:Sound S r)(F:Fit S c X)(o:Expr)(m:Str)(apos cpos:Pos)(args:List Expr):JE X (.Call (.Attribute o m apos) args [] cpos) (cg4 r c o m apos cpos args):=by
 unfold cg4;split
 .split
  .rename_i h;simp only[ae,beq_iff_eq]at h;obtain⟨⟨⟨hm,hn⟩,hl⟩,hp⟩:=h;subst hm;have hs:=F6 hp [] X.env;exact bZ0 (R.e F _) (R.q F _) (aM8 hn _ _ _) (by rw[hs];rfl) (by simpa using hl) hs
  .exact F8
 .exact F8
def cg8(R:Sound S r)(F:Fit S c X)(f:Expr)(args:List Expr)(kw:List dU)(pos:Pos):JE X (.Call f args kw pos) (xCl S r c f args kw pos):=by
 unfold xCl;split
 .split
  .exact bs8 R F _ _ _ _
  .exact bN8 R F _ _ _ _ _
  .exact F8
 .exact F8
def cg6(ks:List (Option Expr))(vs:List Expr)(pos:Pos):JE X (.Dict ks vs pos) (xDs ks vs):=F8
def cA4(R:Sound S r)(F:Fit S c X)(ex:Expr):JE X ex (xE S r c ex):=by
 cases ex
 case Constant=>exact aR8 _ _ _
 case Dict ks vs p=>exact cg6 ks vs p
 case Name x p =>
  unfold xE;dsimp only;split
  .rename_i i h;split
   .rename_i v;obtain⟨h1,h2,h3⟩:=T4 F v;exact aW8 i (F.slot h) h1 h2 h3
   .exact F8
  .split
   .rename_i d hd;split
    .rename_i g;obtain⟨u,k1,k2⟩:=F.css _ _ hd;obtain⟨g1,g2⟩:=V2 F g;exact cw0 k1 g1 k2 g2
    .exact F8
   .exact F8
 case Tuple es _ _ =>
  unfold xE;dsimp only;split
  .rename_i h;exact bE9 (ab3 (R.e F) _) h
  .exact F8
 case List=>exact ak6<|R.n F _
 case ListComp=>exact ak6<|R.n F _
 case BinOp=>exact bO0 R F _ _ _ _
 case UnaryOp=>exact cg1 R F _ _ _
 case Compare=>exact bN9 R F _ _ _ _
 case BoolOp=>exact au1 (R.e F) _ _ _
 case IfExp=>exact cv9 (R.t F _) (R.e F _)<|R.e F _
 case Subscript=>exact bN6 R F _ _ _
 case Call=>exact cg8 R F _ _ _ _
 all_goals exact F8
def cA1(R:Sound S r)(F:Fit S c X)(ex:Expr):JQ X ex (xQ S r c ex):=by
 cases ex
 case Name x p =>
  unfold xQ;dsimp only;split
  .rename_i i h;split
   .rename_i v;obtain⟨h1,h2,h3⟩:=T4 F v;exact cu1 i (F.slot h) h1 h2 h3
   .exact ce7
  .exact bE0 (R.e F _)
 case List=>exact cu2<|R.n F _
 case ListComp=>exact cu2<|R.n F _
 case Call f as kw p =>
  unfold xQ;dsimp only;split
  .exact cu2 (R.n F _)
  .exact bE0 (R.e F _)
 all_goals exact bE0<|R.e F _
def cA2(R:Sound S r)(F:Fit S c X)(ex:Expr):JN X ex (xN S r c ex):=by
 cases ex
 case List es p =>
  unfold xN;dsimp only;split
  .rename_i h;exact bE3 (ab3 (R.e F) _) h
  .exact ak5
 case ListComp=>exact cH3 R F _
 case Call f as kw p =>
  unfold xN;dsimp only;unfold xNl;split
  .split
   .split
    .rename_i h;simp only[ae]at h;obtain⟨rfl,h1,h2⟩:=V7 F h.1;exact bY0 h1 h2 (R.q F _)<|F6 h.2 _ _
    .exact ak5
   .exact ak5
  .exact ak5
 case BinOp a op b p =>
  cases op
  case Add=>exact cu4 (R.q F _)<|R.q F _
  all_goals exact ak5
 all_goals exact ak5
def cA0(R:Sound S r)(F:Fit S c X)(ex:Expr):JT X ex (xT S r c ex):=by
 have hu:=F.units
 have oth:∀e:Expr,JT X e (if plT e then Q9 (r.e c e) else tNo):=λe=>by
  split
  .rename_i h;exact cs7 (R.e F _)<|by4 h _
  .exact aC7
 cases ex
 case Compare a ops bs p =>
  unfold xT cc5;dsimp only;split
  .split
   .rename_i h;exact cs9 (bA5 hu S c _ _) (R.e F _) (R.e F _)<|aj8 h _
   .exact aC7
  .split
   .rename_i h;exact bD2 (ae4 hu _) (ae4 hu _) (R.e F _) (R.e F _) (R.e F _)<|aj8 h _
   .exact aC7
  .exact aC7
 case BoolOp=>exact bD1<|aI2 (R.t F) _ _ _
 case UnaryOp op a p =>
  cases op
  case Not=>exact cs8<|R.t F _
  all_goals exact aC7
 all_goals exact oth _
def cA3(R:Sound S r)(F:Fit S c X)(ex:Expr):JG X ex (xG r c ex):=by
 unfold xG;split
 .split
  .rename_i i h;split
   .rename_i v;obtain⟨h1,h2⟩:=at9 F v;exact bY5 i (by rw[F.N];exact F.nd) (F.slot h) h1 h2
   .exact aN9
  .exact aN9
 .split
  .rename_i h;obtain⟨h1,h2⟩:=bj3 (env:=X.env) h;exact cu9 (bE6 (R.g F) _ h) F.calm h1 h2
  .exact aN9
 .exact aN9
def bg7{st:Stmt}{f:DS}(h:∀ρ,f ρ=Oa):JS X st f:=λρ fl q=>by rw[h ρ]at q;cases q
def bM0(F:Fit S c X)(h:c.df=true):X.env.blockKind=.function:=by
 unfold Env.blockKind;rw[F.sc,(F.df h).2];rfl
def aB2(elt:Expr)(gens:List Comprehension)(sc:Scope)(pv p':Pos)(x:Str)(l:Nat)(env:Env):swapsWith (.ListComp elt gens sc pv) (Ob<|.Name x p') l env =
  pure (env.blockKind == .function&&env.kindOf x==Ob .local&&p'.line==pv.line && !(sc.names.any λ(n,k)=>n==x&&(k == .local || k == .cell))):=rfl
def bg8(R:Sound S r)(F:Fit S c X){x:Str}{p' pv p:Pos}{elt:Expr}{gens:List Comprehension}{sc:Scope}{i:Nat}(hi:Y9 x c.N=Ob i)(hl:(c.sc.names.lookup x==Ob .local)=true)
  (h:(c.df&&p'.line==pv.line && !(sc.names.any λ(n,k)=>n==x&&(k == .local || k == .cell)))=true) :
  JS X (.Assign [.Name x p'] (.ListComp elt gens sc pv) p) (aj4 i<|evC S r c (.ListComp elt gens sc pv))/\JS X (.Assign [.Name x p'] (.ListComp elt gens sc pv) p) (ac4 i<|evC S r c (.ListComp elt gens sc pv)):=by
 unfold evC;simp only[ae]at h;have hl':X.env.scope.names.lookup x=Ob .local:=by rw[F.sc];simpa using hl
 have hsw:swapsWith (.ListComp elt gens sc pv) (Ob<|.Name x p') p.line X.env=pure true:=by
  rw[aB2,bM0 F h.1.1,h.1.2,h.2];unfold Env.kindOf;rw[hl'];rfl
 split
 .rename_i elt tgt iter ifs scope pos he;cases he;dsimp only;split
  .rename_i hc;obtain⟨h1,h2,h3,h4,h5,h6⟩:=bi5 (ifs:=ifs) (elt:=elt) R F hc;exact⟨bX2 i (by rw[F.N];exact F.nd) h1 F.hx h2 h3 h4 h5 (F.slot hi) hl' hsw F.calm h6,bX4 i (by rw[F.N];exact F.nd) h1 F.hx h2 h3 h4 h5 (F.slot hi) hl' hsw F.calm h6⟩
  .exact⟨bg7 λρ=>rfl,bg7 λρ=>rfl⟩
 .exact⟨bg7 λρ=>rfl,bg7 λρ=>rfl⟩
def bO4(R:Sound S r)(F:Fit S c X)(x:Str)(p':Pos)(v:Expr)(p:Pos):JS X (.Assign [.Name x p'] v p) (ch2 S r c x p' v):=by
 have nd:X.N.Nodup:=by rw[F.N];exact F.nd
 unfold ch2;split
 .exact B7
 .rename_i i hi;split
  .exact B7
  .rename_i hlo;have hlo:aW1 c x=true:=by simpa using hlo
   obtain⟨l1,l2⟩:=at9 F hlo;split
   .rename_i elt gens sc pv;split
    .rename_i hl;split
     .rename_i h;split
      .exact(bg8 R F hi hl h).1
      .exact(bg8 R F hi hl h).2
     .exact B7
    .rename_i hl;refine aW6 i nd (R.e F _) (F.slot hi) l1 ?_ l2;rw[aB2]
     have:(X.env.kindOf x==Ob .local)=false:=by
      unfold Env.kindOf;rw[F.sc];simpa using hl
     rw[this,dy];rfl
   .split
    .exact B7
    .rename_i hc;have hc:isC v=false:=by simpa using hc
     split
     .exact ct2 i nd (R.n F _) (F.slot hi) l1 (U8 hc _ _ _) l2
     .exact aW6 i nd (R.e F _) (F.slot hi) l1 (U8 hc _ _ _) l2
def bO3(R:Sound S r)(F:Fit S c X)(a i v:Expr)(q p:Pos):JS X (.Assign [.Subscript a i q] v p) (ch1 r c a i v):=by
 unfold ch1;split
 .exact B7
 .rename_i x hx;cases W8 hx;split
  .exact B7
  .rename_i t ht;obtain⟨p',rfl⟩:=bd6 ht;obtain⟨lo,hi,st⟩:=t;cases st with
   | some e=>exact B7
   | none =>
    dsimp only[Option.isSome];rw[if_neg aB];split
    .exact B7
    .rename_i i hi;split
     .rename_i h;simp only[ae,bf]at h;obtain⟨h1,h2,h3⟩:=T4 F h.1;exact ct0 i (R.n F _) (ag3 (R.e F) _) (ag3 (R.e F) _) (F.slot hi) h1 h2 h3<|U8 h.2 _ _ _
     .exact B7
def bQ2(h:cB2 es=Ob t):es=[.Name t.1.1 t.1.2,.Name t.2.1 t.2.2]:=by
 match es,h with
 | [a,b],h =>
  obtain⟨x,h1,h⟩:=xbo h;obtain⟨y,h2,h⟩:=xmo h;cases h;rw[W8 h1,W8 h2]
def bQ1(h:cB1 e=Ob t):∃k p,e=.Tuple [t.1,t.2] k p:=by
 cases e with
 | Tuple es k p =>
  match es,h with
  | [a,b],h=>cases h;exact⟨k,p,rfl⟩
  | [],h=>cases h
  | [_],h=>cases h
  | _::_::_::_,h=>cases h
 | _=>cases h
def cp0{v:Expr}(h:ak8 v=false)(es:List Expr)(k:Nat)(p:Pos)(env:Env):swappedStores [.Tuple es k p] v env=pure Oa:=by cases v<;>first|rfl|cases h
def stB:Expr->Bool
 | .Starred ..=>true
 | _=>false
def swN(env:Env)(x y:Str)(px py:Pos):List Str:=[(x,px),(y,py)].filterMap λt=>if env.kindOf t.1==Ob .local&&t.2.line==px.line then Ob t.1 else Oa
def cC6(env:Env)(x y:Str)(px py pt p2:Pos)(kt k2:Nat)(a b:Expr):swappedStores [.Tuple [.Name x px,.Name y py] kt pt] (.Tuple [a,b] k2 p2) env =
  (if(env.blockKind != .function)=true then pure Oa else if([a,b].any stB)=true then pure Oa else if((swN env x y px py).length != 2 || (swN env x y px py).eraseDups.length != (swN env x y px py).length)=true then pure Oa
   else if([a,b].all (foldedForSure 8))=true then pure Oa else if([a,b].all (constantsAlone 8))=true then unsupported "assign.tuple-of-constant-expressions:order-of-the-stores" else pure (Ob (swN env x y px py))):=by rfl
def by2(h:pl e=true):stB e=false:=by cases e<;>first|rfl|cases h
def cj9{env:Env}{x y:Str}{px py pt p2:Pos}{kt k2:Nat}{a b:Expr}(hk:env.blockKind=.function)(ha:pl a=true)(hb:pl b=true)(kx:env.kindOf x=Ob .local)(ky:env.kindOf y=Ob .local)(hl:px.line=py.line)(hxy:(x==y)=false)
  (hf:([a,b].all<|foldedForSure 8)=false) (hc:([a,b].all<|constantsAlone 8)=false):swappedStores [.Tuple [.Name x px,.Name y py] kt pt] (.Tuple [a,b] k2 p2) env=pure (Ob [x,y]):=by
 have hn:swN env x y px py=[x,y]:=by simp[swN,kx,ky,hl]
 have hyx:(y==x)=false:=by
  cases q:(y==x) with
  | false=>rfl
  | true=>simp only[beq_iff_eq]at q;subst q;simp at hxy
 have hd:([x,y]:List Str).eraseDups=[x,y]:=by simp[List.eraseDups,List.eraseDupsBy,List.eraseDupsBy.loop,hxy,hyx]
 rw[cC6,hk,hn,hd,hf,hc];simp[by2 ha,by2 hb]
def bQ8{es vs:List Expr}(h:(es.length==2 || es.length==3)=false)(k k3:Nat)(p p3:Pos)(env:Env):swappedStores [.Tuple es k p] (.Tuple vs k3 p3) env=pure Oa:=by
 show(if(!(es.length==2 || es.length==3) || vs.length != es.length || env.blockKind != .function)=true then _ else _)=_;rw[if_pos (by rw[h];rfl)]
def bO2(R:Sound S r)(F:Fit S c X)(es:List Expr)(kt:Nat)(pt:Pos)(v:Expr)(p:Pos):JS X (.Assign [.Tuple es kt pt] v p) (ch0 r c (.Tuple es kt pt) v es):=by
 have nd:X.N.Nodup:=by rw[F.N];exact F.nd
 unfold ch0;split
 .rename_i x px y py ht;cases bQ2 ht;split
  .split
   .rename_i a b hab;obtain⟨k2,p2,rfl⟩:=bQ1 hab;split
    .rename_i i hi;split
     .rename_i j hj;split
      .rename_i h;unfold cE3 at h;simp only[ae,bf,beq_iff_eq]at h;obtain⟨⟨⟨⟨⟨⟨⟨⟨hd,ha⟩,hb⟩,hxy⟩,hl⟩,hx⟩,hy⟩,hf⟩,hcs⟩:=h;have hx':X.env.scope.names.lookup x=Ob .local:=by rw[F.sc];exact hx
       have hy':X.env.scope.names.lookup y=Ob .local:=by rw[F.sc];exact hy
       have hne:i≠j:=λz=>by
        subst z;have:=(F.slot hi).symm.trans (F.slot hj);cases this;simp at hxy
       refine ct1 nd (ab3 (R.e F) [a,b]) ?_ hne (F.slot hi) (F.slot hj) hx' hy' F.calm rfl;exact cj9 (bM0 F hd) ha hb hx' hy' hl hxy hf hcs
      .exact B7
     .exact B7
    .exact B7
   .exact B7
  .rename_i h;have h:ak8 v=false:=by simpa using h
   refine bD6 (R.e F _) (R.g F _) ?_ (cp0 h _ _ _ _) rfl;cases v<;>rfl
 .split
  .exact B7
  .rename_i h;refine bD6 (R.e F _) (R.g F _) ?_ ?_ rfl
   .cases v<;>rfl
   .cases v<;>first|rfl|skip
    rename_i vs k3 p3;have h:(es.length==2 || es.length==3)=false:=by simpa [ak8] using h
    exact bQ8 h _ _ _ _ _
def bO1(R:Sound S r)(F:Fit S c X)(tg v:Expr)(p:Pos):JS X (.Assign [tg] v p) (cA5 S r c tg v p):=by
 cases tg with
 | Name x p'=>exact bO4 R F x p' v p
 | Subscript a i q=>exact bO3 R F a i v q p
 | Tuple es k q=>exact bO2 R F es k q v p
 | _=>exact B7
end
section
variable {X:Cx}{S:Sg}{c:Kx}{r:Ev}
def bN7(R:Sound S r)(F:Fit S c X)(x m:Str)(e:Expr)(p apos cpos pos:Pos)(hl:(apos.endLine==cpos.line)=true):JS X (.Expr (.Call (.Attribute (.Name x p) m apos) [e] [] cpos) pos) (cg3 r c x m e):=by
 unfold cg3;split
 .exact B7
 .rename_i i hi;split
  .rename_i h;simp only[ae]at h;obtain⟨h1,h2,h3⟩:=T4 F h.1;have hs:=F6 h.2 [] X.env;split
   .rename_i hm;simp only[beq_iff_eq]at hm;subst hm;exact ct7 i (R.e F e) (F.slot hi) h1 h2 h3 rfl (by rw[hs];rfl) hl hs rfl
   .split
    .rename_i hm;simp only[beq_iff_eq]at hm;subst hm;exact ct5 i (R.e F e) (F.slot hi) h1 h2 h3 hl hs
    .exact B7
  .exact B7
def cg5(R:Sound S r)(F:Fit S c X)(e:Expr)(pos:Pos):JS X (.Expr e pos) (xEx r c e):=by
 unfold xEx;split
 .split
  .split
   .split
    .split
     .rename_i h;exact bN7 R F _ _ _ _ _ _ _ h
     .exact B7
    .exact B7
   .exact B7
  .exact B7
 .exact B7
def bs7(R:Sound S r)(F:Fit S c X)(st:Stmt):JS X st (xS0 S r c st):=by
 cases st
 case Return o p =>
  cases o
  .exact B7
  .exact bD5 (R.e F _)
 case If=>exact cH0 (R.t F _) (R.b F _)<|R.b F _
 case While t a o p =>
  cases o
  .exact bD4 (R.t F _) (R.b F _) F.po
  .exact B7
 case For tg it a o p =>
  cases o
  .unfold xS0 xFo;dsimp only;split
   .rename_i h;exact ct4 (bE5 R F _ _) (R.g F _) (R.b F _) F.po F.calm<|aG6 h _
   .exact B7
  .exact B7
 case Assign ts v p =>
  unfold xS0 xAs;dsimp only;split
  .exact bO1 R F _ _ _
  .exact B7
 case Expr=>exact cg5 R F _ _
 case Continue=>exact bX3
 case Break=>exact ct6
 case Pass=>exact bX1
 all_goals exact B7
theorem bH2{st:Stmt}:∀(l:List Nat) {g:DS},JS X st g->JS X st (l.foldl (λg i=>aL5 i g) g)
 | [],_,h=>h
 | i::l,_,h=>bH2 l<|ct3 i h
def cc4(R:Sound S r)(F:Fit S c X)(st:Stmt):JS X st (xS S r c st):=by
 unfold xS fzW;split
 .exact bs7 R F st
 .exact bH2 _ (bs7 R F st)
theorem aY1(h:∀st,JS X st<|f st):∀sts,JSs X sts (evB f sts)
 | []=>bX0
 | [s]=>bW9<|h s
 | s::t::T5=>bD3 (h s)<|aY1 h (t::T5)
def bR0(R:Sound S r):Sound S (step S r) :=
 ⟨λF=>cA4 R F,λF=>cA1 R F,λF=>cA2 R F,λF=>cA0 R F,λF=>cA3 R F,λF=>aY1<|cc4 R F⟩
theorem ab5(S:Sg):∀n,Sound S (ev S n)
 | 0=>⟨λ_ _=>F8,λ_ _=>ce7,λ_ _=>ak5,λ_ _=>aC7,λ_ _=>aN9,λ_ _ ρ fl q=>by cases q⟩
 | n+1=>bR0<|ab5 S n
end
structure Fd where
 x:Str
 st:Stmt
 ps:List Str
 N:List Str
 own:List Nat:=[]
 tx:List Nat:=[]
 dx:List Nat:=[]
 old:Bool:=false
 fz:List (Nat×List Nat):=[]
 hc:List ((Nat×Nat)×List Nat):=[]
def fdm(x:Str)(st:Stmt)(n:Nat)(N:List Str)(old:Bool:=false):Fd:={ x,st,ps:=N.take n,N,old }
def Fd.c(d:Fd):Kx:={ N:=d.N,sc:=B9 d.st,df:=true,own:=d.own,cpt:=[],tx:=d.tx,dx:=d.dx,old:=d.old,fz:=d.fz,hc:=d.hc }
def Fd.okB(d:Fd):Bool:=let sc:=B9 d.st
 sc.kind == .function && !sc.isCoroutine && !sc.isGenerator&&an6 d.N&&d.N.take d.ps.length==d.ps&&(d.ps.all λx=>match sc.names.lookup x with|some .local=>true|some .cell=>true|_=>false)&&sc.names.all λy=>match y.2 with | .free=>false|_=>true
def Fd.sc{d:Fd}(h:d.okB=true):FnScope d.N d.ps (B9 d.st):=by
 unfold Fd.okB at h;simp only[ae,bf,beq_iff_eq,aQ]at h;obtain⟨⟨⟨⟨⟨⟨h1,h2⟩,h3⟩,h4⟩,h5⟩,h6⟩,h7⟩:=h;refine⟨h1,h2,h3,an5 h4,h5,λx hx=>?_,λy hy e=>?_⟩
 .have:=h6 x hx;split at this
  .rename_i q;exact .inl q
  .rename_i q;exact .inr q
  .cases this
 .have:=h7 y hy;rw[e]at this;cases this
def KF(K:aa)(x:Str)(st:Stmt):Prop:=∃(f:eR) (oc:eP) (od:Option eR) (sl:Array (Option eP)) (kV dc pm:eP) (an:Option eR) (cd ct:eP),
 aW K dN x=Ob (Ob<|.ref f)/\K.lookup f=Ob ⟨oc,od,.func<|bp x x (V3 st) (G0 st) (B9 st) .none kV dc pm an cd ct,sl⟩/\bT K cd x=true/\aG K (.ref f)=true
def cG2{K:aa}{x:Str}{st:Stmt}{f:eR}{oc:eP}{od:Option eR}{sl:Array (Option eP)}{kV dc pm:eP}{an:Option eR}{cd ct:eP}(a:aW K dN x=Ob (Ob<|.ref f))
  (l:K.lookup f=Ob ⟨oc,od,.func<|bp x x (V3 st) (G0 st) (B9 st) .none kV dc pm an cd ct,sl⟩) (c:bT K cd x=true) (k:aG K (.ref f)=true):KF K x st:=⟨f,oc,od,sl,kV,dc,pm,an,cd,ct,a,l,c,k⟩
abbrev Tab:=List<|Str×FnD×Nat
section
variable {P:Program}{w:World}{K:PySem.W.Frag}{mg:Str->Option Value}{base:Heap}{cs:List (Str×D)}{bl:List Str}
structure Md (K:aa) (mg:Str->Option eP) (cs:List (Str×D)) (bl:List Str):Prop where
 ns:∀x v,aW K dN x=Ob (Ob v)->mg x=Ob v
 css:∀x d,cs.lookup x=Ob d->∃u,ba6 K d u/\mg x=Ob u
 bls:∀x,bl.contains x=true->mg x=Oa
def TOk(P:dO)(w:World)(K:aa)(mg:Str->Option eP)(base:Heap)(k:Nat)(tab:Tab):Prop:=∀x F n,tab.lookup x=Ob (F,n)->(∃(f:eR) (fd:dQ) (ps:List Str),
 FnOk P w K mg base CX0 k f fd ps (spF K n F)/\mg x=Ob (.ref f)/\aG K (.ref f)=true/\M3 K fd ps [])\/(mg x=Oa/\cz7 x F n)
def TOk.nil:TOk P w K mg base 0 []:=λx F n h=>by cases h
theorem TOk.mono(T:TOk P w K mg base j tab)(h:j<=k):TOk P w K mg base k tab:=λx F n e =>(T x F n e).imp (λ⟨f,fd,ps,h1,h2,h3,h4⟩=>⟨f,fd,ps,h1.mono h,h2,h3,h4⟩) id
def UA:Nat->(List eP->Prop)->Prop
 | 0,P=>P []
 | n+1,P=>∀a,UA n λus=>P (a::us)
theorem ua:∀{n:Nat}{P:List eP->Prop},UA n P->∀us:List eP,us.length=n->P us
 | 0,_,h,[],_=>h
 | _+1,P,h,a::us,e=>ua (P:=λus=>P (a::us)) (h a) us<|Nat.succ.inj e
def Bd(d:Fd):Prop:=∀(kV doc pm:eP) (an:Option eR) (cdv ct:eP),UA d.ps.length λus=>bindArgs (bp d.x d.x (V3 d.st) (G0 d.st) (B9 d.st) .none kV doc pm an cdv ct) ⟨us,[]⟩=pure (d.ps.zip us)
def rd(tab:Tab)(cs:List (Str×D))(bl:List Str)(d:Fd):FnD:=C6 ((ev ⟨tab,cs,bl⟩ 99).b d.c<|G0 d.st) d.N.length
def ax1(M:Md K mg cs bl)(T:TOk P w K mg base k tab)(ok:d.okB=true)(Fn:Fun K d.x d.x d.st f fd):FnOk P w K mg base CX0 (k+1) f fd d.ps (spF K d.ps.length<|rd tab cs bl d):=by
 have Sc:=Fd.sc ok;refine bZ7 (N:=d.N) Fn Sc λcdv A outer s H E hr=>(ab5 ⟨tab,cs,bl⟩ 99).b (c:=d.c) ?_ _
 refine⟨rfl,rfl,Sc.nd,rfl,rfl,hr.units,λ_=>⟨λ_=>rfl,Sc.kind⟩,λx F n h=>?_,M.css,M.bls⟩;exact(T x F n h).imp (λ⟨f',fd',ps,h1,h2,h3,h4⟩=>⟨k,f',fd',ps,h1,hr,h2,h3,h4⟩) id
def u4{x:Str}{st:Stmt}(h:KF K x st)(M:Md K mg cs bl):∃(f:eR) (kV dc pm:eP) (an:Option eR) (cd ct:eP),Fun K x x st f (bp x x (V3 st) (G0 st) (B9 st) .none kV dc pm an cd ct)/\mg x=Ob (.ref f):=by
 obtain⟨f,oc,od,sl,kV,dc,pm,an,cd,ct,a,l,cc,kk⟩:=h;exact⟨f,kV,dc,pm,an,cd,ct,aI6 l cc kk,M.ns _ _ a⟩
def TOk.cons{k:Nat}{tab:Tab}{x:Str}{F:FnD}{n:Nat}(T:TOk P w K mg base k tab)(h:∃(f:eR) (fd:dQ) (ps:List Str),FnOk P w K mg base CX0 k f fd ps (spF K n F)/\mg x=Ob (.ref f)/\aG K (.ref f)=true/\M3 K fd ps []):
  TOk P w K mg base k ((x,F,n)::tab):=λy G m e=>by
 rw[aH]at e;split at e
 .rename_i q;cases e;simp only[beq_iff_eq]at q;subst q;exact .inl h
 .exact T y G m e
def TOk.add(T:TOk P w K mg base k tab)(M:Md K mg cs bl)(d:Fd)(h:KF K d.x d.st)(F:FnD)(e:rd tab cs bl d=F:=by kernel_rfl)(ok:d.okB=true:=by kernel_rfl)(bd:Bd d:=by repeat (first|exact rfl|intro _)):TOk P w K mg base (k+1) ((d.x,F,d.ps.length)::tab):=by
 subst e;obtain⟨f,kV,dc,pm,an,cd,ct,Fn,hm⟩:=u4 h M;exact(T.mono<|cw k).cons ⟨f,_,d.ps,ax1 M T ok Fn,hm,Fn.kp,.all<|ua (bd kV dc pm an cd ct)⟩
def TOk.rec(T:TOk P w K mg base k tab)(M:Md K mg cs bl)(d:Fd)(h:KF K d.x d.st)(F:Nat->FnD)(j:Nat)(e0:F 0=λ_=>Oa:=by rfl)(e:∀j,rd ((d.x,F j,d.ps.length)::tab) cs bl d=F (j+1):=by intro;kernel_rfl)(ok:d.okB=true:=by kernel_rfl)(bd:Bd d:=by repeat (first|exact rfl|intro _)):
  TOk P w K mg base (k+j) ((d.x,F j,d.ps.length)::tab):=by
 obtain⟨f,kV,dc,pm,an,cd,ct,Fn,hm⟩:=u4 h M;have bb:M3 K _ d.ps []:=.all<|ua (bd kV dc pm an cd ct)
 have main:∀j,FnOk P w K mg base CX0 (k+j) f (bp d.x d.x (V3 d.st) (G0 d.st) (B9 d.st) .none kV dc pm an cd ct) d.ps (spF K d.ps.length<|F j):=λj=>by
  induction j with
  | zero =>
   rw[e0];exact⟨λvs H Q E h=>h.1,λA outer s H args us vs Q E hr e0 hb hv hs=>by obtain⟨_,Hf,ds,d,_,_,e,_⟩:=hs;cases e⟩
  | succ j ih =>
   rw[← e j];exact ax1 M ((T.mono<|bi k j).cons ⟨f,_,d.ps,ih,hm,Fn.kp,bb⟩) ok Fn
 exact(T.mono<|bi k j).cons ⟨f,_,d.ps,main j,hm,Fn.kp,bb⟩
def TOk.rec2(T:TOk P w K mg base k tab)(M:Md K mg cs bl)(d d':Fd)(h:KF K d.x d.st)(h':KF K d'.x d'.st)(F F':Nat->FnD)(j:Nat)(e0:F 0=λ_=>Oa:=by rfl)(e0':F' 0=λ_=>Oa:=by rfl)
  (e:∀j,rd ((d.x,F j,d.ps.length)::(d'.x,F' j,d'.ps.length)::tab) cs bl d=F (j+1):=by intro;kernel_rfl) (e':∀j,rd ((d.x,F j,d.ps.length)::(d'.x,F' j,d'.ps.length)::tab) cs bl d'=F' (j+1):=by intro;kernel_rfl) (ok:d.okB=true:=by kernel_rfl) (ok':d'.okB=true:=by kernel_rfl) (bd:Bd d:=by repeat (first|exact rfl|intro _)) (bd':Bd d':=by repeat (first|exact rfl|intro _)) :
  TOk P w K mg base (k+j) ((d.x,F j,d.ps.length)::(d'.x,F' j,d'.ps.length)::tab):=by
 obtain⟨f,kV,dc,pm,an,cd,ct,Fn,hm⟩:=u4 h M;obtain⟨f',kV',dc',pm',an',cd',ct',Fn',hm'⟩:=u4 h' M;have b1:M3 K _ d.ps []:=.all (ua<|bd kV dc pm an cd ct);have b2:M3 K _ d'.ps []:=.all (ua<|bd' kV' dc' pm' an' cd' ct');have none_ok:∀{f:eR}{fd:dQ}{ps:List Str},FnOk P w K mg base CX0 (k+0) f fd ps (spF K ps.length λ_=>Oa):=λ{f fd ps} =>⟨λvs H Q E h=>h.1,λA outer s H args us vs Q E hr e0 hb hv hs=>by obtain⟨_,Hf,ds,d,_,_,e,_⟩:=hs;cases e⟩
 have main:∀j,TOk P w K mg base (k+j) ((d.x,F j,d.ps.length)::(d'.x,F' j,d'.ps.length)::tab):=λj=>by
  induction j with
  | zero=>rw[e0,e0'];exact((T.mono<|ah _).cons ⟨f',_,d'.ps,none_ok,hm',Fn'.kp,b2⟩).cons ⟨f,_,d.ps,none_ok,hm,Fn.kp,b1⟩
  | succ j ih =>
   have o1:=ax1 M ih ok Fn;have o2:=ax1 M ih ok' Fn';rw[e j]at o1;rw[e' j]at o2;exact((T.mono<|bi k (j+1)).cons ⟨f',_,d'.ps,o2,hm',Fn'.kp,b2⟩).cons ⟨f,_,d.ps,o1,hm,Fn.kp,b1⟩
 exact main j
def TOk.rec3(T:TOk P w K mg base k tab)(M:Md K mg cs bl)(d1 d2 d3:Fd)(h1:KF K d1.x d1.st)(h2:KF K d2.x d2.st)(h3:KF K d3.x d3.st)(F1 F2 F3:Nat->FnD)(j:Nat)(z1:F1 0=λ_=>Oa:=by rfl)(z2:F2 0=λ_=>Oa:=by rfl)(z3:F3 0=λ_=>Oa:=by rfl)
  (e1:∀j,rd ((d1.x,F1 j,d1.ps.length)::(d2.x,F2 j,d2.ps.length)::(d3.x,F3 j,d3.ps.length)::tab) cs bl d1=F1 (j+1):=by intro;kernel_rfl) (e2:∀j,rd ((d1.x,F1 j,d1.ps.length)::(d2.x,F2 j,d2.ps.length)::(d3.x,F3 j,d3.ps.length)::tab) cs bl d2=F2 (j+1):=by intro;kernel_rfl) (e3:∀j,rd ((d1.x,F1 j,d1.ps.length)::(d2.x,F2 j,d2.ps.length)::(d3.x,F3 j,d3.ps.length)::tab) cs bl d3=F3 (j+1):=by intro;kernel_rfl) (ok1:d1.okB=true:=by kernel_rfl) (ok2:d2.okB=true:=by kernel_rfl) (ok3:d3.okB=true:=by kernel_rfl) (q1:Bd d1:=by repeat (first|exact rfl|intro _)) (q2:Bd d2:=by repeat (first|exact rfl|intro _)) (q3:Bd d3:=by repeat (first|exact rfl|intro _)) :
  TOk P w K mg base (k+j) ((d1.x,F1 j,d1.ps.length)::(d2.x,F2 j,d2.ps.length)::(d3.x,F3 j,d3.ps.length)::tab):=by
 obtain⟨f1,a1,a2,a3,a4,a5,a6,Fn1,hm1⟩:=u4 h1 M;obtain⟨f2,c1,c2,c3,c4,c5,c6,Fn2,hm2⟩:=u4 h2 M;obtain⟨f3,g1,g2,g3,g4,g5,g6,Fn3,hm3⟩:=u4 h3 M;have b1:M3 K _ d1.ps []:=.all (ua<|q1 a1 a2 a3 a4 a5 a6);have b2:M3 K _ d2.ps []:=.all (ua<|q2 c1 c2 c3 c4 c5 c6);have b3:M3 K _ d3.ps []:=.all (ua<|q3 g1 g2 g3 g4 g5 g6);have none_ok:∀{f:eR}{fd:dQ}{ps:List Str},FnOk P w K mg base CX0 (k+0) f fd ps (spF K ps.length λ_=>Oa):=λ{f fd ps} =>⟨λvs H Q E h=>h.1,λA outer s H args us vs Q E hr e0 hb hv hs=>by obtain⟨_,Hf,ds,d,_,_,e,_⟩:=hs;cases e⟩
 induction j with
 | zero=>rw[z1,z2,z3];exact(((T.mono<|ah _).cons ⟨f3,_,d3.ps,none_ok,hm3,Fn3.kp,b3⟩).cons ⟨f2,_,d2.ps,none_ok,hm2,Fn2.kp,b2⟩).cons ⟨f1,_,d1.ps,none_ok,hm1,Fn1.kp,b1⟩
 | succ j ih =>
  have o1:=ax1 M ih ok1 Fn1;have o2:=ax1 M ih ok2 Fn2;have o3:=ax1 M ih ok3 Fn3;rw[e1 j]at o1;rw[e2 j]at o2;rw[e3 j]at o3;exact(((T.mono<|bi k (j+1)).cons ⟨f3,_,d3.ps,o3,hm3,Fn3.kp,b3⟩).cons ⟨f2,_,d2.ps,o2,hm2,Fn2.kp,b2⟩).cons ⟨f1,_,d1.ps,o1,hm1,Fn1.kp,b1⟩
end
abbrev bM5:=List<|Str×(Str->Option D)
abbrev aA7:=List<|Str×(List D->Option Str)×Nat
structure Rg where
 rf:aA7
 cl:List Str
 tb:List (Str×List (Str×Bool))
 sb:List (Str×List Str)
 nb:List (Str×List Str)
 xf:bM5
structure FitR (S:Sg) (T:Rg) (c:Kx) (X:Cx):Prop where
 fit:Fit S c X
 ns:∀x C,clA X.K x=Ob C->X.mg x=Ob (.ref C)
 rfs:∀x R n,T.rf.lookup x=Ob (R,n)->∃(k:Nat) (f:eR) (fd:dQ) (ps:List Str),FnOk X.prog X.w X.K X.mg X.base (CX1 X.prog X.w) k f fd ps (spR X.K n R)/\Room k X.A/\X.mg x=Ob (.ref f)/\aG X.K (.ref f)=true/\M3 X.K fd ps []
 cls:∀x,T.cl.contains x=true->n5 X.K x=true
 tbs:∀y l,T.tb.lookup y=Ob l->(∃D,clA X.K y=Ob D/\am3 X.K (.ref D) λx=>l.lookup x)\/(y = "ValueError" /\ X.mg y=Oa/\am3 X.K (.type "ValueError") λx=>l.lookup x)
 sbs:∀y l,T.sb.lookup y=Ob l->n5 X.K y=true/\∀x∈l,n5 X.K x=true/\bv2 X.K x y=true
 nbs:∀y l,T.nb.lookup y=Ob l->∀x∈l,n5 X.K x=true/\ck0 X.K x y=true
 xfs:∀x F,T.xf.lookup x=Ob F->∃(k:Nat) (f:eR) (fd:dQ) (ps:List Str),FnQ X.prog X.w X.K X.mg X.base k f fd ps (spX X.K F)/\RoomQ k X.A/\X.mg x=Ob (.ref f)/\aG X.K (.ref f)=true/\M3 X.K fd ps []
section
variable (S:Sg) (T:Rg)
def fsP(c:Kx)(e:Expr):DE:=match e with
 | .FormattedValue v k sp _=>if k==114 then(match sp with
  | none=>dRp<|(ev S 99).e c v
  | some _=>dNo) else dNo
 | .Constant k _ _=>xCn k
 | _=>dNo
def msE(c:Kx)(e:Expr):DE:=match e with
 | .JoinedStr (e1::e2::es) _=>aZ4 eO<|(e1::e2::es).map (fsP S c)
 | _=>(ev S 99).e c e
def rvN(c:Kx)(f a:Expr)(args:List Expr):RD:=match f with
 | .Name x _=>(match T.rf.lookup x with
  | some (R,n)=>if ah6 c.sc x&&(a::args).length==n&&(a::args).all pl then be3 R (evA ((ev S 99).e c) (a::args)) else rNo
  | none=>rNo)
 | _=>rNo
def rvE(c:Kx)(e:Expr):RD:=match e with
 | .Call f as kw _=>(match as,kw with
  | a::args,[]=>rvN S T c f a args
  | _,_=>rNo)
 | _=>rNo
def rvL(f:Stmt->RD)(c:Kx):List Stmt->RD
 | []=>rNo
 | [s]=>f s
 | s::t::r=>aG3 (f s) (xS S (ev S 99) c s)<|rvL f c (t::r)
def rvR(mk:Bool)(c:Kx)(a b:Option Expr):RD:=match a,b with
 | some e,Oa=>(match e with
  | .Call f as kw _=>(match f with
   | .Name x _=>(match as,kw with
    | [e],[]=>if mk&&T.cl.contains x&&ah6 c.sc x&&pl e then aG4 x (msE S c e) else rNo
    | _,_=>rNo)
   | _=>rNo)
  | _=>rNo)
 | _,_=>rNo
def rvX(c:Kx)(e:Expr):RD:=match e with
 | .Call f as kw q=>rvE S T c<|.Call f as kw q
 | _=>rNo
def rvA(c:Kx)(v:Expr):List Expr->RD
 | [t]=>(match t with
  | .Name _ _=>rvX S T c v
  | _=>rNo)
 | _=>rNo
def rvS(mk:Bool):Nat->Kx->Stmt->RD
 | 0,_,_=>rNo
 | n+1,c,st=>match st with
  | .Raise a b _=>rvR S T mk c a b
  | .If t a b _=>rIf ((ev S 99).t c t) (rvL S (rvS mk n c) c a)<|rvL S (rvS mk n c) c b
  | .Expr e _=>rvX S T c e
  | .Return o _=>(match o with
   | some e=>rvE S T c e
   | none=>rNo)
  | .Assign ts v _=>rvA S T c v ts
  | _=>rNo
def rvB(mk:Bool)(c:Kx)(sts:List Stmt):RD:=rvL S (rvS S T mk 9 c) c sts
def zvI(c:Kx)(w:Str)(a b:Expr):DE:=match a with
 | .Name x _=>(match b with
  | .Name y _=>if biB S c "isinstance" w&&ai7 c.sc x&&ah6 c.sc y then(match Y9 x c.N,T.tb.lookup y with
   | some i,Ob l=>aZ2 i λx=>l.lookup x
   | _,_=>dNo) else dNo
  | _=>dNo)
 | _=>dNo
def zvE(c:Kx):Nat->Expr->DE
 | 0,_=>dNo
 | n+1,ex=>match ex with
  | .Call f as kw cpos=>(match kw with
   | []=>(match f with
    | .Name w _=>(match as with
     | [a,b]=>zvI S T c w a b
     | _=>dNo)
    | _=>dNo)
   | _=>dNo)
  | .Constant k _ _=>xCn k
  | .Name x _=>(match Y9 x c.N with
   | some i=>if ai7 c.sc x then A1 i else dNo
   | none=>dNo)
  | .Tuple es _ _=>if es.length<=1000 then N7 (evA (zvE c n) es) else dNo
  | .List es _=>if es.length<=1000 then ab8 (evA (zvE c n) es) else dNo
  | .UnaryOp op a _=>(match op with
   | .USub=>bK3<|zvE c n a
   | .Not=>bK2<|zvE c n a
   | _=>dNo)
  | .BinOp a op b _=>(match op with
   | .Add=>A4 B0 (zvE c n a)<|zvE c n b
   | _=>dNo)
  | .Compare a ops bs _=>(match ops,bs with
   | [op],[b]=>if pl b then A4 (aZ7 op) (zvE c n a) (zvE c n b) else dNo
   | _,_=>dNo)
  | .BoolOp op vs _=>bn6 (zvE c n) op vs
  | _=>dNo
def zvA(c:Kx)(d:DE)(v:Expr):List Expr->DS
 | [t]=>(match t with
  | .Name x _=>(match Y9 x c.N with
   | some i=>if aW1 c x && !(isC v) then B6 i d else E1
   | none=>E1)
  | _=>E1)
 | _=>E1
def hvE(c:Kx)(ex:Expr):DE:=zvE ⟨[],[],S.bl⟩ T c 9 ex
def hvS(c:Kx)(st:Stmt):DS:=match st with
 | .Assign ts v _=>zvA c (hvE S T c v) v ts
 | .Return o _=>(match o with
  | some e=>A8<|hvE S T c e
  | none=>E1)
 | _=>E1
def hnd:ExceptHandler->Option (Str×Option Str×Stmt×List Stmt)
 | .ExceptHandler t nm su _=>(match t with
  | some e=>(match e with
   | .Name y _=>(match su with
    | b0::suite=>Ob (y,nm,b0,suite)
    | []=>Oa)
   | _=>Oa)
  | none=>Oa)
def rdR(tab:Tab)(cs:List (Str×D))(bl:List Str)(T:Rg)(d:Fd):List D->Option Str:=aU4 (rvB ⟨tab,cs,bl⟩ T true d.c<|G0 d.st) d.N.length
end
section
variable {S:Sg}{T:Rg}{c:Kx}{X:Cx}
def cx0(F:Fit S c X)(e:Expr):JE X e (fsP S c e):=by
 unfold fsP;split
 .split
  .rename_i h;simp only[beq_iff_eq]at h;subst h;split
   .exact cH4 ((ab5 S 99).e F _)
   .exact F8
  .exact F8
 .exact aR8 _ _ _
 .exact F8
theorem bh3(F:Fit S c X):∀es:List Expr,JEs X es (es.map<|fsP S c)
 | []=>.nil
 | e::es=>.cons (cx0 F e)<|bh3 F es
def cp9(F:Fit S c X)(e:Expr):JE X e (msE S c e):=by
 unfold msE;split
 .exact cH7 (bh3 F _)
 .exact(ab5 S 99).e F e
def aL8{m:Bool}{e:Expr}:PX X m e rNo:=λρ x ρ1 C q=>by cases q
def aU3{m:Bool}(F:FitR S T c X)(e:Expr):PX X m e (rvE S T c e):=by
 unfold rvE;split
 .rename_i f as kw pos;split
  .rename_i a args;unfold rvN;split
   .rename_i x p;split
    .rename_i R n hl;split
     .rename_i h;simp only[ae,beq_iff_eq]at h;obtain⟨⟨hg,hn⟩,hp⟩:=h;obtain⟨g1,g2⟩:=V2 F.fit hg;obtain⟨k,f,fd,ps,hk,hr,hm,hkp,hb⟩:=F.rfs _ _ _ hl;simp only[aV,ae]at hp;exact bS2 F.fit.hx hk hr g1 hm hkp hb (ab3 ((ab5 S 99).e F.fit) (a::args)) hn g2 (F6 hp.1 _ _)<|(U9 pos _).trans (Q1 pos _ hp.2)
     .exact aL8
    .exact aL8
   .exact aL8
  .exact aL8
 .exact aL8
theorem aF7{m:Bool}{f:Stmt->RD}(F:FitR S T c X)(h:∀st,JR X m st<|f st):∀sts,JRs X m sts (rvL S f c sts)
 | []=>ct8
 | [s]=>bX5<|h s
 | s::t::r=>bD7 F.fit.hx (h s) (cc4 (ab5 S 99) F.fit s)<|aF7 F h (t::r)
def ck8(F:FitR S T c X)(mk:Bool)(a b:Option Expr)(pos:Pos):JR X mk (.Raise a b pos) (rvR S T mk c a b):=by
 unfold rvR;split
 .split
  .split
   .rename_i x p;split
    .split
     .rename_i h;simp only[ae]at h;obtain⟨⟨⟨rfl,hc⟩,hg⟩,hp⟩:=h;obtain⟨g1,g2⟩:=V2 F.fit hg;exact bD8 F.fit.hx (F.cls x hc) g1 (λC=>F.ns x C) F.fit.calm (cp9 F.fit _) g2<|F6 hp [] _
     .exact ab1
    .exact ab1
   .exact ab1
  .exact ab1
 .exact ab1
theorem aU2(F:FitR S T c X)(mk:Bool)(hlo:mk=true->cz4 X):∀(n:Nat) (st:Stmt),JR X mk st (rvS S T mk n c st)
 | 0,st=>ab1
 | n+1,st=>by
  cases st
  case Raise=>exact ck8 F mk _ _ _
  case If=>exact cH1 F.fit.hx ((ab5 S 99).t F.fit _) (aF7 F (aU2 F mk hlo n) _)<|aF7 F (aU2 F mk hlo n) _
  case Expr e p =>
   cases e
   case Call=>exact bX6 (aU3 F _) rfl
   all_goals exact ab1
  case Return o p =>
   cases o
   .exact ab1
   .exact cu0 (aU3 F _)
  case Assign ts v p =>
   unfold rvS rvA;dsimp only;split
   .split
    .cases v
     case Call=>exact ct9 (aU3 F _) rfl
     all_goals exact ab1
    .exact ab1
   .exact ab1
  all_goals exact ab1
def ck9(F:FitR S T c X)(mk:Bool)(hlo:mk=true->cz4 X)(sts:List Stmt):JRs X mk sts (rvB S T mk c sts):=aF7 F (aU2 F mk hlo 9) sts
abbrev Cx.quiet(X:Cx):Cx:={ X with calm:=true }
abbrev cL7(T:Rg)(X:Cx):Prop:=(∀x C,clA X.K x=Ob C->X.mg x=Ob (.ref C))/\∀y l,T.tb.lookup y=Ob l->(∃D,clA X.K y=Ob D/\am3 X.K (.ref D) λx=>l.lookup x)\/(y = "ValueError" /\ X.mg y=Oa/\am3 X.K (.type "ValueError") λx=>l.lookup x)
def cf8(F:Fit S c (Cx.quiet X))(tb:cL7 T X)(w:Str)(a b:Expr)(p pos:Pos):JE X (.Call (.Name w p) [a,b] [] pos) (zvI S T c w a b):=by
 unfold zvI;split
 .split
  .rename_i x p1 y p2;split
   .rename_i h;simp only[ae]at h;obtain⟨rfl,h1,h2⟩:=V7 F h.1.1;obtain⟨v1,v2,v3⟩:=T4 F h.1.2;obtain⟨g1,g2⟩:=V2 F h.2;split
    .rename_i i l hi hl;rcases tb.2 y l hl with⟨D,hD,ok⟩|⟨rfl,hm,ok⟩
     .exact bF1 (X:=X) (v:=.ref D) h1 h2 (F.slot hi) v1 v2 v3 (bT8 g1 (tb.1 y D hD) g2) rfl (λu r=>r) ok
     .exact bF1 (X:=X) (v:=.ty "ValueError") h1 h2 (F.slot hi) v1 v2 v3 (bT9 (v:=.ty "ValueError") g1 hm (by decide +kernel) rfl (by decide) g2) rfl (λu r=>r) ok
    .exact F8
   .exact F8
  .exact F8
 .exact F8
theorem bs3(F:Fit S c (Cx.quiet X))(tb:cL7 T X):∀(n:Nat) (ex:Expr),JE X ex (zvE S T c n ex)
 | 0,ex=>F8
 | n+1,ex=>by
  have hu:X.A.units+64 < cLine:=F.units;have R:=bs3 F tb n;cases ex
  case Call f as kw cpos =>
   cases kw
   .cases f
    case Name w p =>
     unfold zvE;dsimp only;split
     .exact cf8 F tb _ _ _ _ _
     .exact F8
    all_goals exact F8
   .exact F8
  case Constant=>exact aR8 _ _ _
  case Name x p =>
   unfold zvE;dsimp only;split
   .rename_i i hi;split
    .rename_i v;obtain⟨h1,h2,h3⟩:=T4 F v;exact aW8 (X:=X) i (F.slot hi) h1 h2 h3
    .exact F8
   .exact F8
  case Tuple es _ _ =>
   unfold zvE;dsimp only;split
   .rename_i h;exact bE9 (ab3 R _) h
   .exact F8
  case List es _ =>
   unfold zvE;dsimp only;split
   .rename_i h;exact ak6<|bE3 (ab3 R _) h
   .exact F8
  case UnaryOp op a p =>
   cases op
   case USub=>exact aW9<|R _
   case Not=>exact cv5<|R _
   all_goals exact F8
  case BinOp a op b p =>
   cases op
   case Add=>exact u5 aH3 (R _)<|R _
   all_goals exact F8
  case Compare a ops bs p =>
   unfold zvE;dsimp only;split
   .split
    .rename_i h;exact bF4 (ae4 hu _) (R _) (R _)<|aj8 h _
    .exact F8
   .exact F8
  case BoolOp=>exact au1 R _ _ _
  all_goals exact F8
def cf9(F:Fit S c (Cx.quiet X)){d:DE}{v:Expr}(h:JE X v d)(ts:List Expr)(pos:Pos):JS X (.Assign ts v pos) (zvA c d v ts):=by
 have nd:X.N.Nodup:=by have:X.N=c.N:=F.N;rw[this];exact F.nd
 unfold zvA;split
 .split
  .split
   .rename_i i hi;split
    .rename_i hc;simp only[ae,bf]at hc;obtain⟨l1,l2⟩:=at9 F hc.1;exact aW6 (X:=X) i nd h (F.slot hi) l1 (U8 hc.2 _ _ _) l2
    .exact B7
   .exact B7
  .exact B7
 .exact B7
def FitR.hf(F:FitR S T c X)(a:eR):Fit ⟨[],[],S.bl⟩ c (Cx.quiet<|Cx.held X (.ref a)) :=
 ⟨F.fit.N,F.fit.sc,F.fit.nd,rfl,F.fit.xe,F.fit.units,F.fit.df,(λx F n h=>nomatch h),(λx d h=>nomatch h),F.fit.bls⟩
def bG1(F:FitR S T c X)(a:eR)(ex:Expr):JE (Cx.held X<|.ref a) ex (hvE S T c ex):=bs3 (F.hf a) ⟨F.ns,F.tbs⟩ 9 ex
def cw8(F:FitR S T c X)(a:eR)(st:Stmt):JS (Cx.held X<|.ref a) st (hvS S T c st):=by
 unfold hvS;split
 .exact cf9 (F.hf a) (bG1 F a _) _ _
 .split
  .exact bD5 (bG1 F a _)
  .exact B7
 .exact B7
def cw9{h:ExceptHandler}{y:Str}{nm:Option Str}{b0:Stmt}{suite:List Stmt}(e:hnd h=Ob (y,nm,b0,suite)):∃np hp,h=.ExceptHandler (Ob<|.Name y np) nm (b0::suite) hp:=by
 unfold hnd at e;split at e;split at e
 .split at e
  .split at e
   .cases e;exact⟨_,_,rfl⟩
   .cases e
  .cases e
 .cases e
end
section
variable {P:Program}{w:World}{K:PySem.W.Frag}{mg:Str->Option Value}{base:Heap}{cs:List (Str×D)}{bl:List Str}
def TRk(P:dO)(w:World)(K:aa)(mg:Str->Option eP)(base:Heap)(k:Nat)(rt:aA7):Prop:=∀x R n,rt.lookup x=Ob (R,n)->∃(f:eR) (fd:dQ) (ps:List Str),
 FnOk P w K mg base (CX1 P w) k f fd ps (spR K n R)/\mg x=Ob (.ref f)/\aG K (.ref f)=true/\M3 K fd ps []
def TRk.nil:TRk P w K mg base 0 []:=λx R n h=>by cases h
theorem TRk.mono{j k:Nat}{rt:aA7}(T:TRk P w K mg base j rt)(h:j<=k):TRk P w K mg base k rt:=λx R n e =>
 let⟨f,fd,ps,h1,h2,h3,h4⟩:=T x R n e
 ⟨f,fd,ps,h1.mono h,h2,h3,h4⟩
def TRk.cons{k:Nat}{rt:aA7}{x:Str}{R:List D->Option Str}{n:Nat}(T:TRk P w K mg base k rt)(h:∃(f:eR) (fd:dQ) (ps:List Str),FnOk P w K mg base (CX1 P w) k f fd ps (spR K n R)/\mg x=Ob (.ref f)/\aG K (.ref f)=true/\M3 K fd ps []):
  TRk P w K mg base k ((x,R,n)::rt):=λy G m e=>by
 rw[aH]at e;split at e
 .rename_i q;cases e;simp only[beq_iff_eq]at q;subst q;exact h
 .exact T y G m e
structure Cl (K:aa) (mg:Str->Option eP) (T:Rg):Prop where
 cls:∀x,T.cl.contains x=true->n5 K x=true
 tbs:∀y l,T.tb.lookup y=Ob l->(∃D,clA K y=Ob D/\am3 K (.ref D) λx=>l.lookup x)\/(y = "ValueError" /\ mg y=Oa/\am3 K (.type "ValueError") λx=>l.lookup x)
 sbs:∀y l,T.sb.lookup y=Ob l->n5 K y=true/\∀x∈l,n5 K x=true/\bv2 K x y=true
 nbs:∀y l,T.nb.lookup y=Ob l->∀x∈l,n5 K x=true/\ck0 K x y=true
def aZ8{x:Str}{C:eR}(M:Md K mg cs bl)(h:clA K x=Ob C):mg x=Ob (.ref C):=by
 unfold clA at h;split at h
 .rename_i C' e;cases h;exact M.ns _ _ e
 .cases h
def TXk(P:dO)(w:World)(K:aa)(mg:Str->Option eP)(base:Heap)(k:Nat)(xt:bM5):Prop:=∀x F,xt.lookup x=Ob F->∃(f:eR) (fd:dQ) (ps:List Str),
 FnQ P w K mg base k f fd ps (spX K F)/\mg x=Ob (.ref f)/\aG K (.ref f)=true/\M3 K fd ps []
def TXk.nil:TXk P w K mg base 0 []:=λx R h=>by cases h
theorem TXk.mono{j k:Nat}{xt:bM5}(T:TXk P w K mg base j xt)(h:j<=k):TXk P w K mg base k xt:=λx F e =>
 let⟨f,fd,ps,h1,h2,h3,h4⟩:=T x F e
 ⟨f,fd,ps,h1.mono h,h2,h3,h4⟩
def cx3{k:Nat}{tab:Tab}{T:Rg}{d:Fd}{f:eR}{fd:dQ}(M:Md K mg cs bl)(Tk:TOk P w K mg base k tab)(Rk:TRk P w K mg base k T.rf)(Xk:TXk P w K mg base k T.xf)(Ck:Cl K mg T)(ok:d.okB=true)(Fn:Fun K d.x d.x d.st f fd):FnOk P w K mg base (CX1 P w) (k+1) f fd d.ps (spR K d.ps.length<|rdR tab cs bl T d):=by
 have Sc:=Fd.sc ok;refine bH6 (N:=d.N) Fn Sc λcdv A outer s H E hr=>ck9 (c:=d.c) ⟨?_,λx C h=>aZ8 M h,λx R n h=>?_,Ck.cls,Ck.tbs,Ck.sbs,Ck.nbs,λx F h=>?_⟩ true (λ_=>cq5) _
 .refine⟨rfl,rfl,Sc.nd,rfl,rfl,hr.units,λ_=>⟨λ_=>rfl,Sc.kind⟩,λx F n h=>?_,M.css,M.bls⟩;exact(Tk x F n h).imp (λ⟨f',fd',ps,h1,h2,h3,h4⟩=>⟨k,f',fd',ps,h1,hr,h2,h3,h4⟩) id
 .obtain⟨f',fd',ps,h1,h2,h3,h4⟩:=Rk x R n h;exact⟨k,f',fd',ps,h1,hr,h2,h3,h4⟩
 .obtain⟨f',fd',ps,h1,h2,h3,h4⟩:=Xk x F h;exact⟨k,f',fd',ps,h1,⟨hr.dp,hr.un⟩,h2,h3,h4⟩
end
def bZ2(K:aa)(cv:eP)(p:Str×Bool):Bool:=match clA K p.1 with
 | some C=>xcB K C&&bM K C veB "ValueError.__new__" && PySem.W.kitOne K (.ref C) cv==Ob p.2
 | none=>false
def clB(K:aa)(cl:List Str)(tb:List (Str×List (Str×Bool)))(sb nb:List (Str×List Str)):Bool :=
 cl.all (n5 K)&&tb.all (λp=>match clA K p.1 with
  | some D=>p.2.all<|bZ2 K (.ref D)
  | none=>p.1 == "ValueError" && p.2.all (bZ2 K (.type "ValueError")))&&(sb.all λp=>n5 K p.1&&p.2.all λx=>n5 K x&&bv2 K x p.1)&&nb.all λp=>p.2.all λx=>n5 K x&&ck0 K x p.1
theorem j8{α:Type}{x:Str}{a:α}:∀{l:List (Str×α)},l.lookup x=Ob a->(x,a)∈l
 | [],h=>by cases h
 | (y,b)::l,h=>by
  rw[aH]at h;split at h
  .rename_i q;simp only[beq_iff_eq]at q;cases h;subst q;exact aw ..
  .exact xmm _ (j8 h)
def bF7{K:aa}{cv:eP}{l:List (Str×Bool)}(h:l.all (bZ2 K cv)=true):am3 K cv λx=>l.lookup x:=λx b e=>by
 have:=aQ.mp h _ (j8 e);unfold bZ2 at this;split at this
 .rename_i C hC;simp only[ae,beq_iff_eq]at this;exact⟨C,hC,this.1.1,this.1.2,this.2⟩
 .cases this
section
variable {P:Program}{w:World}{K:PySem.W.Frag}{mg:Str->Option Value}{base:Heap}{cs:List (Str×D)}{bl:List Str}
def Cl.of(M:Md K mg cs bl)(hv:bl.contains "ValueError" = true)(h:clB K T.cl T.tb T.sb T.nb=true):Cl K mg T:=by
 simp only[clB,ae]at h;obtain⟨⟨⟨h1,h2⟩,h3⟩,h4⟩:=h;refine⟨λx hx=>aQ.mp h1 x<|bN.mp hx,λy l e=>?_,λy l e=>?_,λy l e=>?_⟩
 .have:=aQ.mp h2 _ (j8 e);dsimp only at this;split at this
  .rename_i D hD;exact .inl ⟨D,hD,bF7 this⟩
  .simp only[ae,beq_iff_eq]at this;exact .inr ⟨this.1,by rw[this.1];exact M.bls _ hv,bF7 this.2⟩
 .have:=aQ.mp h3 _ (j8 e);simp only[ae,aQ]at this;exact this
 .have:=aQ.mp h4 _ (j8 e);simp only[ae,aQ]at this;exact this
def TRk.add(Rk:TRk P w K mg base k T.rf)(Tk:TOk P w K mg base k tab)(Xk:TXk P w K mg base k T.xf)(M:Md K mg cs bl)(Ck:Cl K mg T)(d:Fd)(h:KF K d.x d.st)(R:List D->Option Str)(e:rdR tab cs bl T d=R:=by kernel_rfl)(ok:d.okB=true:=by kernel_rfl)(bd:Bd d:=by repeat (first|exact rfl|intro _)):TRk P w K mg base (k+1) ((d.x,R,d.ps.length)::T.rf):=by
 subst e;obtain⟨f,kV,dc,pm,an,cd,ct,Fn,hm⟩:=u4 h M;exact(Rk.mono<|cw k).cons ⟨f,_,d.ps,cx3 M Tk Rk Xk Ck ok Fn,hm,Fn.kp,.all<|ua (bd kV dc pm an cd ct)⟩
end
abbrev Fo:=List<|Str×D
structure Chg (S:List eR) (H Hf H' Hf':Hp):Prop where
 big:∀b o,b∉S->H b=Ob o->H' b=Ob o
 kp:∀b,H b≠Oa->H' b≠Oa
 sub:B8 Hf' H'
 ext:B8 Hf Hf'
 new:∀b,Hf' b≠Oa->Hf b≠Oa\/H b=Oa
def aF3{α:Type}{o:Option α}{x:α}(h:o=Ob x):o≠Oa:=by rw[h];exact λz=>by cases z
def bV8{α:Type}{o:Option α}(h:o≠Oa):∃x,o=Ob x:=by cases o with
 | none=>exact absurd rfl h
 | some x=>exact⟨x,rfl⟩
section
variable {K:PySem.W.Frag}{H H' H0 H1 H2 Hf Hf' Hf0 Hf1 Hf2:Hp}{S S' R:List Addr}{C:Addr}{os:List (Addr×Fo)}{a:Addr}
def Chg.of(g:Grow H Hf H' Hf'):Chg S H Hf H' Hf':=⟨λb o _ e=>g.big b o e,λb h=>by obtain⟨x,e⟩:=bV8 h;exact aF3<|g.big b x e,g.sub,g.ext,g.new⟩
theorem Chg.trans(a:Chg S H Hf H1 Hf1)(b:Chg S' H1 Hf1 H2 Hf2)(h:∀x∈S',x∈S\/H x=Oa):Chg S H Hf H2 Hf2 where
 big c o hc e:=b.big c o (λz=>(h c z).elim hc λn=>by rw[n]at e;cases e)<|a.big c o hc e
 kp c h:=b.kp c<|a.kp c h
 sub:=b.sub
 ext:=a.ext.trans b.ext
 new c h:=(b.new c h).elim (a.new c) λn=>.inr<|aX λz=>a.kp c z n
def Chg.grow(a:Chg [] H Hf H' Hf'):Grow H Hf H' Hf':=⟨λb o e=>a.big b o (by simp) e,a.sub,a.ext,a.new⟩
def Chg.wr(ss:B8 Hf H)(hx:x∈S)(hf:Hf x=Oa):Chg S H Hf (upd H x o) Hf where
 big b u hb e:=by rw[B2 (λz=>hb (by rw[z];exact hx))];exact e
 kp b h:=by
  by_cases q:b=x
  .subst q;rw[B3];exact λz=>by cases z
  .rw[B2 q];exact h
 sub b u e:=by rw[B2 (C2 e hf)];exact ss b u e
 ext:=B8.refl _
 new b h:=.inl h
structure Cel where
 dx:eR
 fs:List (Str×V)
abbrev cells(a:eR)(_:Cel):List eR:=[a]
def Fds(K:aa)(Hf:Hp):Fo->List (Str×V)->Prop
 | [],l=>l=[]
 | (x,d)::r,l=>∃v t,l=(x,v)::t/\Rep K Hf d v/\Fds K Hf r t
theorem Fds.mono(e:B8 Hf Hf'):∀{o:Fo}{l:List (Str×V)},Fds K Hf o l->Fds K Hf' o l
 | [],_,h=>h
 | (x,d)::r,_,⟨v,t,h1,h2,h3⟩=>⟨v,t,h1,Rep.mono e h2,Fds.mono e h3⟩
theorem Fds.len:∀{o:Fo}{l:List (Str×V)},Fds K Hf o l->l.length=o.length
 | [],_,h=>by cases h;rfl
 | (x,d)::r,_,⟨v,t,h1,h2,h3⟩=>by subst h1;simp[Fds.len h3]
theorem Fds.look{f:Str}:∀{o:Fo}{l:List (Str×V)},Fds K Hf o l->(o.lookup f=Oa/\l.lookup f=Oa)\/∃d v,o.lookup f=Ob d/\l.lookup f=Ob v/\Rep K Hf d v
 | [],_,h=>by cases h;exact .inl ⟨rfl,rfl⟩
 | (x,d)::r,_,⟨v,t,h1,h2,h3⟩=>by
  subst h1;rw[aH,aH];cases f==x with
  | true=>exact .inr ⟨d,v,rfl,rfl,h2⟩
  | false=>exact h3.look
def bl5(f:Str)(d:D):Fo->Fo
 | []=>[(f,d)]
 | (g,x)::r=>if g=f then(g,d)::r else(g,x)::bl5 f d r
theorem Fds.put{f:Str}{d:D}{v:V}(r:Rep K Hf d v):∀{o:Fo}{l:List (Str×V)},Fds K Hf o l->Fds K Hf (bl5 f d o) (v6 f v l)
 | [],_,h=>by cases h;exact⟨v,[],rfl,r,rfl⟩
 | (x,d')::o,_,⟨v',t,h1,h2,h3⟩=>by
  subst h1;unfold bl5 v6;split
  .exact⟨v,t,rfl,r,h3⟩
  .exact⟨v',_,rfl,h2,h3.put r⟩
structure FoAt (K:aa) (C:eR) (H Hf:Hp) (a:eR) (c:Cel) (o:Fo):Prop where
 ins:H a=Ob (.ins C c.dx c.fs)
 fl:Fds K Hf o c.fs
 fr:∀x∈cells a c,Hf x=Oa
def FoAt.there(h:FoAt K C H Hf a c o):∀x∈cells a c,H x≠Oa:=λx hx=>by rw[bh.mp hx];exact aF3 h.ins
def FoAt.chg(h:FoAt K C H Hf a c o)(g:Chg S H Hf H' Hf')(hs:∀x∈cells a c,x∉S):FoAt K C H' Hf' a c o :=
 ⟨g.big _ _ (hs _<|by simp) h.ins,h.fl.mono g.ext,λx hx=>aX λz=>(g.new x z).elim (λq=>q<|h.fr x hx)<|h.there x hx⟩
theorem FoAt.put(h:FoAt K C H Hf a c o)(r:Rep K Hf d v):FoAt K C (upd H a<|.ins C c.dx (v6 f v c.fs)) Hf a ⟨c.dx,v6 f v c.fs⟩ (bl5 f d o):=⟨B3,h.fl.put r,h.fr⟩
def FoAt.grow(h:FoAt K C H Hf a c o)(g:Grow H Hf H' Hf'):FoAt K C H' Hf' a c o:=h.chg (S:=[]) (Chg.of g) λ_ _=>by simp
inductive Objs (K:aa) (C:eR) (H Hf:Hp):List (eR×Fo)->List eR->Prop
 | nil:Objs K C H Hf [] []
 | cons {a:eR}{c:Cel}{o:Fo}{os:List (eR×Fo)}{R:List eR}:FoAt K C H Hf a c o->(∀x∈cells a c,x∉R)->Objs K C H Hf os R->Objs K C H Hf ((a,o)::os) (cells a c++R)
theorem Objs.there(h:Objs K C H Hf os R):∀x∈R,H x≠Oa:=by
 induction h with
 | nil=>exact λ_ h=>nomatch h
 | cons f d t ih =>
  intro x hx;rcases aD.mp hx with hx|hx
  .exact f.there x hx
  .exact ih x hx
theorem Objs.chg(h:Objs K C H Hf os R)(g:Chg S H Hf H' Hf')(hs:∀x∈R,x∉S):Objs K C H' Hf' os R:=by
 induction h with
 | nil=>exact .nil
 | cons f d t ih=>exact .cons (f.chg g λx hx=>hs x (am _ hx)) d<|ih λx hx=>hs x<|ak _ hx
def Objs.focus(h:Objs K C H Hf os R):∀{j:Nat}{a:eR}{o:Fo},os[j]? = Ob (a,o)->∃c,FoAt K C H Hf a c o/\(∀x∈cells a c,x∈R) /\
  ∀{H' Hf':Hp}{c':Cel}{o':Fo},Chg (cells a c) H Hf H' Hf'->FoAt K C H' Hf' a c' o'->(∀x∈cells a c',x∈cells a c\/H x=Oa)->∃R',Objs K C H' Hf' (os.set j (a,o')) R'/\∀x∈R',x∈R\/H x=Oa:=by
 induction h with
 | nil=>intro j a o e;simp at e
 | @cons a0 c0 o0 os0 R0 f d t ih =>
  intro j a o e;cases j with
  | zero =>
   simp at e;obtain⟨rfl,rfl⟩:=e;refine⟨c0,f,λx hx=>am _ hx,λ{H' Hf' c' o'} g f' n=>⟨cells a0 c'++R0,.cons f' (λx hx hr=>?_)<|t.chg g λx hx z=>d x z hx,λx hx=>?_⟩⟩
   .rcases n x hx with z|z
    .exact d x z hr
    .exact t.there x hr z
   .rcases aD.mp hx with hx|hx
    .exact(n x hx).imp (am _) id
    .exact .inl (ak _ hx)
  | succ j =>
   obtain⟨c,f1,f2,f3⟩:=ih (j:=j) (a:=a) (o:=o) (by simpa using e);refine⟨c,f1,λx hx=>ak _<|f2 x hx,λ{H' Hf' c' o'} g f' n=>?_⟩;obtain⟨R',r1,r2⟩:=f3 g f' n;have dis:∀x∈cells a0 c0,x∉cells a c:=λx hx z=>d x hx<|f2 x z
   refine⟨cells a0 c0++R',.cons (f.chg g dis) (λx hx hr=>?_) r1,λx hx=>?_⟩
   .rcases r2 x hr with z|z
    .exact d x hx z
    .exact f.there x hx z
   .rcases aD.mp hx with hx|hx
    .exact .inl (am _ hx)
    .exact(r2 x hx).imp (ak _) id
def Objs.snoc(h:Objs K C H Hf os R)(f:FoAt K C H Hf a c o)(d:∀x∈cells a c,x∉R):∃R',Objs K C H Hf (os++[(a,o)]) R'/\∀x∈R',x∈R\/x∈cells a c:=by
 induction h with
 | nil=>exact⟨cells a c++[],.cons f (by simp) .nil,λx hx=>.inr<|by simpa using hx⟩
 | @cons a0 c0 o0 os0 R0 f0 d0 t ih =>
  obtain⟨R',r1,r2⟩:=ih λx hx=>λz=>d x hx<|ak _ z
  refine⟨cells a0 c0++R',.cons f0 (λx hx hr=>?_) r1,λx hx=>?_⟩
  .rcases r2 x hr with z|z
   .exact d0 x hx z
   .exact d x z (am _ hx)
  .rcases aD.mp hx with hx|hx
   .exact .inl (am _ hx)
   .exact(r2 x hx).imp (ak _) id
end
structure Bs where
 S:List eR
 H:Hp
 Hf:Hp
def hid(b:Bs)(R:List eR):Hp:=λx=>if x∈R then Ob (.lst []) else b.H x
structure OSt (K:aa) (C:eR) (b:Bs) (ρ:Rho) (os:List (eR×Fo)) (σ:L2.St) (H Hf:Hp):Prop where
 gr:Chg b.S b.H b.Hf H Hf
 ob:∃R,Objs K C H Hf os R/\(∀x∈R,x∈b.S\/b.H x=Oa)/\Slots K (hid b R) ρ σ H Hf
section
variable {K:PySem.W.Frag}{C:Addr}{b:Bs}{ρ:Rho}{os:List (Addr×Fo)}{σ:L2.St}{H Hf H' Hf':Hp}
def aq6(_:Rho):Bool:=true
def ak9(h:hid b R x=Oa):x∉R/\b.H x=Oa:=by
 unfold hid at h;split at h
 .cases h
 .rename_i n;exact⟨n,h⟩
def aX5(h1:x∉R)(h2:b.H x=Oa):hid b R x=Oa:=by unfold hid;rw[if_neg h1];exact h2
def Slots.chg{H0 H0':Hp}{S:List eR}(s:Slots K H0 ρ σ H Hf)(g:Chg S H Hf H' Hf')(hS:∀x∈S,H0 x=Oa->H x=Oa)(hH:∀x,H0 x=Oa->H x≠Oa->H0' x=Oa):Slots K H0' ρ σ H' Hf':=by
 refine⟨s.len,λi b e=>?_,s.apart⟩;obtain⟨v,h1,h2⟩:=s.is i b e;refine⟨v,h1,?_⟩;cases b with
 | val d=>exact Rep.mono g.ext h2
 | exc C =>
  obtain⟨a,o,C,e,h1,h2⟩:=h2;exact⟨a,o,C,e,g.ext _ _ h1,h2⟩
 | opq _=>exact h2
 | own ds =>
  obtain⟨a,us,e,e1,e2,e3,e4⟩:=h2;have nS:a∉S:=λz=>by rw[hS a z e3]at e1;cases e1
  have nf:Hf' a=Oa:=aX λz=>(g.new a z).elim (λq=>q e2) λq=>by rw[q]at e1;cases e1
  exact⟨a,us,e,g.big a _ nS e1,nf,hH a e3<|aF3 e1,e4.mono g.ext⟩
def OSt.R(s:OSt K C b ρ os σ H Hf):List eR:=s.ob.choose
def OSt.obs(s:OSt K C b ρ os σ H Hf):Objs K C H Hf os s.R/\∀x∈s.R,x∈b.S\/b.H x=Oa:=⟨s.ob.choose_spec.1,s.ob.choose_spec.2.1⟩
def OSt.sl(s:OSt K C b ρ os σ H Hf):Slots K (hid b s.R) ρ σ H Hf:=s.ob.choose_spec.2.2
def OSt.slots{ρ':Rho}{σ':L2.St}(s:OSt K C b ρ os σ H Hf)(sl:Slots K (hid b s.R) ρ' σ' H Hf):OSt K C b ρ' os σ' H Hf:=⟨s.gr,s.R,s.obs.1,s.obs.2,sl⟩
def OSt.same(s:OSt K C b ρ os σ H Hf):B8 Hf H:=s.gr.sub
theorem OSt.grow(s:OSt K C b ρ os σ H Hf)(g:Grow H Hf H' Hf'):OSt K C b ρ os σ H' Hf':=by
 obtain⟨R,r1,r2,r3⟩:=s.ob;exact⟨s.gr.trans (S':=[]) (Chg.of g) (by simp),R,r1.chg (S:=[]) (Chg.of g) (by simp),r2,r3.grow g⟩
theorem OSt.focus(s:OSt K C b ρ os σ H Hf)(n:aq6 ρ=true)(e:os[j]? = Ob (a,o)):∃c,FoAt K C H Hf a c o /\
  ∀{H' Hf':Hp}{c':Cel}{o':Fo},Chg (cells a c) H Hf H' Hf'->FoAt K C H' Hf' a c' o'->(∀x∈cells a c',x∈cells a c\/H x=Oa)->OSt K C b ρ (os.set j (a,o')) σ H' Hf':=by
 obtain⟨R,r1,r2,r3⟩:=s.ob;obtain⟨c,f1,f2,f3⟩:=r1.focus e;have old:∀x,x∈R\/H x=Oa->x∈b.S\/b.H x=Oa:=λx h=>h.elim (r2 x) λz=>.inr<|aX λq=>s.gr.kp x q z
 refine⟨c,f1,λ{H' Hf' c' o'} g f' nn=>?_⟩;obtain⟨R',q1,q2⟩:=f3 g f' nn;refine⟨s.gr.trans g λx hx=>r2 x<|f2 x hx,R',q1,λx hx=>old x<|q2 x hx,r3.chg g (λx hx h=>((ak9 h).1<|f2 x hx).elim) λx h hx=>?_⟩;obtain⟨h1,h2⟩:=ak9 h;exact aX5 (λz=>(q2 x z).elim h1 hx) h2
end
abbrev Os:=List<|eR×Fo
def OE(X:Cx)(C:eR)(b:Bs)(ρ:Rho)(q:Os)(e:Expr)(d:D)(q':Os):Prop:=PE X e (λσ H Q=>∃Hf,OSt X.K C b ρ q σ H Hf/\∀v H' Hf',OSt X.K C b ρ q' σ H' Hf'->B8 Hf Hf'->Rep X.K Hf' d v->Q v H')
def OT(X:Cx)(C:eR)(b:Bs)(ρ:Rho)(q:Os)(e:Expr)(c:Bool)(q':Os):Prop:=PT X e (λσ H Q=>∃Hf,OSt X.K C b ρ q σ H Hf/\∀H' Hf',OSt X.K C b ρ q' σ H' Hf'->B8 Hf Hf'->Q c H')
inductive OF where
 | nx (ρ:Rho) (q:Os)
 | rt (d:D) (q:Os)
def OF.ends(X:Cx)(C:eR)(b:Bs)(Hf:Hp)(En:Ends):OF->Prop
 | .nx ρ q=>∀σ' H' Hf',OSt X.K C b ρ q σ' H' Hf'->B8 Hf Hf'->En.nx σ' H'
 | .rt d q=>∀ρ' σ' v H' Hf',OSt X.K C b ρ' q σ' H' Hf'->Rep X.K Hf' d v->En.rt v H'
def OS(X:Cx)(C:eR)(b:Bs)(ρ:Rho)(q:Os)(st:Stmt)(fl:OF):Prop:=PS X st (λEn σ H=>∃Hf,OSt X.K C b ρ q σ H Hf/\fl.ends X C b Hf En)
section
variable {X:Cx}{C:Addr}{b:Bs}{ρ ρ':Rho}{q q' q1 q2:Os}{st:Stmt}{sts:List Stmt}
def bf6(h:JE X e f)(w:f ρ=Ob d):OE X C b ρ q e d q :=
 B4 (h ρ d w) λσ H Q ⟨Hf,st,k⟩=>⟨_,Hf,st.same,st.sl,λv H' Hf' g r=>k v H' Hf' (st.grow g) g.ext r⟩
def cn2(o:OpD X (dM op) h)(ha:OE X C b ρ q ea x q1)(hb:OE X C b ρ q1 eb y q2)(w:h x y=Ob (.bool c))(hm:behindInMarks op eb=false:=by first|exact aH4 _|rfl):OT X C b ρ q (.Compare ea [op] [eb] pos) c q2:=by refine ac5 (be4 (o x y _ w) ha hb hm) λσ H Q ⟨Hf,st,k⟩=>⟨Hf,st,λv H1 Hf1 s1 e1 r1=>⟨Hf1,s1,λu H2 Hf2 s2 e2 r2=>⟨Hf2,s2.same,r1.mono e2,r2,λz H3 Hf3 g r3=>⟨c,r3,k H3 Hf3 (s2.grow g)<|(e1.trans e2).trans g.ext⟩⟩⟩⟩
def co0(o:OpD X (dM op) h)(ha:OE X C b ρ q ea x q1)(hb:OE X C b ρ q1 eb y q2)(w:h x y=Ob z)(hm:behindInMarks op eb=false:=by first|exact aH4 _|rfl):OE X C b ρ q (.Compare ea [op] [eb] pos) z q2:=by refine B4 (bf0 (o x y _ w) ha hb hm) λσ H Q ⟨Hf,st,k⟩=>⟨Hf,st,λv H1 Hf1 s1 e1 r1=>⟨Hf1,s1,λu H2 Hf2 s2 e2 r2=>⟨Hf2,s2.same,r1.mono e2,r2,λz H3 Hf3 g r3=>k z H3 Hf3 (s2.grow g) ((e1.trans e2).trans g.ext) r3⟩⟩⟩
def cn1(ha:OE X C b ρ q e (.bool c) q1)(he:∀whole,isTrue e X.env whole=(do let v ← whole;standAt e.pos;holding [v] (truthy v)):=by intro _;rfl):OT X C b ρ q e c q1 :=
 ac5 (aL9 ha he) λσ H Q ⟨Hf,st,k⟩=>⟨Hf,st,λv H1 Hf1 s1 e1 r1=>⟨c,by cases r1;rfl,k H1 Hf1 s1 e1⟩⟩
theorem OSt.set(s:OSt X.K C b ρ q σ H Hf)(r:Rep X.K Hf d v):OSt X.K C b (ρ.set i<|‹d›) q (σ.set i<|Ob v) H Hf:=s.slots<|s.sl.set r
def cn3(i:Nat)(hN:X.N.Nodup)(h:OE X C b ρ q e d q')(hi:X.N[i]? = Ob x)(hx:Loc X.env.scope x)(hs:swapsWith e (Ob<|.Name x pos') pos.line X.env=pure false)(hf:X.fn x=true):OS X C b ρ q (.Assign [.Name x pos'] e pos) (.nx (ρ.set i<|‹d›) q') :=
 L9 (an0 hN hi hx h hs<|.inl hf) λEn σ H ⟨Hf,st,k⟩=>⟨Hf,st,λv H' Hf' s' e' r=>k _ H' Hf' (s'.set r) e'⟩
end
abbrev MD:=List<|Option D
def MxV(K:aa)(Hf:Hp)(a:eR):Option D->V->Prop
 | some d,v=>Rep K Hf d v
 | none,v=>v=.ref a
def Mxs(K:aa)(Hf:Hp)(a:eR):MD->List V->Prop
 | [],vs=>vs=[]
 | m::ms,vs=>∃v r,vs=v::r/\MxV K Hf a m v/\Mxs K Hf a ms r
abbrev DF:=Fo->MD->Option (D×Fo)
def spD(K:aa)(C:eR)(n:Nat)(F:DF):Sp:=λvs H Q _=>vs.length=n/\∃a Hf c o ms r o',B8 Hf H/\FoAt K C H Hf a c o/\Mxs K Hf a ms vs/\F o ms=Ob (r,o') /\
 ∀v H' Hf' c',Chg (cells a c) H Hf H' Hf'->FoAt K C H' Hf' a c' o'->(∀x∈cells a c',x∈cells a c\/H x=Oa)->Rep K Hf' r v->Q v H'
theorem aV4{K:aa}{Hf:Hp}{a:eR}:∀{ds:List D}{vs:List V},Reps K Hf ds vs->Mxs K Hf a (ds.map Ob) vs
 | [],_,h=>h
 | d::ds,_,⟨v,r,h1,h2,h3⟩=>⟨v,r,h1,h2,aV4 h3⟩
structure FoC (K:aa) (C:eR) (fn:List Str):Prop where
 cl:Cls K C
 na:∀f∈fn,ai3 K C f
def aQ5(X:Cx)(C:eR)(m:Str)(n:Nat)(F:DF):Prop:=∃k f fd ps,FnOk X.prog X.w X.K X.mg X.base CX0 k f fd ps (spD X.K C (n+1) F)/\Room k X.A/\Meth X.K C m f/\M3 X.K fd ps []
section
variable {X:Cx}{C:Addr}{b:Bs}{ρ ρ':Rho}{q q' q1 q2:Os}{o o':Fo}{K:PySem.W.Frag}{σ:L2.St}{H Hf:Hp}{fn:List Str}
structure At1 (X:Cx) (ρ:Rho) (q:Os) (x:Str) (i j:Nat) (a:eR) (o:Fo):Prop where
 n:X.N[i]? = Ob x
 v:Vis X.env.scope x
 d1:(x==("__debug__" : Str))=false
 d2:(x==("__classdict__" : Str))=false
 s:ρ[i]? = Ob (Ob<|.opq a)
 o:q[j]? = Ob (a,o)
 w:aq6 ρ=true
def at4{i:Nat}{a:eR}(s:OSt K C b ρ q σ H Hf)(e:ρ[i]? = Ob (Ob<|B.opq a)):σ[i]? = Ob (Ob<|V.ref a):=by
 obtain⟨v,h1,h2⟩:=s.sl.is i _ e;cases h2;exact h1
def bA9{c:Cel}{m:Str}(f:FoAt K C H Hf a c o)(h:o.lookup m=Oa):c.fs.lookup m=Oa:=by
 rcases f.fl.look (f:=m) with⟨_,z⟩|⟨d,v,z,_⟩
 .exact z
 .rw[h]at z;cases z
def aC5{ds:List D}{d:D}{F:DF}{E:XK}{Q:VK}(st:OSt X.K C b ρ q σ H Hf)(A:At1 X ρ q x i j a o)(nf:o.lookup m=Oa)(r:F o (Oa::ds.map Ob)=Ob (d,o'))(hn:ds.length=n)
  (k:∀v H' Hf',OSt X.K C b ρ (q.set j (a,o')) σ H' Hf'->B8 Hf Hf'->Rep X.K Hf' d v->Q v H') :
  ∃v,σ[i]? = Ob (Ob v)/\∃a dx fs,v=.ref a/\H a=Ob (.ins C dx fs)/\fs.lookup m=Oa/\∀vs H1 Hf1,Grow H Hf H1 Hf1->Reps X.K Hf1 ds vs->spD X.K C (n+1) F (v::(vs++[])) H1 Q E:=by
 obtain⟨c,f1,f3⟩:=st.focus A.w A.o;refine⟨_,at4 st A.s,a,c.dx,c.fs,rfl,f1.ins,bA9 f1 nf,λvs H1 Hf1 g1 r1=>⟨by rw[aA,aJ,r1.length,hn],a,Hf1,c,o,Oa::ds.map Ob,d,o',g1.sub,f1.grow g1,⟨_,_,rfl,rfl,by rw[aA];exact aV4 r1⟩,r,λv H2 Hf2 c' g2 f2 n2 rv=>k v H2 Hf2 (f3 ((Chg.of g1).trans g2 λ_ h=>.inl h) f2 λy hy=>(n2 y hy).imp id λz=>aX λw=>(Chg.of (S:=[]) g1).kp y w z) (g1.ext.trans g2.ext) rv⟩⟩
def aH7{x m:Str}{p apos pos:Pos}{es:List Expr}(hl:(apos.endLine==pos.line)=true)(hf:methodCallForm (es.length+([]:List dU).length) (backTo pos<|dI es X.env) (backToKw pos<|keywordEach [] X.env)=true):
  eval (.Call (.Attribute (.Name x p) m apos) es [] pos) X.env=(do
   let ov ← eval (.Name x p) X.env
   standAt apos.atName
   let(f,first) ← holding [ov] (getMethod ov m (do return (← importBound (.Name x p) X.env).getD true))
   callWith pos f first (backTo pos (dI es X.env)) (backToKw pos (keywordEach [] X.env))):=by
 show(do let ov ← eval (.Name x p) X.env;standAt apos.atName;methodCall (.Name x p) m apos pos X.env ov (es.length+([]:List dU).length) (backTo pos<|dI es X.env) (backToKw pos<|keywordEach [] X.env))=_;unfold methodCall;rw[hf];unfold methodCallPos calleeOf;rw[hl];rfl
def bA2{ρa:Rho}{x m:Str}{e:Expr}{es:List Expr}{p apos pos:Pos}{ds:List D}{d:D}{F:DF}{f:Rho->Option (List D)}(M:aQ5 X C m n F)(c:FoC X.K C fn)(A:At1 X ρ q x i j a o)(nf:o.lookup m=Oa)(ha:JA X (e::es) f)(w:f ρa=Ob ds)(sb:∀{H0 H Hf:Hp}{σ:L2.St},Slots X.K H0 ρ σ H Hf->Slots X.K H0 ρa σ H Hf)(r:F o (Oa::ds.map Ob)=Ob (d,o'))(hn:(e::es).length=n:=by rfl)
  (hst:dI (e::es) X.env=(false,eval e X.env)::dI es X.env:=by rfl) (hpl:(backTo pos<|dI es X.env).any (·.1)=false:=by rfl)
  (hl:(apos.endLine==pos.line)=true:=by first|assumption|rfl) (hfm:methodCallForm ((e::es).length+([]:List dU).length) (backTo pos<|dI (e::es) X.env) (backToKw pos<|keywordEach [] X.env)=true:=by rfl) :
  OE X C b ρ q (.Call (.Attribute (.Name x p) m apos) (e::es) [] pos) d (q.set j (a,o')):=by
 obtain⟨k,fa,fd,ps,Fk,hr,hm,hb⟩:=M;refine B4 (bT5 (V4 A.n A.v A.d1 A.d2) c.cl hm Fk hr hb .nil aw2 (λpos pins s σ H Q I t=>ha.run ρa ds w pos pins s σ H Q I t) hst hpl<|aH7 hl hfm) λσ H Q ⟨Hf,st,kk⟩=>?_
 obtain⟨v,h1,a',dx,fs,h2,h3,h4,h5⟩:=aC5 (n:=n) (E:=E0) st A nf r (by rw[ha.len ρa ds w,hn]) kk;exact⟨v,h1,a',dx,fs,h2,h3,h4,_,Hf,st.same,sb st.sl,λvs H1 Hf1 g1 r1=>h5 vs H1 Hf1 g1 r1⟩
def bA3{x m:Str}{p apos pos:Pos}{d:D}{F:DF}(M:aQ5 X C m 0 F)(c:FoC X.K C fn)(A:At1 X ρ q x i j a o)(nf:o.lookup m=Oa)(r:F o [Oa]=Ob (d,o'))
  (hl:(apos.endLine==pos.line)=true:=by first|assumption|rfl) :
  OE X C b ρ q (.Call (.Attribute (.Name x p) m apos) [] [] pos) d (q.set j (a,o')):=by
 obtain⟨k,fa,fd,ps,Fk,hr,hm,hb⟩:=M;refine B4 (bz2 (V4 A.n A.v A.d1 A.d2) c.cl hm Fk hr hb .nil aw2<|aH7 hl rfl) λσ H Q ⟨Hf,st,kk⟩=>?_
 obtain⟨v,h1,a',dx,fs,h2,h3,h4,h5⟩:=aC5 (n:=0) (ds:=[]) (E:=E0) st A nf r rfl kk;exact⟨v,h1,a',dx,fs,h2,h3,h4,h5 [] H Hf (Grow.refl st.same) rfl⟩
def bA4(A:At1 X ρ q x i j a o)(c:FoC X.K C fn)(hf:f∈fn)(l:o.lookup f=Ob d)(hb:dZ (.Name x p) f X.env (eval (.Name x p) X.env)=eval (.Name x p) X.env):OE X C b ρ q (.Attribute (.Name x p) f pos) d q :=
 B4 (cm8 (V4 A.n A.v A.d1 A.d2) hb) λσ H Q ⟨Hf,st,k⟩=>by
  obtain⟨cl,f1,_⟩:=st.focus A.w A.o;rcases f1.fl.look (f:=f) with⟨z,_⟩|⟨d',v,z1,z2,z3⟩
  .rw[l]at z;cases z
  .rw[l]at z1;cases z1;exact⟨_,at4 st A.s,a,C,cl.dx,cl.fs,v,rfl,f1.ins,c.cl,c.na f hf,z2,k v H Hf st (B8.refl _) z3⟩
def cn4(A:At1 X ρ q x i j a o)(c:FoC X.K C fn)(hf:f∈fn)(h:OE X C b ρ q e d q')(e2:q'[j]? = Ob (a,o'))(hz:o'.length < 1000)(hs:swapsWith e (Ob<|.Attribute (.Name x p) f pos') pos.line X.env=pure false):
  OS X C b ρ q (.Assign [.Attribute (.Name x p) f pos'] e pos) (.nx ρ<|q'.set j (a,bl5 f d o')) :=
 L9 (cl7 (V4 A.n A.v A.d1 A.d2) h hs) λEn σ H ⟨Hf,st,k⟩=>⟨Hf,st,λv H1 Hf1 s1 e1 r=>by
  obtain⟨cl,f1,f3⟩:=s1.focus A.w e2
  exact⟨_,at4 s1 A.s,a,C,cl.dx,cl.fs,rfl,f1.ins,c.cl,c.na f hf,by rw[f1.fl.len];exact hz,k σ _ Hf1 (f3 (Chg.wr s1.same (by simp) (f1.fr _ (by simp))) (f1.put r) λz hz=>.inl hz) e1⟩⟩
end
def cC7(as:List eR):Option B->Option B
 | some (.opq j)=>Ob<|.opq (as.getD j 0)
 | b=>b
abbrev sub(as:List eR)(ρ:Rho):Rho:=ρ.map<|cC7 as
def bI8:Option B->Option B
 | some (.opq _)=>Oa
 | b=>b
abbrev era(ρ:Rho):Rho:=ρ.map bI8
def r8(as:List eR)(ρ:Rho):era (sub as ρ)=era ρ:=by
 unfold era sub;rw[bE];refine bV λb _=>?_
 cases b with
 | none=>rfl
 | some b=>cases b<;>rfl
def bm3(as:List eR)(ρ:Rho):aq6 (sub as ρ)=aq6 ρ:=rfl
def okR(n:Nat)(ρ:Rho):Bool:=ρ.all λx=>match x with
 | some (.opq j)=>decide (j < n)
 | _=>true
def ah2(h:okR n ρ=true):aq6 ρ=true:=rfl
def bA1(h:okR n ρ=true)(l:n<=m):okR m ρ=true:=by
 unfold okR at h ⊢;rw[aQ]at h ⊢;intro x hx;have:=h x hx;split
 .exact decide_eq_true (aE (of_decide_eq_true this) l)
 .rfl
def at7{ρ:Rho}{i n:Nat}{x:Option B}(h:okR n ρ=true)(h2:∀j,x=Ob (.opq j)->j < n):okR n (ρ.set i x)=true:=by
 unfold okR at h ⊢;rw[aQ]at h ⊢;intro y hy;rcases List.mem_or_eq_of_mem_set hy with q|rfl
 .exact h y q
 .split
  .exact decide_eq_true (h2 _ rfl)
  .rfl
def bf5{ρ:Rho}{i n:Nat}{d:D}(h:okR n ρ=true):okR n (ρ.set i<|‹d›)=true:=at7 h (by intro _ z;cases z)
def bv0(h:okR as.length ρ=true)(ex:List eR):sub (as++ex) ρ=sub as ρ:=by
 unfold sub;refine bV λx hx=>?_
 have:=aQ.mp h x hx;cases x with
 | none=>rfl
 | some x =>
  cases x with
  | opq j =>
   have hj:j < as.length:=of_decide_eq_true this;show Ob (B.opq _)=Ob (B.opq _);rw[aN,aN,aM hj]
  | _=>rfl
def bc8(as:List eR)(ρ:Rho)(i:Nat)(d:D):sub as (ρ.set i<|‹d›)=(sub as ρ).set i (‹d›):=by unfold sub;rw[dk];rfl
section
variable {K:PySem.W.Frag}{C:Addr}{b:Bs}{ρ:Rho}{q:Os}{σ:L2.St}{H Hf H0:Hp}
theorem Slots.era(s:Slots K H0 ρ σ H Hf):Slots K H0 (era ρ) σ H Hf:=by
 have at_:∀(i:Nat) (b:B),(G.era ρ)[i]? = Ob (Ob b)->ρ[i]? = Ob (Ob b):=λi b e=>by
  unfold G.era at e;rw[av]at e;obtain⟨x,e1,e2⟩:=xmo e;rw[e1];cases x with
  | none=>cases e2
  | some x=>cases x<;>first|exact congrArg Ob e2|cases e2
 exact⟨by rw[ay];exact s.len,λi b e=>s.is i b<|at_ i b e,λi j d1 d2 a h1 h2=>s.apart i j d1 d2 a (at_ i _ h1)<|at_ j _ h2⟩
end
abbrev Fs:=List Fo
abbrev UD:=Rho->Fs->Option (D×Fs)
abbrev UB:=Rho->Fs->Option (Bool×Fs)
inductive UF where
 | nx (ρ:Rho) (q:Fs)
 | rt (d:D) (q:Fs)
 | ro (j:Nat) (q:Fs)
def UF.own:UF->Bool
 | .nx ρ q=>okR q.length ρ
 | _=>true
def UF.ends(X:Cx)(C:eR)(b:Bs)(as:List eR)(Hf:Hp)(En:Ends):UF->Prop
 | .nx ρ q=>∀ex σ H' Hf',(as++ex).length=q.length->OSt X.K C b (sub (as++ex) ρ) ((as++ex).zip q) σ H' Hf'->B8 Hf Hf'->En.nx σ H'
 | .rt d q=>∀ex ρ σ v H' Hf',(as++ex).length=q.length->OSt X.K C b ρ ((as++ex).zip q) σ H' Hf'->Rep X.K Hf' d v->En.rt v H'
 | .ro j q=>∀ex ρ σ a H' Hf',(as++ex).length=q.length->OSt X.K C b ρ ((as++ex).zip q) σ H' Hf'->(as++ex)[j]? = Ob a->En.rt (.ref a) H'
def UF.mono{X:Cx}{fl:UF}(h:fl.ends X C b as Hf En)(e:B8 Hf Hf'):fl.ends X C b as Hf' En:=by
 cases fl with
 | nx ρ q=>exact λex σ H' Hf'' l o s=>h ex σ H' Hf'' l o<|e.trans s
 | rt d q=>exact h
 | ro j q=>exact h
def UF.more{X:Cx}{fl:UF}(h:fl.ends X C b as Hf En)(ex:List eR):fl.ends X C b (as++ex) Hf En:=by
 cases fl with
 | nx ρ q=>exact λex2 σ H' Hf' l o s=>h (ex++ex2) σ H' Hf' (by rw[← aF];exact l) (by rw[← aF];exact o) s
 | rt d q=>exact λex2 ρ σ v H' Hf' l o=>h (ex++ex2) ρ σ v H' Hf' (by rw[← aF];exact l) (by rw[← aF];exact o)
 | ro j q=>exact λex2 ρ σ a H' Hf' l o z=>h (ex++ex2) ρ σ a H' Hf' (by rw[← aF];exact l) (by rw[← aF];exact o) (by rw[← aF];exact z)
def UE(X:Cx)(C:eR)(e:Expr)(g:UD):Prop:=∀ρ q d q',g ρ q=Ob (d,q')->okR q.length ρ=true->q'.length=q.length/\∀b (as:List eR),as.length=q.length->OE X C b (sub as ρ) (as.zip q) e d (as.zip q')
def UT(X:Cx)(C:eR)(e:Expr)(g:UB):Prop:=∀ρ q c q',g ρ q=Ob (c,q')->okR q.length ρ=true->q'.length=q.length/\∀b (as:List eR),as.length=q.length->OT X C b (sub as ρ) (as.zip q) e c (as.zip q')
def tU(X:Cx)(C:eR)(b:Bs)(as:List eR)(ρ:Rho)(q:Fs)(fl:UF):TS:=λEn σ H=>∃Hf,OSt X.K C b (sub as ρ) (as.zip q) σ H Hf/\fl.ends X C b as Hf En
abbrev UX:=Rho->Fs->Option UF
def US(X:Cx)(C:eR)(st:Stmt)(g:UX):Prop:=∀ρ q fl,g ρ q=Ob fl->okR q.length ρ=true->fl.own=true/\∀b (as:List eR),as.length=q.length->PS X st (tU X C b as ρ q fl)
def USs(X:Cx)(C:eR)(sts:List Stmt)(g:UX):Prop:=∀ρ q fl,g ρ q=Ob fl->okR q.length ρ=true->fl.own=true/\∀b (as:List eR),as.length=q.length->PSs X sts (tU X C b as ρ q fl)
section
variable {X:Cx}{C:Addr}{st:Stmt}{sts:List Stmt}
def uP(f:DE):UD:=λρ q=>(f<|era ρ).map λd=>(d,q)
def aF1(h:JE X e f):UE X C e (uP f):=λρ q d q' w _=>by
 obtain⟨d',e1,e2⟩:=xmo w;cases e2;exact⟨rfl,λb as _=>B4 (h (era ρ) d e1) λσ H Q ⟨Hf,st,k⟩=>⟨_,Hf,st.same,by rw[← r8 as ρ];exact st.sl.era,λv H' Hf' g r=>k v H' Hf' (st.grow g) g.ext r⟩⟩
def uTP(f:Rho->Option Bool):UB:=λρ q=>(f<|era ρ).map λd=>(d,q)
def bc0(h:JT X e f):UT X C e (uTP f):=λρ q d q' w _=>by
 obtain⟨d',e1,e2⟩:=xmo w;cases e2;exact⟨rfl,λb as _=>ac5 (h (era ρ) d e1) λσ H Q ⟨Hf,st,k⟩=>⟨_,Hf,st.same,by rw[← r8 as ρ];exact st.sl.era,λH' Hf' g=>k H' Hf' (st.grow g) g.ext⟩⟩
def i8(i:Nat)(ρ:Rho)(q:Fs):Option (Nat×Fo):=match ρ[i]? with
 | some (Ob (.opq j))=>(q[j]?).map λo=>(j,o)
 | _=>Oa
def i7{as:List eR}(h:i8 i ρ q=Ob (j,o))(n:aq6 ρ=true)(l:as.length=q.length)(hn:X.N[i]? = Ob x)(hv:Vis X.env.scope x)(h1:(x==("__debug__" : Str))=false)(h2:(x==("__classdict__" : Str))=false):
  ∃a,as[j]? = Ob a/\At1 X (sub as ρ) (as.zip q) x i j a o:=by
 unfold i8 at h;split at h
 .rename_i j' e;obtain⟨o',e1,e2⟩:=xmo h;cases e2;have hj:j < as.length:=by rw[l];exact(ag.mp e1).1
  refine⟨as[j],ao hj,hn,hv,h1,h2,?_,?_,by rw[bm3];exact n⟩
  .unfold sub;rw[av,e];show Ob (Ob<|B.opq (as.getD j 0))=_;rw[aN,ao hj];rfl
  .rw[bF];exact⟨ao hj,e1⟩
 .cases h
def at2{as:List eR}{q:Fs}{j:Nat}{o:Fo}(h:as[j]? = Ob a):as.zip (q.set j o)=(as.zip q).set j (a,o):=by
 apply cb;intro i;rw[bv];by_cases e:j=i
 .subst e;rw[if_pos rfl];by_cases hl:j < (as.zip q).length
  .rw[if_pos hl];have:j < q.length:=by simp at hl;omega
   rw[bF];exact⟨h,by rw[aC this]⟩
  .rw[if_neg hl];have h1:j < as.length:=(ag.mp h).1;have:¬j < q.length:=λz=>hl (by simp;omega)
   rw[bA];simp;omega
 .rw[if_neg e];have:(q.set j o)[i]? = q[i]?:=aq e;rw[List.zip_eq_zipWith,List.zip_eq_zipWith,List.getElem?_zipWith,List.getElem?_zipWith,this]
def uM(i:Nat)(m:Str)(F:DF)(f:Rho->Option (List D)):UD:=λρ q=>(i8 i ρ q).bind λp=>if(p.2.lookup m).isNone then(f<|era ρ).bind λds=>(F p.2 (Oa::ds.map Ob)).map λr=>(r.1,q.set p.1 r.2) else Oa
def bP8{e:Expr}{es:List Expr}{f:Rho->Option (List D)}(i:Nat)(M:aQ5 X C m n F)(c:FoC X.K C fn)(hn:X.N[i]? = Ob x)(hv:Vis X.env.scope x)(h1:(x==("__debug__" : Str))=false)(h2:(x==("__classdict__" : Str))=false)(ha:JA X (e::es) f)(hl:(apos.endLine==pos.line)=true)(hz:(e::es).length=n)
  (hst:dI (e::es) X.env=(false,eval e X.env)::dI es X.env) (hpl:(backTo pos<|dI es X.env).any (·.1)=false) (hfm:methodCallForm ((e::es).length+([]:List dU).length) (backTo pos<|dI (e::es) X.env) (backToKw pos<|keywordEach [] X.env)=true) :
  UE X C (.Call (.Attribute (.Name x p) m apos) (e::es) [] pos) (uM i m F f):=λρ q d q' w no=>by
 obtain⟨⟨j,o⟩,e1,w⟩:=xbo w;split at w
 .rename_i nf;obtain⟨ds,e2,w⟩:=xbo w;obtain⟨⟨r,o'⟩,e3,e4⟩:=xmo w;cases e4;refine⟨by simp,λb as l=>?_⟩;obtain⟨a,ea,A⟩:=i7 e1 (ah2 no) l hn hv h1 h2;rw[at2 ea];exact bA2 M c A (by simpa using nf) ha e2 (λs=>by rw[← r8 as ρ];exact s.era) e3 hz hst hpl hl hfm
 .cases w
def uM0(i:Nat)(m:Str)(F:DF):UD:=λρ q=>(i8 i ρ q).bind λp=>if(p.2.lookup m).isNone then(F p.2 [Oa]).map λr=>(r.1,q.set p.1 r.2) else Oa
def bt7(i:Nat)(M:aQ5 X C m 0 F)(c:FoC X.K C fn)(hn:X.N[i]? = Ob x)(hv:Vis X.env.scope x)(h1:(x==("__debug__" : Str))=false)(h2:(x==("__classdict__" : Str))=false)(hl:(apos.endLine==pos.line)=true):
  UE X C (.Call (.Attribute (.Name x p) m apos) [] [] pos) (uM0 i m F):=λρ q d q' w no=>by
 obtain⟨⟨j,o⟩,e1,w⟩:=xbo w;split at w
 .rename_i nf;obtain⟨⟨r,o'⟩,e3,e4⟩:=xmo w;cases e4;refine⟨by simp,λb as l=>?_⟩;obtain⟨a,ea,A⟩:=i7 e1 (ah2 no) l hn hv h1 h2;rw[at2 ea];exact bA3 M c A (by simpa using nf) e3 hl
 .cases w
def uB2(h:D->D->Option D)(f g:UD):UD:=λρ q=>(f ρ q).bind λx=>(g ρ x.2).bind λy=>(h x.1 y.1).map λz=>(z,y.2)
def cj1(o:OpD X (dM op) h)(ha:UE X C ea f)(hb:UE X C eb g)(hm:behindInMarks op eb=false):UE X C (.Compare ea [op] [eb] pos) (uB2 h f g):=λρ q d q' w no=>by
 obtain⟨⟨x,q1⟩,w1,w⟩:=xbo w;obtain⟨⟨y,q2⟩,w2,w⟩:=xbo w;obtain⟨z,w3,w4⟩:=xmo w;cases w4;obtain⟨l1,a1⟩:=ha ρ q x q1 w1 no;obtain⟨l2,a2⟩:=hb ρ q1 y q2 w2 (by rw[l1];exact no);exact⟨l2.trans l1,λb as l=>co0 o (a1 b as l) (a2 b as<|l.trans l1.symm) w3 hm⟩
def cJ6:D->Option Bool
 | .bool c=>Ob c
 | _=>Oa
def uTB(f:UD):UB:=λρ q=>(f ρ q).bind λx=>(cJ6 x.1).map λc=>(c,x.2)
def ch6(o:OpD X (dM op) h)(ha:UE X C ea f)(hb:UE X C eb g)(hm:behindInMarks op eb=false):UT X C (.Compare ea [op] [eb] pos) (uTB<|uB2 h f g):=λρ q d q' w no=>by
 obtain⟨⟨z,q2⟩,w0,w⟩:=xbo w;obtain⟨c,w4,w5⟩:=xmo w;cases w5;obtain⟨⟨x,q1⟩,w1,w0⟩:=xbo w0;obtain⟨⟨y,q2⟩,w2,w0⟩:=xbo w0;obtain⟨z,w3,w6⟩:=xmo w0;cases w6;obtain⟨l1,a1⟩:=ha ρ q x q1 w1 no;obtain⟨l2,a2⟩:=hb ρ q1 y q2 w2 (by rw[l1];exact no);have:z=.bool d:=by cases z<;>cases w4;rfl
 subst this;exact⟨l2.trans l1,λb as l=>cn2 o (a1 b as l) (a2 b as<|l.trans l1.symm) w3 hm⟩
def ch4(ha:UE X C e f)(he:∀whole,isTrue e X.env whole=(do let v ← whole;standAt e.pos;holding [v] (truthy v))):UT X C e (uTB f):=λρ q d q' w no=>by
 obtain⟨⟨z,q2⟩,w0,w⟩:=xbo w;obtain⟨c,w4,w5⟩:=xmo w;cases w5;have:z=.bool d:=by cases z<;>cases w4;rfl
 subst this;obtain⟨l1,a1⟩:=ha ρ q _ _ w0 no;exact⟨l1,λb as l=>cn1 (a1 b as l) he⟩
end
section
variable {X:Cx}{C:Addr}{st:Stmt}{sts:List Stmt}
def ap9(f g:UD):UD:=λρ q=>(f ρ q).bind λx=>(cJ6 x.1).bind λc=>if c then g ρ x.2 else Ob (.bool false,x.2)
def aD0{as:List eR}{q':Fs}(h:UF.ends X C b as Hf En (.nx ρ q'))(l:as.length=q'.length):∀σ H' Hf',OSt X.K C b (sub as ρ) (as.zip q') σ H' Hf'->B8 Hf Hf'->En.nx σ H':=λσ H' Hf' s e=>h [] σ H' Hf' (by rw[aA];exact l) (by rw[aA];exact s) e
def uEx(f:UD):UX:=λρ q=>(f ρ q).map λx=>.nx ρ x.2
def bP4(h:UE X C e f)(hs:swapsWith e Oa pos.line X.env=pure false):US X C (.Expr e pos) (uEx f):=λρ q fl w no=>by
 obtain⟨⟨d,q1⟩,w1,w2⟩:=xmo w;cases w2;obtain⟨l1,a1⟩:=h ρ q d q1 w1 no;exact⟨by show okR q1.length ρ=true;rw[l1];exact no,λb as l=>L9 (at6 (a1 b as l) hs) λEn σ H ⟨Hf,st,k⟩=>⟨Hf,st,λv H' Hf' s' e' _=>aD0 k (l.trans l1.symm) σ H' Hf' s' e'⟩⟩
def Y6(i:Nat)(f:UD):UX:=λρ q=>(f ρ q).map λx=>.nx (ρ.set i<|‹x.1›) x.2
def ch8(i:Nat)(hN:X.N.Nodup)(h:UE X C e f)(hi:X.N[i]? = Ob x)(hx:Loc X.env.scope x)(hs:swapsWith e (Ob<|.Name x pos') pos.line X.env=pure false)(hf:X.fn x=true\/X.env.scope.names.lookup x=Ob .local):US X C (.Assign [.Name x pos'] e pos) (Y6 i f):=λρ q fl w no=>by
 obtain⟨⟨d,q1⟩,w1,w2⟩:=xmo w;cases w2;obtain⟨l1,a1⟩:=h ρ q d q1 w1 no;exact⟨bf5 (by rw[l1];exact no),λb as l=>L9 (an0 hN hi hx (a1 b as l) hs hf) λEn σ H ⟨Hf,st,k⟩=>⟨Hf,st,λv H' Hf' s' e' r=>aD0 k (l.trans l1.symm) _ H' Hf' (by rw[bc8];exact s'.set r) e'⟩⟩
def ah0(f:UD):UX:=λρ q=>(f ρ q).map λx=>.rt x.1 x.2
def ch9(h:UE X C e f):US X C (.Return (Ob e) pos) (ah0 f):=λρ q fl w no=>by
 obtain⟨⟨d,q1⟩,w1,w2⟩:=xmo w;cases w2;obtain⟨l1,a1⟩:=h ρ q d q1 w1 no;exact⟨rfl,λb as l=>L9 (bx8<|a1 b as l) λEn σ H ⟨Hf,st,k⟩=>⟨Hf,st,λv H' Hf' s' e' r=>k [] _ σ v H' Hf' (by rw[aA];exact l.trans l1.symm) (by rw[aA];exact s') r⟩⟩
def uIf(t:UB)(f g:UX):UX:=λρ q=>(t ρ q).bind λx=>if x.1 then f ρ x.2 else g ρ x.2
def cA8{s1 s2:List Stmt}(t:UT X C e c)(h1:USs X C s1 f)(h2:USs X C s2 g):US X C (.If e s1 s2 pos) (uIf c f g):=λρ q fl w no=>by
 obtain⟨⟨x,q1⟩,w1,w⟩:=xbo w;obtain⟨l1,a1⟩:=t ρ q x q1 w1 no;cases x with
 | true =>
  obtain⟨o1,b1⟩:=h1 ρ q1 fl w (by rw[l1];exact no);exact⟨o1,λb as l=>L9 (be8 (a1 b as l) (b1 b as<|l.trans l1.symm) T6) λEn σ H ⟨Hf,st,k⟩=>⟨Hf,st,λH' Hf' s' e'=>ao1 ⟨Hf',s',UF.mono (fl:=fl) k e'⟩⟩⟩
 | false =>
  obtain⟨o1,b1⟩:=h2 ρ q1 fl w (by rw[l1];exact no);exact⟨o1,λb as l=>L9 (be8 (a1 b as l) T6<|b1 b as (l.trans l1.symm)) λEn σ H ⟨Hf,st,k⟩=>⟨Hf,st,λH' Hf' s' e'=>ao2 ⟨Hf',s',UF.mono (fl:=fl) k e'⟩⟩⟩
def av1:UX:=λρ q=>Ob<|.nx ρ q
def bO9:USs X C [] av1:=λρ q fl w no=>by
 cases w;exact⟨no,λb as l=>Z8 be6 λEn σ H ⟨Hf,st,k⟩=>aD0 k l σ H Hf st<|B8.refl _⟩
def bO8(h:US X C st g):USs X C [st] g:=λρ q fl w no=>by
 obtain⟨h1,h2⟩:=h ρ q fl w no;exact⟨h1,λb as l=>be5<|h2 b as l⟩
def O7(f g:UX):UX:=λρ q=>(f ρ q).bind λfl=>match fl with
 | .nx ρ' q'=>g ρ' q'
 | r=>Ob r
def cl5{α:Type}{t:α->TS}(h:∀a,PSs X sts<|t a):PSs X sts (λEn σ H=>∃a,t a En σ H):=λpins s σ H D I ⟨a,q⟩=>h a pins s σ H D I q
def bS8{P:Prop}{t:TS}(h:P->PSs X sts t):PSs X sts (λEn σ H=>P/\t En σ H):=λpins s σ H D I ⟨a,q⟩=>h a pins s σ H D I q
def bt2(h1:US X C st f)(h2:USs X C sts g):USs X C (st::sts) (O7 f g):=λρ q fl w no=>by
 obtain⟨fl1,w1,w⟩:=xbo w;obtain⟨o1,a1⟩:=h1 ρ q fl1 w1 no;cases fl1 with
 | nx ρ' q' =>
  obtain⟨o2,a2⟩:=h2 ρ' q' fl w o1;exact⟨o2,λb as l=>Z8 (j7 (a1 b as l)<|cl5 λex=>bS8 λ(l2:(as++ex).length=q'.length)=>a2 b (as++ex) l2) λEn σ H ⟨Hf,s,k⟩=>⟨Hf,s,λex σ' H' Hf' l' s' e'=>⟨ex,l',Hf',s',UF.more (UF.mono (fl:=fl) k e') ex⟩⟩⟩
 | rt d q' =>
  cases w;exact⟨rfl,λb as l=>Z8 (j7 (a1 b as l) T6) λEn σ H ⟨Hf,s,k⟩=>⟨Hf,s,k⟩⟩
 | ro j q' =>
  cases w;exact⟨rfl,λb as l=>Z8 (j7 (a1 b as l) T6) λEn σ H ⟨Hf,s,k⟩=>⟨Hf,s,k⟩⟩
def Cm(g:D->Rho->Option Rho):Prop:=∀as d ρ ρ1,g d ρ=Ob ρ1->g d (sub as ρ)=Ob (sub as ρ1)/\∀n,okR n ρ=true->okR n ρ1=true
def Cms(g:List D->Rho->Option Rho):Prop:=∀as d ρ ρ1,g d ρ=Ob ρ1->g d (sub as ρ)=Ob (sub as ρ1)/\∀n,okR n ρ=true->okR n ρ1=true
def cy2(i:Nat):Cm (C3 i):=λas d ρ ρ1 h=>by
 cases h;exact⟨by rw[bc8];rfl,λn h=>bf5 h⟩
def cb0:Cms S7:=λas d ρ ρ1 h=>by
 cases d with
 | nil=>cases h;exact⟨rfl,λ_ h=>h⟩
 | cons=>cases h
def bK9(h1:Cm f)(h2:Cms g):Cms (C9 f g):=λas d ρ ρ1 h=>by
 cases d with
 | nil=>cases h
 | cons d ds =>
  obtain⟨ρ2,e1,e2⟩:=xbo h;obtain⟨a1,a2⟩:=h1 as d ρ ρ2 e1;obtain⟨b1,b2⟩:=h2 as ds ρ2 ρ1 e2;exact⟨by show(f d<|sub as ρ).bind _=_;rw[a1];exact b1,λn h=>b2 n<|a2 n h⟩
def cy1(h:Cms g):Cm (S1 n g):=λas d ρ ρ1 e=>by
 unfold S1 at e ⊢;split at e
 .split at e
  .rename_i hl;rw[if_pos hl];exact h as _ ρ ρ1 e
  .cases e
 .cases e
def av0(g:D->Rho->Option Rho)(f:UX):List D->UX
 | [],ρ,q=>Ob<|.nx ρ q
 | d::ds,ρ,q=>(g d ρ).bind λρ1=>(f ρ1 q).bind λfl=>match fl with
  | .nx ρ' q'=>av0 g f ds ρ' q'
  | r=>Ob r
def aL0(src:Rho->Option (List D))(g:D->Rho->Option Rho)(f:UX):UX:=λρ q=>(src<|era ρ).bind λds=>av0 g f ds ρ q
theorem aK8{body:List Stmt}(cm:Cm g)(hb:USs X C body f):∀(ds:List D) (ρ:Rho) (q:Fs) (fl:UF),av0 g f ds ρ q=Ob fl->okR q.length ρ=true->fl.own=true
 | [],ρ,q,fl,h,n=>by cases h;exact n
 | d::ds,ρ,q,fl,h,n=>by
  obtain⟨ρ1,e1,h⟩:=xbo h;obtain⟨fl1,e2,h⟩:=xbo h;have n1:=(cm [] d ρ ρ1 e1).2 _ n;have o:=(hb ρ1 q fl1 e2 n1).1;cases fl1 with
  | nx ρ' q'=>exact aK8 cm hb ds ρ' q' fl h o
  | rt d q'=>cases h;rfl
  | ro j q'=>cases h;rfl
def ci2{body:List Stmt}(hi:JI X tg iter src)(hg:JG X tg g)(cm:Cm g)(hb:USs X C body f)(hp:PassesOwn (ez X.prog X.w) X.A X.env X.xe)(hc:X.calm=true)(hs:∀x,dX iter X.env x=pure x):US X C (.For tg iter body [] pos) (aL0 src g f):=λρ q fl w no=>by
 obtain⟨ds,e1,e2⟩:=xbo w;refine⟨aK8 cm hb ds ρ q fl e2 no,λb as l=>?_⟩;have body':PSs X body (λEn σ H=>∃(as':List eR) (ρ':Rho) (q':Fs) (fl':UF),f ρ' q'=Ob fl'/\okR q'.length ρ'=true/\as'.length=q'.length/\tU X C b as' ρ' q' fl' En σ H):=λpins s σ H D I ⟨as',ρ',q',fl',z1,z2,z3,z4⟩=>(hb ρ' q' fl' z1 z2).2 b as' z3 pins s σ H D I z4
 refine L9 (bx9 hp hc (hi (era ρ) ds e1) hg body' hs) λEn σ H ⟨Hf,st,e⟩=>⟨_,Hf,st.same,by rw[← r8 as ρ];exact st.sl.era,λJ H1 Hf1 g1 Y=>?_⟩
 refine⟨λi m σ H=>m=ds.length - i/\i<=ds.length/\∃Hf' ex ρ' q',(as++ex).length=q'.length/\okR q'.length ρ'=true/\OSt X.K C b (sub (as++ex) ρ') ((as++ex).zip q') σ H Hf'/\B8 Hf1 Hf'/\av0 g f (ds.drop i) ρ' q'=Ob fl,
  ⟨ds.length,by simp,aU _,Hf1,[],ρ,q,by rw[aA];exact l,no,by rw[aA];exact st.grow g1,B8.refl _,by simpa using e2⟩,?_⟩
 rintro i m σ' H' ⟨rfl,hi,Hf',ex,ρ',q',l',no',a',s',hm⟩
 obtain⟨Ys,Yg⟩:=Y i H' Hf' s' a'.same;rcases bD i ds.length with hlt|hge
 .right
  obtain⟨go,yl⟩:=Yg ds[i] (by simp[hlt]);rw[bu hlt]at hm;obtain⟨ρ1,c1,hm⟩:=xbo hm;obtain⟨fl1,c2,hm⟩:=xbo hm;obtain⟨c3,c4⟩:=cm (as++ex) _ _ _ c1;have no1:=c4 _ no';have o1:=(hb ρ1 q' fl1 c2 no1).1;refine⟨go,λσ3 H3=>∃m',m' < ds.length - i/\m'=ds.length - (i+1)/\i+1<=ds.length/\∃Hf' ex ρ' q',(as++ex).length=q'.length/\okR q'.length ρ'=true/\OSt X.K C b (sub (as++ex) ρ') ((as++ex).zip q') σ3 H3 Hf'/\B8 Hf1 Hf'/\av0 g f (ds.drop<|i+1) ρ' q'=Ob fl,λσ3 H3 ⟨m',z1,z2⟩=>⟨m',z1,z2⟩,λx H2 hy=>?_⟩;obtain⟨Hf2,g2,r2⟩:=yl x H2 hy;have a2:=a'.grow g2;have s2:=s'.trans g2.ext;refine⟨ds[i],sub (as++ex) ρ',sub (as++ex) ρ1,_,Hf2,c3,g2.sub,a2.sl,r2,λσ3 sl3=>⟨as++ex,ρ1,q',fl1,c2,no1,l',Hf2,a2.slots sl3,?_⟩⟩;cases fl1 with
  | nx ρ3 q3=>exact λex2 σ3 H3 Hf3 l3 a3 s3=>⟨_,by omega,rfl,hlt,Hf3,ex++ex2,ρ3,q3,by rw[← aF];exact l3,o1,by rw[← aF];exact a3,s2.trans s3,hm⟩
  | rt d q3 =>
   cases hm;exact UF.more (fl:=.rt d q3) e ex
  | ro j q3 =>
   cases hm;exact UF.more (fl:=.ro j q3) e ex
 .left
  have:i=ds.length:=by omega
  subst this;rw[de]at hm;cases hm;exact⟨Ys (ah _),e ex σ' H' Hf' l' a' (g1.ext.trans s')⟩
end
def aK7{H:Hp}{a b:eR}{o:HO}(h:upd H a o b=Oa):b≠a/\H b=Oa:=by
 by_cases e:b=a
 .subst e;rw[B3]at h;cases h
 .rw[B2 e]at h;exact⟨e,h⟩
section
variable {K:PySem.W.Frag}{C:Addr}{b:Bs}{ρ:Rho}{os:Os}{σ:L2.St}{H Hf H' Hf':Hp}
def OSt.add(st:OSt K C b ρ os σ H Hf)(g:Grow H Hf H' Hf')(f:FoAt K C H' Hf' x c o)(fr:∀y∈cells x c,H y=Oa):OSt K C b ρ (os++[(x,o)]) σ H' Hf':=by
 obtain⟨R,r1,r2,r3⟩:=st.ob;have st':=st.grow g;have r1':=r1.chg (S:=[]) (Chg.of g) (by simp);obtain⟨R',q1,q2⟩:=r1'.snoc f λy hy z=>r1.there y z<|fr y hy
 refine⟨st'.gr,R',q1,λy hy=>(q2 y hy).elim (r2 y) λz=>.inr ?_,r3.chg (S:=[]) (Chg.of g) (by simp) λx h hx=>?_⟩
 .exact aX λw=>st.gr.kp y w<|fr y z
 .obtain⟨h1,h2⟩:=ak9 h;exact aX5 (λz=>(q2 x z).elim h1 λw=>hx<|fr x w) h2
end
def Slots.setO{K:aa}{H0 H Hf:Hp}{ρ:Rho}{σ:L2.St}{i:Nat}{a:eR}(s:Slots K H0 ρ σ H Hf):Slots K H0 (ρ.set i<|Ob (.opq a)) (σ.set i<|Ob (.ref a)) H Hf:=by
 have own:∀(j:Nat) (ds:List D),(ρ.set i<|Ob (.opq a))[j]? = Ob (Ob<|.own ds)->i≠j/\ρ[j]? = Ob (Ob<|.own ds):=λj ds e=>by
  rw[bv]at e;split at e
  .split at e<;>cases e
  .rename_i h;exact⟨h,e⟩
 refine⟨by simp[s.len],λj b e=>?_,λj k d1 d2 c h1 h2 h3 h4=>?_⟩
 .rw[bv]at e;split at e
  .rename_i h;subst h;split at e
   .rename_i hl;cases e;exact⟨_,aC (by rw[← s.len];exact hl),rfl⟩
   .cases e
  .rename_i h;obtain⟨v,v1,v2⟩:=s.is j b e;exact⟨v,by rw[aq h];exact v1,v2⟩
 .obtain⟨n1,e1⟩:=own j d1 h1;obtain⟨n2,e2⟩:=own k d2 h2;rw[aq n1]at h3;rw[aq n2]at h4;exact s.apart j k d1 d2 c e1 e2 h3 h4
def bQ9{as:List eR}{ρ:Rho}{n:Nat}(h:okR n ρ=true)(l:as.length=n)(a:eR)(i:Nat):sub (as++[a]) (ρ.set i<|Ob (.opq n))=(sub as ρ).set i (Ob<|.opq a):=by
 subst l;have:=bv0 h [a];unfold sub at this ⊢;rw[dk,this]
 congr 1
 show Ob (B.opq _)=_;rw[aN,aK (ah _),ci];rfl
def bN3{as:List eR}{q:Fs}(l:as.length=q.length)(a:eR)(o:Fo):(as++[a]).zip (q++[o])=as.zip q++[(a,o)]:=by rw[List.zip_append l];rfl
def UN(X:Cx)(C:eR)(e:Expr)(g:Rho->Option Fo):Prop:=∀ρ q o,g (era ρ)=Ob o->∀b (as:List eR),as.length=q.length->PE X e (λσ H Q=>∃Hf,OSt X.K C b (sub as ρ) (as.zip q) σ H Hf/\∀a c H' Hf',Grow H Hf H' Hf'->FoAt X.K C H' Hf' a c o->(∀y∈cells a c,H y=Oa)->Q (.ref a) H')
def cM0(X:Cx)(C:eR)(x:Str)(n:Nat)(F:DF):Prop:=∃k f fd ps,FnOk X.prog X.w X.K X.mg X.base CX0 k f fd ps (spD X.K C (n+1) F)/\Room (k+1) X.A/\Mk X.K C f/\M3 X.K fd ps []/\X.mg x=Ob (.ref C)
section
variable {X:Cx}{C:Addr}
def aV2(F:DF)(g:Rho->Option (List D)):Rho->Option Fo:=λρ=>(g ρ).bind λds=>(F [] (Oa::ds.map Ob)).bind λr=>match r.1 with
 | .none=>Ob r.2
 | _=>Oa
def bP6{e:Expr}{es:List Expr}(M:cM0 X C x n F)(hg:Gl X x)(ha:JA X (e::es) g)(hn:(e::es).length=n)(hdb:(x==("__debug__" : Str))=false)(he:dI (e::es) X.env=(false,eval e X.env)::dI es X.env)(hpl:(backTo pos<|dI es X.env).any (·.1)=false):
  UN X C (.Call (.Name x p) (e::es) [] pos) (aV2 F g):=λρ q o w b as l=>by
 obtain⟨ds,h1,w⟩:=xbo w;obtain⟨⟨r,o'⟩,h2,w⟩:=xbo w;have:r=.none/\o'=o:=by cases r<;>cases w;exact⟨rfl,rfl⟩
 obtain⟨rfl,rfl⟩:=this;obtain⟨k,f,fd,ps,Fk,hr,Mk,hb,hm⟩:=M;refine B4 (bT6 Mk Fk hr hg hm hb .nil aw2 (λpos pins s σ H Q I t=>ha.run (era ρ) ds h1 pos pins s σ H Q I t) hdb he hpl) λσ H Q ⟨Hf,st,kk⟩=>⟨_,Hf,st.same,by rw[← r8 as ρ];exact st.sl.era,λvs H1 Hf1 g0 rp y dx y1 y2 y3=>?_⟩
 have g1:Grow H1 Hf1 (upd H1 dx<|.own y) Hf1:=Grow.made g0.sub y2;have g2:Grow (upd H1 dx<|.own y) Hf1 (upd (upd H1 dx<|.own y) y<|.ins C dx []) Hf1:=Grow.made g1.sub (by rw[B2 y3.symm];exact y1);have g:=g1.trans g2;have fr1:=g0.sub.free y1;refine⟨by rw[aA,aJ,rp.length,ha.len _ ds h1,hn],y,Hf1,⟨dx,[]⟩,[],Oa::ds.map Ob,.none,o',g.sub,⟨B3,rfl,λz hz=>by rw[bh.mp hz];exact fr1⟩,⟨_,_,rfl,rfl,by rw[aA];exact aV4 rp⟩,h2,λv H' Hf' c' ch fo cl rv=>?_⟩;cases rv;have hy:H y=Oa:=g0.big.free y1;refine⟨rfl,kk y c' H' Hf' ⟨λz u e=>?_,ch.sub,g0.ext.trans ch.ext,λz hz=>?_⟩ fo λz hz=>?_⟩
 .have e1:=g0.big z u e;exact ch.big z u (by simp;exact C2 e hy)<|g.big z u e1
 .rcases ch.new z hz with w|w
  .exact g0.new z w
  .exact .inr (g0.big.free (aK7 (aK7 w).2).2)
 .rw[bh.mp hz];exact hy
def bk1(i:Nat)(g:Rho->Option Fo):UX:=λρ q=>(g<|era ρ).map λo=>.nx (ρ.set i<|Ob (.opq q.length))<|q++[o]
def bU7{ρ:Rho}{q:Fs}(h:okR q.length ρ=true)(i:Nat)(o:Fo):okR (q++[o]).length (ρ.set i<|Ob (.opq q.length))=true:=at7 (bA1 h<|by simp) (by intro j z;cases z;simp)
def ci1(i:Nat)(hN:X.N.Nodup)(h:UN X C e g)(hi:X.N[i]? = Ob x)(hx:Loc X.env.scope x)(hs:swapsWith e (Ob<|.Name x pos') pos.line X.env=pure false)(hf:X.fn x=true\/X.env.scope.names.lookup x=Ob .local):US X C (.Assign [.Name x pos'] e pos) (bk1 i g):=λρ q fl w no=>by
 obtain⟨o,w1,w2⟩:=xmo w;cases w2;refine⟨bU7 no i o,λb as l=>L9 (an0 hN hi hx (h ρ q o w1 b as l) hs hf) λEn σ H ⟨Hf,st,k⟩=>⟨Hf,st,λa c H' Hf' g fo fr=>?_⟩⟩;have st2:=st.add g fo fr;exact k [a] _ H' Hf' (by simp[l]) (by rw[bQ9 no l,bN3 l];exact st2.slots st2.sl.setO) g.ext
end
def bR6(g:UX)(n:Nat):List D->Option D:=λds=>(g (Q5 n ds) []).bind λfl=>match fl with
 | .rt d _=>Ob d
 | .nx _ _=>Ob .none
 | _=>Oa
def bk8(n m:Nat)(ds:List D):okR m (Q5 n ds)=true:=by
 unfold okR Q5;rw[aQ];intro x hx;rcases aD.mp hx with h|h
 .obtain⟨d,_,rfl⟩:=aT.mp h;rfl
 .rw[(cV.mp h).2]
def aT2(n:Nat)(ds:List D):sub [] (Q5 n ds)=Q5 n ds:=by
 unfold sub Q5;rw[bQ,bE,cW];rfl
section
variable {P:Program}{w:World}{K:PySem.W.Frag}{mg:Str->Option Value}{base:Heap}{x qual:Str}{st:Stmt}{f:Addr}{fd:FuncData}{N ps:List Str}{k:Nat}{g:UX}{C:Addr}
def bR1{H Hf:Hp}{ds:List D}{vs:List V}(ss:B8 Hf H)(rp:Reps K Hf ds vs):OSt K C ⟨[],H,Hf⟩ (sub []<|Q5 N.length ds) (([]:List eR).zip ([]:Fs)) (start N vs) H Hf :=
 ⟨Chg.of<|Grow.refl ss,[],.nil,by simp,by rw[aT2];exact n8 rp⟩
def bH5(F:Fun K x qual st f fd)(S:FnScope N ps (B9 st))
  (hb:∀(cdv:eP) (A:dP) (outer:List Env) (s:eQ) (H:Hp) (E:XK),Room k (A.deeper<|envOfC qual (B9 st) s.heap.objs.size f cdv)->USs (as7 CX0 P w K mg base N qual (B9 st) f cdv A outer s H E).nox C (G0 st) g) :
  FnOk P w K mg base CX0 (k+1) f fd ps (spF K ps.length<|bR6 g N.length):=by
 refine F.ok S (λvs H Q E h=>h.1) λcdv A outer s H vs Q E hr hsp=>?_
 obtain⟨hlen,Hf,ds,d,ss,rp,e,kk⟩:=hsp;obtain⟨fl,e1,e2⟩:=xbo e;obtain⟨_,h⟩:=hb cdv A outer s H E hr _ [] fl e1 (bk8 _ _ _);refine⟨_,h ⟨[],H,Hf⟩ [] rfl,Hf,bR1 ss rp,?_⟩;cases fl with
 | rt d' q=>cases e2;exact λex ρ σ v H' Hf' l s' r=>kk v H' Hf' s'.gr.grow r
 | nx ρ q=>cases e2;exact λex σ' H' Hf' l s' _=>kk _ H' Hf' s'.gr.grow rfl
 | ro j q=>cases e2
end
section
variable {K:PySem.W.Frag}{C:Addr}{b:Bs}{ρ:Rho}{os:List (Addr×Fo)}{σ:L2.St}{H Hf H' Hf' H0:Hp}
def OSt.mkOwn{i:Nat}{p:eR}{ds:List D}{vs:List V}(s:OSt K C b ρ os σ H Hf)(hp:H p=Oa)(r:Reps K Hf ds vs):OSt K C b (ρ.set i<|Ob (.own ds)) os (σ.set i<|Ob (.ref p)) (upd H p<|.lst vs) Hf:=by
 obtain⟨R,r1,r2,r3⟩:=s.ob;have g:Grow H Hf (upd H p<|.lst vs) Hf:=Grow.made s.same hp;refine⟨(s.grow g).gr,R,r1.chg (S:=[]) (Chg.of g) (by simp),r2,r3.setOwn g (aX5 (λz=>r1.there p z hp) ?_) hp B3 (s.same.free hp) r⟩;exact aX λz=>s.gr.kp p z hp
end
def bc9(as:List eR)(ρ:Rho)(i:Nat)(ds:List D):sub as (ρ.set i<|Ob (.own ds))=(sub as ρ).set i (Ob<|.own ds):=by unfold sub;rw[dk];rfl
section
variable {X:Cx}{C:Addr}{st:Stmt}{sts:List Stmt}
abbrev UL:=Rho->Fs->Option (List D×Fs)
def UAs(X:Cx)(C:eR)(es:List Expr)(g:UL):Prop:=∀ρ q ds q',g ρ q=Ob (ds,q')->okR q.length ρ=true->q'.length=q.length/\ds.length=es.length/\∀b (as:List eR),as.length=q.length ->
 PA X es (λσ H Q=>∃Hf,OSt X.K C b (sub as ρ) (as.zip q) σ H Hf/\∀vs H' Hf',OSt X.K C b (sub as ρ) (as.zip q') σ H' Hf'->B8 Hf Hf'->Reps X.K Hf' ds vs->Q vs H')
def ulN:UL:=λ_ q=>Ob ([],q)
def ulC(f:UD)(g:UL):UL:=λρ q=>(f ρ q).bind λx=>(g ρ x.2).map λy=>(x.1::y.1,y.2)
def ci6:UAs X C [] ulN:=λρ q ds q' w _=>by
 cases w;exact⟨rfl,rfl,λb as l pos pins s σ H Q I ⟨Hf,st,k⟩=>Q6 pos pins s σ H Q I<|k [] H Hf st (B8.refl _) rfl⟩
def bP7(h:UE X C e f)(r:UAs X C es g)(hs:dI (e::es) X.env=(false,eval e X.env)::dI es X.env):UAs X C (e::es) (ulC f g):=λρ q ds q' w no=>by
 obtain⟨⟨x,q1⟩,w1,w⟩:=xbo w;obtain⟨⟨y,q2⟩,w2,w3⟩:=xmo w;cases w3;obtain⟨l1,a1⟩:=h ρ q x q1 w1 no;obtain⟨l2,n2,a2⟩:=r ρ q1 y q2 w2 (by rw[l1];exact no);refine⟨l2.trans l1,by simp[n2],λb as l pos pins s σ H Q I ⟨Hf,st,k⟩=>?_⟩;exact K5 (a1 b as l) (a2 b as<|l.trans l1.symm) hs pos pins s σ H Q I ⟨Hf,st,λv H1 Hf1 s1 e1 r1=>⟨Hf1,s1,λvs H2 Hf2 s2 e2 r2=>k (v::vs) H2 Hf2 s2 (e1.trans e2) ⟨v,vs,rfl,r1.mono e2,r2⟩⟩⟩
def bQ0(f:UL):UD:=λρ q=>(f ρ q).map λx=>(.tuple x.1,x.2)
def ci7(h:UAs X C es f)(hn:es.length<=1000):UE X C (.Tuple es k pos) (bQ0 f):=λρ q d q' w no=>by
 obtain⟨⟨ds,q1⟩,w1,w2⟩:=xmo w;cases w2;obtain⟨l1,n1,a1⟩:=h ρ q ds q1 w1 no;refine⟨l1,λb as l=>B4 (by8<|a1 b as l) λσ H Q ⟨Hf,st,k⟩=>⟨Hf,st,λvs H1 Hf1 s1 e1 r=>⟨?_,λp hp=>?_⟩⟩⟩
 .rw[r.length,n1];exact cf<|ae1 hn
 .have g:=Grow.laid (o:=.tup vs) s1.same hp;exact k _ _ _ (s1.grow g) (e1.trans g.ext) ⟨p,vs,rfl,SqT.of B3,r.mono g.ext⟩
end
def cM3(X:Cx)(C:eR)(x:Str)(F:DF)(n:Nat):Prop:=∃k f fd ps,FnOk X.prog X.w X.K X.mg X.base CX0 k f fd ps (spD X.K C n F)/\Room k X.A/\X.mg x=Ob (.ref f)/\aG X.K (.ref f)=true/\M3 X.K fd ps []
section
variable {X:Cx}{C:Addr}{K:PySem.W.Frag}{Hf Hf':Hp}{a:Addr}
theorem Mxs.length:∀{ms:MD}{vs:List V},Mxs K Hf a ms vs->vs.length=ms.length
 | [],_,h=>by cases h;rfl
 | m::ms,_,⟨v,r,e,h1,h2⟩=>by subst e;simp[h2.length]
theorem Mxs.get:∀{ms:MD}{vs:List V},Mxs K Hf a ms vs->∀{i:Nat}{m:Option D},ms[i]? = Ob m->∃v,vs[i]? = Ob v/\MxV K Hf a m v
 | [],_,h,i,m,e=>by simp at e
 | m::ms,_,⟨v,r,e,h1,h2⟩,i,m',e'=>by
  subst e;cases i with
  | zero=>simp at e';subst e';exact⟨v,rfl,h1⟩
  | succ i=>exact h2.get (i:=i) (by simpa using e')
structure JM (X:Cx) (i:Nat) (es:List Expr) (g:Rho->Option MD):Prop where
 len:∀ρ ms,g ρ=Ob ms->ms.length=es.length
 run:∀ρ ms,g ρ=Ob ms->∀a ρ',ρ'[i]? = Ob (Ob<|.opq a)->(∀{H0 H Hf:Hp}{σ:L2.St},Slots X.K H0 ρ' σ H Hf->Slots X.K H0 ρ σ H Hf) ->
  PA X es (λσ H Q=>∃H0 Hf,B8 Hf H/\Slots X.K H0 ρ' σ H Hf/\∀vs H' Hf',Grow H Hf H' Hf'->Mxs X.K Hf' a ms vs->Q vs H')
def mN:Rho->Option MD:=λ_=>Ob []
def mC(f:DE)(g:Rho->Option MD):Rho->Option MD:=λρ=>(f ρ).bind λd=>(g ρ).map λms=>Ob d::ms
def mO(g:Rho->Option MD):Rho->Option MD:=λρ=>(g ρ).map λms=>Oa::ms
def cu6:JM X i [] mN:=⟨λρ ms h=>by cases h;rfl,λρ ms h a ρ' _ _ pos pins s σ H Q I ⟨H0,Hf,ss,sl,k⟩=>by
 cases h
 exact Q6 pos pins s σ H Q I (k [] H Hf (Grow.refl ss) rfl)⟩
def bh2(h:JE X e f)(r:JM X i es g)(hs:dI (e::es) X.env=(false,eval e X.env)::dI es X.env):JM X i (e::es) (mC f g):=by
 refine⟨λρ ms q=>?_,λρ ms q a ρ' sa sb=>?_⟩
 .obtain⟨d,h1,h2⟩:=xbo q;obtain⟨es',h3,h4⟩:=xmo h2;subst h4;simp[r.len ρ es' h3]
 .obtain⟨d,h1,h2⟩:=xbo q;obtain⟨es',h3,h4⟩:=xmo h2;subst h4;intro pos pins s σ H Q I ⟨H0,Hf,ss,sl,k⟩;refine K5 (h ρ d h1) (r.run ρ es' h3 a ρ' sa sb) hs pos pins s σ H Q I ⟨H0,Hf,ss,sb sl,λv H1 Hf1 g1 r1=>⟨H0,Hf1,g1.sub,sl.grow g1,λvs H2 Hf2 g2 r2=>?_⟩⟩;exact k (v::vs) H2 Hf2 (g1.trans g2) ⟨v,vs,rfl,Rep.mono g2.ext r1,r2⟩
def cu5(r:JM X i es g)(hn:X.N[i]? = Ob x)(hv:Vis X.env.scope x)(h1:(x==("__debug__" : Str))=false)(h2:(x==("__classdict__" : Str))=false)(hs:dI (.Name x p::es) X.env=(false,eval (.Name x p) X.env)::dI es X.env):JM X i (.Name x p::es) (mO g):=by
 refine⟨λρ ms q=>?_,λρ ms q a ρ' sa sb=>?_⟩
 .obtain⟨es',h3,h4⟩:=xmo q;subst h4;simp[r.len ρ es' h3]
 .obtain⟨es',h3,h4⟩:=xmo q;subst h4;intro pos pins s σ H Q I ⟨H0,Hf,ss,sl,k⟩;obtain⟨v,w1,w2⟩:=sl.is i _ sa;cases w2;exact K5 (V4 hn hv h1 h2) (r.run ρ es' h3 a ρ' sa sb) hs pos pins s σ H Q I ⟨_,w1,H0,Hf,ss,sl,λvs H2 Hf2 g2 r2=>k (.ref a::vs) H2 Hf2 g2 ⟨_,vs,rfl,rfl,r2⟩⟩
def uD(i:Nat)(F:DF)(g:Rho->Option MD):UD:=λρ q=>(i8 i ρ q).bind λp=>(g<|era ρ).bind λms=>(F p.2 ms).map λr=>(r.1,q.set p.1 r.2)
def cB0{e:Expr}{es:List Expr}(i:Nat)(N:cM3 X C y F n)(hg:Gl X y)(hdb:(y==("__debug__" : Str))=false)(hn:X.N[i]? = Ob x)(hv:Vis X.env.scope x)(h1:(x==("__debug__" : Str))=false)(h2:(x==("__classdict__" : Str))=false)(ha:JM X i (e::es) g)(hz:(e::es).length=n)
  (he:dI (e::es) X.env=(false,eval e X.env)::dI es X.env) (hpl:(backTo pos<|dI es X.env).any (·.1)=false):UE X C (.Call (.Name y p) (e::es) [] pos) (uD i F g):=λρ q d q' w no=>by
 obtain⟨⟨j,o⟩,w1,w⟩:=xbo w;obtain⟨ms,w2,w⟩:=xbo w;obtain⟨⟨r,o'⟩,w3,w4⟩:=xmo w;cases w4;refine⟨by simp,λb as l=>?_⟩;obtain⟨a,ea,A⟩:=i7 w1 (ah2 no) l hn hv h1 h2;rw[at2 ea];obtain⟨k,f,fd,ps,Fk,hr,hm,hk,hb⟩:=N;refine B4 (aG7 Fk hr hg hm hk hb .nil aw2 (ha.run (era ρ) ms w2 a (sub as ρ) A.s λs=>by rw[← r8 as ρ];exact s.era) hdb he hpl) λσ H Q ⟨Hf,st,kk⟩=>?_
 obtain⟨c,f1,f3⟩:=st.focus A.w A.o;refine⟨_,Hf,st.same,st.sl,λvs H1 Hf1 g1 r1=>⟨?_,a,Hf1,c,o,ms,r,o',g1.sub,f1.grow g1,by rw[aA];exact r1,w3,λv H2 Hf2 c' g2 f2 n2 rv=>kk v H2 Hf2 (f3 ((Chg.of g1).trans g2 λ_ h=>.inl h) f2 λy hy=>(n2 y hy).imp id λz=>aX λw=>(Chg.of (S:=[]) g1).kp y w z) (g1.ext.trans g2.ext) rv⟩⟩;rw[aA,r1.length,ha.len _ ms w2,hz]
end
def cJ4:Option D->Option B
 | some d=>‹d›
 | none=>Ob<|.opq 0
def V1(n:Nat)(ms:MD):Rho:=ms.map cJ4++aj (n - ms.length) Oa
def i9(g:UX)(n:Nat):DF:=λo ms=>(g (V1 n ms) [o]).bind λfl=>match fl with
 | .rt d q=>(q[0]?).map λo'=>(d,o')
 | .nx _ q=>(q[0]?).map λo'=>(.none,o')
 | _=>Oa
def aT1(n:Nat)(ms:MD):okR 1 (V1 n ms)=true:=by
 unfold okR V1;rw[aQ];intro x hx;rcases aD.mp hx with h|h
 .obtain⟨d,_,rfl⟩:=aT.mp h;cases d<;>rfl
 .rw[(cV.mp h).2]
def az2{K:aa}{H0 H Hf:Hp}{N:List Str}{ms:MD}{vs:List V}(r:Mxs K Hf a ms vs):Slots K H0 (sub [a]<|V1 N.length ms) (L2.start N vs) H Hf:=by
 have hl:=r.length
 have noown:∀(i:Nat) (b:B),(sub [a]<|V1 N.length ms)[i]? = Ob (Ob b)->∃m,ms[i]? = Ob m/\Ob b=cC7 [a] (cJ4 m):=λi b h=>by
  unfold V1 sub at h;rw[bQ]at h;rcases bD i ms.length with q|q
  .rw[aM (by simpa using q),av,av]at h;rw[ao q]at h ⊢;simp only[xms,bc.injEq]at h;exact⟨ms[i],rfl,h.symm⟩
  .rw[aK (by simpa using q),av,be]at h;split at h<;>cases h
 refine⟨by simp[V1,L2.start,hl],λi b e=>?_,λi j d1 d2 a e1 _ _ _=>?_⟩
 .obtain⟨m,h1,h2⟩:=noown i b e;obtain⟨v,h3,h4⟩:=r.get h1;have hi:i < vs.length:=(ag.mp h3).1;refine⟨v,?_,?_⟩
  .unfold L2.start;rw[aM (by simpa using hi),av,h3];rfl
  .cases m with
   | none=>cases h2;exact h4
   | some d=>cases h2;exact h4
 .obtain⟨m,_,h2⟩:=noown i _ e1;cases m<;>cases h2
section
variable {P:Program}{w:World}{K:PySem.W.Frag}{mg:Str->Option Value}{base:Heap}{x qual:Str}{st:Stmt}{f:Addr}{fd:FuncData}{N ps:List Str}{k:Nat}{g:UX}{C:Addr}
def bH7(F:Fun K x qual st f fd)(S:FnScope N ps (B9 st))
  (hb:∀(cdv:eP) (A:dP) (outer:List Env) (s:eQ) (H:Hp) (E:XK),Room k (A.deeper<|envOfC qual (B9 st) s.heap.objs.size f cdv)->USs (as7 CX0 P w K mg base N qual (B9 st) f cdv A outer s H E).nox C (G0 st) g) :
  FnOk P w K mg base CX0 (k+1) f fd ps (spD K C ps.length<|i9 g N.length):=by
 refine F.ok S (λvs H Q E h=>h.1) λcdv A outer s H vs Q E hr hsp=>?_
 obtain⟨hlen,a,Hf,c,o,ms,r,o',ss,fo,rp,e,kk⟩:=hsp;obtain⟨fl,e1,e2⟩:=xbo e;obtain⟨_,h⟩:=hb cdv A outer s H E hr _ [o] fl e1<|aT1 _ _
 have fin:∀ex q ρ' σ' v H' Hf',q[0]? = Ob o'->OSt K C ⟨cells a c,H,Hf⟩ ρ' (([a]++ex).zip q) σ' H' Hf'->Rep K Hf' r v->Q v H':=λex q ρ' σ' v H' Hf' hq s' rv=>by
  obtain⟨R,r1,r2,_⟩:=s'.ob;obtain⟨c',f1,f2,_⟩:=r1.focus (j:=0) (a:=a) (o:=o') (bF.mpr ⟨rfl,hq⟩);exact kk v H' Hf' c' s'.gr f1 (λx hx=>r2 x<|f2 x hx) rv
 refine⟨_,h ⟨cells a c,H,Hf⟩ [a] rfl,Hf,⟨Chg.of<|Grow.refl ss,cells a c++[],.cons fo (by simp) .nil,λx hx=>.inl (by simpa using hx),az2 rp⟩,?_⟩;cases fl with
 | rt d' q =>
  obtain⟨o1,e3,e4⟩:=xmo e2;cases e4;exact λex ρ σ v H' Hf' l s' r=>fin ex q ρ σ v H' Hf' e3 s' r
 | nx ρ q =>
  obtain⟨o1,e3,e4⟩:=xmo e2;cases e4;exact λex σ' H' Hf' l s' _=>fin ex q _ σ' _ H' Hf' e3 s' rfl
 | ro j q=>cases e2
end
section
variable {X:Cx}{C:Addr}
def aS4(f:UB):UB:=λρ q=>(f ρ q).map λx=>(!x.1,x.2)
def ch5(h:UT X C e f):UT X C (.UnaryOp .Not e pos) (aS4 f):=λρ q c q' w no=>by
 obtain⟨⟨x,q1⟩,w1,w2⟩:=xmo w;cases w2;obtain⟨l1,a1⟩:=h ρ q x q1 w1 no;exact⟨l1,λb as l=>ac5 (bx6<|a1 b as l) λσ H Q ⟨Hf,st,k⟩=>⟨Hf,st,λH1 Hf1 s1 e1=>k H1 Hf1 s1 e1⟩⟩
def ci8(h:UE X C e f):UE X C (.BoolOp op [e] pos) f:=λρ q d q' w no=>by
 obtain⟨l1,a1⟩:=h ρ q d q' w no;exact⟨l1,λb as l=>bz1<|a1 b as l⟩
def bP9(ha:UE X C ea f)(hb:UE X C (.BoolOp .And (eb::es) pos) g):UE X C (.BoolOp .And (ea::eb::es) pos) (ap9 f g):=λρ q d q' w no=>by
 obtain⟨⟨x,q1⟩,w1,w⟩:=xbo w;obtain⟨c,w2,w⟩:=xbo w;have:x=.bool c:=by cases x<;>cases w2;rfl
 subst this;obtain⟨l1,a1⟩:=ha ρ q _ q1 w1 no;cases c with
 | true =>
  obtain⟨l2,a2⟩:=hb ρ q1 d q' w (by rw[l1];exact no);exact⟨l2.trans l1,λb as l=>B4 (aG8 (a1 b as l)<|a2 b as (l.trans l1.symm)) λσ H Q ⟨Hf,st,k⟩=>⟨Hf,st,λv H1 Hf1 s1 e1 r1=>⟨true,r1,ao1 ⟨Hf1,s1,λu H2 Hf2 s2 e2 r2=>k u H2 Hf2 s2 (e1.trans e2) r2⟩⟩⟩⟩
 | false =>
  cases w;exact⟨l1,λb as l=>B4 (aG8 (tb:=λ_ _ _=>False) (a1 b as l) λ_ _ _ _ _ _ h=>h.elim) λσ H Q ⟨Hf,st,k⟩=>⟨Hf,st,λv H1 Hf1 s1 e1 r1=>⟨false,r1,ao2<|k _ H1 Hf1 s1 e1 rfl⟩⟩⟩
end
section
variable {X:Cx}{C:Addr}{fn:List Str}
def W6(i:Nat)(f:Str):UD:=λρ q=>(i8 i ρ q).bind λp=>(p.2.lookup f).map λd=>(d,q)
def cj0(i:Nat)(c:FoC X.K C fn)(hf:f∈fn)(hn:X.N[i]? = Ob x)(hv:Vis X.env.scope x)(h1:(x==("__debug__" : Str))=false)(h2:(x==("__classdict__" : Str))=false)(hb:dZ (.Name x p) f X.env (eval (.Name x p) X.env)=eval (.Name x p) X.env):
  UE X C (.Attribute (.Name x p) f pos) (W6 i f):=λρ q d q' w no=>by
 obtain⟨⟨j,o⟩,e1,w⟩:=xbo w;obtain⟨d',e2,e3⟩:=xmo w;cases e3;refine⟨rfl,λb as l=>?_⟩;obtain⟨a,ea,A⟩:=i7 e1 (ah2 no) l hn hv h1 h2;exact bA4 A c hf e2 hb
def bw4(h:i8 i ρ q=Ob (j,o))(l:q'.length=q.length):∃o',i8 i ρ q'=Ob (j,o'):=by
 unfold i8 at h ⊢;split at h
 .rename_i j' e;obtain⟨o1,e1,e2⟩:=xmo h;cases e2;have hj:j < q'.length:=by rw[l];exact(ag.mp e1).1
  exact⟨q'[j],by rw[ao hj];rfl⟩
 .cases h
def Z4(i:Nat)(f:Str)(g:UD):UX:=λρ q=>(g ρ q).bind λx=>(i8 i ρ x.2).bind λp=>if p.2.length < 1000 then Ob (.nx ρ<|x.2.set p.1 (bl5 f x.1 p.2)) else Oa
def bP2(i:Nat)(c:FoC X.K C fn)(hf:f∈fn)(hn:X.N[i]? = Ob x)(hv:Vis X.env.scope x)(h1:(x==("__debug__" : Str))=false)(h2:(x==("__classdict__" : Str))=false)(h:UE X C e g)(hs:swapsWith e (Ob<|.Attribute (.Name x p) f pos') pos.line X.env=pure false):
  US X C (.Assign [.Attribute (.Name x p) f pos'] e pos) (Z4 i f g):=λρ q fl w no=>by
 obtain⟨⟨d,q1⟩,w1,w⟩:=xbo w;obtain⟨⟨j,o1⟩,w2,w⟩:=xbo w;split at w
 .rename_i hz;cases w;obtain⟨l1,a1⟩:=h ρ q d q1 w1 no;obtain⟨o0,w0⟩:=bw4 w2 l1.symm;refine⟨by show okR (q1.set j _).length ρ=true;rw[bY,l1];exact no,λb as l=>?_⟩;obtain⟨a,ea,A⟩:=i7 w0 (ah2 no) l hn hv h1 h2;obtain⟨a',ea',A'⟩:=i7 w2 (ah2 no) (l.trans l1.symm) hn hv h1 h2;rw[ea]at ea';cases ea';exact L9 (cn4 A c hf (a1 b as l) A'.o hz hs) λEn σ H ⟨Hf,st,k⟩=>⟨Hf,st,λσ' H' Hf' s' e'=>aD0 k (by rw[bY];exact l.trans l1.symm) σ' H' Hf' (by rw[at2 ea];exact s') e'⟩
 .cases w
def Q0(F:FnD)(g:UL):UD:=λρ q=>(g ρ q).bind λx=>(F x.1).map λd=>(d,x.2)
def bt8{e:Expr}{es:List Expr}(hF:cM1 X y F n)(hu:X.A.units+64 < cLine)(hg:Gl X y)(hdb:(y==("__debug__" : Str))=false)(ha:UAs X C (e::es) g)(hz:(e::es).length=n)
  (he:dI (e::es) X.env=(false,eval e X.env)::dI es X.env) (hpl:(backTo pos<|dI es X.env).any (·.1)=false):UE X C (.Call (.Name y p) (e::es) [] pos) (Q0 F g):=λρ q d q' w no=>by
 obtain⟨⟨ds,q1⟩,w1,w⟩:=xbo w;obtain⟨d',w2,w3⟩:=xmo w;cases w3;obtain⟨l1,n1,a1⟩:=ha ρ q ds q1 w1 no;refine⟨l1,λb as l=>?_⟩;rcases hF with⟨k,f,fd,ps,hk,hr,hm,hkp,hb⟩|⟨hm,hb⟩
 .refine B4 (aG7 hk hr hg hm hkp hb .nil aw2 (a1 b as l) hdb he hpl) λσ H Q ⟨Hf,st,kk⟩=>⟨Hf,st,λvs H1 Hf1 s1 e1 r1=>⟨by rw[aA,r1.length,n1,hz],Hf1,ds,d,s1.same,by rw[aA];exact r1,w2,λv H2 Hf2 g2 r2=>kk v H2 Hf2 (s1.grow g2) (e1.trans g2.ext) r2⟩⟩
 .obtain⟨_,hnn,nm,hv,hc⟩:=hb;exact B4 (v8 (hc X hu) hg hm hv (a1 b as l) hnn hdb he hpl) λσ H Q ⟨Hf,st,kk⟩=>⟨Hf,st,λvs H1 Hf1 s1 e1 r1=>⟨by rw[r1.length,n1,hz],Hf1,ds,d,s1.same,r1,w2,λv H2 Hf2 g2 r2=>kk v H2 Hf2 (s1.grow g2) (e1.trans g2.ext) r2⟩⟩
def aK9(f:UD)(g:DE):UD:=λρ q=>(f ρ q).bind λx=>(aL4 x.1).bind λs=>(g<|era ρ).bind λk=>match k with
 | .int k=>(atI s.2 k).map λd=>(d,x.2)
 | _=>Oa
def ci9(ha:UE X C a f)(hb:JE X b g)(hs:am2 b):UE X C (.Subscript a b pos) (aK9 f g):=λρ q d q' w no=>by
 obtain⟨⟨x,q1⟩,w1,w⟩:=xbo w;obtain⟨⟨t,ds⟩,w2,w⟩:=xbo w;obtain⟨y,w3,w⟩:=xbo w;split at w
 .obtain⟨d',w4,w5⟩:=xmo w;cases w5;obtain⟨l1,a1⟩:=ha ρ q x q1 w1 no;refine⟨l1,λbb as l=>B4 (bz3 aX1 (a1 bb as l) (hb (era ρ) _ w3) hs) λσ H Q ⟨Hf,st,k⟩=>⟨Hf,st,λv H1 Hf1 s1 e1 r1=>⟨_,Hf1,s1.same,by rw[← r8 as ρ];exact s1.sl.era,λu H2 Hf2 g2 r2=>?_⟩⟩⟩;have s2:=s1.grow g2;have rx:=r1.mono g2.ext;have sq:=s2.same;cases x with
  | tuple xs =>
   cases w2;obtain⟨p,vs,e1',e2,e3⟩:=rx;obtain⟨w,q1,q2⟩:=aG0 e3 w4;exact .inr<|.inl ⟨p,vs,_,w,e1',r2,C7 sq e2,q1,k w H2 Hf2 s2 (e1.trans g2.ext) q2⟩
  | list xs =>
   cases w2;obtain⟨p,vs,e1',e2,e3⟩:=rx;obtain⟨w,q1,q2⟩:=aG0 e3 w4;exact .inl ⟨p,vs,_,w,e1',r2,K3 sq e2,q1,k w H2 Hf2 s2 (e1.trans g2.ext) q2⟩
  | _=>cases w2
 .cases w
def cj2(o:OpD X (dS op) h)(ha:UE X C ea f)(hb:UE X C eb g):UE X C (.BinOp ea op eb pos) (uB2 h f g):=λρ q d q' w no=>by
 obtain⟨⟨x,q1⟩,w1,w⟩:=xbo w;obtain⟨⟨y,q2⟩,w2,w⟩:=xbo w;obtain⟨z,w3,w4⟩:=xmo w;cases w4;obtain⟨l1,a1⟩:=ha ρ q x q1 w1 no;obtain⟨l2,a2⟩:=hb ρ q1 y q2 w2 (by rw[l1];exact no);exact⟨l2.trans l1,λb as l=>B4 (bz0 (o x y _ w3) (a1 b as l)<|a2 b as (l.trans l1.symm)) λσ H Q ⟨Hf,st,k⟩=>⟨Hf,st,λv H1 Hf1 s1 e1 r1=>⟨Hf1,s1,λu H2 Hf2 s2 e2 r2=>⟨Hf2,s2.same,r1.mono e2,r2,λz H3 Hf3 g r3=>k z H3 Hf3 (s2.grow g) ((e1.trans e2).trans g.ext) r3⟩⟩⟩⟩
def bc4(i:Nat)(f:UD):UX:=λρ q=>(f ρ q).bind λx=>(aL4 x.1).map λs=>.nx (ρ.set i<|Ob (.own s.2)) x.2
def bP3(i:Nat)(hN:X.N.Nodup)(h:UE X C e f)(hg:Gl X "list")(hm:X.mg "list" = Oa)(he:dI [e] X.env=[(false,eval e X.env)])(hi:X.N[i]? = Ob x)(hx:Loc X.env.scope x)(hs:swapsWith (.Call (.Name "list" p1) [e] [] p2) (Ob<|.Name x pos') pos.line X.env=pure false)(hf:X.fn x=true\/X.env.scope.names.lookup x=Ob .local):US X C (.Assign [.Name x pos'] (.Call (.Name "list" p1) [e] [] p2) pos) (bc4 i f):=λρ q fl w no=>by
 obtain⟨⟨y,q1⟩,w1,w⟩:=xbo w;obtain⟨⟨t,ds⟩,w2,w3⟩:=xmo w;cases w3;obtain⟨l1,a1⟩:=h ρ q y q1 w1 no;refine⟨at7 (by rw[l1];exact no) (by intro _ z;cases z),λb as l=>L9 (an0 hN hi hx (v7 am0 hg hm bj1 (K5 (a1 b as l) Q6 he) (he:=he) (hpl:=rfl)) hs hf) λEn σ H ⟨Hf,st,k⟩=>⟨Hf,st,λv H1 Hf1 s1 e1 r=>?_⟩⟩;have fin:∀vs,Reps X.K Hf1 ds vs->∀l',H1 l'=Oa->En.nx (σ.set i<|Ob (.ref l')) (upd H1 l'<|.lst vs):=λvs rr l' hl=>aD0 k (l.trans l1.symm) _ _ Hf1 (by rw[bc9];exact s1.mkOwn hl rr) e1
 have sq:=s1.same;cases y with
 | tuple xs =>
  cases w2;obtain⟨p,vs,rfl,e2,e3⟩:=r;exact⟨p,vs,rfl,.inr<|C7 sq e2,fin vs e3⟩
 | list xs =>
  cases w2;obtain⟨p,vs,rfl,e2,e3⟩:=r;exact⟨p,vs,rfl,.inl<|K3 sq e2,fin vs e3⟩
 | _=>cases w2
end
section
variable {K:PySem.W.Frag}{C:Addr}{b:Bs}{ρ:Rho}{os:List (Addr×Fo)}{σ:L2.St}{H Hf H0:Hp}
def Slots.wrL{i:Nat}{p:eR}{ds ds':List D}{vs vs':List V}(s:Slots K H0 ρ σ H Hf)(eo:ρ[i]? = Ob (Ob<|.own ds))(h1:σ[i]? = Ob (Ob<|.ref p))(h2:H p=Ob (.lst vs))(h3:Hf p=Oa)(h4:H0 p=Oa)(r:Reps K Hf ds' vs'):
  Slots K H0 (ρ.set i<|Ob (.own ds')) σ (upd H p<|.lst vs') Hf:=by
 refine⟨by simpa using s.len,λj bb z=>?_,λj k ds1 es c q1 q2 q3 q4=>?_⟩
 .by_cases qj:i=j
  .subst qj;have hi:i < ρ.length:=(ag.mp eo).1;rw[aC hi]at z;cases z;exact⟨_,h1,p,vs',rfl,B3,h3,h4,r⟩
  .rw[aq qj]at z;obtain⟨u,z1,z2⟩:=s.is j bb z;refine⟨u,z1,?_⟩;cases bb with
   | val d=>exact z2
   | exc C=>exact z2
   | opq _=>exact z2
   | own dd =>
    obtain⟨a',vs',y1,y2,y3,y4,y5⟩:=z2
    have ne:a'≠p:=λzz=>by
     subst zz y1;exact qj<|s.apart i j ds dd a' eo z h1 z1
    exact⟨a',vs',y1,by rw[B2 ne];exact y2,y3,y4,y5⟩
 .have old:∀n:Nat,(∃dd:List D,(ρ.set i<|Ob (B.own ds'))[n]? = Ob (Ob<|B.own dd))->∃dd:List D,ρ[n]? = Ob (Ob<|B.own dd):=λn ⟨dd,z⟩=>by
   by_cases qj:i=n
   .subst qj;exact⟨ds,eo⟩
   .rw[aq qj]at z;exact⟨_,z⟩
  obtain⟨d1,q1'⟩:=old j ⟨_,q1⟩;obtain⟨d2,q2'⟩:=old k ⟨_,q2⟩;exact s.apart j k d1 d2 c q1' q2' q3 q4
theorem OSt.wrL{i:Nat}{ds:List D}(s:OSt K C b ρ os σ H Hf)(eo:ρ[i]? = Ob (Ob<|.own ds)):∃p vs,σ[i]? = Ob (Ob<|.ref p)/\H p=Ob (.lst vs)/\Reps K Hf ds vs/\∀ds' vs',Reps K Hf ds' vs'->OSt K C b (ρ.set i<|Ob (.own ds')) os σ (upd H p<|.lst vs') Hf:=by
 obtain⟨R,r1,r2,r3⟩:=s.ob;obtain⟨v,h1,p,vs,rfl,h2,h3,h4,h5⟩:=r3.is i _ eo;refine⟨p,vs,h1,h2,h5,λds' vs' r=>?_⟩;obtain⟨n1,n2⟩:=ak9 h4;have g:Chg [p] H Hf (upd H p<|.lst vs') Hf:=Chg.wr s.same (by simp) h3;exact⟨s.gr.trans g λx hx=>.inr (by rw[bh.mp hx];exact n2),R,r1.chg g λx hx z=>n1 (by rw[← bh.mp z];exact hx),r2,r3.wrL eo h1 h2 h3 h4 r⟩
theorem Reps.setAt{d:D}{v:V}(r:Rep K Hf d v):∀{ds:List D}{vs:List V}{j:Nat},Reps K Hf ds vs->Reps K Hf (ds.set j d) (vs.set j v)
 | [],_,j,h=>by cases h;exact rfl
 | x::ds,_,0,⟨u,t,e,h1,h2⟩=>by subst e;exact⟨v,t,rfl,r,h2⟩
 | x::ds,_,j+1,⟨u,t,e,h1,h2⟩=>by subst e;exact⟨u,_,rfl,h1,Reps.setAt r h2⟩
end
section
variable {X:Cx}{C:Addr}
def bu0(i:Nat)(f g:UD):UX:=λρ q=>(f ρ q).bind λx=>(g ρ x.2).bind λy=>match ρ[i]?,y.1 with
 | some (Ob (.own ds)),.int k=>(ixN ds.length k).map λj=>.nx (ρ.set i<|Ob (.own<|ds.set j x.1)) y.2
 | _,_=>Oa
def ci0(i:Nat)(hf:UE X C eu f)(hg:UE X C ei g)(hN:X.N[i]? = Ob x)(hv:Vis X.env.scope x)(hd:(x==("__debug__" : Str))=false)(hcd:(x==("__classdict__" : Str))=false)
  (hs:swapsWithSole [.Subscript (.Name x p) ei p2] eu pos.line X.env=pure false) (hw:swappedStores [.Subscript (.Name x p) ei p2] eu X.env=pure Oa)
  (ha:∀v,assign (.Subscript (.Name x p) ei p2) X.env v=(do
   let ov ← holding [v] (eval (.Name x p) X.env)
   let iv ← holding [v,ov] (eval ei X.env)
   standAt p2
   holding [v,ov,iv] (setItem ov iv v)
   release [v,ov,iv] [])):US X C (.Assign [.Subscript (.Name x p) ei p2] eu pos) (bu0 i f g):=λρ q fl w no=>by
 obtain⟨⟨d,q1⟩,w1,w⟩:=xbo w;obtain⟨⟨y,q2⟩,w2,w⟩:=xbo w;split at w
 .rename_i ds k eo ey;cases ey;obtain⟨j,w3,w4⟩:=xmo w;cases w4;obtain⟨l1,a1⟩:=hf ρ q d q1 w1 no;obtain⟨l2,a2⟩:=hg ρ q1 _ q2 w2 (by rw[l1];exact no);refine⟨at7 (by rw[l2,l1];exact no) (by intro _ z;cases z),λb as l=>?_⟩;have eo':(sub as ρ)[i]? = Ob (Ob<|.own ds):=by unfold sub;rw[av,eo];rfl
  refine L9 (by1 (a1 b as l) (cm1 (V4 hN hv hd hcd) (a2 b as<|l.trans l1.symm) bw6 ha) hs hw rfl) λEn σ H ⟨Hf,st,kk⟩=>⟨Hf,st,λv H1 Hf1 s1 e1 r1=>?_⟩
  obtain⟨p0,vs0,h1,h2,h5,_⟩:=s1.wrL eo';refine⟨_,h1,Hf1,s1,λu H2 Hf2 s2 e2 r2=>?_⟩;cases r2;obtain⟨p1,vs1,g1,g2,g5,g6⟩:=s2.wrL eo';rw[h1]at g1;cases g1;refine⟨p0,vs1,k,j,rfl,rfl,g2,by rw[g5.length];exact w3,?_⟩;exact aD0 kk (l.trans<|l1.symm.trans l2.symm) σ _ Hf2 (by rw[bc9];exact g6 _ _<|Reps.setAt (r1.mono e2) g5)<|e1.trans e2
 .cases w
end
abbrev ba5:=List<|Str×DF×Nat
def KM(K:aa)(C:eR)(m qual:Str)(st:Stmt):Prop:=∃(f:eR) (oc:eP) (od:Option eR) (sl:Array (Option eP)) (kV dc pm:eP) (an:Option eR) (cd ct:eP),
 PySem.W.findIn K (.ref C) m=Ob (Ob<|.ref f)/\PySem.W.isFn K (.ref f)=true/\K.lookup f=Ob ⟨oc,od,.func<|bp m qual (V3 st) (G0 st) (B9 st) .none kV dc pm an cd ct,sl⟩/\bT K cd qual=true/\aG K (.ref f)=true
structure FitO (S:Sg) (ms:ba5) (C:eR) (fn:List Str) (c:Kx) (X:Cx):Prop where
 fit:Fit S c X
 foc:FoC X.K C fn
 mts:∀m F n,ms.lookup m=Ob (F,n)->aQ5 X C m n F
def ah1(n:Nat)(a:eR)(ds:List D):Rho:=Ob (.opq a)::Q5 n ds
def aF2{K:aa}{H0 H Hf:Hp}{x:Str}{N:List Str}{ds:List D}{vs:List V}(r:Reps K Hf ds vs):Slots K H0 (ah1 N.length a ds) (L2.start (x::N) (.ref a::vs)) H Hf:=by
 have s:=n8 (H0:=H0) (H:=H) (N:=N) r;have e:L2.start (x::N) (.ref a::vs)=Ob (.ref a)::L2.start N vs:=by unfold L2.start;simp
 rw[e];refine⟨by unfold ah1;simp[s.len],λi b h=>?_,λi j d1 d2 a h1 h2 h3 h4=>?_⟩
 .cases i with
  | zero=>cases h;exact⟨_,rfl,rfl⟩
  | succ i=>exact s.is i b h
 .cases i with
  | zero=>cases h1
  | succ i=>cases j with
   | zero=>cases h2
   | succ j=>exact congrArg _<|s.apart i j d1 d2 a h1 h2 h3 h4
section
variable {P:Program}{w:World}{K:PySem.W.Frag}{mg:Str->Option Value}{base:Heap}{cs:List (Str×D)}{bl:List Str}{C:Addr}{ms:ba5}
def MOk(P:dO)(w:World)(K:aa)(mg:Str->Option eP)(base:Heap)(C:eR)(k:Nat)(ms:ba5):Prop:=∀m F n,ms.lookup m=Ob (F,n)->∃(f:eR) (fd:dQ) (ps:List Str),
 FnOk P w K mg base CX0 k f fd ps (spD K C (n+1) F)/\Meth K C m f/\M3 K fd ps []
def MOk.nil:MOk P w K mg base C 0 []:=λx F n h=>by cases h
theorem MOk.mono(T:MOk P w K mg base C j ms)(h:j<=k):MOk P w K mg base C k ms:=λx F n e=>by
 obtain⟨f,fd,ps,h1,h2⟩:=T x F n e;exact⟨f,fd,ps,h1.mono h,h2⟩
def MOk.cons(T:MOk P w K mg base C k ms)(h:∃(f:eR) (fd:dQ) (ps:List Str),FnOk P w K mg base CX0 k f fd ps (spD K C (n+1) F)/\Meth K C m f/\M3 K fd ps []):MOk P w K mg base C k ((m,F,n)::ms):=λy G j e=>by
 rw[aH]at e;split at e
 .rename_i q;cases e;simp only[beq_iff_eq]at q;subst q;exact h
 .exact T y G j e
def BdM(d:Fd)(qual:Str):Prop:=∀(kV doc pm:eP) (an:Option eR) (cdv ct:eP),UA d.ps.length λus=>bindArgs (bp d.x qual (V3 d.st) (G0 d.st) (B9 d.st) .none kV doc pm an cdv ct) ⟨us,[]⟩=pure (d.ps.zip us)
end
abbrev MR:=Fo->List D->Option Str
def EN(K:aa)(C:eR)(b:Bs)(q:Os)(D:eR):XK:=λcls _ H'=>cls=.ref D/\∃ρ σ H1 Hf1,OSt K C b ρ q σ H1 Hf1/\B8 H1 H'
def OuU(X:Cx)(C:eR)(m:Bool)(b:Bs)(pins:List (eR×Obj))(D:eR)(q:Os)(e:eP)(s':eQ):Prop:=∃σ1 H1 s1,Inv X pins σ1 H1 s1 /\
 ((m=true/\(∃ρ1 Hf1,OSt X.K C b ρ1 q σ1 H1 Hf1)/\∃h' a vs,s'={ s1 with heap:=h' }/\e=.ref a/\Heap.MadeExcOf s1.heap h' a (.ref D) vs)\/CX1 X.prog X.w X.stack H1 s1 (EN X.K C b q D) e s')
def ORs(X:Cx)(C:eR)(m:Bool)(b:Bs)(ρ:Rho)(q:Os)(sts:List Stmt)(x:Str):Prop:=∀D,clA X.K x=Ob D->∀pins s σ H Hf,Inv X pins σ H s->OSt X.K C b ρ q σ H Hf->eh (ez X.prog X.w) X.A (execs sts X.env) (λ_ _=>False) (OuU X C m b pins D q) s
def OR(X:Cx)(C:eR)(m:Bool)(b:Bs)(ρ:Rho)(q:Os)(st:Stmt)(x:Str):Prop:=∀D,clA X.K x=Ob D->∀pins s σ H Hf,Inv X pins σ H s->OSt X.K C b ρ q σ H Hf->eh (ez X.prog X.w) X.A (exec st X.env) (λ_ _=>False) (OuU X C m b pins D q) s
def ORX(X:Cx)(C:eR)(m:Bool)(b:Bs)(ρ:Rho)(q:Os)(e:Expr)(x:Str):Prop:=∀D,clA X.K x=Ob D->∀pins s σ H Hf,Inv X pins σ H s->OSt X.K C b ρ q σ H Hf->eh (ez X.prog X.w) X.A (eval e X.env) (λ_ _=>False) (OuU X C m b pins D q) s
def bw3(K:aa)(C:eR)(n:Nat)(R:MR):Sp:=λvs H _ E=>∃a us Hf c o ds x D,vs=.ref a::us/\us.length=n/\B8 Hf H/\FoAt K C H Hf a c o/\Reps K Hf ds us/\R o ds=Ob x/\clA K x=Ob D /\
 ∀H' Hf' c',Chg (cells a c) H Hf H' Hf'->FoAt K C H' Hf' a c' o->(∀y∈cells a c',y∈cells a c\/H y=Oa)->∀H'',B8 H' H''->E (.ref D) Oa H''
def cc1(X:Cx)(C:eR)(m:Str)(n:Nat)(R:MR):Prop:=∃k f fd ps,FnOk X.prog X.w X.K X.mg X.base (CX1 X.prog X.w) k f fd ps (bw3 X.K C n R)/\Room k X.A/\Meth X.K C m f/\M3 X.K fd ps []
def ck6{l:List α}{j:Nat}{x:α}(h:l[j]? = Ob x):l.set j x=l:=by
 apply cb;intro i;rw[bv];split
 .rename_i e;subst e;rw[if_pos (ag.mp h).1,h]
 .rfl
section
variable {X:Cx}{C:Addr}{m:Bool}{b:Bs}{ρ ρ' ρa:Rho}{q:Os}{st:Stmt}{sts:List Stmt}{o:Fo}(hx:∀e s,X.xe e s->False)
include hx
def bz7(h:OS X C b ρ q st (.nx ρ' q))(r:ORs X C m b ρ' q sts x):ORs X C m b ρ q (st::sts) x:=by
 intro D hD pins s σ H Hf I st0;refine wpAny_execs_cons (noX hx (h pins s σ H { nx:=λσ' H'=>∃Hf',OSt X.K C b ρ' q σ' H' Hf',rt:=λ_ _=>False } I ⟨Hf,st0,λσ' H' Hf' a _=>⟨Hf',a⟩⟩) λfl s1 z=>?_);cases fl with
 | next =>
  obtain⟨σ1,H1,I1,Hf1,a1⟩:=z;exact r D hD pins s1 σ1 H1 Hf1 I1 a1
 | ret v=>obtain⟨_,_,_,_,_,z⟩:=z;exact z.elim
 | brk=>obtain⟨_,_,_,z⟩:=z;exact z.elim
 | cont=>obtain⟨_,_,_,z⟩:=z;exact z.elim
omit hx in
def bf3(h:OR X C m b ρ q st x):ORs X C m b ρ q (st::sts) x:=λD hD pins s σ H Hf I st0 =>wpAny_execs_cons<|thn (h D hD pins s σ H Hf I st0) λ_ _ z=>z.elim
omit hx in
def cn5(h:ORX X C m b ρ q e x)(hs:swapsWith e (Ob<|.Name y pos') pos.line X.env=pure false):OR X C m b ρ q (.Assign [.Name y pos'] e pos) x:=λD hD pins s σ H Hf I st0 =>wpAny_Assign_Name (thn (h D hD pins s σ H Hf I st0) λ_ _ z=>z.elim) hs
def bz6{k:Nat}{f:eR}{fd:dQ}{ps:List Str}{n:Nat}{R:List D->Option Str}{x y:Str}{e:Expr}{es:List Expr}{ds:List D}{p pos:Pos}(Fk:FnOk X.prog X.w X.K X.mg X.base (CX1 X.prog X.w) k f fd ps (spR X.K n R))(hr:Room k X.A)(hg:Gl X x)(hm:X.mg x=Ob (.ref f))(hk:aG X.K (.ref f)=true)(hb:M3 X.K fd ps [])
  (ha:PA X (e::es) (λσ H Q=>∃Hf,OSt X.K C b ρ q σ H Hf/\∀vs H' Hf',OSt X.K C b ρ q σ H' Hf'->B8 Hf Hf'->Reps X.K Hf' ds vs->Q vs H')) (hn:ds.length=n) (hR:R ds=Ob y) (hdb:(x==("__debug__" : Str))=false) (he:dI (e::es) X.env=(false,eval e X.env)::dI es X.env) (hpl:(backTo pos<|dI es X.env).any (·.1)=false) :
  ORX X C m b ρ q (.Call (.Name x p) (e::es) [] pos) y:=by
 intro D hD pins s σ H Hf I st;refine wpAny_Call_Name_kw (c7 I hg hm ?_ hdb);refine PySem.W.callWith_K (h₀:=X.base) I.ok.mod.kin hk (noX hx (ha pos pins s σ H (λvs H'=>∃Hf',OSt X.K C b ρ q σ H' Hf'/\Reps X.K Hf' ds vs) I ⟨Hf,st,λvs H1 Hf1 s1 _ r1=>⟨Hf1,s1,r1⟩⟩) λus s1 ⟨vs,H1,I1,r,Hf1,a1,rp⟩=>⟨I1.kIn,?_⟩) he hpl;have sp:spR X.K n R vs H1 (λ_ _=>False) (EN X.K C b q D):=⟨by rw[rp.length,hn],Hf1,ds,y,D,a1.same,rp,hR,hD,λH' sm=>⟨rfl,ρ,σ,H1,Hf1,a1,sm⟩⟩;have hl2:us.length=ps.length:=by rw[← r.length];exact Fk.len vs H1 _ _ sp
 have bd:BindsTo s1 fd ⟨us,[]⟩ (ps.zip us):=by
  have:=hb s1 us I1.kIn (by rw[aA];exact hl2)
  rwa [aA]at this
 refine wpAny_call (codeAny_mono (Fk.run X.A X.stack s1 H1 ⟨us,[]⟩ us vs _ _ hr I1.env0 bd r sp) λrs s' hq=>?_);cases rs with
 | error e=>exact⟨σ,H1,s1,I1,.inr hq⟩
 | ok fl =>
  cases fl with
  | ret u=>obtain⟨_,_,_,_,_,_,_,z⟩:=hq;exact z.elim
  | next=>exact False.elim hq
  | brk=>exact False.elim hq
  | cont=>exact False.elim hq
def bn5{D:eR}{k:Nat}{fa:eR}{fd:dQ}{ps:List Str}{R:MR}{vs:List V}{us:List eP}{y:Str}{c0:Cel}(Fk:FnOk X.prog X.w X.K X.mg X.base (CX1 X.prog X.w) k fa fd ps (bw3 X.K C n R))(hr:Room k X.A)(hb:M3 X.K fd ps [])(hD:clA X.K y=Ob D)(g2:Grow H Hf H2 Hf2)(I2:Inv X pins σ H2 s2)(f1:FoAt X.K C H Hf a c0 o)
  (f3:∀{H' Hf':Hp}{c':Cel},Chg (cells a c0) H Hf H' Hf'->FoAt X.K C H' Hf' a c' o->(∀x∈cells a c',x∈cells a c0\/H x=Oa)->OSt X.K C b ρ q σ H' Hf') (rp:Reps X.K Hf2 ds vs) (hn:vs.length=n) (r:D7 vs us) (e:R o ds=Ob y) :
  eh (ez X.prog X.w) X.A (call (.ref fa) (.ref a::us)) (λ_ _=>False) (OuU X C m b pins D q) s2:=by
 have sp:bw3 X.K C n R (.ref a::vs) H2 (λ_ _=>False) (EN X.K C b q D):=⟨a,vs,Hf2,c0,o,ds,y,D,rfl,hn,g2.sub,f1.grow g2,rp,e,hD,λH' Hf' c' g3 f4 n3 H'' sm=>⟨rfl,ρ,σ,H',Hf',f3 ((Chg.of g2).trans g3 λ_ h=>.inl h) f4 λy hy=>(n3 y hy).imp id λz=>aX λw=>(Chg.of (S:=[]) g2).kp y w z,sm⟩⟩;have rv:D7 (.ref a::vs) (.ref a::us):=.cons rfl r;have hl2:(eK a::us).length=ps.length:=by rw[← rv.length];exact Fk.len _ H2 _ _ sp
 have bd:BindsTo s2 fd ⟨.ref a::us,[]⟩ (ps.zip (.ref a::us)):=by
  have:=hb s2 (.ref a::us) I2.kIn (by rw[aA];exact hl2)
  rwa [aA]at this
 refine wpAny_call (codeAny_mono (Fk.run X.A X.stack s2 H2 ⟨.ref a::us,[]⟩ (.ref a::us) (.ref a::vs) _ _ hr I2.env0 bd rv sp) λrs s' hq=>?_);cases rs with
 | error e=>exact⟨σ,H2,s2,I2,.inr hq⟩
 | ok fl =>
  cases fl with
  | ret u=>obtain⟨_,_,_,_,_,_,_,z⟩:=hq;exact z.elim
  | next=>exact False.elim hq
  | brk=>exact False.elim hq
  | cont=>exact False.elim hq
def bz5{x y mt:Str}{e:Expr}{es:List Expr}{p apos pos:Pos}{ds:List D}{R:MR}{f:Rho->Option (List D)}(M:cc1 X C mt n R)(c:FoC X.K C fn)(A:At1 X ρ q x i j a o)(nf:o.lookup mt=Oa)(ha:JA X (e::es) f)(w:f ρa=Ob ds)(sb:∀{H0 H Hf:Hp}{σ:L2.St},Slots X.K H0 ρ σ H Hf->Slots X.K H0 ρa σ H Hf)(r:R o ds=Ob y)(hn:(e::es).length=n:=by rfl)
  (hst:dI (e::es) X.env=(false,eval e X.env)::dI es X.env:=by rfl) (hpl:(backTo pos<|dI es X.env).any (·.1)=false:=by rfl)
  (hl:(apos.endLine==pos.line)=true:=by first|assumption|rfl) (hfm:methodCallForm ((e::es).length+([]:List dU).length) (backTo pos<|dI (e::es) X.env) (backToKw pos<|keywordEach [] X.env)=true:=by rfl) :
  ORX X C m b ρ q (.Call (.Attribute (.Name x p) mt apos) (e::es) [] pos) y:=by
 intro D hD pins s σ H Hf I st;obtain⟨k,fa,fd,ps,Fk,hr,hm,hb⟩:=M;obtain⟨c0,f1,f3⟩:=st.focus A.w A.o;refine PySem.W.methodCall_KW (noX hx (V4 A.n A.v A.d1 A.d2 pins s σ H (λv H'=>v=.ref a/\H'=H) I ⟨_,at4 st A.s,rfl,rfl⟩) λu s1 ⟨xv,H1,I1,rx,e1,e2⟩=>?_) (aH7 hl hfm);subst e1 e2;obtain rfl:u=eK a:=rx;refine aa5 I1 f1.ins c.cl hm (bA9 f1 nf) ?_;refine PySem.W.callWith_K (first:=[.ref a]) (h₀:=X.base) I.ok.mod.kin hm.kp (noX hx (ha.run ρa ds w pos pins s1 σ H1 (λvs H'=>∃Hf',Grow H1 Hf H' Hf'/\Reps X.K Hf' ds vs) I1 ⟨_,Hf,st.same,sb st.sl,λvs H' Hf' g r=>⟨Hf',g,r⟩⟩) λus s2 ⟨vs,H2,I2,rv,Hf2,g2,rp⟩=>⟨I2.kIn,?_⟩) hst hpl;exact bn5 Fk hr hb hD g2 I2 f1 (λg f' n=>by have:=f3 g f' n;rwa [ck6 A.o]at this) rp (by rw[rp.length,ha.len ρa ds w,hn]) rv r
end
section
variable {P:Program}{w:World}{K:PySem.W.Frag}{mg:Str->Option Value}{base:Heap}{cs:List (Str×D)}{bl:List Str}{C:Addr}{ms:ba5}
abbrev ay1:=List<|Str×MR×Nat
structure FitN (S:Sg) (ms:ba5) (rs:ay1) (rt:aA7) (cl:List Str) (C:eR) (fn:List Str) (c:Kx) (X:Cx):Prop where
 o:FitO S ms C fn c X
 rfs:∀x R n,rt.lookup x=Ob (R,n)->∃(k:Nat) (f:eR) (fd:dQ) (ps:List Str),FnOk X.prog X.w X.K X.mg X.base (CX1 X.prog X.w) k f fd ps (spR X.K n R)/\Room k X.A/\X.mg x=Ob (.ref f)/\aG X.K (.ref f)=true/\M3 X.K fd ps []
 ns:∀x C,clA X.K x=Ob C->X.mg x=Ob (.ref C)
 cls:∀x,cl.contains x=true->n5 X.K x=true
 rms:∀m R n,rs.lookup m=Ob (R,n)->cc1 X C m n R
def MRk(P:dO)(w:World)(K:aa)(mg:Str->Option eP)(base:Heap)(C:eR)(k:Nat)(rs:ay1):Prop:=∀m R n,rs.lookup m=Ob (R,n)->∃(f:eR) (fd:dQ) (ps:List Str),
 FnOk P w K mg base (CX1 P w) k f fd ps (bw3 K C n R)/\Meth K C m f/\M3 K fd ps []
def MRk.nil:MRk P w K mg base C 0 []:=λx F n h=>by cases h
theorem MRk.mono{rs:ay1}(T:MRk P w K mg base C j rs)(h:j<=k):MRk P w K mg base C k rs:=λx F n e=>by
 obtain⟨f,fd,ps,h1,h2⟩:=T x F n e;exact⟨f,fd,ps,h1.mono h,h2⟩
def cn9{rs:ay1}{cl:List Str}(Rk:MRk P w K mg base C k rs)(Fk:TRk P w K mg base k rt)(Mk:MOk P w K mg base C k ms)(M:Md K mg cs bl)(T:TOk P w K mg base k tab)(Ck:∀x,cl.contains x=true->n5 K x=true)(Fc:FoC K C fn)(d:Fd)(hN:d.N=s0::N)(hp:d.ps.length=n+1)(ok:d.okB=true)(Fn:Fun K d.x qual d.st f fd)
  (js:∀X:Cx,(∀e s,X.xe e s->False)->FitN ⟨tab,cs,bl⟩ ms rs rt cl C fn d.c X->∀b a o ds x,ds.length=n->R o ds=Ob x->ORs X C true b (ah1 N.length a ds) [(a,o)] (G0 d.st) x):FnOk P w K mg base (CX1 P w) (k+1) f fd d.ps (bw3 K C n R):=by
 have Sc:=Fd.sc ok;obtain⟨oc,od,kV,doc,pm,an,cdv,ct,osl,rfl,lk,hcd⟩:=Fn.ex;refine ax0 lk hcd Sc (λvs H Q E h=>?_) λA outer s H vs Q E hr hsp=>?_
 .obtain⟨a,us,Hf,c,o,ds,x,D,rfl,h2,_⟩:=h;simp[h2,hp]
 obtain⟨a,us,Hf,c,o,ds,x,D,rfl,h2,ss,fo,rp,e,hD,hE⟩:=hsp
 have X0:FitN ⟨tab,cs,bl⟩ ms rs rt cl C fn d.c (cx1 P w K mg base d.N qual (B9 d.st) f cdv A outer s H E).nox:=by
  refine⟨⟨⟨rfl,rfl,Sc.nd,rfl,rfl,hr.units,λ_=>⟨λ_=>rfl,Sc.kind⟩,λx F n h=>?_,M.css,M.bls⟩,Fc,λm F n h=>?_⟩,λx R n h=>?_,λx C h=>aZ8 M h,Ck,λm R n h=>?_⟩
  .exact(T x F n h).imp (λ⟨f',fd',ps,h1,h2,h3,h4⟩=>⟨k,f',fd',ps,h1,hr,h2,h3,h4⟩) id
  .obtain⟨f',fd',ps,h1,h2,h3⟩:=Mk m F n h;exact⟨k,f',fd',ps,h1,hr,h2,h3⟩
  .obtain⟨f',fd',ps,h1,h2,h3,h4⟩:=Fk x R n h;exact⟨k,f',fd',ps,h1,hr,h2,h3,h4⟩
  .obtain⟨f',fd',ps,h1,h2,h3⟩:=Rk m R n h;exact⟨k,f',fd',ps,h1,hr,h2,h3⟩
 have hl:ds.length=n:=by rw[← h2,rp.length]
 have st0:OSt K C ⟨cells a c,H,Hf⟩ (ah1 N.length a ds) [(a,o)] (L2.start d.N (.ref a::us)) H Hf:=⟨Chg.of<|Grow.refl ss,cells a c++[],.cons fo (by simp) .nil,λx hx=>.inl (by simpa using hx),by rw[hN];exact aF2 rp⟩
 have fin:∀ρ' σ' H' Hf' H'',OSt K C ⟨cells a c,H,Hf⟩ ρ' [(a,o)] σ' H' Hf'->B8 H' H''->E (.ref D) Oa H'':=λρ' σ' H' Hf' H'' s' sm=>by
  obtain⟨R,ob,hR,_⟩:=s'.ob;cases ob with
  | @cons _ c' _ _ R0 fo' _ _=>exact hE H' Hf' c' s'.gr fo' (λx hx=>hR x<|am _ hx) H'' sm
 refine⟨λ_ σ H'=>σ=L2.start d.N (.ref a::us)/\H'=H,λpins s1 σ H1 D' I z=>?_,rfl,rfl⟩;obtain⟨rfl,rfl⟩:=z;refine dE (js _ (λe s z=>z) X0 ⟨cells a c,H1,Hf⟩ a o ds x hl e D hD pins s1 _ H1 Hf (I.wish _) st0) (λ_ _ z=>z.elim) λex s' ho=>?_
 obtain⟨σ1,H2,s2,I2,o2⟩:=ho;have I2:=I2.unwish;rcases o2 with⟨_,⟨ρ1,Hf1,st1⟩,h',a',vs',rfl,rfl,hm⟩|hc
 .exact aw6 I2 hm (fin ρ1 _ H2 Hf1 H2 st1<|B8.refl _)
 .refine aG9 I2 (CX1.mono hc λcls H' z=>?_);obtain⟨rfl,ρ3,σ3,H3,Hf3,st3,sm⟩:=z;exact fin ρ3 σ3 H3 Hf3 H' st3 sm
def MRk.add{rs:ay1}{cl:List Str}(Rk:MRk P w K mg base C k rs)(Fk:TRk P w K mg base k rt)(Mk:MOk P w K mg base C k ms)(M:Md K mg cs bl)(T:TOk P w K mg base k tab)(Ck:∀x,cl.contains x=true->n5 K x=true)(Fc:FoC K C fn)(d:Fd)(h:KM K C d.x qual d.st)(R:MR)(n:Nat)(s0:Str)(N:List Str)
  (js:∀X:Cx,(∀e s,X.xe e s->False)->FitN ⟨tab,cs,bl⟩ ms rs rt cl C fn d.c X->∀b a o ds x,ds.length=n->R o ds=Ob x->ORs X C true b (ah1 N.length a ds) [(a,o)] (G0 d.st) x)
  (hN:d.N=s0::N:=by rfl) (hp:d.ps.length=n+1:=by rfl) (ok:d.okB=true:=by kernel_rfl) (bd:BdM d qual:=by repeat (first|exact rfl|intro _)):MRk P w K mg base C (k+1) ((d.x,R,n)::rs):=by
 obtain⟨f,oc,od,sl,kV,dc,pm,an,cd,ct,ha,hi,l,cc,kk⟩:=h;have Fn:=aI6 l cc kk;intro y G j e;rw[aH]at e;split at e
 .rename_i q;cases e;simp only[beq_iff_eq]at q;subst q;exact⟨f,_,d.ps,cn9 Rk Fk Mk M T Ck Fc d hN hp ok Fn js,⟨ha,hi,kk⟩,.all (ua<|bd kV dc pm an cd ct)⟩
 .exact Rk.mono (cw k) y G j e
end
section
variable {X:Cx}{C:Addr}{st:Stmt}{sts:List Stmt}
abbrev UC:=Rho->Fs->Option Str
def UX1(X:Cx)(C:eR)(e:Expr)(r:UC):Prop:=∀ρ q x,r ρ q=Ob x->okR q.length ρ=true->∀b (as:List eR),as.length=q.length->ORX X C false b (sub as ρ) (as.zip q) e x
def UR(X:Cx)(C:eR)(st:Stmt)(r:UC):Prop:=∀ρ q x,r ρ q=Ob x->okR q.length ρ=true->∀b (as:List eR),as.length=q.length->OR X C false b (sub as ρ) (as.zip q) st x
def URs(X:Cx)(C:eR)(sts:List Stmt)(r:UC):Prop:=∀ρ q x,r ρ q=Ob x->okR q.length ρ=true->∀b (as:List eR),as.length=q.length->ORs X C false b (sub as ρ) (as.zip q) sts x
def wNo:UC:=λ_ _=>Oa
def aK6:UX1 X C e wNo:=λ_ _ _ h=>nomatch h
def cA9:UR X C st wNo:=λ_ _ _ h=>nomatch h
def ci3:URs X C sts wNo:=λ_ _ _ h=>nomatch h
def bc1(h:UR X C st r):URs X C [st] r:=λρ q x w no b as l=>bf3<|h ρ q x w no b as l
def wM(i:Nat)(mt:Str)(R:MR)(f:Rho->Option (List D)):UC:=λρ q=>(i8 i ρ q).bind λp=>if(p.2.lookup mt).isNone then(f<|era ρ).bind λds=>R p.2 ds else Oa
def bO7{e:Expr}{es:List Expr}{f:Rho->Option (List D)}(hx:∀e s,X.xe e s->False)(i:Nat)(M:cc1 X C m n R)(c:FoC X.K C fn)(hn:X.N[i]? = Ob x)(hv:Vis X.env.scope x)(h1:(x==("__debug__" : Str))=false)(h2:(x==("__classdict__" : Str))=false)  (ha:JA X (e::es) f) (hl:(apos.endLine==pos.line)=true) (hz:(e::es).length=n)
  (hst:dI (e::es) X.env=(false,eval e X.env)::dI es X.env) (hpl:(backTo pos<|dI es X.env).any (·.1)=false) (hfm:methodCallForm ((e::es).length+([]:List dU).length) (backTo pos<|dI (e::es) X.env) (backToKw pos<|keywordEach [] X.env)=true) :
  UX1 X C (.Call (.Attribute (.Name x p) m apos) (e::es) [] pos) (wM i m R f):=λρ q y w no b as l=>by
 obtain⟨⟨j,o⟩,e1,w⟩:=xbo w;split at w
 case isFalse=>cases w
 rename_i nf;obtain⟨ds,e2,e3⟩:=xbo w;obtain⟨a,ea,A⟩:=i7 e1 (ah2 no) l hn hv h1 h2;exact bz5 hx M c A (by simpa using nf) ha e2 (λs=>by rw[← r8 as ρ];exact s.era) e3 hz hst hpl hl hfm
def cR2(r:UC)(f:UX)(r2:UC):UC:=λρ q=>match r ρ q with
 | some x=>Ob x
 | none=>match f ρ q with
  | some (.nx ρ' q')=>r2 ρ' q'
  | _=>Oa
def bt9(r:UC)(f:UX)(i:Nat)(g:DS):UX:=λρ q=>match r ρ q with
 | some x=>(match g ((aj ρ.length Oa).set i (Ob (.exc x))) with
  | some (.rt d)=>Ob<|.rt d q
  | _=>Oa)
 | none=>f ρ q
def aT8{K:aa}{H0 H Hf:Hp}{σ:L2.St}:Slots K H0 (aj σ.length Oa) σ H Hf:=by
 have no:∀(i:Nat) (b:B),(aj σ.length (Oa:Option B))[i]?≠Ob (Ob b):=λi b h=>by
  rw[be]at h;split at h<;>cases h
 exact⟨bw,λi b h=>(no i b h).elim,λi j d1 d2 a h=>(no i _ h).elim⟩
def ch7(hx:∀e s,X.xe e s->False)(hex:X.ex=[])(hst:X.stack=X.env::X.outer)(hfr:X.env.frame=Ob X.env.locals)
  (hb:USs X C body f) (hr:URs X C body r) (hgc:Gl X c) (hmc:∀D,clA X.K c=Ob D->X.mg c=Ob (.ref D)) (hdc:(c==("__debug__" : Str))=false) (hcb:n5 X.K c=true)
  (hsub:∀ρ q x,r ρ q=Ob x->n5 X.K x=true/\bv2 X.K x c=true)
  (hN:X.N.Nodup) (hi:X.N[i]? = Ob n) (hl:X.env.scope.names.lookup n=Ob .local) (hh:∀a:eR,JSs (Cx.held X<|.ref a) (b₀::suite) gd) :
  US X C (.Try body [.ExceptHandler (Ob<|.Name c np) (Ob n) (b₀::suite) hpos] [] [] pos) (bt9 r f i gd):=λρ q fl w no=>by
 unfold bt9 at w;split at w
 case h_2 =>
  obtain⟨o1,a1⟩:=hb ρ q fl w no;refine⟨o1,λb as l pins s σ H En I hw=>wpAny_Try_except<|noX hx (a1 b as l pins s σ H En I hw) λf' s1 z=>?_⟩;cases f' with
  | next=>exact wpAny_execs_nil z
  | ret v=>exact z
  | brk=>exact z
  | cont=>exact z
 rename_i x er
 obtain⟨d,hd,rfl⟩:∃d,gd ((aj ρ.length Oa).set i<|Ob (.exc x))=Ob (.rt d)/\fl=.rt d q:=by
  split at w
  .rename_i d e;cases w;exact⟨d,e,rfl⟩
  .cases w
 refine⟨rfl,λbb as l pins s σ H En I hw=>?_⟩;obtain⟨Hf,st0,ends⟩:=hw;obtain⟨hxb,hsb⟩:=hsub ρ q x er
 obtain⟨C0,hC⟩:∃C,clA X.K x=Ob C:=by
  unfold n5 at hxb;cases e:clA X.K x with
  | none=>rw[e]at hxb;cases hxb
  | some C=>exact⟨C,rfl⟩
 obtain⟨D,hD⟩:∃D,clA X.K c=Ob D:=by
  unfold n5 at hcb;cases e:clA X.K c with
  | none=>rw[e]at hcb;cases hcb
  | some C=>exact⟨C,rfl⟩
 have qC:bM X.K C0 veB "ValueError.__new__" = true:=by unfold n5 at hxb;rw[hC]at hxb;exact hxb
 have qD:bM X.K D veB "ValueError.__new__" = true:=by unfold n5 at hcb;rw[hD]at hcb;exact hcb
 obtain⟨nm,qn,N,bs,bm,hd',sn,sub,ab,col,dd,k0,k1,k2,k3,k5,mN,c1,c2,c3,c4⟩:=ax3 I.mod.kin qC;obtain⟨nm',qn',N',bs',bm',hd'',sn',sub',ab',col',dd',j0,j1,j2,j3,j5,mN',d1,d2,d3,d4⟩:=ax3 I.mod.kin qD
 have hin:(eK C0::bm).contains (.ref D)=true:=by
  unfold bv2 at hsb;rw[hC,hD]at hsb;dsimp only at hsb;split at hsb
  .rename_i lk;have z:=I.mod.kin _ _ lk;rw[c1]at z;cases z;exact hsb
  .cases hsb
 refine wpAny_Try_except (dE (hr ρ q x er no bb as l C0 hC pins s σ H Hf I st0) (λ_ _ z=>z.elim) λex s1 ho=>?_);obtain⟨σ1,H1,s0,I1,o⟩:=ho;rcases o with⟨z,_⟩|hc
 .cases z
 obtain⟨a,C',g,B,H',rfl,os,bare,un,hok,F,cE,ρ2,σ2,H2,Hf2,st2,sm⟩:=hc;cases cE;obtain⟨t,fl0⟩:=F.fly;have nx:∀b:eR,b∉([]:List eR):=λb z=>absurd z (by simp)
 have J:Inv X pins σ1 H' { s1 with heap:=g }:=I1.call' (s':={ s1 with heap:=g }) (ch:=[]) os un hok bare λb z=>absurd z<|nx b
 have key:∀h'':Heap,B.StaysIn h''->s1.heap.UpToSlots h''->Inv X pins σ1 H' { s1 with heap:=h'' }:=λh'' k1 k2=>by
  refine bZ8 (s':={ s1 with heap:=h'' }) I1 os bare un hok F.keep k1 λb o e m=>?_
  obtain⟨z,e2⟩:=F.sl b o e m;obtain⟨_,o',e',hd⟩:=J.stack.mem m;have e':g.get? b=Ob o':=e';rw[e]at e';cases e';obtain⟨z2,q⟩:=k2 b _ e2 hd;exact⟨z2,q⟩
 rw[hst]at fl0;refine wpAny_looks_onW (outer:=X.outer) (by rw[← hst];exact I.ok.frames) hfr fl0 λh4 held4 up4=>?_
 refine wpAny_landsW held4 λh5 fl5 up5=>?_
 have I5:=key h5 fl5.1 (up4.trans up5);obtain⟨ob,hob,hobc⟩:=fl5.there;refine wpAny_handleBy_cons (codeAny_handlers_test<|c7 (Inv.held I5<|.ref a) hgc (hmc D hD) ?_ hdc) (by intro q;cases q);refine cP9 (I5.bk _ _ c1) (I5.bk _ _ d1) hob hobc (d4.hasType<|by decide) ?_;rw[hin];refine codeAny_handlers_suite_as (lands_againW fl5 λh6 fl6 up6=>?_);have I6:=key h6 fl6.1 ((up4.trans up5).trans up6);obtain⟨oe,ws,e6,ec6,ed6,_⟩:=fl6.first;have nB:B.get? a=Oa:=fl6.2.1
 have nf:a∉frs X.stack:=λm=>by
  obtain⟨_,o',e',hd⟩:=I6.stack.mem m;have e':h6.get? a=Ob o':=e';rw[e6]at e';cases e';exact hd ws ed6
 have ng:∀o,Rl s0 H' a->g.get? a=Ob o->False:=λo rr e=>by
  have:=F.keep a o rr e nf;rw[nB]at this;cases this
 have ha:H' a=Oa:=by
  cases e:H' a with
  | none=>rfl
  | some o =>
   obtain⟨u,e'⟩:=V0.is (hok a o e);exact(ng u (.inr (by rw[e];simp)) e').elim
 have n0:s0.heap.get? a=Oa:=by
  cases e:s0.heap.get? a with
  | none=>rfl
  | some o =>
   obtain⟨u,e'⟩:=un.there a o e (nx a);exact(ng u (.inl (by rw[e];simp)) e').elim
 have n00:X.s₀.heap.get? a=Oa:=by
  cases e:X.s₀.heap.get? a with
  | none=>rfl
  | some o =>
   obtain⟨u,e'⟩:=I1.base.there a o e (by rw[hex];exact nx a);rw[n0]at e';cases e'
 have I7:Inv X pins σ1 (upd H' a<|fz oe a) { s1 with heap:=h6 }:=by
  refine Inv.track I6 ha e6 n00 (λp hp z=>?_) (λz=>?_) λy cc e z=>?_
  .have:=(I1.pin p hp).1;rw[z,n0]at this;cases this
  .obtain⟨m,⟨o',_,_,e',_⟩,_⟩:=I1.loc;rw[z,n0]at e';cases e'
  .obtain⟨v,o',e',_⟩:=I1.cell y cc e;rw[z,n0]at e';cases e'
 have gr:Grow H2 Hf2 (upd H' a<|fz oe a) (upd Hf2 a<|fz oe a):=aX7 sm st2.same ha;have st7:=st2.grow gr
 have ln:ρ.length=σ1.length:=by
  have h1:=st0.sl.len;rw[ay]at h1;rw[h1,I.len,I1.len]
 rw[ln]at hd;refine ac0 (X:=Cx.held X<|.ref a) (v:=.ref a) (Inv.held I7<|.ref a) hN hi (.inl hl) rfl (λs8 I8=>?_) (.inr hl);refine dE (hh a _ _ hd _ _ pins s8 _ _ { nx:=λ_ _=>False,rt:=λv Hz=>∃Hf',Grow (upd H' a<|fz oe a) (upd Hf2 a<|fz oe a) Hz Hf'/\Rep X.K Hf' d v } I8 ⟨_,⟨Grow.refl gr.sub,Slots.setExc aT8 ⟨a,oe,C0,rfl,B3,hC,ec6⟩⟩,λv H' Hf' g r=>⟨Hf',g,r⟩⟩) (λfl' s9 z=>?_) λe s z=>(hx e s z).elim
 cases fl' with
 | next=>obtain⟨_,_,_,z⟩:=z;exact z.elim
 | brk=>obtain⟨_,_,_,z⟩:=z;exact z.elim
 | cont=>obtain⟨_,_,_,z⟩:=z;exact z.elim
 | ret u =>
 obtain⟨v,σ9,H9,I9,rv,Hf9,g9,rp⟩:=z;have I9:=Inv.unheld I9 I.ok;obtain⟨m9,hn9,_⟩:=I9.loc;refine wpAny_nameGoes (m:=m9) (by show X.env.scope.names.lookup n=_;exact hl) hn9 (by rw[I.ok.kind];rfl) λh' m' hn' hs'=>?_
 exact⟨v,_,H9,Inv.wipe I9 hn' hs',rv,ends [] _ σ2 v H9 Hf9 (by rw[aA];exact l) (by rw[aA];exact st7.grow g9) rp⟩
end
def ba0:Expr->Option (Expr×List Expr×List dU×Pos)
 | .Call f a k p=>Ob (f,a,k,p)
 | _=>Oa
def cb7:Expr->Option (Expr×Str×Pos)
 | .Attribute o m p=>Ob (o,m,p)
 | _=>Oa
def cb1:Expr->Option (Expr×CmpOp×Expr×Pos)
 | .Compare l [op] [r] p=>Ob (l,op,r,p)
 | _=>Oa
def cJ5:Expr->Option (BoolOp×List Expr×Pos)
 | .BoolOp op l p=>Ob (op,l,p)
 | _=>Oa
def co9:Expr->Option (Expr×Pos)
 | .UnaryOp .Not e p=>Ob (e,p)
 | _=>Oa
def cB3:Expr->Option (List Expr×Nat×Pos)
 | .Tuple es k p=>Ob (es,k,p)
 | _=>Oa
def bQ6(h:cB3 e=Ob t):e=.Tuple t.1 t.2.1 t.2.2:=by cases e<;>first|(cases h;rfl)|cases h
def cb3(h:cJ5 e=Ob t):e=.BoolOp t.1 t.2.1 t.2.2:=by cases e<;>first|(cases h;rfl)|cases h
def bV3(h:co9 e=Ob t):e=.UnaryOp .Not t.1 t.2:=by
 unfold co9 at h;split at h
 .cases h;rfl
 .cases h
def ae6(h:ba0 e=Ob t):e=.Call t.1 t.2.1 t.2.2.1 t.2.2.2:=by cases e<;>first|(cases h;rfl)|cases h
def aJ4(h:cb7 e=Ob t):e=.Attribute t.1 t.2.1 t.2.2:=by cases e<;>first|(cases h;rfl)|cases h
def bi6(h:cb1 e=Ob t):e=.Compare t.1 [t.2.1] [t.2.2.1] t.2.2.2:=by
 unfold cb1 at h;split at h
 .cases h;rfl
 .cases h
structure Mc where
 x:Str
 p:Pos
 m:Str
 ap:Pos
 a:List Expr
 cp:Pos
def mcV(e:Expr):Option Mc:=(ba0 e).bind λt=>match t.2.2.1 with
 | []=>(cb7 t.1).bind λu=>(nmP u.1).map λv=>⟨v.1,v.2,u.2.1,u.2.2,t.2.1,t.2.2.2⟩
 | _=>Oa
def aV7(h:mcV e=Ob t):e=.Call (.Attribute (.Name t.x t.p) t.m t.ap) t.a [] t.cp:=by
 obtain⟨⟨f,a,k,p⟩,h1,h⟩:=xbo h;cases k with
 | cons=>cases h
 | nil =>
  obtain⟨⟨o,m,ap⟩,h2,h⟩:=xbo h;obtain⟨⟨x,q⟩,h3,h⟩:=xmo h;subst h;rw[ae6 h1,aJ4 h2,W8 h3]
def uNo:UD:=λ_ _=>Oa
def uXo:UX:=λ_ _=>Oa
def opU:CmpOp->Option (D->D->Option D)
 | .Eq=>Ob eqD
 | .NotEq=>Ob neD
 | .Is=>Ob isB
 | .IsNot=>Ob ak2
 | _=>Oa
def ck1:Expr->Option (Expr×Expr×Pos)
 | .Subscript a i p=>Ob (a,i,p)
 | _=>Oa
def bd3(h:ck1 e=Ob t):e=.Subscript t.1 t.2.1 t.2.2:=by cases e<;>first|(cases h;rfl)|cases h
section
variable (S:Sg) (c:Kx)
def pE(e:Expr):DE:=(ev S 99).e c e
def bm6(f:Expr->DE):Nat->List Expr->Rho->Option MD
 | _,[]=>mN
 | 0,_::es=>mO<|bm6 f es.length es
 | j+1,e::es=>mC (f e)<|bm6 f j es
def ulE(f:Expr->UD):List Expr->UL
 | []=>ulN
 | e::es=>ulC (f e)<|ulE f es
def oCc(r:Expr->UD)(t:Expr×CmpOp×Expr×Pos):UD:=match opU t.2.1 with
 | some h=>if behindInMarks t.2.1 t.2.2.1 then uNo else uB2 h (r t.1) (r t.2.2.1)
 | none=>uNo
end
section
variable {X:Cx}{C:Addr}
def bH9{args:List Expr}{pos:Pos}(h:args.all pl=true)(n:args.length < 20):methodCallForm (args.length+([]:List dU).length) (backTo pos<|dI args X.env) (backToKw pos<|keywordEach [] X.env)=true:=by
 unfold methodCallForm
 have h1:(backTo pos<|dI args X.env).all (!·.1)=true:=by
  have:=(U9 pos<|dI args X.env).trans (Q1 pos X.env h);rw[List.all_eq_not_any_not];simpa using this
 rw[h1];show(true&&true&&decide _)=true;simp;show args.length+0+0 < 30;omega
def bt6:UE X C e uNo:=λ_ _ _ _ h _=>nomatch h
theorem bh1{f:Expr->DE}(h:∀e,JE X e<|f e):∀(es:List Expr) (j:Nat),es.length<=j->es.all pl=true->JM X i es (bm6 f j es)
 | [],_,_,_=>by unfold bm6;exact cu6
 | e::es,0,l,_=>by simp at l
 | e::es,j+1,l,p=>by
  simp only[aV,ae]at p;exact bh2 (h e) (bh1 h es j (by simpa using l) p.2)<|F6 p.1 _ _
theorem bE4{f:Expr->DE}(h:∀e,JE X e<|f e)(hn:X.N[i]? = Ob x)(hv:Vis X.env.scope x)(h1:(x==("__debug__" : Str))=false)(h2:(x==("__classdict__" : Str))=false):∀(j:Nat) (es:List Expr),es[j]? = Ob (.Name x p)->es.all pl=true->JM X i es (bm6 f j es)
 | _,[],e,_=>by simp at e
 | 0,e::es,q,p=>by
  simp at q;subst q;simp only[aV,ae]at p;exact cu5 (bh1 h es _ (ah _) p.2) hn hv h1 h2<|F6 p.1 _ _
 | j+1,e::es,q,p=>by
  simp only[aV,ae]at p;exact bh2 (h e) (bE4 h hn hv h1 h2 j es (by simpa using q) p.2)<|F6 p.1 _ _
theorem aS3{f:Expr->UD}(h:∀e,UE X C e<|f e):∀es:List Expr,es.all pl=true->UAs X C es (ulE f es)
 | [],_=>ci6
 | e::es,p=>by
  simp only[aV,ae]at p;exact bP7 (h e) (aS3 h es p.2)<|F6 p.1 _ _
end
def oB(f:Stmt->UX):List Stmt->UX
 | []=>av1
 | [s]=>f s
 | s::t::r=>O7 (f s)<|oB f (t::r)
section
variable {X:Cx}{C:Addr}{S:Sg}{c:Kx}
def Z3{st:Stmt}:US X C st uXo:=λ_ _ _ h=>nomatch h
def aQ1:Cm gNo:=λ_ _ _ _ h=>nomatch h
theorem bK8{f:Expr->DG}(h:∀e,Cm<|f e):∀es:List Expr,Cms (ca3 f es)
 | []=>cb0
 | e::es=>bK9 (h e)<|bK8 h es
theorem cf6(S:Sg):∀n c ex,Cm ((ev S n).g c ex)
 | 0,c,ex=>aQ1
 | n+1,c,ex=>by
  show Cm (xG (ev S n) c ex);unfold xG;split
  .split
   .split
    .exact cy2 _
    .exact aQ1
   .exact aQ1
  .split
   .exact cy1 (bK8 (λe=>cf6 S n c e) _)
   .exact aQ1
  .exact aQ1
theorem bf8{f:Stmt->UX}(h:∀st,US X C st<|f st):∀sts,USs X C sts (oB f sts)
 | []=>bO9
 | [s]=>bO8<|h s
 | s::t::r=>bt2 (h s)<|bf8 h (t::r)
end
structure Og3 where
 ms:ba5
 rm:ay1
 cl:Str
 ini:Option (DF×Nat)
 df:List (Str×DF×Nat×Nat)
 fn:List Str
 T:Rg
structure FitW (S:Sg) (O:Og3) (C:eR) (c:Kx) (X:Cx):Prop where
 o:FitO S O.ms C O.fn c X
 make:∀F n,O.ini=Ob (F,n)->cM0 X C O.cl n F
 df:∀x F n j,O.df.lookup x=Ob (F,n,j)->cM3 X C x F n
 rm:∀m R n,O.rm.lookup m=Ob (R,n)->cc1 X C m n R
 r:FitR S O.T c X
 ex:X.ex=[]
 stk:X.stack=X.env::X.outer
 frm:X.env.frame=Ob X.env.locals
def cJ8:Expr->Option (Expr×Operator×Expr×Pos)
 | .BinOp a o b p=>Ob (a,o,b,p)
 | _=>Oa
def cb5(h:cJ8 e=Ob t):e=.BinOp t.1 t.2.1 t.2.2.1 t.2.2.2:=by cases e<;>first|(cases h;rfl)|cases h
def cI1:Operator->Bool
 | .Add=>true
 | _=>false
section
variable (S:Sg) (O:Og3) (c:Kx)
def kMb(t:Mc)(n:Nat):Bool:=ai7 c.sc t.x&&(t.ap.endLine==t.cp.line)&&t.a.all pl&&t.a.length==n&&decide (n < 20)
def kM(e:Expr):Option UD:=(mcV e).bind λt=>(Y9 t.x c.N).bind λi=>(O.ms.lookup t.m).bind λF=>if kMb c t F.2 then Ob (match t.a with|[]=>uM0 i t.m F.1|_=>uM i t.m F.1<|evA (pE S c) t.a) else Oa
def kDa(y:Str)(a:List Expr):Option UD:=(O.df.lookup y).bind λF=>(a[F.2.2]?).bind λej=>(nmP ej).bind λv=>(Y9 v.1 c.N).bind λi =>if ah6 c.sc y&&ai7 c.sc v.1&&a.all pl&&(a.length==F.2.1&&decide (F.2.2 < a.length)) then Ob (uD i F.1<|bm6 (pE S c) F.2.2 a) else Oa
def kDf(e:Expr):Option UD:=(ba0 e).bind λt=>match t.2.2.1 with
 | []=>(nmP t.1).bind λy=>kDa S O c y.1 t.2.1
 | _=>Oa
def kFl(e:Expr):Option UD:=(cb7 e).bind λu=>(nmP u.1).bind λv=>(Y9 v.1 c.N).bind λi=>if ai7 c.sc v.1&&O.fn.contains u.2.1 then Ob (W6 i u.2.1) else Oa
def kO(r:Expr->Option UD)(e:Expr):UD:=(r e).getD<|uP (pE S c e)
def kCl(r:Expr->Option UD)(e:Expr):Option UD:=(ba0 e).bind λt=>match t.2.1,t.2.2.1 with
 | a::as,[]=>(nmP t.1).bind λy=>(S.fn.lookup y.1).bind λF=>if(a::as).any (λx=>(r x).isSome)&&ah6 c.sc y.1&&(a::as).length==F.2&&(a::as).all pl then Ob (Q0 F.1<|ulE (kO S c r) (a::as)) else Oa
 | _,_=>Oa
def kX1(r:Expr->Option UD)(e:Expr):Option UD:=match cb1 e with
 | some t=>if(r t.1).isSome || (r t.2.2.1).isSome then Ob (oCc (kO S c r) t) else Oa
 | none=>(match cB3 e with
  | some t=>if t.1.any (λx=>(r x).isSome)&&t.1.all pl&&decide (t.1.length<=1000) then Ob (bQ0<|ulE (kO S c r) t.1) else Oa
  | none=>(match ck1 e with
   | some t=>if pl t.2.1 then(r t.1).map λg=>aK9 g (pE S c t.2.1) else Oa
   | none=>(match cJ8 e with
    | some t=>if((r t.1).isSome || (r t.2.2.1).isSome)&&cI1 t.2.1 then Ob (uB2 B0 (kO S c r t.1)<|kO S c r t.2.2.1) else Oa
    | none=>kCl S c r e)))
def kX:Nat->Expr->Option UD
 | 0,_=>Oa
 | n+1,e=>match kM S O c e with
  | some g=>Ob g
  | none=>(match kDf S O c e with
   | some g=>Ob g
   | none=>(match kFl O c e with
    | some g=>Ob g
    | none=>kX1 S c (kX n) e))
def kE(e:Expr):UD:=kO S c (kX S O c 5) e
def kAn:List Expr->UD
 | []=>uNo
 | [e]=>kE S O c e
 | e::es=>ap9 (kE S O c e)<|kAn es
def kV(e:Expr):UD:=match cJ5 e with
 | some t=>(match t.1 with
  | .And=>if t.2.1.any (λx=>(kX S O c 5 x).isSome) then kAn S O c t.2.1 else uP (pE S c e)
  | .Or=>uP (pE S c e))
 | none=>kE S O c e
def kT0(e:Expr):Option UB:=match cb1 e with
 | some t=>if(kX S O c 4 t.1).isSome || (kX S O c 4 t.2.2.1).isSome then Ob (uTB<|oCc (kO S c<|kX S O c 4) t) else Oa
 | none=>if(ba0 e).isSome then(kX S O c 5 e).map uTB else Oa
def kT(e:Expr):UB:=match co9 e with
 | some t=>(match kT0 S O c t.1 with
  | some g=>aS4 g
  | none=>uTP ((ev S 99).t c e))
 | none=>(kT0 S O c e).getD<|uTP ((ev S 99).t c e)
def kwM(e:Expr):UC:=match mcV e with
 | some t=>(match Y9 t.x c.N with
  | some i=>(match O.rm.lookup t.m with
   | some R=>if kMb c t R.2 then(match t.a with
    | []=>wNo
    | _=>wM i t.m R.1 (evA (pE S c) t.a)) else wNo
   | none=>wNo)
  | none=>wNo)
 | none=>wNo
def kwS:List Stmt->UC
 | [.Expr e _]=>kwM S O c e
 | _=>wNo
def bt1(l:List Str)(r:UC):UC:=λρ q=>(r ρ q).bind λx=>if l.contains x then Ob x else Oa
def kTr(f:UX)(body:List Stmt):List ExceptHandler->UX
 | [h]=>(match hnd h with
  | some (y,Ob n,b0,suite)=>(match O.T.sb.lookup y with
   | some l=>(match Y9 n c.N with
    | some i=>if ah6 c.sc y&&c.sc.names.lookup n==Ob .local then bt9 (bt1 l<|kwS S O c body) f i (evB (hvS S O.T c) (b0::suite)) else uXo
    | none=>uXo)
   | none=>uXo)
  | _=>uXo)
 | _=>uXo
def kN(v:Expr):Option (Rho->Option Fo):=(ba0 v).bind λt=>match t.2.1,t.2.2.1 with
 | a::as,[]=>(nmP t.1).bind λx=>O.ini.bind λF=>if x.1==O.cl&&ah6 c.sc x.1&&(a::as).length==F.2&&(a::as).all pl then Ob (aV2 F.1<|evA (pE S c) (a::as)) else Oa
 | _,_=>Oa
def kL(i:Nat)(v:Expr):Option UX:=(ba0 v).bind λt=>match t.2.1,t.2.2.1 with
 | [a],[]=>(nmP t.1).bind λx=>if biB S c "list" x.1&&c.own.contains i&&pl a then Ob (bc4 i<|kE S O c a) else Oa
 | _,_=>Oa
def cs2(x:Str)(v:Expr):UX:=match Y9 x c.N with
 | some i=>if aW1 c x && !(isC v) then(match kN S O c v with
  | some g=>bk1 i g
  | none=>(match kL S O c i v with
   | some g=>g
   | none=>Y6 i (kV S O c v))) else uXo
 | none=>uXo
def cG7(u:Expr×Str×Pos)(v:Expr):Option UX:=(nmP u.1).bind λw=>(Y9 w.1 c.N).bind λi=>if ai7 c.sc w.1&&O.fn.contains u.2.1 && !(isC v) then Ob (Z4 i u.2.1<|kE S O c v) else Oa
def cG6(u:Expr×Expr×Pos)(v:Expr):Option UX:=(nmP u.1).bind λw=>(Y9 w.1 c.N).bind λi=>if ai7 c.sc w.1&&pl u.2.1&&c.own.contains i && !(ak8 v) then Ob (bu0 i (kE S O c v)<|kE S O c u.2.1) else Oa
def kAs(v:Expr):List Expr->UX
 | [tg]=>(match nmP tg with
  | some t=>cs2 S O c t.1 v
  | none=>(match cb7 tg with
   | some u=>(cG7 S O c u v).getD uXo
   | none=>(match ck1 tg with
    | some u=>(cG6 S O c u v).getD uXo
    | none=>uXo)))
 | _=>uXo
def kFo(tg it:Expr)(f:UX):List Stmt->UX
 | []=>if pl it then aL0 (evI S (ev S 98) c tg it) ((ev S 98).g c tg) f else uXo
 | _=>uXo
def kSt:Nat->Stmt->UX
 | 0,_=>uXo
 | n+1,st=>match st with
  | .Return (Ob e) _=>ah0<|kV S O c e
  | .If t a b _=>uIf (kT S O c t) (oB (kSt n) a)<|oB (kSt n) b
  | .For tg it a o _=>kFo S c tg it (oB (kSt n) a) o
  | .Assign ts v _=>kAs S O c v ts
  | .Expr e _=>if isC e then uXo else uEx (kE S O c e)
  | .Try a hs [] [] _=>kTr S O c (oB (kSt n) a) a hs
  | _=>uXo
end
section
variable {X:Cx}{S:Sg}{O:Og3}{C:Addr}{c:Kx}
def aq5(F:FitW S O C c X)(e:Expr):JE X e (pE S c e):=(ab5 S 99).e F.o.fit e
def cG5(F:FitW S O C c X)(h:kM S O c e=Ob g):UE X C e g:=by
 obtain⟨t,h1,h0⟩:=xbo h
 clear h
 rw[aV7 h1];obtain⟨i,h2,h⟩:=xbo h0;obtain⟨⟨Fm,n⟩,h3,h⟩:=xbo h;split at h
 .rename_i hb;unfold kMb at hb;simp only[ae,beq_iff_eq,decide_eq_true_eq]at hb;obtain⟨⟨⟨⟨b1,b3⟩,b4⟩,b5⟩,b6⟩:=hb;obtain⟨v1,v2,v3⟩:=T4 F.o.fit b1;have M:=F.o.mts _ _ _ h3;cases h;obtain⟨x,p,m,ap,a,cp⟩:=t;cases a with
  | nil =>
   cases b5;exact bt7 i M F.o.foc (F.o.fit.slot h2) v1 v2 v3 (by simpa using b3)
  | cons e es =>
   have b4':=b4;simp only[aV,ae]at b4';exact bP8 i M F.o.foc (F.o.fit.slot h2) v1 v2 v3 (ab3 (aq5 F) (e::es)) (by simpa using b3) b5 (F6 b4'.1 _ _) ((U9 cp _).trans<|Q1 cp _ b4'.2) (bH9 b4 (by rw[b5];exact b6))
 .cases h
def cr8(F:FitW S O C c X)(h:kDf S O c e=Ob g):UE X C e g:=by
 obtain⟨⟨f,a,k,p⟩,h1,h0⟩:=xbo h
 clear h
 rw[ae6 h1];cases k with
 | cons=>cases h0
 | nil =>
  obtain⟨⟨y,py⟩,h2,h⟩:=xbo h0;rw[W8 h2];obtain⟨⟨Fn,n,j⟩,h3,h⟩:=xbo h;obtain⟨ej,h4,h⟩:=xbo h;obtain⟨⟨v,pv⟩,h5,h⟩:=xbo h;obtain⟨i,h6,h⟩:=xbo h;split at h
  .rename_i hb;cases h;simp only[ae,beq_iff_eq,decide_eq_true_eq]at hb;obtain⟨⟨⟨b1,b2⟩,b3⟩,b4,b5⟩:=hb;obtain⟨g1,g2⟩:=V2 F.o.fit b1;obtain⟨v1,v2,v3⟩:=T4 F.o.fit b2;have hj:a[j]? = Ob (.Name v pv):=by rw[W8 h5]at h4;exact h4
   have J:=bE4 (aq5 F) (F.o.fit.slot h6) v1 v2 v3 j a hj b3;cases a with
   | nil=>simp at hj
   | cons e es =>
    have b3':=b3;simp only[aV,ae]at b3';exact cB0 i (F.df _ _ _ _ h3) g1 g2 (F.o.fit.slot h6) v1 v2 v3 J b4 (F6 b3'.1 _ _)<|(U9 p _).trans (Q1 p _ b3'.2)
  .cases h
def cr7(F:FitW S O C c X)(h:kFl O c e=Ob g):UE X C e g:=by
 obtain⟨⟨e0,f,p⟩,h1,h0⟩:=xbo h
 clear h
 rw[aJ4 h1];obtain⟨⟨x,px⟩,h2,h⟩:=xbo h0;rw[W8 h2];obtain⟨i,h3,h⟩:=xbo h;split at h
 .rename_i hb;cases h;simp only[ae]at hb;obtain⟨v1,v2,v3⟩:=T4 F.o.fit hb.1;exact cj0 i F.o.foc (bN.mp hb.2) (F.o.fit.slot h3) v1 v2 v3 rfl
 .cases h
def ar0(F:FitW S O C c X){r:Expr->Option UD}(R:∀e g,r e=Ob g->UE X C e g)(e:Expr):UE X C e (kO S c r e):=by
 unfold kO;cases h:r e with
 | none=>exact aF1<|aq5 F e
 | some g=>exact R e g h
def bC7(F:FitW S O C c X)(h:opU op=Ob k):OpD X (dM op) k:=by
 cases op<;>cases h
 .exact ce1 F.o.fit.units
 .exact cd9 F.o.fit.units
 .exact ce0
 .exact aM6
def cs0(F:FitW S O C c X){r:Expr->UD}(R:∀e,UE X C e<|r e)(t:Expr×CmpOp×Expr×Pos):UE X C (.Compare t.1 [t.2.1] [t.2.2.1] t.2.2.2) (oCc r t):=by
 unfold oCc;split
 .rename_i k hk;split
  .exact bt6
  .rename_i hm;exact cj1 (bC7 F hk) (R _) (R _) (by simpa using hm)
 .exact bt6
def cr9(F:FitW S O C c X){r:Expr->Option UD}(R:∀e g,r e=Ob g->UE X C e g)(h:kCl S c r e=Ob g):UE X C e g:=by
 obtain⟨⟨f,a,k,p⟩,h1,h0⟩:=xbo h
 clear h
 rw[ae6 h1];dsimp only at h0 ⊢;split at h0
 .obtain⟨⟨y,py⟩,h2,h⟩:=xbo h0;rw[W8 h2];obtain⟨⟨Fn,n⟩,h3,h⟩:=xbo h;split at h
  .rename_i a as hb;cases h;simp only[ae,beq_iff_eq]at hb;obtain⟨⟨⟨_,b1⟩,b2⟩,b3⟩:=hb;obtain⟨g1,g2⟩:=V2 F.o.fit b1;have b3':=b3;simp only[aV,ae]at b3';exact bt8 (F.o.fit.fns _ _ _ h3) F.o.fit.units g1 g2 (aS3 (ar0 F R) _ b3) b2 (F6 b3'.1 _ _)<|(U9 p _).trans (Q1 p _ b3'.2)
  .cases h
 .cases h0
def cr5(F:FitW S O C c X){r:Expr->Option UD}(R:∀e g,r e=Ob g->UE X C e g)(h:kX1 S c r e=Ob g):UE X C e g:=by
 unfold kX1 at h;split at h
 .rename_i t ht;rw[bi6 ht];split at h
  .cases h;exact cs0 F (ar0 F R) t
  .cases h
 .split at h
  .rename_i t ht;rw[bQ6 ht];split at h
   .rename_i hb;cases h;simp only[ae,decide_eq_true_eq]at hb;exact ci7 (aS3 (ar0 F R) _ hb.1.2) hb.2
   .cases h
  .split at h
   .rename_i t ht;split at h
    .rename_i hp;obtain⟨g1,h2,h3⟩:=xmo h;subst h3;rw[bd3 ht];exact ci9 (R _ _ h2) (aq5 F _)<|by3 hp
    .cases h
   .split at h
    .rename_i t ht;split at h
     .rename_i hb;cases h;simp only[ae]at hb;obtain⟨a,op,b,p⟩:=t;rw[cb5 ht];have:op=.Add:=by cases op<;>first|rfl|cases hb.2
      subst this;exact cj2 aH3 (ar0 F R _)<|ar0 F R _
     .cases h
    .exact cr9 F R h
theorem aN7(F:FitW S O C c X):∀n e g,kX S O c n e=Ob g->UE X C e g
 | 0,e,g,h=>by cases h
 | n+1,e,g,h=>by
  unfold kX at h;split at h
  .rename_i g1 h1;cases h;exact cG5 F h1
  .split at h
   .rename_i g1 h1;cases h;exact cr8 F h1
   .split at h
    .rename_i g1 h1;cases h;exact cr7 F h1
    .exact cr5 F (aN7 F n) h
def ar1(F:FitW S O C c X)(e:Expr):UE X C e (kE S O c e):=ar0 F (aN7 F 5) e
theorem bD0(F:FitW S O C c X):∀es:List Expr,UE X C (.BoolOp .And es pos) (kAn S O c es)
 | []=>bt6
 | [e]=>ci8<|ar1 F e
 | e::e'::es=>bP9 (ar1 F e)<|bD0 F (e'::es)
def ce6(F:FitW S O C c X)(e:Expr):UE X C e (kV S O c e):=by
 unfold kV;split
 .rename_i t ht;have:=cb3 ht;obtain⟨op,l,p⟩:=t;subst this;cases op
  .dsimp only;split
   .exact bD0 F l
   .exact aF1 (aq5 F _)
  .exact aF1 (aq5 F _)
 .exact ar1 F e
def bC9(F:FitW S O C c X)(h:kT0 S O c e=Ob g):UT X C e g:=by
 unfold kT0 at h;split at h
 .rename_i t ht;split at h
  .cases h;rw[bi6 ht];unfold oCc;split
   .rename_i k hk;split
    .exact λ_ _ _ _ h _=>nomatch h
    .rename_i hm;exact ch6 (bC7 F hk) (ar0 F (aN7 F 4) _) (ar0 F (aN7 F 4) _) (by simpa using hm)
   .exact λ_ _ _ _ h _=>nomatch h
  .cases h
 .split at h
  .rename_i hc;obtain⟨g1,h1,h2⟩:=xmo h;subst h2;obtain⟨t,ht⟩:=cx.mp hc;refine ch4 (aN7 F 5 e g1 h1) ?_;rw[ae6 ht];intro _;rfl
  .cases h
def cG3(F:FitW S O C c X)(e:Expr):UT X C e (kT S O c e):=by
 unfold kT;split
 .rename_i t ht;split
  .rename_i g hg;rw[bV3 ht];exact ch5<|bC9 F hg
  .exact bc0 ((ab5 S 99).t F.o.fit e)
 .cases h:kT0 S O c e with
  | none=>exact bc0<|(ab5 S 99).t F.o.fit e
  | some g=>exact bC9 F h
def cq9(F:FitW S O C c X)(e:Expr):UX1 X C e (kwM S O c e):=by
 unfold kwM;split
 .rename_i t ht;rw[aV7 ht];split
  .rename_i i hi;split
   .rename_i R hR;split
    .rename_i hb;unfold kMb at hb;simp only[ae,beq_iff_eq,decide_eq_true_eq]at hb;obtain⟨⟨⟨⟨b1,b3⟩,b4⟩,b5⟩,b6⟩:=hb;obtain⟨v1,v2,v3⟩:=T4 F.o.fit b1;have M:=F.rm _ _ _ hR;obtain⟨x,p,m,ap,a,cp⟩:=t;obtain⟨R,n⟩:=R;dsimp only at *;cases a with
     | nil=>exact aK6
     | cons e es =>
      have b4':=b4;simp only[aV,ae]at b4';exact bO7 F.o.fit.hx i M F.o.foc (F.o.fit.slot hi) v1 v2 v3 (ab3 (aq5 F) (e::es)) (by simpa using b3) b5 (F6 b4'.1 _ _) ((U9 cp _).trans<|Q1 cp _ b4'.2) (bH9 b4 (by rw[b5];exact b6))
    .exact aK6
   .exact aK6
  .exact aK6
 .exact aK6
def bP5(h:UX1 X C e r)(hs:swapsWith e Oa pos.line X.env=pure false):UR X C (.Expr e pos) r:=λρ q x w no b as l D hD pins s σ H Hf I st0 =>wpAny_Expr_any (thn (h ρ q x w no b as l D hD pins s σ H Hf I st0) λ_ _ z=>z.elim) I.quiet hs
def bC6(h:isC e=true):kwM S O c e=wNo:=by
 unfold kwM;split
 .rename_i t ht;rw[aV7 ht]at h;cases h
 .rfl
def cq8(F:FitW S O C c X)(sts:List Stmt):URs X C sts (kwS S O c sts):=by
 unfold kwS;split
 .rename_i e p;cases hc:isC e with
  | true=>rw[bC6 hc];exact bc1 cA9
  | false=>exact bc1<|bP5 (cq9 F e) (U8 hc _ _ _)
 .exact ci3
def cr6(F:FitW S O C c X)(body:List Stmt)(f:UX)(hf:USs X C body f)(hs:List ExceptHandler)(p:Pos):US X C (.Try body hs [] [] p) (kTr S O c f body hs):=by
 unfold kTr;split
 .split
  .rename_i y n b0 suite e;obtain⟨np,hp,rfl⟩:=cw9 e;split
   .rename_i l hl;split
    .rename_i i hi;split
     .rename_i h;simp only[ae,beq_iff_eq]at h;obtain⟨g1,g2⟩:=V2 F.o.fit h.1;obtain⟨c1,c2⟩:=F.r.sbs y l hl;refine ch7 F.o.fit.hx F.ex F.stk F.frm hf (λρ q x w=>?_) g1 (λD hD=>F.r.ns y D hD) g2 c1 (λρ q x w=>?_) (by rw[F.o.fit.N];exact F.o.fit.nd) (F.o.fit.slot hi) (by rw[F.o.fit.sc];exact h.2) λa=>aY1 (cw8 F.r a) (b0::suite)
      .obtain⟨x',w1,w2⟩:=xbo w;split at w2
       .cases w2;exact cq8 F body ρ q _ w1
       .cases w2
      .obtain⟨x',w1,w2⟩:=xbo w;split at w2
       .rename_i hc;cases w2;exact c2 _<|bN.mp hc
       .cases w2
     .exact Z3
    .exact Z3
   .exact Z3
  .exact Z3
 .exact Z3
def cG4(F:FitW S O C c X)(h:kN S O c v=Ob g):UN X C v g:=by
 obtain⟨⟨f,a,k,p⟩,h1,h0⟩:=xbo h
 clear h
 rw[ae6 h1];dsimp only at h0 ⊢;split at h0
 .obtain⟨⟨x,px⟩,h2,h⟩:=xbo h0;rw[W8 h2];obtain⟨⟨Fm,n⟩,h3,h⟩:=xbo h;split at h
  .rename_i a as hb;cases h;simp only[ae,beq_iff_eq]at hb;obtain⟨⟨⟨b0,b1⟩,b2⟩,b3⟩:=hb;obtain⟨g1,g2⟩:=V2 F.o.fit b1;have b3':=b3;simp only[aV,ae]at b3';have M:=F.make _ _ h3;rw[← b0]at M;exact bP6 M g1 (ab3 (aq5 F) (_::_)) b2 g2 (F6 b3'.1 _ _)<|(U9 p _).trans (Q1 p _ b3'.2)
  .cases h
 .cases h0
def bW5(F:FitW S O C c X)(x:Str)(p':Pos)(v:Expr)(p:Pos):US X C (.Assign [.Name x p'] v p) (cs2 S O c x v):=by
 have nd:X.N.Nodup:=by rw[F.o.fit.N];exact F.o.fit.nd
 unfold cs2;split
 .rename_i i hi;split
  .rename_i h;simp only[ae,bf]at h;obtain⟨l1,l2⟩:=at9 F.o.fit h.1;split
   .rename_i g hg;exact ci1 i nd (cG4 F hg) (F.o.fit.slot hi) l1 (U8 h.2 _ _ _) l2
   .split
    .rename_i g hg;have hs:=U8 h.2 (Ob<|.Name x p') p.line X.env;obtain⟨⟨f,a,k,pp⟩,h1,h0⟩:=xbo hg;rw[ae6 h1]at hs ⊢;dsimp only at h0 hs ⊢;split at h0
     .obtain⟨⟨y,py⟩,h2,h3⟩:=xbo h0;split at h3
      .rename_i hb;cases h3;simp only[ae]at hb;obtain⟨k0,k1,k2⟩:=V7 F.o.fit hb.1.1;rw[W8 h2]at hs ⊢;dsimp only at k0 hs ⊢;rw[k0]at hs ⊢;exact bP3 i nd (ar1 F _) k1 k2 (F6 hb.2 [] _) (F.o.fit.slot hi) l1 hs l2
      .cases h3
     .cases h0
    .exact ch8 i nd (ce6 F v) (F.o.fit.slot hi) l1 (U8 h.2 _ _ _) l2
  .exact Z3
 .exact Z3
def cl8(h:pl e=true)(x:Str)(p p2:Pos)(env:Env):∀v,assign (.Subscript (.Name x p) e p2) env v=(do
      let ov ← holding [v] (eval (.Name x p) env)
      let iv ← holding [v,ov] (eval e env)
      standAt p2
      holding [v,ov,iv] (setItem ov iv v)
      release [v,ov,iv] []):=λv=>by cases e<;>first|rfl|cases h
def cs1(F:FitW S O C c X)(v:Expr)(ts:List Expr)(p:Pos):US X C (.Assign ts v p) (kAs S O c v ts):=by
 unfold kAs;split
 .rename_i tg;split
  .rename_i t ht;rw[W8 ht];exact bW5 F _ _ _ _
  .split
   .rename_i u hu;cases hg:cG7 S O c u v with
    | none=>exact Z3
    | some g =>
     obtain⟨⟨x,px⟩,h2,h⟩:=xbo hg;obtain⟨i,h3,h⟩:=xbo h;split at h
     .rename_i hb;cases h;simp only[ae,bf]at hb;obtain⟨v1,v2,v3⟩:=T4 F.o.fit hb.1.1;rw[aJ4 hu,W8 h2];exact bP2 i F.o.foc (bN.mp hb.1.2) (F.o.fit.slot h3) v1 v2 v3 (ar1 F v)<|U8 hb.2 _ _ _
     .cases h
   .split
    .rename_i u hu;cases hg:cG6 S O c u v with
     | none=>exact Z3
     | some g =>
      obtain⟨⟨x,px⟩,h2,h⟩:=xbo hg;obtain⟨i,h3,h⟩:=xbo h;split at h
      .rename_i hb;cases h;simp only[ae,bf]at hb;obtain⟨⟨⟨b1,b2⟩,_⟩,b3⟩:=hb;obtain⟨v1,v2,v3⟩:=T4 F.o.fit b1;rw[bd3 hu,W8 h2];refine ci0 i (ar1 F v) (ar1 F _) (F.o.fit.slot h3) v1 v2 v3 ?_ ?_ (cl8 b2 _ _ _ _)
       .cases v<;>rfl
       .cases v<;>first|rfl|cases b3
      .cases h
    .exact Z3
 .exact Z3
theorem aW5(F:FitW S O C c X):∀n st,US X C st (kSt S O c n st)
 | 0,st=>Z3
 | n+1,st=>by
  have ih:=bf8 (aW5 F n);unfold kSt;split
  .exact ch9 (ce6 F _)
  .exact cA8 (cG3 F _) (ih _) (ih _)
  .rename_i tg it a o p;unfold kFo;split
   .split
    .rename_i h;exact ci2 (bE5 (ab5 S 98) F.o.fit _ _) ((ab5 S 98).g F.o.fit _) (cf6 S 98 c tg) (ih _) F.o.fit.po F.o.fit.calm<|aG6 h _
    .exact Z3
   .exact Z3
  .exact cs1 F _ _ _
  .split
   .exact Z3
   .rename_i hc;exact bP4 (ar1 F _) (U8 (by simpa using hc) _ _ _)
  .exact cr6 F _ _ (ih _) _ _
  .exact Z3
end
def bM3(c:Kx):Bool:=c.N.all λx=>ai7 c.sc x&&match c.sc.names.lookup x with|some .local=>true|_=>false
section
variable {X:Cx}{S:Sg}{ms:ba5}{C:Addr}{c:Kx}{b:Bs}{a:Addr}{o o':Fo}{ds:List D}{r:D}{ρ:Rho}{q q':Os}{fn:List Str}
def FitO.nm{i:Nat}{x:Str}(F:FitO S ms C fn c X)(hl:bM3 c=true)(h:c.N[i]? = Ob x):X.N[i]? = Ob x/\Vis X.env.scope x/\(x==("__debug__" : Str))=false/\(x==("__classdict__" : Str))=false/\Loc X.env.scope x:=by
 have:=aQ.mp hl x (bS h);simp only[ae]at this;obtain⟨h1,h2,h3⟩:=T4 F.fit this.1;refine⟨by rw[F.fit.N];exact h,h1,h2,h3,?_⟩;have h4:=this.2;split at h4
 .rename_i e;rw[← F.fit.sc]at e;exact .inl e
 .cases h4
def FitO.var(F:FitO S ms C fn c X)(hl:bM3 c=true)(i:Nat)(h:c.N[i]? = Ob x):JE X (.Name x pos) (A1 i):=by
 obtain⟨h1,h2,h3,h4,_⟩:=F.nm hl h;exact aW8 i h1 h2 h3 h4
def FitO.slf(F:FitO S ms C fn c X)(hl:bM3 c=true)(h:c.N[0]? = Ob x)(s:ρ[0]? = Ob (Ob<|.opq a))(w:aq6 ρ=true):At1 X ρ [(a,o)] x 0 0 a o:=by
 obtain⟨h1,h2,h3,h4,_⟩:=F.nm hl h;exact⟨h1,h2,h3,h4,s,rfl,w⟩
def FitO.call{e:Expr}{es:List Expr}(F:FitO S ms C fn c X)(h:S.fn.lookup x=Ob (Fx,n))(hg:ah6 c.sc x=true)(ha:JA X (e::es) g)(hn:(e::es).length=n:=by rfl)
  (he:dI (e::es) X.env=(false,eval e X.env)::dI es X.env:=by rfl) (hpl:(backTo pos<|dI es X.env).any (·.1)=false:=by rfl):JE X (.Call (.Name x p) (e::es) [] pos) (A2 Fx g):=by
 obtain⟨g1,g2⟩:=V2 F.fit hg;rcases F.fit.fns _ _ _ h with⟨k,f,fd,ps,hk,hr,hm,hkp,hb⟩|⟨hm,hb⟩
 .exact bh4 hk hr g1 hm hkp hb ha hn g2 he hpl
 .exact cf0 hb F.fit.units g1 hm ha hn g2 he hpl
theorem FitO.set(F:FitO S ms C fn c X)(hd:c.df=true)(hl:bM3 c=true)(i:Nat)(h:c.N[i]? = Ob x)(he:OE X C b ρ q e d q')(hs:swapsWith e (Ob<|.Name x pos') pos.line X.env=pure false:=by rfl):OS X C b ρ q (.Assign [.Name x pos'] e pos) (.nx (ρ.set i<|‹d›) q'):=by
 obtain⟨h1,h2,h3,h4,h5⟩:=F.nm hl h;exact cn3 i (by rw[F.fit.N];exact F.fit.nd) he h1 h5 hs<|(F.fit.df hd).1 _
def cm9(h1:OE X C b ρ q e1 d1 q)(h2:OE X C b ρ q e2 d2 q)(s1:dI [e1,e2] X.env=(false,eval e1 X.env)::dI [e2] X.env)(s2:dI [e2] X.env=[(false,eval e2 X.env)]):
  PA X [e1,e2] (λσ H Q=>∃Hf,OSt X.K C b ρ q σ H Hf/\∀vs H' Hf',OSt X.K C b ρ q σ H' Hf'->B8 Hf Hf'->Reps X.K Hf' [d1,d2] vs->Q vs H'):=λpos pins s σ H Q I ⟨Hf,st,k⟩ =>
 K5 h1 (K5 h2 Q6 s2) s1 pos pins s σ H Q I ⟨Hf,st,λv H1 Hf1 a1 e1 r1=>⟨Hf1,a1,λu H2 Hf2 a2 e2 r2=>k [v,u] H2 Hf2 a2 (e1.trans e2) ⟨v,[u],rfl,r1.mono e2,u,[],rfl,r2,rfl⟩⟩⟩
def aL7(F1:FnD)(R1:List D->Option Str):MR:=λo ds=>match ds with
 | [nd]=>(F1 [nd]).bind λnm=>(o.lookup ("picture" : Str)).bind λp=>R1 [p,nm]
 | _=>Oa
def bG7{rs:ay1}{rt:aA7}{cl:List Str}{r:List Stmt}{x:Str}{F1:FnD}{R1:List D->Option Str}(hx:∀e s,X.xe e s->False)(F:FitN S ms rs rt cl C fn c X)(hN:c.N=[("self" : Str), "node", "name", "old", "box"])(hd:c.df=true)(hl:bM3 c=true)(hf:("picture" : Str)∈fn)
  (h1:S.fn.lookup ("name_of" : Str)=Ob (F1,1)) (g1:ah6 c.sc "name_of" = true) (h2:rt.lookup ("node_named" : Str)=Ob (R1,2)) (g2:ah6 c.sc "node_named" = true) (e:aL7 F1 R1 o ds=Ob x) :
  ORs X C true b (ah1 4 a ds) [(a,o)] (.Assign [.Name "name" p1] (.Call (.Name "name_of" p2) [.Name "node" p3] [] p4) p5 :: .Assign [.Name "old" q1] (.Call (.Name "node_named" q2) [.Attribute (.Name "self" q3) "picture" q4,.Name "name" q5] [] q6) q7::r) x:=by
 unfold aL7 at e;split at e
 .rename_i ds nd;obtain⟨nm,e1,e⟩:=xbo e;obtain⟨p,e2,e⟩:=xbo e;have A:∀{ρ:Rho},aq6 ρ=true->ρ[0]? = Ob (Ob<|.opq a)->At1 X ρ [(a,o)] "self" 0 0 a o:=λ{ρ} z1 z2=>F.o.slf hl (by rw[hN];rfl) z2 z1
  have v1:∀{pos},JE X (.Name "node" pos) (A1 1):=λ{pos}=>F.o.var hl 1 (by rw[hN];rfl)
  have v2:∀{pos},JE X (.Name "name" pos) (A1 2):=λ{pos}=>F.o.var hl 2 (by rw[hN];rfl)
  obtain⟨k,f,fd,ps,hk,hr,hm,hkp,hb⟩:=F.rfs _ _ _ h2;obtain⟨y1,y2⟩:=V2 F.o.fit g2;exact bz7 hx (F.o.set hd hl 2 (by rw[hN];rfl)<|bf6 (F.o.call h1 g1<|aI3 v1 aX0) e1)<|bf3 (cn5 (bz6 hx hk hr y1 hm hkp hb (cm9 (bA4 (A rfl rfl) F.o.foc hf e2 rfl) (bf6 v2 rfl) rfl rfl) rfl e y2 rfl rfl) rfl)
 .cases e
end
def cQ6:Stmt->List Stmt
 | .ClassDef _ _ _ b _ _ _ _ _ _ _=>b
 | _=>[]
structure KCl (K:aa) (C:eR) (cl:Str) (fn:List Str):Prop where
 ns:aW K dN cl=Ob (Ob<|.ref C)
 make:PySem.W.makesIn K C=true
 kp:aG K (.ref C)=true
 foc:FoC K C fn
def cr4{K:aa}{C:eR}{cl f1 f2 f3:Str}(a:aW K dN cl=Ob (Ob<|.ref C))(b:PySem.W.makesIn K C=true)(c:aG K (.ref C)=true)(pg:PySem.W.plainGet K C eO=true)(hd:PySem.W.hasDictIn K C=true)(po:PySem.W.plainOver K C=true)
  (sa:PySem.W.findIn K (.ref C) "__setattr__" = Ob (Ob (.builtin "object.__setattr__"))) (n1:PySem.W.findIn K (.ref C) f1=Ob Oa) (n2:PySem.W.findIn K (.ref C) f2=Ob Oa) (n3:PySem.W.findIn K (.ref C) f3=Ob Oa):KCl K C cl [f1,f2,f3]:=⟨a,b,c,⟨pg,hd,po,sa⟩,λf hf=>by
 simp only[au,aR,or_false]at hf;rcases hf with rfl|rfl|rfl
 .exact n1
 .exact n2
 .exact n3⟩
def cG1{K:aa}{C:eR}{m qual:Str}{st:Stmt}{f:eR}{oc:eP}{od:Option eR}{sl:Array (Option eP)}{kV dc pm:eP}{an:Option eR}{cd ct:eP}(a:PySem.W.findIn K (.ref C) m=Ob (Ob<|.ref f))(i:PySem.W.isFn K (.ref f)=true)
  (l:K.lookup f=Ob ⟨oc,od,.func<|bp m qual (V3 st) (G0 st) (B9 st) .none kV dc pm an cd ct,sl⟩) (c:bT K cd qual=true) (k:aG K (.ref f)=true):KM K C m qual st:=⟨f,oc,od,sl,kV,dc,pm,an,cd,ct,a,i,l,c,k⟩
section
variable {P:Program}{w:World}{K:PySem.W.Frag}{mg:Str->Option Value}{base:Heap}{cs:List (Str×D)}{bl:List Str}{C:Addr}{tab:Tab}{O:Og3}
def cR1(P:dO)(w:World)(K:aa)(mg:Str->Option eP)(base:Heap)(C:eR)(k:Nat)(df:List (Str×DF×Nat×Nat)):Prop:=∀x F n j,df.lookup x=Ob (F,n,j)->∃(f:eR) (fd:dQ) (ps:List Str),
 FnOk P w K mg base CX0 k f fd ps (spD K C n F)/\mg x=Ob (.ref f)/\aG K (.ref f)=true/\M3 K fd ps []
structure WOk (P:dO) (w:World) (K:aa) (mg:Str->Option eP) (base:Heap) (C:eR) (k:Nat) (tab:Tab) (O:Og3):Prop where
 t:TOk P w K mg base k tab
 m:MOk P w K mg base C k O.ms
 i:∀F n,O.ini=Ob (F,n)->∃j f fd ps,j+1<=k/\FnOk P w K mg base CX0 j f fd ps (spD K C (n+1) F)/\Mk K C f/\M3 K fd ps []/\mg O.cl=Ob (.ref C)
 d:cR1 P w K mg base C k O.df
 r:MRk P w K mg base C k O.rm
 f:TRk P w K mg base k O.T.rf
 x:TXk P w K mg base k O.T.xf
 c:Cl K mg O.T
theorem WOk.mono(V:WOk P w K mg base C j tab O)(h:j<=k):WOk P w K mg base C k tab O where
 t:=V.t.mono h
 m:=V.m.mono h
 i:=λF n e=>by obtain⟨i,f,fd,ps,h1,h2⟩:=V.i F n e;exact⟨i,f,fd,ps,aL h1 h,h2⟩
 d:=λx F n j e=>by obtain⟨f,fd,ps,h1,h2⟩:=V.d x F n j e;exact⟨f,fd,ps,h1.mono h,h2⟩
 r:=V.r.mono h
 f:=V.f.mono h
 x:=V.x.mono h
 c:=V.c
def cI7{f:eR}{cdv:eP}{A:dP}{outer:List Env}{s:eQ}{H:Hp}{E:XK}{qual:Str}(M:Md K mg cs bl)(V:WOk P w K mg base C k tab O)(Fc:FoC K C O.fn){d:Fd}(ok:d.okB=true)(hr:Room k (A.deeper<|envOfC qual (B9 d.st) s.heap.objs.size f cdv)):
  FitW ⟨tab,cs,bl⟩ O C d.c (as7 CX0 P w K mg base d.N qual (B9 d.st) f cdv A outer s H E).nox:=by
 have Sc:=Fd.sc ok
 have fit:Fit ⟨tab,cs,bl⟩ d.c (as7 CX0 P w K mg base d.N qual (B9 d.st) f cdv A outer s H E).nox:=by
  refine⟨rfl,rfl,Sc.nd,rfl,rfl,hr.units,λ_=>⟨λ_=>rfl,Sc.kind⟩,λx F n h=>?_,M.css,M.bls⟩;exact(V.t x F n h).imp (λ⟨f',fd',ps,h1,h2,h3,h4⟩=>⟨k,f',fd',ps,h1,hr,h2,h3,h4⟩) id
 refine⟨⟨fit,Fc,λm F n h=>?_⟩,λF n h=>?_,λx F n j h=>?_,λm R n h=>?_,⟨fit,λx C h=>aZ8 M h,λx R n h=>?_,V.c.cls,V.c.tbs,V.c.sbs,V.c.nbs,λx F h=>?_⟩,rfl,rfl,rfl⟩
 .obtain⟨f',fd',ps,h1,h2,h3⟩:=V.m m F n h;exact⟨k,f',fd',ps,h1,hr,h2,h3⟩
 .obtain⟨j,f',fd',ps,h1,h2,h3,h4,h5⟩:=V.i F n h;exact⟨j,f',fd',ps,h2,hr.mono h1,h3,h4,h5⟩
 .obtain⟨f',fd',ps,h1,h2,h3,h4⟩:=V.d x F n j h;exact⟨k,f',fd',ps,h1,hr,h2,h3,h4⟩
 .obtain⟨f',fd',ps,h1,h2,h3⟩:=V.r m R n h;exact⟨k,f',fd',ps,h1,hr,h2,h3⟩
 .obtain⟨f',fd',ps,h1,h2,h3,h4⟩:=V.f x R n h;exact⟨k,f',fd',ps,h1,hr,h2,h3,h4⟩
 .obtain⟨f',fd',ps,h1,h2,h3,h4⟩:=V.x x F h;exact⟨k,f',fd',ps,h1,⟨hr.dp,hr.un⟩,h2,h3,h4⟩
def rdK(tab:Tab)(cs:List (Str×D))(bl:List Str)(O:Og3)(d:Fd):DF:=i9 (oB (kSt ⟨tab,cs,bl⟩ O d.c 9)<|G0 d.st) d.N.length
def rdJ(tab:Tab)(cs:List (Str×D))(bl:List Str)(O:Og3)(d:Fd):FnD:=bR6 (oB (kSt ⟨tab,cs,bl⟩ O d.c 9)<|G0 d.st) d.N.length
def kfn(V:WOk P w K mg base C k tab O)(M:Md K mg cs bl)(Fc:FoC K C O.fn)(d:Fd)(ok:d.okB=true)(Fn:Fun K d.x qual d.st f fd):FnOk P w K mg base CX0 (k+1) f fd d.ps (spD K C d.ps.length<|rdK tab cs bl O d) :=
 bH7 (N:=d.N) Fn (Fd.sc ok) λcdv A outer s H E hr=>bf8 (aW5 (cI7 M V Fc ok hr) 9) _
def WOk.addM(V:WOk P w K mg base C k tab O)(M:Md K mg cs bl)(Fc:FoC K C O.fn)(d:Fd)(h:KM K C d.x qual d.st)(F:DF)(n:Nat)(e:rdK tab cs bl O d=F:=by kernel_rfl)(hp:d.ps.length=n+1:=by rfl)(ok:d.okB=true:=by kernel_rfl)(bd:BdM d qual:=by repeat (first|exact rfl|intro _)):WOk P w K mg base C (k+1) tab { O with ms:=(d.x,F,n)::O.ms }:=by
 subst e;obtain⟨f,oc,od,sl,kV,dc,pm,an,cd,ct,a,i,l,cc,kk⟩:=h;have Fn:=aI6 l cc kk;have U:=V.mono (cw k);have q:=kfn V M Fc d ok Fn;rw[hp]at q;exact⟨U.t,U.m.cons ⟨f,_,d.ps,q,⟨a,i,kk⟩,.all<|ua (bd kV dc pm an cd ct)⟩,U.i,U.d,U.r,U.f,U.x,U.c⟩
def WOk.addI(V:WOk P w K mg base C k tab O)(M:Md K mg cs bl)(c:KCl K C O.cl O.fn)(d:Fd)(h:KM K C "__init__" qual d.st)(hx:d.x = "__init__")(F:DF)(n:Nat)(e:rdK tab cs bl O d=F:=by kernel_rfl)(hp:d.ps.length=n+1:=by rfl)(ok:d.okB=true:=by kernel_rfl)(bd:BdM d qual:=by repeat (first|exact rfl|intro _)):WOk P w K mg base C (k+2) tab { O with ini:=Ob (F,n) }:=by
 subst e;obtain⟨f,oc,od,sl,kV,dc,pm,an,cd,ct,a,i,l,cc,kk⟩:=h;rw[← hx]at l;have Fn:=aI6 l cc kk;have U:=V.mono (show k<=k+2 by omega);have q:=kfn V M c.foc d ok Fn;rw[hp]at q;refine⟨U.t,U.m,λF n e=>?_,U.d,U.r,U.f,U.x,U.c⟩;cases e;exact⟨k+1,f,_,d.ps,ah _,q,⟨c.make,a,i,c.kp⟩,.all (ua<|bd kV dc pm an cd ct),M.ns _ _ c.ns⟩
def WOk.addD(V:WOk P w K mg base C k tab O)(M:Md K mg cs bl)(Fc:FoC K C O.fn)(d:Fd)(h:KF K d.x d.st)(F:DF)(j:Nat)(e:rdK tab cs bl O d=F:=by kernel_rfl)(ok:d.okB=true:=by kernel_rfl)(bd:Bd d:=by repeat (first|exact rfl|intro _)):WOk P w K mg base C (k+1) tab { O with df:=(d.x,F,d.ps.length,j)::O.df }:=by
 subst e;obtain⟨f,kV,dc,pm,an,cd,ct,Fn,hm⟩:=u4 h M;have U:=V.mono (cw k);refine⟨U.t,U.m,U.i,λy G n j e=>?_,U.r,U.f,U.x,U.c⟩
 replace e:bZ y ((d.x,_,d.ps.length,_)::O.df)=_:=e
 rw[aH]at e;split at e
 .rename_i q;cases e;simp only[beq_iff_eq]at q;subst q;exact⟨f,_,d.ps,kfn V M Fc d ok Fn,hm,Fn.kp,.all (ua<|bd kV dc pm an cd ct)⟩
 .exact U.d y G n j e
def bC2(M:Md K mg cs bl)(Fc:FoC K C O.fn)(V:∀base:Heap,WOk P w K mg base C k tab O)(d:Fd)(h:KF K d.x d.st)(e:rdJ tab cs bl O d=F)(hm:mg d.x=Ob (.ref fa))(hp:d.ps=[x]:=by rfl)(ok:d.okB=true:=by kernel_rfl)(bd:Bd d:=by repeat (first|exact rfl|intro _)):
  ∃fd:dQ,(∀(s:eQ) (u:eP),BindsTo s fd ⟨[u],[]⟩ [(x,u)])/\∀base:Heap,FnOk P w K mg base CX0 (k+1) fa fd [x] (spF K 1 F):=by
 subst e;obtain⟨f,kV,dc,pm,an,cd,ct,Fn,hm'⟩:=u4 h M;cases hm.symm.trans hm';have Sc:=Fd.sc ok;refine⟨bp d.x d.x (V3 d.st) (G0 d.st) (B9 d.st) .none kV dc pm an cd ct,λs u=>.of_eq ?_,λbase=>?_⟩
 .have:=ua (bd kV dc pm an cd ct) [u] (by rw[hp];rfl);rw[hp]at this;exact this
 .have:=bH5 (N:=d.N) (ps:=d.ps) (C:=C) (g:=oB (kSt ⟨tab,cs,bl⟩ O d.c 9)<|G0 d.st) Fn Sc λcdv A outer s H E hr=>bf8 (aW5 (cI7 M (V base) Fc ok hr) 9) _
  rw[hp]at this;exact this
def WOk.start{T:Rg}{cl:Str}{fn:List Str}(t:TOk P w K mg base k tab)(f:TRk P w K mg base j2 T.rf)(x:TXk P w K mg base j3 T.xf)(c:Cl K mg T)(h2:j2<=k)(h3:j3<=k):WOk P w K mg base C k tab ⟨[],[],cl,Oa,[],fn,T⟩ :=
 ⟨t,MOk.nil.mono<|aU _,(λF n e=>nomatch e),(λx F n j e=>nomatch e),MRk.nil.mono<|aU _,f.mono h2,x.mono h3,c⟩
def WOk.addR(V:WOk P w K mg base C k tab O)(M:Md K mg cs bl)(Fc:FoC K C O.fn)(d:Fd)(h:KM K C d.x qual d.st)(R:MR)(n:Nat)(s0:Str)(N:List Str)
  (js:∀X:Cx,(∀e s,X.xe e s->False)->FitN ⟨tab,cs,bl⟩ O.ms O.rm O.T.rf O.T.cl C O.fn d.c X->∀b a o ds x,ds.length=n->R o ds=Ob x->ORs X C true b (ah1 N.length a ds) [(a,o)] (G0 d.st) x)
  (hN:d.N=s0::N:=by rfl) (hp:d.ps.length=n+1:=by rfl) (ok:d.okB=true:=by kernel_rfl) (bd:BdM d qual:=by repeat (first|exact rfl|intro _)):WOk P w K mg base C (k+1) tab { O with rm:=(d.x,R,n)::O.rm }:=by
 have U:=V.mono (cw k);exact⟨U.t,U.m,U.i,U.d,V.r.add V.f V.m M V.t V.c.cls Fc d h R n s0 N js hN hp ok bd,U.f,U.x,U.c⟩
end
end G
namespace Lk70
open PySem PySem.Spec PyProof.Rows L2 G Sh
def top(i:Nat):Stmt:=PySem.Challenge.pw_glazework_k70_whole_painter.main.body.getD i<|.Pass ⟨0,0,0,0⟩
def P5:List D->Option Str:=aU4 (aG3 rNo (B6 2<|A2 (K2 12) (A0 (dIx (A6 0) ⇑2)<|A0 (A1 1) A3))<|aG3 (rIf (tB2 isB (A1 2)<|dC .none) (aG4 "NoName"<|aZ4 eO [dC (.str "no node has the name "),dRp (A1 1)]) rNo) (sIf (tB2 isB (A1 2)<|dC .none) E1 K9) rNo) 3
def am4:DS:=(A7 (B6 2<|A2 T0 (A0 (A1 0)<|A0 (A1 1) A3))<|A8 (dIx (A6 2)<|A2 K8 (A0 (A1 2)<|A0 (A1 1) A3)))
def R5:List D->Option D:=C6 am4 3
def U0:List D->Option Str:=aU4 (aG3 (be3 P5<|A0 (A1 0) (A0 (A1 1) A3)) (B6 2<|A2 T0 (A0 (A1 0)<|A0 (A1 1) A3)) rNo) 3
def aE0:UX:=(O7 (bc4 2<|aK9 (W6 0 "sheet") ⇑2)<|O7 (aL0 (T8<|A2 W0 (A0 (A1 1) A3)) (S1 2<|C9 (C3 3) (C9 (C3 4) S7))<|O7 (bu0 2 (Q0 W1<|ulC (W6 0 "picture") (ulC (uP<|A1 3)<|ulC (uP<|A1 4) ulN))<|Q0 D8 (ulC (W6 0 "sheet")<|ulC (uP<|A1 3) (ulC (uP<|A1 4) ulN))) (Z4 0 "paint_count"<|uB2 B0 (W6 0 "paint_count") (uP ⇑1))) (Z4 0 "sheet"<|bQ0 (ulC (aK9 (W6 0 "sheet") ⇑0)<|ulC (aK9 (W6 0 "sheet") ⇑1) (ulC (uP<|S2 (A6 2)) ulN))))
def r9:DF:=i9 aE0 5
def aQ9:UX:=(O7 (Y6 2<|uP (A2 O3<|A0 (A1 1) A3))<|O7 (Y6 3<|Q0 R5 (ulC (W6 0 "picture")<|ulC (uP<|A1 2) ulN)) (O7 (Y6 4<|Q0 N9 (ulC (Q0 (O1 12)<|ulC (W6 0 "picture") (ulC (uP<|A1 3) ulN))<|ulC (Q0 (O1 12)<|ulC (W6 0 "picture") (ulC (uP<|A1 1) ulN)) ulN))<|O7 (Z4 0 "picture"<|Q0 S8 (ulC (W6 0 "picture")<|ulC (uP<|A1 2) (ulC (uP<|A1 1) ulN))) (uEx<|uM 0 "paint" r9 (A0 (A1 4) A3))))
def ao9:DF:=i9 aQ9 5
def br1:UX:=(ah0<|W6 0 "sheet")
def aJ8:DF:=i9 br1 1
def cc2:UX:=(ah0<|W6 0 "picture")
def bM6:DF:=i9 cc2 1
def aQ8:UX:=(ah0<|W6 0 "paint_count")
def ao8:DF:=i9 aQ8 1
def ay5:UX:=(O7 (Z4 0 "picture"<|uP (A1 1))<|O7 (Z4 0 "sheet"<|uP (A2 Q2<|A0 (dIx (A6 1) ⇑0) (A0 (dIx (A6 1) ⇑1)<|A0 (dC<|.tuple [(.tuple [(.int 0),(.int 1)]),(.tuple [(.int 0),(.int 1)]),(.tuple [(.int 0),(.int 1)]),(.tuple [(.int 0),(.int 1)])]) A3))) (O7 (Z4 0 "paint_count"<|uP ⇑0)<|uEx (uM 0 "paint" r9<|A0 (A2 S9<|A0 (A1 1) A3) A3)))
def Y3:DF:=i9 ay5 2
def ar7:UX:=(O7 (bt9 (bt1 ["NoName"]<|wM 0 "give" (aL7 O3 U0) (A0 (A1 1) A3)) (uEx<|uM 0 "give" ao9 (A0 (A1 1) A3)) 2<|A7 (B6 3<|ab8 (A0 (aZ2 2 λx=>([("NoName", true)]:List (Str×Bool)).lookup x)<|A0 (aZ2 2 λx=>([("NoName", false)]:List (Str×Bool)).lookup x) (A0 (aZ2 2 λx=>([("NoName", false)]:List (Str×Bool)).lookup x) A3))) (A8<|u6 (aZ2 2 λx=>([("NoName", true)]:List (Str×Bool)).lookup x) (A4 eqD (A1 3)<|ab8 (A0 (dC<|.bool true)<|A0 (dC<|.bool false) (A0 (dC<|.bool false) A3)))))<|ah0 (uP<|dC (.bool false)))
def X4:DF:=i9 ar7 4
def ay6:UX:=(ah0<|ap9 (uB2 eqD (uM0 0 "now" bM6)<|uP (A1 1)) (ap9 (uB2 eqD (uM0 0 "shown" aJ8)<|uP (A2 ap7<|A0 (A1 1) A3))<|uB2 eqD (uM0 0 "painted" ao8) (uP<|A1 2)))
def O8:DF:=i9 ay6 3
def bw1:UX:=(Y6 1<|uP (A2 t8<|A0 (A1 0) (A0 ⇑30<|A0 ⇑4 (A0 (A2 af3<|A0 (A1 0) (A0 ⇑0<|A0 ⇑6 A3)) A3))))
def bw0:UX:=(Y6 2<|uP (A1 1))
def bv9:UX:=(bk1 3<|aV2 Y3 (A0 (A1 1) A3))
def bv8:UX:=(bk1 4<|aV2 Y3 (A0 (A1 1) A3))
def bv7:UX:=(Y6 5<|uP (A4 F9 (dIx (A6 1) ⇑0)<|dIx (A6 1) ⇑1))
def bv6:UX:=(aL0 (P0<|ab7 ⇑1 (ab6 ⇑4<|Z0 (A6 0))) (C3 6)<|O7 (Y6 7<|uP (A2 m4<|A0 (A1 1) A3)) (O7 (uIf (aS4<|uTB (uD 3 O8<|mO (mC (A1 1)<|mC (A1 5) mN))) (ah0<|uP (dC<|.bool false)) av1)<|uIf (uTP<|tB2 neD (A1 7) (ab8 A3)) (O7 (Y6 8<|uP (dIx (A6 7)<|A2 A5 (A0 (A1 0)<|A0 (A4 B0 ⇑800<|A1 6) (A0 (Z0<|A6 7) A3))))<|O7 (Y6 9<|uP (A2 W5<|A0 (A1 0) (A0 (A4 B0 ⇑810<|A4 F9 ⇑170 (A1 6))<|A0 (A1 8) (A0 (dC<|.str "over") A3)))) (O7 (Y6 10<|uP (A2 N9<|A0 (A2 (O1 12)<|A0 (A1 1) (A0 (A2 R5<|A0 (A1 1) (A0 (A1 8) A3)) A3)) (A0 (A2 (O1 12)<|A0 (A1 1) (A0 (A1 9) A3)) A3)))<|O7 (uIf (uTP<|tB2 ak2 (A1 10) (dC .none)) (Y6 5<|uP (A4 B0 (A1 5)<|A4 F9 (dIx (A6 10) ⇑2) (dIx (A6 10) ⇑3))) av1) (O7 (uIf (uTB<|uB2 ak2 (uM 3 "give" ao9<|A0 (A1 9) A3) (uP<|dC .none)) (ah0<|uP (dC<|.bool false)) av1)<|Y6 1 (uP<|A4 B0 (ai0 (A1 1) U7<|O5 ⇑2) (N7<|A0 (A2 (Q7 12)<|A0 (dIx (A6 1) ⇑2) (A0 (A1 8)<|A0 (N7<|A0 (A1 9) A3) A3)) A3))))) av1))
def bv5:UX:=(uIf (aS4<|uTB (uD 3 X4<|mO (mC (N7<|A0 (dC<|.str "tone") (A0 (dC<|.str "zzzzzz")<|A0 (dC<|.str "grey") (A0 (N7<|A0 ⇑1 (A0 ⇑1 A3))<|A0 (dC<|.bool true) A3))) mN))) (ah0<|uP (dC<|.bool false)) av1)
def aT4:UX:=(ah0<|ap9 (uD 3 O8<|mO (mC (A1 1)<|mC (A1 5) mN)) (uD 4 O8<|mO (mC (A1 2)<|mC (A4 F9 (dIx (A6 2) ⇑0)<|dIx (A6 2) ⇑1) mN)))
def cf7:UX:=(O7 bw1<|O7 bw0 (O7 bv9<|O7 bv8 (O7 bv7<|O7 bv6 (O7 bv5 aT4))))
def aR4:List D->Option D:=bR6 cf7 11
end Lk70
namespace Lk70
open PySem G L2 Sh
inductive Rp (o o':List Nd):List Nd->List Nd->Prop
 | top:Rp o o' o o'
 | deep {c e:List Nd}{nm:D}{m:Man}{s:Rat}{sh:Bool}{ns ns':List Nd}:Rp o o' ns ns'->Rp o o' (c ++ .group nm m s sh ns::e) (c ++ .group nm m s sh ns'::e)
def Rp.sw{o o' l l':List Nd}(h:Rp o o' l l'){x y:Int}(e:eV x y o' q0=eV x y o q0):eV x y l' q0=eV x y l q0:=by
 induction h with
 | top=>exact e
 | deep _ ih=>rw[av4,av4,eV,eV,eU,eU,ih]
def ac6(a b:List Nd):fg (a++b)↔fg a/\fg b:=by
 rw[ak0,ak0,ak0];constructor
 .exact λh=>⟨λn hn=>h n<|am _ hn,λn hn=>h n<|ak _ hn⟩
 .intro h n hn;rcases aD.mp hn with q|q
  .exact h.1 n q
  .exact h.2 n q
def ae3(a b:List Nd):eW (a++b)↔eW a/\eW b:=by
 rw[X3,X3,X3];constructor
 .exact λh=>⟨λn hn=>h n<|am _ hn,λn hn=>h n<|ak _ hn⟩
 .intro h n hn;rcases aD.mp hn with q|q
  .exact h.1 n q
  .exact h.2 n q
def Rp.inn{o o' l l':List Nd}(h:Rp o o' l l'):(eW l->eW o)/\eX o<=eX l/\eZ o<=eZ l/\(fg l->fg o):=by
 induction h with
 | top=>exact⟨λx=>x,ah _,ah _,λx=>x⟩
 | deep _ ih =>
  refine⟨λz=>?_,?_,?_,λz=>?_⟩
  .have:=(ae3 _ _).mp z;rw[eW,Nd.Ok]at this;exact ih.1 this.2.1.2
  .rw[T3,eX,Nd.wg];grind
  .rw[Q3,eZ,eY];grind
  .have:=(ac6 _ _).mp z;rw[fg,Nd.off]at this;exact ih.2.2.2 this.2.1.2
def NS(l' l:List Nd):Prop:=∃X:List D,bP X (fc l)/\cO (fc l') X
def NS.len{l' l:List Nd}(h:NS l' l):(fc l').length<=(fc l).length:=by
 obtain⟨X,h1,h2⟩:=h;rw[h2.length_eq];exact h1.length_le
def NS.nd{l' l:List Nd}(h:NS l' l)(n:(fc l).Nodup):(fc l').Nodup:=by
 obtain⟨X,h1,h2⟩:=h;exact h2.nodup_iff.mpr<|h1.nodup n
def NS.sub{l' l:List Nd}(h:NS l' l):∀d∈fc l',d∈fc l:=by
 obtain⟨X,h1,h2⟩:=h;exact λd hd=>h1.subset<|h2.mem_iff.mp hd
theorem Rp.ns{o o' l l':List Nd}(h:Rp o o' l l')(e:NS o' o):NS l' l:=by
 induction h with
 | top=>exact e
 | @deep c e nm m s sh ns ns' _ ih =>
  obtain⟨X,h1,h2⟩:=ih;refine⟨fc c++(nm::X++fc e),?_,?_⟩
  .rw[C5,fc,fb];exact bP.append (bP.refl _)<|bP.append (h1.cons₂ _) (bP.refl _)
  .rw[C5,fc,fb];exact cO.append (cO.refl _)<|cO.append (cO.cons _ h2) (cO.refl _)
mutual
theorem bc5:∀n:Nd,n.nms.length<=1000->n.thin
 | .layer ..,_=>by rw[fe];trivial
 | .tone ..,_=>by rw[fe];trivial
 | .group nm m s sh ns,h=>by
  rw[fb,aJ]at h;rw[fe];have:=thins_of ns (by grind);exact⟨by grind,this.1⟩
theorem thins_of:∀l:List Nd,(fc l).length<=1000->ff l/\l.length<=(fc l).length
 | [],_=>by rw[ff,fc];exact⟨trivial,ah _⟩
 | n::r,h=>by
  rw[fc,az]at h ⊢;rw[ff];have h1:=bc5 n (by grind);have h2:=thins_of r (by grind);have h3:1<=n.nms.length:=List.length_pos_iff.mpr (List.ne_nil_of_mem<|S5 n);exact⟨⟨h1,h2.1⟩,by rw[aJ];grind⟩
end
def Rp.small{o o' l l':List Nd}(h:Rp o o' l l'){k:Nat}(h1:eW o->eW o')(h2:eX o'<=eX o+k)(h3:eZ o'<=eZ o)(h4:fg o->fg o'):(fc l').length<=1000->(eW l->eW l')/\eX l'<=eX l+k/\eZ l'<=eZ l/\(fg l->fg l'):=by
 induction h with
 | top=>exact λ_=>⟨h1,h2,h3,h4⟩
 | @deep c e nm m s sh ns ns' _ ih =>
  intro hl;rw[C5,fc,fb,az,az,aJ]at hl;obtain⟨i1,i2,i3,i4⟩:=ih (by grind);refine⟨λz=>?_,?_,?_,λz=>?_⟩
  .have:=(ae3 _ _).mp z;rw[eW,Nd.Ok]at this;refine(ae3 _ _).mpr ⟨this.1,?_⟩;rw[eW,Nd.Ok];exact⟨⟨this.2.1.1,i1 this.2.1.2⟩,this.2.2⟩
  .rw[T3,T3,eX,eX,Nd.wg,Nd.wg];grind
  .rw[Q3,Q3,eZ,eZ,eY,eY];grind
  .have q:=(ac6 _ _).mp z;rw[fg,Nd.off]at q;refine(ac6 _ _).mpr ⟨q.1,?_⟩;rw[fg,Nd.off];have:=(thins_of ns'<|by grind).2;exact⟨⟨by grind,i4 q.2.1.2⟩,q.2.2⟩
def bV1{a b:List Nd}{n:Nd}{o':List Nd}(hn:P6 n.nm){l:List Nd}(h:Stands a n b l):∀f:Nat,2*eZ l+2<=f->(∀d∈fc l,P6 d)->(fc l).Nodup->l.length<=1000->ff l->∃l',Rp (a++n::b) o' l l'/\M2 f [↥l,n.nm,↥o']=Ob ↥l':=by
 induction h with
 | top =>
  intro f hf hs hd hl ht;obtain⟨f,rfl⟩:∃g,f=g+1:=⟨f - 1,by grind⟩;rw[C5,fc]at hd
  have e0:=aw4 (a:=a) (b:=b) (n:=n) (λn' hn'=>u3 hs n' (am _ hn')) hn (λn' hn' e=>by
   have d1:=(aY.mp hd).2.2
   exact d1 n'.nm (T7 hn' (S5 n')) n.nm (am _ (S5 n)) e)
  refine⟨_,.top,A9 (g:=O6<|ag8 f) (ρ:=[‹↥(a++n::b)›,‹n.nm›,‹↥o'›]) rfl ?_⟩
  exists evD,O6,e0,cF6
 | @deep c e nm m s sh ns h ih =>
  intro f hf hs hd hl ht;obtain⟨f,rfl⟩:∃g,f=g+2:=⟨f - 2,by grind⟩;rw[Q3,eZ,eY]at hf;have hin:=h.nm n.nm (S5 n);rw[C5,fc,fb]at hd;have dc:=(aY.mp hd);have dg:=(aY.mp dc.2.1);have dn:=bn.mp dg.1;have hc:n.nm∉fc c:=λz=>dc.2.2 n.nm z n.nm (by simp[hin]) rfl
  have hg:nm≠n.nm:=λz=>dn.1<|z ▸ hin
  have he:n.nm∉fc e:=λz=>dg.2.2 n.nm (by simp[hin]) n.nm z rfl
  have hsn:∀d∈fc ns,P6 d:=λd hd=>hs d (by rw[C5,fc,fb];simp[hd])
  have hth:=(S3 _).mp ht;have hgt:=hth (.group nm m s sh ns) (by simp);rw[fe]at hgt
  have e0:=ak1 (l:=c ++ .group nm m s sh ns::e) (u3 hs) hn (λn' hn' z=>by
   rcases aD.mp hn' with q|q
   .exact ab9 hc n' q z
   .rcases au.mp q with rfl|q
    .exact hg z
    .exact ab9 he n' q z)
  obtain⟨ns',sb,e1⟩:=ih f (by grind) hsn dn.2 hgt.1 hgt.2;refine⟨_,.deep sb,aw3 hl e0 (by simp) λj hj=>?_⟩
  have idn:∀n0∈c++e,N6 (f+1) [n0.d,n.nm,↥o']=Ob n0.d:=λn0 h0=>by
   have hm:n0∈c ++ .group nm m s sh ns::e:=by
    rcases aD.mp h0 with q|q
    .exact am _ q
    .exact ak _ (xmm _ q)
   have hdp:n0.dp<=max (eZ c) (eZ e):=by
    rcases aD.mp h0 with q|q
    .have:=T9 q;grind
    .have:=T9 q;grind
   refine co7 n.nm hn _ n0 (f+1) (by grind) (λd hd=>hs d<|T7 hm hd) (λz=>?_) (hth n0 hm);rcases aD.mp h0 with q|q
   .exact hc (T7 q z)
   .exact he (T7 q z)
  rcases Nat.lt_trichotomy j c.length with q|q|q
  .rw[db q,db q];exact idn _<|am _ (bj q)
  .subst q;simp only[cu (ah _),ci,List.getElem_cons_zero];exact an4 e1
  .obtain⟨i,rfl⟩:∃i,j=c.length+(i+1):=⟨j - c.length - 1,by grind⟩;have hi:i < e.length:=by simp at hj;grind
   rw[cu (by grind),cu (by grind)];simp only[Nat.add_sub_cancel_left,List.getElem_cons_succ];exact idn _<|ak _ (bj hi)
def aD8{w h:Nat}{a b l:List Nd}{n:Nd}(St:Stands a n b l)(hd:eZ l<=3)(hs:∀d∈fc l,P6 d)(nd:(fc l).Nodup)(hN:(fc l).length<=1000):
  T0 [B5 w h l,n.nm]=Ob ↥(a++n::b)/\P5 [B5 w h l,n.nm]=Oa/\K8 [↥(a++n::b),n.nm]=Ob (.int a.length) /\
  ∀o':List Nd,∃l',Rp (a++n::b) o' l l'/\U6 [B5 w h l,n.nm,↥o']=Ob (B5 w h l'):=by
 have P:=St.props;obtain⟨t1,t2⟩:=thins_of l hN;have sab:∀d∈fc (a++n::b),P6 d:=λd hd=>hs d<|P.sub d hd
 have hn:P6 n.nm:=sab _ (T7 (by simp)<|S5 n);have nda:=P.nd nd;rw[C5,fc]at nda;have e0:=bQ3 hn St 12 (by grind) hs nd;have e1:=aw4 (a:=a) (b:=b) (n:=n) (λn' hn'=>u3 sab n'<|am _ hn') hn (λn' hn' e=>(aY.mp nda).2.2 n'.nm (T7 hn'<|S5 n') n.nm (am _<|S5 n) e);refine⟨?_,?_,e1,λo'=>?_⟩
 .refine A9 (ρ:=[‹B5 w h l›,‹n.nm›,Oa]) rfl ?_
  exists evD,ad8,B5,e0,ao3
 .have st:Q5 3 [B5 w h l,n.nm]=[‹B5 w h l›,‹n.nm›,Oa]:=rfl;unfold P5 aU4;rw[st]
  exists evD,B5,aG3,rIf,rNo,e0,ao3,Option.map_none
 .obtain⟨l',r,e2⟩:=bV1 (o':=o') hn St 12 (by grind) hs nd (by grind) t1;refine⟨l',r,?_⟩;refine rX3 ?_
  exists evD,Z5,B5,e2
def bV2{d:D}(h:Nm d):P6 d:=by
 obtain⟨s,e,o,_⟩:=h;exact⟨s,e,o⟩
structure Gd (W:Nat) (l:List Nd):Prop where
 ok:eW l
 wg:eX l<=W
 dp:eZ l<=3
 off:fg l
 nm:∀d∈fc l,Nm d
 nd:(fc l).Nodup
 nl:(fc l).length<=1000
def Gd.hs{W:Nat}{l:List Nd}(g:Gd W l):∀d∈fc l,P6 d:=λd hd=>bV2<|g.nm d hd
def bK6(l:List Nd){i:Int}{k:Nat}(e:i=(k:Int)):u7 (eT l) Oa (Ob i)=eT (l.take k)/\u7 (eT l) (Ob i) Oa=eT (l.drop k):=by subst e;exact⟨bK4 l k,bK5 l k⟩
end Lk70
namespace Sh
open PySem G L2
abbrev Pt:=Int×Int
def bb:List Pt->Bx
 | []=>Oa
 | p::L=>Ob (mnL ((p::L).map (·.1)),mnL ((p::L).map (·.2)),mxL ((p::L).map (·.1))+1,mxL ((p::L).map (·.2))+1)
mutual
def Nd.ws(nm:D) (oth:List Nd):Nd->Nd
 | .layer n m s sh lf tp mk w h l kb=>.layer n m s sh lf tp mk w h l kb
 | .tone n r s sh=>.tone n r s sh
 | .group n m s sh ns=>.group n m s sh<|Nd.wss nm oth ns
def Nd.wss(nm:D) (oth:List Nd):List Nd->List Nd
 | []=>[]
 | n::r=>if same n.nm nm=true then oth++Nd.wss nm oth r else n.ws nm oth::Nd.wss nm oth r
end
def cx6(a b:List Nd):eT (a++b)=eT a++eT b:=by rw[M4,M4,M4,bQ]
def wsb(f:Nat):DS:=(sIf (tB2 eqD (dIx (A6 4) ⇑1)<|A1 1) (aF6 3<|A1 2)<|sIf (tB2 eqD (dIx (A6 4) ⇑0)<|dC (.str "group")) (af6 3<|A4 B0 (ai0 (A1 4) U7<|O5 ⇑5) (N7<|A0 (A2 (Q7 f)<|A0 (dIx (A6 4) ⇑5) (A0 (A1 1)<|A0 (A1 2) A3)) A3)) (af6 3<|A1 4))
end Sh
open Sh.Nd renaming wss→fi
namespace Lk70
open PySem G L2 Sh
theorem aF0{nm:D}(hn:P6 nm){oth:List Nd}(ho:oth.length<=1000)(f:Nat):∀(l:List Nd) (X:List D) (a0 a4:Option B),(∀n∈l,P6 n.nm)->X.length+1001*l.length<=2000000->(∀n∈l,∀nm' m s sh ns,n=.group nm' m s sh ns->Q7 f [↥ns,nm,↥oth]=Ob ↥(fi nm oth ns)) ->
  ∃a4',aa6 (C3 4) (wsb f) (eT l) [a0,‹nm›,‹↥oth›,Ob (.own X),a4]=Ob (.nx [a0,‹nm›,‹↥oth›,Ob (.own<|X++eT (fi nm oth l)),a4'])
 | [],X,a0,a4,_,_,_=>⟨a4,by rw[fi,eT,aA];rfl⟩
 | n::l,X,a0,a4,hs,hl,H=>by
  have hi:=cI9 (hs n<|aw ..) hn;rw[aJ,Nat.mul_succ]at hl;have hx:X.length < 16777216:=by grind
  have lo:(eT oth).length<=1000:=by rw[M4,ay];exact ho
  have hx':X.length+(eT oth).length<=16777216:=by grind
  rw[eT,fi];have n1:∃ds:List D,n.d=.tuple ds/\atI ds 1=Ob n.nm:=by cases n<;>exact⟨_,by rw[eS],rfl⟩
  cases q:same n.nm nm with
  | true =>
   rw[q]at hi;obtain⟨a4',e⟩:=aF0 hn ho f l (X++eT oth) a0 (‹n.d›) (λx hx=>hs x<|xmm _ hx) (by rw[az];grind) (λx hx=>H x<|xmm _ hx);refine⟨a4',?_⟩
   have b:wsb f [a0,‹nm›,‹↥oth›,Ob (.own X),‹n.d›]=Ob (.nx [a0,‹nm›,‹↥oth›,Ob (.own<|X++eT oth),‹n.d›]):=by
    obtain⟨ds,ed,e1⟩:=n1;rw[ed]
    exists evD,wsb,e1,hi,aF6,if_pos hx'
   simp only[aa6,C3,xw0,xw1,xbs,b,if_true,cx6];rw[aF]at e;exact e
  | false =>
   rw[q]at hi;obtain⟨a4',e⟩:=aF0 hn ho f l (X++[(n.ws nm oth).d]) a0 (‹n.d›) (λx hx=>hs x<|xmm _ hx) (by rw[az];show X.length+1+_<=_;grind) (λx hx=>H x<|xmm _ hx);refine⟨a4',?_⟩
   have b:wsb f [a0,‹nm›,‹↥oth›,Ob (.own X),‹n.d›]=Ob (.nx [a0,‹nm›,‹↥oth›,Ob (.own<|X++[(n.ws nm oth).d]),‹n.d›]):=by
    cases n with
    | layer=>rw[Nd.ws,eS];rw[Nd.nm]at hi;exists evD,wsb,cK2,cK3,hi,cJ0,af6,if_pos hx
    | tone=>rw[Nd.ws,eS];rw[Nd.nm]at hi;exists evD,wsb,cK7,cK8,hi,e_tg,af6,if_pos hx
    | group nm' m s sh ns =>
     have e1:=H _ (aw ..) nm' m s sh ns rfl;have cut:∀a b c d e f:D,u7 [a,b,c,d,e,f] Oa (Ob 5)=[a,b,c,d,e]:=λ_ _ _ _ _ _=>rfl
     have ct:∀a b c d e f:D,B0 (.tuple [a,b,c,d,e]) (.tuple [f])=Ob (.tuple [a,b,c,d,e,f]):=λ_ _ _ _ _ _=>rfl
     rw[Nd.ws,eS,eS];rw[Nd.nm]at hi
     exists evD,wsb,cK5,cK6,cK4,hi,cJ1,af6,if_pos hx,ai0,cut,e1,ct
   simp only[aa6,C3,xw0,xw1,xbs,b,xft,if_false,eT];rw[aF]at e;exact e
def aK3{nm:D}(hn:P6 nm){oth:List Nd}(ho:oth.length<=1000):∀(k:Nat) (l:List Nd) (f:Nat),eZ l<=k->k+1<=f->l.length<=1000->ff l->(∀d∈fc l,P6 d)->Q7 f [↥l,nm,↥oth]=Ob ↥(fi nm oth l):=by
 have step:∀(l:List Nd) (f:Nat),l.length<=1000->(∀d∈fc l,P6 d)->(∀n∈l,∀nm' m s sh ns,n=.group nm' m s sh ns->Q7 f [↥ns,nm,↥oth]=Ob ↥(fi nm oth ns))->Q7 (f+1) [↥l,nm,↥oth]=Ob ↥(fi nm oth l):=λl f hl hs H=>by
  obtain⟨a4',e⟩:=aF0 hn ho f l [] (‹↥l›) Oa (u3 hs) (by show 0+_<=_;grind) H;refine A9 (g:=aR0<|Q7 f) (ρ:=[‹↥l›,‹nm›,‹↥oth›,Oa,Oa]) rfl ?_;have s1:(Y8 (T8<|A1 0) (C3 4)<|wsb f) [‹↥l›,‹nm›,‹↥oth›,Ob (.own []),Oa]=Ob (.nx [‹↥l›,‹nm›,‹↥oth›,Ob (.own<|[]++eT (fi nm oth l)),a4']):=e;exact(F5 (ρ':=[‹↥l›,‹nm›,‹↥oth›,Ob (.own []),Oa]) rfl).trans ((F5 s1).trans rfl)
 intro k
 induction k with
 | zero =>
  intro l f hd hf hl ht hs;obtain⟨f,rfl⟩:∃g,f=g+1:=⟨f - 1,by grind⟩;refine step l f hl hs λn hn' nm' m s sh ns e=>?_
  have:=T9 hn';rw[e,eY]at this;grind
 | succ k ih =>
  intro l f hd hf hl ht hs;obtain⟨f,rfl⟩:∃g,f=g+1:=⟨f - 1,by grind⟩;refine step l f hl hs λn hn' nm' m s sh ns e=>?_
  have h1:=T9 hn';have h2:=(S3 l).mp ht n hn';rw[e,eY]at h1;rw[e,fe]at h2;exact ih ns f (by grind) (by grind) h2.1 h2.2 λd hd'=>hs d (T7 hn' (by rw[e,fb];exact xmm _ hd'))
mutual
theorem ch3{nm:D}{oth:List Nd}:∀n:Nd,nm∉n.nms->n.ws nm oth=n
 | .layer ..,_=>by rw[Nd.ws]
 | .tone ..,_=>by rw[Nd.ws]
 | .group nm' m s sh ns,h=>by
  rw[fb]at h;rw[Nd.ws,wt_id ns λz=>h (xmm _ z)]
theorem wt_id{nm:D}{oth:List Nd}:∀l:List Nd,nm∉fc l->fi nm oth l=l
 | [],_=>by rw[fi]
 | n::r,h=>by
  rw[fc]at h;have h1:nm∉n.nms:=λz=>h<|am _ z
  have ne:n.nm≠nm:=λz=>h1 (by rw[← z];exact S5 n)
  rw[fi,aj3 ne,if_neg (by simp),ch3 n h1,wt_id r λz=>h (ak _ z)]
end
theorem aS1(nm:D)(oth:List Nd):∀a b:List Nd,fi nm oth (a++b)=fi nm oth a++fi nm oth b
 | [],b=>by rw[fi];rfl
 | n::a,b=>by
  rw[xca,fi,fi,aS1 nm oth a b];split
  .rw[aF]
  .rfl
def cA6{a b oth l l':List Nd}{n:Nd}(r:Rp (a++n::b) (a++oth++b) l l'):(fc l).Nodup->fi n.nm oth l=l':=by
 induction r with
 | top =>
  intro nd;rw[C5,fc]at nd;have d1:=aY.mp nd;have d2:=aY.mp d1.2.1;have ha:n.nm∉fc a:=λz=>d1.2.2 n.nm z n.nm (am _<|S5 n) rfl
  have hb:n.nm∉fc b:=λz=>d2.2.2 n.nm (S5 n) n.nm z rfl
  rw[aS1,wt_id a ha,fi,am8,if_pos rfl,wt_id b hb,aF]
 | @deep c e nm m s sh ns ns' r ih =>
  intro nd
  have hin:n.nm∈fc ns:=by
   have:∀{x y:List Nd},Rp (a++n::b) (a++oth++b) x y->n.nm∈fc x:=λr=>by
    induction r with
    | top=>rw[C5,fc];exact ak _<|am _ (S5 n)
    | deep _ ih=>rw[C5,fc,fb];exact ak _<|am _ (xmm _ ih)
   exact this r
  rw[C5,fc,fb]at nd;have dc:=aY.mp nd;have dg:=aY.mp dc.2.1;have dn:=bn.mp dg.1;have hc:n.nm∉fc c:=λz=>dc.2.2 n.nm z n.nm (by simp[hin]) rfl
  have hg:nm≠n.nm:=λz=>dn.1<|z ▸ hin
  have he:n.nm∉fc e:=λz=>dg.2.2 n.nm (by simp[hin]) n.nm z rfl
  rw[aS1,wt_id c hc,fi,show(Nd.group nm m s sh ns).nm=nm by rw[Nd.nm],aj3 hg,if_neg (by simp),Nd.ws,ih dn.2,wt_id e he]
mutual
def Nd.al:Nd->List Nd
 | .layer nm m s sh lf tp mk w h l kb=>[.layer nm m s sh lf tp mk w h l kb]
 | .tone nm r s sh=>[.tone nm r s sh]
 | .group nm m s sh ns=>.group nm m s sh ns::Nd.als ns
def Nd.als:List Nd->List Nd
 | []=>[]
 | n::r=>Nd.al n++Nd.als r
end
mutual
theorem cz1:∀n:Nd,(Nd.al n).map Nd.nm=n.nms
 | .layer ..=>by rw[Nd.al,fb];rfl
 | .tone ..=>by rw[Nd.al,fb];rfl
 | .group nm m s sh ns=>by rw[Nd.al,fb,xmc,als_nms ns];rfl
theorem als_nms:∀l:List Nd,(Nd.als l).map Nd.nm=fc l
 | []=>by rw[Nd.als,fc];rfl
 | n::r=>by rw[Nd.als,fc,bQ,cz1 n,als_nms r]
end
def bj4(a b:List Nd):Nd.als (a++b)=Nd.als a++Nd.als b:=by
 induction a with
 | nil=>rw[Nd.als];rfl
 | cons n a ih=>rw[xca,Nd.als,Nd.als,ih,aF]
def Rp.dps{o o' l l':List Nd}(r:Rp o o' l l')(h:eZ o'<=eZ o):eZ l'<=eZ l:=by
 induction r with
 | top=>exact h
 | deep _ ih=>rw[Q3,Q3,eZ,eZ,eY,eY];grind
structure Wl (l:List Nd):Prop where
 dp:eZ l<=3
 hs:∀d∈fc l,P6 d
 nd:(fc l).Nodup
 nl:(fc l).length<=1000
def Gd.wl{W:Nat}{l:List Nd}(g:Gd W l):Wl l:=⟨g.dp,g.hs,g.nd,g.nl⟩
def Rp.wl{o o' l l':List Nd}(r:Rp o o' l l')(g:Wl l)(h:eZ o'<=eZ o)(s:NS o' o):Wl l':=by
 have n:=r.ns s;have d:=r.dps h;exact⟨aL d g.dp,λd hd=>g.hs d<|n.sub d hd,n.nd g.nd,aL n.len g.nl⟩
def Wl.wt{l:List Nd}(g:Wl l){nm:D}(hn:P6 nm){oth:List Nd}(ho:oth.length<=1000):Q7 12 [↥l,nm,↥oth]=Ob ↥(fi nm oth l):=by
 have t:=thins_of l g.nl;have:=g.nl;exact aK3 hn ho 3 l 12 g.dp (by decide) (by grind) t.1 g.hs
theorem bJ2{k:Nat}:∀l:List Nd,(∀n∈l,n.dp<=k)->eZ l<=k
 | [],_=>by rw[eZ];exact aU _
 | n::l,h=>by rw[eZ];exact Nat.max_le.mpr ⟨h n (aw ..),bJ2 l λm hm=>h m<|xmm _ hm⟩
def ca4{l' l:List Nd}(h:∀n∈l',n.dp=0\/n∈l):eZ l'<=eZ l:=bJ2 l' λn hn=>by
 rcases h n hn with e|e
 .rw[e];exact aU _
 .exact T9 e
def aH8{d:D}(h:P6 d)(n:Nat):Ly n d:=by
 obtain⟨s,rfl,o⟩:=h;exact⟨o.ok,aU _⟩
def bg4(r:Rat):Ly 1 (fr r):=Ly.tup λx hx=>by
 simp only[au,aR,or_false]at hx;rcases hx with rfl|rfl<;>exact Ly.int _ _
def bC0(m:Man)(n:Nat):Ly n (.str m.s):=⟨by cases m<;>decide +kernel,aU _⟩
def cq3{nm:D}{m:Man}{s:Rat}{sh:Bool}{lf tp:Int}{mk:Option (List Rat)}{w h:Nat}{l:List Q4}{kb:Nat}(hn:P6 nm):Ly 5 (eS<|.layer nm m s sh lf tp mk w h l kb):=by
 rw[eS];refine Ly.tup λx hx=>?_
 simp only[au,aR,or_false]at hx;rcases hx with rfl|rfl|rfl|rfl|rfl|rfl|rfl|rfl|rfl
 .exact⟨by decide +kernel,aU _⟩
 .exact aH8 hn _
 .exact bC0 m _
 .exact(bg4 s).mono (by decide)
 .exact⟨rfl,aU _⟩
 .exact Ly.int _ _
 .exact Ly.int _ _
 .cases mk with
  | none=>exact⟨rfl,aU _⟩
  | some ms =>
   refine Ly.mono (m:=2) (Ly.tup λx hx=>?_) (by decide);obtain⟨r,_,rfl⟩:=aT.mp hx;exact bg4 r
 .exact Ly.sheet w h l
def cq1(r:Rul)(n:Nat):Ly n (.str r.s):=⟨by cases r<;>decide +kernel,aU _⟩
mutual
theorem cF9:∀n:Nd,(∀d∈n.nms,P6 d)->Ly (5+2*n.dp) n.d
 | .layer nm m s sh lf tp mk w h l kb,hs=>(cq3<|hs nm (by rw[fb];simp)).mono (by grind)
 | .tone nm r s sh,hs=>by
  rw[eS,eY];refine Ly.tup λx hx=>?_
  simp only[au,aR,or_false]at hx;rcases hx with rfl|rfl|rfl|rfl|rfl
  .exact⟨by decide +kernel,aU _⟩
  .exact aH8 (hs _ (by rw[fb];simp)) _
  .exact cq1 r _
  .exact(bg4 s).mono (by decide)
  .exact⟨rfl,aU _⟩
 | .group nm m s sh ns,hs=>by
  rw[fb]at hs;have i:=ly_nds ns λd hd=>hs d<|xmm _ hd
  rw[eS,eY];refine Ly.mono (m:=6+2*eZ ns+1) (Ly.tup λx hx=>?_) (by grind);simp only[au,aR,or_false]at hx;rcases hx with rfl|rfl|rfl|rfl|rfl|rfl
  .exact⟨by decide +kernel,aU _⟩
  .exact aH8 (hs _<|aw ..) _
  .exact bC0 m _
  .exact(bg4 s).mono (by grind)
  .exact⟨rfl,aU _⟩
  .exact⟨i.1,by show PyData.depthAll (eT ns)+1<=_;grind⟩
theorem ly_nds:∀l:List Nd,(∀d∈fc l,P6 d)->PyData.canLayAll0 (eT l)=true/\PyData.depthAll (eT l)<=5+2*eZ l
 | [],_=>by rw[eT];exact⟨rfl,aU _⟩
 | n::r,hs=>by
  rw[fc]at hs;obtain⟨i1,i2⟩:=cF9 n λd hd=>hs d<|am _ hd
  obtain⟨j1,j2⟩:=ly_nds r λd hd=>hs d<|ak _ hd
  rw[eT,eZ];refine⟨?_,?_⟩
  .show(eJ n.d&&PyData.canLayAll0 (eT r))=true;rw[i1,j1];rfl
  .show max (PyData.depth n.d) (PyData.depthAll<|eT r)<=_;omega
end
def cq2{w h:Nat}{l:List Nd}(hs:∀d∈fc l,P6 d):Ly (7+2*eZ l) (B5 w h l):=by
 have i:=ly_nds l hs;unfold B5;refine Ly.mono (m:=6+2*eZ l+1) (Ly.tup λx hx=>?_) (by grind);simp only[au,aR,or_false]at hx;rcases hx with rfl|rfl|rfl
 .exact Ly.int _ _
 .exact Ly.int _ _
 .exact⟨i.1,by show PyData.depthAll (eT l)+1<=_;grind⟩
mutual
theorem aB9:∀n:Nd,n.near->n.thin->n.off
 | .layer ..,o,_=>by rw[Nd.near]at o;rw[Nd.off];grind
 | .tone ..,_,_=>by rw[Nd.off];trivial
 | .group nm m s sh ns,o,t=>by
  rw[Nd.near]at o;rw[fe]at t;rw[Nd.off];exact⟨t.1,nears_off' ns o t.2⟩
theorem nears_off':∀l:List Nd,Nd.nears l->ff l->fg l
 | [],_,_=>by rw[fg];trivial
 | n::r,o,t=>by
  rw[Nd.nears]at o;rw[ff]at t;rw[fg];exact⟨aB9 n o.1 t.1,nears_off' r o.2 t.2⟩
end
def aT3{a b l:List Nd}{n:Nd}(h:Stands a n b l):n∈Nd.als l:=by
 induction h with
 | top =>
  rw[bj4,Nd.als];refine ak _ (am _ ?_);cases n<;>(rw[Nd.al];simp)
 | deep _ ih =>
  rw[bj4,Nd.als,Nd.al];exact ak _<|am _ (xmm _ ih)
theorem bB1{n m:Nd}(e:n.nm=m.nm):∀{L:List Nd},(L.map Nd.nm).Nodup->n∈L->m∈L->n=m
 | [],_,h,_=>absurd h (by simp)
 | x::L,nd,hn,hm=>by
  rw[xmc]at nd;obtain⟨h1,h2⟩:=bn.mp nd;rcases au.mp hn with h3|h3<;>rcases au.mp hm with h4|h4
  .exact h3.trans h4.symm
  .exact absurd (aT.mpr ⟨m,h4,by rw[← e,h3]⟩) h1
  .exact absurd (aT.mpr ⟨n,h3,by rw[e,h4]⟩) h1
  .exact bB1 e h2 h3 h4
def ba2{l:List Nd}{n:Nd}(nd:(fc l).Nodup)(h:n∈Nd.als l):∃a b,Stands a n b l:=by
 have hn:n.nm∈fc l:=by rw[← als_nms];exact aT.mpr ⟨n,h,rfl⟩
 obtain⟨a,m,b,St,e⟩:=nms_stands [] l n.nm hn;rw[xna]at St;have:m=n:=bB1 e (by rw[als_nms];exact nd) (aT3 St) h;subst this;exact⟨a,b,St⟩
def bV4{w h:Nat}{a b l:List Nd}{n:Nd}(g:Wl l)(St:Stands a n b l):R5 [B5 w h l,n.nm]=Ob n.d:=by
 obtain⟨e1,_,e2,_⟩:=aD8 (w:=w) (h:=h) St g.dp g.hs g.nd g.nl;have i2:atI (eT (a++n::b)) (a.length:Int)=Ob n.d:=cK1 (by rw[aK (ah _),ci];rfl);refine A9 (ρ:=[‹B5 w h l›,‹n.nm›,Oa]) rfl ?_
 exists evD,am4,e1,e2,i2
def bO5{w h:Nat}{a b l:List Nd}{n:Nd}(g:Wl l)(St:Stands a n b l)(o:Nd):∃l',Rp (a++n::b) (a++o::b) l l'/\S8 [B5 w h l,n.nm,o.d]=Ob (B5 w h l'):=by
 obtain⟨e1,_,e2,put⟩:=aD8 (w:=w) (h:=h) St g.dp g.hs g.nd g.nl;obtain⟨l',r,ep⟩:=put (a++[o]++b);have P:=St.props
 have hz:(a++n::b).length<=1000:=by
  have h0:(fc (a++n::b)).length<=1000:=aL (List.Nodup.length_le_of_subset (P.nd g.nd) P.sub) g.nl;exact aL (thins_of _ h0).2 h0
 rw[az,aJ]at hz;have c1:=(bK6 (a++n::b) (i:=(a.length:Int)) rfl).1;have c2':=(bK6 (a++n::b) (i:=(a.length:Int)+1) (k:=a.length+1)<|by grind).2;rw[List.take_left]at c1;rw[show(a++n::b).drop (a.length+1)=b by rw[show a++n::b=(a++[n])++b by simp,List.drop_left' (by simp)]]at c2';have k1:=bL1 a [o] (by simp;grind);have k2:=bL1 (a++[o]) b (by rw[az];simp;grind);have d1:eT [o]=[o.d]:=by rw[eT,eT]
 rw[d1]at k1;refine⟨l',by rw[aF]at r;exact r,?_⟩;refine A9 (ρ:=[‹B5 w h l›,‹n.nm›,‹o.d›,Oa,Oa]) rfl ?_
 exists evD,ar4,e1,e2,ai0,c1,c2',k1,k2,ep
def cx5{w h W:Nat}(w1:1<=w)(h1:1<=h){a b l:List Nd}{n o:Nd}(g:Gd W l)(hW:W<=700)(St:Stands a n b l)(ok:o.Ok)(dp:o.dp=0)(wg:o.wg<=40)(nm:o.nm=n.nm)(nr:o.near):
  ∃l',S8 [B5 w h l,n.nm,o.d]=Ob (B5 w h l')/\Q7 12 [↥l,n.nm,.tuple [o.d]]=Ob ↥l'/\Gd (W+40) l'/\(∀d∈fc l',d∈fc l) /\
   ∀x y:Int,0<=x/\x < w/\0<=y/\y < h->¬Bx.has (jn (n.bx w h)<|o.bx w h) x y->eV x y l' q0=eV x y l q0:=by
 obtain⟨l',r,e⟩:=bO5 (w:=w) (h:=h) g.wl St o;have hn:P6 n.nm:=g.hs _ (St.nm _<|S5 n);have wt:=g.wl.wt hn (oth:=[o]) (by simp);rw[cA6 (a:=a) (b:=b) (oth:=[o]) (n:=n) (l:=l) (l':=l') (by rw[aF];exact r) g.nd]at wt;have d1:eT [o]=[o.d]:=by rw[eT,eT]
 rw[d1]at wt
 have onm:o.nms=[o.nm]:=by
  cases o with
  | layer=>rw[fb,Nd.nm]
  | tone=>rw[fb,Nd.nm]
  | group=>rw[eY]at dp;grind
 have ooff:o.off:=aB9 o nr (by
  cases o with
  | layer=>rw[fe];trivial
  | tone=>rw[fe];trivial
  | group=>rw[eY]at dp;grind)
 have ns:NS (a++o::b) (a++n::b):=by
  refine⟨_,?_,cO.refl _⟩;rw[C5,C5,fc,fc,onm,nm];exact bP.append (bP.refl _)<|bP.append (List.singleton_sublist.mpr<|S5 n) (bP.refl _)
 have dd:eZ (a++o::b)<=eZ (a++n::b):=ca4 λx hx=>by
  rcases aD.mp hx with q|q
  .exact .inr (am _ q)
  .rcases au.mp q with rfl|q
   .exact .inl dp
   .exact .inr (ak _<|xmm _ q)
 have wl:=r.wl g.wl dd ns
 have sm:=r.small (k:=40) (λz=>by
  have:=(ae3 _ _).mp z;rw[eW]at this;refine(ae3 _ _).mpr ⟨this.1,?_⟩;rw[eW];exact⟨ok,this.2.2⟩) (by rw[T3,T3,eX,eX];grind) dd (λz=>by
  have:=(ac6 _ _).mp z;rw[fg]at this;refine(ac6 _ _).mpr ⟨this.1,?_⟩;rw[fg]
  exact⟨ooff,this.2.2⟩) wl.nl
 have nn:=r.ns ns;have gw:=g.wg;refine⟨l',e,wt,⟨sm.1 g.ok,by grind,wl.dp,sm.2.2.2 g.off,λd hd=>g.nm d<|nn.sub d hd,wl.nd,wl.nl⟩,nn.sub,λx y bb ho=>?_⟩;have hw:(0:Int) < (w:Int):=by grind
 have hh:(0:Int) < (h:Int):=by grind
 have inn:=r.inn;have oa:=(ae3 _ _).mp (inn.1 g.ok);have wa:=inn.2.1;have da:=inn.2.2.1;rw[T3]at wa;rw[Q3]at da;have gd:=g.dp;have Sa:Small6 a:=⟨oa.1,by grind,by grind⟩;have q:=cC5 Sa x y;refine r.sw ?_;rw[av4,av4,eV,eV,aH0 hw hh bb o _ q λz=>ho (aX6 (aN5<|aQ4 (w:Int) h hw hh o) z),aH0 hw hh bb n _ q λz=>ho (aX6 (aI0<|aQ4 (w:Int) h hw hh n) z)]
def Gd.small(g:Gd W l)(h:W<=800):Small6 l:=⟨g.ok,aL g.wg h,g.dp⟩
def pts:Bx->List (Int×Int)
 | none=>[]
 | some (l,t,r,b)=>(plc (r - l).toNat ((r - l).toNat*(b - t).toNat)).map λp=>(l+p.1,t+p.2)
def u8:Bx->Int
 | none=>0
 | some (l,t,r,b)=>(r - l)*(b - t)
def bS7{A:Bx}(wf:Bx.wf A){x y:Int}(h:Bx.has A x y):(x,y)∈pts A:=by
 cases A with
 | none=>exact h.elim
 | some a =>
  obtain⟨l,t,r,b⟩:=a;obtain⟨h1,h2,h3,h4⟩:=h;obtain⟨f1,f2⟩:=wf;obtain⟨u,hu⟩:∃u:Nat,x=l+u:=⟨(x - l).toNat,by grind⟩;obtain⟨v,hv⟩:∃v:Nat,y=t+v:=⟨(y - t).toNat,by grind⟩;obtain⟨W,hW⟩:∃W:Nat,r=l+W:=⟨(r - l).toNat,by grind⟩;obtain⟨K,hK⟩:∃K:Nat,b=t+K:=⟨(b - t).toNat,by grind⟩;subst hu hv hW hK;have u1:u < W:=by grind
  have v1:v < K:=by grind
  have e1:(l+(W:Int) - l).toNat=W:=by grind
  have e2:(t+(K:Int) - t).toNat=K:=by grind
  show _∈(plc (l+(W:Int) - l).toNat<|(l+(W:Int) - l).toNat*(t+(K:Int) - t).toNat).map _;rw[e1,e2];refine aT.mpr ⟨((u:Int),(v:Int)),aT.mpr ⟨v*W+u,aO.mpr ?_,?_⟩,rfl⟩
  .calc v*W+u < v*W+W:=by grind
    _=(v+1)*W:=by rw[Nat.succ_mul]
    _<=K*W:=Nat.mul_le_mul_right _ v1
    _=W*K:=bK _ _
  .have m1:(v*W+u) % W=u:=by rw[bK,Nat.mul_add_mod,Nat.mod_eq_of_lt u1]
   have m2:(v*W+u) / W=v:=by rw[bK,Nat.mul_add_div (by grind),Nat.div_eq_of_lt u1,Nat.add_zero]
   rw[m1,m2]
def bS6{A:Bx}(wf:Bx.wf A):((pts A).length:Int)=u8 A:=by
 cases A with
 | none=>rfl
 | some a =>
  obtain⟨l,t,r,b⟩:=a;obtain⟨f1,f2⟩:=wf;show((List.map _<|plc _ _).length:Int)=_;rw[ay,aj7];show(((r - l).toNat*(b - t).toNat:Nat):Int)=(r - l)*(b - t);rw[aI,cR (by grind),cR (by grind)]
def cl3{A:Bx}{w h:Nat}(wf:Bx.wf A)(le:Bx.le A (Ob (0,0,(w:Int),(h:Int)))){p:Int×Int}(hp:p∈pts A):0<=p.1/\p.1 < w/\0<=p.2/\p.2 < h:=by
 cases A with
 | none=>cases hp
 | some a =>
  obtain⟨l,t,r,b⟩:=a;obtain⟨f1,f2⟩:=wf;obtain⟨g1,g2,g3,g4⟩:=le;obtain⟨c,hc,rfl⟩:=aT.mp hp;obtain⟨k,hk,rfl⟩:=aT.mp hc;have hk:=aO.mp hk;have hW:0 < (r - l).toNat:=by grind
  have m1:=cT k hW;have m2:k / (r - l).toNat < (b - t).toNat:=cM hk;dsimp only;generalize k % (r - l).toNat=u at m1 ⊢;generalize k / (r - l).toNat=v at m2 ⊢
  clear hk
  grind
def places_in{A:Bx}{w h:Nat}(w8:w<=8)(h8:h<=8)(wf:Bx.wf A)(le:Bx.le A (Ob (0,0,(w:Int),(h:Int)))):W0 [bxD A]=Ob (.list<|(pts A).map λp=>.tuple [.int p.1,.int p.2]):=by
 refine A9 (ρ:=[‹bxD A›]) rfl ?_;cases A with
 | none=>rfl
 | some a =>
  obtain⟨l,t,r,b⟩:=a;obtain⟨f1,f2⟩:=wf;obtain⟨g1,g2,g3,g4⟩:=le;obtain⟨W,hW⟩:∃W:Nat,r - l=W:=⟨(r - l).toNat,by grind⟩;obtain⟨K,hK⟩:∃K:Nat,b - t=K:=⟨(b - t).toNat,by grind⟩;have wk:W*K<=8*8:=bG (by grind) (by grind);have pl:=aB7 (w:=W) (h:=K) (by grind) (by grind) (by grind);have bx:bxD (Ob (l,t,r,b))=.tuple [.int l,.int t,.int W,.int K]:=by show PyData.tuple [_,_,.int (r - l),.int (b - t)]=_;rw[hW,hK]
  have pt:pts (Ob (l,t,r,b))=(plc W<|W*K).map λp=>(l+p.1,t+p.2):=by
   show(plc (r - l).toNat<|(r - l).toNat*(b - t).toNat).map _=_;rw[hW,hK,aZ,aZ]
  rw[bx,pt,bE];have t0:isB (.tuple [.int l,.int t,.int W,.int K]) .none=Ob (.bool false):=rfl;have a0:∀x y z u:D,atI [x,y,z,u] 0=Ob x:=λ_ _ _ _=>rfl
  have a1:∀x y z u:D,atI [x,y,z,u] 1=Ob y:=λ_ _ _ _=>rfl
  have a2:∀x y z u:D,atI [x,y,z,u] 2=Ob z:=λ_ _ _ _=>rfl
  have a3:∀x y z u:D,atI [x,y,z,u] 3=Ob u:=λ_ _ _ _=>rfl
  unfold ar6;refine(F5 (ρ':=[‹.tuple [.int l,.int t,.int W,.int K]›]) (by exists evD,t0)).trans ?_;unfold A8 ab8;rw[bB3 (l:=plc W<|W*K) (h1:=λp=>.int p.1) (h2:=λp=>.int p.2) (f:=λp=>.tuple [.int (l+p.1),.int (t+p.2)]) (r:=[‹.tuple [.int l,.int t,.int W,.int K]›]) rfl ?_ (by rw[aj7];grind) ?_]
  .rfl
  .exists evD,a2,a3,pl
  .intro p _
   exists evD,a0,a1
def bP0:UX:=(bu0 2 (Q0 W1<|ulC (W6 0 "picture") (ulC (uP<|A1 3)<|ulC (uP<|A1 4) ulN))<|Q0 D8 (ulC (W6 0 "sheet")<|ulC (uP<|A1 3) (ulC (uP<|A1 4) ulN)))
def bP1:UX:=(Z4 0 "paint_count"<|uB2 B0 (W6 0 "paint_count") (uP ⇑1))
def cK0:UX:=(bc4 2<|aK9 (W6 0 "sheet") ⇑2)
def cJ9:UX:=(Z4 0 "sheet"<|bQ0 (ulC (aK9 (W6 0 "sheet") ⇑0)<|ulC (aK9 (W6 0 "sheet") ⇑1) (ulC (uP<|S2 (A6 2)) ulN)))
def gv0:UX:=(Y6 2<|uP (A2 O3<|A0 (A1 1) A3))
def gv1:UX:=(Y6 3<|Q0 R5 (ulC (W6 0 "picture")<|ulC (uP<|A1 2) ulN))
def gv2:UX:=(Y6 4<|Q0 N9 (ulC (Q0 (O1 12)<|ulC (W6 0 "picture") (ulC (uP<|A1 3) ulN))<|ulC (Q0 (O1 12)<|ulC (W6 0 "picture") (ulC (uP<|A1 1) ulN)) ulN))
def gv3:UX:=(Z4 0 "picture"<|Q0 S8 (ulC (W6 0 "picture")<|ulC (uP<|A1 2) (ulC (uP<|A1 1) ulN)))
def gv4:UX:=(uEx<|uM 0 "paint" r9 (A0 (A1 4) A3))
def in0:UX:=(Z4 0 "picture"<|uP (A1 1))
def in1:UX:=(Z4 0 "sheet"<|uP (A2 Q2<|A0 (dIx (A6 1) ⇑0) (A0 (dIx (A6 1) ⇑1)<|A0 (dC<|.tuple [(.tuple [(.int 0),(.int 1)]),(.tuple [(.int 0),(.int 1)]),(.tuple [(.int 0),(.int 1)]),(.tuple [(.int 0),(.int 1)])]) A3)))
def in2:UX:=(Z4 0 "paint_count"<|uP ⇑0)
def in3:UX:=(uEx<|uM 0 "paint" r9 (A0 (A2 S9<|A0 (A1 1) A3) A3))
abbrev v(d:D):Option B:=‹d›
def ob(w h:Nat)(l:List Nd)(L:List Q4)(c:Int):Fo:=[("picture", B5 w h l),("sheet", shD w h L),("paint_count", .int c)]
def R3{f g:UX}(h:f ρ q=Ob (.nx ρ' q')):O7 f g ρ q=g ρ' q':=by unfold O7;rw[h];rfl
abbrev rP(A:D)(M:List D)(x y:Option B):Rho:=[Ob (.opq 0),v A,Ob (.own M),x,y]
section
variable {w h:Nat}{l:List Nd}{L M:List Q4}{c:Int}{A:D}{px py:Int}
def cn0:cK0 [Ob (.opq 0),v A,Oa,Oa,Oa] [ob w h l L c]=Ob (.nx (rP A (L.map Q4.d) Oa Oa) [ob w h l L c]):=by kernel_rfl
def ck5(x y:Option B):cJ9 (rP A (M.map Q4.d) x y) [ob w h l L c]=Ob (.nx (rP A (M.map Q4.d) x y) [ob w h l M c]):=by kernel_rfl
def cy0(x y:Option B)(X:List D):bP1 (rP A X x y) [ob w h l L c]=Ob (.nx (rP A X x y) [ob w h l L (c+1)]):=by kernel_rfl
def cI8(X:List D):Q0 W1 (ulC (W6 0 "picture")<|ulC (uP<|A1 3) (ulC (uP<|A1 4) ulN)) (rP A X (v<|.int px)<|v (.int py)) [ob w h l L c]=(W1 [B5 w h l,.int px,.int py]).map λd=>(d,[ob w h l L c]):=by kernel_rfl
def cF5(X:List D):Q0 D8 (ulC (W6 0 "sheet")<|ulC (uP<|A1 3) (ulC (uP<|A1 4) ulN)) (rP A X (v<|.int px)<|v (.int py)) [ob w h l L c]=(D8 [shD w h L,.int px,.int py]).map λd=>(d,[ob w h l L c]):=by kernel_rfl
def cI0(bb:0<=px/\px < w/\0<=py/\py < h):∃j:Nat,py*w+px=j/\j < w*h/\((j % w:Nat):Int)=px/\((j / w:Nat):Int)=py:=by
 obtain⟨b1,b2,b3,b4⟩:=bb;obtain⟨x,rfl⟩:∃x:Nat,px=x:=⟨px.toNat,by grind⟩;obtain⟨y,rfl⟩:∃y:Nat,py=y:=⟨py.toNat,by grind⟩;have x1:x < w:=by grind
 have y1:y < h:=by grind
 refine⟨y*w+x,by rw[du,aI],?_,?_,?_⟩
 .calc y*w+x < y*w+w:=by grind
   _=(y+1)*w:=by rw[Nat.succ_mul]
   _<=h*w:=Nat.mul_le_mul_right _ y1
   _=w*h:=bK _ _
 .rw[bK,Nat.mul_add_mod,Nat.mod_eq_of_lt x1]
 .rw[bK,Nat.mul_add_div (by grind),Nat.div_eq_of_lt x1,Nat.add_zero]
def cl2(S:Small6 l)(w8:w<=8)(h8:h<=8)(bb:0<=px/\px < w/\0<=py/\py < h){j:Nat}(hj:py*w+px=j)(hl:M.length=w*h)(lt:j < w*h):
  bP0 (rP A (M.map Q4.d) (v<|.int px)<|v (.int py)) [ob w h l L c]=Ob (.nx (rP A ((M.set j<|eV px py l q0).map Q4.d) (v<|.int px)<|v (.int py)) [ob w h l L c]):=by
 have e1:=ax2 (w:=w) (h:=h) S px py;have e2:D8 [shD w h L,.int px,.int py]=Ob (.int j):=by rw[← hj];exact an2 (.tuple<|L.map Q4.d) w8 h8 bb
 have e3:ixN (M.map Q4.d).length (j:Int)=Ob j:=by rw[ay,ad0 (by grind) (by grind),aZ]
 unfold bP0 bu0;rw[cI8,e1,xms,xbs,cF5,e2,xms,xbs];show(ixN (M.map Q4.d).length (j:Int)).map _=_;rw[e3,dk];rfl
abbrev ptD(p:Int×Int):D:=.tuple [.int p.1,.int p.2]
theorem loop(S:Small6 l)(w8:w<=8)(h8:h<=8):∀(ps:List (Int×Int)) (M:List Q4) (c:Int) (x y:Option B),(∀p∈ps,0<=p.1/\p.1 < w/\0<=p.2/\p.2 < h)->M.length=w*h->(∀i,i < w*h->M[i]? = (flL w h l)[i]?\/(((i % w:Nat):Int),((i / w:Nat):Int))∈ps) ->
  ∃x' y',av0 (S1 2<|C9 (C3 3) (C9 (C3 4) S7)) (O7 bP0 bP1) (ps.map ptD) (rP A (M.map Q4.d) x y) [ob w h l L c]=Ob (.nx (rP A ((flL w h l).map Q4.d) x' y') [ob w h l L (c+ps.length)])
 | [],M,c,x,y,_,hl,inv=>by
  have:M=flL w h l:=cb λi=>by
   rcases bD i (w*h) with q|q
   .exact(inv i q).elim id λz=>nomatch z
   .rw[bA (by grind),bA (by unfold flL;rw[ay,aj7];exact q)]
  rw[this];exact⟨x,y,by show Ob (UF.nx _ [ob w h l L c])=_;rw[show c+(([]:List (Int×Int)).length:Int)=c by simp]⟩
 | p::ps,M,c,x,y,hp,hl,inv=>by
  have bb:=hp p (by simp);obtain⟨j,hj,lt,m1,m2⟩:=cI0 bb
  have at':(flL w h l)[j]? = Ob (eV p.1 p.2 l q0):=by
   unfold flL;rw[av];unfold plc;rw[av,cr lt];show Ob (eV ((j % w:Nat):Int) ((j / w:Nat):Int) l q0)=_;rw[m1,m2]
  obtain⟨x',y',e⟩:=loop S w8 h8 ps (M.set j<|eV p.1 p.2 l q0) (c+1) (v<|.int p.1) (v<|.int p.2) (λq hq=>hp q<|xmm _ hq) (by rw[bY];exact hl) λi hi=>by
   by_cases ij:i=j
   .subst ij;exact .inl (by rw[aC (by grind),at'])
   .rw[aq (λz=>ij z.symm)];refine(inv i hi).imp id λz=>(au.mp z).elim (λz=>(ij ?_).elim) id
    have z1:((i % w:Nat):Int)=p.1:=congrArg Prod.fst z;have z2:((i / w:Nat):Int)=p.2:=congrArg Prod.snd z;have y1:i % w=j % w:=by grind
    have y2:i / w=j / w:=by grind
    rw[← Nat.div_add_mod i w,← Nat.div_add_mod j w,y1,y2]
  refine⟨x',y',?_⟩;have s1:=cl2 (A:=A) (L:=L) (c:=c) S w8 h8 bb hj hl lt;show(O7 bP0 bP1 (rP A (M.map Q4.d) (v<|.int p.1)<|v (.int p.2)) [ob w h l L c]).bind _=_;rw[R3 s1,cy0];refine e.trans ?_;rw[show c+1+(ps.length:Int)=c+((p::ps).length:Int) by rw[aJ];grind]
def aM5{B:Bx}(S:Small6 l)(w8:w<=8)(h8:h<=8)(wf:Bx.wf B)(le:Bx.le B (Ob (0,0,(w:Int),(h:Int))))(hl:L.length=w*h)(inv:∀i,i < w*h->¬Bx.has B ((i % w:Nat):Int) ((i / w:Nat):Int)->L[i]? = (flL w h l)[i]?):
  r9 (ob w h l L c) [Oa,Ob (bxD B)]=Ob (.none,ob w h l (flL w h l)<|c+u8 B):=by
 obtain⟨x',y',e⟩:=loop (A:=bxD B) (L:=L) S w8 h8 (pts B) L c Oa Oa (λp hp=>cl3 wf le hp) hl λi hi=>by
  by_cases z:Bx.has B ((i % w:Nat):Int) ((i / w:Nat):Int)
  .exact .inr (bS7 wf z)
  .exact .inl (inv i hi z)
 rw[bS6 wf]at e
 have go:aE0 (V1 5 [Oa,Ob (bxD B)]) [ob w h l L c]=Ob (.nx (rP (bxD B) ((flL w h l).map Q4.d) x' y') [ob w h l (flL w h l) (c+u8 B)]):=by
  show O7 cK0 (O7 (aL0 (T8<|A2 W0 (A0 (A1 1) A3)) (S1 2<|C9 (C3 3) (C9 (C3 4) S7))<|O7 bP0 bP1) cJ9) [Ob (.opq 0),v (bxD B),Oa,Oa,Oa] [ob w h l L c]=_;refine(R3 cn0).trans ((R3 ?_).trans<|ck5 (L:=L) x' y');have pi:=places_in w8 h8 wf le
  have src:T8 (A2 W0<|A0 (A1 1) A3) (era<|rP (bxD B) (L.map Q4.d) Oa Oa)=Ob ((pts B).map ptD):=by
   show(W0 [bxD B]).bind _=_;rw[pi];rfl
  unfold aL0;rw[src];exact e
 unfold r9 i9;rw[go];rfl
end
def bB5(x:D){n:Nat}(h1:1<=n)(h2:n<=1000):F9 (.tuple [x]) (.int n)=Ob (.tuple<|aj n x):=by
 show(if(n:Int)=1 then Ob (PyData.tuple [x]) else Y1 (.tuple [x]) (.int n))=_;by_cases e:n=1
 .subst e;rfl
 .rw[if_neg (by grind)];show(if([x]:List D).isEmpty=false/\2<=(n:Int)/\(n:Int) < 1000000/\([x]:List D).length*((n:Int)).toNat<=16777216 then Ob (PyData.tuple (aj ((n:Int)).toNat [x]).flatten) else Oa)=_;rw[aZ,if_pos ⟨rfl,by grind,by grind,by show 1*n<=_;grind⟩,Sh.j4]
def W2(h:f ρ q=Ob (d,q')):Y6 i f ρ q=Ob (.nx (ρ.set i<|‹d›) q'):=by unfold Y6;rw[h];rfl
def ad6{F:FnD}(h:g ρ q=Ob (ds,q'))(e:F ds=Ob d):Q0 F g ρ q=Ob (d,q'):=by unfold Q0;rw[h,xbs,e];rfl
def bj2(h1:f ρ q=Ob (x,q1))(h2:g ρ q1=Ob (y,q2))(h:op x y=Ob z):uB2 op f g ρ q=Ob (z,q2):=by unfold uB2;rw[h1,xbs,h2,xbs,h];rfl
def bt5(h:f ρ q=Ob (d,q')):uEx f ρ q=Ob (.nx ρ q'):=by unfold uEx;rw[h];rfl
def bt4(h1:f ρ q=Ob (d,q'))(h2:g ρ q'=Ob (ds,q'')):ulC f g ρ q=Ob (d::ds,q''):=by unfold ulC;rw[h1,xbs,h2];rfl
section
variable {w h:Nat}{l l':List Nd}{L:List Q4}{c:Int}{x y z u:D}
def bt3{F:DF}{o o':Fo}(h:F o [Oa,Ob x]=Ob (d,o'))(hm:(o.lookup m).isNone=true)(hs:ρ[i]? = Ob (Ob<|.opq 0))(hf:f (era ρ)=Ob [x]):uM i m F f ρ (o::rs)=Ob (d,o'::rs):=by
 have:i8 i ρ (o::rs)=Ob (0,o):=by unfold i8;rw[hs];rfl
 unfold uM;rw[this,xbs,if_pos hm,hf,xbs];show(F o [Oa,Ob x]).map _=_;rw[h];rfl
def bZ3(S:Small6 l)(w1:1<=w)(w8:w<=8)(h1:1<=h)(h8:h<=8):Y3 [] [Oa,Ob (B5 w h l)]=Ob (.none,ob w h l (flL w h l)<|(w:Int)*h):=by
 have wh:w*h<=64:=bG w8 h8;have wh1:1<=w*h:=bG w1 h1
 have pl:Q2 [.int w,.int h,q0.d]=Ob (shD w h<|aj (w*h) q0):=by
  refine rX3 ?_
  exists evD,ag5,P8 (show w<=1000 by grind) (show h<=1000 by grind),bB5 _ wh1 (show w*h<=1000 by grind),shD,cW
 have wb:S9 [B5 w h l]=Ob (bxD<|Ob (0,0,(w:Int),(h:Int))):=by
  show Ob (PyData.tuple [.int 0,.int 0,.int w,.int h])=Ob (PyData.tuple [.int 0,.int 0,.int ((w:Int) - 0),.int ((h:Int) - 0)]);rw[cg,cg]
 have p:=aM5 (c:=0) (L:=aj (w*h) q0) (B:=Ob (0,0,(w:Int),(h:Int))) S w8 h8 ⟨by grind,by grind⟩ ⟨cY _,cY _,cY _,cY _⟩ bw λi hi z=>(z ⟨cA _,by have:=cT i w1;grind,cA _,by have:=cM hi;grind⟩).elim
 rw[show(0:Int)+u8 (Ob (0,0,(w:Int),(h:Int)))=(w:Int)*h by show(0:Int)+((w:Int) - 0)*((h:Int) - 0)=_;rw[cg,cg,Int.zero_add]]at p;have i0:in0 [Ob (.opq 0),v (B5 w h l)] [[]]=Ob (.nx [Ob (.opq 0),v (B5 w h l)] [[("picture", B5 w h l)]]):=by kernel_rfl
 have i1:∀X,Q2 [.int w,.int h,q0.d]=Ob X->in1 [Ob (.opq 0),v (B5 w h l)] [[("picture", B5 w h l)]]=Ob (.nx [Ob (.opq 0),v (B5 w h l)] [[("picture", B5 w h l),("sheet", X)]]):=λX e=>by
  have:(uP<|A2 Q2 (A0 (dIx (A6 1) ⇑0)<|A0 (dIx (A6 1) ⇑1) (A0 (dC<|.tuple [(.tuple [(.int 0),(.int 1)]),(.tuple [(.int 0),(.int 1)]),(.tuple [(.int 0),(.int 1)]),(.tuple [(.int 0),(.int 1)])]) A3))) [Ob (.opq 0),v (B5 w h l)] [[("picture", B5 w h l)]]=Ob (X,([[("picture", B5 w h l)]]:Fs)):=by
   show(Q2 [.int w,.int h,q0.d]).map _=_;rw[e];rfl
  unfold in1 Z4;rw[this];rfl
 have i2:∀X:D,in2 [Ob (.opq 0),v (B5 w h l)] [[("picture", B5 w h l),("sheet", X)]]=Ob (.nx [Ob (.opq 0),v (B5 w h l)] [[("picture", B5 w h l),("sheet", X),("paint_count", .int 0)]]):=λX=>by kernel_rfl
 have go:ay5 (V1 2 [Oa,Ob (B5 w h l)]) [[]]=Ob (.nx [Ob (.opq 0),v (B5 w h l)] [ob w h l (flL w h l) ((w:Int)*h)]):=by
  show O7 in0 (O7 in1<|O7 in2 in3) [Ob (.opq 0),v (B5 w h l)] [[]]=_;refine(R3 i0).trans ((R3<|i1 _ pl).trans<|(R3<|i2 _).trans (bt5<|bt3 (o:=ob w h l _ 0) p rfl rfl ?_));show(S9 [B5 w h l]).bind _=_;rw[wb];rfl
 unfold Y3 i9;rw[go];rfl
abbrev rG(x:D)(a b c:Option B):Rho:=[Ob (.opq 0),v x,a,b,c]
def bZ4(nm:O3 [x]=Ob y)(nd:R5 [B5 w h l,y]=Ob z)(b1:O1 12 [B5 w h l,z]=Ob A)(b2:O1 12 [B5 w h l,x]=Ob E)(j:N9 [A,E]=Ob u)(wt:S8 [B5 w h l,y,x]=Ob (B5 w h l'))
  (p:r9 (ob w h l' L c) [Oa,Ob u]=Ob (.none,o')):ao9 (ob w h l L c) [Oa,Ob x]=Ob (.none,o'):=by
 have g0:gv0 (rG x Oa Oa Oa) [ob w h l L c]=Ob (.nx (rG x (v y) Oa Oa) [ob w h l L c]):=by
  refine W2 (f:=uP _) ?_;show(O3 [x]).map _=_;rw[nm];rfl
 have g1:gv1 (rG x (v y) Oa Oa) [ob w h l L c]=Ob (.nx (rG x (v y) (v z) Oa) [ob w h l L c]):=W2 (ad6 rfl nd);have g2:gv2 (rG x (v y) (v z) Oa) [ob w h l L c]=Ob (.nx (rG x (v y) (v z)<|v u) [ob w h l L c]):=W2<|ad6 (bt4 (ad6 rfl b1)<|bt4 (ad6 rfl b2) rfl) j
 have g3:gv3 (rG x (v y) (v z)<|v u) [ob w h l L c]=Ob (.nx (rG x (v y) (v z)<|v u) [ob w h l' L c]):=by
  have:Q0 S8 (ulC (W6 0 "picture")<|ulC (uP<|A1 2) (ulC (uP<|A1 1) ulN)) (rG x (v y) (v z)<|v u) [ob w h l L c]=Ob (B5 w h l',[ob w h l L c]):=ad6 rfl wt;unfold gv3 Z4;rw[this];rfl
 have go:aQ9 (V1 5 [Oa,Ob x]) [ob w h l L c]=Ob (.nx (rG x (v y) (v z)<|v u) [o']):=by
  show O7 gv0 (O7 gv1<|O7 gv2 (O7 gv3 gv4)) (rG x Oa Oa Oa) [ob w h l L c]=_;exact(R3 g0).trans ((R3 g1).trans<|(R3 g2).trans ((R3 g3).trans<|bt5 (bt3 p rfl rfl rfl)))
 unfold ao9 i9;rw[go];rfl
abbrev zz:D:=.tuple [.str "tone", .str "zzzzzz", .str "grey", .tuple [.int 1,.int 1],.bool true]
def aU6(g:Wl l)(hz:(.str "zzzzzz" : D)∉fc l):X4 (ob w h l L c) [Oa,Ob zz]=Ob (.bool true,ob w h l L c):=by
 have hl:bq7 (.str "zzzzzz"):=⟨_,rfl,by decide +kernel⟩;have e0:=aL1 _ hl 3 l 12 g.dp (by decide) g.hs hz
 have rb:P5 [B5 w h l,.str "zzzzzz"]=Ob ("NoName" : Str):=by
  have st:Q5 3 [B5 w h l,.str "zzzzzz"]=[‹B5 w h l›,‹.str "zzzzzz"›,Oa]:=rfl;have fs:(aZ4 eO [dC (.str "no node has the name "),dRp (A1 1)] [‹B5 w h l›,‹.str "zzzzzz"›,Ob (.val .none)]).isSome=true:=by kernel_rfl
  obtain⟨z,fs⟩:=cx.mp fs;have s2:(B6 2<|A2 (K2 12) (A0 (dIx (A6 0) ⇑2)<|A0 (A1 1) A3)) [‹B5 w h l›,‹.str "zzzzzz"›,Oa]=Ob (.nx [‹B5 w h l›,‹.str "zzzzzz"›,Ob (.val .none)]):=by exists evD,B5,e0
  have t:(tB2 isB (A1 2)<|dC .none) [‹B5 w h l›,‹.str "zzzzzz"›,Ob (.val .none)]=Ob true:=rfl;unfold P5 aU4;rw[st];simp only[aG3,rNo,s2,rIf,t,xbs,if_true,aG4,fs,xms]
 have r1:U0 [B5 w h l,.str "zzzzzz"]=Ob ("NoName" : Str):=by
  have st:Q5 3 [B5 w h l,.str "zzzzzz"]=[‹B5 w h l›,‹.str "zzzzzz"›,Oa]:=rfl;unfold U0 aU4;rw[st]
  exists evD,aG3,be3,rb
 have go:∀R:List D->Option Str,R [B5 w h l,.str "zzzzzz"]=Ob ("NoName" : Str)->bt1 ["NoName"] (wM 0 "give" (aL7 O3 R)<|A0 (A1 1) A3) [Ob (.opq 0),v zz,Oa,Oa] [ob w h l L c]=Ob ("NoName" : Str):=λR e=>by
  show(R [B5 w h l,.str "zzzzzz"]).bind _=_;rw[e];kernel_rfl
 have st:V1 4 [Oa,Ob zz]=[Ob (.opq 0),v zz,Oa,Oa]:=rfl;unfold X4 i9 ar7 O7 bt9;rw[st,go _ r1]
 kernel_rfl
def bk9(ly:Ly n (B5 w h l))(hn:n<=64)(ef:ap7 [B5 w h l]=Ob (shD w h L))(hc:eqD (.int c) (.int c)=Ob (.bool true)):O8 (ob w h l L c) [Oa,Ob (B5 w h l),Ob (.int c)]=Ob (.bool true,ob w h l L c):=by
 have e1:=bi1 ly hn;have e2:=bi1 (Ly.sheet w h L) (by decide);have s1:uB2 eqD (uM0 0 "now" bM6) (uP<|A1 1) [Ob (.opq 0),v (B5 w h l),v (.int c)] [ob w h l L c]=Ob (.bool true,[ob w h l L c]):=bj2 (x:=B5 w h l) rfl rfl e1;have s2:uB2 eqD (uM0 0 "shown" aJ8) (uP<|A2 ap7 (A0 (A1 1) A3)) [Ob (.opq 0),v (B5 w h l),v (.int c)] [ob w h l L c]=Ob (.bool true,[ob w h l L c]):=bj2 (x:=shD w h L) (y:=shD w h L) rfl (by show(ap7 [B5 w h l]).map _=_;rw[ef];rfl) e2;have s3:uB2 eqD (uM0 0 "painted" ao8) (uP<|A1 2) [Ob (.opq 0),v (B5 w h l),v (.int c)] [ob w h l L c]=Ob (.bool true,[ob w h l L c]):=bj2 (x:=.int c) rfl rfl hc;have st:V1 3 [Oa,Ob (B5 w h l),Ob (.int c)]=[Ob (.opq 0),v (B5 w h l),v (.int c)]:=rfl;have nd:∀{f g:UD}{ρ q q' r},f ρ q=Ob (.bool true,q')->g ρ q'=r->ap9 f g ρ q=r:=λe1 e2=>by unfold ap9;rw[e1,← e2];rfl
 unfold O8 i9 ay6 ah0;rw[st,nd s1 (nd s2 s3)];rfl
end
def bd0:UX:=(Y6 7<|uP (A2 m4<|A0 (A1 1) A3))
def bd1:UX:=(uIf (aS4<|uTB (uD 3 O8<|mO (mC (A1 1)<|mC (A1 5) mN))) (ah0<|uP (dC<|.bool false)) av1)
def bI0:UX:=(Y6 8<|uP (dIx (A6 7)<|A2 A5 (A0 (A1 0)<|A0 (A4 B0 ⇑800<|A1 6) (A0 (Z0<|A6 7) A3))))
def bI1:UX:=(Y6 9<|uP (A2 W5<|A0 (A1 0) (A0 (A4 B0 ⇑810<|A4 F9 ⇑170 (A1 6))<|A0 (A1 8) (A0 (dC<|.str "over") A3))))
def bI2:UX:=(Y6 10<|uP (A2 N9<|A0 (A2 (O1 12)<|A0 (A1 1) (A0 (A2 R5<|A0 (A1 1) (A0 (A1 8) A3)) A3)) (A0 (A2 (O1 12)<|A0 (A1 1) (A0 (A1 9) A3)) A3)))
def bI3:UX:=(uIf (uTP<|tB2 ak2 (A1 10) (dC .none)) (Y6 5<|uP (A4 B0 (A1 5)<|A4 F9 (dIx (A6 10) ⇑2) (dIx (A6 10) ⇑3))) av1)
def bI4:UX:=(uIf (uTB<|uB2 ak2 (uM 3 "give" ao9<|A0 (A1 9) A3) (uP<|dC .none)) (ah0<|uP (dC<|.bool false)) av1)
def bI5:UX:=(Y6 1<|uP (A4 B0 (ai0 (A1 1) U7<|O5 ⇑2)<|N7 (A0 (A2 (Q7 12)<|A0 (dIx (A6 1) ⇑2) (A0 (A1 8)<|A0 (N7<|A0 (A1 9) A3) A3)) A3)))
def bd2:UX:=(uIf (uTP<|tB2 neD (A1 7) (ab8 A3)) (O7 bI0<|O7 bI1 (O7 bI2<|O7 bI3 (O7 bI4 bI5))) av1)
def bd:UX:=(O7 bd0<|O7 bd1 bd2)
abbrev rL(ns:List Int)(w h:Nat)(l l0:List Nd)(c:Int)(a b d e f:Option B):Rho:=[v (scr ns),v (B5 w h l),v (B5 w h l0),Ob (.opq 0),Ob (.opq 1),v (.int c),a,b,d,e,f]
abbrev qL(w h:Nat)(l l0:List Nd)(c:Int):Fs:=[ob w h l (flL w h l) c,ob w h l0 (flL w h l0) ((w:Int)*h)]
def ai8(h:f (era ρ)=Ob d):uP f ρ q=Ob (d,q):=by unfold uP;rw[h];rfl
def bc3{F:DF}{o o':Fo}(hs:ρ[i]? = Ob (Ob<|.opq j))(ho:q[j]? = Ob o)(hg:g (era ρ)=Ob ms)(h:F o ms=Ob (d,o')):uD i F g ρ q=Ob (d,q.set j o'):=by
 have:i8 i ρ q=Ob (j,o):=by unfold i8;rw[hs];show q[j]?.map _=_;rw[ho];rfl
 unfold uD;rw[this,xbs,hg,xbs,h];rfl
def bc2(h:t ρ q=Ob (false,q')):uIf t f g ρ q=g ρ q':=by unfold uIf;rw[h];rfl
def cc6(h:t ρ q=Ob (true,q')):uIf t f g ρ q=f ρ q':=by unfold uIf;rw[h];rfl
section
variable {w h W:Nat}{l l' l0:List Nd}{c:Int}{ns:List Int}{a b d e f:Option B}
structure Fits (w h:Nat):Prop where
 w1:1<=w
 w8:w<=8
 h1:1<=h
 h8:h<=8
def bv4(F:Fits w h)(g:Gd W l)(hW:W<=800)(c:Int):O8 (ob w h l (flL w h l) c) [Oa,Ob (B5 w h l),Ob (.int c)]=Ob (.bool true,ob w h l (flL w h l) c) :=
 bk9 (cq2 g.hs) (by have:=g.dp;grind) (bZ9 (g.small hW) F.w1 F.w8 F.h8) (by rw[bn7,beq_self_eq_true])
def cp4(x:D)(xs:List D)(hx:∀d∈x::xs,P6 d):neD (.list (x::xs)) (.list [])=Ob (.bool true):=by
 unfold neD
 rw[if_pos ⟨(Ly.lst (n:=0) λd hd=>by
  obtain⟨s,rfl,o⟩:=hx d hd
  exact⟨o.ok,aU _⟩).shaped (by decide),rfl⟩]
 rfl
def cB5{n:Nd}(h:n.dp=0):n.thin:=by
 cases n with
 | layer=>rw[fe];trivial
 | tone=>rw[fe];trivial
 | group=>rw[eY]at h;grind
def cC8{B:Bx}(wf:Bx.wf B)(F:Fits w h)(le:Bx.le B (Ob (0,0,(w:Int),(h:Int)))):bI3 (rL ns w h l l0 c a b d e<|v (bxD B)) q=Ob (.nx (rL ns w h l l0 (c+u8 B) a b d e<|v (bxD B)) q):=by
 cases B with
 | none =>
  show _=Ob (UF.nx (rL ns w h l l0 (c+0) a b d e<|v (bxD Oa)) q);rw[Int.add_zero];rfl
 | some t =>
  obtain⟨x,y,r,z⟩:=t;obtain⟨f1,f2⟩:=wf;obtain⟨g1,g2,g3,g4⟩:=le;have w8:=F.w8;have h8:=F.h8;obtain⟨i,hi⟩:∃i:Nat,r - x=i:=⟨(r - x).toNat,by grind⟩;obtain⟨j,hj⟩:∃j:Nat,z - y=j:=⟨(z - y).toNat,by grind⟩;have m:=P8 (i:=i) (j:=j) (by grind) (by grind);have bx:bxD (Ob (x,y,r,z))=.tuple [.int x,.int y,.int i,.int j]:=by show PyData.tuple [_,_,.int (r - x),.int (z - y)]=_;rw[hi,hj]
  have ar:u8 (Ob (x,y,r,z))=((i*j:Nat):Int):=by show(r - x)*(z - y)=_;rw[hi,hj,aI]
  rw[bx,ar];refine(cc6 (q':=q) rfl).trans (W2<|ai8 ?_);show((F9 (.int i)<|.int j).bind λy=>B0 (.int c) y)=_;rw[m,xbs,ad5]
def step(hn:ns.length<=63)(F:Fits w h)(g:Gd W l)(hW:W<=700)(sub:∀d∈fc l,d∈fc l0){k:Nat}(hk:k < 4):
  ∃l' c' b' d' e' f',bd (rL ns w h l l0 c (v<|.int k) b d e f) (qL w h l l0 c)=Ob (.nx (rL ns w h l' l0 c' (v<|.int k) b' d' e' f')<|qL w h l' l0 c')/\Gd (W+40) l'/\∀d∈fc l',d∈fc l0:=by
 have n0:=aN0 (w:=w) (h:=h) g.dp g.nl;have s0:bd0 (rL ns w h l l0 c (v<|.int k) b d e f) (qL w h l l0 c)=Ob (.nx (rL ns w h l l0 c (v<|.int k) (v<|.list (fc l)) d e f)<|qL w h l l0 c):=W2<|ai8 (show m4 [B5 w h l]=_ from n0)
 have s1:bd1 (rL ns w h l l0 c (v<|.int k) (v<|.list (fc l)) d e f) (qL w h l l0 c)=Ob (.nx (rL ns w h l l0 c (v<|.int k) (v<|.list (fc l)) d e f)<|qL w h l l0 c):=by
  have:=bc3 (i:=3) (ρ:=rL ns w h l l0 c (v<|.int k) (v<|.list (fc l)) d e f) (q:=qL w h l l0 c) (g:=mO<|mC (A1 1) (mC (A1 5) mN)) rfl rfl rfl (bv4 F g (by grind) c);refine(bc2 (q':=qL w h l l0 c) ?_).trans rfl;unfold aS4 uTB;rw[this];rfl
 cases en:fc l with
 | nil =>
  rw[en]at s0 s1;refine⟨l,c,v<|.list [],d,e,f,(R3 s0).trans<|(R3 s1).trans ((bc2 (q':=qL w h l l0 c) ?_).trans rfl),⟨g.ok,aL g.wg<|bi _ _,g.dp,g.off,g.nm,g.nd,g.nl⟩,sub⟩;have:neD (.list []) (.list [])=Ob (.bool false):=bV9 (n:=1) ⟨rfl,ah _⟩ (by decide);show bO _ ((neD (.list [])<|.list []).bind _)=_;rw[this];rfl
 | cons x xs =>
  have hx:=g.hs;rw[en]at s0 s1 hx;obtain⟨dr,ed,ldr⟩:=S6 ns hn (e:=800+(k:Int)) (m':=(((x::xs:List D).length:Nat):Int)) (800+k) (x::xs).length (by grind) rfl (by grind) (Nat.succ_pos _);obtain⟨nm,hnm⟩:∃nm,(x::xs)[dr]? = Ob nm:=⟨_,ao ldr⟩;have at':atI (x::xs) (dr:Int)=Ob nm:=by unfold atI;rw[ad0 (by grind) (by grind)];exact hnm
  obtain⟨n,hm,rfl⟩:∃n∈Nd.als l,n.nm=nm:=by
   have:=bS hnm;rw[← en,← als_nms]at this;exact aT.mp this
  obtain⟨a0,b0,St⟩:=ba2 g.nd hm;obtain⟨o,eo,ok,dp,wg,onm,nr⟩:=bg6 ns hn (810+170*k) (by grind) n.nm .over;have eo:W5 [scr ns,.int (810+((170*k:Nat):Int)),n.nm,.str "over"]=Ob o.d:=by rw[show(810:Int)+((170*k:Nat):Int)=((810+170*k:Nat):Int) by grind];exact eo
  have m17:F9 (.int 170) (.int k)=Ob (.int ((170*k:Nat):Int)):=P8 (i:=170) (by decide) (by grind);obtain⟨l',e1,e2,g',sub',sm⟩:=cx5 F.w1 F.h1 g hW St ok dp wg onm nr;have hw:(0:Int) < (w:Int):=by have:=F.w1;grind
  have hh:(0:Int) < (h:Int):=by have:=F.h1;grind
  have th:n.thin:=bc5 n (by
   have P:=St.props;have:=aL (List.Nodup.length_le_of_subset (P.nd g.nd) P.sub) g.nl;rw[C5,fc,az,az]at this
   grind)
  have dn:=St.props.dp;have gd:=g.dp;have b1:=bL9 w h l 3 n 12 (by grind) (by decide) th;have b2:=bL9 w h l 3 o 12 (by grind) (by decide) (cB5 dp);have j1:=ce9 (n.bx w h) (o.bx w h);have nd:=bV4 (w:=w) (h:=h) g.wl St;have wfA:=aQ4 (w:Int) h hw hh n;have wfB:=aQ4 (w:Int) h hw hh o;have wf:=bg9 wfA wfB;have le:=aN8 wfA (bL4 (w:Int) h hw hh n)<|bL4 (w:Int) h hw hh o
  have pt:=aM5 (c:=c) (L:=flL w h l) (g'.small<|by grind) F.w8 F.h8 wf le (by unfold flL;rw[ay,aj7]) λi hi z=>by
   have key:=sm ((i % w:Nat):Int) ((i / w:Nat):Int) ⟨cA _,by have:=cT i F.w1;grind,cA _,by have:=cM hi;grind⟩ z;unfold flL plc;rw[av,av,av,av,cr hi];exact congrArg Ob key.symm
  have gv:=bZ4 (x:=o.d) (by rw[name_of,onm]) nd b1 b2 j1 e1 pt
  let R:=λ(d e f:Option B) (c:Int)=>rL ns w h l l0 c (v<|.int k) (v<|.list (x::xs)) d e f
  have t0:bI0 (R d e f c) (qL w h l l0 c)=Ob (.nx (R (v n.nm) e f c)<|qL w h l l0 c):=W2 (ai8 (by exists evD,R,rL,v,era,bI8,ed,at'));have t1:bI1 (R (v n.nm) e f c) (qL w h l l0 c)=Ob (.nx (R (v n.nm) (v o.d) f c)<|qL w h l l0 c):=W2 (ai8 (by exists evD,R,rL,v,era,bI8,m17,eo));have t2:bI2 (R (v n.nm) (v o.d) f c) (qL w h l l0 c)=Ob (.nx (R (v n.nm) (v o.d) (v<|bxD (jn (n.bx w h)<|o.bx w h)) c)<|qL w h l l0 c):=W2 (ai8 (by exists evD,R,rL,v,era,bI8,nd,b1,b2,j1));have t3:bI3 (R (v n.nm) (v o.d) (v<|bxD (jn (n.bx w h)<|o.bx w h)) c) (qL w h l l0 c)=_:=cC8 wf F le
  have t4:bI4 (R (v n.nm) (v o.d) (v<|bxD (jn (n.bx w h)<|o.bx w h))<|c+u8 (jn (n.bx w h)<|o.bx w h)) (qL w h l l0 c)=Ob (.nx (R (v n.nm) (v o.d) (v<|bxD (jn (n.bx w h)<|o.bx w h))<|c+u8 (jn (n.bx w h)<|o.bx w h))<|qL w h l' l0 (c+u8 (jn (n.bx w h)<|o.bx w h))):=by
   have um:=bt3 (i:=3) (m := "give") (f:=A0 (A1 9) A3) (ρ:=R (v n.nm) (v o.d) (v<|bxD (jn (n.bx w h)<|o.bx w h))<|c+u8 (jn (n.bx w h)<|o.bx w h)) (rs:=[ob w h l0 (flL w h l0) ((w:Int)*h)]) gv rfl rfl rfl;refine(bc2 (q':=qL w h l' l0<|c+u8 (jn (n.bx w h)<|o.bx w h)) ?_).trans rfl;unfold uTB;rw[bj2 (z:=.bool false) um (ai8 (d:=.none) rfl) rfl];rfl
  have t5:bI5 (R (v n.nm) (v o.d) (v (bxD (jn (n.bx w h) (o.bx w h)))) (c+u8 (jn (n.bx w h) (o.bx w h)))) (qL w h l' l0 (c+u8 (jn (n.bx w h) (o.bx w h))))=Ob (.nx (rL ns w h l' l0 (c+u8 (jn (n.bx w h) (o.bx w h))) (v (.int k)) (v (.list (x::xs))) (v n.nm) (v o.d) (v (bxD (jn (n.bx w h) (o.bx w h))))) (qL w h l' l0 (c+u8 (jn (n.bx w h) (o.bx w h))))):=W2 (ai8 (by
   have z1:ai0 (A1 1) U7 (O5 ⇑2) (era<|R (v n.nm) (v o.d) (v<|bxD (jn (n.bx w h)<|o.bx w h)) (c+u8 (jn (n.bx w h)<|o.bx w h)))=Ob (.tuple [.int w,.int h]):=rfl
   have z2:N7 (A0 (A2 (Q7 12)<|A0 (dIx (A6 1) ⇑2) (A0 (A1 8)<|A0 (N7<|A0 (A1 9) A3) A3)) A3) (era<|R (v n.nm) (v o.d) (v<|bxD (jn (n.bx w h)<|o.bx w h)) (c+u8 (jn (n.bx w h)<|o.bx w h)))=Ob (.tuple [↥l']):=by
    have p2:dIx (A6 1) ⇑2 (era<|R (v n.nm) (v o.d) (v<|bxD (jn (n.bx w h)<|o.bx w h)) (c+u8 (jn (n.bx w h)<|o.bx w h)))=Ob ↥l:=rfl;have p8:A1 8 (era<|R (v n.nm) (v o.d) (v<|bxD (jn (n.bx w h)<|o.bx w h)) (c+u8 (jn (n.bx w h)<|o.bx w h)))=Ob n.nm:=rfl;have p9:A1 9 (era<|R (v n.nm) (v o.d) (v<|bxD (jn (n.bx w h)<|o.bx w h)) (c+u8 (jn (n.bx w h)<|o.bx w h)))=Ob o.d:=rfl;simp only[N7,A0,A3,A2,p2,p8,p9,xbs,xms,e2]
   unfold A4;rw[z1,xbs,z2,xbs]
   rfl))
  refine⟨l',c+u8 (jn (n.bx w h)<|o.bx w h),v<|.list (x::xs),v n.nm,v o.d,v<|bxD (jn (n.bx w h)<|o.bx w h),?_,g',λd hd=>sub d<|sub' d hd⟩;refine(R3 s0).trans ((R3 s1).trans<|(cc6 (q':=qL w h l l0 c) ?_).trans ((R3 t0).trans<|(R3 t1).trans ((R3 t2).trans<|(R3 t3).trans ((R3 t4).trans t5))));show bO _ ((neD (.list (x::xs))<|.list []).bind _)=_;rw[cp4 x xs hx];rfl
def rg(i m:Nat):List D:=(ax m).map λ(j:Nat)=>.int ((i+j:Nat):Int)
def bR7{n:Nat}:rg i (n+1)=.int (i:Int)::rg (i+1) n:=by
 unfold rg;rw[cG,xmc,bE]
 congr 1
 refine bV λj _=>?_
 show eG ((i+(j+1):Nat):Int)=.int ((i+1+j:Nat):Int)
 congr 2;grind
def cl0(n:Nat):j6 0 n=rg 0 n:=by
 unfold j6 rg;rw[show((n:Int) - 0).toNat=n by grind];refine bV λj _=>?_
 congr 1
theorem cd1(hn:ns.length<=63)(F:Fits w h)(g0:Gd 400 l0):∀(n t:Nat) (l:List Nd) (c:Int) (a b d e f:Option B),t+n<=4->Gd (400+40*t) l->(∀d∈fc l,d∈fc l0)->∃l' c' a' b' d' e' f',av0 (C3 6) bd (rg t n) (rL ns w h l l0 c a b d e f) (qL w h l l0 c)=Ob (.nx (rL ns w h l' l0 c' a' b' d' e' f')<|qL w h l' l0 c')/\Gd 600 l'/\∀d∈fc l',d∈fc l0
 | 0,t,l,c,a,b,d,e,f,ht,g,sub=>⟨l,c,a,b,d,e,f,rfl,⟨g.ok,aL g.wg (by grind),g.dp,g.off,g.nm,g.nd,g.nl⟩,sub⟩
 | n+1,t,l,c,a,b,d,e,f,ht,g,sub=>by
  obtain⟨l1,c1,b1,d1,e1,f1,s,g1,sub1⟩:=step (c:=c) (b:=b) (d:=d) (e:=e) (f:=f) hn F g (by grind) sub (k:=t) (by grind);obtain⟨l2,c2,a2,b2,d2,e2,f2,s2,r⟩:=cd1 hn F g0 n (t+1) l1 c1 (v<|.int t) b1 d1 e1 f1 (by grind) g1 sub1;refine⟨l2,c2,a2,b2,d2,e2,f2,?_,r⟩;rw[bR7];show(bd (rL ns w h l l0 c (v<|.int t) b d e f)<|qL w h l l0 c).bind _=_;rw[s];exact s2
end
def main(ns:List Int)(hn:ns.length<=63):aR4 [.list (ns.map eG)]=Ob (.bool true):=by
 obtain⟨N,eN,hN,b,hP⟩:=bB2 ns hn 0 6 (by decide) (by decide);have eN:af3 [scr ns,.int 0,.int 6]=Ob (.list N):=eN;obtain⟨w,h,l,ep,hl,hw,hh⟩:=aU9 ns hn 30 4 (by decide) (by decide) N (by grind);have ep:t8 [scr ns,.int 30,.int 4,.list N]=Ob (B5 w h l):=ep;have w1:=hw.1;have w8:w<=8:=by grind
 have h1:=hh.1;have h8:h<=8:=by grind
 have Fw:Fits w h:=⟨w1,w8,h1,h8⟩;obtain⟨is,q1_ix,q2,q3⟩:=hl.ix
 have nmv:∀j,j < 6->∃y,N.getD j .none=.str (nmS b j y)/\SOk y/\(nmS b j y).length=y.length+1/\y.length<=4:=λj hj=>by
  obtain⟨y,e1,e2⟩:=hP j hj;refine⟨y,by rw[aN,e1];rfl,e2.1,?_,e2.2⟩;have lc:(ltr j).cps.size=1:=rfl;cases b
  .show(y.cps++(ltr j).cps).size=_;rw[bJ,lc];rfl
  .show((ltr j).cps++y.cps).size=_;rw[bJ,lc,dh];rfl
 have lw:=hl.wg;have ld:=hl.dp;have ll:=hl.len
 have nm6:∀j,j < 6->Nm (N.getD j .none):=λj hj=>by
  obtain⟨y,e1,e2,e3,e4⟩:=nmv j hj;exact⟨_,e1,bV6 b (by grind) e2,by grind,by grind⟩
 have nlen:(fc l).length<=1000:=by
  rw[q1_ix,ay];have:=List.Nodup.length_le_of_subset (l₂:=ax 6) q2 λj hj=>aO.mpr (by have:=q3 j hj;grind)
  rw[aP]at this;grind
 have g:Gd 400 l:=by
  refine⟨hl.ok,by grind,by grind,nears_off' l hl.nr hl.th,λd hd=>?_,?_,nlen⟩
  .rw[q1_ix]at hd;obtain⟨j,hj,rfl⟩:=aT.mp hd;exact nm6 j (by have:=q3 j hj;grind)
  .rw[q1_ix];refine List.pairwise_map.mpr (List.Pairwise.imp_of_mem (λ{i j} hi hj ne e=>?_) q2);obtain⟨y,e1,_⟩:=nmv i (by have:=q3 i hi;grind);obtain⟨z,e2,_⟩:=nmv j (by have:=q3 j hj;grind);rw[e1,e2]at e;exact ne<|bV7 (PyData.str.inj e)
 have hz:(.str "zzzzzz" : D)∉fc l:=λhd=>by
  rw[q1_ix]at hd;obtain⟨j,hj,e⟩:=aT.mp hd;obtain⟨y,e1,_,e3,e4⟩:=nmv j (by have:=q3 j hj;grind);rw[e1]at e;have:=PyData.str.inj e;rw[this]at e3;have:("zzzzzz" : Str).length=6:=by decide +kernel
  grind
 have io:=bZ3 (g.small<|by decide) w1 w8 h1 h8;have mwh:F9 (.int w) (.int h)=Ob (.int<|(w:Int)*h):=by rw[P8 (by grind) (by grind),aI]
 obtain⟨n,h4,hr⟩:∃n:Nat,n<=4/\P0 (ab7 ⇑1<|ab6 ⇑4 (Z0<|A6 0)) (era<|rL ns w h l l ((w:Int)*h) Oa Oa Oa Oa Oa)=Ob (rg 0 n):=by
  have e:ab7 ⇑1 (ab6 ⇑4<|Z0 (A6 0)) (era<|rL ns w h l l ((w:Int)*h) Oa Oa Oa Oa Oa)=Ob (.int ((max 1 (min 4 ns.length):Nat):Int)):=by
   show Ob (eG (if(if((ns.map eG).length:Int) < 4 then((ns.map eG).length:Int) else 4) > 1 then(if((ns.map eG).length:Int) < 4 then((ns.map eG).length:Int) else 4) else 1))=_;rw[ay]
   congr 2
   split<;>split<;>grind
  refine⟨max 1<|min 4 ns.length,by grind,?_⟩;unfold P0;rw[e,xbs];dsimp only;rw[if_pos (by grind),cl0]
 obtain⟨l',c',x6,x7,x8,x9,x10,e5,g',sub⟩:=cd1 hn Fw g n 0 l ((w:Int)*h) Oa Oa Oa Oa Oa (by grind) g λ_ z=>z
 have s0:bw1 [v (scr ns),Oa,Oa,Oa,Oa,Oa,Oa,Oa,Oa,Oa,Oa] []=Ob (.nx [v (scr ns),v (B5 w h l),Oa,Oa,Oa,Oa,Oa,Oa,Oa,Oa,Oa] []):=W2 (ai8 (by exists evD,v,era,bI8,eN,ep));have s1:bw0 [v (scr ns),v (B5 w h l),Oa,Oa,Oa,Oa,Oa,Oa,Oa,Oa,Oa] []=Ob (.nx [v (scr ns),v (B5 w h l),v (B5 w h l),Oa,Oa,Oa,Oa,Oa,Oa,Oa,Oa] []):=rfl
 have nw:∀(i:Nat) (ρ:Rho) (q:Fs),A1 1 (era ρ)=Ob (B5 w h l)->bk1 i (aV2 Y3<|A0 (A1 1) A3) ρ q=Ob (.nx (ρ.set i<|Ob (.opq q.length))<|q++[ob w h l (flL w h l) ((w:Int)*h)]):=λi ρ q e=>by
  have:aV2 Y3 (A0 (A1 1) A3) (era ρ)=Ob (ob w h l (flL w h l)<|(w:Int)*h):=by
   unfold aV2 A0;rw[e,xbs];show(Y3 [] [Oa,Ob (B5 w h l)]).bind _=_;rw[io];rfl
  unfold bk1;rw[this];rfl
 have s2:bv9 [v (scr ns),v (B5 w h l),v (B5 w h l),Oa,Oa,Oa,Oa,Oa,Oa,Oa,Oa] []=Ob (.nx [v (scr ns),v (B5 w h l),v (B5 w h l),Ob (.opq 0),Oa,Oa,Oa,Oa,Oa,Oa,Oa] [ob w h l (flL w h l) ((w:Int)*h)]):=nw _ _ _ rfl;have s3:bv8 [v (scr ns),v (B5 w h l),v (B5 w h l),Ob (.opq 0),Oa,Oa,Oa,Oa,Oa,Oa,Oa] [ob w h l (flL w h l) ((w:Int)*h)]=Ob (.nx [v (scr ns),v (B5 w h l),v (B5 w h l),Ob (.opq 0),Ob (.opq 1),Oa,Oa,Oa,Oa,Oa,Oa]<|qL w h l l ((w:Int)*h)):=nw _ _ _ rfl;have s4:bv7 [v (scr ns),v (B5 w h l),v (B5 w h l),Ob (.opq 0),Ob (.opq 1),Oa,Oa,Oa,Oa,Oa,Oa] (qL w h l l<|(w:Int)*h)=Ob (.nx (rL ns w h l l ((w:Int)*h) Oa Oa Oa Oa Oa)<|qL w h l l ((w:Int)*h)):=W2 (ai8 (by show F9 (.int w) (.int h)=_;exact mwh))
 have s5:bv6 (rL ns w h l l ((w:Int)*h) Oa Oa Oa Oa Oa) (qL w h l l<|(w:Int)*h)=Ob (.nx (rL ns w h l' l c' x6 x7 x8 x9 x10)<|qL w h l' l c'):=by
  show aL0 (P0<|ab7 ⇑1 (ab6 ⇑4<|Z0 (A6 0))) (C3 6) bd _ _=_;unfold aL0;rw[hr];exact e5
 have s6:bv5 (rL ns w h l' l c' x6 x7 x8 x9 x10) (qL w h l' l c')=Ob (.nx (rL ns w h l' l c' x6 x7 x8 x9 x10)<|qL w h l' l c'):=by
  refine(bc2 (q':=qL w h l' l c') ?_).trans rfl;unfold aS4 uTB;rw[bc3 (i:=3) (j:=0) rfl rfl rfl (aU6 g'.wl λz=>hz<|sub _ z)];rfl
 have s7:aT4 (rL ns w h l' l c' x6 x7 x8 x9 x10) (qL w h l' l c')=Ob (.rt (.bool true)<|qL w h l' l c'):=by
  have u1:=bc3 (i:=3) (ρ:=rL ns w h l' l c' x6 x7 x8 x9 x10) (q:=qL w h l' l c') (g:=mO<|mC (A1 1) (mC (A1 5) mN)) rfl rfl rfl (bv4 Fw g' (by decide) c')
  have u2:=bc3 (i:=4) (ρ:=rL ns w h l' l c' x6 x7 x8 x9 x10) (q:=qL w h l' l c') (g:=mO (mC (A1 2) (mC (A4 F9 (dIx (A6 2) ⇑0) (dIx (A6 2) ⇑1)) mN))) rfl rfl (by
   have:A4 F9 (dIx (A6 2) ⇑0) (dIx (A6 2) ⇑1) (era<|rL ns w h l' l c' x6 x7 x8 x9 x10)=Ob (.int<|(w:Int)*h):=mwh;unfold mO mC
   rw[this];rfl) (bv4 Fw g (by decide) ((w:Int)*h))
  unfold aT4 ah0 ap9;rw[u1,xbs];show bO _ (uD 4 O8 _ (rL ns w h l' l c' x6 x7 x8 x9 x10)<|qL w h l' l c')=_;rw[u2];rfl
 have go:cf7 (Q5 11 [scr ns]) []=Ob (.rt (.bool true)<|qL w h l' l c'):=(R3 s0).trans ((R3 s1).trans<|(R3 s2).trans ((R3 s3).trans<|(R3 s4).trans ((R3 s5).trans<|(R3 s6).trans s7)));unfold aR4 bR6;rw[show([.list (ns.map eG)]:List D)=[scr ns] from rfl,go];rfl
end Lk70
namespace Lk70
open PySem PySem.Spec PyProof.Rows L2 G Sh
def zcs:List (Str×D):=[("ONE", (.tuple [(.int 1),(.int 1)])),("CLEAR", (.tuple [(.tuple [(.int 0),(.int 1)]),(.tuple [(.int 0),(.int 1)]),(.tuple [(.int 0),(.int 1)]),(.tuple [(.int 0),(.int 1)])])),("THIRD", (.tuple [(.int 1),(.int 3)]))]
def zbl:List Str:=["ValueError", "enumerate", "int", "isinstance", "len", "list", "max", "min", "range", "tuple", "zip"]
def tb0:Tab:=[]
def zcl:List Str:=["NoName"]
def ztb:List (Str×List (Str×Bool)):=[("NoMerge", [("NoName", false)]),("NoName", [("NoName", true)]),("NoText", [("NoName", false)]),("ValueError", [("NoName", true)])]
def zsb:List (Str×List Str):=[("GlazeError", ["NoName"])]
def znb:List (Str×List Str):=[("GlazeError", [])]
def zT(rt:aA7)(xt:bM5):Rg:=⟨rt,zcl,ztb,zsb,znb,xt⟩
def rt0:aA7:=[]
def xt0:bM5:=[]
def aY3:Fd:={ fdm "weighted" (top 29) 2 ["spot", "share"] true with hc:=[((59,17),[1])] }
def bp8:Fd:={ fdm "blended" (top 32) 3 ["manner", "above", "below", "c", "d", "colours"] true with hc:=[((84,14),[0,3,4])] }
def ca5:Fd:={ fdm "toned" (top 35) 3 ["rule", "spot", "strength"] true with hc:=[((100,17),[2])] }
def aP2:Fd:={ fdm "places_of" (top 37) 2 ["wide", "high"] with hc:=[((103,11),[0])] }
def cx8:Fd:={ fdm "flat" (top 48) 1 ["picture", "spots"] with hc:=[((142,12),[0])] }
def aP3:Fd:={ fdm "places_in" (top 54) 1 ["box"] with hc:=[((167,11),[0])] }
def bK1:Fd:={ fdm "box_of" (top 56) 2 ["picture", "node"] with hc:=[((181,28),[0])] }
def az7:Fd:={ fdm "names_among" (top 63) 1 ["nodes", "names", "node"] with own:=[1],fz:=[(199,[1])] }
def ad4:Fd:=fdm "nodes_beside" (top 67) 2 ["picture", "name", "nodes"]
def rt1:aA7:=("nodes_beside", P5,2)::rt0
def af9:Fd:={ fdm "nodes_with_others" (top 68) 3 ["nodes", "name", "others"] with hc:=[((224,17),[1,2])] }
def al7:Fd:=fdm "node_named" (top 71) 2 ["picture", "name", "nodes"]
def rt2:aA7:=("node_named", U0,2)::rt1
def bJ7:Fd:={ fdm "_law_spot" (top 83) 2 ["_law_script", "_law_at", "_law_cover"] true with hc:=[((296,33),[2,0,1])] }
def bo8:Fd:={ fdm "_law_sheet" (top 84) 4 ["_law_script", "_law_at", "_law_wide", "_law_high", "_law_spots"] with hc:=[((298,17),[0,1])] }
def bp1:Fd:={ fdm "_law_names" (top 85) 3 ["_law_script", "_law_at", "_law_many", "_law_is_first", "_law_found", "_law_k", "_law_word"] with own:=[4],tx:=[6],fz:=[(309,[4])],hc:=[((306,28),[0,1,5])] }
def bJ9:Fd:={ fdm "_law_leaf" (top 86) 4 ["_law_script", "_law_at", "_law_name", "_law_main", "_law_strength", "_law_is_shown", "_law_manner", "_law_wide", "_law_high", "_law_mask", "_law_left", "_law_top", "_law_sheet_here"] with hc:=[((322,26),[0,1])] }
def bp0:Fd:={ fdm "_law_nodes" (top 87) 4 ["_law_script", "_law_at", "_law_most", "_law_names_here", "_law_main", "_law_many", "_law_found", "_law_k", "_law_first", "_law_last", "_law_strength", "_law_manner", "_law_group"] with own:=[6],hc:=[((332,17),[0,4,3,1])] }
def bJ6:Fd:={ fdm "_law_with" (top 89) 3 ["_law_nodes_here", "_law_name", "_law_others", "_law_found", "_law_node"] with own:=[3] }
def cf2:Fd:=fdm "law" (top 92) 1 ["_law_script", "_law_picture_here", "_law_first", "_law_painter", "_law_other", "_law_many", "_law_k", "_law_names_here", "_law_name", "_law_node", "_law_box"]
def mth(j:Nat):Stmt:=(cQ6<|top 74).getD j<|.Pass ⟨0,0,0,0⟩
def bJ4:Fd:={ fdm "paint" (mth 1) 2 ["self", "box", "spots", "x", "y"] with own:=[2] }
def bi2:Fd:=fdm "give" (mth 2) 2 ["self", "node", "name", "old", "box"]
def cb4:G0 (mth 2)=.Assign [(.Name "name" ⟨255,8,255,12⟩)] (.Call (.Name "name_of" ⟨255,15,255,22⟩) [(.Name "node" ⟨255,23,255,27⟩)] [] ⟨255,15,255,28⟩) ⟨255,8,255,28⟩ :: .Assign [(.Name "old" ⟨256,8,256,11⟩)] (.Call (.Name "node_named" ⟨256,14,256,24⟩) [(.Attribute (.Name "self" ⟨256,25,256,29⟩) "picture" ⟨256,25,256,37⟩),(.Name "name" ⟨256,39,256,43⟩)] [] ⟨256,14,256,44⟩) ⟨256,8,256,44⟩::(G0<|mth 2).drop 2:=by kernel_rfl
structure Ms (K:aa) (C:eR):Prop where
 m_init__:KM K C "__init__" "Painter.__init__" (mth 0)
 m_paint:KM K C "paint" "Painter.paint" (mth 1)
 m_give:KM K C "give" "Painter.give" (mth 2)
 m_shown:KM K C "shown" "Painter.shown" (mth 3)
 m_now:KM K C "now" "Painter.now" (mth 4)
 m_painted:KM K C "painted" "Painter.painted" (mth 5)
abbrev zfn:List Str:=["picture", "sheet", "paint_count"]
structure Qs (K:aa):Prop where
 aa:KF K "common_divisor" (top 2)
 ab:KF K "least_form" (top 3)
 ac:KF K "is_at_most" (top 4)
 ad:KF K "added" (top 5)
 ae:KF K "lessened" (top 6)
 af:KF K "times" (top 7)
 ag:KF K "rest_of" (top 8)
 ah:KF K "at_most_one" (top 9)
 ai:KF K "kind_of" (top 11)
 aj:KF K "is_layer" (top 12)
 ak:KF K "is_group" (top 13)
 al:KF K "is_tone" (top 14)
 am:KF K "name_of" (top 15)
 an:KF K "manner_of" (top 16)
 ao:KF K "rule_of" (top 17)
 ap:KF K "strength_of" (top 18)
 aq:KF K "is_shown" (top 19)
 ar:KF K "left_of" (top 20)
 au:KF K "top_of" (top 21)
 av:KF K "mask_of" (top 22)
 aw:KF K "sheet_of" (top 23)
 ax:KF K "inner_nodes" (top 24)
 ay:KF K "with_inner_nodes" (top 25)
 az:KF K "weighted" (top 29)
 a0:KF K "blended_cover" (top 30)
 a1:KF K "blended_colour" (top 31)
 a2:KF K "blended" (top 32)
 a3:KF K "by_rule" (top 33)
 a4:KF K "mixed" (top 34)
 a5:KF K "toned" (top 35)
 a6:KF K "places_of" (top 37)
 a7:KF K "has_place" (top 38)
 a8:KF K "number_of_place" (top 39)
 a9:KF K "spot_at" (top 40)
 ba:KF K "plain_sheet" (top 41)
 bb:KF K "masked_spot" (top 43)
 bc:KF K "brought" (top 44)
 bd:KF K "shown_above" (top 45)
 be:KF K "shown_by" (top 46)
 bf:KF K "flat_at" (top 47)
 bg:KF K "flat" (top 48)
 bh:KF K "box_between" (top 50)
 bi:KF K "joined_box" (top 51)
 bj:KF K "joined_boxes" (top 52)
 bk:KF K "whole_box" (top 53)
 bl:KF K "places_in" (top 54)
 bm:KF K "box_of_layer" (top 55)
 bn:KF K "box_of" (top 56)
 bo:KF K "names_among" (top 63)
 bp:KF K "names_in" (top 64)
 bq:KF K "number_among" (top 65)
 br:KF K "tuple_with" (top 66)
 bs:KF K "nodes_beside" (top 67)
 bt:KF K "nodes_with_others" (top 68)
 bu:KF K "node_with_others" (top 69)
 bv:KF K "with_nodes_beside" (top 70)
 bw:KF K "node_named" (top 71)
 bx:KF K "with_node" (top 72)
 bz:KF K "_law_cell" (top 76)
 b0:KF K "_law_drawn" (top 77)
 b1:KF K "_law_made" (top 78)
 b2:KF K "_law_times" (top 80)
 b3:KF K "_law_share" (top 82)
 b4:KF K "_law_spot" (top 83)
 b5:KF K "_law_sheet" (top 84)
 b6:KF K "_law_names" (top 85)
 b7:KF K "_law_leaf" (top 86)
 b8:KF K "_law_nodes" (top 87)
 b9:KF K "_law_picture" (top 88)
 ca:KF K "_law_with" (top 89)
 cb:KF K "_law_refused" (top 90)
 cc:KF K "_law_stands" (top 91)
 cd:KF K "law" (top 92)
 ce:∃C,KCl K C "Painter" zfn/\Ms K C
def cM6{P:dO}{w:World}{K:aa}{mg:Str->Option eP}(M:Md K mg zcs zbl)(L:∀rt xt,Cl K mg<|zT rt xt)(q:Qs K){C:eR}(c:KCl K C "Painter" zfn)(z:Ms K C):∃tab O,O.fn=zfn/\rdJ tab zcs zbl O cf2=aR4/\∀base:Heap,WOk P w K mg base C 143 tab O:=by
 refine⟨?tab,?O,?f,?e,λbase=>?t⟩
 case t =>
  have t:TOk P w K mg base 0 tb0:=TOk.nil;have r:TRk P w K mg base 0 rt0:=TRk.nil;have x:TXk P w K mg base 0 xt0:=TXk.nil;have t:=t.add M (fdm "common_divisor" (top 2) 2 ["one", "other", "left_over"] true) q.aa U2;have t:=t.add M (fdm "least_form" (top 3) 2 ["top", "under", "divisor"] true) q.ab W4;have t:=t.add M (fdm "is_at_most" (top 4) 2 ["one", "other"] true) q.ac i5;have t:=t.add M (fdm "added" (top 5) 2 ["one", "other"] true) q.ad U3;have t:=t.add M (fdm "lessened" (top 6) 2 ["one", "other"] true) q.ae T2;have t:=t.add M (fdm "times" (top 7) 2 ["one", "other"] true) q.af U1;have t:=t.add M (fdm "rest_of" (top 8) 1 ["share"] true) q.ag i6;have t:=t.add M (fdm "at_most_one" (top 9) 1 ["fraction"] true) q.ah X9;have t:=t.add M (fdm "kind_of" (top 11) 1 ["node"]) q.ai af4;have t:=t.add M (fdm "is_layer" (top 12) 1 ["node"]) q.aj m8;have t:=t.add M (fdm "is_group" (top 13) 1 ["node"]) q.ak R7;have t:=t.add M (fdm "is_tone" (top 14) 1 ["node"]) q.al Q8;have t:=t.add M (fdm "name_of" (top 15) 1 ["node"]) q.am O3;have t:=t.add M (fdm "manner_of" (top 16) 1 ["node"]) q.an T1;have t:=t.add M (fdm "rule_of" (top 17) 1 ["tone"]) q.ao af0;have t:=t.add M (fdm "strength_of" (top 18) 1 ["node"]) q.ap P1;have t:=t.add M (fdm "is_shown" (top 19) 1 ["node"]) q.aq R6;have t:=t.add M (fdm "left_of" (top 20) 1 ["layer"]) q.ar y8;have t:=t.add M (fdm "top_of" (top 21) 1 ["layer"]) q.au ae0;have t:=t.add M (fdm "mask_of" (top 22) 1 ["layer"]) q.av af2;have t:=t.add M (fdm "sheet_of" (top 23) 1 ["layer"]) q.aw X1;have t:=t.add M (fdm "inner_nodes" (top 24) 1 ["group"]) q.ax K0;have t:=t.add M (fdm "with_inner_nodes" (top 25) 2 ["group", "nodes"]) q.ay V8;have t:=t.add M aY3 q.az aa8;have t:=t.add M (fdm "blended_cover" (top 30) 3 ["manner", "c", "d"] true) q.a0 Z2;have t:=t.add M (fdm "blended_colour" (top 31) 5 ["manner", "c", "d", "x", "y", "through"] true) q.a1 X2;have t:=t.add M bp8 q.a2 aa0;have t:=t.add M (fdm "by_rule" (top 33) 2 ["rule", "spot", "cover", "red", "green", "blue", "mean"] true) q.a3 ap8;have t:=t.add M (fdm "mixed" (top 34) 3 ["strength", "new", "old"] true) q.a4 aJ9;have t:=t.add M ca5 q.a5 au8;have t:=t.add M aP2 q.a6 V9;have t:=t.add M (fdm "has_place" (top 38) 3 ["sheet", "x", "y"]) q.a7 Y5;have t:=t.add M (fdm "number_of_place" (top 39) 3 ["sheet", "x", "y"]) q.a8 D8;have t:=t.add M (fdm "spot_at" (top 40) 3 ["sheet", "x", "y"]) q.a9 ap4;have t:=t.add M (fdm "plain_sheet" (top 41) 3 ["wide", "high", "spot"]) q.ba Q2;have t:=t.add M (fdm "masked_spot" (top 43) 3 ["layer", "x", "y", "sheet", "mask", "spot"]) q.bb u9;have t:=TOk.rec3 t M (fdm "brought" (top 44) 3 ["node", "x", "y", "spot"]) (fdm "shown_above" (top 45) 4 ["node", "below", "x", "y"]) (fdm "shown_by" (top 46) 3 ["nodes", "x", "y", "spot", "node"]) q.bc q.bd q.be af5 ag7 k8 12;have t:=t.add M (fdm "flat_at" (top 47) 3 ["picture", "x", "y"]) q.bf W1;have t:=t.add M cx8 q.bg ap7;have t:=t.add M (fdm "box_between" (top 50) 4 ["left", "top", "right", "bottom"]) q.bh X8;have t:=t.add M (fdm "joined_box" (top 51) 2 ["one", "other", "right", "bottom"]) q.bi N9;have t:=t.add M (fdm "joined_boxes" (top 52) 1 ["boxes", "joined", "box"]) q.bj m7;have t:=t.add M (fdm "whole_box" (top 53) 1 ["picture"]) q.bk S9;have t:=t.add M aP3 q.bl W0;have t:=t.add M (fdm "box_of_layer" (top 55) 2 ["picture", "layer", "left", "top", "sheet", "right", "bottom"]) q.bm n4;have t:=TOk.rec t M bK1 q.bn O1 12;have t:=TOk.rec t M az7 q.bo N8 12;have t:=t.add M (fdm "names_in" (top 64) 1 ["picture"]) q.bp m4;have t:=t.add M (fdm "number_among" (top 65) 2 ["nodes", "name", "number", "node"]) q.bq K8;have t:=TOk.rec t M (fdm "tuple_with" (top 66) 2 ["nodes", "name", "node", "told"]) q.br K2 12;have t:TOk P w K mg base 94 _:=t;have r:TRk P w K mg base 95 rt1:=TRk.add (T:=zT rt0 xt0) (r.mono<|by decide) t (x.mono<|by decide) M (L _ _) ad4 q.bs P5;have t:=t.add M ad4 q.bs T0;have t:=TOk.rec2 t M af9 (fdm "node_with_others" (top 69) 3 ["node", "name", "others"]) q.bt q.bu M2 N6 12;have t:=t.add M (fdm "with_nodes_beside" (top 70) 3 ["picture", "name", "others"]) q.bv U6;have t:TOk P w K mg base 108 _:=t;have r:TRk P w K mg base 109 rt2:=TRk.add (T:=zT rt1 xt0) (r.mono<|by decide) t (x.mono<|by decide) M (L _ _) al7 q.bw U0;have t:=t.add M al7 q.bw R5;have t:=t.add M (fdm "with_node" (top 72) 3 ["picture", "name", "node", "nodes", "number"]) q.bx S8;have t:=t.add M (fdm "_law_cell" (top 76) 2 ["_law_script", "_law_k"] true) q.bz az0;have t:=t.add M (fdm "_law_drawn" (top 77) 3 ["_law_script", "_law_k", "_law_many", "_law_cell_here"] true) q.b0 A5;have t:=t.add M (fdm "_law_made" (top 78) 2 ["_law_top", "_law_under", "_law_one", "_law_by"] true) q.b1 am6;have t:=t.add M (fdm "_law_times" (top 80) 2 ["_law_one", "_law_other"] true) q.b2 ap5;have t:=t.add M (fdm "_law_share" (top 82) 2 ["_law_script", "_law_at", "_law_under", "_law_drawn_here"] true) q.b3 P7;have t:=t.add M bJ7 q.b4 Y4;have t:=t.add M bo8 q.b5 y9;have t:=t.add M bp1 q.b6 af3;have t:=t.add M bJ9 q.b7 W5;have t:=t.add M bp0 q.b8 ap6;have t:=t.add M (fdm "_law_picture" (top 88) 4 ["_law_script", "_law_at", "_law_most", "_law_names_here", "_law_wide", "_law_high"]) q.b9 t8;have t:=TOk.rec t M bJ6 q.ca Q7 12;have t:TOk P w K mg base 133 _:=t;have v:WOk P w K mg base C 133 _ ⟨[],[], "Painter", Oa,[],zfn,zT rt2 xt0⟩:=WOk.start t r x (L _ _) (by decide) (by decide);have v:WOk P w K mg base C 134 _ _:=v.addM M c.foc bJ4 z.m_paint r9 1;have v:WOk P w K mg base C 135 _ _:=v.addM M c.foc bi2 z.m_give ao9 1;have v:WOk P w K mg base C 136 _ _:=v.addM M c.foc (fdm "shown" (mth 3) 1 ["self"]) z.m_shown aJ8 0;have v:WOk P w K mg base C 137 _ _:=v.addM M c.foc (fdm "now" (mth 4) 1 ["self"]) z.m_now bM6 0;have v:WOk P w K mg base C 138 _ _:=v.addM M c.foc (fdm "painted" (mth 5) 1 ["self"]) z.m_painted ao8 0;have v:WOk P w K mg base C 140 _ _:=v.addI M c (fdm "__init__" (mth 0) 2 ["self", "picture"]) z.m_init__ rfl Y3 1;have v:WOk P w K mg base C 141 _ _:=v.addR M c.foc bi2 z.m_give (aL7 O3 U0) 1 "self" ["node", "name", "old", "box"] λX hx F b a o ds x _ e=>(show ORs X C true b _ _ (G0<|mth 2) _ by rw[cb4];exact bG7 hx F rfl rfl (by kernel_rfl) (by decide) rfl (by kernel_rfl) rfl (by kernel_rfl) e)
  have v:WOk P w K mg base C 142 _ _:=v.addD M c.foc (fdm "_law_refused" (top 90) 2 ["_law_painter", "_law_node", "e", "_law_flags"]) q.cb X4 0;have v:WOk P w K mg base C 143 _ _:=v.addD M c.foc (fdm "_law_stands" (top 91) 3 ["_law_painter", "_law_picture_here", "_law_many"]) q.cc O8 0;exact v
 case f=>rfl
 case e=>kernel_rfl
def zmd{K:aa}{h:Heap}{mg:Str->Option eP}{q0 q1t0 q1t1 q1t2 q1t3 q1 q2:eR}{y0 y1t0 y1t1 y1t2 y1t3 y1 y2:Array (Option eP)}{g0t0 g0t1 g1t0t0 g1t0t1 g1t1t0 g1t1t1 g1t2t0 g1t2t1 g1t3t0 g1t3t1 g2t0 g2t1:Tok}{n0 n1t0 n1t1 n1t2 n1t3 n1 n2:Nat}(X:K.In h)(G:h.Ns dN mg)(p0:aW K dN "ONE" = Ob (Ob<|.ref q0))(r0:K.lookup q0=Ob ⟨.type "tuple", Oa,.seq #[.int 1 g0t0,.int 1 g0t1] n0,y0⟩)(p1:aW K dN "CLEAR" = Ob (Ob<|.ref q1))(r1:K.lookup q1=Ob ⟨.type "tuple", Oa,.seq #[.ref q1t0,.ref q1t1,.ref q1t2,.ref q1t3] n1,y1⟩)(r1t3:K.lookup q1t3=Ob ⟨.type "tuple", Oa,.seq #[.int 0 g1t3t0,.int 1 g1t3t1] n1t3,y1t3⟩)(r1t2:K.lookup q1t2=Ob ⟨.type "tuple", Oa,.seq #[.int 0 g1t2t0,.int 1 g1t2t1] n1t2,y1t2⟩)(r1t1:K.lookup q1t1=Ob ⟨.type "tuple", Oa,.seq #[.int 0 g1t1t0,.int 1 g1t1t1] n1t1,y1t1⟩)(r1t0:K.lookup q1t0=Ob ⟨.type "tuple", Oa,.seq #[.int 0 g1t0t0,.int 1 g1t0t1] n1t0,y1t0⟩)(p2:aW K dN "THIRD" = Ob (Ob<|.ref q2))(r2:K.lookup q2=Ob ⟨.type "tuple", Oa,.seq #[.int 1 g2t0,.int 3 g2t1] n2,y2⟩)(z0:aW K dN "ValueError" = Ob Oa)(z1:aW K dN "enumerate" = Ob Oa)(z2:aW K dN "int" = Ob Oa)(z3:aW K dN "isinstance" = Ob Oa)(z4:aW K dN "len" = Ob Oa)(z5:aW K dN "list" = Ob Oa)(z6:aW K dN "max" = Ob Oa)(z7:aW K dN "min" = Ob Oa)(z8:aW K dN "range" = Ob Oa)(z9:aW K dN "tuple" = Ob Oa)(z10:aW K dN "zip" = Ob Oa):Md K mg zcs zbl:=by
 refine⟨λx v e=>cZ X G e,λx d e=>?_,λx e=>?_⟩
 .unfold zcs at e;rw[aH]at e;split at e
  .rename_i q;cases e;simp only[beq_iff_eq]at q;subst q;exact⟨_,(j9 r0 rfl rfl rfl (by show 2<=1000;decide)<|K4 (S0 1 g0t0) (K4 (S0 1 g0t1) W9)),cZ X G p0⟩
  rw[aH]at e;split at e
  .rename_i q;cases e;simp only[beq_iff_eq]at q;subst q;exact⟨_,(j9 r1 rfl rfl rfl (by show 4<=1000;decide)<|K4 (j9 r1t0 rfl rfl rfl (by show 2<=1000;decide)<|K4 (S0 0 g1t0t0) (K4 (S0 1 g1t0t1) W9)) (K4 (j9 r1t1 rfl rfl rfl (by show 2<=1000;decide)<|K4 (S0 0 g1t1t0) (K4 (S0 1 g1t1t1) W9))<|K4 (j9 r1t2 rfl rfl rfl (by show 2<=1000;decide)<|K4 (S0 0 g1t2t0) (K4 (S0 1 g1t2t1) W9)) (K4 (j9 r1t3 rfl rfl rfl (by show 2<=1000;decide)<|K4 (S0 0 g1t3t0) (K4 (S0 1 g1t3t1) W9)) W9))),cZ X G p1⟩
  rw[aH]at e;split at e
  .rename_i q;cases e;simp only[beq_iff_eq]at q;subst q;exact⟨_,(j9 r2 rfl rfl rfl (by show 2<=1000;decide)<|K4 (S0 1 g2t0) (K4 (S0 3 g2t1) W9)),cZ X G p2⟩
  cases e
 .unfold zbl at e;simp only[List.contains_cons,List.contains_nil,Bool.or_false,Bool.or_eq_true,beq_iff_eq]at e;rcases e with e|e|e|e|e|e|e|e|e|e|e
  .subst e;exact ba X G z0
  .subst e;exact ba X G z1
  .subst e;exact ba X G z2
  .subst e;exact ba X G z3
  .subst e;exact ba X G z4
  .subst e;exact ba X G z5
  .subst e;exact ba X G z6
  .subst e;exact ba X G z7
  .subst e;exact ba X G z8
  .subst e;exact ba X G z9
  .subst e;exact ba X G z10
def cz8{l:PySem.W.OpenLaw}{q:dO}{loose:List Str}{XP:(Str->Option eP)->Heap->Prop}{YP:World->Heap->Prop}{d:DefRec}{K:Params->aa}(hn:l.most=Ob 63)(hdf:d.params.defaults=[])
  (hY:∀(w:World) (h:Heap),YP w h->(K w.params).In h) (hd:d.name = "law")
  (F:∀(w:World) (mg:Str->Option eP) (h:Heap),(K w.params).In h->h.Ns dN mg->Md (K w.params) mg zcs zbl)
  (Q:∀w:World,Qs<|K w.params) (B:∀w:World,clB (K w.params) zcl ztb zsb znb=true)
  (M:∀ns:List Int,ns.length<=63->aR4 [.list (ns.map eG)]=Ob (.bool true)) :
  PySem.W.WalkO q loose XP YP l.row.toRowW d [] (λf vs=>PySem.call f vs) :=
 L2.bO6 (n:=63) (k:=144) (x := "_law_script") (CX:=λ_=>CX0) (sp:=λw=>spF (K w.params) 1 aR4) hn (by decide) hdf ⟨rfl,by decide,by decide⟩ hY
  (λw mg fa h hk hg hm=>by
   have N:=F w mg h hk hg;have q:=Q w;rw[hd]at hm;obtain⟨C,c,z⟩:=q.ce;obtain⟨_,_,ef,e,t⟩:=cM6 N (λrt xt=>Cl.of N (by decide +kernel)<|B w) q c z;obtain⟨fd,b1,b2⟩:=bC2 N (by rw[ef];exact c.foc) t cf2 q.cd e hm
   exact⟨fd,b1,λbase _ _=>b2 base⟩)
  (λw H a ns hl _ hS=>⟨rfl,H,[.list (ns.map eG)],.bool true,B8.refl _,⟨.ref a,[],rfl,⟨a,_,rfl,hS,Reps.ints ns⟩,rfl⟩,M ns hl,λv H' Hf' g r=>r⟩) λ_ _ _ _ _ z=>z
end Lk70
namespace PySem.W.Fast
def tw15460676131063505799:=()
def tw3021844597553903570:=()
def tw3510204835804733026:=()
def tw14702937386018731327:=()
def tw8606689715929498364:=()
def tw2963284048051607689:=()
def tw17542355109667551588:=()
def tw17823443161287406408:=()
def tw8226785733166437524:=()
def tw17147854507298136371:=()
def tw17033584190663484897:=()
def tw8142615059924040161:=()
def tw6474448885005655797:=()
def tw9397901528822857364:=()
def tw4920570443424821842:=()
def tw12179147733869284714:=()
def tw17452209699701207516:=()
def tw16232863303648623323:=()
def tw1115496235255718249:=()
def tw16520323682602064501:=()
def tw2419127093732396044:=()
def tw7702357928418590538:=()
def tw18155826765665109832:=()
def tw12657857026506312835:=()
def tw16485611602997950620:=()
def tw12657535266474144329:=()
def tw13878273268962652648:=()
def tw2740852442178273114:=()
def tw11709014690816946381:=()
def tw5769721909193969025:=()
def tw14287833631275879530:=()
def tw5284683704383711995:=()
def tw13979657234099946177:=()
def tw17097152300305871548:=()
def tw158927346282717870:=()
def tw4384958778632291284:=()
def tw665074256300368576:=()
def tw6789558641271138077:=()
def tw14958184685242152402:=()
def tw11552352729611908368:=()
def tw6551943769647223893:=()
def tw12286319305387442365:=()
def tw11007721622286619276:=()
def tw4534188778672420429:=()
def tw18054743981782461629:=()
def tw18073311962625556004:=()
def tw3883676149224256095:=()
def tw6468761071454528677:=()
def tw1041526151255748180:=()
def tw17674766625766283041:=()
def tw13032597099095180324:=()
def tw6530035805780694668:=()
def tw16392246046019056105:=()
def tw17449579958824552213:=()
def tw14586437311524839424:=()
def tw7501409998410783894:=()
def tw726627517636936018:=()
def tw6736316530254861242:=()
def tw7998092125892314649:=()
def tw8680257382025873835:=()
def tw17585887932891886362:=()
def tw15675309368657756958:=()
def tw8092365746921605770:=()
def tw1647315512760627168:=()
def tw5236669382932486832:=()
def tw6275399224886299517:=()
def tw9620975469841027885:=()
def tw12627507092927088018:=()
def tw3624045617306745996:=()
def tw16943948595073801052:=()
def tw11269602278678135317:=()
def tw7523225523034718616:=()
def tw2197838189862461877:=()
def tw3075146202626546323:=()
def tw12756302262564550020:=()
def tw3396594515918475563:=()
def tw7113843009495580169:=()
def tw6499565458289207417:=()
def tw3874142034200444632:=()
def tw7583684986058537590:=()
def tw12389544119658433791:=()
def tw11831219241767065588:=()
def tw5735538129418631756:=()
def tw14908929757391419476:=()
def tw10235328095141943049:=()
def tw2879816068753250271:=()
def tw15102155546308565358:=()
def tw6003069003214788437:=()
def tw11427258938079603201:=()
def tw8448408280305241466:=()
def tw7672191375395577050:=()
def tw4997219019387165899:=()
def tw3854490269559597211:=()
def tw9227718556205540826:=()
def tw17975397918340397026:=()
def tw567995495867333033:=()
def tw3966464319971170468:=()
def tw9849581981555318572:=()
def tw13685794876292896282:=()
def tw6757197674673183898:=()
def tw12476170262944153283:=()
def tw466485033377624047:=()
def tw17375198371630504183:=()
def tw17103765570190478926:=()
def tw15320257724643581504:=()
def tw10498676869126383706:=()
def tw14259439695051877974:=()
def tw14133398874343622821:=()
def tw1829801539175482547:=()
def tw10963822188946326258:=()
def tw1159405348388058932:=()
def tw17209149038152600853:=()
def tw18025317982297364839:=()
def tw8035691305956600776:=()
def tw15868321618735891980:=()
def tw11581811232016965493:=()
def tw11695164383966954663:=()
def tw8274529501460712918:=()
def tw10639772885093151584:=()
def tw12258365826127268966:=()
def tw17829384935579731781:=()
def tw11396073366056510838:=()
def tw14694472817980874773:=()
def tw3731941632224933124:=()
def tw8943219897685541542:=()
def tw1457076397852709065:=()
def tw18358425019951016884:=()
def tw6401021024994309199:=()
def tw12647555432744963268:=()
def tw12221433285375362298:=()
def tw9696724347402002846:=()
def tw14860760724172399013:=()
def tw17261368166256851209:=()
def tw12988857253893721031:=()
def tw4435822843656194111:=()
def tw4470783557067107630:=()
def tw4270983836896508904:=()
def tw8745101886869964264:=()
def tw15574469843554931350:=()
def tw17815145176569668864:=()
def tw17550424074574121611:=()
def tw1985909014754735489:=()
def tw6787009445447064026:=()
def tw14091935032067361334:=()
def tw3957288575442428727:=()
def tw16529751783333398528:=()
def tw10243090895308422488:=()
def tw4235168558756049161:=()
def tw16295054974723493764:=()
def tw15561597980013874557:=()
def tw16306537414717321861:=()
def tw739949050407476840:=()
def tw17753186277550496889:=()
def tw8801925600602569504:=()
def tw580667547437988492:=()
def tw1050915201950994656:=()
def tw6612066571216843497:=()
def tw7885052145527208140:=()
def tw5098074723746241015:=()
def tw3598406603246191920:=()
def tw17798397664459945529:=()
def tw1397506171899857483:=()
end PySem.W.Fast
namespace Lk70
open PySem PySem.W PyProof.Rows
set_option maxHeartbeats 0 in
open_top head for PySem.Challenge.rw_glazework_k70_whole_painter
end Lk70
open PySem PySem.W PyProof.Rows
set_option maxRecDepth 100000 in
set_option maxHeartbeats 0 in
theorem PySem.Challenge.cw_glazework_k70_whole_painter_holds : PySem.Challenge.rw_glazework_k70_whole_painter.Holds := by
 refine Lk70.head ?_
 k_fill
 refine Lk70.cz8 (l:=PySem.Challenge.rw_glazework_k70_whole_painter) rfl rfl (λw h Y=>PySem.W.kIn_of Y) rfl ?F ?Q ?B Lk70.main
 case F =>
  intro w mg h KX G
  refine' Lk70.zmd KX G ?p0 ?r0 ?p1 ?r1 ?r1t3 ?r1t2 ?r1t1 ?r1t0 ?p2 ?r2 ?z0 ?z1 ?z2 ?z3 ?z4 ?z5 ?z6 ?z7 ?z8 ?z9 ?z10
  (case p0=>k_is);(case r0=>k_is);(case p1=>k_is);(case r1=>k_is);(case r1t3=>k_is);(case r1t2=>k_is);(case r1t1=>k_is);(case r1t0=>k_is);(case p2=>k_is);(case r2=>k_is);(case z0=>k_is);(case z1=>k_is);(case z2=>k_is);(case z3=>k_is);(case z4=>k_is);(case z5=>k_is);(case z6=>k_is);(case z7=>k_is);(case z8=>k_is);(case z9=>k_is);(case z10=>k_is)
 case Q =>
  intro w;constructor
  case ce =>
   refine' ⟨_,G.cr4 ?a ?b ?c ?pg ?hd ?po ?sa ?n1 ?n2 ?n3,?ms⟩
   (case a=>k_is);(case b=>k_is);(case c=>k_is);(case pg=>k_is);(case hd=>k_is);(case po=>k_is);(case sa=>k_is);(case n1=>k_is);(case n2=>k_is);(case n3=>k_is)
   case ms =>
    constructor
    all_goals (refine' G.cG1 ?a ?i ?l ?c ?k;(case a=>k_is);(case i=>k_is);(case l=>k_is);(case c=>k_is);(case k=>k_is))
  all_goals (refine' G.cG2 ?a ?l ?c ?k;(case a=>k_is);(case l=>k_is);(case c=>k_is);(case k=>k_is))
 case B=>intro w;kernel_rfl
