import PyProof.Rows.All
import Wide.All
import OpenK.AllK
import Wide.FinOn
import Lean
import PyProof.EqAt
import PyProof.EqKinds
import PyProof.TupleCall
import PySem.Challenge.RW_glazework_k80_deeds
open Option renaming none→O,some→Z
open PySem.W renaming Frag→ad,nsIn→aT,keepIn→aW,mg_none_of→bc,fnOf→bM,excIn→bV,mg_of→bZ,codeIn→cN
open List renaming length_append→ae,length_map→ag,mem_cons_self→ah,getElem?_eq_some_iff→ak,getElem?_eq_getElem→am,mem_cons→ao,size_toArray→ap,mem_append_left→ar,mem_append_right→au,append_assoc→av,mem_singleton→aw,replicate→ax,range→ay,mem_append→az,length_take→aA,not_mem_nil→aB,length_cons→aD,getElem?_map→aF,getElem?_set_ne→aG,getElem?_set_self→aI,nodup_append→aJ,all_eq_true→aK,lookup_cons→aL,getElem?_append_right→aM,length_singleton→aN,mem_map→aP,mem_range→aR,getElem_mem→aS,length_range→aU,getElem?_append_left→aX,length_drop→aY,singleton_append→aZ,append_nil→ba,getElem?_eq_none→bg,getD_eq_getElem?_getD→bh,map_append→bj,nodup_cons→bn,getElem?_replicate→bo,mem_of_mem_take→bq,mem_of_mem_drop→br,take_of_length_le→bu,any_eq_true→bv,all_cons→bz,foldl_cons→bA,drop_eq_getElem_cons→bB,map_cons→bF,map_map→bH,perm_append_comm_assoc→bI,flatten_cons→bJ,replicate_succ→bK,mem_map_of_mem→bL,length_replicate→bN,any_cons→bO,take_append_drop→bP,mem_filter→bR,find?_cons→bS,filterMap_cons→bU,findIdx?_eq_some_iff_getElem→bY,append_of_mem→ck,drop_eq_nil_of_le→cq,getElem?_set→cx,any_eq_false→cy,mem_of_getElem?→cA,map_drop→cG,map_take→cH,getElem_append_right→cI,mem_filterMap→cJ,getElem?_cons_zero→cM,reverse_cons→cO,set_eq_take_append_cons_drop→cP,foldl→cQ,drop_of_length_le→cR,take_succ_eq_append_getElem→cS,length→cT,Pairwise→cU,contains_iff_mem→cX,length_filter_le→dh,of_mem_zip→dk,take_append_of_le_length→dm,length_reverse→dt,getElem?_range→du,ext_getElem?→dw,pairwise_map→dz,mem_of_find?_eq_some→dB,getElem?_take_of_lt→dD,getElem_append_left→dE,any_map→dH,getElem?_cons_succ→dI,length_eq_zero_iff→dM,filter_cons_of_pos→dN,filter_cons_of_neg→dO,range_succ_eq_map→dR,length_nil→dW,length_set→dX,map_eq_append_iff→dZ,filter_eq_nil_iff→eD,nodup_nil→eJ
open Bool renaming and_eq_true→af,false_ne_true→aE,false_eq_true→be,not_eq_true'→bC,eq_iff_iff→bX,and_false→eI
open Nat renaming le_refl→aj,ne_of_lt→aC,lt_of_lt_of_le→aH,le_trans→aO,zero_le→aQ,lt_irrefl→bt,min_eq_left→bE,lt_or_ge→bG,mul_le_mul→bQ,le_of_lt→bT,sub_self→bW,le_add_right→ce,lt_of_le_of_lt→cg,gcd→cn,lt_succ_of_lt→cu,le_succ→cw,mul_comm→cz,mul_le_mul_right→cD,pos_of_ne_zero→cK,lt_succ_self→cV,mul_pos→cY,min_eq_right→cZ,pow_le_pow_right→dj,succ_mul→dq,zero_add→dr,min_le_right→dF,lt_trans→dJ,not_lt_zero→dS,div_le_self→dY
open Array renaming length_toList→aV,size_append→bx,mem_toList_iff→cC,toList_append→cF,all_toList→dG,getElem?_toList→eF
open Option renaming some→bf,map→cr,isSome_some→cL,bind_some→cW,map_some→dl,isSome_none→dv,isSome_map→dy,map_eq_some_iff→dQ,any_some→eB
open Int renaming toNat_natCast→bp,natCast_mul→bD,natAbs_natCast→cj,le_trans→dP,le_antisymm→dU,natCast_add→eE
open Classical renaming propDecidable→cf,byContradiction→dA,choose_spec→eG
open PySem renaming wpAny_bind→eK,wpAny_pure→eM,wpAny_mono→eO,wpAny_newObj_type→eQ,wpAny_truthy_bool→eR,wpAny_field→eS,starEach→eT,sizeLine→eU,sizeLine_eq→eV,compareOp→eW,mainGlobals→eY,Program→fb,Around→fc,FuncData→fe,bootBuiltins→ff,binaryOp→fg,Keyword→fh,assignEach→fj,foldedSetIterable→fk,call_meets→fo,attributeBase→fq,wpAny→ft,model→fu
open PySem.Heap renaming get?_push_of_some→fw,lt_size→fA,get?_push_size→fB
open PySem.SeqAt renaming shaped→fC
open PySem.PyData renaming eqv→fD,int→fE,bool→fF,str→fG,canLay0→fH
open PySem.Value renaming ref→fI,none→fJ
open PySem.NameKind renaming free→fK
open PySem.Str renaming empty→fL
open PySem renaming Value→fM
open PySem renaming Shared→fN
open PySem renaming Addr→fO
set_option compiler.extract_closed false
noncomputable section
set_option autoImplicit true
set_option Elab.async false
set_option linter.all false
set_option maxRecDepth 100000
def xbo{α β:Type}{o:Option α}{f:α->Option β}{b:β}(h:o.bind f=Z b):∃a,o=Z a/\f a=Z b:=Option.bind_eq_some_iff.mp h
def xmo{α β:Type}{o:Option α}{f:α->β}{b:β}(h:o.map f=Z b):∃a,o=Z a/\f a=b:=dQ.mp h
def xmm{α:Type}{a:α}{l:List α}(b:α)(h:a∈l):a∈b::l:=List.mem_cons_of_mem b h
namespace L2
open PySem PySem.Spec PyProof.Rows
noncomputable abbrev Key:=Sum Int Str
noncomputable def aO3:Key->fM->Bool
 | .inl k,v=>Value.isInt k v
 | .inr x,v=>Value.isStrOf x v
noncomputable def dc8(w:World):Key->Int
 | .inl k=>hashInt k
 | .inr x=>hashStr w x
def M5:∀{k:Key}{v:fM},aO3 k v=true->(∃i t,k=Sum.inl i/\v=Value.int i t)\/(∃x t,k=Sum.inr x/\v=Value.str x t)
 | .inl i,v,h=>by
  obtain⟨t,e⟩:=Value.isInt_shape (k:=i) (v:=v) h;exact .inl ⟨i,t,rfl,e⟩
 | .inr x,v,h=>by
  obtain⟨t,e⟩:=Value.isStrOf_shape (x:=x) (v:=v) h;exact .inr ⟨x,t,rfl,e⟩
def bz9(i:Int)(t:Tok):aO3 (.inl i) (.int i t)=true:=by simp[aO3,Value.isInt]
def bz8(x:Str)(t:Tok):aO3 (.inr x) (.str x t)=true:=by simp[aO3,Value.isStrOf]
def cE7(a b:Int):decide ((Sum.inl a:Key)=Sum.inl b)=(a==b):=by
 by_cases e:a=b
 .subst e;simp
 .have h:¬(Sum.inl a:Key)=Sum.inl b:=λq=>e (Sum.inl.inj q)
  rw[decide_eq_false h];exact(beq_eq_false_iff_ne.mpr e).symm
def bN9(a b:Str):decide ((Sum.inr a:Key)=Sum.inr b)=decide (a=b):=by
 by_cases e:a=b
 .subst e;simp
 .have h:¬(Sum.inr a:Key)=Sum.inr b:=λq=>e (Sum.inr.inj q)
  rw[decide_eq_false h,decide_eq_false e]
def cE6(a:Int)(b:Str):decide ((Sum.inl a:Key)=Sum.inr b)=false:=decide_eq_false λq=>nomatch q
def cE5(a:Str)(b:Int):decide ((Sum.inr a:Key)=Sum.inl b)=false:=decide_eq_false λq=>nomatch q
noncomputable def F8(prog:fb)(w:World):PySem.KeyKind prog w Key where
 is:=aO3
 hash:=dc8 w
 inj:=λv a b ha hb=>by
  rcases M5 ha with⟨i,t,rfl,rfl⟩|⟨x,t,rfl,rfl⟩
  .rcases M5 hb with⟨j,u,rfl,e⟩|⟨y,u,rfl,e⟩
   .injection e with e1 _;rw[e1]
   .exact nomatch e
  .rcases M5 hb with⟨j,u,rfl,e⟩|⟨y,u,rfl,e⟩
   .exact nomatch e
   .injection e with e1 _;rw[e1]
 byValue:=λk v h=>by rcases M5 h with⟨i,t,rfl,rfl⟩|⟨x,t,rfl,rfl⟩<;>rfl
 pyHash:=λhv h=>by
  rcases M5 hv with⟨i,t,rfl,rfl⟩|⟨x,t,rfl,rfl⟩
  .exact wpAny_pyHash_int h
  .exact wpAny_pyHash_str h
 eqBool:=λhu hv h=>by
  rcases M5 hu with⟨i,t,rfl,rfl⟩|⟨x,t,rfl,rfl⟩
  .rcases M5 hv with⟨j,u,rfl,rfl⟩|⟨y,u,rfl,rfl⟩
   .rw[cE7]at h;exact wpAny_eqBool_int h
   .rw[cE6]at h;exact SeqAt.EqAt.int_str i t y u _ _ _ _ h
  .rcases M5 hv with⟨j,u,rfl,rfl⟩|⟨y,u,rfl,rfl⟩
   .rw[cE5]at h;exact SeqAt.EqAt.str_int x t j u _ _ _ _ h
   .rw[bN9]at h;exact wpAny_eqBool_str h
 «strs»:=λk x t v h=>by
  rcases M5 h with⟨i,u,rfl,e⟩|⟨y,u,rfl,e⟩
  .exact nomatch e
  .injection e with e1 _
   subst e1;cases v<;>rfl
def ba8(prog:fb)(w:World)(i:Int)(t:Tok):(F8 prog w).is (.inl i) (.int i t)=true:=bz9 i t
def aA2(prog:fb)(w:World)(x:Str)(t:Tok):(F8 prog w).is (.inr x) (.str x t)=true:=bz8 x t
inductive V where
 | non|bl (b:Bool)|int (i:Int)|str (x:Str)|byt (b:Array UInt8)|flt (b:UInt64)|ref (a:fO)|ty (n:String)
 deriving DecidableEq
noncomputable def D9:V->fM->Prop
 | .non,u=>u=fJ
 | .bl b,u=>u=Value.bool b
 | .int i,u=>∃t,u=Value.int i t
 | .str x,u=>∃t,u=Value.str x t
 | .byt b,u=>∃t,u=Value.bytes b t
 | .flt b,u=>∃t,u=Value.float b t
 | .ref a,u=>u=fI a
 | .ty n,u=>u=Value.type n
noncomputable abbrev E1:List V->List fM->Prop:=Paired D9
theorem E1.length(r:E1 xs us):xs.length=us.length:=Paired.length r
theorem E1.get:∀{xs:List V}{us:List fM}{i:Nat}{x:V},E1 xs us->xs[i]? = Z x->∃u,us[i]? = Z u/\D9 x u
 | _,_,_,_,.nil,e=>by simp at e
 | _,_,0,_,.cons r _,e=>by simp at e;subst e;exact⟨_,rfl,r⟩
 | _,_,i+1,x,.cons _ t,e=>by
  obtain⟨u,h1,h2⟩:=E1.get (i:=i) (x:=x) t (by simpa using e);exact⟨u,by simpa using h1,h2⟩
theorem E1.append:∀{xs ys:List V}{us ws:List fM},E1 xs us->E1 ys ws->E1 (xs++ys) (us++ws)
 | _,_,_,_,.nil,s=>s
 | _,_,_,_,.cons r t,s=>.cons r<|E1.append t s
theorem E1.take:∀{xs:List V}{us:List fM}(n:Nat),E1 xs us->E1 (xs.take n) (us.take n)
 | _,_,0,_=>.nil
 | _,_,_+1,.nil=>.nil
 | _,_,n+1,.cons r t=>.cons r<|E1.take n t
theorem E1.drop:∀{xs:List V}{us:List fM}(n:Nat),E1 xs us->E1 (xs.drop n) (us.drop n)
 | _,_,0,r=>r
 | _,_,_+1,.nil=>.nil
 | _,_,n+1,.cons _ t=>E1.drop n t
noncomputable def aD0:Option V->Option fM->Prop
 | some v,Z u=>D9 v u
 | none,O=>True
 | _,_=>False
noncomputable def KV{κ:Type}:List (κ×V)->List (κ×fM)->Prop:=Paired λ(p:κ×V) (q:κ×fM)=>p.1=q.1/\D9 p.2 q.2
noncomputable def kV:Key->V
 | .inl i=>.int i
 | .inr x=>.str x
inductive HO where
 /-- a list -/
 | lst (xs:List V)
 /-- a tuple (never changes) -/
 | tup (xs:List V)
 /-- a dict whose keys are ints and texts;one whose keys are tuples of ints and texts (the empty one is both) -/
 | dK (kvs:List (Key×V))|dT (kvs:List (List Key×V))
 /-- a set of ints: its members,its size -/
 | set (S:Int->Bool) (n:Nat)
 /-- an instance of the class at C,its dict at dx,its attributes -/
 | ins (C dx:fO) (fs:List (Str×V))
 /-- the dict of the instance at x -/
 | own (x:fO)
 /-- the dict of an exception -/
 | xd (fs:List (Str×V))
 /-- a bound method,f of x -/
 | met (f x:fO)
 /-- a range object lo,lo+1,.. below hi -/
 | rng (lo hi:Int)
 /-- a thing that is known to the object (the script;a dict while a loop walks it): read,never written while it is so -/
 | frz (o:Obj) (u:HO)
 /-- a code object's table -/
 | tbl (ps:Array fM)
 /-- any other thing,by what is true of its one object (a def of one's own: SetO a S n:=HO.ext λh=>..) -/
 | ext (φ:Heap->Prop)
noncomputable abbrev Hp:=fO->Option HO
noncomputable def upd(H:Hp)(a:fO)(o:HO):Hp:=λb=>if b=a then Z o else H b
def C5:upd H a o a=Z o:=by unfold upd;rw[if_pos rfl]
def C6(h:b≠a):upd H a o b=H b:=by unfold upd;rw[if_neg h]
def ca1:upd (upd H a o) a u=upd H a u:=by funext b;unfold upd;split<;>rfl
def C9{H:Hp}{a b:fO}{o:HO}(h:H a=Z o)(h':H b=O):a≠b:=by intro e;subst e;rw[h]at h';cases h'
def aJ4(h:Heap)(a:fO)(items:Array fM):Prop:=∃o,h.get? a=Z o/\o.cls=.type "tuple" /\ (∃n,o.data=.seq items n)/\o.dict=O
def aJ4.tup{h:Heap}{a:fO}{items:Array fM}(p:aJ4 h a items):IsTup h a items:=let⟨o,e,c,d,_⟩:=p;⟨o,e,c,d⟩
def aJ4.new(h:Heap)(items:Array fM)(n:Nat:=0):aJ4 (h.push { cls:=.type "tuple", data:=.seq items n }) h.objs.size items:=⟨_,fB _ rfl,rfl,⟨_,rfl⟩,rfl⟩
section
variable (P:Program) (w:World)
noncomputable def N8(H:Hp)(h:Heap)(a:fO):HO->Prop
 | .lst xs=>xs.length<=eU/\∃(its:List fM) (n:Nat),E1 xs its/\h.get? a=Z { cls:=.type "list", data:=.seq its.toArray n }
 | .tup xs=>xs.length<=eU/\∃its:List fM,E1 xs its/\aJ4 h a its.toArray
 | .dK kvs=>kvs.length<=eU/\(a==sysModules)=false/\∃vs,KV kvs vs/\h.DictOf (F8 P w) a vs
 | .dT kvs=>kvs.length<=eU/\(a==sysModules)=false/\∃xs:List (List Key×fO×fM),
   Paired (λ(p:List Key×V) (q:List Key×fO×fM)=>p.1=q.1/\H q.2.1=Z (.tup<|p.1.map kV)/\D9 p.2 q.2.2) kvs xs /\
   ∃o es ep,h.get? a=Z o/\o.ExactDict/\o.data=.dict es ep/\es.toList=xs.map (entryOfKey<|tupleKind (F8 P w))/\(xs.map (·.1)).Nodup
 | .set S n=>h.SetOf (intKind P w) a S n
 | .ins C dx fs=>H dx=Z (.own a)/\fs.length<=1000/\dx≠a/\h.get? a=Z (PySem.W.instObj C dx) /\
   ∃mA,h.Ns1 dx mA/\(∀f,aD0 (fs.lookup f)<|mA f)/\PySem.Within mA (fs.map (·.1))
 | .own _=>∃o,h.get? a=Z o
 | .xd fs=>∃mA,h.Ns1 a mA/\∀f,aD0 (fs.lookup f)<|mA f
 | .rng lo hi=>∃t u v,h.get? a=Z { cls:=.type "range", data:=.fields #[.int lo t,.int hi u,.int 1 v] }
 | .frz o u=>h.get? a=Z o/\N8 H h a u
 | .tbl ps=>h.get? a=Z { cls:=.none,data:=.fields ps }
 | .met f x=>h.get? a=Z (PySem.W.methodObj (.ref f)<|.ref x)
 | .ext φ=>φ h/\(∃o,h.get? a=Z o)/\∀h1 h2:Heap,φ h1->(∀o,h1.get? a=Z o->h2.get? a=Z o)->φ h2
def HOk(H:Hp)(h:Heap):Prop:=∀a o,H a=Z o->N8 P w H h a o
end
section
variable {P:Program}{w:World}{H H':Hp}{h h':Heap}{a:Addr}{o:HO}
theorem N8.lt(x:N8 P w H h a o):a < h.objs.size:=by
 cases o with
 | lst xs=>obtain⟨_,_,_,_,e⟩:=x;exact fA e
 | tup xs=>obtain⟨_,_,_,p⟩:=x;exact p.tup.lt
 | dK kvs=>obtain⟨_,_,_,_,o,_,_,e,_⟩:=x;exact fA e
 | dT kvs=>obtain⟨_,_,_,_,o,_,_,e,_⟩:=x;exact fA e
 | set S n=>obtain⟨o,_,_,_,e,_⟩:=x;exact fA e
 | ins C dx fs=>obtain⟨_,_,_,e,_⟩:=x;exact fA e
 | own y=>obtain⟨_,e⟩:=x;exact fA e
 | xd fs=>obtain⟨_,⟨_,_,_,e,_⟩,_⟩:=x;exact fA e
 | rng lo hi=>obtain⟨_,_,_,e⟩:=x;exact fA e
 | frz ob u=>obtain⟨e,_⟩:=x;exact fA e
 | tbl ps=>exact fA (show h.get? a=Z _ from x)
 | met f y=>exact fA (show h.get? a=Z _ from x)
 | ext φ=>obtain⟨_,⟨_,e⟩,_⟩:=x;exact fA e
theorem Paired.mapP{α β:Type}{F G:α->β->Prop}:∀{l₁:List α}{l₂:List β},Paired F l₁ l₂->(∀a b,F a b->G a b)->Paired G l₁ l₂
 | _,_,.nil,_=>.nil
 | _,_,.cons r t,f=>.cons (f _ _ r)<|Paired.mapP t f
def N8.stay(x:N8 P w H h a o)(k:∀b u,(b=a\/H b=Z (.own a))->h.get? b=Z u->h'.get? b=Z u)
  (ho:∀b,H b=Z (.own a)->H' b=Z (.own a)) (ht:∀b xs,H b=Z (.tup xs)->H' b=Z (.tup xs)):N8 P w H' h' a o:=by
 induction o with
 | lst xs=>obtain⟨z,its,n,r,e⟩:=x;exact⟨z,its,n,r,k _ _ (.inl rfl) e⟩
 | tup xs=>obtain⟨z,its,r,ob,e,c⟩:=x;exact⟨z,its,r,ob,k _ _ (.inl rfl) e,c⟩
 | dK kvs=>obtain⟨z,y,vs,r,ob,es,ep,e,c⟩:=x;exact⟨z,y,vs,r,ob,es,ep,k _ _ (.inl rfl) e,c⟩
 | dT kvs =>
  obtain⟨z,y,xs,r,ob,es,ep,e,c⟩:=x;exact⟨z,y,xs,Paired.mapP r λp q z=>⟨z.1,ht _ _ z.2.1,z.2.2⟩,ob,es,ep,k _ _ (.inl rfl) e,c⟩
 | set S n=>obtain⟨ob,es,ep,t,e,c⟩:=x;exact⟨ob,es,ep,t,k _ _ (.inl rfl) e,c⟩
 | ins C dx fs =>
  obtain⟨d,z,ne,e,mA,⟨od,es,ep,e2,c⟩,r⟩:=x;exact⟨ho _ d,z,ne,k _ _ (.inl rfl) e,mA,⟨od,es,ep,k _ _ (.inr d) e2,c⟩,r⟩
 | own y=>obtain⟨ob,e⟩:=x;exact⟨ob,k _ _ (.inl rfl) e⟩
 | xd fs=>obtain⟨mA,⟨od,es,ep,e,c⟩,r⟩:=x;exact⟨mA,⟨od,es,ep,k _ _ (.inl rfl) e,c⟩,r⟩
 | rng lo hi=>obtain⟨t,u,v,e⟩:=x;exact⟨t,u,v,k _ _ (.inl rfl) e⟩
 | frz ob u ih=>obtain⟨e,q⟩:=x;exact⟨k _ _ (.inl rfl) e,ih q⟩
 | tbl ps =>
  have e:h.get? a=Z { cls:=.none,data:=.fields ps }:=x;show h'.get? a=Z { cls:=.none,data:=.fields ps };exact k a _ (.inl rfl) e
 | met f y =>
  have e:h.get? a=Z (PySem.W.methodObj (.ref f)<|.ref y):=x;show h'.get? a=Z (PySem.W.methodObj (.ref f)<|.ref y);exact k a _ (.inl rfl) e
 | ext φ=>obtain⟨p,⟨o,e⟩,st⟩:=x;exact⟨st _ _ p λo q=>k _ _ (.inl rfl) q,⟨o,k _ _ (.inl rfl) e⟩,st⟩
theorem HOk.lt(x:HOk P w H h)(e:H a=Z o):a < h.objs.size:=(x a o e).lt
def HOk.fresh(x:HOk P w H h)(e:h.objs.size<=a):H a=O:=by
 cases q:H a with
 | none=>rfl
 | some u=>exact absurd (aH (x.lt q) e)<|bt _
def HOk.kept(x:HOk P w H h)(k:∀b u,h.get? b=Z u->h'.get? b=Z u):HOk P w H h':=λa o e =>(x a o e).stay (λb u _ q=>k b u q) (λ_ q=>q) λ_ _ q=>q
def HOk.laid(x:HOk P w H h)(k:∀b u,h.get? b=Z u->h'.get? b=Z u)(hp:h.objs.size<=a)(new:N8 P w (upd H a o) h' a o):HOk P w (upd H a o) h':=λb u e=>by
 have hn:=x.fresh hp;by_cases hb:b=a
 .subst hb;rw[C5]at e;cases e;exact new
 .rw[C6 hb]at e;exact(x b u e).stay (λc v _ q=>k c v q) (λc q=>by rw[C6 (C9 q hn)];exact q) λc xs q=>by rw[C6 (C9 q hn)];exact q
end
def Rd(H:Hp)(a:fO)(u:HO):Prop:=H a=Z u\/∃o,H a=Z (.frz o u)
def Rd.ok(r:Rd H a u)(x:HOk P w H h):N8 P w H h a u:=by
 rcases r with r|⟨o,r⟩
 .exact x a u r
 .obtain⟨_,q⟩:=x a _ r;exact q
noncomputable def Mut:Option HO->Prop
 | some (.lst _)=>True
 | some (.dK _)=>True
 | some (.dT _)=>True
 | some (.set _ _)=>True
 | some (.ins _ _ _)=>True
 | some (.ext _)=>True
 | _=>False
section
variable {P:Program}{w:World}{H:Hp}{h h':Heap}{x e:Addr}{o':HO}
def HOk.write(ok:HOk P w H h)(mu:Mut (H x))(he:e=x\/H e=Z (.own x))(k:∀b u,b≠e->h.get? b=Z u->h'.get? b=Z u)(heo:∃u,h'.get? e=Z u)
  (new:N8 P w (upd H x o') h' x o'):HOk P w (upd H x o') h':=λb u q=>by
 have nown:∀c y,H c=Z (.own y)->c≠x:=λc y r z=>by subst z;rw[r]at mu;exact mu
 have ntup:∀c xs,H c=Z (.tup xs)->c≠x:=λc xs r z=>by subst z;rw[r]at mu;exact mu
 by_cases hb:b=x
 .subst hb;rw[C5]at q;cases q;exact new
 .rw[C6 hb]at q;by_cases hbe:b=e
  .have q':H b=Z (.own x):=by
    rcases he with z|z
    .exact absurd (hbe.trans z) hb
    .rw[hbe];exact z
   rw[q]at q';cases q';obtain⟨v,hv⟩:=heo;exact⟨v,by rw[hbe];exact hv⟩
  .refine(ok b u q).stay (λc v hc r=>k c v ?_ r) (λc r=>by rw[C6 (nown c b r)];exact r) λc xs r=>by rw[C6 (ntup c xs r)];exact r
   rcases hc with rfl|hc
   .exact hbe
   .rintro rfl
    rcases he with z|z
    .exact nown c b hc z
    .rw[hc]at z;cases z;exact hb rfl
end
structure Un (fs ex:List fO) (H H':Hp) (h h':Heap):Prop where
 keep:∀b o,h.get? b=Z o->H b=O->b∉fs->b∉ex->h'.get? b=Z o
 slot:∀b o,h.get? b=Z o->H b=O->b∈fs->b∉ex->∃sl,h'.get? b=Z { o with slots:=sl }
 free:∀b o,h.get? b=Z o->H b=O->b∉ex->H' b=O
 there:∀b o,h.get? b=Z o->b∉ex->∃o',h'.get? b=Z o'
 tups:∀b xs,H b=Z (.tup xs)->H' b=Z (.tup xs)
 frzs:∀b o u,H b=Z (.frz o u)->H' b=Z (.frz o u)
 tbls:∀b ps,H b=Z (.tbl ps)->∃more,H' b=Z (.tbl<|ps++more)
section
variable {fs fs' ex ex':List Addr}{H H1 H2:Hp}{h h1 h2 h':Heap}{a x e:Addr}{o:HO}
def Un.any(u:Un fs ex H H1 h h1)(q:h.get? b=Z ob)(n:H b=O)(hx:b∉ex):∃sl,h1.get? b=Z { ob with slots:=sl }:=by
 by_cases hb:b∈fs
 .exact u.slot b ob q n hb hx
 .exact⟨ob.slots,u.keep b ob q n hb hx⟩
def Un.kept(k:∀b u,h.get? b=Z u->h'.get? b=Z u):Un fs ex H H h h' :=
 ⟨λb ob q _ _ _=>k b ob q,λb ob q _ _ _=>⟨ob.slots,k b ob q⟩,λ_ _ _ n _=>n,λb ob q _=>⟨ob,k b ob q⟩,λ_ _ q=>q,λ_ _ _ q=>q,λ_ ps q=>⟨#[],by rw[q];simp⟩⟩
def Un.refl:Un fs ex H H h h:=Un.kept λ_ _ q=>q
def Un.laid(k:∀b u,h.get? b=Z u->h'.get? b=Z u)(hp:h.objs.size<=a)(hn:H a=O):Un fs ex H (upd H a o) h h' where
 keep:=λb u q _ _ _=>k b u q
 slot:=λb u q _ _ _=>⟨u.slots,k b u q⟩
 free:=λb u q n _=>by rw[C6 (aC<|aH (fA q) hp)];exact n
 there:=λb u q _=>⟨u,k b u q⟩
 tups:=λb xs q=>by rw[C6 (C9 q hn)];exact q
 frzs:=λb u xs q=>by rw[C6 (C9 q hn)];exact q
 tbls:=λb ps q=>⟨#[],by rw[C6 (C9 q hn),q];simp⟩
def Un.write(mu:Mut (H x))(he:e=x\/H e=Z (.own x))(k:∀b u,b≠e->h.get? b=Z u->h'.get? b=Z u)(heo:∃u,h'.get? e=Z u):Un fs ex H (upd H x o) h h':=by
 have hx:∀b,H b=O->b≠x:=λb n z=>by subst z;rw[n]at mu;exact mu
 have hb:∀b,H b=O->b≠e:=λb n z=>by
  subst z;rcases he with r|r
  .exact hx b n r
  .rw[n]at r;cases r
 have hm:∀b u,H b=Z u->¬Mut (Z u)->b≠x:=λb u q nm z=>by subst z;rw[q]at mu;exact nm mu
 refine⟨λb u q n _ _=>k b u (hb b n) q,λb u q n _ _=>⟨u.slots,k b u (hb b n) q⟩,λb u q n _=>by rw[C6 (hx b n)];exact n,λb u q _=>?_,
  λb xs q=>by rw[C6 (hm b _ q λz=>z)];exact q,λb u xs q=>by rw[C6 (hm b _ q λz=>z)];exact q,λb ps q=>⟨#[],by rw[C6 (hm b _ q λz=>z),q];simp⟩⟩
 by_cases hbe:b=e
 .subst hbe;exact heo
 .exact⟨u,k b u hbe q⟩
end
noncomputable def trk(h:Heap)(H:Hp):List fO:=(ay h.objs.size).filter λa=>(H a).isSome
noncomputable def aU5(h:Heap)(H:Hp):Heap:=PySem.W.hideAll h<|trk h H
def bA4(h:Heap)(H:Hp):(aU5 h H).objs.size=h.objs.size:=PySem.W.hideAll_size _ _
def bS3(e:h.get? b=Z o)(n:H b=O):(aU5 h H).get? b=Z o :=
 PySem.W.hideAll_get _ e λhm=>by
  have q:(H b).isSome=true:=(bR.mp hm).2;rw[n]at q;simp at q
def cf4(e:(aU5 h H).get? b=Z o):h.get? b=Z o/\H b=O:=by
 have e':h.get? b=Z o:=PySem.W.of_hideAll (trk h H) e;refine⟨e',?_⟩;cases q:H b with
 | none=>rfl
 | some x =>
  have hm:b∈trk h H:=bR.mpr ⟨aR.mpr<|fA e',by simp[q]⟩;have z:(aU5 h H).get? b=O:=PySem.W.hideAll_none (trk h H) hm;rw[z]at e;cases e
noncomputable def cn5(g h:Heap)(L:fO):List (fO×Obj):=(ay h.objs.size).filterMap λa=>if a=L\/(g.get? a).isSome=true then O else(h.get? a).map λo=>(a,o)
noncomputable def G9(g h:Heap)(L d:fO):List (fO×Obj):=(cn5 g h L).filter λp=>decide (p.1≠d)
structure Mod (K:ad) (mg:Str->Option fM) (base:Heap):Prop where
 kin:K.In base
 glob:base.Ns eY mg
 blt:∃mb,base.Ns builtinsNs mb/\∀x:Str,x ≠ "__name__" -> mb x=ff x
 nolimit:base.NoLimit
structure Cx where
 prog:fb
 w:World
 K:ad
 mg:Str->Option fM
 base:Heap
 A:fc
 N:List Str
 s₀:fN
 H₀:Hp
 env:Env
 outer:List Env
 stack:List Env
 ex:List fO
 fn:Str->Bool
 calm:Bool
 pn:List (fO×Obj)
 xe:fM->fN->Prop
noncomputable def frs(l:List Env):List fO:=l.filterMap (·.frame)
noncomputable abbrev Cx.fs(X:Cx):List fO:=frs X.outer
def Vis(sc:Scope)(x:Str):Prop:=sc.names.lookup x=Z .local\/sc.names.lookup x=Z .cell\/sc.names.lookup x=Z .free
def Loc(sc:Scope)(x:Str):Prop:=sc.names.lookup x=Z .local\/sc.names.lookup x=Z .cell
noncomputable def de4(env:Env)(h:Heap)(m:Str->Option fM)(x:Str)(u:fM):Prop :=
 (env.kindOf x=Z .local/\m x=Z u)\/((env.kindOf x=Z .cell\/env.kindOf x=Z .free)/\∃c,env.cells.lookup x=Z c/\h.IsCell c (Z u))
structure Cx.Ok (X:Cx):Prop where
 mod:Mod X.K X.mg X.base
 kind:X.env.scope.kind=.function
 glob:X.env.globals=eY
 blt:X.env.builtins=builtinsNs
 above:X.s₀.heap.objs.size<=X.env.locals
 inj:∀x y c,X.env.cells.lookup x=Z c->X.env.cells.lookup y=Z c->x=y
 has:∀x,(X.env.kindOf x=Z .cell\/X.env.kindOf x=Z .free)->∃c,X.env.cells.lookup x=Z c
 cab:∀x c,X.fn x=true->X.env.cells.lookup x=Z c->X.s₀.heap.objs.size<=c
 hd:X.calm=true->X.A.handled=O
 frames:X.A.frames=Z X.stack
 stk:X.stack=X.outer\/(X.stack=X.env::X.outer/\X.env.frame=Z X.env.locals)
 exf:∀b∈X.ex,b≠X.env.locals/\∀x c,X.env.cells.lookup x=Z c->c≠b
 bs:∀b o,X.base.get? b=Z o->X.s₀.heap.get? b=Z o/\X.H₀ b=O
 bsz:X.base.objs.size<=X.s₀.heap.objs.size
 noex:∀b o,X.base.get? b=Z o->b∉X.ex
 exfs:∀b∈X.ex,b∉X.fs
 funs:X.s₀.heap.FunFrames X.base X.outer
 frf:∀b∈X.fs,X.H₀ b=O
structure Inv (X:Cx) (pins:List (fO×Obj)) (σ:List (Option V)) (H:Hp) (s:fN):Prop where
 ok:X.Ok
 os:s.os=X.s₀.os
 bare:AllBare s.gens
 base:Un X.fs X.ex X.H₀ H X.s₀.heap s.heap
 loc:∃m,s.heap.Ns X.env.locals m/\∀(i:Nat) (x:Str) (v:V),X.N[i]? = Z x->σ[i]? = Z (Z v)->Vis X.env.scope x->∃u,D9 v u/\de4 X.env s.heap m x u
 cell:∀x c,X.env.cells.lookup x=Z c->∃v,s.heap.IsCell c v
 free:H X.env.locals=O
 freeC:∀x c,X.env.cells.lookup x=Z c->H c=O
 pin:∀p∈X.pn++pins,s.heap.get? p.1=Z p.2/\H p.1=O/\p.1≠X.env.locals/\p.1∉X.fs/\∀v,p.2.data≠.cell v
 hok:HOk X.prog X.w H s.heap
 len:σ.length=X.N.length
section
variable {X:Cx}{pins:List (Addr×Obj)}{σ:List (Option V)}{H H':Hp}{s:Shared}{h':Heap}
def Cx.Ok.nofr(ok:X.Ok)(e:X.base.get? b=Z o):b∉X.fs:=λhb=>by
 have:=(ok.funs.mem hb).1;rw[e]at this;cases this
theorem Inv.bs(I:Inv X pins σ H s):∀b o,X.base.get? b=Z o->s.heap.get? b=Z o/\H b=O:=λb o e =>⟨I.base.keep b o (I.ok.bs b o e).1 (I.ok.bs b o e).2 (I.ok.nofr e)<|I.ok.noex b o e,I.base.free b o (I.ok.bs b o e).1 (I.ok.bs b o e).2<|I.ok.noex b o e⟩
def Inv.bk(I:Inv X pins σ H s):∀b o,X.base.get? b=Z o->s.heap.get? b=Z o:=λb o e=>(I.bs b o e).1
theorem Inv.mod(I:Inv X pins σ H s):Mod X.K X.mg X.base:=I.ok.mod
def Inv.kIn(I:Inv X pins σ H s):X.K.In s.heap:=I.ok.mod.kin.keeps I.bk
theorem Inv.lt(I:Inv X pins σ H s):X.env.locals < s.heap.objs.size:=let⟨_,hn,_⟩:=I.loc;hn.lt
def Inv.sz(I:Inv X pins σ H s):X.s₀.heap.objs.size<=s.heap.objs.size:=aO I.ok.above<|bT I.lt
def Inv.nofs(I:Inv X pins σ H s)(h:s.heap.objs.size<=a):a∉X.fs:=λhb=>by
 obtain⟨_,o,ho,_⟩:=I.ok.funs.mem hb;exact absurd (aH (fA ho)<|aO I.sz h)<|bt _
def Inv.cne(I:Inv X pins σ H s):∀x c,X.env.cells.lookup x=Z c->c≠X.env.locals:=λx c e z=>by
 obtain⟨v,o,ho,hd⟩:=I.cell x c e;obtain⟨m,⟨o',es,ep,ho',hd',_⟩,_⟩:=I.loc;rw[z,ho']at ho;cases ho;rw[hd']at hd;cases hd
theorem Inv.funs(I:Inv X pins σ H s):s.heap.FunFrames X.base X.outer:=by
 have all:∀(l:List Env),(∀b∈frs l,b∈X.fs)->X.s₀.heap.FunFrames X.base l->s.heap.FunFrames X.base l:=by
  intro l
  induction l with
  | nil=>intro _ _;trivial
  | cons env r ih =>
   intro hs hl;obtain⟨hk,⟨L,o,hf,hn,ho,hd⟩,hr⟩:=hl;have hL:L∈X.fs:=hs L (by unfold frs;rw[bU,hf];exact ah);obtain⟨sl,e⟩:=I.base.slot L o ho (I.ok.frf L hL) hL λz=>I.ok.exfs L z hL
   exact⟨hk,⟨L,_,hf,hn,e,hd⟩,ih (λb hb=>hs b (by unfold frs;rw[bU,hf];exact xmm _ hb)) hr⟩
 exact all X.outer (λ_ hb=>hb) I.ok.funs
theorem Inv.stack(I:Inv X pins σ H s):s.heap.FunFrames X.base X.stack:=by
 rcases I.ok.stk with e|⟨e,hf⟩
 .rw[e];exact I.funs
 .rw[e];obtain⟨m,hn,_⟩:=I.loc;refine .cons (by rw[I.ok.kind];decide) hf hn ?_ I.funs;exact Heap.get?_none_of_le<|aO I.ok.bsz I.ok.above
def Inv.stkSub(I:Inv X pins σ H s):∀b∈frs X.stack,b∈X.env.locals::X.fs:=λb hb=>by
 rcases I.ok.stk with e|⟨e,hf⟩
 .rw[e]at hb;exact xmm _ hb
 .rw[e]at hb;unfold frs at hb;rw[bU,hf]at hb;exact hb
def Inv.stkFree(I:Inv X pins σ H s):∀b∈frs X.stack,H b=O:=λb hb=>by
 rcases ao.mp (I.stkSub b hb) with e|hb
 .rw[e];exact I.free
 .obtain⟨_,o,ho,_⟩:=I.ok.funs.mem hb;exact I.base.free b o ho (I.ok.frf b hb) λz=>I.ok.exfs b z hb
def Inv.step{g':Array GenState}{t':Nat}{d':Drawn}{ch:List fO}(I:Inv X pins σ H s)
  (hch:∀b∈ch,(b∈X.ex\/X.s₀.heap.objs.size<=b)/\b≠X.env.locals/\(∀x c,X.env.cells.lookup x=Z c->c≠b)/\∀p∈X.pn++pins,p.1≠b)
  (keep:∀b o,b≠X.env.locals->b∉X.fs->b∉ch->s.heap.get? b=Z o->H b=O->h'.get? b=Z o)
  (slot:∀b o,b≠X.env.locals->b∈X.fs->b∉ch->s.heap.get? b=Z o->H b=O->∃sl,h'.get? b=Z { o with slots:=sl }) (free:∀b o,b∉ch->s.heap.get? b=Z o->H b=O->H' b=O)
  (there:∀b o,b∉ch->s.heap.get? b=Z o->∃o',h'.get? b=Z o')
  (tups:∀b xs,H b=Z (.tup xs)->H' b=Z (.tup xs)) (frzs:∀b o u,H b=Z (.frz o u)->H' b=Z (.frz o u)) (tbls:∀b ps,H b=Z (.tbl ps)->∃more,H' b=Z (.tbl<|ps++more))
  (ns:∀m,s.heap.Ns X.env.locals m->h'.Ns X.env.locals m) (hok:HOk X.prog X.w H' h') (hg:AllBare g') :
  Inv X pins σ H' { s with heap:=h',gens:=g',drawn:=d',toks:=t' }:=by
 have neL:∀b o,X.s₀.heap.get? b=Z o->b≠X.env.locals:=λb o e=>aC<|aH (fA e) I.ok.above
 have neC:∀b o,X.s₀.heap.get? b=Z o->b∉X.ex->b∉ch:=λb o e hx hb=>by
  rcases(hch b hb).1 with z|z
  .exact hx z
  .exact absurd (aH (fA e) z) (bt _)
 have cellK:∀x c,X.env.cells.lookup x=Z c->∀v,s.heap.IsCell c v->h'.IsCell c v:=λx c e v ⟨o,ho,hd⟩=>by
  have nch:c∉ch:=λz=>(hch c z).2.2.1 x c e rfl
  by_cases hc:c∈X.fs
  .obtain⟨sl,q⟩:=slot c o (I.cne x c e) hc nch ho (I.freeC x c e);exact⟨_,q,hd⟩
  .exact⟨o,keep c o (I.cne x c e) hc nch ho<|I.freeC x c e,hd⟩
 refine⟨I.ok,I.os,hg,⟨λb o e n hb hx=>?_,λb o e n hb hx=>?_,λb o e n hx=>?_,λb o e hx=>?_,λb xs e=>tups b xs<|I.base.tups b xs e,λb o xs e=>frzs b o xs<|I.base.frzs b o xs e,λb ps e=>?_⟩,?_,λx c e=>?_,?_,λx c e=>?_,λp hp=>?_,hok,I.len⟩
 .exact keep b o (neL b o e) hb (neC b o e hx) (I.base.keep b o e n hb hx) (I.base.free b o e n hx)
 .obtain⟨sl,e1⟩:=I.base.slot b o e n hb hx;obtain⟨sl',e2⟩:=slot b _ (neL b o e) hb (neC b o e hx) e1 (I.base.free b o e n hx);exact⟨sl',e2⟩
 .obtain⟨o',e1⟩:=I.base.there b o e hx;exact free b o' (neC b o e hx) e1<|I.base.free b o e n hx
 .obtain⟨o',e1⟩:=I.base.there b o e hx;exact there b o' (neC b o e hx) e1
 .obtain⟨m1,e1⟩:=I.base.tbls b ps e;obtain⟨m2,e2⟩:=tbls b _ e1;exact⟨m1++m2,by rw[e2,Array.append_assoc]⟩
 .obtain⟨m,hn,hl⟩:=I.loc;refine⟨m,ns m hn,λi x v e1 e2 e3=>?_⟩;obtain⟨u,r,l⟩:=hl i x v e1 e2 e3;refine⟨u,r,?_⟩;rcases l with l|⟨k,c,e,z⟩
  .exact .inl l
  .exact .inr ⟨k,c,e,cellK x c e _ z⟩
 .obtain⟨v,z⟩:=I.cell x c e;exact⟨v,cellK x c e v z⟩
 .obtain⟨m,⟨o,_,_,ho,_⟩,_⟩:=I.loc;exact free _ o (λz=>(hch _ z).2.1 rfl) ho I.free
 .obtain⟨v,o,ho,hd⟩:=I.cell x c e;exact free c o (λz=>(hch c z).2.2.1 x c e rfl) ho<|I.freeC x c e
 .obtain⟨e,n,ne,nf,d⟩:=I.pin p hp;have nch:p.1∉ch:=λz=>(hch p.1 z).2.2.2 p hp rfl
  exact⟨keep p.1 p.2 ne nf nch e n,free p.1 p.2 nch e n,ne,nf,d⟩
def Inv.un{t':Nat}(I:Inv X pins σ H s)(u:Un X.fs [] H H' s.heap h')(hok:HOk X.prog X.w H' h'):Inv X pins σ H' { s with heap:=h',toks:=t' }:=by
 obtain⟨m,⟨o,es,ep,ho,r⟩,_⟩:=id I.loc;obtain⟨sl,hL⟩:=u.any ho I.free (by simp)
 exact I.step (g':=s.gens) (d':=s.drawn) (ch:=[]) (λ_ z=>nomatch z) (λb o _ hb _ e n=>u.keep b o e n hb (by simp)) (λb o _ hb _ e n=>u.slot b o e n hb (by simp)) (λb o _ e n=>u.free b o e n (by simp)) (λb o _ e=>u.there b o e (by simp)) u.tups u.frzs u.tbls (λm' hm=>by
  obtain⟨o',es',ep',ho',r'⟩:=hm;rw[ho]at ho';cases ho'
  exact⟨_,es',ep',hL,r'⟩) hok I.bare
def Inv.call{g':Array GenState}{t':Nat}{d':Drawn}{ch:List fO}(I:Inv X pins σ H s)(u:Un (frs X.stack) ch H H' s.heap h')(hok:HOk X.prog X.w H' h')(hg:AllBare g')
  (hch:∀b∈ch,(b∈X.ex\/X.s₀.heap.objs.size<=b)/\b≠X.env.locals/\(∀x c,X.env.cells.lookup x=Z c->c≠b)/\∀p∈X.pn++pins,p.1≠b) :
  Inv X pins σ H' { s with heap:=h',gens:=g',drawn:=d',toks:=t' }:=by
 obtain⟨m,⟨o,es,ep,ho,r⟩,_⟩:=id I.loc;obtain⟨sl,hL⟩:=u.any ho I.free λz=>(hch _ z).2.1 rfl
 exact I.step (ch:=ch) hch (λb o hL hb hc e n=>u.keep b o e n (λz=>(ao.mp (I.stkSub b z)).elim hL hb) hc) (λb o _ _ hc e n=>u.any e n hc) (λb o hc e n=>u.free b o e n hc) (λb o hc e=>u.there b o e hc) u.tups u.frzs u.tbls (λm' hm=>by
  obtain⟨o',es',ep',ho',r'⟩:=hm;rw[ho]at ho';cases ho'
  exact⟨_,es',ep',hL,r'⟩) hok hg
def Inv.turned{t':Nat}{it:fO}(I:Inv X pins σ H s)(k:∀b o,b≠it->s.heap.get? b=Z o->h'.get? b=Z o)(hn:H it=O)(hL:it≠X.env.locals)
  (h1:it∈X.ex\/X.s₀.heap.objs.size<=it) (h2:∀x c,X.env.cells.lookup x=Z c->c≠it) (h3:∀p∈X.pn++pins,p.1≠it):Inv X pins σ H { s with heap:=h',toks:=t' }:=by
 have nit:∀b u,H b=Z u->b≠it:=λb u e z=>by rw[z,hn]at e;cases e
 refine I.step (g':=s.gens) (d':=s.drawn) (ch:=[it]) (λb hb=>?_) (λb o _ _ hc e _=>k b o (λz=>hc<|by simp[z]) e) (λb o _ _ hc e _=>⟨o.slots,k b o (λz=>hc<|by simp[z]) e⟩) (λ_ _ _ _ n=>n)
  (λb o hc e=>⟨o,k b o (λz=>hc<|by simp[z]) e⟩) (λ_ _ e=>e) (λ_ _ _ e=>e) (λb ps e=>⟨#[],by rw[e];simp⟩) (λm hm=>?_) (λb u e=>?_) I.bare
 .have e:b=it:=by simpa using hb
  subst e;exact⟨h1,hL,h2,h3⟩
 .obtain⟨o,es,ep,ho,r⟩:=hm;exact⟨o,es,ep,k _ o (Ne.symm hL) ho,r⟩
 .refine(I.hok b u e).stay (λc v hc q=>k c v ?_ q) (λ_ q=>q) λ_ _ q=>q
  rcases hc with z|z
  .rw[z];exact nit b u e
  .exact nit c _ z
def Inv.tok(I:Inv X pins σ H s)(t:Nat):Inv X pins σ H { s with toks:=t }:=I.un (h':=s.heap) (t':=t) Un.refl I.hok
theorem Inv.kept(I:Inv X pins σ H s)(k:∀b u,s.heap.get? b=Z u->h'.get? b=Z u):Inv X pins σ H { s with heap:=h',toks:=t' }:=I.un (Un.kept k)<|I.hok.kept k
theorem Inv.laid(I:Inv X pins σ H s)(k:∀b u,s.heap.get? b=Z u->h'.get? b=Z u)(hp:s.heap.objs.size<=a)(new:N8 X.prog X.w (upd H a o) h' a o):
  Inv X pins σ (upd H a o) { s with heap:=h',toks:=t' }:=I.un (Un.laid k hp<|I.hok.fresh hp)<|I.hok.laid k hp new
theorem Inv.write(I:Inv X pins σ H s)(mu:Mut (H x))(he:e=x\/H e=Z (.own x))(k:∀b u,b≠e->s.heap.get? b=Z u->h'.get? b=Z u)(heo:∃u,h'.get? e=Z u)
  (new:N8 X.prog X.w (upd H x o) h' x o):Inv X pins σ (upd H x o) { s with heap:=h',toks:=t' }:=I.un (Un.write mu he k heo)<|I.hok.write mu he k heo new
def Inv.pins_of(I:Inv X pins σ H s)(h:∀p∈pins',s.heap.get? p.1=Z p.2/\H p.1=O/\p.1≠X.env.locals/\p.1∉X.fs/\∀v,p.2.data≠.cell v):Inv X pins' σ H s :=
 ⟨I.ok,I.os,I.bare,I.base,I.loc,I.cell,I.free,I.freeC,λp hp=>(az.mp hp).elim (λz=>I.pin p<|ar _ z)<|h p,I.hok,I.len⟩
def ba0{N:List Str}(hN:N.Nodup){i j:Nat}{x:Str}(a:N[i]? = Z x)(b:N[j]? = Z x):i=j:=by
 obtain⟨h1,e1⟩:=ak.mp a;obtain⟨h2,e2⟩:=ak.mp b;exact(List.getElem_inj hN).mp (e1.trans e2.symm)
def aN3(I:Inv X pins σ H s)(hN:X.N.Nodup)(hi:X.N[i]? = Z x)(hx:Loc X.env.scope x)(r:D9 v u)
  (h:∀s',Inv X pins (σ.set i<|Z v) H s'->(∃a,Heap.SameBut a s.heap s'.heap/\(a=X.env.locals\/X.env.cells.lookup x=Z a))->Q () s') (hf:X.fn x=true\/X.env.scope.names.lookup x=Z .local:=by first|exact .inl rfl|exact .inr rfl|assumption):ft M A (storeName X.env x u) Q E s:=by
 obtain⟨m,hn,hl⟩:=id I.loc;have hcls:(X.env.scope.kind == .class || (X.env.scope.kind == .module&&X.env.locals != X.env.globals))=false:=by rw[I.ok.kind];rfl
 have hiσ:i < σ.length:=by rw[I.len];exact(ak.mp hi).1
 have cne:=I.cne
 have tracked:∀{a:fO}{h':Heap},(∃o,s.heap.get? a=Z o/\H a=O)->Heap.SameBut a s.heap h'->HOk X.prog X.w H h':=λ{a h'} ha hs b ob e=>by
  obtain⟨_,_,hfree⟩:=ha;refine(I.hok b ob e).stay (λc w' hc q=>(hs.2 c ?_).trans q) (λ_ q=>q) λ_ _ q=>q
  rintro rfl
  rcases hc with rfl|hc
  .rw[hfree]at e;cases e
  .rw[hfree]at hc;cases hc
 rcases hx with hk|hk
 .refine wpAny_storeName_local hk hn (λh' hn' hs=>?_) hcls;obtain⟨oL,_,_,hoL,_⟩:=id hn;refine h _ ⟨I.ok,I.os,I.bare,⟨λb o e n hb hx=>?_,λb o e n hb hx=>?_,I.base.free,λb o e hx=>?_,I.base.tups,I.base.frzs,I.base.tbls⟩,⟨_,hn',λj y v' e1 e2 e3=>?_⟩,λy c e=>?_,I.free,I.freeC,λp hp=>?_,tracked ⟨oL,hoL,I.free⟩ hs,by simpa using I.len⟩ ⟨_,hs,.inl rfl⟩
  .exact(hs.2 b<|aC (aH (fA e) I.ok.above)).trans (I.base.keep b o e n hb hx)
  .obtain⟨sl,e1⟩:=I.base.slot b o e n hb hx;exact⟨sl,(hs.2 b<|aC (aH (fA e) I.ok.above)).trans e1⟩
  .obtain⟨o',e1⟩:=I.base.there b o e hx;exact⟨o',(hs.2 b<|aC (aH (fA e) I.ok.above)).trans e1⟩
  .by_cases hj:j=i
   .subst hj;rw[hi]at e1;cases e1;rw[aI hiσ]at e2;cases e2;exact⟨u,r,.inl ⟨hk,by simp⟩⟩
   .rw[aG (Ne.symm hj)]at e2;obtain⟨u',r',q⟩:=hl j y v' e1 e2 e3;refine⟨u',r',?_⟩;rcases q with⟨k,e⟩|⟨k,c,e,z⟩
    .refine .inl ⟨k,?_⟩;have:y≠x:=λe=>hj (ba0 hN e1<|e ▸ hi)
     simp[this,e]
    .exact .inr ⟨k,c,e,z.sameBut hs<|cne y c e⟩
  .obtain⟨w',z⟩:=I.cell y c e;exact⟨w',z.sameBut hs<|cne y c e⟩
  .obtain⟨e,n,ne,nf,d⟩:=I.pin p hp;exact⟨(hs.2 p.1 ne).trans e,n,ne,nf,d⟩
 .have hfn:X.fn x=true:=by
   rcases hf with z|z
   .exact z
   .rw[z]at hk;cases hk
  obtain⟨c,hc⟩:=I.ok.has x (.inl hk);obtain⟨w',z⟩:=I.cell x c hc;refine wpAny_storeName_cell I.ok.kind hk hc z (λh' hc' hs=>?_);obtain⟨oc,hoc,hocd⟩:=id z;refine h { s with heap:=h' } ⟨I.ok,I.os,I.bare,⟨λb o e n hb hx=>?_,λb o e n hb hx=>?_,I.base.free,λb o e hx=>?_,I.base.tups,I.base.frzs,I.base.tbls⟩,⟨m,hn.sameBut hs<|Ne.symm (cne x c hc),λj y v' e1 e2 e3=>?_⟩,λy c' e=>?_,I.free,I.freeC,λp hp=>?_,tracked ⟨oc,hoc,I.freeC x c hc⟩ hs,by simpa using I.len⟩ ⟨c,hs,.inr hc⟩
  .exact(hs.2 b<|aC (aH (fA e)<|I.ok.cab x c hfn hc)).trans (I.base.keep b o e n hb hx)
  .obtain⟨sl,e1⟩:=I.base.slot b o e n hb hx;exact⟨sl,(hs.2 b<|aC (aH (fA e)<|I.ok.cab x c hfn hc)).trans e1⟩
  .obtain⟨o',e1⟩:=I.base.there b o e hx;exact⟨o',(hs.2 b<|aC (aH (fA e)<|I.ok.cab x c hfn hc)).trans e1⟩
  .by_cases hj:j=i
   .subst hj;rw[hi]at e1;cases e1;rw[aI hiσ]at e2;cases e2;exact⟨u,r,.inr ⟨.inl hk,c,hc,hc'⟩⟩
   .rw[aG (Ne.symm hj)]at e2;obtain⟨u',r',q⟩:=hl j y v' e1 e2 e3;refine⟨u',r',?_⟩;rcases q with q|⟨k,c',e,z'⟩
    .exact .inl q
    .refine .inr ⟨k,c',e,z'.sameBut hs ?_⟩
     rintro rfl
     exact hj<|ba0 hN e1 (I.ok.inj _ _ _ e hc ▸ hi)
  .by_cases hcc:c'=c
   .subst hcc;exact⟨_,hc'⟩
   .obtain⟨w2,z2⟩:=I.cell y c' e;exact⟨w2,z2.sameBut hs hcc⟩
  .obtain⟨e,n,ne,nf,d⟩:=I.pin p hp;refine⟨(hs.2 p.1 ?_).trans e,n,ne,nf,d⟩;intro q;rw[q,hoc]at e;have q':oc=p.2:=bf.inj e;exact d w' (by rw[← q'];exact hocd)
def ae5(I:Inv X pins σ H s)(hN:X.N.Nodup)(hi:X.N[i]? = Z x)(hx:Loc X.env.scope x)(r:D9 v u)
  (h:∀s',Inv X pins (σ.set i<|Z v) H s'->Q () s') (hf:X.fn x=true\/X.env.scope.names.lookup x=Z .local:=by first|exact .inl rfl|exact .inr rfl|assumption):ft M A (storeName X.env x u) Q E s :=
 aN3 I hN hi hx r (λs' I' _=>h s' I') hf
def Inv.call'(I:Inv X pins σ H s)(ho:s'.os=s.os)(u:Un (frs X.stack) ch H H' s.heap s'.heap)(hok:HOk X.prog X.w H' s'.heap)(hg:AllBare s'.gens)
  (hch:∀b∈ch,(b∈X.ex\/X.s₀.heap.objs.size<=b)/\b≠X.env.locals/\(∀x c,X.env.cells.lookup x=Z c->c≠b)/\∀p∈X.pn++pins,p.1≠b):Inv X pins σ H' s':=by
 obtain⟨h',g',d',t',o'⟩:=s';have e:o'=s.os:=ho;subst e;exact I.call (g':=g') (t':=t') (d':=d') u hok hg hch
end
noncomputable abbrev XK:=fM->Option fO->Hp->Prop
noncomputable abbrev St:=List<|Option V
noncomputable abbrev VK:=V->Hp->Prop
noncomputable abbrev TE:=St->Hp->VK->Prop
noncomputable abbrev TT:=St->Hp->(Bool->Hp->Prop)->Prop
noncomputable abbrev TA:=St->Hp->(List V->Hp->Prop)->Prop
structure Ends where
 nx:St->Hp->Prop
 rt:VK
 bk:St->Hp->Prop:=λ_ _=>False
 ct:St->Hp->Prop:=λ_ _=>False
noncomputable abbrev TS:=Ends->St->Hp->Prop
def EP(X:Cx)(pins:List (fO×Obj))(σ:St)(Q:VK)(u:fM)(s':fN):Prop:=∃v H',Inv X pins σ H' s'/\D9 v u/\Q v H'
def TP(X:Cx)(pins:List (fO×Obj))(σ:St)(Q:Bool->Hp->Prop)(b:Bool)(s':fN):Prop:=∃H',Inv X pins σ H' s'/\Q b H'
def AP(X:Cx)(pins:List (fO×Obj))(σ:St)(Q:List V->Hp->Prop)(us:List fM)(s':fN):Prop:=∃vs H',Inv X pins σ H' s'/\E1 vs us/\Q vs H'
noncomputable def SP(X:Cx)(pins:List (fO×Obj))(D:Ends)(f:Flow)(s':fN):Prop :=
 match f with
 | .next=>∃σ' H',Inv X pins σ' H' s'/\D.nx σ' H'
 | .brk=>∃σ' H',Inv X pins σ' H' s'/\D.bk σ' H'
 | .cont=>∃σ' H',Inv X pins σ' H' s'/\D.ct σ' H'
 | .ret u=>∃v σ' H',Inv X pins σ' H' s'/\D9 v u/\D.rt v H'
def PE(X:Cx)(e:Expr)(t:TE):Prop :=
 ∀(pins:List (fO×Obj)) (s:fN) (σ:St) (H:Hp) (Q:VK),Inv X pins σ H s->t σ H Q->ft (fu X.prog X.w) X.A (eval e X.env) (EP X pins σ Q) X.xe s
noncomputable def PT(X:Cx)(e:Expr)(t:TT):Prop :=
 ∀(pins:List (fO×Obj)) (s:fN) (σ:St) (H:Hp) (Q:Bool->Hp->Prop),Inv X pins σ H s->t σ H Q->ft (fu X.prog X.w) X.A (isTrue e X.env<|eval e X.env) (TP X pins σ Q) X.xe s
noncomputable def PW(X:Cx)(e:Expr)(t:TT):Prop :=
 ∀(whole:Sem fM) (pins:List (fO×Obj)) (s:fN) (σ:St) (H:Hp) (Q:Bool->Hp->Prop),Inv X pins σ H s->t σ H Q->ft (fu X.prog X.w) X.A (isTrue e X.env whole) (TP X pins σ Q) X.xe s
def PW.pt(h:PW X e t):PT X e t:=h _
noncomputable def PA(X:Cx)(es:List Expr)(t:TA):Prop :=
 ∀(pos:Pos) (pins:List (fO×Obj)) (s:fN) (σ:St) (H:Hp) (Q:List V->Hp->Prop),Inv X pins σ H s->t σ H Q->ft (fu X.prog X.w) X.A (spliced<|backTo pos (eT es X.env)) (AP X pins σ Q) X.xe s
noncomputable def PS(X:Cx)(st:Stmt)(t:TS):Prop :=
 ∀(pins:List (fO×Obj)) (s:fN) (σ:St) (H:Hp) (D:Ends),Inv X pins σ H s->t D σ H->ft (fu X.prog X.w) X.A (exec st X.env) (SP X pins D) X.xe s
noncomputable def PSs(X:Cx)(st:List Stmt)(t:TS):Prop :=
 ∀(pins:List (fO×Obj)) (s:fN) (σ:St) (H:Hp) (D:Ends),Inv X pins σ H s->t D σ H->ft (fu X.prog X.w) X.A (execs st X.env) (SP X pins D) X.xe s
def thn{α:Type}{t:Sem α}{Q Q':α->fN->Prop}{M:Model}{A:fc}{E:fM->fN->Prop}{s:fN}(h:ft M A t Q E s)(hQ:∀a s,Q a s->Q' a s):ft M A t Q' E s:=eO h hQ λ_ _ x=>x
section
variable {X:Cx}
def bin{a b:Expr}{ta tb:TE}(ha:PE X a ta)(hb:PE X b tb){pins:List (fO×Obj)}{s:fN}{σ:St}{H:Hp}{R:V->V->Hp->Prop}(I:Inv X pins σ H s)(h:ta σ H λx H1=>tb σ H1 λy H2=>R x y H2)
  {α:Type}{Q:α->fN->Prop}{f:fM->fM->Sem α}
  (hf:∀v u s2 x y H2,Inv X pins σ H2 s2->D9 x v->D9 y u->R x y H2->ft (fu X.prog X.w) X.A (f v u) Q X.xe s2) :
  ft (fu X.prog X.w) X.A (eval a X.env) (λv s₁=>ft (fu X.prog X.w) X.A (eval b X.env) (λu s₂=>ft (fu X.prog X.w) X.A (f v u) Q X.xe s₂) X.xe s₁) X.xe s:=by
 refine thn (ha pins s σ H _ I h) λv s1 ⟨x,H1,I1,r1,q1⟩=>?_
 refine thn (hb pins s1 σ H1 _ I1 q1) λu s2 ⟨y,H2,I2,r2,q2⟩=>?_
 exact hf v u s2 x y H2 I2 r1 r2 q2
noncomputable def cP5(i:Nat):TE:=λσ H Q=>∃v,σ[i]? = Z (Z v)/\Q v H
noncomputable def tC(v:V):TE:=λ_ H Q=>Q v H
def ac0(hN:X.N[i]? = Z x)(hv:Vis X.env.scope x)(hd:(x==("__debug__" : Str))=false:=by decide)(hcd:(x==("__classdict__" : Str))=false:=by decide):PE X (.Name x pos) (cP5 i):=by
 intro pins s σ H Q I h;obtain⟨v,e,h⟩:=h;obtain⟨m,hn,hl⟩:=I.loc;obtain⟨u,r,l⟩:=hl i x v hN e hv;have fin:EP X pins σ Q u s:=⟨v,H,I,r,h⟩;rcases l with⟨hk,hm⟩|⟨hk,c,hc,hcell⟩
 .exact wpAny_Name (wpAny_loadName_local I.ok.kind hk hn hm fin) hd
 .rcases hk with hk|hk
  .exact wpAny_Name (wpAny_loadName_cell I.ok.kind hk hc hcell fin) hd
  .exact wpAny_Name (wpAny_loadName_free I.ok.kind hk hc hcell fin hcd) hd
def bK6{i j pos}:PE X (.Constant (.int i) j pos) (tC<|.int i):=λ_ _ _ H _ I h=>wpAny_Constant_int ⟨.int i,H,I.tok _,⟨_,rfl⟩,h⟩
def cS0{b j pos}:PE X (.Constant (.bool b) j pos) (tC<|.bl b):=λ_ _ _ H _ I h=>Constant_bool ⟨.bl b,H,I,rfl,h⟩
def cA0{j pos}:PE X (.Constant .none j pos) (tC .non):=λ_ _ _ H _ I h=>Constant_none ⟨.non,H,I,rfl,h⟩
def bK4{x j pos}:PE X (.Constant (.str x) j pos) (tC<|.str x):=λ_ _ _ H _ I h=>Calls.Constant_str ⟨.str x,H,I.tok _,⟨_,rfl⟩,h⟩
def Gl(X:Cx)(x:Str):Prop:=X.env.kindOf x=Z .globalImplicit
def r8(I:Inv X pins σ H s)(hg:Gl X x)(hm:X.mg x=Z u)(h:Q u s)
  (hd:(x==("__debug__" : Str))=false:=by decide):ft (fu X.prog X.w) X.A (eval (.Name x pos) X.env) Q E s :=
 Calls.Name_function_global I.ok.kind hg (Calls.loadGlobal_global (by rw[I.ok.glob];exact I.mod.glob.keeps I.bk) hm h) hd
def aH3(I:Inv X pins σ H s)(hg:Gl X x)(hm:X.mg x=O)(hv:ff x=Z u)(h:Q u s)
  (hn:x ≠ "__name__" := by decide) (hd:(x==("__debug__" : Str))=false:=by decide):ft (fu X.prog X.w) X.A (eval (.Name x pos) X.env) Q E s:=by
 obtain⟨mb,h1,h2⟩:=I.mod.blt;exact Calls.Name_function_global I.ok.kind hg (Calls.loadGlobal_builtin (by rw[I.ok.glob];exact I.mod.glob.keeps I.bk) hm (by rw[I.ok.blt];exact h1.keeps I.bk) ((h2 x hn).trans hv) h) hd
def cd7(hg:Gl X x)(hm:X.mg x=Z u)(r:D9 v u)(hd:(x==("__debug__" : Str))=false:=by decide):PE X (.Name x pos) (tC v) :=
 λ_ _ _ H _ I h=>r8 I hg hm ⟨v,H,I,r,h⟩ hd
def bq3(hg:Gl X x)(hm:X.mg x=O)(hv:ff x=Z u)(r:D9 v u)(hn:x ≠ "__name__" := by decide)(hd:(x==("__debug__" : Str))=false:=by decide):PE X (.Name x pos) (tC v) :=
 λ_ _ _ H _ I h=>aH3 I hg hm hv ⟨v,H,I,r,h⟩ hn hd
variable {a b:Expr}{ta tb:TE}{pos:Pos}
variable {tA tB':TT}{G9:List Expr}
noncomputable def db1(t u:TT):TT:=λσ H Q=>t σ H λc H1=>if c=true then u σ H1 Q else Q false H1
noncomputable def tOr(t u:TT):TT:=λσ H Q=>t σ H λc H1=>if c=true then Q true H1 else u σ H1 Q
noncomputable def da7(t:TT):TT:=λσ H Q=>t σ H λc H1=>Q (!c) H1
def cc4(ha:PT X a tA):PW X (.BoolOp .And [a] pos) tA:=by
 intro wh pins s σ H Q I h;refine isTrue_and (thn (ha pins s σ H Q I h) λc s1 e=>?_);cases c with
 | true=>exact isTrue_and_nil e
 | false=>exact e
def cy5(ha:PT X a tA):PW X (.BoolOp .Or [a] pos) tA:=by
 intro wh pins s σ H Q I h;refine isTrue_or (thn (ha pins s σ H Q I h) λc s1 e=>?_);cases c with
 | false=>exact isTrue_or_nil e
 | true=>exact e
def bJ1(ha:PT X a tA)(hb:PW X (.BoolOp .And (b::G9) pos) tB'):PW X (.BoolOp .And (a::b::G9) pos) (db1 tA tB'):=by
 intro wh pins s σ H Q I h;refine isTrue_and (thn (ha pins s σ H _ I h) λc s1 ⟨H1,I1,q1⟩=>?_);cases c with
 | true=>exact hb wh pins s1 σ H1 Q I1 q1
 | false=>exact⟨H1,I1,q1⟩
def cp1(ha:PT X a tA)(hb:PW X (.BoolOp .Or (b::G9) pos) tB'):PW X (.BoolOp .Or (a::b::G9) pos) (tOr tA tB'):=by
 intro wh pins s σ H Q I h;refine isTrue_or (thn (ha pins s σ H _ I h) λc s1 ⟨H1,I1,q1⟩=>?_);cases c with
 | true=>exact⟨H1,I1,q1⟩
 | false=>exact hb wh pins s1 σ H1 Q I1 q1
def cy7(ha:PT X a tA):PT X (.UnaryOp .Not a pos) (da7 tA):=by
 intro pins s σ H Q I h;exact isTrue_not<|ha pins s σ H (λc H1=>Q (!c) H1) I h
noncomputable def cQ5(ta tb:TE):TE:=λσ H Q=>ta σ H λx H1=>∃c,x=.bl c/\if c=true then tb σ H1 Q else Q (.bl false) H1
noncomputable def da6(ta tb:TE):TE:=λσ H Q=>ta σ H λx H1=>∃c,x=.bl c/\if c=true then Q (.bl true) H1 else tb σ H1 Q
noncomputable def cP7(ta:TE):TE:=λσ H Q=>ta σ H λx H1=>∃c,x=.bl c/\Q (.bl (!c)) H1
def cz8{op}(h:PE X a t):PE X (.BoolOp op [a] pos) t:=λpins s σ H Q I hw=>BoolOp_one<|h pins s σ H Q I hw
def bK9(ha:PE X a ta)(hb:PE X (.BoolOp .And (b::G9) pos) tb):PE X (.BoolOp .And (a::b::G9) pos) (cQ5 ta tb):=by
 intro pins s σ H Q I h;refine BoolOp_and (thn (ha pins s σ H _ I h) λv s1 ⟨x,H1,I1,r1,q1⟩=>?_);obtain⟨c,rfl,q1⟩:=q1;cases r1;refine eR ?_;cases c with
 | true=>exact hb pins s1 σ H1 Q I1 q1
 | false=>exact⟨.bl false,H1,I1,rfl,q1⟩
def cp4(ha:PE X a ta)(hb:PE X (.BoolOp .Or (b::G9) pos) tb):PE X (.BoolOp .Or (a::b::G9) pos) (da6 ta tb):=by
 intro pins s σ H Q I h;refine BoolOp_or (thn (ha pins s σ H _ I h) λv s1 ⟨x,H1,I1,r1,q1⟩=>?_);obtain⟨c,rfl,q1⟩:=q1;cases r1;refine eR ?_;cases c with
 | false=>exact hb pins s1 σ H1 Q I1 q1
 | true=>exact⟨.bl true,H1,I1,rfl,q1⟩
def cz9(ha:PE X a ta):PE X (.UnaryOp .Not a pos) (cP7 ta):=by
 intro pins s σ H Q I h;refine UnaryOp_ (thn (ha pins s σ H _ I h) λv s1 ⟨x,H1,I1,r1,q1⟩=>?_);obtain⟨c,rfl,q1⟩:=q1;cases r1;exact not_of<|eR ⟨.bl (!c),H1,I1,rfl,q1⟩
noncomputable def tIf(t:TT)(ta tb:TE):TE:=λσ H Q=>t σ H λc H1=>if c=true then ta σ H1 Q else tb σ H1 Q
def aZ6(hc:PT X c tA)(ha:PE X a ta)(hb:PE X b tb):PE X (.IfExp c a b pos) (tIf tA ta tb):=by
 intro pins s σ H Q I h;refine wpAny_IfExp (thn (hc pins s σ H _ I h) λd s1 ⟨H1,I1,q1⟩=>?_);cases d with
 | true=>exact ha pins s1 σ H1 Q I1 q1
 | false=>exact hb pins s1 σ H1 Q I1 q1
end
noncomputable def SqL(K:ad)(H:Hp)(a:fO)(xs:List V):Prop :=
 Rd H a (.lst xs) \/
  ∃(o:Obj) (its:Array fM) (n:Nat),K.lookup a=Z o/\o.cls=.type "list" /\ o.dict=O/\o.data=.seq its n/\its.size<=eU/\E1 xs its.toList
noncomputable def SqT(K:ad)(H:Hp)(a:fO)(xs:List V):Prop :=
 Rd H a (.tup xs) \/
  ∃(o:Obj) (its:Array fM) (n:Nat),K.lookup a=Z o/\o.cls=.type "tuple" /\ o.dict=O/\o.data=.seq its n/\its.size<=eU/\E1 xs its.toList
noncomputable def de2:fM->Option V
 | .none=>Z .non
 | .bool b=>Z<|.bl b
 | .int i _=>Z<|.int i
 | .str x _=>Z<|.str x
 | .bytes b _=>Z<|.byt b
 | .float b _=>Z<|.flt b
 | .ref a=>Z<|.ref a
 | .type n=>Z<|.ty n
 | _=>O
def D9.abs(r:D9 x u):de2 u=Z x:=by
 cases x with
 | non=>cases r;rfl
 | bl _=>cases r;rfl
 | int _=>obtain⟨t,rfl⟩:=r;rfl
 | str _=>obtain⟨t,rfl⟩:=r;rfl
 | byt _=>obtain⟨t,rfl⟩:=r;rfl
 | flt _=>obtain⟨t,rfl⟩:=r;rfl
 | ref _=>cases r;rfl
 | ty _=>cases r;rfl
theorem D9.inj(r:D9 x u)(q:D9 y u):x=y:=bf.inj<|r.abs.symm.trans q.abs
theorem E1.inj:∀{xs ys:List V}{us:List fM},E1 xs us->E1 ys us->xs=ys
 | _,_,_,.nil,.nil=>rfl
 | _,_,_,.cons r t,.cons r' t'=>by rw[r.inj r',E1.inj t t']
section
variable {X:Cx}{pins:List (Addr×Obj)}{σ:St}{H:Hp}{s:Shared}{a:Addr}{xs ys:List V}
def SqL.of{K:ad}(h:H a=Z (.lst xs)):SqL K H a xs:=.inl<|.inl h
def SqT.of{K:ad}(h:H a=Z (.tup xs)):SqT K H a xs:=.inl<|.inl h
def Inv.list(I:Inv X pins σ H s)(h:SqL X.K H a xs):∃its:List fM,E1 xs its/\PlainL s.heap a its.toArray/\xs.length<=eU:=by
 rcases h with h|⟨o,its,n,hk,hc,hd,hs,hz,r⟩
 .obtain⟨z,its,n,r,e⟩:=h.ok I.hok;exact⟨its,r,⟨_,n,e,rfl,rfl,rfl⟩,z⟩
 .refine⟨its.toList,r,⟨o,n,I.kIn a o hk,hc,hd,by simpa using hs⟩,?_⟩;have e:=r.length;simp only[aV]at e;omega
def Inv.tupN(I:Inv X pins σ H s)(h:SqT X.K H a xs):∃its:List fM,E1 xs its/\aJ4 s.heap a its.toArray/\xs.length<=eU:=by
 rcases h with h|⟨o,its,n,hk,hc,hd,hs,hz,r⟩
 .obtain⟨z,its,r,p⟩:=h.ok I.hok;exact⟨its,r,p,z⟩
 .refine⟨its.toList,r,⟨o,I.kIn a o hk,hc,⟨n,by simpa using hs⟩,hd⟩,?_⟩;have e:=r.length;simp only[aV]at e;omega
def Inv.tuple(I:Inv X pins σ H s)(h:SqT X.K H a xs):∃its:List fM,E1 xs its/\IsTup s.heap a its.toArray/\xs.length<=eU :=
 let⟨its,r,p,z⟩:=I.tupN h;⟨its,r,p.tup,z⟩
def Inv.list_inj(I:Inv X pins σ H s)(h:SqL X.K H a xs)(h':SqL X.K H a ys):xs=ys:=by
 obtain⟨its,r,⟨o,n,e,_,_,d⟩,_⟩:=I.list h;obtain⟨its',r',⟨o',n',e',_,_,d'⟩,_⟩:=I.list h';rw[e]at e';cases e';rw[d]at d';injection d' with d1 _
 have:its=its':=by simpa using congrArg Array.toList d1
 subst this;exact r.inj r'
def Inv.tuple_inj(I:Inv X pins σ H s)(h:SqT X.K H a xs)(h':SqT X.K H a ys):xs=ys:=by
 obtain⟨its,r,⟨o,e,_,n,d⟩,_⟩:=I.tuple h;obtain⟨its',r',⟨o',e',_,n',d'⟩,_⟩:=I.tuple h';rw[e]at e';cases e';rw[d]at d';injection d' with d1 _
 have:its=its':=by simpa using congrArg Array.toList d1
 subst this;exact r.inj r'
end
noncomputable abbrev Cx.wish(X:Cx)(E:fM->fN->Prop):Cx:={ X with xe:=E }
noncomputable abbrev Cx.nox(X:Cx):Cx:=X.wish λ_ _=>False
theorem Cx.Ok.wish{X:Cx}(ok:X.Ok)(E:fM->fN->Prop):(X.wish E).Ok :=
 ⟨ok.mod,ok.kind,ok.glob,ok.blt,ok.above,ok.inj,ok.has,ok.cab,ok.hd,ok.frames,ok.stk,ok.exf,ok.bs,ok.bsz,ok.noex,ok.exfs,ok.funs,ok.frf⟩
def Cx.Ok.unwish{X:Cx}{E:fM->fN->Prop}(ok:(X.wish E).Ok):X.Ok :=
 ⟨ok.mod,ok.kind,ok.glob,ok.blt,ok.above,ok.inj,ok.has,ok.cab,ok.hd,ok.frames,ok.stk,ok.exf,ok.bs,ok.bsz,ok.noex,ok.exfs,ok.funs,ok.frf⟩
section
variable {X:Cx}{pins:List (Addr×Obj)}{σ:St}{H:Hp}{s:Shared}{E:Value->Shared->Prop}
theorem Inv.wish(I:Inv X pins σ H s)(E:fM->fN->Prop):Inv (X.wish E) pins σ H s:=⟨I.ok.wish E,I.os,I.bare,I.base,I.loc,I.cell,I.free,I.freeC,I.pin,I.hok,I.len⟩
theorem Inv.unwish(I:Inv (X.wish E) pins σ H s):Inv X pins σ H s:=⟨I.ok.unwish,I.os,I.bare,I.base,I.loc,I.cell,I.free,I.freeC,I.pin,I.hok,I.len⟩
theorem SP.unwish(h:SP (X.wish E) pins D f s'):SP X pins D f s':=by
 cases f with
 | next=>obtain⟨σ',H',I,q⟩:=h;exact⟨σ',H',I.unwish,q⟩
 | brk=>obtain⟨σ',H',I,q⟩:=h;exact⟨σ',H',I.unwish,q⟩
 | cont=>obtain⟨σ',H',I,q⟩:=h;exact⟨σ',H',I.unwish,q⟩
 | ret u=>obtain⟨v,σ',H',I,r,q⟩:=h;exact⟨v,σ',H',I.unwish,r,q⟩
theorem PSs.nox{st:List Stmt}{t:TS}(h:PSs X.nox st t):PSs X st t:=λpins s σ H D I hw =>eO (h pins s σ H D (I.wish _) hw) (λ_ _ q=>q.unwish) λ_ _ z=>False.elim z
end
section
variable {X:Cx}{st:Stmt}{G9:List Stmt}{t u:TS}{e:Expr}{te:TE}{pos:Pos}
noncomputable def co5:TS:=λD σ H=>D.nx σ H
noncomputable def da3(t u:TS):TS:=λD σ H=>t { D with nx:=u D } σ H
def cc9:PSs X [] co5:=λ_ _ σ H _ I h=>wpAny_execs_nil ⟨σ,H,I,h⟩
def ar1(h1:PS X st t)(h2:PSs X G9 u):PSs X (st::G9) (da3 t u):=by
 intro pins s σ H D I h;refine wpAny_execs_cons (thn (h1 pins s σ H { D with nx:=u D } I h) λf s1 q=>?_);cases f with
 | next =>
  obtain⟨σ',H',I',q⟩:=q;exact h2 pins s1 σ' H' D I' q
 | ret v=>exact q
 | brk=>exact q
 | cont=>exact q
def cc8(h1:PS X st t):PSs X [st] t:=by
 intro pins s σ H D I h;refine wpAny_execs_cons (thn (h1 pins s σ H D I h) λf s1 q=>?_);cases f with
 | next=>exact wpAny_execs_nil q
 | ret v=>exact q
 | brk=>exact q
 | cont=>exact q
noncomputable def cw3:TS:=λD σ H=>D.bk σ H
noncomputable def cQ2:TS:=λD σ H=>D.ct σ H
def cd0:PS X (.Pass pos) co5:=λ_ _ σ H _ I h=>wpAny_Pass ⟨σ,H,I,h⟩
def bJ6:PS X (.Break pos) cw3:=λ_ _ σ H _ I h=>wpAny_Break ⟨σ,H,I,h⟩
def aZ1:PS X (.Continue pos) cQ2:=λ_ _ σ H _ I h=>wpAny_Continue ⟨σ,H,I,h⟩
def Inv.quiet(I:Inv X pins σ H s):interactive X.env=false:=by simp[interactive,I.ok.kind]
noncomputable def cP9(te:TE):TS:=λD σ H=>te σ H λ_ H1=>D.nx σ H1
def aS9(he:PE X e te)(hs:swapsWith e O pos.line X.env=pure false:=by rfl):PS X (.Expr e pos) (cP9 te):=by
 intro pins s σ H D I h;exact wpAny_Expr_any (thn (he pins s σ H _ I h) λv s1 ⟨x,H1,I1,r1,q1⟩=>⟨σ,H1,I1,q1⟩) I.quiet hs
noncomputable def da4(te:TE):TS:=λD σ H=>te σ H D.rt
def cy9(he:PE X e te):PS X (.Return (Z e) pos) (da4 te):=by
 intro pins s σ H D I h;exact wpAny_Return_some<|thn (he pins s σ H _ I h) λv s1 ⟨x,H1,I1,r1,q1⟩=>⟨x,σ,H1,I1,r1,q1⟩
noncomputable def da9(c:TT)(t u:TS):TS:=λD σ H=>c σ H λb H1=>if b=true then t D σ H1 else u D σ H1
def cp3(hc:PT X c tc)(ha:PSs X a t)(hb:PSs X b u):PS X (.If c a b pos) (da9 tc t u):=by
 intro pins s σ H D I h;refine wpAny_If (thn (hc pins s σ H _ I h) λd s1 ⟨H1,I1,q1⟩=>?_);cases d with
 | true=>exact ha pins s1 σ H1 D I1 q1
 | false=>exact hb pins s1 σ H1 D I1 q1
noncomputable def cw1:TS:=λ_ _ _=>False
def x6:PSs X sts cw1:=λ_ _ _ _ _ _ h=>h.elim
end
noncomputable abbrev TG:=V->St->Hp->(St->Hp->Prop)->Prop
noncomputable abbrev TGs:=List V->St->Hp->(St->Hp->Prop)->Prop
noncomputable def PG(X:Cx)(target:Expr)(t:TG):Prop :=
 ∀(pins:List (fO×Obj)) (s:fN) (σ:St) (H:Hp) (v:V) (u:fM) (Q:St->Hp->Prop),Inv X pins σ H s->D9 v u->t v σ H Q ->
  ft (fu X.prog X.w) X.A (assign target X.env u) (λ_ s'=>∃σ' H',Inv X pins σ' H' s'/\Q σ' H') X.xe s
noncomputable def PGs(X:Cx)(ts:List Expr)(t:TGs):Prop :=
 ∀(pins:List (fO×Obj)) (s:fN) (σ:St) (H:Hp) (vs:List V) (us:List fM) (Q:St->Hp->Prop),Inv X pins σ H s->E1 vs us->t vs σ H Q ->
  ft (fu X.prog X.w) X.A (assignInOrder ((fj ts X.env).map (·.2)) us) (λ_ s'=>∃σ' H',Inv X pins σ' H' s'/\Q σ' H') X.xe s
section
variable {X:Cx}{pos:Pos}
noncomputable def cr1(i:Nat):TG:=λv σ H Q=>Q (σ.set i<|Z v) H
def cd6(hN:X.N.Nodup)(hi:X.N[i]? = Z x)(hx:Loc X.env.scope x)(hf:X.fn x=true\/X.env.scope.names.lookup x=Z .local:=by first|exact .inl rfl|exact .inr rfl|assumption):PG X (.Name x pos) (cr1 i):=by
 intro pins s σ H v u Q I r h;exact wpAny_assign_Name<|ae5 I hN hi hx r (λs' I'=>⟨_,H,I',h⟩) hf
noncomputable def dd4:TGs:=λvs σ H Q=>vs=[]/\Q σ H
noncomputable def cW9(t:TG)(u:TGs):TGs:=λvs σ H Q=>∃v r,vs=v::r/\t v σ H λσ' H'=>u r σ' H' Q
def cd5:PGs X [] dd4:=by
 intro pins s σ H vs us Q I r h;obtain⟨e,h⟩:=h;subst e;cases r;exact assignInOrder_nil ⟨σ,H,I,h⟩
def bK3(h1:PG X e t)(h2:PGs X es u)
  (hs:(fj (e::es) X.env).map (·.2)=assign e X.env::(fj es X.env).map (·.2):=by rfl):PGs X (e::es) (cW9 t u):=by
 intro pins s σ H vs us Q I r h;obtain⟨v,vr,e1,h⟩:=h;subst e1;cases r with
 | cons r rr =>
  rw[hs];refine assignInOrder_cons (thn (h1 pins s σ H _ _ _ I r h) λ_ s1 ⟨σ1,H1,I1,q1⟩=>?_);exact h2 pins s1 σ1 H1 _ _ Q I1 rr q1
noncomputable def dd3(K:ad)(n:Nat)(t:TGs):TG:=λv σ H Q=>∃a xs,v=.ref a/\SqT K H a xs/\xs.length=n/\t xs σ H Q
def cz5(hc:X.calm=true)(h:PGs X es t)
  (hn:(fj es X.env).length=n:=by rfl) (hst:(fj es X.env).findIdx? (·.1)=O:=by rfl):PG X (.Tuple es k pos) (dd3 X.K n t):=by
 intro pins s σ H v u Q I r hw;obtain⟨a,xs,e1,hq,hl,hw⟩:=hw;subst e1;cases r;obtain⟨its,rv,ht,hz⟩:=I.tuple hq;refine assign_Tuple_tuple (I.ok.hd hc) ht (by simp[hn,← hl,rv.length]) hst λh' hx=>?_
 have I1:Inv X pins σ H { s with heap:=h' }:=I.kept (t':=s.toks) λb o e=>hx b o (aC<|fA e) e
 exact h pins _ σ H xs _ Q I1 (by simpa using rv) hw
noncomputable def cQ4(te:TE)(g:TG):TS:=λD σ H=>te σ H λx H1=>g x σ H1 D.nx
def cz2(he:PE X e te)(hg:PG X tg g)(hs:swapsWithSole [tg] e pos.line X.env=pure false:=by rfl)(hw:swappedStores [tg] e X.env=pure O:=by rfl)
  (h1:(fj [tg] X.env).map (·.2)=[assign tg X.env]:=by rfl):PS X (.Assign [tg] e pos) (cQ4 te g):=by
 intro pins s σ H D I h;refine wpAny_Assign_stores (thn (he pins s σ H _ I h) λv s1 ⟨x,H1,I1,r1,q1⟩=>?_) hs hw;rw[h1];exact thn (hg pins s1 σ H1 x v _ I1 r1 q1) λ_ s2 q=>q
def bJ5(hN:X.N.Nodup)(hi:X.N[i]? = Z x)(hx:Loc X.env.scope x)(he:PE X e te)(hs:swapsWith e (Z<|.Name x pos') pos.line X.env=pure false:=by rfl)(hf:X.fn x=true\/X.env.scope.names.lookup x=Z .local:=by first|exact .inl rfl|exact .inr rfl|assumption):
  PS X (.Assign [.Name x pos'] e pos) (cQ4 te<|cr1 i):=by
 intro pins s σ H D I h;refine wpAny_Assign_Name (thn (he pins s σ H _ I h) λv s1 ⟨y,H1,I1,r1,q1⟩=>?_) hs;exact ae5 I1 hN hi hx r1 (λs2 I2=>⟨_,H1,I2,q1⟩) hf
noncomputable def da5(i j:Nat)(ta:TA):TS:=λD σ H=>ta σ H λvs H1=>∃v w,vs=[v,w]/\D.nx ((σ.set i<|Z v).set j<|Z w) H1
def cz0{kt k2 pt2}(hc:X.calm=true)(hN:X.N.Nodup)(hi:X.N[i]? = Z x)(hj:X.N[j]? = Z y)(hij:i≠j)
  (hx:X.env.scope.names.lookup x=Z .local) (hy:X.env.scope.names.lookup y=Z .local) (ha:PA X [a,b] ta)
  (hw:swappedStores [.Tuple [.Name x px,.Name y py] kt pt] (.Tuple [a,b] k2 pt2) X.env=pure (Z [x,y]))
  (hs:swapsWithSole [.Tuple [.Name x px,.Name y py] kt pt] (.Tuple [a,b] k2 pt2) pos.line X.env=pure false:=by rfl) :
  PS X (.Assign [.Tuple [.Name x px,.Name y py] kt pt] (.Tuple [a,b] k2 pt2) pos) (da5 i j ta):=by
 intro pins s σ H D I h;rw[exec_Assign_arm];refine eK (wpAny_standAt ?_);rw[hs];refine eK (eM ?_);rw[if_neg (by decide)];refine eK (Tuple_<|thn (ha _ pins s σ H _ I h) λus s1 ⟨vs,H1,I1,r1,q1⟩=>?_);obtain⟨v,w,e1,q1⟩:=q1;subst e1
 obtain⟨u1,u2,rfl,rv,rw'⟩:∃u1 u2,us=[u1,u2]/\D9 v u1/\D9 w u2:=by
  cases r1 with
  | cons p q =>
   cases q with
   | cons p' q' =>
    cases q';exact⟨_,_,rfl,p,p'⟩
 refine eQ ?_ (by show 2<=eU;decide);have I2:Inv X pins σ H1 { s1 with heap:=s1.heap.push { cls:=.type "tuple", data:=.seq [u1,u2].toArray } }:=I1.kept (t':=s1.toks) λb o e=>fw _ e
 rw[hw];refine eK (eM ?_);show ft (fu X.prog X.w) X.A (do rule "assign.swapped-stores";let items ← unpackItems (.ref s1.heap.objs.size) 2 O;assignInOrder [λv=>bindName X.env y v,λv=>bindName X.env x v] items.reverse;pure Flow.next) _ _ _;refine eK (wpAny_rule<|eK (unpackItems_tuple (items:=#[u1,u2]) (I.ok.hd hc) (IsTup.new s1.heap _) λh' hx'=>?_));have I3:=I2.kept (h':=h') (t':=s1.toks) λb o e=>hx' b o (aC<|fA e) e
 show ft _ _ (assignInOrder [λv=>bindName X.env y v,λv=>bindName X.env x v] [u2,u1] >>= λ_=>pure Flow.next) _ _ _;refine eK (assignInOrder_cons<|wpAny_bindName (ae5 I3 hN hj (.inl hy) rw' (λs2 I4=>?_)<|.inr hy));refine assignInOrder_cons (wpAny_bindName<|ae5 I4 hN hi (.inl hx) rv (λs3 I5=>assignInOrder_nil<|eM ?_) (.inr hx));rw[List.set_comm _ _ (Ne.symm hij)]at I5;exact⟨_,H1,I5,q1⟩
end
section
variable {X:Cx}{pos:Pos}
noncomputable def cw0(c:TT)(tb:TS):TS:=λD σ H=>∃W:Nat->St->Hp->Prop,(∃m,W m σ H)/\∀m σ H,W m σ H ->
 c σ H λb H1=>if b=true then ∃N:St->Hp->Prop,(∀σ' H',N σ' H'->∃m',m' < m/\W m' σ' H')/\tb { D with nx:=N,ct:=N,bk:=D.nx } σ H1 else D.nx σ H1
def bJ4(hp:PassesOwn (fu X.prog X.w) X.A X.env X.xe)(hc:PT X c tc)(hb:PSs X body tb):PS X (.While c body [] pos) (cw0 tc tb):=by
 intro pins s σ H D I h;obtain⟨W,⟨m0,w0⟩,turn⟩:=h;refine wpAny_While<|codeAny_whileLoop (λn s'=>∃σ' H',Inv X pins σ' H' s'/\W n σ' H') ?_ m0 ⟨σ,H,I,w0⟩
 rintro n s1 ⟨σ1,H1,I1,w1⟩
 refine wpAny_passesOwn hp (thn (hc pins s1 σ1 H1 _ I1<|turn n σ1 H1 w1) λb s2 ⟨H2,I2,q2⟩=>?_);cases b with
 | true =>
  obtain⟨N,hN,q2⟩:=q2;rw[if_pos rfl];refine wpAny_passesOwn hp (thn (hb pins s2 σ1 H2 _ I2 q2) λf s3 q3=>?_);cases f with
  | next =>
   obtain⟨σ3,H3,I3,n3⟩:=q3;obtain⟨m',hm,w3⟩:=hN σ3 H3 n3;exact⟨m',hm,σ3,H3,I3,w3⟩
  | cont =>
   obtain⟨σ3,H3,I3,n3⟩:=q3;obtain⟨m',hm,w3⟩:=hN σ3 H3 n3;exact⟨m',hm,σ3,H3,I3,w3⟩
  | brk=>exact q3
  | ret v=>exact q3
 | false =>
  rw[if_neg aE];exact wpAny_execs_nil ⟨σ1,H2,I2,q2⟩
end
structure It where
 go:Nat->Hp->Prop
 yld:Nat->Hp->V->Hp->Prop
 stop:Nat->Hp->Prop
noncomputable def ay0(X:Cx)(pins:List (fO×Obj))(H:Hp)(b:fO):Prop :=
 H b=O/\b≠X.env.locals/\b∉X.fs/\(b∈X.ex\/X.s₀.heap.objs.size<=b)/\(∀x c,X.env.cells.lookup x=Z c->c≠b)/\∀p∈X.pn++pins,p.1≠b
def Inv.fpOk(I:Inv X pins σ H s)(hb:s.heap.objs.size<=b)(hn:H' b=O):ay0 X pins H' b:=by
 refine⟨hn,Nat.ne_of_gt<|aH I.lt hb,I.nofs hb,.inr<|aO I.sz hb,λx c e z=>?_,λp hp z=>?_⟩
 .obtain⟨v,q⟩:=I.cell x c e;exact absurd (aH q.lt (by rw[z];exact hb))<|bt _
 .exact absurd (aH (fA (I.pin p hp).1) (by rw[z];exact hb)) (bt _)
structure Turn (P:fb) (w:World) (K:ad) (tg:Expr) (J:It) (fp:List fO) (it:fO) (tn:Nat->Heap->Prop):Prop where
 mem:it∈fp
 obj:∀i h,tn i h->∀b∈fp,∃o,h.get? b=Z o/\∀v,o.data≠.cell v
 keep:∀i h h',tn i h->(∀b∈fp,∀o,h.get? b=Z o->h'.get? b=Z o)->tn i h'
 item:∀(X:Cx),X.prog=P->X.w=w->X.K=K->X.calm=true->∀(i:Nat) (pins:List (fO×Obj)) (s:fN) (σ:St) (H:Hp) (E:fM->fN->Prop),Inv X pins σ H s->(∀b∈fp,ay0 X pins H b)->tn i s.heap->J.go i H ->
  ft (fu P w) X.A (pyNext (.ref it)) (λr s1=>∃u,r=Z u /\
   ft (fu P w) X.A (letOwnedTupleGo tg (.ref it) u) (λ_ s2=>∃x H',Inv X pins σ H' s2/\D9 x u/\J.yld i H x H'/\tn (i+1) s2.heap/\∀b∈fp,H' b=O) E s1) E s
 done:∀(X:Cx),X.prog=P->X.w=w->X.K=K->X.calm=true->∀(i:Nat) (pins:List (fO×Obj)) (s:fN) (σ:St) (H:Hp) (E:fM->fN->Prop),Inv X pins σ H s->(∀b∈fp,ay0 X pins H b)->tn i s.heap->J.stop i H ->
  ft (fu P w) X.A (pyNext<|.ref it) (λr s1=>r=O/\Inv X pins σ H s1) E s
 self:∀(A:fc) (i:Nat) (s:fN) (Q:fM->fN->Prop) (E:fM->fN->Prop),tn i s.heap->Q (.ref it) s->ft (fu P w) A (pyIter<|.ref it) Q E s
noncomputable abbrev TI:=St->Hp->(It->Hp->Prop)->Prop
noncomputable def PIE(X:Cx)(pins:List (fO×Obj))(σ:St)(tg:Expr)(R:It->Hp->Prop)(itv:fM)(s2:fN):Prop :=
 ∃(it:fO) (fp:List fO) (tn:Nat->Heap->Prop) (J:It) (H':Hp),itv=.ref it/\Inv X pins σ H' s2/\Turn X.prog X.w X.K tg J fp it tn/\tn 0 s2.heap/\(∀b∈fp,ay0 X pins H' b)/\R J H'
noncomputable def PI(X:Cx)(tg iter:Expr)(wi:TI):Prop :=
 ∀(pins:List (fO×Obj)) (s:fN) (σ:St) (H:Hp) (R:It->Hp->Prop),Inv X pins σ H s->wi σ H R ->
  ft (fu X.prog X.w) X.A (eval iter X.env) (λv s1=>ft (fu X.prog X.w) X.A (pyIter v) (PIE X pins σ tg R) X.xe s1) X.xe s
def bt3(ho:s.heap.get? it=Z o)(hc:o.cls=.type n)(hd:o.data=.fields vs)
    (hn:["enumerate", "zip", "dict_itemiterator", "dict_reverseitemiterator", "odict_iterator", "itertools.zip_longest", "itertools.pairwise"].contains n=false) (hQ:Q () s):ft M A (letOwnedTupleGo tg (.ref it) u) Q E s:=by
  unfold letOwnedTupleGo
  cases tg<;>first
    | exact eM hQ
    | (cases u<;>first
        | exact eM hQ
        | (refine eK (wpAny_load ho ?_)
           rw[hc,hd];show ft M A (if(["enumerate", "zip", "dict_itemiterator", "dict_reverseitemiterator", "odict_iterator", "itertools.zip_longest", "itertools.pairwise"].contains n&&vs[0]? == Z (rawInt _))=true then _ else _) Q E s;rw[if_neg (by intro h;rw[hn,Bool.false_and]at h;cases h)]
           exact eM hQ))
noncomputable def Itl(K:ad)(a:fO):It :=
 ⟨λi H=>∃xs x,SqL K H a xs/\xs[i]? = Z x,λi H x H'=>H'=H/\∀xs,SqL K H a xs->xs[i]? = Z x,λi H=>∃xs,SqL K H a xs/\xs.length<=i⟩
noncomputable def Itt(K:ad)(a:fO):It :=
 ⟨λi H=>∃xs x,SqT K H a xs/\xs[i]? = Z x,λi H x H'=>H'=H/\∀xs,SqT K H a xs->xs[i]? = Z x,λi H=>∃xs,SqT K H a xs/\xs.length<=i⟩
noncomputable def Itr(lo:Int)(n:Nat):It:=⟨λi _=>i < n,λi H x H'=>H'=H/\x=.int (lo+i),λi _=>n<=i⟩
def bw3{P:fb}{w:World}{K:ad}{tg:Expr}(a it:fO):Turn P w K tg (Itl K a) [it] it (λi h=>h.IsListIter it a i) where
 mem:=by simp
 obj:=λi h st b hb=>by
  have e:b=it:=by simpa using hb
  subst e;obtain⟨o,e,c,d⟩:=st;exact⟨o,e,λv z=>by rw[d]at z;cases z⟩
 keep:=λi h h' st k=>st.at λo e=>k it (by simp) o e
 item:=by
  intro X hP hw hK hc i pins s σ H E I hf st hg;subst hP hw hK;obtain⟨xs,x,hq,hx⟩:=hg;obtain⟨its,rv,p,hz⟩:=I.list hq;obtain⟨u,hu,ru⟩:=rv.get hx;obtain⟨f0,f1,f2,f3,f4,f5⟩:=hf it (by simp);refine wpAny_pyNext_list_item st p.isList (x:=u) (by simpa using hu) λh' st' sb=>?_
  have I1:Inv X pins σ H { s with heap:=h' }:=I.turned (t':=s.toks) (λb o hb e=>(sb.2 b hb).trans e) f0 f1 f3 f4 f5;obtain⟨o,e,c,d⟩:=id st';exact⟨u,rfl,bt3 (s:={ s with heap:=h' }) e c d (by decide) ⟨x,H,I1,ru,⟨rfl,λys hy=>by rw[I.list_inj hy hq];exact hx⟩,st',λb hb=>(hf b hb).1⟩⟩
 done:=by
  intro X hP hw hK hc i pins s σ H E I hf st hg;subst hP hw hK;obtain⟨xs,hq,hx⟩:=hg;obtain⟨its,rv,p,hz⟩:=I.list hq;obtain⟨f0,f1,f2,f3,f4,f5⟩:=hf it (by simp);have hl:=rv.length;exact wpAny_pyNext_list_end (I.ok.hd hc) st p.isList (by simp;omega) λh' eb=>⟨rfl,I.turned (t':=s.toks) (λb o hb e=>eb b o hb e) f0 f1 f3 f4 f5⟩
 self:=λ_ _ _ _ _ st h=>wpAny_pyIter_listiter st h
def bg7{P:fb}{w:World}{K:ad}{tg:Expr}(a it:fO):Turn P w K tg (Itt K a) [it] it (λi h=>h.IsTupleIter it a i) where
 mem:=by simp
 obj:=λi h st b hb=>by
  have e:b=it:=by simpa using hb
  subst e;obtain⟨o,e,c,d⟩:=st;exact⟨o,e,λv z=>by rw[d]at z;cases z⟩
 keep:=λi h h' st k=>st.at λo e=>k it (by simp) o e
 item:=by
  intro X hP hw hK hc i pins s σ H E I hf st hg;subst hP hw hK;obtain⟨xs,x,hq,hx⟩:=hg;obtain⟨its,rv,p,hz⟩:=I.tuple hq;obtain⟨u,hu,ru⟩:=rv.get hx;obtain⟨f0,f1,f2,f3,f4,f5⟩:=hf it (by simp);refine wpAny_pyNext_tuple_item st (show s.heap.IsTuple a its.toArray from p) (x:=u) (by simpa using hu) λh' st' sb=>?_
  have I1:Inv X pins σ H { s with heap:=h' }:=I.turned (t':=s.toks) (λb o hb e=>(sb.2 b hb).trans e) f0 f1 f3 f4 f5;obtain⟨o,e,c,d⟩:=id st';exact⟨u,rfl,bt3 (s:={ s with heap:=h' }) e c d (by decide) ⟨x,H,I1,ru,⟨rfl,λys hy=>by rw[I.tuple_inj hy hq];exact hx⟩,st',λb hb=>(hf b hb).1⟩⟩
 done:=by
  intro X hP hw hK hc i pins s σ H E I hf st hg;subst hP hw hK;obtain⟨xs,hq,hx⟩:=hg;obtain⟨its,rv,p,hz⟩:=I.tuple hq;obtain⟨f0,f1,f2,f3,f4,f5⟩:=hf it (by simp);have hl:=rv.length;exact wpAny_pyNext_tuple_end (I.ok.hd hc) st (show s.heap.IsTuple a its.toArray from p) (by simp;omega) λh' eb=>⟨rfl,I.turned (t':=s.toks) (λb o hb e=>eb b o hb e) f0 f1 f3 f4 f5⟩
 self:=λ_ _ _ _ _ st h=>wpAny_pyIter_tupleiter st h
def bg8{P:fb}{w:World}{K:ad}{tg:Expr}(it:fO)(lo:Int)(n:Nat):Turn P w K tg (Itr lo n) [it] it (λi h=>IsRangeIter h it (lo+(i:Nat)*1) ((n:Int) - (i:Nat)) 1) where
 mem:=by simp
 obj:=λi h st b hb=>by
  have e:b=it:=by simpa using hb
  subst e
  exact⟨_,st,λv z=>by
   have z':Data.fields _=Data.cell v:=z
   cases z'⟩
 keep:=λi h h' st k=>k it (by simp) _ st
 item:=by
  intro X hP hw hK hc i pins s σ H E I hf st hg;subst hP hw hK;obtain⟨f0,f1,f2,f3,f4,f5⟩:=hf it (by simp);have W:=Walks.range (prog:=X.prog) (w:=X.w) (I.ok.hd hc) it lo 1 n;refine W.item i s _ _ hg st λv h' tk hv st' kk=>?_
  obtain⟨t,rfl⟩:=hv;have I1:Inv X pins σ H { s with heap:=h',toks:=tk }:=I.turned (λb o hb e=>kk b o (by simpa using hb) e) f0 f1 f3 f4 f5;refine⟨_,rfl,bt3 (s:={ s with heap:=h',toks:=tk }) (n := "range_iterator") st' rfl rfl (by decide) ⟨.int<|lo+i,H,I1,⟨t,?_⟩,⟨rfl,rfl⟩,st',λb hb=>(hf b hb).1⟩⟩;rw[Int.mul_one]
 done:=by
  intro X hP hw hK hc i pins s σ H E I hf st hg;subst hP hw hK;obtain⟨f0,f1,f2,f3,f4,f5⟩:=hf it (by simp);exact wpAny_pyNext_range_end (I.ok.hd hc) st (by have:n<=i:=hg;omega) λh' eb=>⟨rfl,I.turned (t':=s.toks) (λb o hb e=>eb b o hb e) f0 f1 f3 f4 f5⟩
 self:=λ_ _ _ _ _ st h=>wpAny_pyIter_rangeiter st h
section
variable {X:Cx}{tg:Expr}
noncomputable def cW4(K:ad)(tl:TE):TI:=λσ H R=>tl σ H λx H1=>∃a,x=.ref a/\(∃xs,SqL K H1 a xs)/\R (Itl K a) H1
noncomputable def dd1(K:ad)(tl:TE):TI:=λσ H R=>tl σ H λx H1=>∃a,x=.ref a/\(∃xs,SqT K H1 a xs)/\R (Itt K a) H1
def cd4{l:Expr}{tl:TE}(hl:PE X l tl):PI X tg l (cW4 X.K tl):=by
 intro pins s σ H R I h;refine thn (hl pins s σ H _ I h) λv s1 ⟨x,H1,I1,r1,q1⟩=>?_
 obtain⟨a,e,⟨xs,hq⟩,q⟩:=q1;subst e;cases r1;obtain⟨its,rv,p,hz⟩:=I1.list hq;refine wpAny_pyIter_list p.isList ?_;refine⟨s1.heap.objs.size,[s1.heap.objs.size],_,_,H1,rfl,I1.kept (t':=s1.toks) λb o e=>fw _ e,bw3 a _,⟨_,fB _ rfl,rfl,rfl⟩,λb hb=>?_,q⟩;have e:b=s1.heap.objs.size:=by simpa using hb
 subst e;exact I1.fpOk (aj _)<|I1.hok.fresh (aj _)
def cz4{l:Expr}{tl:TE}(hl:PE X l tl):PI X tg l (dd1 X.K tl):=by
 intro pins s σ H R I h;refine thn (hl pins s σ H _ I h) λv s1 ⟨x,H1,I1,r1,q1⟩=>?_
 obtain⟨a,e,⟨xs,hq⟩,q⟩:=q1;subst e;cases r1;obtain⟨its,rv,p,hz⟩:=I1.tuple hq;refine wpAny_pyIter_tuple (show s1.heap.IsTuple a its.toArray from p) ?_;refine⟨s1.heap.objs.size,[s1.heap.objs.size],_,_,H1,rfl,I1.kept (t':=s1.toks) λb o e=>fw _ e,bg7 a _,⟨_,fB _ rfl,rfl,rfl⟩,λb hb=>?_,q⟩;have e:b=s1.heap.objs.size:=by simpa using hb
 subst e;exact I1.fpOk (aj _)<|I1.hok.fresh (aj _)
def bJ0{pins:List (fO×Obj)}{σ:St}{H:Hp}{s:fN}{R:It->Hp->Prop}{E:fM->fN->Prop}{lo hi:Int}{t u v:Tok}{tk:Nat}(I:Inv X pins σ H s)(h1:-(2 ^ 62)<=lo)(h2:lo < 2 ^ 62)(h3:-(2 ^ 62)<=hi)(h4:hi < 2 ^ 62)
  (q:R (Itr lo (hi - lo).toNat) H):ft (fu X.prog X.w) X.A (pyIter<|.ref s.heap.objs.size) (PIE X pins σ tg R) E { s with heap:=s.heap.push { cls:=.type "range", data:=.fields #[.int lo t,.int hi u,.int 1 v] },toks:=tk }:=by
 refine wpAny_pyIter_range (IsRange.new ..) (small_one h1 h2 h3 h4) ?_;have I1:Inv X pins σ H { s with heap:=s.heap.push { cls:=.type "range", data:=.fields #[.int lo t,.int hi u,.int 1 v] },toks:=tk }:=I.kept λb o e=>fw _ e
 refine⟨(s.heap.push { cls:=.type "range", data:=.fields #[.int lo t,.int hi u,.int 1 v] }).objs.size,[(s.heap.push { cls:=.type "range", data:=.fields #[.int lo t,.int hi u,.int 1 v] }).objs.size],_,_,H,rfl,
  I1.kept (t':=tk) λb o e=>fw _ e,bg8 _ lo (hi - lo).toNat,?_,λb hb=>?_,q⟩
 .have e1:lo+((0:Nat):Int)*1=lo:=by simp
  have e2:(((hi - lo).toNat:Nat):Int) - ((0:Nat):Int)=Builtin.Range.rangeSize lo hi 1:=by rw[rangeSize_one];split<;>omega
  show IsRangeIter _ _ (lo+((0:Nat):Int)*1) ((((hi - lo).toNat:Nat):Int) - ((0:Nat):Int)) 1;rw[e1,e2];exact fB _ rfl
 .have e:b=(s.heap.push { cls:=.type "range", data:=.fields #[.int lo t,.int hi u,.int 1 v] }).objs.size:=by simpa using hb
  subst e;exact I1.fpOk (aj _)<|I1.hok.fresh (aj _)
noncomputable def cW3(ta:TA):TI:=λσ H R=>ta σ H λvs H1=>∃j:Int,vs=[.int j]/\-(2 ^ 62)<=j/\j < 2 ^ 62/\R (Itr 0 j.toNat) H1
def bx5{a:Expr}{ta:TA}{p pos:Pos}(hg:Gl X "range")(hm:X.mg "range" = O)(ha:PA X [a] ta)(hs:eT [a] X.env=[(false,eval a X.env)]:=by rfl):PI X tg (.Call (.Name "range" p) [a] [] pos) (cW3 ta):=by
 intro pins s σ H R I h;refine Call_ (aH3 I hg hm boot_range<|PyProof.Rows.callWith_type1 (thn (ha pos pins s σ H _ I h) λus s1 ⟨vs,H1,I1,r1,q1⟩=>?_) hs rfl);obtain⟨j,e,q1,q2,q⟩:=q1;subst e;cases r1 with
 | cons r rr =>
  cases rr;obtain⟨t,rfl⟩:=r;exact call_range_1 (bJ0 I1 (by omega) (by omega) q1 q2<|by simpa using q)
noncomputable def db0(wi:TI)(g:TG)(tb:TS):TS:=λD σ H=>wi σ H λJ H1=>∃W:Nat->Nat->St->Hp->Prop,(∃m,W 0 m σ H1)/\∀i m σ H,W i m σ H ->
 (J.stop i H/\D.nx σ H)\/(J.go i H/\∃N:St->Hp->Prop,(∀σ' H',N σ' H'->∃m',m' < m/\W (i+1) m' σ' H')/\∀x H',J.yld i H x H'->g x σ H' λσ2 H2=>tb { D with nx:=N,ct:=N,bk:=D.nx } σ2 H2)
noncomputable def aG4(fp:List fO)(h:Heap):List (fO×Obj):=fp.filterMap λb=>(h.get? b).map λo=>(b,o)
def ac3(hb:b∈fp)(e:h.get? b=Z o):(b,o)∈aG4 fp h:=cJ.mpr ⟨b,hb,by rw[e];rfl⟩
def by1(hp:p∈aG4 fp h):p.1∈fp/\h.get? p.1=Z p.2:=by
 obtain⟨b,hb,e⟩:=cJ.mp hp;cases q:h.get? b with
 | none=>rw[q]at e;cases e
 | some o =>
  rw[q]at e;have e':(b,o)=p:=bf.inj e;subst e';exact⟨hb,q⟩
def Inv.pinned(I:Inv X pins σ H s)(hf:∀b∈fp,ay0 X pins H b)(ho:∀b∈fp,∃o,s.heap.get? b=Z o/\∀v,o.data≠.cell v):Inv X (pins++aG4 fp s.heap) σ H s :=
 I.pins_of λp hp=>(az.mp hp).elim (λz=>I.pin p<|au _ z) λz=>by
  obtain⟨hb,e⟩:=by1 z;obtain⟨f0,f1,f2,_⟩:=hf p.1 hb;obtain⟨o,e',d⟩:=ho p.1 hb;rw[e]at e';cases e';exact⟨e,f0,f1,f2,d⟩
def Inv.unpinned(I:Inv X (pins++pl) σ H s):Inv X pins σ H s:=I.pins_of λp hp=>I.pin p<|au _ (ar _ hp)
def cz1(hp:PassesOwn (fu X.prog X.w) X.A X.env X.xe)(hc:X.calm=true)(hi:PI X tg iter wi)(hg:PG X tg g)(hb:PSs X body tb)
  (hs:∀x,fk iter X.env x=pure x:=by intro _;rfl):PS X (.For tg iter body [] pos) (db0 wi g tb):=by
 intro pins s σ H D I h;refine wpAny_For (thn (hi pins s σ H _ I h) λv s1 h1=>thn h1 λitv s2 h2=>?_) hs;obtain⟨it,fp,tn,J,H2,e,I2,T,st2,f2,W,⟨m0,w0⟩,turn⟩:=h2;subst e;have stat:∀{H':Hp},(∀b∈fp,H' b=O)->∀b∈fp,ay0 X pins H' b:=λhn b hb=>⟨hn b hb,(f2 b hb).2⟩
 refine codeAny_forLoop_any (λn s'=>∃i σ' H',Inv X pins σ' H' s'/\tn i s'.heap/\(∀b∈fp,H' b=O)/\W i n σ' H') ?_ m0 ⟨0,σ,H2,I2,st2,λb hb=>(f2 b hb).1,w0⟩
 rintro n s3 ⟨i,σ3,H3,I3,st3,fr3,w3⟩
 rcases turn i n σ3 H3 w3 with⟨stop,qn⟩|⟨go,N,hN,step⟩
 .refine wpAny_passesOwn hp (thn (T.done X rfl rfl rfl hc i pins s3 σ3 H3 X.xe I3 (stat fr3) st3 stop) λr s4 ⟨hr,I4⟩=>?_);subst hr;exact wpAny_execs_nil ⟨σ3,H3,I4,qn⟩
 .refine wpAny_passesOwn hp (thn (T.item X rfl rfl rfl hc i pins s3 σ3 H3 X.xe I3 (stat fr3) st3 go) λr s4 ⟨u,hr,h4⟩=>?_);subst hr;refine wpAny_passesOwn hp (thn h4 λ_ s5 ⟨x,H5,I5,r5,y5,st5,fr5⟩=>?_);have I5':=I5.pinned (stat fr5) (T.obj _ _ st5);refine wpAny_passesOwn hp (thn (hg _ s5 σ3 H5 x u _ I5' r5<|step x H5 y5) λ_ s6 ⟨σ6,H6,I6,q6⟩=>?_);refine wpAny_passesOwn hp (thn (hb _ s6 σ6 H6 _ I6 q6) λf s7 q7=>?_)
  have again:∀{σ7:St}{H7:Hp},Inv X (pins++aG4 fp s5.heap) σ7 H7 s7->N σ7 H7->∃m,m < n/\∃i σ' H',Inv X pins σ' H' s7/\tn i s7.heap/\(∀b∈fp,H' b=O)/\W i m σ' H':=λ{σ7 H7} I7 n7=>by
   obtain⟨m',hm,w7⟩:=hN σ7 H7 n7;refine⟨m',hm,i+1,σ7,H7,I7.unpinned,T.keep _ _ _ st5 λb hb o e=>(I7.pin (b,o)<|au _ (au _<|ac3 hb e)).1,λb hb=>?_,w7⟩;obtain⟨o,e,d⟩:=T.obj _ _ st5 b hb;exact(I7.pin (b,o)<|au _ (au _<|ac3 hb e)).2.1
  cases f with
  | next=>obtain⟨σ7,H7,I7,n7⟩:=q7;exact again I7 n7
  | cont=>obtain⟨σ7,H7,I7,n7⟩:=q7;exact again I7 n7
  | brk=>obtain⟨σ7,H7,I7,q7⟩:=q7;exact⟨σ7,H7,I7.unpinned,q7⟩
  | ret v=>obtain⟨x7,σ7,H7,I7,r7,q7⟩:=q7;exact⟨x7,σ7,H7,I7.unpinned,r7,q7⟩
end
noncomputable abbrev R2:=V->V->Hp->VK->Prop
noncomputable def OpR(X:Cx)(f:fM->fM->Sem fM)(r:R2):Prop :=
 ∀(pins:List (fO×Obj)) (s:fN) (σ:St) (H:Hp) (x y:V) (v u:fM) (Q:VK),Inv X pins σ H s->D9 x v->D9 y u->r x y H Q ->
  ft (fu X.prog X.w) X.A (f v u) (EP X pins σ Q) X.xe s
noncomputable def UnR(X:Cx)(f:fM->Sem fM)(r:V->Hp->VK->Prop):Prop :=
 ∀(pins:List (fO×Obj)) (s:fN) (σ:St) (H:Hp) (x:V) (v:fM) (Q:VK),Inv X pins σ H s->D9 x v->r x H Q ->
  ft (fu X.prog X.w) X.A (f v) (EP X pins σ Q) X.xe s
noncomputable def U9(X:Cx)(f:fM)(r:List V->Hp->VK->Prop):Prop :=
 ∀(pins:List (fO×Obj)) (s:fN) (σ:St) (H:Hp) (xs:List V) (us:List fM) (Q:VK),Inv X pins σ H s->E1 xs us->r xs H Q ->
  ft (fu X.prog X.w) X.A (call f us) (EP X pins σ Q) X.xe s
noncomputable def de3(X:Cx)(r:V->Hp->(Bool->Hp->Prop)->Prop):Prop :=
 ∀(pins:List (fO×Obj)) (s:fN) (σ:St) (H:Hp) (x:V) (v:fM) (Q:Bool->Hp->Prop),Inv X pins σ H s->D9 x v->r x H Q ->
  ft (fu X.prog X.w) X.A (truthy v) (TP X pins σ Q) X.xe s
noncomputable def tOp(r:R2)(ta tb:TE):TE:=λσ H Q=>ta σ H λx H1=>tb σ H1 λy H2=>r x y H2 Q
noncomputable def tUn(r:V->Hp->VK->Prop)(ta:TE):TE:=λσ H Q=>ta σ H λx H1=>r x H1 Q
noncomputable def rI(C:Int->Int->Prop)(g:Int->Int->V):R2:=λx y H Q=>∃i j,x=.int i/\y=.int j/\C i j/\Q (g i j) H
noncomputable def rI0(g:Int->Int->V):R2:=λx y H Q=>∃i j,x=.int i/\y=.int j/\Q (g i j) H
noncomputable def rU(g:Int->V):V->Hp->VK->Prop:=λx H Q=>∃i,x=.int i/\Q (g i) H
section
variable {X:Cx}{a b c:Expr}{ta tb tc:TE}{pos:Pos}
def cL3(ha:PE X a ta)(hb:PE X b tb){pins:List (fO×Obj)}{s:fN}{σ:St}{H:Hp}{R:V->V->Hp->Prop}(I:Inv X pins σ H s)
  (h:ta σ H λx H1=>tb σ H1 λy H2=>R x y H2) {Q:fM->fN->Prop}{f:fM->fM->Sem fM}
  (hf:∀v u s2 x y H2,Inv X pins σ H2 s2->D9 x v->D9 y u->R x y H2->ft (fu X.prog X.w) X.A (f v u) Q X.xe s2) :
  ft (fu X.prog X.w) X.A (eval a X.env) (λv s₁=>ft (fu X.prog X.w) X.A (eval b X.env) (λu s₂=>ft (fu X.prog X.w) X.A (f v u) Q X.xe s₂) X.xe s₁) X.xe s:=by
 refine thn (ha pins s σ H _ I h) λv s1 ⟨x,H1,I1,r1,q1⟩=>?_
 refine thn (hb pins s1 σ H1 _ I1 q1) λu s2 ⟨y,H2,I2,r2,q2⟩=>?_
 exact hf v u s2 x y H2 I2 r1 r2 q2
def cp5(ho:OpR X (fg op) r)(ha:PE X a ta)(hb:PE X b tb):PE X (.BinOp a op b pos) (tOp r ta tb):=by
 intro pins s σ H Q I h;exact wpAny_BinOp<|cL3 ha hb I h λv u s2 x y H2 I2 rx ry q=>ho pins s2 σ H2 x y v u Q I2 rx ry q
def cR9(ho:UnR X (unaryOp op) r)(ha:PE X a ta):PE X (.UnaryOp op a pos) (tUn r ta):=by
 intro pins s σ H Q I h;exact UnaryOp_<|thn (ha pins s σ H _ I h) λv s1 ⟨x,H1,I1,r1,q1⟩=>ho pins s1 σ H1 x v Q I1 r1 q1
def opI{f:fM->fM->Sem fM}{C:Int->Int->Prop}{g:Int->Int->Int}
  (rule:∀(i j:Int) (t u:Tok) (s:fN) (Q:fM->fN->Prop) (E:fM->fN->Prop),C i j->Q (.int (g i j) s.toks) { s with toks:=s.toks+1 }->ft (fu X.prog X.w) X.A (f (.int i t)<|.int j u) Q E s) :
  OpR X f (rI C λi j=>.int<|g i j):=by
 intro pins s σ H x y v u Q I rx ry h;obtain⟨i,j,rfl,rfl,hc,q⟩:=h;obtain⟨t,rfl⟩:=rx;obtain⟨t',rfl⟩:=ry;exact rule i j t t' s _ _ hc ⟨.int<|g i j,H,I.tok _,⟨_,rfl⟩,q⟩
def cS7{f:fM->fM->Sem fM}{g:Int->Int->Int}
  (rule:∀(i j:Int) (t u:Tok) (s:fN) (Q:fM->fN->Prop) (E:fM->fN->Prop),Q (.int (g i j) s.toks) { s with toks:=s.toks+1 }->ft (fu X.prog X.w) X.A (f (.int i t)<|.int j u) Q E s) :
  OpR X f (rI0 λi j=>.int<|g i j):=by
 intro pins s σ H x y v u Q I rx ry h;obtain⟨i,j,rfl,rfl,q⟩:=h;obtain⟨t,rfl⟩:=rx;obtain⟨t',rfl⟩:=ry;exact rule i j t t' s _ _ ⟨.int<|g i j,H,I.tok _,⟨_,rfl⟩,q⟩
def ce9{f:fM->fM->Sem fM}{g:Int->Int->Bool}
  (rule:∀(i j:Int) (t u:Tok) (s:fN) (Q:fM->fN->Prop) (E:fM->fN->Prop),Q (.bool<|g i j) s->ft (fu X.prog X.w) X.A (f (.int i t)<|.int j u) Q E s) :
  OpR X f (rI0 λi j=>.bl<|g i j):=by
 intro pins s σ H x y v u Q I rx ry h;obtain⟨i,j,rfl,rfl,q⟩:=h;obtain⟨t,rfl⟩:=rx;obtain⟨t',rfl⟩:=ry;exact rule i j t t' s _ _ ⟨.bl<|g i j,H,I,rfl,q⟩
def bL3:OpR X (fg .Add) (rI0 λi j=>.int<|i+j):=cS7 λ_ _ _ _ _ _ _ q=>add_int q
def cA8:OpR X (fg .Sub) (rI0 λi j=>.int<|i - j):=cS7 λ_ _ _ _ _ _ _ q=>sub_int q
def cA9:OpR X (fg .Mod) (rI (λ_ j=>0 < j) λi j=>.int<|i % j):=opI λi j _ _ _ _ _ hc q=>by
 have h1:(0:Int) < j:=hc;exact mod_int' (by omega) (by rw[Int.fmod_eq_emod_of_nonneg i (by omega)];exact q)
def unI{f:fM->Sem fM}{g:Int->Int}
  (rule:∀(i:Int) (t:Tok) (s:fN) (Q:fM->fN->Prop) (E:fM->fN->Prop),Q (.int (g i) s.toks) { s with toks:=s.toks+1 }->ft (fu X.prog X.w) X.A (f<|.int i t) Q E s) :
  UnR X f (rU λi=>.int<|g i):=by
 intro pins s σ H x v Q I rx h;obtain⟨i,rfl,q⟩:=h;obtain⟨t,rfl⟩:=rx;exact rule i t s _ _ ⟨.int<|g i,H,I.tok _,⟨_,rfl⟩,q⟩
def cv3:UnR X (unaryOp .USub) (rU λi=>.int (-i)):=unI λ_ _ _ _ _ q=>neg_int q
end
section
variable {X:Cx}{a b c:Expr}{ta tb tc:TE}{pos:Pos}
def aV0(I:Inv X pins σ H s)(q:Q (.bl k) H)(e:k=k'):EP X pins σ Q (.bool k') s:=by
 subst e;exact⟨.bl k,H,I,rfl,q⟩
def cS3:OpR X (eW .Lt) (rI0 λi j=>.bl<|decide (i < j)):=ce9 λ_ _ _ _ _ _ _ q=>lt_int q
def cS4:OpR X (eW .LtE) (rI0 λi j=>.bl<|decide (i<=j)):=ce9 λ_ _ _ _ _ _ _ q=>le_int q
def cS5:OpR X (eW .Gt) (rI0 λi j=>.bl<|decide (j < i)):=ce9 λ_ _ _ _ _ _ _ q=>gt_int q
def cS6:OpR X (eW .GtE) (rI0 λi j=>.bl<|decide (j<=i)):=ce9 λ_ _ _ _ _ _ _ q=>ge_int q
def bx7:OpR X (eW .In) (λx y H Q=>∃i j,x=.str i/\y=.str j/\Q (.bl (!(Builtin.Str.occurrences j i 0 j.length 1).isEmpty)) H):=by
 intro pins s σ H x y v u Q I rx ry h;obtain⟨i,j,rfl,rfl,q⟩:=h;obtain⟨t,rfl⟩:=rx;obtain⟨t',rfl⟩:=ry;exact in_str<|aV0 I q rfl
def cB0:OpR X (eW .Is) (λx y H Q=>y=.non/\Q (.bl<|decide (x=.non)) H):=by
 intro pins s σ H x y v u Q I rx ry h;obtain⟨rfl,q⟩:=h;cases ry;refine is_none_gen<|aV0 I q ?_
 cases x<;>first
  | (cases rx;rfl)
  | (obtain⟨t,rfl⟩:=rx;rfl)
def ce6:OpR X (eW .IsNot) (λx y H Q=>y=.non/\Q (.bl (!decide (x=.non))) H):=by
 intro pins s σ H x y v u Q I rx ry h;obtain⟨rfl,q⟩:=h;cases ry;refine isnot_none_gen<|aV0 I q ?_
 cases x<;>first
  | (cases rx;rfl)
  | (obtain⟨t,rfl⟩:=rx;rfl)
def aT0:OpR X (eW .NotIn) (λx y H Q=>∃i j,x=.str i/\y=.str j/\Q (.bl (!(!(Builtin.Str.occurrences j i 0 j.length 1).isEmpty))) H):=by
 intro pins s σ H x y v u Q I rx ry h;obtain⟨i,j,rfl,rfl,q⟩:=h;obtain⟨t,rfl⟩:=rx;obtain⟨t',rfl⟩:=ry;exact notIn_str<|aV0 I q rfl
def bL9(b:Expr)(h:op≠.In:=by decide)(h2:op≠.NotIn:=by decide):behindInMarks op b=false:=by
 have e1:(op==CmpOp.In)=false:=by cases op<;>first|rfl|exact absurd rfl h
 have e2:(op==CmpOp.NotIn)=false:=by cases op<;>first|rfl|exact absurd rfl h2
 cases b<;>simp[behindInMarks,e1,e2]
def ce0(ho:OpR X (eW op) r)(ha:PE X a ta)(hb:PE X b tb)(hm:behindInMarks op b=false):PE X (.Compare a [op] [b] pos) (tOp r ta tb):=by
 intro pins s σ H Q I h;exact wpAny_Compare1 (cL3 ha hb I h λv u s2 x y H2 I2 rx ry q=>ho pins s2 σ H2 x y v u Q I2 rx ry q) hm
noncomputable def co4(t:TE):TT:=λσ H Q=>t σ H λx H'=>∃k,x=.bl k/\Q k H'
def cc7(ho:OpR X (eW op) r)(ha:PE X a ta)(hb:PE X b tb)(hm:behindInMarks op b=false):PT X (.Compare a [op] [b] pos) (co4<|tOp r ta tb):=by
 intro pins s σ H Q I h;refine wpAny_isTrue_Compare1 (thn (ha pins s σ H _ I h) λv s1 ⟨x,H1,I1,r1,q1⟩=>thn (hb pins s1 σ H1 _ I1 q1) λu s2 ⟨y,H2,I2,r2,q2⟩ =>thn (ho pins s2 σ H2 x y v u _ I2 r1 r2 q2) λc s3 ⟨z,H3,I3,r3,k,e,q3⟩=>?_) hm;subst e;cases r3;exact eR ⟨H3,I3,q3⟩
noncomputable def bH5(r r':R2)(ta tb tc:TE):TE:=λσ H Q=>ta σ H λx H1=>tb σ H1 λy H2=>r x y H2 λz H3=>∃k,z=.bl k /\
 (if k=true then tc σ H3 λw' H4=>r' y w' H4 Q else Q (.bl false) H3)
def aZ7(ho:OpR X (eW op) r)(ho':OpR X (eW op') r')(ha:PE X a ta)(hb:PE X b tb)(hc:PE X c tc)
  (hm:lastMarks [op,op'] [b,c]=false:=by with_unfolding_all rfl):PE X (.Compare a [op,op'] [b,c] pos) (bH5 r r' ta tb tc):=by
 intro pins s σ H Q I h;refine Compare_chain (thn (ha pins s σ H _ I h) λv s1 ⟨x,H1,I1,r1,q1⟩=>chain_link<|thn (hb pins s1 σ H1 _ I1 q1) λu s2 ⟨y,H2,I2,r2,q2⟩ =>thn (ho pins s2 σ H2 x y v u _ I2 r1 r2 q2) λd s3 ⟨z,H3,I3,r3,k,e,q3⟩=>?_) hm;subst e;cases r3;refine eR ?_;cases k with
 | false=>exact ite_ff ⟨.bl false,H3,I3,rfl,q3⟩
 | true=>exact ite_tt<|chain_last (thn (hc pins s3 σ H3 _ I3 q3) λw' s4 ⟨z',H4,I4,r4,q4⟩=>ho' pins s4 σ H4 y z' u w' Q I4 r2 r4 q4)
def aZ0(ho:OpR X (eW op) r)(ho':OpR X (eW op') r')(ha:PE X a ta)(hb:PE X b tb)(hc:PE X c tc)
  (hm:lastMarks [op,op'] [b,c]=false:=by with_unfolding_all rfl):PT X (.Compare a [op,op'] [b,c] pos) (co4<|bH5 r r' ta tb tc):=by
 intro pins s σ H Q I h;refine isTrue_chain (thn (ha pins s σ H _ I h) λv s1 ⟨x,H1,I1,r1,q1⟩=>test_link<|thn (hb pins s1 σ H1 _ I1 q1) λu s2 ⟨y,H2,I2,r2,q2⟩ =>thn (ho pins s2 σ H2 x y v u _ I2 r1 r2 q2) λd s3 ⟨z,H3,I3,r3,k,e,q3⟩=>?_) hm;subst e;cases r3;refine eR ?_;cases k with
 | false =>
  obtain⟨k',e',q'⟩:=q3;cases e';exact ite_ff ⟨H3,I3,q'⟩
 | true =>
  refine ite_tt (test_last<|thn (hc pins s3 σ H3 _ I3 q3) λw' s4 ⟨z',H4,I4,r4,q4⟩=>thn (ho' pins s4 σ H4 y z' u w' _ I4 r2 r4 q4) λd' s5 ⟨z2,H5,I5,r5,k2,e2,q5⟩=>?_);subst e2;cases r5;exact eR ⟨H5,I5,q5⟩
noncomputable def cM7(K:ad)(x:V)(H:Hp)(k:Bool):Prop :=
 match x with
 | .non=>k=false
 | .bl b=>k=b
 | .int i=>k=(i != 0)
 | .str y=>y.length<=eU/\k=((y.length:Int) != 0)
 | .byt y=>y.size<=eU/\k=((y.size:Int) != 0)
 | .ref p=>(∃xs,SqL K H p xs/\k = !xs.isEmpty)\/(∃xs,SqT K H p xs/\k = !xs.isEmpty)\/∃kvs,H p=Z (.dK kvs)/\k = !kvs.isEmpty
 | _=>False
def bj9{κ:Type}{kvs:List (κ×V)}{vs:List (κ×fM)}(r:KV kvs vs):(!vs.isEmpty) = !kvs.isEmpty:=by cases r<;>rfl
def aH8(r:E1 xs its):(!its.toArray.isEmpty) = !xs.isEmpty:=by cases r<;>simp
def an7:(eU:Nat) < 2 ^ 63:=by rw[eV];decide
def bH2:de3 X (λx H Q=>∃k,cM7 X.K x H k/\Q k H):=by
 intro pins s σ H x v Q I rx h;obtain⟨k,e,q⟩:=h;have hl:=an7;have hs:eU=16777216:=eV;cases x with
 | non =>
  cases rx;have e':k=false:=e;subst e';exact truthy_none ⟨H,I,q⟩
 | bl b =>
  cases rx;have e':k=b:=e;subst e';exact eR ⟨H,I,q⟩
 | int i =>
  obtain⟨t,rfl⟩:=rx;have e':k=(i != 0):=e;subst e';exact PySem.P.truthy_int ⟨H,I,q⟩
 | str y =>
  obtain⟨t,rfl⟩:=rx;obtain⟨hy,e'⟩:y.length<=eU/\k=((y.length:Int) != 0):=e;subst e';exact PySem.P.truthy_str (by omega) ⟨H,I.tok _,q⟩
 | byt y =>
  obtain⟨t,rfl⟩:=rx;obtain⟨hy,e'⟩:y.size<=eU/\k=((y.size:Int) != 0):=e;subst e';exact PySem.W.truthy_bytes (by omega) ⟨H,I.tok _,q⟩
 | ref p =>
  cases rx;have e':(∃xs,SqL X.K H p xs/\k = !xs.isEmpty)\/(∃xs,SqT X.K H p xs/\k = !xs.isEmpty)\/∃kvs,H p=Z (.dK kvs)/\k = !kvs.isEmpty:=e;rcases e' with⟨xs,hx,e'⟩|⟨xs,hx,e'⟩|⟨kvs,hx,e'⟩
  .subst e';obtain⟨its,r,pl,hz⟩:=I.list hx;have hlen:=r.length;exact wpAny_truthy_list pl.isList (by simp only[ap];omega) ⟨H,I.tok _,by rw[aH8 r];exact q⟩
  .subst e';obtain⟨its,r,pl,hz⟩:=I.tuple hx;have hlen:=r.length;exact truthy_tuple pl (by simp only[ap];omega) ⟨H,I.tok _,by rw[aH8 r];exact q⟩
  .subst e';obtain⟨hz,hS,vs,r,m⟩:kvs.length<=eU/\(p==sysModules)=false/\∃vs,KV kvs vs/\s.heap.DictOf (F8 X.prog X.w) p vs:=I.hok p _ hx;have hlen:kvs.length=vs.length:=Paired.length r;exact wpAny_truthy_dict hS m (by omega) ⟨H,I.tok _,by rw[bj9 r];exact q⟩
 | _=>exact(show False from e).elim
def bJ3(ha:PE X a ta)(he:∀whole,isTrue a X.env whole=(do let v ← whole;standAt a.pos;holding [v] (truthy v))):
  PT X a (λσ H Q=>ta σ H λx H'=>∃k,cM7 X.K x H' k/\Q k H'):=by
 intro pins s σ H Q I h;exact isTrue_plain (thn (ha pins s σ H _ I h) λv s1 ⟨x,H1,I1,r1,q1⟩=>bH2 pins s1 σ H1 x v Q I1 r1 q1)<|he _
def bi6:OpR X (fg .Add) (λx y H Q=>∃i j,x=.str i/\y=.str j/\i.length+j.length<=eU/\Q (.str<|i++j) H):=by
 intro pins s σ H x y v u Q I rx ry h;obtain⟨i,j,rfl,rfl,hz,q⟩:=h;obtain⟨t,rfl⟩:=rx;obtain⟨t',rfl⟩:=ry;exact add_str (λt' tk=>⟨.str<|i++j,H,I.tok _,⟨_,rfl⟩,q⟩) hz
def W3(r:E1 [x] us):∃u,us=[u]/\D9 x u:=by
 cases r with
 | cons r1 r2=>cases r2;exact⟨_,rfl,r1⟩
def co2(r:E1 [x,y] us):∃u w',us=[u,w']/\D9 x u/\D9 y w':=by
 cases r with
 | cons r1 r2 =>
  cases r2 with
  | cons r3 r4=>cases r4;exact⟨_,_,rfl,r1,r3⟩
def aP8:U9 X (.type "int") (λxs H Q=>(∃i,xs=[.int i]/\Q (.int i) H)\/∃k,xs=[.bl k]/\Q (.int (if k then 1 else 0)) H):=by
 intro pins s σ H xs us Q I r h;rcases h with⟨i,rfl,q⟩|⟨k,rfl,q⟩
 .obtain⟨u,rfl,t,rfl⟩:=W3 r;exact call_int_int ⟨.int i,H,I,⟨_,rfl⟩,q⟩
 .obtain⟨u,rfl,r1⟩:=W3 r;cases r1;exact call_int_bool ⟨.int (if k then 1 else 0),H,I.tok _,⟨_,rfl⟩,q⟩
end
def aD0.some_of(r:aD0 (Z v) o):∃u,o=Z u/\D9 v u:=by
 cases o with
 | none=>exact(show False from r).elim
 | some u=>exact⟨u,rfl,r⟩
structure Room (k:Nat) (A:fc):Prop where
 hd:A.handled=O
 dp:A.depth+3*k+5 < recursionLimit
 un:A.units+16*k+200 < cLine
def Room.mono(r:Room k A)(h:j<=k):Room j A:=⟨r.hd,by have:=r.dp;omega,by have:=r.un;omega⟩
theorem Room.deeper(r:Room (k+1) A)(env:Env):Room k (A.deeper env) :=
 ⟨r.hd,by have:=r.dp;show A.depth+1+3*k+5 < _;omega,by have:=r.un;show A.units+3+16*k+200 < _;omega⟩
theorem Room.depth(r:Room k A):A.depth < recursionLimit:=by have:=r.dp;omega
theorem Room.units(r:Room k A):A.units+64 < cLine:=by have:=r.un;omega
noncomputable def cP8:TA:=λ_ H Q=>Q [] H
noncomputable def cQ3(ta:TE)(tr:TA):TA:=λσ H Q=>ta σ H λx H1=>tr σ H1 λxs H2=>Q (x::xs) H2
section
variable {X:Cx}{e:Expr}{es:List Expr}{te:TE}{t:TA}{pos:Pos}
def J8:PA X [] cP8:=λ_ _ _ _ H Q I h=>Calls.spliced_nil ⟨[],H,I,.nil,h⟩
def E3(ha:PE X e te)(hr:PA X es t)(hs:eT (e::es) X.env=(false,eval e X.env)::eT es X.env:=by rfl):PA X (e::es) (cQ3 te t):=by
 intro pos pins s σ H Q I h;rw[hs];show ft _ _ (spliced ((false,eval e X.env)::backTo pos (eT es X.env))) _ _ s;refine Calls.spliced_cons (thn (ha pins s σ H _ I h) λu s1 ⟨x,H1,I1,r1,q1⟩=>?_);exact thn (hr pos pins s1 σ H1 _ I1 q1) λus s2 ⟨xs,H2,I2,r2,q2⟩=>⟨x::xs,H2,I2,.cons r1 r2,q2⟩
noncomputable def da2(t:TA):TE:=λσ H Q=>t σ H λxs H1=>xs.length<=eU/\∀p,H1 p=O->Q (.ref p) (upd H1 p<|.tup xs)
noncomputable def da8(t:TA):TE:=λσ H Q=>t σ H λxs H1=>xs.length<=eU/\∀p,H1 p=O->Q (.ref p) (upd H1 p<|.lst xs)
def cz6{x1}(h:PA X es t):PE X (.Tuple es x1 pos) (da2 t):=by
 intro pins s σ H Q I hq;refine wpAny_Tuple_spliced (thn (h pos pins s σ H _ I hq) λus s1 ⟨xs,H1,I1,r,z,q⟩=>⟨by rw[← r.length];exact z,?_⟩);have hf:H1 s1.heap.objs.size=O:=I1.hok.fresh (aj _);refine⟨.ref s1.heap.objs.size,upd H1 s1.heap.objs.size<|.tup xs,I1.laid (t':=s1.toks) (λb u e=>fw _ e) (aj _) ?_,rfl,q _ hf⟩;exact⟨z,us,r,⟨_,fB _ rfl,rfl,⟨_,rfl⟩,rfl⟩⟩
def cA1(h:PA X es t):PE X (.List es pos) (da8 t):=by
 intro pins s σ H Q I hq;refine wpAny_List_spliced (thn (h pos pins s σ H _ I hq) λus s1 ⟨xs,H1,I1,r,z,q⟩=>⟨by rw[← r.length];exact z,?_⟩);have hf:H1 s1.heap.objs.size=O:=I1.hok.fresh (aj _);refine⟨.ref s1.heap.objs.size,upd H1 s1.heap.objs.size<|.lst xs,I1.laid (t':=s1.toks) (λb u e=>fw _ e) (aj _) ?_,rfl,q _ hf⟩;exact⟨z,us,0,r,fB _ rfl⟩
end
noncomputable abbrev Sp:=List V->Hp->VK->XK->Prop
noncomputable abbrev CXT:=List Env->Hp->fN->XK->fM->fN->Prop
structure Env0 (P:fb) (w:World) (K:ad) (mg:Str->Option fM) (base:Heap) (A:fc) (outer:List Env) (s:fN) (H:Hp):Prop where
 frames:A.frames=Z outer
 mod:Mod K mg base
 bs:∀b o,base.get? b=Z o->s.heap.get? b=Z o/\H b=O
 bsz:base.objs.size<=s.heap.objs.size
 funs:s.heap.FunFrames base outer
 frf:∀b∈frs outer,H b=O
 hok:HOk P w H s.heap
 bare:AllBare s.gens
noncomputable def CE(outer:List Env)(P:fb)(w:World)(H:Hp)(s:fN)(Q:VK)(u:fM)(s':fN):Prop :=
 ∃v H',s'.os=s.os/\AllBare s'.gens/\Un (frs outer) [] H H' s.heap s'.heap/\HOk P w H' s'.heap/\D9 v u/\Q v H'
noncomputable def CR(CX:CXT)(outer:List Env)(P:fb)(w:World)(H:Hp)(s:fN)(Q:VK)(E:XK)(r:Result)(s':fN):Prop :=
 match r with
 | .ok (.ret u)=>CE outer P w H s Q u s'
 | .ok _=>False
 | .error e=>CX outer H s E e s'
structure FnOk (P:fb) (w:World) (K:ad) (mg:Str->Option fM) (base:Heap) (CX:CXT) (k:Nat) (f:fO) (fd:fe) (ps:List Str) (sp:Sp):Prop where
 len:∀vs H Q E,sp vs H Q E->vs.length=ps.length
 run:∀(A:fc) (outer:List Env) (s:fN) (H:Hp) (args:Args) (us:List fM) (vs:List V) (Q:VK) (E:XK),Room k A->Env0 P w K mg base A outer s H->BindsTo s fd args (ps.zip us)->E1 vs us->sp vs H Q E ->
  codeAny (fu P w) A (.call (.ref f) args) (CR CX outer P w H s Q E) s
theorem FnOk.mono{P:fb}{w:World}{K:ad}{mg:Str->Option fM}{base:Heap}{CX:CXT}{j k:Nat}{f:fO}{fd:fe}{ps:List Str}{sp:Sp}(F:FnOk P w K mg base CX j f fd ps sp)(h:j<=k):
  FnOk P w K mg base CX k f fd ps sp:=⟨F.len,λA outer s H args us vs Q E hr=>F.run A outer s H args us vs Q E<|hr.mono h⟩
section
variable {X:Cx}{pins:List (Addr×Obj)}{σ:St}{H:Hp}{s s':Shared}
def Inv.env0(I:Inv X pins σ H s):Env0 X.prog X.w X.K X.mg X.base X.A X.stack s H :=
 ⟨I.ok.frames,I.ok.mod,I.bs,aO I.ok.bsz I.sz,I.stack,I.stkFree,I.hok,I.bare⟩
def Inv.after(I:Inv X pins σ H s)(h:CE X.stack X.prog X.w H s Q u s'):EP X pins σ Q u s':=by
 obtain⟨v,H',os,bare,un,hok,r,q⟩:=h;obtain⟨hh,g,d,t,os'⟩:=s';obtain rfl:os'=s.os:=os;exact⟨v,H',I.call (h':=hh) (g':=g) (d':=d) (t':=t) (ch:=[]) un hok bare (λb z=>absurd z<|by simp),r,q⟩
end
noncomputable def co6(sp:Sp)(dvs:List V)(E:XK)(t:TA):TE:=λσ H Q=>t σ H λvs H1=>sp (vs++dvs) H1 Q E
def Q3(K:ad)(fd:fe)(ps:List Str)(ds:List fM):Prop :=
 ∀(s:fN) (us:List fM),K.In s.heap->(us++ds).length=ps.length->BindsTo s fd ⟨us,[]⟩ (ps.zip<|us++ds)
def Q3.all{K:ad}{fd:fe}{ps:List Str}(h:∀us:List fM,us.length=ps.length->bindArgs fd ⟨us,[]⟩=pure (ps.zip us)):Q3 K fd ps []:=λs us _ hl=>by
 rw[ba]at hl ⊢;exact .of_eq<|h us hl
def aX0(CX:CXT)(X:Cx)(E:XK):Prop:=∀(pins:List (fO×Obj)) (σ:St) (H:Hp) (s:fN) (e:fM) (s':fN),Inv X pins σ H s->CX X.stack H s E e s'->X.xe e s'
section
variable {X:Cx}{CX:CXT}{k:Nat}{f C:Addr}{fd:FuncData}{ps:List Str}{sp:Sp}{dvs:List V}{ds:List Value}{E:XK}{x m:Str}{p pos apos:Pos}{e o:Expr}{es:List Expr}{ta:TE}{t:TA}
def bI6(F:FnOk X.prog X.w X.K X.mg X.base CX k f fd ps sp)(hr:Room k X.A)(hb:Q3 X.K fd ps ds)(hd:E1 dvs ds)(hx:aX0 CX X E)
  (I:Inv X pins σ H s) (r:E1 vs us) (h:sp (vs++dvs) H Q E):ft (fu X.prog X.w) X.A (call (.ref f) us) (EP X pins σ Q) X.xe s:=by
 have r2:E1 (vs++dvs) (us++ds):=r.append hd;have hl:(us++ds).length=ps.length:=by rw[← r2.length];exact F.len _ _ _ _ h
 refine wpAny_call (codeAny_mono (F.run X.A X.stack s H ⟨us,[]⟩ (us++ds) (vs++dvs) Q E hr I.env0 (hb s us I.kIn hl) r2 h) λr s' hq=>?_);cases r with
 | error e=>exact hx pins σ H s e s' I hq
 | ok fl =>
  cases fl with
  | ret u=>exact I.after hq
  | next=>exact False.elim hq
  | brk=>exact False.elim hq
  | cont=>exact False.elim hq
def ce2(F:FnOk X.prog X.w X.K X.mg X.base CX k f fd ps sp)(hr:Room k X.A)(hg:Gl X x)(hm:X.mg x=Z (.ref f))(hk:aW X.K (.ref f)=true)(hb:Q3 X.K fd ps ds)(hd:E1 dvs ds)(hx:aX0 CX X E)
  (ha:PA X (e::es) t) (hdb:(x==("__debug__" : Str))=false:=by decide) (he:eT (e::es) X.env=(false,eval e X.env)::eT es X.env:=by rfl) (hpl:(backTo pos<|eT es X.env).any (·.1)=false:=by rfl) :
  PE X (.Call (.Name x p) (e::es) [] pos) (co6 sp dvs E t):=by
 intro pins s σ H Q I h;refine wpAny_Call_Name_kw (r8 I hg hm ?_ hdb);refine PySem.W.callWith_K (h₀:=X.base) I.ok.mod.kin hk (thn (ha pos pins s σ H _ I h) λus s1 ⟨vs,H1,I1,r,q⟩=>⟨I1.kIn,?_⟩) he hpl;exact bI6 F hr hb hd hx I1 r q
def bK8(F:FnOk X.prog X.w X.K X.mg X.base CX k f fd ps sp)(hr:Room k X.A)(hg:Gl X x)(hm:X.mg x=Z (.ref f))(hk:aW X.K (.ref f)=true)(hb:Q3 X.K fd ps ds)(hd:E1 dvs ds)(hx:aX0 CX X E)
  (hdb:(x==("__debug__" : Str))=false:=by decide):PE X (.Call (.Name x p) [] [] pos) (co6 sp dvs E cP8):=by
 intro pins s σ H Q I h;refine wpAny_Call_Name_kw (r8 I hg hm ?_ hdb);exact PySem.W.callWith_K0 I.kIn hk<|bI6 (us:=[]) F hr hb hd hx I .nil h
end
structure FnScope (N P:List Str) (sc:Scope):Prop where
 kind:sc.kind=.function
 co:sc.isCoroutine=false
 gen:sc.isGenerator=false
 nd:N.Nodup
 pre:N.take P.length=P
 par:∀x∈P,sc.names.lookup x=Z .local\/sc.names.lookup x=Z .cell
 nofree:∀y∈sc.names,y.2≠.free
theorem aP9{kindOf:Str->Option NameKind}{x:Str}:∀{binds:List (Str×fM)}{m:Str->Option fM},(∀v,(x,v)∉binds)->bindL kindOf binds m x=m x
 | [],_,_=>rfl
 | (n,v)::r,m,h=>by
  unfold bindL;rw[aP9 λw hw=>h w (xmm _ hw)];split
  .have:x≠n:=by rintro rfl;exact h v ah
   simp[this]
  .rfl
theorem aQ0{kindOf:Str->Option NameKind}{x:Str}:∀{binds:List (Str×fM)}{m:Str->Option fM},(∀v,(x,v)∉binds)->bindC kindOf binds m x=m x
 | [],_,_=>rfl
 | (n,v)::r,m,h=>by
  unfold bindC;rw[aQ0 λw hw=>h w (xmm _ hw)];split
  .rfl
  .have:x≠n:=by rintro rfl;exact h v ah
   simp[this]
theorem ax3{kindOf:Str->Option NameKind}{x:Str}{v:fM}:∀{P:List Str}{vs:List fM}{i:Nat}{m:Str->Option fM},P.Nodup->P[i]? = Z x->vs[i]? = Z v->kindOf x=Z .local ->
  bindL kindOf (P.zip vs) m x=Z v
 | [],_,_,_,_,h,_,_=>by simp at h
 | _::_,[],_,_,_,_,h,_=>by simp at h
 | p::P,w::vs,0,m,nd,h1,h2,hk=>by
  simp at h1 h2;subst h1;subst h2;show bindL kindOf ((p,w)::P.zip vs) m p=_;unfold bindL;rw[aP9 λv hv=>(bn.mp nd).1 (dk hv).1,if_pos hk];simp
 | p::P,w::vs,i+1,m,nd,h1,h2,hk=>by
  show bindL kindOf ((p,w)::P.zip vs) m x=_;unfold bindL;exact ax3 (i:=i) (bn.mp nd).2 (by simpa using h1) (by simpa using h2) hk
theorem ax4{kindOf:Str->Option NameKind}{x:Str}{v:fM}:∀{P:List Str}{vs:List fM}{i:Nat}{m:Str->Option fM},P.Nodup->P[i]? = Z x->vs[i]? = Z v->kindOf x≠Z .local ->
  bindC kindOf (P.zip vs) m x=Z v
 | [],_,_,_,_,h,_,_=>by simp at h
 | _::_,[],_,_,_,_,h,_=>by simp at h
 | p::P,w::vs,0,m,nd,h1,h2,hk=>by
  simp at h1 h2;subst h1;subst h2;show bindC kindOf ((p,w)::P.zip vs) m p=_;unfold bindC;rw[aQ0 λv hv=>(bn.mp nd).1 (dk hv).1,if_neg hk];simp
 | p::P,w::vs,i+1,m,nd,h1,h2,hk=>by
  show bindC kindOf ((p,w)::P.zip vs) m x=_;unfold bindC;exact ax4 (i:=i) (bn.mp nd).2 (by simpa using h1) (by simpa using h2) hk
noncomputable def Q5(N:List Str)(vs:List V):St:=vs.map Z++ax (N.length - vs.length) O
noncomputable def aW0(CX:CXT)(P:fb)(w:World)(K:ad)(mg:Str->Option fM)(base:Heap)(N:List Str)(qual:Str)(scope:Scope)(f:fO)(cd:fM)(A:fc)(outer:List Env)(s:fN)(H:Hp)(E:XK):Cx where
 prog:=P
 w:=w
 K:=K
 mg:=mg
 base:=base
 A:=A.deeper<|envOfC qual scope s.heap.objs.size f cd
 N:=N
 s₀:=s
 H₀:=H
 env:=envOfC qual scope s.heap.objs.size f cd
 outer:=outer
 stack:=envOfC qual scope s.heap.objs.size f cd::outer
 ex:=[]
 calm:=true
 fn:=λ_=>true
 pn:=[]
 xe:=λe s'=>ft (fu P w) (A.deeper<|envOfC qual scope s.heap.objs.size f cd) (leaving (envOfC qual scope s.heap.objs.size f cd) e) (λ_ s''=>CX outer H s E e s'') (λe' s''=>CX outer H s E e' s'') s'
def at6{sc:Scope}{n:Nat}{x:Str}(h:sc.names.lookup x=Z .cell):∃c,(cellsFrom n sc.names []).lookup x=Z c:=by
 have q:=PySem.W.cellsFrom_some sc.names n [] (.inl h);exact Option.isSome_iff_exists.mp q
def bA3{CX:CXT}{P:fb}{w:World}{K:ad}{mg:Str->Option fM}{base:Heap}{N ps:List Str}{qual:Str}{scope:Scope}{f:fO}{cd:fM}{A:fc}{outer:List Env}{s s1:fN}{H:Hp}{E:XK}{us:List fM}{vs:List V}
  (S:FnScope N ps scope) (hd:A.handled=O) (e0:Env0 P w K mg base A outer s H) (hl:vs.length=ps.length) (r:E1 vs us)
  (x:InCallC s s.heap.objs.size (bindL (envOfC qual scope s.heap.objs.size f cd).kindOf (ps.zip us) λ_=>O) (cellsFrom (s.heap.objs.size+1) scope.names []) (bindC (envOfC qual scope s.heap.objs.size f cd).kindOf (ps.zip us) λ_=>O) s1) :
  Inv (aW0 CX P w K mg base N qual scope f cd A outer s H E) [] (Q5 N vs) H s1:=by
 have hpl:ps.length<=N.length:=by have:=congrArg cT S.pre;rw[aA]at this;omega
 obtain⟨h1,tk,rfl,hk⟩:=x.done;have noA:∀b:fO,b∉(aW0 CX P w K mg base N qual scope f cd A outer s H E).ex:=λb z=>absurd (show b∈([]:List fO) from z) (by simp)
 refine⟨⟨e0.mod,S.kind,rfl,rfl,aj _,λy z c h1 h2=>?_,λy hy=>?_,λy c _ h=>?_,λ_=>hd,Around.frames_deeper e0.frames,.inr ⟨rfl,rfl⟩,λb z=>absurd z (noA b),e0.bs,e0.bsz,λb _ _=>noA b,λb z=>absurd z (noA b),e0.funs,e0.frf⟩,
  rfl,e0.bare,Un.kept hk,⟨_,x.toInCall.ns,λi y v h1 h2 h3=>?_⟩,λy c h=>⟨_,x.cell y c h⟩,e0.hok.fresh (aj _),λy c h=>?_,λp hp=>absurd (show p∈([]:List (fO×Obj)) from hp) (by simp),e0.hok.kept hk,?_⟩
 .exact name_of_addr x.apart (PySem.mem_of_lookup h1) (PySem.mem_of_lookup h2)
 .have hy:scope.names.lookup y=Z .cell\/scope.names.lookup y=Z .free:=hy;rcases hy with hy|hy
  .exact at6 hy
  .exact absurd rfl (S.nofree _<|PySem.mem_of_lookup hy)
 .exact bT (x.above y c<|PySem.mem_of_lookup h)
 .have hi:i < vs.length:=by
   unfold Q5 at h2;by_cases hi:i < vs.length
   .exact hi
   .rw[aM (by simpa using hi)]at h2;rw[bo]at h2;split at h2<;>cases h2
  have ha:vs[i]? = Z v:=by
   unfold Q5 at h2;rw[aX (by simpa using hi),aF]at h2;cases e:vs[i]? with
   | none=>rw[e]at h2;cases h2
   | some a=>rw[e]at h2;cases h2;rfl
  obtain⟨u,hu,rv⟩:=r.get ha;have hp:ps[i]? = Z y:=by rw[← S.pre,dD (by omega)];exact h1
  have ndP:ps.Nodup:=by rw[← S.pre];exact S.nd.sublist<|List.take_sublist _ _
  refine⟨u,rv,?_⟩;rcases S.par y (cA hp) with k|k
  .exact .inl ⟨k,ax3 ndP hp hu k⟩
  .obtain⟨c,e⟩:=at6 (n:=s.heap.objs.size+1) k;refine .inr ⟨.inl k,c,e,?_⟩;have q:=x.cell y c e;rw[ax4 ndP hp hu (by show scope.names.lookup y≠_;rw[k];decide)]at q;exact q
 .exact e0.hok.fresh (bT<|x.above y c (PySem.mem_of_lookup h))
 .unfold Q5;show _=N.length;rw[ae,ag,bN];omega
def aP1{CX:CXT}{P:fb}{w:World}{K:ad}{mg:Str->Option fM}{base:Heap}{k:Nat}{f:fO}{name qual:Str}{params:Arguments}{body:List Stmt}{scope:Scope}{dV kV doc pm cdv ct oc:fM}{an od:Option fO}
  {osl:Array (Option fM)}{N ps:List Str}{sp:Sp}(lk:K.lookup f=Z ⟨oc,od,.func<|bM name qual params body scope dV kV doc pm an cdv ct,osl⟩) (hcd:cN K cdv qual=true) (S:FnScope N ps scope)
  (len:∀vs H Q E,sp vs H Q E->vs.length=ps.length)
  (hbody:∀(A:fc) (outer:List Env) (s:fN) (H:Hp) (vs:List V) (Q:VK) (E:XK),Room k (A.deeper (envOfC qual scope s.heap.objs.size f cdv))->sp vs H Q E ->
   ∃t,PSs (aW0 CX P w K mg base N qual scope f cdv A outer s H E) body t/\t { nx:=λ_ H'=>Q .non H',rt:=Q } (Q5 N vs) H) :
  FnOk P w K mg base CX (k+1) f (bM name qual params body scope dV kV doc pm an cdv ct) ps sp:=by
 refine⟨len,λA outer s H args us vs Q E hr e0 hb r hsp=>?_⟩;have hl:=len _ _ _ _ hsp;have KX:K.In s.heap:=e0.mod.kin.keeps λb o e=>(e0.bs b o e).1
 have lim:s.heap.NoLimit:=e0.mod.nolimit.keeps λb o e=>(e0.bs b o e).1
 have hkind:∀y∈ps.zip us,scope.names.lookup y.1=Z .local\/(scope.names.lookup y.1=Z .cell/\((cellsFrom (s.heap.objs.size+1) scope.names []).lookup y.1).isSome=true):=λ⟨n,v⟩ hy=>by
  rcases S.par n (dk hy).1 with q|q
  .exact .inl q
  .exact .inr ⟨q,PySem.W.cellsFrom_some _ _ _<|.inl q⟩
 refine codeAny_call_function hr.depth (KX _ _ lk) rfl S.co S.gen rfl (PySem.W.codeRec_of KX hcd) (hb _ _ _ _ ?_);refine wpAny_newFunctionEnv_cells S.kind hkind λenv he s1 x=>?_
 subst he;refine⟨lim.keeps x.toInCall.keep,codeAny_func ?_⟩;obtain⟨t,ht,hq⟩:=hbody A outer s H vs Q E (hr.deeper _) hsp;have I:Inv (aW0 CX P w K mg base N qual scope f cdv A outer s H E) [] (Q5 N vs) H s1:=bA3 S hr.hd e0 hl r x;refine eO (ht [] s1 (Q5 N vs) H _ I hq) (λfl s' hs=>?_) λe s' hs=>hs
 have fin:∀{σ':St}{H':Hp}{v:V}{u:fM},Inv (aW0 CX P w K mg base N qual scope f cdv A outer s H E) [] σ' H' s'->D9 v u->Q v H'->CE outer P w H s Q u s' :=
  λ{σ' H' v u} J rv q=>⟨v,H',J.os,J.bare,J.base,J.hok,rv,q⟩
 cases fl with
 | ret u =>
  obtain⟨v,σ',H',J,rv,q⟩:=hs;exact fin J rv q
 | next =>
  obtain⟨σ',H',J,q⟩:=hs;exact fin (v:=V.non) (u:=fJ) J rfl q
 | brk =>
  obtain⟨_,_,_,q⟩:=hs;exact False.elim q
 | cont =>
  obtain⟨_,_,_,q⟩:=hs;exact False.elim q
section
variable {X:Cx}{x:Str}{p pos:Pos}{e:Expr}{es:List Expr}{t:TA}{id T:String}{r:List V->Hp->VK->Prop}
noncomputable def tCB(r:List V->Hp->VK->Prop)(t:TA):TE:=λσ H Q=>t σ H λvs H1=>r vs H1 Q
def Q9(hc:U9 X (.builtin id) r)(hg:Gl X x)(hm:X.mg x=O)(hv:ff x=Z (.builtin id))(ha:PA X (e::es) t)(hn:x ≠ "__name__" := by decide)(hdb:(x==("__debug__" : Str))=false:=by decide)
  (he:eT (e::es) X.env=(false,eval e X.env)::eT es X.env:=by rfl) (hpl:(backTo pos<|eT es X.env).any (·.1)=false:=by rfl):PE X (.Call (.Name x p) (e::es) [] pos) (tCB r t):=by
 intro pins s σ H Q I h;refine wpAny_Call_Name_kw (aH3 I hg hm hv ?_ hn hdb);exact PyProof.Rows.callWith_builtin1 (thn (ha pos pins s σ H _ I h) λus s1 ⟨vs,H1,I1,r1,q1⟩=>hc pins s1 σ H1 vs us Q I1 r1 q1) he hpl
def Z6(hc:U9 X (.type T) r)(hg:Gl X x)(hm:X.mg x=O)(hv:ff x=Z (.type T))(ha:PA X (e::es) t)(hn:x ≠ "__name__" := by decide)(hdb:(x==("__debug__" : Str))=false:=by decide)
  (he:eT (e::es) X.env=(false,eval e X.env)::eT es X.env:=by rfl) (hpl:(backTo pos<|eT es X.env).any (·.1)=false:=by rfl):PE X (.Call (.Name x p) (e::es) [] pos) (tCB r t):=by
 intro pins s σ H Q I h;refine wpAny_Call_Name_kw (aH3 I hg hm hv ?_ hn hdb);exact PyProof.Rows.callWith_type1 (thn (ha pos pins s σ H _ I h) λus s1 ⟨vs,H1,I1,r1,q1⟩=>hc pins s1 σ H1 vs us Q I1 r1 q1) he hpl
end
end L2
namespace HT
open PySem PyProof.Rows
section
variable {prog:Program}{w:World}{A:Around}{E:Value->Shared->Prop}{s:Shared}
def cat_tup(ht:IsTup s.heap t vs.toArray)(hb:IsTup s.heap b ws.toArray)(hv:vs≠[])
  (h1:ws=[]->Q (.ref t) s) (h2:ws≠[]->Q (.ref s.heap.objs.size) { s with heap:=s.heap.push { cls:=.type "tuple", data:=.seq (vs++ws).toArray } })
  (hsz:vs.length+ws.length<=eU):ft (fu prog w) A (fg .Add (.ref t)<|.ref b) Q E s:=by
 obtain⟨⟨cls,dd,data,sl⟩,ho,hc,n,hd⟩:=id ht;obtain⟨⟨cls2,dd2,data2,sl2⟩,ho2,hc2,n2,hd2⟩:=id hb;simp only at hc hd hc2 hd2;subst hc hd hc2 hd2;have e:vs.toArray++ws.toArray=(vs++ws).toArray:=by simp
 by_cases hw:ws=[]
 .exact concat_meets ⟨_,ho,rfl⟩ ⟨_,ho2,rfl⟩ noFill_tuple_add seq_tuple_add PySem.F.slot_tuple_add PySem.F.entry_tuple_add (PySem.F.args_tuple_add_2 _ _)
   (tuple_addW1 t b vs.toArray ws.toArray n n2 dd dd2 sl sl2 (by simpa using hv)<|by simp[hw]) ⟨ho,ho2,h1 hw⟩
 .refine concat_meets ⟨_,ho,rfl⟩ ⟨_,ho2,rfl⟩ noFill_tuple_add seq_tuple_add PySem.F.slot_tuple_add PySem.F.entry_tuple_add (PySem.F.args_tuple_add_2 _ _)
   (tuple_addW2 t b vs.toArray ws.toArray n n2 dd dd2 sl sl2 (by simpa using hv) (by simpa using hw) (by rw[ap,ap];exact hsz)) ⟨ho,ho2,?_⟩
  rw[e];exact h2 hw
noncomputable def sIx(n d:Nat):Option Int->Nat
 | none=>d
 | some v=>if v < 0 then(v+(n:Int)).toNat else min v.toNat n
def sIx_none(n d:Nat):sIx n d O=d:=rfl
def sIx_nat(n d k:Nat):sIx n d (Z (k:Int))=min k n:=by
 show(if(k:Int) < 0 then((k:Int)+(n:Int)).toNat else min (k:Int).toNat n)=min k n;rw[if_neg (by omega),bp]
def cx0(n d:Nat)(hd:d<=n)(o:Option Int):sIx n d o<=n:=by
 cases o with
 | none=>exact hd
 | some v =>
  show(if v < 0 then(v+(n:Int)).toNat else min v.toNat n)<=n;by_cases hv:v < 0
  .rw[if_pos hv];omega
  .rw[if_neg hv];exact dF _ _
def bu9(v:Int)(n d:Nat):(if v < 0 then max (v+(n:Int)) 0 else min v (n:Int))=((sIx n d (Z v):Nat):Int):=by
 show(if v < 0 then max (v+(n:Int)) 0 else min v (n:Int))=(((if v < 0 then(v+(n:Int)).toNat else min v.toNat n):Nat):Int);by_cases hv:v < 0
 .simp only[if_pos hv];omega
 .simp only[if_neg hv];omega
def bn6(lo hi:Option Int)(n:Nat):Builtin.Slice.sliceAdjust lo hi 1 (n:Int)=(((sIx n 0 lo:Nat):Int),((sIx n n hi:Nat):Int)):=by
 have h1:¬((1:Int) < 0):=by omega
 unfold Builtin.Slice.sliceAdjust;simp only[h1,if_false];refine Prod.ext ?_ ?_
 .cases lo with
  | none=>rfl
  | some v=>exact bu9 v n 0
 .cases hi with
  | none=>rfl
  | some v=>exact bu9 v n n
def bi2(i j:Nat):Builtin.Slice.slicePlaces (i:Int) (j:Int) 1=j - i:=by
 unfold Builtin.Slice.slicePlaces;have h1:(1:Int) > 0:=by omega
 simp only[h1,if_true,Int.ediv_one];split<;>omega
def aF8(p:IsPart v o)(h:Q o s):ft (fu prog w) A (Builtin.Slice.slicePartIndex v) Q E s:=by
 cases p with
 | none=>exact slicePart_none h
 | int i t=>exact slicePart_int h
def sliceApplied_gen{sl:fO}{vl vu:fM}{lo hi:Option Int}{n:Nat}{Q:Int×Int×Nat->fN->Prop}(hs:s.heap.IsSliceOf sl vl vu .none)(pl:IsPart vl lo)(pu:IsPart vu hi)
  (h:Q (((sIx n 0 lo:Nat):Int),1,sIx n n hi - sIx n 0 lo) s):ft (fu prog w) A (Builtin.Slice.sliceApplied (.ref sl)<|pure (n:Int)) Q E s:=by
 obtain⟨os,hos,hcs,hds⟩:=id hs;unfold Builtin.Slice.sliceApplied Builtin.Slice.sliceFields;refine eK (eK<|eS hos hds (x:=vl) rfl (eK<|eS hos hds (x:=vu) rfl (eK<|eS hos hds (x:=.none) rfl (eM ?_))));refine eK (slicePart_none ?_);show ft _ _ (if((1:Int)==0)=true then _ else _) _ _ s;rw[if_neg (by decide)];refine eK (aF8 pl<|eK (aF8 pu<|eK (eM ?_)));show ft _ _ (match Builtin.Slice.sliceAdjust lo hi 1 (n:Int) with|(lo,hi)=>pure (lo,(1:Int),Builtin.Slice.slicePlaces lo hi 1)) _ _ s;rw[bn6 lo hi n];show ft _ _ (pure (((sIx n 0 lo:Nat):Int),(1:Int),Builtin.Slice.slicePlaces ((sIx n 0 lo:Nat):Int) ((sIx n n hi:Nat):Int) 1)) _ _ s;rw[bi2];exact eM h
def bK2(xs:Array fM)(i k:Nat):((ay k).filterMap λ(m:Nat)=>xs[((i:Int)+(m:Int)*1).toNat]?).toArray=((xs.toList.drop i).take k).toArray:=by
 have e:(λ(m:Nat)=>xs[((i:Int)+(m:Int)*1).toNat]?)=λm=>xs[i+m]?:=by
  funext m
  have:((i:Int)+(m:Int)*1).toNat=i+m:=by omega
  rw[this]
 rw[e];have:=pick_run xs i k;rw[List.filterMap_map]at this;have e2:((λx=>xs[x]?) ∘ λx=>i+x)=λm=>xs[i+m]?:=rfl
 rw[e2]at this;rw[this]
def getItem_tuple_cut{t sl:fO}{items:Array fM}{vl vu:fM}{lo hi:Option Int}{Q:fM->fN->Prop}(ht:IsTup s.heap t items)(hs:s.heap.IsSliceOf sl vl vu .none)(pl:IsPart vl lo)(pu:IsPart vu hi)
  (hw:¬(sIx items.size 0 lo=0/\sIx items.size items.size hi=items.size))
  (h:Q (.ref s.heap.objs.size) { s with heap:=s.heap.push { cls:=.type "tuple", data:=.seq ((items.toList.drop<|sIx items.size 0 lo).take<|sIx items.size items.size hi - sIx items.size 0 lo).toArray } })
  (hsz:items.size<=eU):ft (fu prog w) A (getItem (.ref t)<|.ref sl) Q E s:=by
 have htake:sizeOk (.seq ((items.toList.drop<|sIx items.size 0 lo).take<|sIx items.size items.size hi - sIx items.size 0 lo).toArray):=by
  show((items.toList.drop<|sIx items.size 0 lo).take<|sIx items.size items.size hi - sIx items.size 0 lo).toArray.size<=eU;rw[ap,aA,aY,aV];omega
 have hj:sIx items.size items.size hi<=items.size:=cx0 _ _ (aj _) hi;obtain⟨os,hos,hcs,hds⟩:=id hs;have hTs:s.TypeIs (.ref sl) "slice" := ⟨os,hos,hcs⟩;unfold getItem
 try with_reducible refine wpAny_holding ?_
 first|refine eK (eM ?_)|skip
 refine eK (wpAny_sequenceKey ht.typeIs (by decide) ?_)
 refine eK (wpAny_callSpecial?_slot (name:=Str.ofString "__getitem__") ht.typeIs PyProof.Rows.slot_tuple_getitem
  (wpAny_call_entry PyProof.Rows.slot_tuple_getitem ht.typeIs entry_tuple_getitem ?_ (args_tuple_getitem _ _)))
 show ft _ _ (Builtin.Tuple.tupleItemsOf (.ref t) >>= _) _ _ s;refine eK (tupleItemsOf_ ht ?_);refine eK (wpAny_typeOf hTs ?_);rw[if_pos (by decide)];refine eK<|sliceApplied_gen hs pl pu ?_
 have hno:¬((((sIx items.size 0 lo:Nat):Int)==0&&(1:Int)==1&&(sIx items.size items.size hi - sIx items.size 0 lo)==items.size)=true):=by
  intro q;rw[af,af]at q;have q1:((sIx items.size 0 lo:Nat):Int)=0:=eq_of_beq q.1.1;have q2:sIx items.size items.size hi - sIx items.size 0 lo=items.size:=eq_of_beq q.2;exact hw ⟨by omega,by omega⟩
 show ft _ _ (if(((sIx items.size 0 lo:Nat):Int)==0&&(1:Int)==1&&(sIx items.size items.size hi - sIx items.size 0 lo)==items.size)=true then _ else _) _ _ s;rw[if_neg hno,bK2]
 first
  | exact eK (m:=Builtin.Tuple.tupleExact _)<|eQ (eM ⟨_,rfl,eM h⟩) htake
  | exact eK (m:=Builtin.Tuple.tupleExact _)<|eQ (eK<|eM (eM ⟨_,rfl,eM h⟩)) htake
  | exact eK<|eK (m:=Builtin.Tuple.tupleExact _) (eQ (eM<|eM ⟨_,rfl,eM h⟩) htake)
  | exact eK<|eK (m:=Builtin.Tuple.tupleExact _) (eQ (eM ⟨_,rfl,eM h⟩) htake)
end
end HT
namespace L2
open PySem PySem.Spec PyProof.Rows
noncomputable abbrev TO:=St->Hp->(Option Int->Hp->Prop)->Prop
noncomputable def PO(X:Cx)(e:Option Expr)(t:TO):Prop :=
 ∀(pins:List (fO×Obj)) (s:fN) (σ:St) (H:Hp) (Q:Option Int->Hp->Prop),Inv X pins σ H s->t σ H Q ->
  ft (fu X.prog X.w) X.A (evalPart e X.env) (λu s'=>∃o H',Inv X pins σ H' s'/\IsPart u o/\Q o H') X.xe s
noncomputable def ca9:TO:=λ_ H Q=>Q O H
noncomputable def cP6(t:TE):TO:=λσ H Q=>t σ H λx H1=>∃i,x=.int i/\Q (Z i) H1
section
variable {X:Cx}{e:Expr}{te:TE}{lo hi:Option Expr}{tl th:TO}{pos p2:Pos}
def cd3:PO X O ca9:=by
 intro pins s σ H Q I h;rw[evalPart_none];exact eM ⟨O,H,I,.none,h⟩
def cd2(h:PE X e te):PO X (Z e) (cP6 te):=by
 intro pins s σ H Q I hw;rw[evalPart_some];refine thn (h pins s σ H _ I hw) λu s1 ⟨x,H1,I1,r1,q1⟩=>?_
 obtain⟨i,rfl,q⟩:=q1;obtain⟨t,rfl⟩:=r1;exact⟨Z i,H1,I1,.int i t,q⟩
noncomputable def SlR(X:Cx)(r:V->Option Int->Option Int->Hp->VK->Prop):Prop :=
 ∀(pins:List (fO×Obj)) (s:fN) (σ:St) (H:Hp) (x:V) (v vl vu:fM) (lo hi:Option Int) (sl:fO) (Q:VK),Inv X pins σ H s->D9 x v->s.heap.IsSliceOf sl vl vu .none->IsPart vl lo->IsPart vu hi->r x lo hi H Q ->
  ∃T id,typeLookup (.type T) "__getitem__" = pure (Z<|.builtin id)/\s.TypeIs v T/\ft (fu X.prog X.w) X.A (getItem v<|.ref sl) (EP X pins σ Q) X.xe s
def SlR.or(h:SlR X r)(h':SlR X r'):SlR X (λx lo hi H Q=>r x lo hi H Q\/r' x lo hi H Q):=by
 intro pins s σ H x v vl vu lo hi sl Q I rx hs pl pu q;rcases q with q|q
 .exact h pins s σ H x v vl vu lo hi sl Q I rx hs pl pu q
 .exact h' pins s σ H x v vl vu lo hi sl Q I rx hs pl pu q
noncomputable def tSl(r:V->Option Int->Option Int->Hp->VK->Prop)(te:TE)(tl th:TO):TE:=λσ H Q=>te σ H λx H1=>tl σ H1 λl H2=>th σ H2 λu H3=>r x l u H3 Q
def ar2(hr:SlR X r)(he:PE X e te)(hl:PO X lo tl)(hu:PO X hi th):PE X (.Subscript e (.Slice lo hi O p2) pos) (tSl r te tl th):=by
 intro pins s σ H Q I h;refine Subscript_ (thn (he pins s σ H _ I h) λv s1 ⟨x,H1,I1,r1,q1⟩=>?_);refine wpAny_Slice (thn (hl pins s1 σ H1 _ I1 q1) λvl s2 ⟨l,H2,I2,pl,q2⟩=>thn (hu pins s2 σ H2 _ I2 q2) λvu s3 ⟨u,H3,I3,pu,q3⟩=>?_);rw[evalPart_none];refine eM ?_;have I4:Inv X pins σ H3 { s3 with heap:=s3.heap.push { cls:=.type "slice", data:=.fields #[vl,vu,.none] } }:=I3.kept (t':=s3.toks) λb ob q=>fw _ q
 obtain⟨T,id,hT,ht,hg⟩:=hr pins { s3 with heap:=s3.heap.push { cls:=.type "slice", data:=.fields #[vl,vu,.none] } } σ H3 x v vl vu l u s3.heap.objs.size Q I4 r1 (Heap.IsSliceOf.new ..) pl pu q3;show ft (fu X.prog X.w) X.A (subscriptTail e (.Slice lo hi O p2) v<|.ref s3.heap.objs.size) (EP X pins σ Q) X.xe { s3 with heap:=s3.heap.push { cls:=.type "slice", data:=.fields #[vl,vu,.none] } };exact tail_any (ops:=[.ref s3.heap.objs.size,v]) ht hT hg (by with_unfolding_all rfl)
noncomputable def be6(xs:List V)(lo hi:Option Int):List V:=(xs.drop<|HT.sIx xs.length 0 lo).take<|HT.sIx xs.length xs.length hi - HT.sIx xs.length 0 lo
def aB1(xs:List V)(lo hi:Option Int):(be6 xs lo hi).length<=xs.length:=by
 unfold be6;rw[aA,aY];omega
noncomputable def db4(K:ad):V->Option Int->Option Int->Hp->VK->Prop:=λx lo hi H Q=>∃a xs,x=.ref a/\SqT K H a xs /\
 ¬(HT.sIx xs.length 0 lo=0/\HT.sIx xs.length xs.length hi=xs.length)/\∀p,H p=O->Q (.ref p) (upd H p<|.tup (be6 xs lo hi))
def cw9:SlR X (db4 X.K):=by
 intro pins s σ H x v vl vu lo hi sl Q I rx hs pl pu h;obtain⟨a,xs,rfl,hx,hw,q⟩:=h;cases rx;obtain⟨its,r,ht,hz⟩:=I.tuple hx;have hlen:its.toArray.size=xs.length:=by rw[ap];exact r.length.symm
 refine⟨"tuple", _,PyProof.Rows.slot_tuple_getitem.lookup,ht.typeIs,?_⟩;refine HT.getItem_tuple_cut ht hs pl pu (by rw[hlen];exact hw) ?_ (by rw[hlen];exact hz);rw[hlen];refine⟨.ref s.heap.objs.size,_,I.laid (t':=s.toks) (o:=.tup<|be6 xs lo hi) (λb ob q=>fw _ q) (aj _) ?_,rfl,q _<|I.hok.fresh (aj _)⟩;exact⟨aO (aB1 xs lo hi) hz,_,(r.drop<|HT.sIx xs.length 0 lo).take<|HT.sIx xs.length xs.length hi - HT.sIx xs.length 0 lo,aJ4.new _ _⟩
noncomputable def cR7(K:ad):R2:=λx y H Q=>∃a b xs ys,x=.ref a/\y=.ref b/\SqT K H a xs/\SqT K H b ys/\xs≠[]/\xs.length+ys.length<=eU /\
 (ys=[]->Q (.ref a) H)/\(ys≠[]->∀p,H p=O->Q (.ref p) (upd H p<|.tup (xs++ys)))
def E1.nil_iff(r:E1 xs us):us=[]↔xs=[]:=by
 cases r with
 | nil=>simp
 | cons _ _=>simp
def ce8:OpR X (fg .Add) (cR7 X.K):=by
 intro pins s σ H x y v u Q I rx ry h;obtain⟨a,b,xs,ys,rfl,rfl,ha,hb,hx,hz,q1,q2⟩:=h;cases rx;cases ry;obtain⟨its,r1,p1,_⟩:=I.tuple ha;obtain⟨its2,r2,p2,_⟩:=I.tuple hb;refine HT.cat_tup p1 p2 (λz=>hx<|r1.nil_iff.mp z) (λz=>⟨.ref a,H,I,rfl,q1<|r2.nil_iff.mp z⟩) (λz=>?_) (by rw[← r1.length,← r2.length];exact hz);refine⟨.ref s.heap.objs.size,_,I.laid (t':=s.toks) (o:=.tup<|xs++ys) (λb ob q=>fw _ q) (aj _) ?_,rfl,q2 (λw=>z<|r2.nil_iff.mpr w) _<|I.hok.fresh (aj _)⟩;exact⟨by rw[ae];exact hz,_,r1.append r2,aJ4.new _ _⟩
end
noncomputable def ixN(n:Nat)(i:Int):Option Nat:=if 0<=i then(if i < n then Z i.toNat else O) else if -(n:Int)<=i then Z (i+n).toNat else O
noncomputable def atI{α:Type}(xs:List α)(i:Int):Option α:=(ixN xs.length i).bind λj=>xs[j]?
def cj9(h:ixN n i=Z j):seqIndex? i n=Z j/\j < n/\-(n:Int)<=i/\i < n:=by
 unfold ixN at h;by_cases h0:0<=i
 .rw[if_pos h0]at h;by_cases h1:i < n
  .rw[if_pos h1]at h;have e:i.toNat=j:=bf.inj h;exact⟨by rw[seqIndex_of h0 h1,e],by omega,by omega,h1⟩
  .rw[if_neg h1]at h;cases h
 .rw[if_neg h0]at h;by_cases h1:-(n:Int)<=i
  .rw[if_pos h1]at h;have e:(i+n).toNat=j:=bf.inj h;exact⟨by rw[seqIndex_neg (by omega) h1,e],by omega,h1,by omega⟩
  .rw[if_neg h1]at h;cases h
def aW7{α:Type}{xs:List α}{i:Int}{v:α}(h:atI xs i=Z v):∃j,seqIndex? i xs.length=Z j/\xs[j]? = Z v/\j < xs.length/\-(xs.length:Int)<=i/\i < xs.length:=by
 unfold atI at h;cases e:ixN xs.length i with
 | none=>rw[e]at h;cases h
 | some j =>
  rw[e]at h;obtain⟨h1,h2,h3,h4⟩:=cj9 e;exact⟨j,h1,h,h2,h3,h4⟩
def Q1{α:Type}{xs:List α}{j:Nat}{v:α}(h:xs[j]? = Z v):atI xs (j:Int)=Z v:=by
 have hj:j < xs.length:=(ak.mp h).1
 have e:ixN xs.length (j:Int)=Z j:=by
  unfold ixN;rw[if_pos (by omega),if_pos (by omega)];simp
 unfold atI;rw[e];exact h
def au0(b:Expr):Prop:=∀o i,subscripted b false o i=operate [o,i] (getItem o i)
noncomputable def IxR(X:Cx)(r:R2):Prop :=
 ∀(value slice:Expr) (pins:List (fO×Obj)) (s:fN) (σ:St) (H:Hp) (x y:V) (v u:fM) (Q:VK),Inv X pins σ H s->D9 x v->D9 y u->r x y H Q ->
  subscripted slice false v u=operate [v,u] (getItem v u)->ft (fu X.prog X.w) X.A (subscriptTail value slice v u) (EP X pins σ Q) X.xe s
noncomputable def MtR(X:Cx)(id:String)(r:V->List V->Hp->VK->Prop):Prop :=
 ∀(pins:List (fO×Obj)) (s:fN) (σ:St) (H:Hp) (x:V) (xs:List V) (v:fM) (us:List fM) (Q:VK),Inv X pins σ H s->D9 x v->E1 xs us->r x xs H Q ->
  ft (fu X.prog X.w) X.A (call (.builtin id) (v::us)) (EP X pins σ Q) X.xe s
section
variable {X:Cx}{a b:Expr}{ta tb:TE}{pos:Pos}
def IxR.or(h:IxR X r)(h':IxR X r'):IxR X (λx y H Q=>r x y H Q\/r' x y H Q):=by
 intro value slice pins s σ H x y v u Q I rx ry q hs;rcases q with q|q
 .exact h value slice pins s σ H x y v u Q I rx ry q hs
 .exact h' value slice pins s σ H x y v u Q I rx ry q hs
def cp6(hr:IxR X r)(ha:PE X a ta)(hb:PE X b tb)(hs:au0 b):PE X (.Subscript a b pos) (tOp r ta tb):=by
 intro pins s σ H Q I h;exact Subscript_<|cL3 ha hb I h λv u s2 x y H2 I2 rx ry q=>hr a b pins s2 σ H2 x y v u Q I2 rx ry q<|hs _ _
noncomputable def cR6(K:ad):R2:=λx y H Q=>∃p xs i v,x=.ref p/\y=.int i/\SqL K H p xs/\atI xs i=Z v/\Q v H
noncomputable def cR4(K:ad):R2:=λx y H Q=>∃p xs i v,x=.ref p/\y=.int i/\SqT K H p xs/\atI xs i=Z v/\Q v H
noncomputable def cR5:R2:=λx y H Q=>∃z i c,x=.str z/\y=.int i/\z.length<=eU/\atI z.cps.toList i=Z c/\Q (.str ⟨#[c]⟩) H
def cj8:IxR X (cR6 X.K):=by
 intro value slice pins s σ H x y v u Q I rx ry h hs;obtain⟨p,xs,i,z,rfl,rfl,hq,he,q⟩:=h;cases rx;obtain⟨t,rfl⟩:=ry;obtain⟨its,r,pl,hz⟩:=I.list hq;obtain⟨j,h1,h2,h3,h4,h5⟩:=aW7 he;obtain⟨w,ew,rw'⟩:=r.get h2;have hl:=r.length;have hn:=an7;have fin:EP X pins σ Q w s:=⟨z,H,I,rw',q⟩;by_cases h0:0<=i
 .have hj:i.toNat=j:=by
   rw[seqIndex_of h0 h5]at h1;exact bf.inj h1
  exact item_listR pl.isList h0 (by omega) (by rw[hj];simpa using ew) fin hs
 .have hj:(i+(its.toArray.size:Int)).toNat=j:=by
   rw[seqIndex_neg (by omega) h4]at h1;rw[ap,← hl];exact bf.inj h1
  exact subscriptTail_builtinR (x:=w) pl.isList.typeIs slot_list_getitem.lookup
   (wpAny_getItem_list_neg (Q:=λr s'=>r=w/\EP X pins σ Q r s') pl.isList (by omega) (by rw[ap]<;>omega) (by omega) (by rw[hj];simpa using ew) ⟨rfl,fin⟩) hs
def cI3:IxR X (cR4 X.K):=by
 intro value slice pins s σ H x y v u Q I rx ry h hs;obtain⟨p,xs,i,z,rfl,rfl,hq,he,q⟩:=h;cases rx;obtain⟨t,rfl⟩:=ry;obtain⟨its,r,pl,hz⟩:=I.tuple hq;obtain⟨j,h1,h2,h3,h4,h5⟩:=aW7 he;obtain⟨w,ew,rw'⟩:=r.get h2;have hl:=r.length;have hn:=an7;have fin:EP X pins σ Q w s:=⟨z,H,I,rw',q⟩
 exact subscriptTail_builtinR (x:=w) pl.typeIs slot_tuple_getitem.lookup
  (getItem_tuple (j:=j) (Q:=λr s'=>r=w/\EP X pins σ Q r s') pl (by omega) (by omega) (by rw[ap,← hl];exact h1) (by simpa using ew) ⟨rfl,fin⟩) hs
def cI4:IxR X cR5:=by
 intro value slice pins s σ H x y v u Q I rx ry h hs;obtain⟨z,i,c,rfl,rfl,hz,he,q⟩:=h;obtain⟨t,rfl⟩:=rx;obtain⟨t',rfl⟩:=ry;obtain⟨j,h1,h2,h3,h4,h5⟩:=aW7 he;have hl:z.cps.toList.length=z.length:=by simp[Str.length]
 rw[hl]at h1 h4 h5;have hn:=an7
 exact tail_any (typeIs_str s z t) slot_str_getitem.lookup (getItem_str (c:=c) (by
  have e1:decide (i < -(2 ^ 63:Int))=false:=decide_eq_false (by omega);have e2:decide (i ≥ 2 ^ 63)=false:=decide_eq_false (by omega)
  rw[e1,e2,Bool.or_false]) (by rw[h1];simpa using h2) ⟨.str ⟨#[c]⟩,H,I.tok _,⟨_,rfl⟩,q⟩) hs
noncomputable def rIx(K:ad):R2:=λx y H Q=>cR6 K x y H Q\/cR4 K x y H Q\/cR5 x y H Q
def bR1:IxR X (rIx X.K):=cj8.or<|cI3.or cI4
def aq3(lo hi:Option Int)(n:Nat):(sliceBounds lo hi O n).1=((HT.sIx n 0 lo:Nat):Int)/\(sliceBounds lo hi O n).2.1=((HT.sIx n n hi:Nat):Int)/\(sliceBounds lo hi O n).2.2=1:=by
 refine⟨?_,?_,rfl⟩
 .cases lo with
  | none=>simp[sliceBounds,HT.sIx]
  | some i =>
   simp only[sliceBounds,HT.sIx,Option.getD_none,show(1:Int) > 0 by decide,if_true];by_cases h:i < 0
   .simp only[h,if_true]<;>omega
   .simp only[h,if_false]<;>omega
 .cases hi with
  | none=>simp[sliceBounds,HT.sIx]
  | some i =>
   simp only[sliceBounds,HT.sIx,Option.getD_none,show(1:Int) > 0 by decide,if_true];by_cases h:i < 0
   .simp only[h,if_true]<;>omega
   .simp only[h,if_false]<;>omega
def aL4(its:List fM)(lo hi:Option Int):slicePick its.toArray lo hi O=((its.drop<|HT.sIx its.length 0 lo).take<|HT.sIx its.length its.length hi - HT.sIx its.length 0 lo).toArray:=by
 obtain⟨h1,h2,h3⟩:=aq3 lo hi its.toArray.size;unfold slicePick;rw[h1,h2,h3];simp only[sliceRange_one,pick_run,ap]<;>rfl
noncomputable def db5(K:ad):V->Option Int->Option Int->Hp->VK->Prop:=λx lo hi H Q=>∃a xs,x=.ref a/\SqL K H a xs/\∀p,H p=O->Q (.ref p) (upd H p<|.lst (be6 xs lo hi))
def bp4:SlR X (db5 X.K):=by
 intro pins s σ H x v vl vu lo hi sl Q I rx hs pl pu h;obtain⟨a,xs,rfl,hx,q⟩:=h;cases rx;obtain⟨its,r,ht,hz⟩:=I.list hx;have hlen:=r.length;refine⟨"list", _,slot_list_getitem.lookup,ht.isList.typeIs,?_⟩;refine wpAny_getItem_list_slice ht.isList hs pl pu .none (by simp) ?_ (by rw[ap]<;>omega);rw[aL4,← hlen];refine⟨.ref s.heap.objs.size,_,I.laid (t':=s.toks) (o:=.lst<|be6 xs lo hi) (λb ob q=>fw _ q) (aj _) ?_,rfl,q _<|I.hok.fresh (aj _)⟩;exact⟨aO (aB1 xs lo hi) hz,_,0,(r.drop<|HT.sIx xs.length 0 lo).take<|HT.sIx xs.length xs.length hi - HT.sIx xs.length 0 lo,fB _ rfl⟩
noncomputable def al9:V->Bool
 | .non=>true
 | .bl _=>true
 | .int _=>true
 | .str _=>true
 | _=>false
noncomputable def eqV:V->V->Bool
 | .non,.non=>true
 | .bl a,.bl b=>a==b
 | .bl a,.int b=>(if a then 1 else 0)==b
 | .int a,.bl b=>a==(if b then 1 else 0)
 | .int a,.int b=>a==b
 | .str a,.str b=>a==b
 | _,_=>false
def cK4(ry:D9 y u)(rx:D9 x v)(fy:al9 y=true)(fx:al9 x=true):SeqAt.EqAt A s u v (eqV y x):=by
 cases y with
 | non =>
  cases ry;cases x with
  | non=>cases rx;exact SeqAt.EqAt.same _
  | bl b=>cases rx;exact SeqAt.EqAt.none_bool b
  | int b=>obtain⟨t,rfl⟩:=rx;exact SeqAt.EqAt.none_int b t
  | str b=>obtain⟨t,rfl⟩:=rx;exact SeqAt.EqAt.none_str b t
  | _=>exact absurd (show false=true from fx) aE
 | bl a =>
  cases ry;cases x with
  | non=>cases rx;exact SeqAt.EqAt.bool_none a
  | bl b=>cases rx;exact SeqAt.EqAt.bool_bool a b
  | int b=>obtain⟨t,rfl⟩:=rx;exact SeqAt.EqAt.bool_int a b t
  | str b=>obtain⟨t,rfl⟩:=rx;exact SeqAt.EqAt.bool_str a b t
  | _=>exact absurd (show false=true from fx) aE
 | int a =>
  obtain⟨t',rfl⟩:=ry;cases x with
  | non=>cases rx;exact SeqAt.EqAt.int_none a t'
  | bl b=>cases rx;exact SeqAt.EqAt.int_bool a t' b
  | int b=>obtain⟨t,rfl⟩:=rx;exact SeqAt.EqAt.int_int a t' b t
  | str b=>obtain⟨t,rfl⟩:=rx;exact SeqAt.EqAt.int_str a t' b t
  | _=>exact absurd (show false=true from fx) aE
 | str a =>
  obtain⟨t',rfl⟩:=ry;cases x with
  | non=>cases rx;exact SeqAt.EqAt.str_none a t'
  | bl b=>cases rx;exact SeqAt.EqAt.str_bool a t' b
  | int b=>obtain⟨t,rfl⟩:=rx;exact SeqAt.EqAt.str_int a t' b t
  | str b=>obtain⟨t,rfl⟩:=rx;exact SeqAt.EqAt.str_str a t' b t
  | _=>exact absurd (show false=true from fx) aE
 | _=>exact absurd (show false=true from fy) aE
noncomputable def eqU(x:V)(u:fM):Bool:=match u with
 | .none=>eqV .non x
 | .bool b=>eqV (.bl b) x
 | .int i _=>eqV (.int i) x
 | .str z _=>eqV (.str z) x
 | _=>false
def bU0(r:D9 y u)(f:al9 y=true):eqU x u=eqV y x:=by
 cases y with
 | non=>cases r;rfl
 | bl b=>cases r;rfl
 | int i=>obtain⟨t,rfl⟩:=r;rfl
 | str z=>obtain⟨t,rfl⟩:=r;rfl
 | _=>exact absurd (show false=true from f) aE
theorem at7:∀{xs:List V}{us:List fM},E1 xs us->xs.all al9=true->us.any (eqU x)=xs.any λy=>eqV y x
 | _,_,.nil,_=>rfl
 | y::xs,u::us,.cons r t,f=>by
  rw[bz,af]at f;rw[bO,bO,bU0 r f.1,at7 t f.2]
theorem ag2(rx:D9 x v)(fx:al9 x=true):∀{xs:List V}{us:List fM},E1 xs us->xs.all al9=true->∀u∈us,SeqAt.EqAt A s u v (eqU x u)
 | _,_,.nil,_=>λu hu=>by cases hu
 | y::xs,u::us,.cons r t,f=>λu' hu=>by
  rw[bz,af]at f;rcases ao.mp hu with rfl|hu
  .rw[bU0 r f.1];exact cK4 r rx f.1 fx
  .exact ag2 rx fx t f.2 u' hu
noncomputable def inV(x:V)(xs:List V):Bool:=xs.any λy=>eqV y x
noncomputable def rIn(K:ad)(neg:Bool):R2:=λx y H Q=>∃p xs,y=.ref p/\(SqL K H p xs\/SqT K H p xs)/\al9 x=true/\xs.all al9=true/\Q (.bl (if neg then !inV x xs else inV x xs)) H
def bx8:OpR X (eW .In) (rIn X.K false):=by
 intro pins s σ H x y v u Q I rx ry h;obtain⟨p,xs,rfl,hq,fx,fs,q⟩:=h;cases ry;rcases hq with hq|hq
 .obtain⟨its,r,pl,hz⟩:=I.list hq;refine SeqAt.in_listAt (eqU x) pl.isList (λw hw=>ag2 rx fx r fs w<|by simpa using hw) ⟨.bl _,H,I,rfl,?_⟩;rw[show its.toArray.any (eqU x)=its.any (eqU x) by simp,at7 r fs];exact q
 .obtain⟨its,r,pl,hz⟩:=I.tuple hq;refine SeqAt.in_tupleAt (eqU x) pl (λw hw=>ag2 rx fx r fs w<|by simpa using hw) ⟨.bl _,H,I,rfl,?_⟩;rw[show its.toArray.any (eqU x)=its.any (eqU x) by simp,at7 r fs];exact q
def aT1:OpR X (eW .NotIn) (rIn X.K true):=by
 intro pins s σ H x y v u Q I rx ry h;obtain⟨p,xs,rfl,hq,fx,fs,q⟩:=h;cases ry;rcases hq with hq|hq
 .obtain⟨its,r,pl,hz⟩:=I.list hq;refine SeqAt.notIn_listAt (eqU x) pl.isList (λw hw=>ag2 rx fx r fs w<|by simpa using hw) ⟨.bl _,H,I,rfl,?_⟩;rw[show its.toArray.any (eqU x)=its.any (eqU x) by simp,at7 r fs];exact q
 .obtain⟨its,r,pl,hz⟩:=I.tuple hq;refine SeqAt.notIn_tupleAt (eqU x) pl (λw hw=>ag2 rx fx r fs w<|by simpa using hw) ⟨.bl _,H,I,rfl,?_⟩;rw[show its.toArray.any (eqU x)=its.any (eqU x) by simp,at7 r fs];exact q
def aW5:U9 X (.builtin "len") (λxs H Q=>∃p ys,xs=[.ref p]/\(SqL X.K H p ys\/SqT X.K H p ys)/\Q (.int ys.length) H):=by
 intro pins s σ H xs us Q I r h;obtain⟨p,ys,rfl,hq,q⟩:=h;obtain⟨u,rfl,rx⟩:=W3 r;cases rx;have hn:=an7;rcases hq with hq|hq
 .obtain⟨its,r',pl,hz⟩:=I.list hq;have hlen:=r'.length;exact Calls.call_len_list pl.isList (by simp only[ap]<;>omega) ⟨.int ys.length,H,I.tok _,⟨s.toks+1,by rw[ap,hlen]⟩,q⟩
 .obtain⟨its,r',pl,hz⟩:=I.tuple hq;have hlen:=r'.length;exact len_tuple pl (by simp only[ap]<;>omega) ⟨.int ys.length,H,I.tok _,⟨s.toks+1,by rw[ap,hlen]⟩,q⟩
def aW4:U9 X (.builtin "len") (λxs H Q=>∃z,xs=[.str z]/\z.length<=eU/\Q (.int z.length) H):=by
 intro pins s σ H xs us Q I r h;obtain⟨z,rfl,hz,q⟩:=h;obtain⟨u,rfl,t,rfl⟩:=W3 r;have hn:=an7;exact len_str (by omega) ⟨.int z.length,H,I.tok _,⟨_,rfl⟩,q⟩
def aW3:U9 X (.type "list") (λxs H Q=>∃p ys,xs=[.ref p]/\(SqL X.K H p ys\/SqT X.K H p ys)/\∀l,H l=O->Q (.ref l) (upd H l<|.lst ys)):=by
 intro pins s σ H xs us Q I r h;obtain⟨p,ys,rfl,hq,q⟩:=h;obtain⟨u,rfl,rx⟩:=W3 r;cases rx
 have fin:∀(its:List fM),E1 ys its->ys.length<=eU->∀(h':Heap) (c':Nat),(∀b o',s.heap.get? b=Z o'->h'.get? b=Z o') ->
   h'.get? s.heap.objs.size=Z { cls:=.type "list", dict:=O,data:=.seq its.toArray c',slots:=#[] }->EP X pins σ Q (.ref s.heap.objs.size) { s with heap:=h' }:=λits r' hz h' c' kp e =>
  ⟨.ref s.heap.objs.size,_,I.laid (t':=s.toks) kp (aj _) (show N8 X.prog X.w _ h' _ (.lst ys) from⟨hz,its,c',r',e⟩),rfl,q _<|I.hok.fresh (aj _)⟩
 rcases hq with hq|hq
 .obtain⟨its,r',pl,hz⟩:=I.list hq;have hlen:=r'.length;obtain⟨o,ho,hc,n,hd⟩:=pl.isList;exact call_list_seq p (.inl rfl) ho hc hd (λh' c' kp e=>fin its r' hz h' c' kp e) (by simp only[ap]<;>omega)
 .obtain⟨its,r',pl,hz⟩:=I.tuple hq;have hlen:=r'.length;obtain⟨o,ho,hc,n,hd⟩:=pl;exact call_list_seq p (.inr rfl) ho hc hd (λh' c' kp e=>fin its r' hz h' c' kp e) (by simp only[ap]<;>omega)
def aM5:U9 X (.type "tuple") (λxs H Q=>∃p ys,xs=[.ref p]/\((SqL X.K H p ys/\∀l,H l=O->Q (.ref l) (upd H l<|.tup ys))\/(SqT X.K H p ys/\Q (.ref p) H))):=by
 intro pins s σ H xs us Q I r h;obtain⟨p,ys,rfl,h⟩:=h;obtain⟨u,rfl,rx⟩:=W3 r;cases rx;rcases h with⟨hq,q⟩|⟨hq,q⟩
 .obtain⟨its,r',pl,hz⟩:=I.list hq;have hlen:=r'.length;refine call_tuple_list pl.isList (λh' kp=>?_) (by simp only[ap]<;>omega);have I1:Inv X pins σ H { s with heap:=h' }:=I.kept (t':=s.toks) kp
  have I2:Inv X pins σ (upd H h'.objs.size<|.tup ys) { s with heap:=h'.push { cls:=.type "tuple", data:=.seq its.toArray } } :=
   I1.laid (t':=s.toks) (λb o e=>fw _ e) (aj _) (show N8 X.prog X.w _ _ _ (.tup ys) from⟨hz,its,r',aJ4.new _ _⟩)
  exact⟨.ref h'.objs.size,_,I2,rfl,q _<|I1.hok.fresh (aj _)⟩
 .obtain⟨its,r',pl,hz⟩:=I.tuple hq;exact call_tuple_same pl ⟨.ref p,H,I,rfl,q⟩
noncomputable def tyV(K:ad)(T:String)(x:V)(H:Hp):Prop:=match x with
 | .str _=>T = "str"
 | .int _=>T = "int"
 | .ref p=>(T = "list" /\ ∃xs,SqL K H p xs)\/(T = "tuple" /\ ∃o,K.lookup p=Z o/\o.cls=.type "tuple" /\ o.dict=O) \/
   (T = "dict" /\ ((∃kvs,H p=Z (.dK kvs))\/∃kvs,H p=Z (.dT kvs)))\/(T = "set" /\ ∃S n,H p=Z (.set S n))
 | _=>False
def cv5(I:Inv X pins σ H s)(r:D9 x v)(ty:tyV X.K T x H):
  s.TypeIs v T/\∀a,v=.ref a->∃ob,s.heap.get? a=Z ob/\ob.dict=O:=by
 cases x with
 | str z =>
  obtain⟨t,rfl⟩:=r;cases(show T = "str" from ty);exact⟨typeIs_str s z t,λ_ e=>nomatch e⟩
 | int i =>
  obtain⟨t,rfl⟩:=r;cases(show T = "int" from ty);exact⟨typeIs_int s i t,λ_ e=>nomatch e⟩
 | ref p =>
  cases r;rcases ty with⟨rfl,xs,hq⟩|⟨rfl,o,hk,hc,hd⟩|⟨rfl,hk⟩|⟨rfl,S,n,hk⟩
  .obtain⟨its,_,pl,_⟩:=I.list hq;refine⟨pl.isList.typeIs,λa e=>?_⟩;cases e;obtain⟨o,n,e,c,hd,_⟩:=pl;exact⟨o,e,hd⟩
  .refine⟨⟨o,I.kIn p o hk,hc⟩,λa e=>?_⟩;cases e;exact⟨o,I.kIn _ o hk,hd⟩
  .have z:∃o,s.heap.get? p=Z o/\o.ExactDict:=by
    rcases hk with⟨kvs,hk⟩|⟨kvs,hk⟩
    .obtain⟨_,_,_,_,o,_,_,e,ex,_⟩:=I.hok p _ hk;exact⟨o,e,ex⟩
    .obtain⟨_,_,_,_,o,_,_,e,ex,_⟩:=I.hok p _ hk;exact⟨o,e,ex⟩
   obtain⟨o,e,ex⟩:=z;refine⟨⟨o,e,ex.1⟩,λa e2=>?_⟩;cases e2;exact⟨o,e,ex.2.1⟩
  .obtain⟨o,_,_,_,e,ex,_⟩:=I.hok p _ hk;refine⟨⟨o,e,ex.1⟩,λa e2=>?_⟩;cases e2;exact⟨o,e,ex.2.1⟩
 | _=>exact False.elim ty
noncomputable def tBM(K:ad)(T:String)(r:V->List V->Hp->VK->Prop)(to:TE)(t:TA):TE:=λσ H Q=>to σ H λx H1=>tyV K T x H1/\t σ H1 λxs H2=>r x xs H2 Q
variable {o e:Expr}{es:List Expr}{to:TE}{t:TA}{name:Str}{apos cpos:Pos}{T id:String}{r:V->List V->Hp->VK->Prop}
def bq2(pa:PlainAttrs T)(slot:Slot T name id)(hty:typeOf (.builtin id)=pure (.type "method_descriptor"))(hm:MtR X id r)(ho:PE X o to)(ha:PA X (e::es) t)
  (hbase:fq o name X.env (eval o X.env)=eval o X.env:=by rfl)
  (hfew:((backTo cpos (eT (e::es) X.env)).all (λx=>!x.1)&&(backToKw cpos (keywordEach [] X.env)).all (λx=>x.1.isSome)
   && decide ((e::es).length+([]:List fh).length+(if([]:List fh).isEmpty then 0 else 1) < 30))=true:=by rfl)
  (hline:(apos.endLine==cpos.line)=true:=by rfl) (hs:eT (e::es) X.env=(false,eval e X.env)::eT es X.env:=by rfl) (hplain:(backTo cpos<|eT es X.env).any (·.1)=false:=by rfl) :
  PE X (.Call (.Attribute o name apos) (e::es) [] cpos) (tBM X.K T r to t):=by
 intro pins s σ H Q I h;refine wpAny_Call_method_late hbase hfew hline rfl (thn (ho pins s σ H _ I h) λv s1 ⟨x,H1,I1,r1,ty,q1⟩=>?_);obtain⟨h1,h2⟩:=cv5 I1 r1 ty;refine⟨T,id,pa,slot,hty,h1,h2,?_⟩;have hA:=ha cpos pins s1 σ H1 _ I1 q1;rw[hs]at hA ⊢;refine Calls.callWith_builtin (by show(false || (backTo cpos<|eT es X.env).any (·.1))=false;rw[hplain]<;>rfl) (Calls.evalArgs_plain ?_);exact thn hA λus s2 ⟨vs,H2,I2,r2,q2⟩=>hm pins s2 σ H2 x vs v us Q I2 r1 r2 q2
end
noncomputable def MtM(X:Cx)(id:String)(r:V->List V->Hp->VK->Prop):Prop :=
 ∀(pins:List (fO×Obj)) (s:fN) (σ:St) (H:Hp) (x:V) (xs:List V) (v:fM) (us:List fM) (Q:VK),Inv X pins σ H s->D9 x v->E1 xs us->r x xs H Q ->
  ft (fu X.prog X.w) X.A (call (.builtin id) (v::us)) (EP X pins σ Q) X.xe s
def E1.one:∀{x:V}{us:List fM},E1 [x] us->∃u,us=[u]/\D9 x u
 | _,_,.cons r .nil=>⟨_,rfl,r⟩
theorem E1.rep(h:E1 xs us):∀k:Nat,E1 (ax k xs).flatten (ax k us).flatten
 | 0=>.nil
 | k+1=>by
  rw[bK,bK,bJ,bJ];exact E1.append h<|E1.rep h k
theorem aP0(its:List fM):∀(k:Nat) (acc:List fM),
  cQ (λx1 x2=>x1++x2) acc.toArray (ax k its.toArray)=(acc++(ax k its).flatten).toArray
 | 0,acc=>by simp
 | k+1,acc=>by
  have e:acc.toArray++its.toArray=(acc++its).toArray:=by simp
  have e2:(acc++its)++(ax k its).flatten=acc++(ax (k+1) its).flatten:=by rw[bK,bJ,av]
  rw[← e2,← aP0 its k (acc++its),← e,bK,bA]
section
variable {X:Cx}{pins:List (Addr×Obj)}{σ:St}{H:Hp}{s:Shared}{l b:Addr}{xs ys zs:List V}
def Inv.lset{its its':List fM}{n:Nat}{f:Array fM->Array fM}{t':Nat}(I:Inv X pins σ H s)(hH:H l=Z (.lst xs))
  (e:s.heap.get? l=Z { cls:=.type "list", data:=.seq its.toArray n }) (hf:f its.toArray=its'.toArray) (hv:E1 ys its') (hz:ys.length<=eU) :
  Inv X pins σ (upd H l<|.lst ys) { s with heap:=s.heap.update l (Obj.mapSeq f),toks:=t' }:=by
 have q:=PySem.IsL.update e f;rw[hf]at q;refine I.write (x:=l) (e:=l) (by rw[hH];exact trivial) (.inl rfl) (λb' u hb hu=>(Heap.get?_update_other s.heap (Obj.mapSeq f)<|Ne.symm hb).trans hu) ⟨_,q⟩ ?_;exact⟨hz,its',_,hv,q⟩
def Inv.lnew(I:Inv X pins σ H s)(hv:E1 ys its)(hz:ys.length<=eU):
  Inv X pins σ (upd H s.heap.objs.size<|.lst ys) { s with heap:=s.heap.push { cls:=.type "list", data:=.seq its.toArray },toks:=t' } :=
 I.laid (λ_ _ q=>fw _ q) (aj _) ⟨hz,its,0,hv,fB _ rfl⟩
theorem Inv.fresh(I:Inv X pins σ H s):H s.heap.objs.size=O:=I.hok.fresh<|aj _
def Inv.lstM(I:Inv X pins σ H s)(hH:H l=Z (.lst xs)):xs.length<=eU/\∃(its:List fM) (n:Nat),E1 xs its/\xs.length=its.length/\s.heap.get? l=Z { cls:=.type "list", data:=.seq its.toArray n }:=by
 obtain⟨z,its,n,r,e⟩:=I.hok l _ hH;exact⟨z,its,n,r,r.length,e⟩
def af8(h:n<=eU):Builtin.List.listTooLong n=false:=by
 unfold Builtin.List.listTooLong;exact decide_eq_false (by omega)
end
section
variable {X:Cx}
noncomputable def cc2:V->List V->Hp->VK->Prop:=λx vs H Q=>∃l xs y,x=.ref l/\vs=[y]/\H l=Z (.lst xs)/\xs.length < eU/\Q .non (upd H l<|.lst (xs++[y]))
def aN9:MtM X "list.append" cc2:=by
 intro pins s σ H x vs v us Q I rx rv h;obtain⟨l,xs,y,rfl,rfl,hH,hz,q⟩:=h;cases rx;obtain⟨u,rfl,ru⟩:=rv.one;obtain⟨z,its,n,r,hl,e⟩:=I.lstM hH;refine fo F.slot_list_append ⟨_,e,rfl⟩ F.entry_list_append (F.args_list_append_2 _ _) (PySem.list_append l its.toArray n u (by rw[ap];omega)) ⟨e,?_⟩;refine⟨.non,_,I.lset (its':=its++[u]) hH e (by simp) (r.append<|.cons ru .nil) ?_,rfl,q⟩;rw[ae,aN];omega
def aT9{α:Type}(xs:List α)(k:Nat):(ax k xs).flatten.length=k*xs.length:=by
 induction k with
 | zero=>simp
 | succ k ih=>rw[bK,bJ,ae,ih,dq,Nat.add_comm]
end
section
variable {prog:Program}{w:World}{A:Around}{E:Value->Shared->Prop}{s:Shared}
def bw8(its its2:List fM)(a c:Nat):its.toArray.extract 0 a++its2.toArray++its.toArray.extract c its.toArray.size=(its.take a++its2++its.drop c).toArray:=by
  apply Array.toList_inj.mp
  first
    | (simp
       exact bu (by simp))
    | simp[bu]
    | simp
set_option maxRecDepth 100000 in
end
end L2
namespace Att
open PySem PySem.W PySem.Calls PyProof.Rows
def aC4:∀(ns:List Int) (vs:List fM),WellAll P h vs (ns.map WData.int)->IntsAre vs ns:=by
 intro ns
 induction ns with
 | nil =>
  intro vs w;rw[List.map_nil]at w;cases w;exact .nil
 | cons n ns ih =>
  intro vs w;rw[bF]at w;cases w with
  | cons a b =>
   cases a;exact .cons _ _<|ih _ b
def bx0{l:OpenLaw}{n:Nat}(hn:l.most=Z n){P:Params}{h:Heap}{args:List WData}{vals:List fM}
  (hpre:l.row.toRowW.claim.pre args=true) (hwl:WellAll P h vals args) :
  ∃a vs ns,vals=[fI a]/\args=[WData.list (ns.map WData.int)]/\h.get? a=Z { cls:=.type "list", data:=.seq vs.toArray }/\IntsAre vs ns/\ns.length<=n:=by
 have hsh:WShape.hasAll [] args [.list .int]=true:=(pre_splitW hpre).1;have hc:l.pre.holds [] { args:=args }=true:=(pre_splitW hpre).2;obtain⟨d,r,rfl,h1,h2⟩:=hasAllW_cons hsh;obtain rfl:=hasAllW_nil h2;obtain⟨xs,rfl,h3⟩:=hasW_list h1;obtain⟨ns,rfl⟩:=items_int h3
 have hlen:ns.length<=n:=by
  unfold OpenLaw.pre at hc
  have h4:(WTm.not<|.lt (.lit<|.int (n:Int)) (.len<|.arg 0)).holds [] { args:=[.list (ns.map .int)] }=true:=by
   have h4:=(holds_andW hc).1;rw[hn]at h4;exact h4
  have h5:=condW_of h4 (w_not<|w_lt w_lit (w_len_list<|w_arg rfl));rw[ag]at h5;refine Nat.le_of_not_lt λq=>?_
  have q':(n:Int) < ((ns.length:Nat):Int):=by omega
  first
   | (rw[decide_eq_true q']at h5;exact absurd h5<|by decide)
   | (simp at h5;omega)
 cases hwl with
 | cons w1 w2 =>
  cases w2;cases w1 with
  | list ho hall=>exact⟨_,_,ns,rfl,rfl,ho,aC4 ns _ hall,hlen⟩
def bx2(l:OpenLaw)(args:List WData):l.row.toRowW.claim.post args (.bool true) args=true :=
 postW_of (r:=l.row.toRowW) (X:=(true==true))
  (show WShape.has [] (.bool true) .bool=true by first|rfl|decide|simp[WShape.has,WShape.arms,WShape.armsAll])
  (show(WTm.eq .res<|.lit (.bool true)).value [] { args:=args,res:=Z (.bool true),after:=args }=Z (.bool<|true==true) from w_eq_bool (w_res rfl) w_lit) rfl
def attach_call{l:OpenLaw}{n:Nat}{q:fb}{loose:List Str}{XP:(Str->Option fM)->Heap->Prop}{YP:World->Heap->Prop}{d:DefRec}
  (hn:l.most=Z n) (hdf:d.params.defaults=[])
  (call:∀(w:World) (s₀ s₁:fN) (mg mb:Str->Option fM) (fa:fO) (o:Obj) (pm cd doc:fM) (a:fO) (vs:List fM) (ns:List Int),
   Ground q loose [] XP w s₀ mg mb s₁.heap->YP w s₁.heap ->
   s₁.heap.get? fa=Z o->o.data=.func (docDef d.name d.params d.body d.scope pm cd doc)->s₁.heap.CodeRec cd d.name->mg d.name=Z (.ref fa) ->
   s₁.heap.get? a=Z { cls:=.type "list", data:=.seq vs.toArray }->IntsAre vs ns->ns.length<=n->s₁.gens = #[] ->
   codeAny (fu l.prog w) callerA (.call (.ref fa) ⟨[.ref a],[]⟩) (λr s'=>r=.ok (.ret (.bool true))/\OldK s₁.heap s'.heap/\s'.os=s₁.os/\AllBare s'.gens) s₁) :
  WalkO q loose XP YP l.row.toRowW d [] (λf vs=>PySem.call f vs):=by
 intro w s₀ s₁ mg mb G Y fa o pm cd doc dV kV ho hd hcd hD hmg hg args vals as hpre hlay hrd hwl hlo;obtain rfl:dV=.none:=Dflts.none hD hdf;obtain rfl:kV=.none:=Dflts.noKw hD;obtain⟨a,vs,ns,rfl,rfl,hobj,hints,hlen⟩:=bx0 hn hpre hwl;refine enter_call (codeAny_mono (call w s₀ s₁ mg mb fa o pm cd doc a vs ns G Y ho (fd_plain hd) hcd hmg hobj hints hlen hg) λr s' hq=>?_);obtain⟨rfl,h2,h3,h4⟩:=hq;exact⟨.inl ⟨.bool true,.bool true,[],rfl,λ_=>rfl,.bool true,bx2 l _,λ_=>⟨cU.nil,λ_ hm=>(nomatch hm)⟩⟩,h2,h3,h4⟩
end Att
namespace L2
open PySem PySem.Spec PyProof.Rows
theorem V0:∀{vs:List fM}{ns:List Int},IntsAre vs ns->E1 (ns.map V.int) vs
 | _,_,.nil=>.nil
 | _,_,.cons n t h=>.cons ⟨t,rfl⟩<|V0 h
def cM8(H:Hp):Prop:=∀b,H b=O\/∃o xs,H b=Z (.frz o<|.lst xs)
def bN6{P:fb}{w:World}{K:ad}{mg mb:Str->Option fM}{CX:CXT}{k:Nat}{fa a:fO}{fd:fe}{x:Str}{sp:Sp}{s₁:fN}{vs:List fM}{ns:List Int}
  (KX:K.In s₁.heap) (hns:s₁.heap.Ns eY mg) (hb:s₁.heap.Ns builtinsNs mb) (hbb:∀x:Str,x ≠ "__name__" -> mb x=ff x) (hlim:s₁.heap.NoLimit) (hg:s₁.gens = #[])
  (ha:s₁.heap.get? a=Z { cls:=.type "list", data:=.seq vs.toArray }) (hi:IntsAre vs ns) (hl:ns.length<=eU) (hr:Room k callerA)
  (F:∀base:Heap,K.In base->base.Ns eY mg->FnOk P w K mg base CX k fa fd [x] sp) (hbind:∀(s:fN) (u:fM),BindsTo s fd ⟨[u],[]⟩ [(x,u)])
  (hsp:∀H:Hp,cM8 H->SqL K H a (ns.map V.int)->sp [.ref a] H (λv _=>v=.bl true) λ_ _ _=>False)
  (hCX:∀H e s',CX [] H s₁ (λ_ _ _=>False) e s'->False) :
  codeAny (fu P w) callerA (.call (.ref fa) ⟨[.ref a],[]⟩) (λr s'=>r=.ok (.ret<|.bool true)/\OldK s₁.heap s'.heap/\s'.os=s₁.os/\AllBare s'.gens) s₁:=by
 have rv:=V0 hi;have lenV:=hi.length
 have core:∀H:Hp,cM8 H->SqL K H a (ns.map V.int)->HOk P w H s₁.heap->(∀b,H b≠O->b=a)->(H a≠O->K.lookup a=O) ->
   codeAny (fu P w) callerA (.call (.ref fa) ⟨[.ref a],[]⟩) (λr s'=>r=.ok (.ret<|.bool true)/\OldK s₁.heap s'.heap/\s'.os=s₁.os/\AllBare s'.gens) s₁:=by
  intro H hO hS hok hA hK;have base_of:∀{b:fO}{o:Obj},s₁.heap.get? b=Z o->H b=O->(aU5 s₁.heap H).get? b=Z o:=λe n=>bS3 e n
  have noA:∀{b:fO}{o:Obj}{es:Array DictEntry}{ep:Nat},s₁.heap.get? b=Z o->o.data=.dict es ep->H b=O:=λ{b o es ep} e d=>by
   cases q:H b with
   | none=>rfl
   | some u =>
    have e':b=a:=hA b (by rw[q];simp);subst e';rw[ha]at e;cases e;have d':Data.seq vs.toArray _=Data.dict es ep:=d;cases d'
  have nsK:∀{b:fO}{m:Str->Option fM},s₁.heap.Ns b m->(aU5 s₁.heap H).Ns b m:=λ{b m} ⟨o,es,ep,e,d,r⟩=>⟨o,es,ep,base_of e<|noA e d,d,r⟩
  have hKb:K.In (aU5 s₁.heap H):=λb o e=>base_of (KX b o e) (by
   cases q:H b with
   | none=>rfl
   | some u =>
    have e':b=a:=hA b (by rw[q];simp);subst e'
    rw[hK (by rw[q];simp)]at e;cases e)
  have hM:Mod K mg (aU5 s₁.heap H):=⟨hKb,nsK hns,⟨mb,nsK hb,hbb⟩,let⟨mc,h1,h2⟩:=hlim;⟨mc,nsK h1,h2⟩⟩;have e0:Env0 P w K mg (aU5 s₁.heap H) callerA [] s₁ H:=⟨rfl,hM,λb o e=>cf4 e,Nat.le_of_eq<|bA4 _ _,trivial,λb hb=>absurd (show b∈([]:List fO) from hb) (by simp),hok,.of_eq hg⟩;refine codeAny_mono ((F _ hKb<|nsK hns).run callerA [] s₁ H ⟨[.ref a],[]⟩ [.ref a] [.ref a] _ _ hr e0 (hbind s₁<|.ref a) (.cons rfl .nil)<|hsp H hO hS) λr s' h=>?_
  cases r with
  | error e=>exact(hCX H e s' h).elim
  | ok fl =>
   cases fl with
   | next=>exact False.elim h
   | brk=>exact False.elim h
   | cont=>exact False.elim h
   | ret u =>
    obtain⟨v,H',os,bare,un,hok',r',q⟩:=h;have q':v=.bl true:=q;subst q';obtain rfl:u=Value.bool true:=r';refine⟨rfl,OldK.of_keep λb o e=>?_,os,bare⟩;cases q:H b with
    | none=>exact un.keep b o e q (by intro z;exact absurd (show b∈([]:List fO) from z)<|by simp) (by simp)
    | some u =>
     rcases hO b with z|⟨ob,xs,z⟩
     .rw[q]at z;cases z
     .have z2:=un.frzs b ob _ z;obtain⟨e1,_⟩:=hok b _ z;obtain⟨e2,_⟩:=hok' b _ z2;rw[e]at e1;cases e1;exact e2
 cases hk:K.lookup a with
 | some o =>
  have e:=KX a o hk;rw[ha]at e;cases e;refine core (λ_=>O) (λ_=>.inl rfl) (.inr ⟨_,vs.toArray,_,hk,rfl,rfl,rfl,by rw[ap,lenV];exact hl,by simpa using rv⟩) (λb u z=>by have z':(O:Option HO)=Z u:=z;cases z') (λb z=>absurd rfl z) λz=>absurd rfl z
 | none =>
  refine core (λb=>if b=a then Z (.frz { cls:=.type "list", data:=.seq vs.toArray } (.lst<|ns.map V.int)) else O) (λb=>?_) (.inl<|.inr ⟨{ cls:=.type "list", data:=.seq vs.toArray },if_pos rfl⟩) (λb u z=>?_) (λb z=>?_) λ_=>hk
  .by_cases hb:b=a
   .exact .inr ⟨_,_,if_pos hb⟩
   .exact .inl (if_neg hb)
  .by_cases hb:b=a
   .have z':=(if_pos hb).symm.trans z;cases z';subst hb;exact⟨ha,by rw[ag];exact hl,vs,_,rv,ha⟩
   .have z':=(if_neg hb).symm.trans z;cases z'
  .by_cases hb:b=a
   .exact hb
   .exact absurd (if_neg hb) z
def bZ9{l:PySem.W.OpenLaw}{n k:Nat}{q:fb}{loose:List Str}{XP:(Str->Option fM)->Heap->Prop}{YP:World->Heap->Prop}{d:DefRec}{K:Params->ad}{CX:World->CXT}{sp:World->Sp}{x:Str}
  (hn:l.most=Z n) (hn2:n<=eU) (hdf:d.params.defaults=[]) (hr:Room k callerA)
  (hY:∀(w:World) (h:Heap),YP w h->(K w.params).In h)
  (F:∀(w:World) (mg:Str->Option fM) (fa:fO) (h:Heap),(K w.params).In h->h.Ns eY mg->mg d.name=Z (.ref fa) ->
   ∃fd:fe,(∀(s:fN) (u:fM),BindsTo s fd ⟨[u],[]⟩ [(x,u)]) /\
    ∀base:Heap,(K w.params).In base->base.Ns eY mg->FnOk l.prog w (K w.params) mg base (CX w) k fa fd [x] (sp w))
  (hsp:∀(w:World) (H:Hp) (a:fO) (ns:List Int),ns.length<=n->cM8 H->SqL (K w.params) H a (ns.map V.int)->sp w [.ref a] H (λv _=>v=.bl true) λ_ _ _=>False)
  (hCX:∀(w:World) (H:Hp) (s:fN) (e:fM) (s':fN),CX w [] H s (λ_ _ _=>False) e s'->False) :
  PySem.W.WalkO q loose XP YP l.row.toRowW d [] (λf vs=>PySem.call f vs):=by
 refine Att.attach_call hn hdf λw s₀ s₁ mg mb fa o pm cd doc a vs ns G Y ho hd hcd hmg hobj hints hlen hg=>?_
 have KX:=hY w _ Y;obtain⟨fd,hb,hF⟩:=F w mg fa _ KX G.T.g hmg;exact bN6 KX G.T.g G.T.b G.T.builtins G.T.nolimit hg hobj hints (aO hlen hn2) hr hF hb (λH hO hS=>hsp w H a ns hlen hO hS) λH e s'=>hCX w H s₁ e s'
noncomputable def Z2(s:Stmt):Arguments:=match s with
 | .FunctionDef _ a _ _ _ _ _ _ _ _=>a
 | _=>{ posonlyargs:=[],args:=[],vararg:=O,kwonlyargs:=[],kw_defaults:=[],kwarg:=O,defaults:=[] }
noncomputable def M0(s:Stmt):List Stmt:=match s with
 | .FunctionDef _ _ b _ _ _ _ _ _ _=>b
 | _=>[]
noncomputable def C8(s:Stmt):Scope:=match s with
 | .FunctionDef _ _ _ _ _ _ sc _ _ _=>sc
 | _=>{ kind:=.function,names:=[],isGenerator:=false,isCoroutine:=false }
noncomputable abbrev CX0:CXT:=λ_ _ _ _ _ _=>False
noncomputable abbrev E0:XK:=λ_ _ _=>False
def cp7:aX0 CX0 X E0:=λ_ _ _ _ _ _ _ h=>h.elim
structure Fun (K:ad) (x qual:Str) (st:Stmt) (f:fO) (fd:fe):Prop where
 ex:∃(oc:fM) (od:Option fO) (kV doc pm:fM) (an:Option fO) (cdv ct:fM) (osl:Array (Option fM)),
  fd=bM x qual (Z2 st) (M0 st) (C8 st) .none kV doc pm an cdv ct/\K.lookup f=Z ⟨oc,od,.func fd,osl⟩/\cN K cdv qual=true
 kp:aW K (.ref f)=true
section
variable {P:Program}{w:World}{K:PySem.W.Frag}{mg:Str->Option Value}{base:Heap}
def Fun.ok{x qual:Str}{st:Stmt}{f:fO}{fd:fe}{N ps:List Str}{k:Nat}{sp:Sp}(F:Fun K x qual st f fd)(S:FnScope N ps (C8 st))(len:∀vs H Q E,sp vs H Q E->vs.length=ps.length)
  (hbody:∀(cdv:fM) (A:fc) (outer:List Env) (s:fN) (H:Hp) (vs:List V) (Q:VK) (E:XK),Room k (A.deeper (envOfC qual (C8 st) s.heap.objs.size f cdv))->sp vs H Q E ->
   ∃t,PSs (aW0 CX0 P w K mg base N qual (C8 st) f cdv A outer s H E).nox (M0 st) t/\t { nx:=λ_ H'=>Q .non H',rt:=Q } (Q5 N vs) H):FnOk P w K mg base CX0 (k+1) f fd ps sp:=by
 obtain⟨oc,od,kV,doc,pm,an,cdv,ct,osl,rfl,lk,hcd⟩:=F.ex;refine aP1 lk hcd S len λA outer s H vs Q E hr hsp=>?_
 obtain⟨t,h,q⟩:=hbody cdv A outer s H vs Q E hr hsp;exact⟨t,h.nox,q⟩
def cJ5{x qual:Str}{st:Stmt}{f:fO}{oc:fM}{od an:Option fO}{osl:Array (Option fM)}{kV doc pm cdv ct:fM}(l:K.lookup f=Z ⟨oc,od,.func<|bM x qual (Z2 st) (M0 st) (C8 st) .none kV doc pm an cdv ct,osl⟩)
  (c:cN K cdv qual=true) (k:aW K (.ref f)=true):Fun K x qual st f (bM x qual (Z2 st) (M0 st) (C8 st) .none kV doc pm an cdv ct):=⟨⟨oc,od,kV,doc,pm,an,cdv,ct,osl,rfl,l,c⟩,k⟩
end
def av2(h:n<=1000):n < eU:=cg h (by decide)
section
variable {X:Cx}
def pv(i:Nat)(hN:X.N[i]? = Z x:=by rfl)(hv:Vis X.env.scope x:=by first|exact Or.inl rfl|exact Or.inr (Or.inl rfl)|exact Or.inr<|Or.inr rfl)(hd:(x==("__debug__" : Str))=false:=by decide)
  (hcd:(x==("__classdict__" : Str))=false:=by decide):PE X (.Name x pos) (cP5 i):=ac0 hN hv hd hcd
end
def aH7{A B:Prop}(h:B):if false=true then A else B:=by
 rw[if_neg aE];exact h
def aH6{A B:Prop}(h:A):if true=true then A else B:=by
 rw[if_pos rfl];exact h
def E2(H H':Hp):Prop:=∀b o,H b=Z o->H' b=Z o
def E2.refl(H:Hp):E2 H H:=λ_ _ h=>h
def E2.trans(a:E2 H H1)(b:E2 H1 H2):E2 H H2:=λc o h=>b c o<|a c o h
def E2.free(e:E2 H H')(h:H' l=Option.none):H l=Option.none:=by
 cases q:H l with
 | none=>rfl
 | some o =>
  rw[e l o q]at h;cases h
end L2
set_option maxHeartbeats 4000000
namespace G
def xbm{α β:Type}{o:Option α}{f:α->Option β}{b:β}(h:o.bind f=Z b):∃a,o=Z a/\f a=Z b:=xbo h
open PySem PySem.Spec PyProof.Rows L2
noncomputable abbrev D:=PyData
mutual
noncomputable def Rep(K:ad) (H:Hp):D->V->Prop
 | .none,v=>v=.non
 | .bool b,v=>v=.bl b
 | .int i,v=>v=.int i
 | .str x,v=>v=.str x
 | .tuple ds,v=>∃a vs,v=.ref a/\SqT K H a vs/\Reps K H ds vs
 | .list ds,v=>∃a vs,v=.ref a/\SqL K H a vs/\Reps K H ds vs
 | .dict kvs,v=>∃a m,v=.ref a/\H a=Z (.dK m)/\RepKs K H kvs m
noncomputable def Reps(K:ad) (H:Hp):List D->List V->Prop
 | [],vs=>vs=[]
 | d::ds,vs=>∃v r,vs=v::r/\Rep K H d v/\Reps K H ds r
/-- a dict by texts -/
noncomputable def RepKs(K:ad) (H:Hp):List (D×D)->List (Key×V)->Prop
 | [],m=>m=[]
 | (k,d)::r,m=>∃x v t,k=.str x/\m=(.inr x,v)::t/\Rep K H d v/\RepKs K H r t
end
section
variable {K:PySem.W.Frag}{H H' H0 H1 H2 Hf Hf' Hf1 Hf2:Hp}
def bp7(e:E2 H H')(h:Rd H a u):Rd H' a u:=by
 rcases h with h|⟨o,h⟩
 .exact .inl (e _ _ h)
 .exact .inr ⟨o,e _ _ h⟩
def D5(e:E2 H H')(h:SqT K H a xs):SqT K H' a xs:=h.imp (bp7 e) id
def F7(e:E2 H H')(h:SqL K H a xs):SqL K H' a xs:=h.imp (bp7 e) id
mutual
theorem Rep.mono(e:E2 H H'):∀{d:D}{v:V},Rep K H d v->Rep K H' d v
 | .none,_,h=>h
 | .bool _,_,h=>h
 | .int _,_,h=>h
 | .str _,_,h=>h
 | .tuple _,_,⟨a,vs,h1,h2,h3⟩=>⟨a,vs,h1,D5 e h2,Reps.mono e h3⟩
 | .list _,_,⟨a,vs,h1,h2,h3⟩=>⟨a,vs,h1,F7 e h2,Reps.mono e h3⟩
 | .dict _,_,⟨a,m,h1,h2,h3⟩=>⟨a,m,h1,e _ _ h2,RepKs.mono e h3⟩
theorem Reps.mono(e:E2 H H'):∀{ds:List D}{vs:List V},Reps K H ds vs->Reps K H' ds vs
 | [],_,h=>h
 | _::_,_,⟨v,r,h1,h2,h3⟩=>⟨v,r,h1,Rep.mono e h2,Reps.mono e h3⟩
theorem RepKs.mono(e:E2 H H'):∀{ds:List (D×D)}{vs:List (Key×V)},RepKs K H ds vs->RepKs K H' ds vs
 | [],_,h=>h
 | (_,_)::_,_,⟨x,v,t,h1,h2,h3,h4⟩=>⟨x,v,t,h1,h2,Rep.mono e h3,RepKs.mono e h4⟩
end
theorem Reps.length:∀{ds:List D}{vs:List V},Reps K H ds vs->vs.length=ds.length
 | [],_,h=>by cases h;rfl
 | _::_,_,⟨v,r,h1,h2,h3⟩=>by subst h1;simp[Reps.length h3]
theorem Reps.get:∀{ds:List D}{vs:List V}{i:Nat}{d:D},Reps K H ds vs->ds[i]? = Z d->∃v,vs[i]? = Z v/\Rep K H d v
 | [],_,_,_,_,e=>by simp at e
 | x::_,_,0,_,⟨v,r,h1,h2,h3⟩,e=>by subst h1;simp at e;subst e;exact⟨v,rfl,h2⟩
 | x::_,_,i+1,_,⟨v,r,h1,h2,h3⟩,e=>by
  subst h1;obtain⟨u,q1,q2⟩:=Reps.get (i:=i) h3 (by simpa using e);exact⟨u,by simpa using q1,q2⟩
theorem Reps.append:∀{ds es:List D}{vs us:List V},Reps K H ds vs->Reps K H es us->Reps K H (ds++es) (vs++us)
 | [],_,_,_,h,q=>by cases h;exact q
 | _::_,_,_,_,⟨v,r,h1,h2,h3⟩,q=>by subst h1;exact⟨v,r++_,rfl,h2,Reps.append h3 q⟩
theorem Reps.take:∀{ds:List D}{vs:List V}(n:Nat),Reps K H ds vs->Reps K H (ds.take n) (vs.take n)
 | [],_,n,h=>by cases h;simp[Reps]
 | _::_,_,0,h=>by simp[Reps]
 | _::_,_,n+1,⟨v,r,h1,h2,h3⟩=>by subst h1;exact⟨v,r.take n,rfl,h2,Reps.take n h3⟩
theorem Reps.drop:∀{ds:List D}{vs:List V}(n:Nat),Reps K H ds vs->Reps K H (ds.drop n) (vs.drop n)
 | [],_,n,h=>by cases h;simp[Reps]
 | _::_,_,0,h=>h
 | _::_,_,n+1,⟨v,r,h1,h2,h3⟩=>by subst h1;exact Reps.drop n h3
theorem Reps.ints:∀(ns:List Int),Reps K H (ns.map fE) (ns.map V.int)
 | []=>rfl
 | n::r=>⟨.int n,r.map V.int,rfl,rfl,Reps.ints r⟩
theorem Reps.flatten(h:Reps K H ds vs):∀k:Nat,Reps K H (ax k ds).flatten (ax k vs).flatten
 | 0=>rfl
 | k+1=>by simp only[bK,bJ];exact h.append<|Reps.flatten h k
structure Grow (H Hf H' Hf':Hp):Prop where
 big:E2 H H'
 sub:E2 Hf' H'
 ext:E2 Hf Hf'
 new:∀b,Hf' b≠O->Hf b≠O\/H b=O
theorem Grow.refl(h:E2 Hf H):Grow H Hf H Hf:=⟨E2.refl _,h,E2.refl _,λ_ h=>.inl h⟩
theorem Grow.trans(a:Grow H Hf H1 Hf1)(b:Grow H1 Hf1 H2 Hf2):Grow H Hf H2 Hf2 :=
 ⟨a.big.trans b.big,b.sub,a.ext.trans b.ext,λx h=>(b.new x h).elim (a.new x) λz=>.inr<|a.big.free z⟩
def E4(h:H p=O):E2 H (upd H p o):=λb u e=>by rw[C6 (C9 e h)];exact e
def Grow.laid(s:E2 Hf H)(h:H p=O):Grow H Hf (upd H p o) (upd Hf p o):=by
 refine⟨E4 h,λb u e=>?_,E4<|s.free h,λb e=>?_⟩
 .by_cases q:b=p
  .subst q;rw[C5]at e;rw[C5];exact e
  .rw[C6 q]at e;rw[C6 q];exact s b u e
 .by_cases q:b=p
  .subst q;exact .inr h
  .rw[C6 q]at e;exact .inl e
def Grow.made(s:E2 Hf H)(h:H p=O):Grow H Hf (upd H p o) Hf :=
 ⟨E4 h,s.trans<|E4 h,E2.refl _,λ_ e=>.inl e⟩
def Grow.freeze(g:Grow H Hf H1 Hf1)(h:H1 p=Z o)(n:Hf1 p=O)(f:H p=O):Grow H Hf H1 (upd Hf1 p o):=by
 refine⟨g.big,λb u e=>?_,g.ext.trans<|E4 n,λb e=>?_⟩
 .by_cases q:b=p
  .subst q;rw[C5]at e;rw[h];exact e
  .rw[C6 q]at e;exact g.sub b u e
 .by_cases q:b=p
  .subst q;exact .inr f
  .rw[C6 q]at e;exact g.new b e
end
inductive B where
 | val (d:D)
 | own (ds:List D)
 | exc (x:Str)
noncomputable abbrev Rho:=List<|Option B
noncomputable def clA(K:ad)(x:Str):Option fO:=match aT K eY x with
 | some (Z (.ref C))=>Z C
 | _=>O
noncomputable def SB(K:ad)(H0 H Hf:Hp):B->V->Prop
 | .val d,v=>Rep K Hf d v
 | .own ds,v=>∃a vs,v=.ref a/\H a=Z (.lst vs)/\Hf a=O/\H0 a=O/\Reps K Hf ds vs
 | .exc x,v=>∃a o C,v=.ref a/\Hf a=Z (.frz o<|.own a)/\clA K x=Z C/\o.cls=.ref C
structure Slots (K:ad) (H0:Hp) (ρ:Rho) (σ:L2.St) (H Hf:Hp):Prop where
 len:ρ.length=σ.length
 is:∀(i:Nat) (b:B),ρ[i]? = Z (Z b)->∃v,σ[i]? = Z (Z v)/\SB K H0 H Hf b v
 apart:∀(i j:Nat) (ds es:List D) (a:fO),ρ[i]? = Z (Z<|.own ds)->ρ[j]? = Z (Z<|.own es)->σ[i]? = Z (Z<|V.ref a)->σ[j]? = Z (Z<|V.ref a)->i=j
section
variable {K:PySem.W.Frag}{H H' H0 H1 H2 Hf Hf' Hf1 Hf2:Hp}{ρ:Rho}{σ:L2.St}
def SB.grow(h:SB K H0 H Hf b v)(g:Grow H Hf H' Hf'):SB K H0 H' Hf' b v:=by
 cases b with
 | val d=>exact Rep.mono g.ext h
 | exc C =>
  obtain⟨a,o,C,e,h1,h2⟩:=h;exact⟨a,o,C,e,g.ext _ _ h1,h2⟩
 | own ds =>
  obtain⟨a,vs,e,h1,h2,h3,h4⟩:=h;refine⟨a,vs,e,g.big _ _ h1,?_,h3,h4.mono g.ext⟩;cases q:Hf' a with
  | none=>rfl
  | some u =>
   rcases g.new a (by rw[q];simp) with z|z
   .exact absurd h2 z
   .rw[h1]at z;cases z
theorem Slots.grow(s:Slots K H0 ρ σ H Hf)(g:Grow H Hf H' Hf'):Slots K H0 ρ σ H' Hf' :=
 ⟨s.len,λi b e=>let⟨v,h1,h2⟩:=s.is i b e;⟨v,h1,h2.grow g⟩,s.apart⟩
end
noncomputable abbrev DE:=Rho->Option D
noncomputable def tJ(K:ad)(ρ:Rho)(R:Hp->V->Hp->Hp->Prop):TE:=λσ H Q=>∃H0 Hf,E2 Hf H/\Slots K H0 ρ σ H Hf/\∀v H' Hf',Grow H Hf H' Hf'->R H v H' Hf'->Q v H'
def JE(X:Cx)(e:Expr)(f:DE):Prop:=∀ρ d,f ρ=Z d->PE X e (tJ X.K ρ λ_ v _ Hf=>Rep X.K Hf d v)
noncomputable def Sq(K:ad):Bool->Hp->fO->List V->Prop
 | true=>SqT K
 | false=>SqL K
def RQ(K:ad)(t:Bool)(ds:List D)(v:V)(H Hf:Hp):Prop:=∃a vs,v=.ref a/\Sq K t H a vs/\Reps K Hf ds vs
def JQ(X:Cx)(e:Expr)(f:Rho->Option (Bool×List D)):Prop:=∀ρ t ds,f ρ=Z (t,ds)->PE X e (tJ X.K ρ λ_ v H Hf=>RQ X.K t ds v H Hf)
def JN(X:Cx)(e:Expr)(f:Rho->Option (List D)):Prop:=∀ρ ds,f ρ=Z ds->PE X e (tJ X.K ρ λH v H' Hf'=>∃a vs,v=.ref a/\H a=O/\H' a=Z (.lst vs)/\Hf' a=O/\Reps X.K Hf' ds vs)
noncomputable def tJA(K:ad)(ρ:Rho)(ds:List D):TA:=λσ H Q=>∃H0 Hf,E2 Hf H/\Slots K H0 ρ σ H Hf/\∀vs H' Hf',Grow H Hf H' Hf'->Reps K Hf' ds vs->Q vs H'
structure JA (X:Cx) (es:List Expr) (f:Rho->Option (List D)):Prop where
 len:∀ρ ds,f ρ=Z ds->ds.length=es.length
 run:∀ρ ds,f ρ=Z ds->PA X es (tJA X.K ρ ds)
def JT(X:Cx)(e:Expr)(f:Rho->Option Bool):Prop:=∀ρ c,f ρ=Z c->PT X e (λσ H Q=>∃H0 Hf,E2 Hf H/\Slots X.K H0 ρ σ H Hf/\∀H' Hf',Grow H Hf H' Hf'->Q c H')
def JW(X:Cx)(e:Expr)(f:Rho->Option Bool):Prop:=∀ρ c,f ρ=Z c->PW X e (λσ H Q=>∃H0 Hf,E2 Hf H/\Slots X.K H0 ρ σ H Hf/\∀H' Hf',Grow H Hf H' Hf'->Q c H')
section
variable {X:Cx}
def C3(h:PE X e t)(i:∀σ H Q,t' σ H Q->t σ H Q):PE X e t':=λpins s σ H Q I q=>h pins s σ H Q I<|i σ H Q q
def aS8(h:PT X e t)(i:∀σ H Q,t' σ H Q->t σ H Q):PT X e t':=λpins s σ H Q I q=>h pins s σ H Q I<|i σ H Q q
noncomputable def dC(d:D):DE:=λ_=>Z d
noncomputable def A1(i:Nat):DE:=λρ=>match ρ[i]? with
 | some (Z (.val d))=>Z d
 | _=>O
noncomputable def A8(i:Nat):Rho->Option (Bool×List D):=λρ=>match ρ[i]? with
 | some (Z (.own ds))=>Z (false,ds)
 | some (Z (.val (.list ds)))=>Z (false,ds)
 | some (Z (.val (.tuple ds)))=>Z (true,ds)
 | _=>O
noncomputable def av4:D->Option (Bool×List D)
 | .list ds=>Z (false,ds)
 | .tuple ds=>Z (true,ds)
 | _=>O
def bQ3:JE X (.Constant (.int i) j pos) (dC<|.int i):=λρ d h=>by
 cases h;exact C3 bK6 λσ H Q ⟨H0,Hf,s,sl,k⟩=>k _ H Hf (Grow.refl s) rfl
def cV8:JE X (.Constant (.bool b) j pos) (dC<|.bool b):=λρ d h=>by
 cases h;exact C3 cS0 λσ H Q ⟨H0,Hf,s,sl,k⟩=>k _ H Hf (Grow.refl s) rfl
def cH4:JE X (.Constant .none j pos) (dC .none):=λρ d h=>by
 cases h;exact C3 cA0 λσ H Q ⟨H0,Hf,s,sl,k⟩=>k _ H Hf (Grow.refl s) rfl
def cG9:JE X (.Constant (.str x) j pos) (dC<|.str x):=λρ d h=>by
 cases h;exact C3 bK4 λσ H Q ⟨H0,Hf,s,sl,k⟩=>k _ H Hf (Grow.refl s) rfl
def bP5(i:Nat)(hN:X.N[i]? = Z x:=by rfl)(hv:Vis X.env.scope x:=by first|exact Or.inl rfl|exact Or.inr (Or.inl rfl)|exact Or.inr<|Or.inr rfl)(hd:(x==("__debug__" : Str))=false:=by decide)
  (hcd:(x==("__classdict__" : Str))=false:=by decide):JE X (.Name x pos) (A1 i):=λρ d h=>by
 refine C3 (ac0 hN hv hd hcd) λσ H Q ⟨H0,Hf,s,sl,k⟩=>?_
 unfold A1 at h;split at h
 .rename_i d' e;cases h;obtain⟨v,h1,h2⟩:=sl.is i _ e;exact⟨v,h1,k v H Hf (Grow.refl s) h2⟩
 .cases h
def cG3(i:Nat)(hN:X.N[i]? = Z x:=by rfl)(hv:Vis X.env.scope x:=by first|exact Or.inl rfl|exact Or.inr (Or.inl rfl)|exact Or.inr<|Or.inr rfl)(hd:(x==("__debug__" : Str))=false:=by decide)
  (hcd:(x==("__classdict__" : Str))=false:=by decide):JQ X (.Name x pos) (A8 i):=λρ t ds h=>by
 refine C3 (ac0 hN hv hd hcd) λσ H Q ⟨H0,Hf,s,sl,k⟩=>?_
 unfold A8 at h;split at h
 .rename_i d' e;cases h;obtain⟨v,h1,a,vs,rfl,h2,h3,h4,h5⟩:=sl.is i _ e;exact⟨_,h1,k _ H Hf (Grow.refl s) ⟨a,vs,rfl,SqL.of h2,h5⟩⟩
 .rename_i d' e;cases h;obtain⟨v,h1,a,vs,rfl,h2,h3⟩:=sl.is i _ e;exact⟨_,h1,k _ H Hf (Grow.refl s) ⟨a,vs,rfl,F7 s h2,h3⟩⟩
 .rename_i d' e;cases h;obtain⟨v,h1,a,vs,rfl,h2,h3⟩:=sl.is i _ e;exact⟨_,h1,k _ H Hf (Grow.refl s) ⟨a,vs,rfl,D5 s h2,h3⟩⟩
 .cases h
def Rep.seq{K:ad}{H Hf:Hp}{d:D}{v:V}{t:Bool}{ds:List D}(h:Rep K Hf d v)(s:E2 Hf H)(e:av4 d=Z (t,ds)):RQ K t ds v H Hf:=by
 cases d with
 | list xs=>cases e;obtain⟨a,vs,e1,e2,e3⟩:=h;exact⟨a,vs,e1,F7 s e2,e3⟩
 | tuple xs=>cases e;obtain⟨a,vs,e1,e2,e3⟩:=h;exact⟨a,vs,e1,D5 s e2,e3⟩
 | _=>cases e
noncomputable def qE(f:DE):Rho->Option (Bool×List D):=λρ=>(f ρ).bind av4
def bP1(h:JE X e f):JQ X e (qE f):=λρ t ds q=>by
 obtain⟨d,h1,h2⟩:=xbm q;exact C3 (h ρ d h1) λσ H Q ⟨H0,Hf,s,sl,k⟩=>⟨H0,Hf,s,sl,λv H' Hf' g r=>k v H' Hf' g<|r.seq g.sub h2⟩
noncomputable def A2:Rho->Option (List D):=λ_=>Z []
noncomputable def A0(f:DE)(g:Rho->Option (List D)):Rho->Option (List D):=λρ=>(f ρ).bind λd=>(g ρ).map λds=>d::ds
def bR0:JA X [] A2:=⟨λρ ds h=>by cases h;rfl,λρ ds h pos pins s σ H Q I ⟨H0,Hf,ss,sl,k⟩=>by
 cases h
 exact J8 pos pins s σ H Q I (k [] H Hf (Grow.refl ss) rfl)⟩
def bs9(h:JE X e f)(r:JA X es g)(hs:eT (e::es) X.env=(false,eval e X.env)::eT es X.env:=by rfl):JA X (e::es) (A0 f g):=by
 refine⟨λρ ds q=>?_,λρ ds q=>?_⟩
 .obtain⟨d,h1,h2⟩:=xbm q;obtain⟨es',h3,h4⟩:=xmo h2;subst h4;simp[r.len ρ es' h3]
 .obtain⟨d,h1,h2⟩:=xbm q;obtain⟨es',h3,h4⟩:=xmo h2;subst h4;intro pos pins s σ H Q I ⟨H0,Hf,ss,sl,k⟩;refine E3 (h ρ d h1) (r.run ρ es' h3) hs pos pins s σ H Q I ⟨H0,Hf,ss,sl,λv H1 Hf1 g1 r1=>⟨H0,Hf1,g1.sub,sl.grow g1,λvs H2 Hf2 g2 r2=>?_⟩⟩;exact k (v::vs) H2 Hf2 (g1.trans g2) ⟨v,vs,rfl,r1.mono g2.ext,r2⟩
noncomputable def B4(f:Rho->Option (List D)):DE:=λρ=>(f ρ).map PyData.tuple
def bP7(h:JA X es f)(hn:es.length<=1000:=by decide):JE X (.Tuple es k pos) (B4 f):=λρ d q=>by
 obtain⟨ds,h1,h2⟩:=xmo q;subst h2;refine C3 (cz6 λpos pins s σ H Q I t=>h.run ρ ds h1 pos pins s σ H Q I t) λσ H Q ⟨H0,Hf,s,sl,k⟩=>?_
 refine⟨H0,Hf,s,sl,λvs H1 Hf1 g r=>⟨?_,λp hp=>?_⟩⟩
 .rw[r.length,h.len ρ ds h1];exact bT<|av2 hn
 .exact k _ _ _ (g.trans<|Grow.laid g.sub hp) ⟨p,vs,rfl,SqT.of C5,r.mono (Grow.laid (o:=.tup vs) g.sub hp).ext⟩
def bP2(h:JA X es f)(hn:es.length<=1000:=by decide):JN X (.List es pos) f:=λρ ds h1=>by
 refine C3 (cA1 λpos pins s σ H Q I t=>h.run ρ ds h1 pos pins s σ H Q I t) λσ H Q ⟨H0,Hf,s,sl,k⟩=>?_
 refine⟨H0,Hf,s,sl,λvs H1 Hf1 g r=>⟨?_,λp hp=>?_⟩⟩
 .rw[r.length,h.len ρ ds h1];exact bT<|av2 hn
 .exact k _ _ _ (g.trans<|Grow.made g.sub hp) ⟨p,vs,rfl,g.big.free hp,C5,g.sub.free hp,r⟩
noncomputable def L6(f:Rho->Option (List D)):DE:=λρ=>(f ρ).map PyData.list
def ar8(h:JN X e f):JE X e (L6 f):=λρ d q=>by
 obtain⟨ds,h1,h2⟩:=xmo q;subst h2;refine C3 (h ρ ds h1) λσ H Q ⟨H0,Hf,s,sl,k⟩=>⟨H0,Hf,s,sl,λv H' Hf' g ⟨a,vs,e1,e2,e3,e4,e5⟩=>?_⟩
 subst e1;exact k _ _ _ (g.freeze e3 e4 e2) ⟨a,vs,rfl,SqL.of C5,e5.mono<|E4 e4⟩
def bP0(h:JN X e f):JQ X e (λρ=>(f ρ).map λds=>(false,ds)):=λρ t ds q=>by
 obtain⟨ds',h1,h2⟩:=xmo q;cases h2;refine C3 (h ρ ds h1) λσ H Q ⟨H0,Hf,s,sl,k⟩=>⟨H0,Hf,s,sl,λv H' Hf' g ⟨a,vs,e1,e2,e3,e4,e5⟩=>?_⟩
 subst e1;exact k _ _ _ g ⟨a,vs,rfl,SqL.of e3,e5⟩
noncomputable def OpD(X:Cx)(F:fM->fM->Sem fM)(h:D->D->Option D):Prop:=∀x y z,h x y=Z z ->
 OpR X F λvx vy H Q=>∃Hf,E2 Hf H/\Rep X.K Hf x vx/\Rep X.K Hf y vy/\∀v H' Hf',Grow H Hf H' Hf'->Rep X.K Hf' z v->Q v H'
noncomputable def A5(h:D->D->Option D)(f g:DE):DE:=λρ=>(f ρ).bind λx=>(g ρ).bind λy=>h x y
def v7(o:OpD X (fg op) h)(ha:JE X a f)(hb:JE X b g):JE X (.BinOp a op b pos) (A5 h f g):=λρ d q=>by
 obtain⟨x,h1,q⟩:=xbm q;obtain⟨y,h2,h3⟩:=xbm q;refine C3 (cp5 (o x y d h3) (ha ρ x h1)<|hb ρ y h2) λσ H Q ⟨H0,Hf,s,sl,k⟩=>?_
 refine⟨H0,Hf,s,sl,λv H1 Hf1 g1 r1=>⟨H0,Hf1,g1.sub,sl.grow g1,λu H2 Hf2 g2 r2=>?_⟩⟩;exact⟨Hf2,g2.sub,r1.mono g2.ext,r2,λw H3 Hf3 g3 r3=>k w H3 Hf3 ((g1.trans g2).trans g3) r3⟩
def bQ6(o:OpD X (eW op) h)(ha:JE X a f)(hb:JE X b g)(hm:behindInMarks op b=false:=by first|exact bL9 _|rfl):JE X (.Compare a [op] [b] pos) (A5 h f g):=λρ d q=>by
 obtain⟨x,h1,q⟩:=xbm q;obtain⟨y,h2,h3⟩:=xbm q;refine C3 (ce0 (o x y d h3) (ha ρ x h1) (hb ρ y h2) hm) λσ H Q ⟨H0,Hf,s,sl,k⟩=>?_
 refine⟨H0,Hf,s,sl,λv H1 Hf1 g1 r1=>⟨H0,Hf1,g1.sub,sl.grow g1,λu H2 Hf2 g2 r2=>?_⟩⟩;exact⟨Hf2,g2.sub,r1.mono g2.ext,r2,λw H3 Hf3 g3 r3=>k w H3 Hf3 ((g1.trans g2).trans g3) r3⟩
def OpR.imp(h:OpR X F r)(i:∀x y H Q,r' x y H Q->r x y H Q):OpR X F r':=λpins s σ H x y v u Q I rx ry q=>h pins s σ H x y v u Q I rx ry<|i x y H Q q
end
section
variable {X:Cx}
def F4(i:Int):Prop:=i.natAbs < 2 ^ 8000
instance:DecidablePred F4:=λi=>inferInstanceAs<|Decidable (i.natAbs < 2 ^ 8000)
def F4.log(h:F4 i)(h0:i.natAbs≠0):i.natAbs.log2 < 8000:=(Nat.log2_lt h0).mpr h
def F4.bits(h:F4 i):Builtin.Int.intBits i<=2 ^ 20:=by
 unfold Builtin.Int.intBits;split
 .exact aQ _
 .rename_i h0;have:=h.log (by simpa using h0)
  grind
def ce7:OpR X (fg .Mult) (rI (λi j=>F4 i/\F4 j) λi j=>.int<|i*j):=opI λ_ _ _ _ _ _ _ hc q=>mul_int q<|PySem.IntMulOk.of_bits hc.1.bits hc.2.bits
noncomputable def cZ3(x y:D):Option D:=match x,y with
 | .int i,.int j=>Z<|.int (i+j)
 | _,_=>O
noncomputable def aR7(x y:D):Option D:=match x,y with
 | .int i,.int j=>Z<|.int (i - j)
 | .int i,.bool b=>Z<|.int (i - if b=true then 1 else 0)
 | .bool a,.int j=>Z<|.int ((if a=true then 1 else 0) - j)
 | _,_=>O
noncomputable def cD1(x y:D):Option D:=match x,y with
 | .int i,.int j=>if F4 i/\F4 j then Z (.int<|i*j) else O
 | _,_=>O
noncomputable def ao0(x y:D):Option D:=match x,y with
 | .int i,.int j=>if 0 < j/\F4 j then Z (.int<|i / j) else O
 | _,_=>O
noncomputable def n5(x y:D):Option D:=match x,y with
 | .int i,.int j=>if 0 < j then Z (.int<|i % j) else O
 | _,_=>O
def db8:OpD X (fg .Add) cZ3:=λx y z h=>by
 unfold cZ3 at h;split at h
 .cases h;exact OpR.imp bL3 λvx vy H Q ⟨Hf,s,r1,r2,k⟩=>⟨_,_,r1,r2,k _ H Hf (Grow.refl s) rfl⟩
 .cases h
def cB1:OpD X (fg .Sub) aR7:=λx y z h=>by
 unfold aR7 at h;split at h
 .cases h;exact OpR.imp cA8 λvx vy H Q ⟨Hf,s,r1,r2,k⟩=>⟨_,_,r1,r2,k _ H Hf (Grow.refl s) rfl⟩
 .cases h;intro pins s σ H vx vy v u Q I rx ry ⟨Hf,ss,r1,r2,k⟩;cases r1;cases r2;obtain⟨t,rfl⟩:=rx;obtain rfl:u=Value.bool _:=ry;exact PySem.IntBool.sub_int_bool ⟨.int _,H,I.tok _,⟨_,rfl⟩,k _ H Hf (Grow.refl ss) rfl⟩
 .cases h;intro pins s σ H vx vy v u Q I rx ry ⟨Hf,ss,r1,r2,k⟩;cases r1;cases r2;obtain⟨t,rfl⟩:=ry;obtain rfl:v=Value.bool _:=rx;exact PySem.IntBool.sub_bool_int ⟨.int _,H,I.tok _,⟨_,rfl⟩,k _ H Hf (Grow.refl ss) rfl⟩
 .cases h
def cB2:OpD X (fg .Mult) cD1:=λx y z h=>by
 unfold cD1 at h;split at h
 .split at h
  .rename_i c;cases h;exact OpR.imp ce7 λvx vy H Q ⟨Hf,s,r1,r2,k⟩=>⟨_,_,r1,r2,c,k _ H Hf (Grow.refl s) rfl⟩
  .cases h
 .cases h
def bx9:OpR X (fg .FloorDiv) (rI (λ_ j=>0 < j/\F4 j) λi j=>.int<|i / j):=opI λi j _ _ s Q E hc q=>by
 have e:i.fdiv j=i / j:=Int.fdiv_eq_ediv_of_nonneg i (Int.le_of_lt hc.1);refine floordiv_int (by grind) (by rw[e];exact q) (.inl<|PyProof.noPylong_of_log2 ?_);have h2:=hc.2.log (by grind)
 grind
def cB7:OpD X (fg .FloorDiv) ao0:=λx y z h=>by
 unfold ao0 at h;split at h
 .split at h
  .rename_i c;cases h;exact OpR.imp bx9 λvx vy H Q ⟨Hf,s,r1,r2,k⟩=>⟨_,_,r1,r2,c,k _ H Hf (Grow.refl s) rfl⟩
  .cases h
 .cases h
def cB3:OpD X (fg .Mod) n5:=λx y z h=>by
 unfold n5 at h;split at h
 .split at h
  .rename_i c;cases h;exact OpR.imp cA9 λvx vy H Q ⟨Hf,s,r1,r2,k⟩=>⟨_,_,r1,r2,c,k _ H Hf (Grow.refl s) rfl⟩
  .cases h
 .cases h
def bL2:OpR X (fg .Add) (λx y H Q=>∃a b ys,x=.ref a/\y=.ref b/\SqT X.K H a []/\SqT X.K H b ys/\Q (.ref b) H):=by
 intro pins s σ H x y v u Q I rx ry h;obtain⟨a,b,ys,rfl,rfl,ha,hb,q⟩:=h;cases rx;cases ry;obtain⟨its,r1,p1,_⟩:=I.tuple ha;obtain⟨its2,r2,p2,_⟩:=I.tuple hb;cases r1;obtain⟨⟨cls,dd,data,sl⟩,ho,hc,n,hd⟩:=id p1;obtain⟨⟨cls2,dd2,data2,sl2⟩,ho2,hc2,n2,hd2⟩:=id p2;simp only at hc hd hc2 hd2;subst hc hd hc2 hd2
 exact concat_meets ⟨_,ho,rfl⟩ ⟨_,ho2,rfl⟩ noFill_tuple_add seq_tuple_add PySem.F.slot_tuple_add PySem.F.entry_tuple_add (PySem.F.args_tuple_add_2 _ _)
   (tuple_addW0 a b _ its2.toArray n n2 dd dd2 sl sl2<|by rfl) ⟨ho,ho2,⟨.ref b,H,I,rfl,q⟩⟩
noncomputable def ac6(x y:D):Option D:=match x,y with
 | .tuple xs,.tuple ys=>if xs.length+ys.length<=16777216 then Z (.tuple<|xs++ys) else O
 | .str a,.str b=>if a.length+b.length<=16777216 then Z (.str<|a++b) else O
 | .int i,.int j=>Z<|.int (i+j)
 | .bool a,.int j=>Z<|.int ((if a=true then 1 else 0)+j)
 | _,_=>O
def bL8:OpD X (fg .Add) ac6:=λx y z h=>by
 unfold ac6 at h;split at h
 .split at h
  .rename_i xs ys c;cases h;cases xs with
   | nil =>
    refine OpR.imp bL2 λvx vy H Q ⟨Hf,s,r1,r2,k⟩=>?_
    obtain⟨a,vs,rfl,h2,h3⟩:=r1;obtain⟨b,us,rfl,h5,h6⟩:=r2;cases h3;exact⟨a,b,us,rfl,rfl,D5 s h2,D5 s h5,k _ H Hf (Grow.refl s) ⟨b,us,rfl,h5,h6⟩⟩
   | cons d0 ds0 =>
    refine OpR.imp ce8 λvx vy H Q ⟨Hf,s,r1,r2,k⟩=>?_
    obtain⟨a,vs,rfl,h2,h3⟩:=r1;obtain⟨b,us,rfl,h5,h6⟩:=r2;have l1:=h3.length;have l2:=h6.length;refine⟨a,b,vs,us,rfl,rfl,D5 s h2,D5 s h5,?_,by rw[eV];grind,λe=>?_,λe p hp=>?_⟩
    .intro e;subst e;simp at l1
    .subst e;have:ys=[]:=by cases ys<;>simp_all
     subst this;exact k _ H Hf (Grow.refl s) ⟨a,vs,rfl,h2,by rw[ba];exact h3⟩
    .exact k _ _ _ (Grow.laid s hp) ⟨p,vs++us,rfl,SqT.of C5,(h3.append h6).mono<|E4 (s.free hp)⟩
  .cases h
 .split at h
  .rename_i c;cases h;exact OpR.imp bi6 λvx vy H Q ⟨Hf,s,r1,r2,k⟩=>⟨_,_,r1,r2,by rw[eV];exact c,k _ H Hf (Grow.refl s) rfl⟩
  .cases h
 .cases h;exact OpR.imp bL3 λvx vy H Q ⟨Hf,s,r1,r2,k⟩=>⟨_,_,r1,r2,k _ H Hf (Grow.refl s) rfl⟩
 .cases h;intro pins s σ H vx vy v u Q I rx ry ⟨Hf,ss,r1,r2,k⟩;cases r1;cases r2;obtain⟨t,rfl⟩:=ry;obtain rfl:v=Value.bool _:=rx;exact PySem.IntBool.add_bool_int ⟨.int _,H,I.tok _,⟨_,rfl⟩,k _ H Hf (Grow.refl ss) rfl⟩
 .cases h
noncomputable def ltI(x y:D):Option D:=match x,y with
 | .int i,.int j=>Z<|.bool (decide (i < j))
 | _,_=>O
noncomputable def leI(x y:D):Option D:=match x,y with
 | .int i,.int j=>Z<|.bool (decide (i<=j))
 | _,_=>O
noncomputable def gtI(x y:D):Option D:=match x,y with
 | .int i,.int j=>Z<|.bool (decide (j < i))
 | _,_=>O
noncomputable def geI(x y:D):Option D:=match x,y with
 | .int i,.int j=>Z<|.bool (decide (j<=i))
 | _,_=>O
def cT0:OpD X (eW .Lt) ltI:=λx y z h=>by
 unfold ltI at h;split at h
 .cases h;exact OpR.imp cS3 λvx vy H Q ⟨Hf,s,r1,r2,k⟩=>⟨_,_,r1,r2,k _ H Hf (Grow.refl s) rfl⟩
 .cases h
def cT1:OpD X (eW .LtE) leI:=λx y z h=>by
 unfold leI at h;split at h
 .cases h;exact OpR.imp cS4 λvx vy H Q ⟨Hf,s,r1,r2,k⟩=>⟨_,_,r1,r2,k _ H Hf (Grow.refl s) rfl⟩
 .cases h
def cT4:OpD X (eW .Gt) gtI:=λx y z h=>by
 unfold gtI at h;split at h
 .cases h;exact OpR.imp cS5 λvx vy H Q ⟨Hf,s,r1,r2,k⟩=>⟨_,_,r1,r2,k _ H Hf (Grow.refl s) rfl⟩
 .cases h
def cT5:OpD X (eW .GtE) geI:=λx y z h=>by
 unfold geI at h;split at h
 .cases h;exact OpR.imp cS6 λvx vy H Q ⟨Hf,s,r1,r2,k⟩=>⟨_,_,r1,r2,k _ H Hf (Grow.refl s) rfl⟩
 .cases h
mutual
theorem Rep.reads(I:Inv X pins σ H s):∀{d:D}{v:V}{u:fM},Rep X.K H d v->D9 v u->∃as,Reads s.heap u d as
 | .none,_,_,h,r=>by cases h;cases r;exact⟨_,.none⟩
 | .bool b,_,_,h,r=>by cases h;cases r;exact⟨_,.bool b⟩
 | .int i,_,_,h,r=>by cases h;obtain⟨t,rfl⟩:=r;exact⟨_,.int i t⟩
 | .str x,_,_,h,r=>by cases h;obtain⟨t,rfl⟩:=r;exact⟨_,.str x t⟩
 | .tuple ds,_,_,⟨a,vs,h1,h2,h3⟩,r=>by
  subst h1;cases r;obtain⟨its,rv,⟨o,ho,hc,n,hd⟩,_⟩:=I.tuple h2;obtain⟨as,q⟩:=Reps.reads I h3 rv;exact⟨_,.tuple ho hc hd<|by simpa using q⟩
 | .list ds,_,_,⟨a,vs,h1,h2,h3⟩,r=>by
  subst h1;cases r;obtain⟨its,rv,pl,_⟩:=I.list h2;obtain⟨o,ho,hc,n,hd⟩:=pl.isList;obtain⟨as,q⟩:=Reps.reads I h3 rv;exact⟨_,.list ho hc hd<|by simpa using q⟩
 | .dict kvs,_,_,⟨a,m,h1,h2,h3⟩,r=>by
  subst h1;cases r;obtain⟨_,_,vs,rk,o,es,ep,ho,hx,hd,_,hp,_⟩:=(show N8 X.prog X.w H s.heap a (.dK m) from I.hok a _ h2);obtain⟨as,bs,q1,q2⟩:=RepKs.reads I h3 rk hp;exact⟨_,.dict ho hx.1 hd q1 q2⟩
theorem RepKs.reads(I:Inv X pins σ H s):∀{kvs:List (D×D)}{m:List (Key×V)}{vs:List (Key×fM)}{es:List DictEntry},RepKs X.K H kvs m->KV m vs->Pairs (F8 X.prog X.w) es vs ->
  ∃as bs,ReadsAll s.heap (es.map (·.key)) (kvs.map (·.1)) as/\ReadsAll s.heap (es.map (·.val)) (kvs.map (·.2)) bs
 | [],_,_,_,h,r,p=>by cases h;cases r;cases p;exact⟨_,_,.nil,.nil⟩
 | (k,d)::kvs,_,_,_,⟨x,v,t,h1,h2,h3,h4⟩,r,p=>by
  subst h1 h2;cases r with
  | @cons _ b _ bs r1 r2 =>
   cases p with
   | @cons e kv es _ p1 p2 p3 =>
    obtain⟨as,cs,q1,q2⟩:=RepKs.reads I h4 r2 p3;obtain⟨r1,r3⟩:=r1;rw[← p2]at r3;obtain⟨ds,q3⟩:=Rep.reads I h3 r3;rw[← r1]at p1;have hk:∃t,e.key=.str x t:=Value.isStrOf_shape (x:=x) (v:=e.key) p1;obtain⟨t,hk⟩:=hk;refine⟨_,_,.cons (as:=[]) ?_ q1,.cons q3 q2⟩;show Reads s.heap e.key (.str x) [];rw[hk];exact .str x t
theorem Reps.reads(I:Inv X pins σ H s):∀{ds:List D}{vs:List V}{us:List fM},Reps X.K H ds vs->E1 vs us->∃as,ReadsAll s.heap us ds as
 | [],_,_,h,r=>by cases h;cases r;exact⟨_,.nil⟩
 | d::ds,_,_,⟨v,vr,h1,h2,h3⟩,r=>by
  subst h1;cases r with
  | cons r1 r2 =>
   obtain⟨as,q1⟩:=Rep.reads I h2 r1;obtain⟨bs,q2⟩:=Reps.reads I h3 r2;exact⟨_,.cons q1 q2⟩
end
noncomputable def eqD(x y:D):Option D:=if fC x=true/\fC y=true then Z (.bool<|fD x y) else O
noncomputable def neD(x y:D):Option D:=if fC x=true/\fC y=true then Z (.bool (!PyData.eqv x y)) else O
def cT6(hu:X.A.units+64 < cLine):OpD X (eW .Eq) eqD:=λx y z h=>by
 unfold eqD at h;split at h
 .rename_i c;cases h;intro pins s σ H vx vy v u Q I rx ry ⟨Hf,ss,r1,r2,k⟩;obtain⟨as,q1⟩:=Rep.reads I (r1.mono ss) rx;obtain⟨bs,q2⟩:=Rep.reads I (r2.mono ss) ry;exact eq_dataH q1 q2 c.1 c.2 hu ⟨.bl _,H,I,rfl,k _ H Hf (Grow.refl ss) rfl⟩
 .cases h
def cS9(hu:X.A.units+64 < cLine):OpD X (eW .NotEq) neD:=λx y z h=>by
 unfold neD at h;split at h
 .rename_i c;cases h;intro pins s σ H vx vy v u Q I rx ry ⟨Hf,ss,r1,r2,k⟩;obtain⟨as,q1⟩:=Rep.reads I (r1.mono ss) rx;obtain⟨bs,q2⟩:=Rep.reads I (r2.mono ss) ry;exact ne_dataH q1 q2 c.1 c.2 hu ⟨.bl _,H,I,rfl,k _ H Hf (Grow.refl ss) rfl⟩
 .cases h
noncomputable def isN(x y:D):Option D:=match x,y with
 | .none,.none=>Z<|.bool true
 | .dict _,_=>O
 | _,.none=>Z<|.bool false
 | _,_=>O
def bp8{K:ad}{H:Hp}{d:D}{v:V}(h:Rep K H d v):(decide (v=.non))=(match d with | .none=>true|_=>false):=by
 cases d with
 | none=>cases h;rfl
 | bool b=>cases h;rfl
 | int b=>cases h;rfl
 | str b=>cases h;rfl
 | tuple ds=>obtain⟨a,vs,rfl,_⟩:=h;rfl
 | list ds=>obtain⟨a,vs,rfl,_⟩:=h;rfl
 | dict ds=>obtain⟨a,m,rfl,_⟩:=h;rfl
def cB4:OpD X (eW .Is) isN:=λx y z h=>by
 refine OpR.imp cB0 λvx vy H Q ⟨Hf,s,r1,r2,k⟩=>?_
 have e:=bp8 r1
 cases y<;>cases x<;>simp only[isN,bf.injEq,reduceCtorEq]at h <;>
  (subst h;simp only at e;rw[e];exact⟨r2,k _ H Hf (Grow.refl s) rfl⟩)
noncomputable def cC0(x y:D):Option D:=match x,y with
 | .none,.none=>Z<|.bool false
 | .dict _,_=>O
 | _,.none=>Z<|.bool true
 | _,_=>O
def cf5:OpD X (eW .IsNot) cC0:=λx y z h=>by
 refine OpR.imp ce6 λvx vy H Q ⟨Hf,s,r1,r2,k⟩=>?_
 have e:=bp8 r1
 cases y<;>cases x<;>simp only[cC0,bf.injEq,reduceCtorEq]at h <;>
  (subst h;simp only at e;rw[e];exact⟨r2,k _ H Hf (Grow.refl s) rfl⟩)
noncomputable def V4(h1 h2:D->D->Option D)(f g k:DE):DE:=λρ=>(f ρ).bind λx=>(g ρ).bind λy=>(h1 x y).bind λz=>match z with
 | .bool true=>(k ρ).bind λw=>h2 y w
 | .bool false=>Z<|.bool false
 | _=>O
def bQ7(o1:OpD X (eW op) h1)(o2:OpD X (eW op') h2)(ha:JE X a f)(hb:JE X b g)(hc:JE X c k)
  (hm:lastMarks [op,op'] [b,c]=false:=by with_unfolding_all rfl):JE X (.Compare a [op,op'] [b,c] pos) (V4 h1 h2 f g k):=λρ d q=>by
 obtain⟨x,e1,q⟩:=xbm q;obtain⟨y,e2,q⟩:=xbm q;obtain⟨z,e3,q⟩:=xbm q;split at q
 .obtain⟨w,e4,e5⟩:=xbm q;refine C3 (aZ7 (o1 x y _ e3) (o2 y w d e5) (ha ρ x e1) (hb ρ y e2) (hc ρ w e4) hm) λσ H Q ⟨H0,Hf,s,sl,kk⟩=>?_
  refine⟨H0,Hf,s,sl,λv H1 Hf1 g1 r1=>⟨H0,Hf1,g1.sub,sl.grow g1,λu H2 Hf2 g2 r2=>⟨Hf2,g2.sub,r1.mono g2.ext,r2,λz' H3 Hf3 g3 r3=>?_⟩⟩⟩;refine⟨true,r3,aH6 ⟨H0,Hf3,g3.sub,sl.grow<|(g1.trans g2).trans g3,λw' H4 Hf4 g4 r4=>⟨Hf4,g4.sub,r2.mono (g3.trans g4).ext,r4,λz2 H5 Hf5 g5 r5=>?_⟩⟩⟩;exact kk z2 H5 Hf5 ((((g1.trans g2).trans g3).trans g4).trans g5) r5
 .cases q;intro pins s σ H Q I ⟨H0,Hf,ss,sl,kk⟩;refine aZ7 (tc:=λ_ _ _=>False) (r':=λ_ _ _ _=>False) (o1 x y _ e3) (λ_ _ _ _ _ _ _ _ _ _ _ _ h=>h.elim) (ha ρ x e1) (hb ρ y e2) (λ_ _ _ _ _ _ h=>h.elim) hm pins s σ H Q I ?_;refine⟨H0,Hf,ss,sl,λv H1 Hf1 g1 r1=>⟨H0,Hf1,g1.sub,sl.grow g1,λu H2 Hf2 g2 r2=>⟨Hf2,g2.sub,r1.mono g2.ext,r2,λz' H3 Hf3 g3 r3=>?_⟩⟩⟩;exact⟨false,r3,aH7<|kk _ H3 Hf3 ((g1.trans g2).trans g3) rfl⟩
 .cases q
def cH3(h:JE X a f):JE X (.BoolOp op [a] pos) f:=λρ d q=>cz8<|h ρ d q
noncomputable def T7(f g:DE):DE:=λρ=>(f ρ).bind λx=>match x with
 | .bool true=>g ρ
 | .bool false=>Z<|.bool false
 | _=>O
noncomputable def dOr(f g:DE):DE:=λρ=>(f ρ).bind λx=>match x with
 | .bool true=>Z<|.bool true
 | .bool false=>g ρ
 | .none=>g ρ
 | .tuple (y::r)=>Z<|.tuple (y::r)
 | _=>O
def bK5{a b:Expr}{G9:List Expr}{pos:Pos}{ta tb:TE}(ha:PE X a ta)(hb:PE X (.BoolOp .Or (b::G9) pos) tb):PE X (.BoolOp .Or (a::b::G9) pos) (λσ H Q=>ta σ H λx H1=>∃k,cM7 X.K x H1 k/\if k=true then Q x H1 else tb σ H1 Q):=by
 intro pins s σ H Q I h;refine BoolOp_or (thn (ha pins s σ H _ I h) λv s1 ⟨x,H1,I1,r1,k,tk,q1⟩=>?_);refine thn (bH2 pins s1 σ H1 x v (λc H2=>c=k/\H2=H1) I1 r1 ⟨k,tk,rfl,rfl⟩) λc s2 ⟨H2,I2,e1,e2⟩=>?_
 subst e1 e2;cases c with
 | false=>exact hb pins s2 σ _ Q I2 q1
 | true=>exact⟨x,_,I2,r1,q1⟩
noncomputable def be2(f:DE):DE:=λρ=>(f ρ).bind λx=>match x with
 | .bool c=>Z<|.bool (!c)
 | _=>O
def cI1{a b:Expr}{G9:List Expr}{f g:DE}{pos:Pos}(ha:JE X a f)(hb:JE X (.BoolOp .And (b::G9) pos) g):JE X (.BoolOp .And (a::b::G9) pos) (T7 f g):=λρ d q=>by
 obtain⟨x,e1,q⟩:=xbm q;split at q
 .refine C3 (bK9 (ha ρ _ e1)<|hb ρ d q) λσ H Q ⟨H0,Hf,s,sl,k⟩=>⟨H0,Hf,s,sl,λv H1 Hf1 g1 r1=>⟨true,r1,aH6 ⟨H0,Hf1,g1.sub,sl.grow g1,λu H2 Hf2 g2 r2=>k u H2 Hf2 (g1.trans g2) r2⟩⟩⟩
 .cases q;refine C3 (bK9 (tb:=λ_ _ _=>False) (ha ρ _ e1) λ_ _ _ _ _ _ h=>h.elim) λσ H Q ⟨H0,Hf,s,sl,k⟩=>⟨H0,Hf,s,sl,λv H1 Hf1 g1 r1=>⟨false,r1,aH7<|k _ H1 Hf1 g1 rfl⟩⟩
 .cases q
def cV5{a b:Expr}{G9:List Expr}{f g:DE}{pos:Pos}(ha:JE X a f)(hb:JE X (.BoolOp .Or (b::G9) pos) g):JE X (.BoolOp .Or (a::b::G9) pos) (dOr f g):=λρ d q=>by
 obtain⟨x,e1,q⟩:=xbm q;split at q
 .cases q;refine C3 (cp4 (tb:=λ_ _ _=>False) (ha ρ _ e1) λ_ _ _ _ _ _ h=>h.elim) λσ H Q ⟨H0,Hf,s,sl,k⟩=>⟨H0,Hf,s,sl,λv H1 Hf1 g1 r1=>⟨true,r1,aH6<|k _ H1 Hf1 g1 rfl⟩⟩
 .refine C3 (cp4 (ha ρ _ e1)<|hb ρ d q) λσ H Q ⟨H0,Hf,s,sl,k⟩=>⟨H0,Hf,s,sl,λv H1 Hf1 g1 r1=>⟨false,r1,aH7 ⟨H0,Hf1,g1.sub,sl.grow g1,λu H2 Hf2 g2 r2=>k u H2 Hf2 (g1.trans g2) r2⟩⟩⟩
 .refine C3 (bK5 (ha ρ _ e1)<|hb ρ d q) λσ H Q ⟨H0,Hf,s,sl,k⟩=>⟨H0,Hf,s,sl,λv H1 Hf1 g1 r1=>?_⟩
  cases r1;exact⟨false,rfl,aH7 ⟨H0,Hf1,g1.sub,sl.grow g1,λu H2 Hf2 g2 r2=>k u H2 Hf2 (g1.trans g2) r2⟩⟩
 .cases q;refine C3 (bK5 (tb:=λ_ _ _=>False) (ha ρ _ e1) λ_ _ _ _ _ _ h=>h.elim) λσ H Q ⟨H0,Hf,s,sl,k⟩=>⟨H0,Hf,s,sl,λv H1 Hf1 g1 r1=>?_⟩
  obtain⟨p,vs,e,h2,h3⟩:=id r1;subst e;refine⟨true,.inr<|.inl ⟨vs,D5 g1.sub h2,?_⟩,aH6<|k _ H1 Hf1 g1 r1⟩;obtain⟨_,_,e,_⟩:=h3;subst e;rfl
 .cases q
def bP9(ha:JE X a f):JE X (.UnaryOp .Not a pos) (be2 f):=λρ d q=>by
 obtain⟨x,e1,q⟩:=xbm q;split at q
 .cases q;exact C3 (cz9<|ha ρ _ e1) λσ H Q ⟨H0,Hf,s,sl,k⟩=>⟨H0,Hf,s,sl,λv H1 Hf1 g1 r1=>⟨_,r1,k _ H1 Hf1 g1 rfl⟩⟩
 .cases q
noncomputable def bH3:D->Option Bool
 | .none=>Z false
 | .bool b=>Z b
 | .int i=>Z<|i != 0
 | .str x=>if x.length<=16777216 then Z ((x.length:Int) != 0) else O
 | .list ds=>Z (!ds.isEmpty)
 | .tuple ds=>Z (!ds.isEmpty)
 | .dict _=>O
noncomputable def J5(f:DE):Rho->Option Bool:=λρ=>(f ρ).bind bH3
def bO1(ha:JE X a f)(he:∀whole,isTrue a X.env whole=(do let v ← whole;standAt a.pos;holding [v] (truthy v)):=by intro _;rfl):JT X a (J5 f):=λρ c q=>by
 obtain⟨d,e1,e2⟩:=xbm q;refine aS8 (bJ3 (ha ρ d e1) he) λσ H Q ⟨H0,Hf,s,sl,k⟩=>⟨H0,Hf,s,sl,λv H1 Hf1 g1 r1=>⟨c,?_,k H1 Hf1 g1⟩⟩
 cases d with
 | none=>cases e2;cases r1;rfl
 | bool b=>cases e2;cases r1;rfl
 | int i=>cases e2;cases r1;rfl
 | str x =>
  simp only[bH3]at e2;split at e2
  .rename_i hx;cases e2;cases r1;exact⟨by rw[eV];exact hx,rfl⟩
  .cases e2
 | list ds =>
  cases e2;obtain⟨a,vs,rfl,h2,h3⟩:=r1;refine .inl ⟨vs,F7 g1.sub h2,?_⟩;have:=h3.length;cases ds<;>cases vs<;>simp_all
 | tuple ds =>
  cases e2;obtain⟨a,vs,rfl,h2,h3⟩:=r1;refine .inr (.inl ⟨vs,D5 g1.sub h2,?_⟩);have:=h3.length;cases ds<;>cases vs<;>simp_all
 | dict _=>cases e2
noncomputable def M8:D->Option Bool
 | .bool b=>Z b
 | _=>O
noncomputable def tB2(h:D->D->Option D)(f g:DE):Rho->Option Bool:=λρ=>(A5 h f g ρ).bind M8
def bv0(h:M8 d=Z c):d=.bool c:=by
 cases d<;>simp[M8]at h;subst h;rfl
def bO3(o:OpD X (eW op) h)(ha:JE X a f)(hb:JE X b g)(hm:behindInMarks op b=false:=by first|exact bL9 _|rfl):JT X (.Compare a [op] [b] pos) (tB2 h f g):=λρ c q=>by
 obtain⟨d,q,e⟩:=xbm q;obtain⟨x,h1,q⟩:=xbm q;obtain⟨y,h2,h3⟩:=xbm q;have:=bv0 e;subst this;refine aS8 (cc7 (o x y _ h3) (ha ρ x h1) (hb ρ y h2) hm) λσ H Q ⟨H0,Hf,s,sl,k⟩=>?_
 refine⟨H0,Hf,s,sl,λv H1 Hf1 g1 r1=>⟨H0,Hf1,g1.sub,sl.grow g1,λu H2 Hf2 g2 r2=>?_⟩⟩;exact⟨Hf2,g2.sub,r1.mono g2.ext,r2,λw H3 Hf3 g3 r3=>⟨c,r3,k H3 Hf3<|(g1.trans g2).trans g3⟩⟩
noncomputable def Z8(f g:Rho->Option Bool):Rho->Option Bool:=λρ=>(f ρ).bind λc=>if c then g ρ else Z false
noncomputable def P8(f g:Rho->Option Bool):Rho->Option Bool:=λρ=>(f ρ).bind λc=>if c then Z true else g ρ
noncomputable def K5(f:Rho->Option Bool):Rho->Option Bool:=λρ=>(f ρ).map λc=>!c
def aS7(h:PW X e t)(i:∀σ H Q,t' σ H Q->t σ H Q):PW X e t':=λwhole pins s σ H Q I q=>h whole pins s σ H Q I<|i σ H Q q
def bb3(h:JW X e f):JT X e f:=λρ c q=>(h ρ c q).pt
def cg9(h:JT X a f):JW X (.BoolOp .And [a] pos) f:=λρ c q=>cc4<|h ρ c q
def cE8(h:JT X a f):JW X (.BoolOp .Or [a] pos) f:=λρ c q=>cy5<|h ρ c q
def cE9{a b:Expr}{G9:List Expr}{f g:Rho->Option Bool}{pos:Pos}(ha:JT X a f)(hb:JW X (.BoolOp .And (b::G9) pos) g):JW X (.BoolOp .And (a::b::G9) pos) (Z8 f g):=λρ c q=>by
 obtain⟨x,e1,q⟩:=xbm q;cases x with
 | true=>exact aS7 (bJ1 (ha ρ _ e1) (hb ρ c (by simpa using q))) λσ H Q ⟨H0,Hf,s,sl,k⟩=>⟨H0,Hf,s,sl,λH1 Hf1 g1=>aH6 ⟨H0,Hf1,g1.sub,sl.grow g1,λH2 Hf2 g2=>k H2 Hf2<|g1.trans g2⟩⟩
 | false =>
  have:c=false:=by simpa using q.symm
  subst this;exact aS7 (bJ1 (tB':=λ_ _ _=>False) (ha ρ _ e1) λ_ _ _ _ _ _ _ h=>h.elim) λσ H Q ⟨H0,Hf,s,sl,k⟩=>⟨H0,Hf,s,sl,λH1 Hf1 g1=>aH7<|k H1 Hf1 g1⟩
def cU9{a b:Expr}{G9:List Expr}{f g:Rho->Option Bool}{pos:Pos}(ha:JT X a f)(hb:JW X (.BoolOp .Or (b::G9) pos) g):JW X (.BoolOp .Or (a::b::G9) pos) (P8 f g):=λρ c q=>by
 obtain⟨x,e1,q⟩:=xbm q;cases x with
 | false=>exact aS7 (cp1 (ha ρ _ e1) (hb ρ c (by simpa using q))) λσ H Q ⟨H0,Hf,s,sl,k⟩=>⟨H0,Hf,s,sl,λH1 Hf1 g1=>aH7 ⟨H0,Hf1,g1.sub,sl.grow g1,λH2 Hf2 g2=>k H2 Hf2<|g1.trans g2⟩⟩
 | true =>
  have:c=true:=by simpa using q.symm
  subst this;exact aS7 (cp1 (tB':=λ_ _ _=>False) (ha ρ _ e1) λ_ _ _ _ _ _ _ h=>h.elim) λσ H Q ⟨H0,Hf,s,sl,k⟩=>⟨H0,Hf,s,sl,λH1 Hf1 g1=>aH6<|k H1 Hf1 g1⟩
def bO2(ha:JT X a f):JT X (.UnaryOp .Not a pos) (K5 f):=λρ c q=>by
 obtain⟨x,e1,e2⟩:=xmo q;subst e2;exact aS8 (cy7<|ha ρ x e1) λσ H Q ⟨H0,Hf,s,sl,k⟩=>⟨H0,Hf,s,sl,λH1 Hf1 g1=>k H1 Hf1 g1⟩
noncomputable def bD5(t:Rho->Option Bool)(f g:DE):DE:=λρ=>(t ρ).bind λc=>if c then f ρ else g ρ
def cH8(hc:JT X c t)(ha:JE X a f)(hb:JE X b g):JE X (.IfExp c a b pos) (bD5 t f g):=λρ d q=>by
 obtain⟨x,e1,q⟩:=xbm q;cases x with
 | true=>exact C3 (aZ6 (tb:=λ_ _ _=>False) (hc ρ _ e1) (ha ρ d (by simpa using q)) (λ_ _ _ _ _ _ h=>h.elim)) λσ H Q ⟨H0,Hf,s,sl,k⟩=>⟨H0,Hf,s,sl,λH1 Hf1 g1=>aH6 ⟨H0,Hf1,g1.sub,sl.grow g1,λu H2 Hf2 g2 r2=>k u H2 Hf2 (g1.trans g2) r2⟩⟩
 | false=>exact C3 (aZ6 (ta:=λ_ _ _=>False) (hc ρ _ e1) (λ_ _ _ _ _ _ h=>h.elim) (hb ρ d (by simpa using q))) λσ H Q ⟨H0,Hf,s,sl,k⟩=>⟨H0,Hf,s,sl,λH1 Hf1 g1=>aH7 ⟨H0,Hf1,g1.sub,sl.grow g1,λu H2 Hf2 g2 r2=>k u H2 Hf2 (g1.trans g2) r2⟩⟩
noncomputable def dIx(f:Rho->Option (Bool×List D))(g:DE):DE:=λρ=>(f ρ).bind λq=>(g ρ).bind λi=>match i with
 | .int i=>atI q.2 i
 | _=>O
def cb8{K:ad}{H:Hp}{ds:List D}{vs:List V}{i:Int}{d:D}(h:Reps K H ds vs)(e:atI ds i=Z d):∃v,atI vs i=Z v/\Rep K H d v:=by
 unfold atI at e ⊢;rw[h.length];obtain⟨j,h1,h2⟩:=xbm e;obtain⟨v,h3,h4⟩:=h.get h2;exact⟨v,by rw[h1];exact h3,h4⟩
def cV6{a b:Expr}{f:Rho->Option (Bool×List D)}{g:DE}{pos:Pos}(ha:JQ X a f)(hb:JE X b g)(hs:au0 b:=by intro _ _;rfl):JE X (.Subscript a b pos) (dIx f g):=λρ d q=>by
 obtain⟨⟨t,ds⟩,h1,q⟩:=xbm q;obtain⟨y,h2,h3⟩:=xbm q;split at h3
 .refine C3 (cp6 bR1 (ha ρ t ds h1) (hb ρ _ h2) hs) λσ H Q ⟨H0,Hf,s,sl,k⟩=>?_
  refine⟨H0,Hf,s,sl,λv H1 Hf1 g1 ⟨p,vs,e1,e2,e3⟩=>⟨H0,Hf1,g1.sub,sl.grow g1,λu H2 Hf2 g2 r2=>?_⟩⟩;obtain⟨w,q1,q2⟩:=cb8 (e3.mono g2.ext) h3;cases t with
  | true=>exact .inr<|.inl ⟨p,vs,_,w,e1,r2,D5 g2.big e2,q1,k w H2 Hf2 (g1.trans g2) q2⟩
  | false=>exact .inl ⟨p,vs,_,w,e1,r2,F7 g2.big e2,q1,k w H2 Hf2 (g1.trans g2) q2⟩
 .cases h3
noncomputable def R1(xs:List D)(lo hi:Option Int):List D:=(xs.drop<|HT.sIx xs.length 0 lo).take<|HT.sIx xs.length xs.length hi - HT.sIx xs.length 0 lo
def aG2{K:ad}{H:Hp}{ds:List D}{vs:List V}(h:Reps K H ds vs)(lo hi:Option Int):Reps K H (R1 ds lo hi) (be6 vs lo hi):=by
 unfold R1 be6;rw[h.length];exact(h.drop _).take _
def JO(X:Cx)(e:Option Expr)(f:Rho->Option (Option Int)):Prop:=∀ρ o,f ρ=Z o->PO X e (λσ H Q=>∃H0 Hf,E2 Hf H/\Slots X.K H0 ρ σ H Hf/\∀H' Hf',Grow H Hf H' Hf'->Q o H')
noncomputable def C7:Rho->Option (Option Int):=λ_=>Z O
noncomputable def aI0:D->Option Int
 | .int i=>Z i
 | _=>O
noncomputable def B6(f:DE):Rho->Option (Option Int):=λρ=>(f ρ).bind λd=>(aI0 d).map Z
def ci3:JO X O C7:=λρ o q=>by
 cases q;intro pins s σ H Q I ⟨H0,Hf,ss,sl,k⟩;exact cd3 pins s σ H Q I<|k H Hf (Grow.refl ss)
def ci2(h:JE X e f):JO X (Z e) (B6 f):=λρ o q=>by
 obtain⟨d,e1,e2⟩:=xbm q;obtain⟨i,e3,e4⟩:=xmo e2;subst e4;cases d<;>simp[aI0]at e3;subst e3;intro pins s σ H Q I ⟨H0,Hf,ss,sl,k⟩;exact cd2 (h ρ _ e1) pins s σ H Q I ⟨H0,Hf,ss,sl,λv H1 Hf1 g1 r1=>⟨_,r1,k H1 Hf1 g1⟩⟩
noncomputable def be1(f:DE)(lo hi:Rho->Option (Option Int)):DE:=λρ=>(f ρ).bind λd=>(lo ρ).bind λl=>(hi ρ).bind λh=>match d with
 | .tuple xs=>Z<|.tuple (R1 xs l h)
 | _=>O
def aj1{prog:fb}{w:World}{A:fc}{E:fM->fN->Prop}{s:fN}{t sl:fO}{items:Array fM}{vl vu:fM}{lo hi:Option Int}{Q:fM->fN->Prop}(ht:IsTup s.heap t items)(hs:s.heap.IsSliceOf sl vl vu .none)(pl:IsPart vl lo)(pu:IsPart vu hi)
  (hw:HT.sIx items.size 0 lo=0/\HT.sIx items.size items.size hi=items.size) (h:Q (.ref t) s):ft (fu prog w) A (getItem (.ref t)<|.ref sl) Q E s:=by
 obtain⟨os,hos,hcs,hds⟩:=id hs;have hTs:s.TypeIs (.ref sl) "slice" := ⟨os,hos,hcs⟩;unfold getItem
 try with_reducible refine wpAny_holding ?_
 first|refine eK (eM ?_)|skip
 refine eK (wpAny_sequenceKey ht.typeIs (by decide) ?_)
 refine eK (wpAny_callSpecial?_slot (name:=Str.ofString "__getitem__") ht.typeIs PyProof.Rows.slot_tuple_getitem
  (wpAny_call_entry PyProof.Rows.slot_tuple_getitem ht.typeIs entry_tuple_getitem ?_ (args_tuple_getitem _ _)))
 show ft _ _ (Builtin.Tuple.tupleItemsOf (.ref t) >>= _) _ _ s;refine eK (tupleItemsOf_ ht ?_);refine eK (wpAny_typeOf hTs ?_);rw[if_pos (by decide)];refine eK (HT.sliceApplied_gen hs pl pu ?_);have hyes:((((HT.sIx items.size 0 lo:Nat):Int)==0&&(1:Int)==1&&(HT.sIx items.size items.size hi - HT.sIx items.size 0 lo)==items.size)=true):=by rw[hw.1,hw.2];simp
 show ft _ _ (if(((HT.sIx items.size 0 lo:Nat):Int)==0&&(1:Int)==1&&(HT.sIx items.size items.size hi - HT.sIx items.size 0 lo)==items.size)=true then _ else _) _ _ s;rw[if_pos hyes];unfold Builtin.Tuple.tupleIsExact;refine eK (eK<|wpAny_typeOf ht.typeIs (eM ?_));rw[if_pos (by decide +kernel)];exact eK<|wpAny_rule (eM ⟨_,rfl,eM h⟩)
def aS0:SlR X (λx lo hi H Q=>∃a xs,x=.ref a/\SqT X.K H a xs/\(HT.sIx xs.length 0 lo=0/\HT.sIx xs.length xs.length hi=xs.length)/\Q (.ref a) H):=by
 intro pins s σ H x v vl vu lo hi sl Q I rx hs pl pu h;obtain⟨a,xs,rfl,hx,hw,q⟩:=h;cases rx;obtain⟨its,r,ht,hz⟩:=I.tuple hx;have hlen:its.toArray.size=xs.length:=by rw[ap];exact r.length.symm
 refine⟨"tuple", _,PyProof.Rows.slot_tuple_getitem.lookup,ht.typeIs,?_⟩;exact aj1 ht hs pl pu (by rw[hlen];exact hw) ⟨.ref a,H,I,rfl,q⟩
def bP8{a:Expr}{lo hi:Option Expr}{f:DE}{l h:Rho->Option (Option Int)}{pos p2:Pos}(ha:JE X a f)(hl:JO X lo l)(hh:JO X hi h):JE X (.Subscript a (.Slice lo hi O p2) pos) (be1 f l h):=λρ d q=>by
 obtain⟨x,e1,q⟩:=xbm q;obtain⟨y,e2,q⟩:=xbm q;obtain⟨z,e3,q⟩:=xbm q;cases x with
 | tuple xs =>
  cases q;refine C3 (ar2 (cw9.or aS0) (ha ρ _ e1) (hl ρ y e2)<|hh ρ z e3) λσ H Q ⟨H0,Hf,s,sl,k⟩=>?_
  refine⟨H0,Hf,s,sl,λv H1 Hf1 g1 ⟨p,vs,q1,q2,q3⟩=>⟨H0,Hf1,g1.sub,sl.grow g1,λH2 Hf2 g2=>⟨H0,Hf2,g2.sub,sl.grow<|g1.trans g2,λH3 Hf3 g3=>?_⟩⟩⟩;subst q1;have q2':=D5 (g2.trans g3).ext q2;have q3':=q3.mono (g2.trans g3).ext;by_cases c:HT.sIx vs.length 0 y=0/\HT.sIx vs.length vs.length z=vs.length
  .refine .inr ⟨p,vs,rfl,D5 g3.sub q2',c,k _ H3 Hf3 ((g1.trans g2).trans g3) ⟨p,vs,rfl,q2',?_⟩⟩
   have:R1 xs y z=xs:=by
    unfold R1;rw[← q3.length,c.1,c.2];simp[q3.length]
   rw[this];exact q3'
  .refine .inl ⟨p,vs,rfl,D5 g3.sub q2',c,λp' hp=>?_⟩;exact k _ _ _ (((g1.trans g2).trans g3).trans<|Grow.laid g3.sub hp) ⟨p',_,rfl,SqT.of C5,(aG2 q3' y z).mono<|E4 (g3.sub.free hp)⟩
 | _=>cases q
end
section
variable {X:Cx}
def bn3:ff "len" = Z (.builtin "len"):=PySem.boot_len
def cL7:ff "all" = Z (.builtin "all"):=by decide +kernel
def bY1:ff "isinstance" = Z (.builtin "isinstance"):=by decide +kernel
def bn4:ff "int" = Z (.type "int"):=by decide +kernel
def cn1:ff "bool" = Z (.type "bool"):=by decide +kernel
def cL4:ff "str" = Z (.type "str"):=by decide +kernel
def bv1:ff "list" = Z (.type "list"):=by decide +kernel
def be9:ff "tuple" = Z (.type "tuple"):=by decide +kernel
noncomputable def S2(f:Rho->Option (Bool×List D)):DE:=λρ=>(f ρ).map λq=>.int q.2.length
def bQ0(hg:Gl X "len")(hm:X.mg "len" = O)(h:JQ X e f)(he:eT [e] X.env=[(false,eval e X.env)]:=by rfl):JE X (.Call (.Name "len" p) [e] [] pos) (S2 f):=λρ d q=>by
 obtain⟨⟨t,ds⟩,h1,h2⟩:=xmo q;subst h2;refine C3 (Q9 aW5 hg hm bn3 (E3 (h ρ t ds h1) J8 he) (he:=he)) λσ H Q ⟨H0,Hf,s,sl,k⟩=>?_
 refine⟨H0,Hf,s,sl,λv H1 Hf1 g1 ⟨a,vs,e1,e2,e3⟩=>⟨a,vs,by rw[e1],?_,?_⟩⟩
 .cases t with
  | true=>exact .inr e2
  | false=>exact .inl e2
 .exact k _ H1 Hf1 g1 (by rw[e3.length];rfl)
def bP6(hg:Gl X "tuple")(hm:X.mg "tuple" = O)(h:JQ X e f)(hz:∀ρ ds,f ρ≠Z (true,ds)\/True:=by intros;exact .inr trivial)(he:eT [e] X.env=[(false,eval e X.env)]:=by rfl):
  JE X (.Call (.Name "tuple" p) [e] [] pos) (λρ=>(f ρ).bind λq=>if q.1=true then O else Z (.tuple q.2)):=λρ d q=>by
 obtain⟨⟨t,ds⟩,h1,h2⟩:=xbm q;cases t with
 | true=>simp at h2
 | false =>
  simp only[be,if_false,bf.injEq]at h2;subst h2;refine C3 (Z6 aM5 hg hm be9 (E3 (h ρ false ds h1) J8 he) (he:=he)) λσ H Q ⟨H0,Hf,s,sl,k⟩=>?_
  refine⟨H0,Hf,s,sl,λv H1 Hf1 g1 ⟨a,vs,e1,e2,e3⟩=>⟨a,vs,by rw[e1],.inl ⟨e2,λl hl=>?_⟩⟩⟩;exact k _ _ _ (g1.trans<|Grow.laid g1.sub hl) ⟨l,vs,rfl,SqT.of C5,e3.mono<|E4 (g1.sub.free hl)⟩
def ci4(hg:Gl X "list")(hm:X.mg "list" = O)(h:JQ X e f)(he:eT [e] X.env=[(false,eval e X.env)]:=by rfl):JN X (.Call (.Name "list" p) [e] [] pos) (λρ=>(f ρ).map λq=>q.2):=λρ ds' q=>by
 obtain⟨⟨t,ds⟩,h1,h2⟩:=xmo q;subst h2;refine C3 (Z6 aW3 hg hm bv1 (E3 (h ρ t ds h1) J8 he) (he:=he)) λσ H Q ⟨H0,Hf,s,sl,k⟩=>?_
 refine⟨H0,Hf,s,sl,λv H1 Hf1 g1 ⟨a,vs,e1,e2,e3⟩=>⟨a,vs,by rw[e1],?_,λl hl=>?_⟩⟩
 .cases t with
  | true=>exact .inr e2
  | false=>exact .inl e2
 .exact k _ _ _ (g1.trans<|Grow.made g1.sub hl) ⟨l,vs,rfl,g1.big.free hl,C5,g1.sub.free hl,e3⟩
noncomputable def be3(f:DE):DE:=λρ=>(f ρ).bind λd=>match d with
 | .int i=>Z<|.int i
 | .bool b=>Z<|.int (if b then 1 else 0)
 | _=>O
def bQ2(hg:Gl X "int")(hm:X.mg "int" = O)(h:JE X e f)(he:eT [e] X.env=[(false,eval e X.env)]:=by rfl):JE X (.Call (.Name "int" p) [e] [] pos) (be3 f):=λρ d q=>by
 obtain⟨x,h1,h2⟩:=xbm q;split at h2
 .cases h2;exact C3 (Z6 aP8 hg hm bn4 (E3 (h ρ _ h1) J8 he) (he:=he)) λσ H Q ⟨H0,Hf,s,sl,k⟩ =>⟨H0,Hf,s,sl,λv H1 Hf1 g1 r=>.inl ⟨_,by rw[show v=_ from r],k _ H1 Hf1 g1 rfl⟩⟩
 .cases h2;exact C3 (Z6 aP8 hg hm bn4 (E3 (h ρ _ h1) J8 he) (he:=he)) λσ H Q ⟨H0,Hf,s,sl,k⟩ =>⟨H0,Hf,s,sl,λv H1 Hf1 g1 r=>.inr ⟨_,by rw[show v=_ from r],k _ H1 Hf1 g1 rfl⟩⟩
 .cases h2
noncomputable def aW8:List D->Option Bool
 | []=>Z true
 | .bool b::r=>(aW8 r).map λc=>b&&c
 | _::_=>O
theorem bf3:∀{ds:List D}{c:Bool},aW8 ds=Z c->∃bs:List Bool,ds=bs.map fF/\c=bs.all id
 | [],c,h=>by cases h;exact⟨[],rfl,rfl⟩
 | .bool b::r,c,h=>by
  obtain⟨c',h1,h2⟩:=xmo h;obtain⟨bs,h3,h4⟩:=bf3 h1;exact⟨b::bs,by simp[h3],by simp[← h2,h4]⟩
theorem an0{K:ad}{H:Hp}:∀{bs:List Bool}{vs:List V},Reps K H (bs.map fF) vs->vs=bs.map V.bl
 | [],_,h=>h
 | _::_,_,⟨v,r,h1,h2,h3⟩=>by subst h1;rw[show v=_ from h2,an0 h3];rfl
def bE5:U9 X (.builtin "all") (λxs H Q=>X.calm=true/\∃(p:fO) (bs:List Bool),xs=[.ref p]/\SqL X.K H p (bs.map V.bl)/\Q (.bl<|bs.all id) H):=by
 intro pins s σ H xs us Q I r h;obtain⟨hc,p,bs,rfl,hq,q⟩:=h;obtain⟨u,rfl,rx⟩:=W3 r;cases rx;obtain⟨its,rv,pl,hz⟩:=I.list hq;have hlen:=rv.length;have hh:X.A.in1.handled=O:=I.ok.hd hc;have hlt:p < s.heap.objs.size:=by obtain⟨_,e,_⟩:=pl.isList;exact fA e
 refine call_all_walk (wpAny_pyIter_list pl.isList ?_);refine⟨s.heap.objs.size,_,_,_,_,_,λi=>(bs[i]?).getD false,rfl,Walks.list hh _ p (aC hlt) its.toArray,⟨⟨_,fB _ rfl,rfl,rfl⟩,pl.isList.at λo e=>fw _ e⟩,?_,?_⟩
 .intro i v s' Q' E' hv hQ;have hv':its[i]? = Z v:=by simpa using hv
  have:∃b,bs[i]? = Z b:=by
   have:i < its.length:=(ak.mp hv').1;have:i < bs.length:=by simpa using (by grind:i < (bs.map V.bl).length)
   exact⟨bs[i],by simp[this]⟩
  obtain⟨b,hb⟩:=this;obtain⟨u,hu,ru⟩:=rv.get (i:=i) (x:=.bl b) (by simp[hb]);rw[hv']at hu;cases hu;cases ru;exact eR (by simpa [hb] using hQ)
 .intro h' tk hk
  have e:((ay its.toArray.size).all λi=>(bs[i]?).getD false)=bs.all id:=by
   have hn:its.toArray.size=bs.length:=by simpa using hlen.symm
   rw[hn,bX];simp only[aK,aR,id];constructor
   .intro h x hx;obtain⟨i,hi,rfl⟩:=List.mem_iff_getElem.mp hx;simpa [hi] using h i hi
   .intro h i hi;simpa [hi] using h bs[i] (aS hi)
  rw[e]
  have I1:Inv X pins σ H { s with heap:=h',toks:=tk }:=by
   have I0:Inv X pins σ H { s with heap:=s.heap.push { cls:=.type "list_iterator", data:=.fields #[.ref p,rawInt 0] } }:=I.kept (t':=s.toks) λb o e=>fw _ e
   refine I.kept (t':=tk) λb o e=>hk b o ?_<|fw _ e
   intro hb;have:b=s.heap.objs.size:=by simpa using hb
   subst this;exact absurd (fA e)<|bt _
  exact⟨.bl<|bs.all id,H,I1,rfl,q⟩
noncomputable def aM1(f:Rho->Option (Bool×List D)):DE:=λρ=>(f ρ).bind λq=>if q.1=true then O else(aW8 q.2).map fF
def cI2(hg:Gl X "all")(hm:X.mg "all" = O)(h:JQ X e f)(hc:X.calm=true:=by rfl)(he:eT [e] X.env=[(false,eval e X.env)]:=by rfl):JE X (.Call (.Name "all" p) [e] [] pos) (aM1 f):=λρ d q=>by
 obtain⟨⟨t,ds⟩,h1,h2⟩:=xbm q;cases t with
 | true=>simp at h2
 | false =>
  simp only[be,if_false]at h2;obtain⟨c,h3,h4⟩:=xmo h2;subst h4;obtain⟨bs,h5,h6⟩:=bf3 h3;subst h5 h6;refine C3 (Q9 bE5 hg hm cL7 (E3 (h ρ false _ h1) J8 he) (he:=he)) λσ H Q ⟨H0,Hf,s,sl,k⟩=>?_
  refine⟨H0,Hf,s,sl,λv H1 Hf1 g1 ⟨a,vs,e1,e2,e3⟩=>⟨hc,a,bs,by rw[e1],?_,k _ H1 Hf1 g1 rfl⟩⟩;rw[an0 e3]at e2;exact e2
noncomputable def bj8(T:String)(d:D):Option Bool:=match d with
 | .int _=>(match T with | "int" => Z true | "bool" => Z false | "str" => Z false | "tuple" => Z false | "list" => Z false|_=>O)
 | .bool _=>(match T with | "int" => Z true | "bool" => Z true | "str" => Z false | "tuple" => Z false | "list" => Z false|_=>O)
 | .none=>(match T with | "int" => Z false | "bool" => Z false | "str" => Z false | "tuple" => Z false | "list" => Z false|_=>O)
 | .str _=>(match T with | "int" => Z false | "bool" => Z false | "str" => Z true | "tuple" => Z false | "list" => Z false|_=>O)
 | .tuple _=>(match T with | "int" => Z false | "bool" => Z false | "str" => Z false | "tuple" => Z true | "list" => Z false|_=>O)
 | .list _=>(match T with | "int" => Z false | "bool" => Z false | "str" => Z false | "tuple" => Z false | "list" => Z true|_=>O)
 | _=>O
noncomputable def tyD:D->String
 | .int _ => "int"
 | .bool _ => "bool"
 | .none => "NoneType"
 | .str _ => "str"
 | .tuple _ => "tuple"
 | .list _ => "list"
 | .dict _ => "dict"
def ck2{K:ad}{T:String}{d:D}{b:Bool}(h:bj8 T d=Z b):PySem.W.kitOne K (.type<|tyD d) (.type T)=Z b:=by
 unfold bj8 at h
 cases d<;>first
  | (dsimp only at h;split at h<;>first
   | (cases h;rfl)
   | cases h)
  | cases h
def bX8{T:String}:U9 X (.builtin "isinstance") (λxs H Q=>∃d x b,xs=[x,.ty T]/\Rep X.K H d x/\bj8 T d=Z b/\Q (.bl b) H):=by
 intro pins s σ H xs us Q I r h;obtain⟨d,x,b,rfl,hd,hb,q⟩:=h;obtain⟨u,c,rfl,rx,rc⟩:=co2 r;cases rc;have e:=ck2 (K:=X.K) hb;have fin:∀tk,EP X pins σ Q (.bool b) { s with toks:=tk }:=λtk=>⟨.bl b,H,I.tok tk,rfl,q⟩
 cases d with
 | none=>cases hd;cases rx;exact PySem.W.kia_one PySem.W.kitx_none I.kIn True.intro e (λz=>nomatch z) fin
 | bool y=>cases hd;cases rx;exact PySem.W.kia_one PySem.W.kitx_bool I.kIn True.intro e (λz=>nomatch z) fin
 | int i=>cases hd;obtain⟨t,rfl⟩:=rx;exact PySem.W.kia_one PySem.W.kitx_int I.kIn True.intro e (λz=>nomatch z) fin
 | str i=>cases hd;obtain⟨t,rfl⟩:=rx;exact PySem.W.kia_one PySem.W.kitx_str I.kIn True.intro e (λz=>nomatch z) fin
 | tuple ds =>
  obtain⟨a,vs,rfl,h2,h3⟩:=hd;cases rx;obtain⟨its,rv,⟨o,ho,hc,_⟩,_⟩:=I.tuple h2;exact PySem.W.kia_one PySem.W.kitx_tuple I.kIn ⟨o,ho,hc⟩ e (λz=>nomatch z) fin
 | list ds =>
  obtain⟨a,vs,rfl,h2,h3⟩:=hd;cases rx;obtain⟨its,rv,pl,_⟩:=I.list h2;obtain⟨o,ho,hc,_⟩:=pl.isList;exact PySem.W.kia_one PySem.W.kitx_list I.kIn ⟨o,ho,hc⟩ e (λz=>nomatch z) fin
 | dict ds=>simp[bj8]at hb
noncomputable def ae3(T:String)(f:DE):DE:=λρ=>(f ρ).bind λd=>(bj8 T d).map fF
def cH7(hg:Gl X "isinstance")(hm:X.mg "isinstance" = O)(hgT:Gl X x)(hmT:X.mg x=O)(hvT:ff x=Z (.type T))(h:JE X e f)
  (hn:x ≠ "__name__" := by decide) (hd:(x==("__debug__" : Str))=false:=by decide)
  (he:eT [e,.Name x p2] X.env=(false,eval e X.env)::eT [.Name x p2] X.env:=by rfl) (he2:eT [.Name x p2] X.env=[(false,eval (.Name x p2) X.env)]:=by rfl) (hpl:(backTo pos<|eT [.Name x p2] X.env).any (·.1)=false:=by rfl) :
  JE X (.Call (.Name "isinstance" p) [e,.Name x p2] [] pos) (ae3 T f):=λρ d q=>by
 obtain⟨y,h1,h2⟩:=xbm q;obtain⟨b,h3,h4⟩:=xmo h2;subst h4;refine C3 (Q9 (bX8 (T:=T)) hg hm bY1 (E3 (h ρ y h1) (E3 (bq3 (v:=.ty T) hgT hmT hvT rfl hn hd) J8 he2) he) (he:=he) (hpl:=hpl)) λσ H Q ⟨H0,Hf,s,sl,k⟩=>?_
 exact⟨H0,Hf,s,sl,λv H1 Hf1 g1 r=>⟨y,v,b,rfl,r.mono g1.sub,h3,k _ H1 Hf1 g1 rfl⟩⟩
noncomputable def spF(K:ad)(n:Nat)(F:List D->Option D):Sp:=λvs H Q _=>vs.length=n/\∃Hf ds d,E2 Hf H/\Reps K Hf ds vs/\F ds=Z d/\∀v H' Hf',Grow H Hf H' Hf'->Rep K Hf' d v->Q v H'
noncomputable def A3(F:List D->Option D)(f:Rho->Option (List D)):DE:=λρ=>(f ρ).bind F
def cj7(Fk:FnOk X.prog X.w X.K X.mg X.base CX0 k f fd ps (spF X.K n F))(hr:Room k X.A)(hg:Gl X x)(hm:X.mg x=Z (.ref f))(hk:aW X.K (.ref f)=true)(hb:Q3 X.K fd ps [])
  (ha:JA X (e::es) g) (hn:(e::es).length=n:=by rfl) (hdb:(x==("__debug__" : Str))=false:=by decide) (he:eT (e::es) X.env=(false,eval e X.env)::eT es X.env:=by rfl) (hpl:(backTo pos<|eT es X.env).any (·.1)=false:=by rfl) :
  JE X (.Call (.Name x p) (e::es) [] pos) (A3 F g):=λρ d q=>by
 obtain⟨ds,h1,h2⟩:=xbm q;refine C3 (ce2 Fk hr hg hm hk hb .nil cp7 (λpos pins s σ H Q I t=>ha.run ρ ds h1 pos pins s σ H Q I t) hdb he hpl) λσ H Q ⟨H0,Hf,s,sl,kk⟩=>?_
 refine⟨H0,Hf,s,sl,λvs H1 Hf1 g1 r1=>⟨?_,Hf1,ds,d,g1.sub,by rw[ba];exact r1,h2,λv H2 Hf2 g2 r2=>kk v H2 Hf2 (g1.trans g2) r2⟩⟩;rw[ba,r1.length,ha.len ρ ds h1,hn]
inductive Fl where
 | nx (ρ:Rho)
 | rt (d:D)
 | bk (ρ:Rho)
 | ct (ρ:Rho)
noncomputable abbrev DS:=Rho->Option Fl
structure At (K:ad) (H0 Hf0:Hp) (ρ:Rho) (σ:L2.St) (H Hf:Hp):Prop where
 gr:Grow H0 Hf0 H Hf
 sl:Slots K H0 ρ σ H Hf
noncomputable def Fl.ends(K:ad)(H0 Hf0 Hf:Hp)(En:Ends):Fl->Prop
 | .nx ρ=>∀σ' H' Hf',At K H0 Hf0 ρ σ' H' Hf'->E2 Hf Hf'->En.nx σ' H'
 | .bk ρ=>∀σ' H' Hf',At K H0 Hf0 ρ σ' H' Hf'->E2 Hf Hf'->En.bk σ' H'
 | .ct ρ=>∀σ' H' Hf',At K H0 Hf0 ρ σ' H' Hf'->E2 Hf Hf'->En.ct σ' H'
 | .rt d=>∀v H' Hf',Grow H0 Hf0 H' Hf'->Rep K Hf' d v->En.rt v H'
noncomputable def tJS(K:ad)(H0 Hf0:Hp)(ρ:Rho)(fl:Fl):TS:=λEn σ H=>∃Hf,At K H0 Hf0 ρ σ H Hf/\fl.ends K H0 Hf0 Hf En
def JS(X:Cx)(st:Stmt)(f:DS):Prop:=∀ρ fl,f ρ=Z fl->∀H0 Hf0,PS X st<|tJS X.K H0 Hf0 ρ fl
def JSs(X:Cx)(sts:List Stmt)(f:DS):Prop:=∀ρ fl,f ρ=Z fl->∀H0 Hf0,PSs X sts<|tJS X.K H0 Hf0 ρ fl
def P9{st:Stmt}{t t':TS}(h:PS X st t)(i:∀En σ H,t' En σ H->t En σ H):PS X st t':=λpins s σ H En I q=>h pins s σ H En I<|i En σ H q
def ar0{st:List Stmt}{t t':TS}(h:PSs X st t)(i:∀En σ H,t' En σ H->t En σ H):PSs X st t':=λpins s σ H En I q=>h pins s σ H En I<|i En σ H q
theorem At.grow{K:ad}{H0 Hf0 H Hf H' Hf':Hp}{ρ:Rho}{σ:L2.St}(a:At K H0 Hf0 ρ σ H Hf)(g:Grow H Hf H' Hf'):At K H0 Hf0 ρ σ H' Hf':=⟨a.gr.trans g,a.sl.grow g⟩
def Fl.ends_mono{K:ad}{H0 Hf0 Hf Hf':Hp}{En:Ends}{fl:Fl}(h:fl.ends K H0 Hf0 Hf En)(e:E2 Hf Hf'):fl.ends K H0 Hf0 Hf' En:=by
 cases fl with
 | nx ρ=>exact λσ' H' Hf'' a s=>h σ' H' Hf'' a<|e.trans s
 | bk ρ=>exact λσ' H' Hf'' a s=>h σ' H' Hf'' a<|e.trans s
 | ct ρ=>exact λσ' H' Hf'' a s=>h σ' H' Hf'' a<|e.trans s
 | rt d=>exact h
noncomputable def C2:DS:=λρ=>Z<|.nx ρ
noncomputable def A7(f g:DS):DS:=λρ=>(f ρ).bind λfl=>match fl with
 | .nx ρ'=>g ρ'
 | fl=>Z fl
def ch3:JSs X [] C2:=λρ fl q H0 Hf0=>by
 cases q;exact ar0 cc9 λEn σ H ⟨Hf,a,e⟩=>e σ H Hf a<|E2.refl _
def bO5{st:Stmt}{sts:List Stmt}{f g:DS}(h1:JS X st f)(h2:JSs X sts g):JSs X (st::sts) (A7 f g):=λρ fl q H0 Hf0=>by
 obtain⟨fl1,e1,q⟩:=xbm q;cases fl1 with
 | nx ρ' =>refine ar0 (ar1 (h1 ρ _ e1 H0 Hf0) (h2 ρ' fl q H0 Hf0)) λEn σ H ⟨Hf,a,e⟩=>⟨Hf,a,λσ' H' Hf' a' s'=>⟨Hf',a',Fl.ends_mono e s'⟩⟩
 | rt d=>cases q;exact ar0 (ar1 (h1 ρ _ e1 H0 Hf0) x6) λEn σ H ⟨Hf,a,e⟩=>⟨Hf,a,e⟩
 | bk ρ'=>cases q;exact ar0 (ar1 (h1 ρ _ e1 H0 Hf0) x6) λEn σ H ⟨Hf,a,e⟩=>⟨Hf,a,e⟩
 | ct ρ'=>cases q;exact ar0 (ar1 (h1 ρ _ e1 H0 Hf0) x6) λEn σ H ⟨Hf,a,e⟩=>⟨Hf,a,e⟩
def ch2{st:Stmt}{f:DS}(h1:JS X st f):JSs X [st] f:=λρ fl q H0 Hf0=>cc8<|h1 ρ fl q H0 Hf0
noncomputable def B1(f:DE):DS:=λρ=>(f ρ).map Fl.rt
def aU3{e:Expr}{f:DE}{pos:Pos}(h:JE X e f):JS X (.Return (Z e) pos) (B1 f):=λρ fl q H0 Hf0=>by
 obtain⟨d,e1,e2⟩:=xmo q;subst e2;exact P9 (cy9<|h ρ d e1) λEn σ H ⟨Hf,a,e⟩=>⟨H0,Hf,a.gr.sub,a.sl,λv H' Hf' g r=>e v H' Hf' (a.gr.trans g) r⟩
noncomputable def sIf(t:Rho->Option Bool)(f g:DS):DS:=λρ=>(t ρ).bind λc=>if c then f ρ else g ρ
def cq4{c:Expr}{a b:List Stmt}{t:Rho->Option Bool}{f g:DS}{pos:Pos}(hc:JT X c t)(ha:JSs X a f)(hb:JSs X b g):JS X (.If c a b pos) (sIf t f g):=λρ fl q H0 Hf0=>by
 obtain⟨x,e1,q⟩:=xbm q;cases x with
 | true =>refine P9 (cp3 (hc ρ _ e1) (ha ρ fl (by simpa using q) H0 Hf0) x6) λEn σ H ⟨Hf,a,e⟩=>⟨H0,Hf,a.gr.sub,a.sl,λH' Hf' g=>aH6 ⟨Hf',a.grow g,Fl.ends_mono e g.ext⟩⟩
 | false =>refine P9 (cp3 (hc ρ _ e1) x6 (hb ρ fl (by simpa using q) H0 Hf0)) λEn σ H ⟨Hf,a,e⟩=>⟨H0,Hf,a.gr.sub,a.sl,λH' Hf' g=>aH7 ⟨Hf',a.grow g,Fl.ends_mono e g.ext⟩⟩
theorem Slots.set{K:ad}{H0 H Hf:Hp}{ρ:Rho}{σ:L2.St}{i:Nat}{d:D}{v:V}(s:Slots K H0 ρ σ H Hf)(r:Rep K Hf d v):Slots K H0 (ρ.set i<|Z (.val d)) (σ.set i<|Z v) H Hf:=by
 refine⟨by simp[s.len],λj b e=>?_,λj k ds es a h1 h2 h3 h4=>?_⟩
 .by_cases q:i=j
  .subst q
   have hi:i < ρ.length:=by
    have:=(ak.mp e).1;simpa using this
   have hi':i < σ.length:=by rw[← s.len];exact hi
   rw[aI hi]at e;cases e;exact⟨v,aI hi',r⟩
  .rw[aG q]at e;obtain⟨u,h1,h2⟩:=s.is j b e;exact⟨u,by rw[aG q];exact h1,h2⟩
 .have hj:i≠j:=by
   intro q;subst q
   have hi:i < ρ.length:=by
    have:=(ak.mp h1).1;simpa using this
   rw[aI hi]at h1;cases h1
  have hk:i≠k:=by
   intro q;subst q
   have hi:i < ρ.length:=by
    have:=(ak.mp h2).1;simpa using this
   rw[aI hi]at h2;cases h2
  rw[aG hj]at h1 h3;rw[aG hk]at h2 h4;exact s.apart j k ds es a h1 h2 h3 h4
noncomputable def B3(i:Nat)(f:DE):DS:=λρ=>(f ρ).map λd=>.nx<|ρ.set i (Z<|.val d)
def bj5(i:Nat){x:Str}{e:Expr}{f:DE}{pos pos':Pos}(hN:X.N.Nodup)(h:JE X e f)(hi:X.N[i]? = Z x:=by rfl)(hx:Loc X.env.scope x:=by first|exact Or.inl rfl|exact Or.inr rfl)
  (hs:swapsWith e (Z<|.Name x pos') pos.line X.env=pure false:=by rfl) (hf:X.fn x=true\/X.env.scope.names.lookup x=Z .local:=by first|exact .inl rfl|exact .inr rfl):JS X (.Assign [.Name x pos'] e pos) (B3 i f):=λρ fl q H0 Hf0=>by
 obtain⟨d,e1,e2⟩:=xmo q;subst e2;exact P9 (bJ5 hN hi hx (h ρ d e1) hs hf) λEn σ H ⟨Hf,a,e⟩=>⟨H0,Hf,a.gr.sub,a.sl,λv H' Hf' g r=>e _ H' Hf' ⟨a.gr.trans g,(a.sl.grow g).set r⟩ g.ext⟩
noncomputable def bI4(i j:Nat)(f:Rho->Option (List D)):DS:=λρ=>(f ρ).bind λds=>match ds with
 | [a,b]=>Z<|.nx ((ρ.set i<|Z (.val a)).set j<|Z (.val b))
 | _=>O
end
def bD6(I:Nat->fN->Prop)
  (turn:∀n s,I n s->ft (fu prog w) A (pyNext it) (λr s1=>match r with
   | none=>R (.ok .next) s1
   | some v=>ft (fu prog w) A (letOwnedTupleGo target it v) (λ_ s1'=>ft (fu prog w) A (assign target env v) (λ_ s2 =>
     ft (fu prog w) A (forIn ifs true λc r=>if r=true then do let ok ← isTrue c env (eval c env);pure (ForInStep.yield ok) else pure (ForInStep.yield r)) (λok s3 =>
      if ok=true then ft (fu prog w) A (eval elt env) (λx s4 =>ft (fu prog w) A (call (.builtin "list.append") [acc,x]) (λ_ s5=>∃m,m < n/\I m s5) (λ_ _=>False) s4) (λ_ _=>False) s3
      else ∃m,m < n/\I m s3) (λ_ _=>False) s2) (λ_ _=>False) s1') (λ_ _=>False) s1) (λ_ _=>False) s)
  (n:Nat) (h:I n s) :
  codeAny (fu prog w) A (.compLoop (.ListComp elt [⟨target,iter,ifs,0⟩] scope pos) 0 it acc env) R s:=by
 refine codeAny_loop rfl I (λn s hI=>?_) n h;show ft _ A ((compTurn (.ListComp elt [⟨target,iter,ifs,0⟩] scope pos) 0 it acc env).onRaise (λx=>do noteFrame x env;theTreesLotGoes x)) _ _ s;refine wpAny_noted ?_;rw[compTurn_list];refine eK (wpAny_standAt<|eK (eO (turn n s hI) (λr s1 h1=>?_) λ_ _ h'=>h'.elim));cases r with
 | none=>exact eM h1
 | some v =>
  refine eK (eO h1 (λ_ s1' h1'=>?_) λ_ _ h'=>h'.elim);refine eK (eO h1' (λ_ s2 h2=>eK<|eO h2 (λok s3 h3=>?_) λ_ _ h'=>h'.elim) λ_ _ h'=>h'.elim);cases ok with
  | false=>exact eM ⟨rfl,h3⟩
  | true =>exact eK<|eK (eO h3 (λx s4 h4=>eK (eO h4 (λ_ s5 h5=>eM (eM ⟨rfl,h5⟩)) λ_ _ h'=>h'.elim)) λ_ _ h'=>h'.elim)
noncomputable def S3(cells:List (Str×fO)):List (Str×NameKind)->List (Str×fO)->List (Str×fO)
 | [],cs=>cs
 | (n,k)::r,cs=>if(k==fK)=true then S3 cells r ((n,(cells.lookup n).getD 0)::cs) else S3 cells r cs
theorem aI8:∀(names:List (Str×NameKind)) (cs:List (Str×fO)),(∀y∈names,y.2=.free->∃c,env.cells.lookup y.1=Z c) ->
  (forIn names cs λ(x:Str×NameKind) (r:List (Str×fO))=>if(x.2==fK)=true then do let a ← cellOf env x.1;pure (ForInStep.yield ((x.1,a)::r)) else pure (ForInStep.yield r):Sem (List<|Str×fO))=pure (S3 env.cells names cs)
 | [],cs,_=>rfl
 | (n,k)::r,cs,h=>by
  rw[List.forIn_cons];have hr:∀y∈r,y.2=.free->∃c,env.cells.lookup y.1=Z c:=λy hy=>h y<|xmm _ hy
  by_cases hk:(k==fK)=true
  .obtain⟨c,hc⟩:=h (n,k) ah (by simpa using hk);have hc':env.cells.lookup n=Z c:=hc;simp only[hk,if_true];have e:cellOf env n=pure c:=by unfold cellOf;rw[hc']
   rw[e];show(forIn r ((n,c)::cs) _:Sem _)=_;rw[aI8 r _ hr];simp only[S3,hk,if_true,hc',Option.getD_some]
  .have hk':(k==fK)=false:=by simpa using hk
   simp only[hk',be,if_false];show(forIn r cs _:Sem _)=_;rw[aI8 r _ hr];simp only[S3,hk',be,if_false]
def cm7(h:∀y∈scope.names,y.2=.free->∃c,env.cells.lookup y.1=Z c):closureFor scope env=pure (S3 env.cells scope.names []):=by
 have:=aI8 (env:=env) scope.names [] h;unfold closureFor;exact congrArg (λz=>z >>= λcs=>pure cs) this
theorem at5:∀{names:List (Str×NameKind)}{cs:List (Str×fO)}{x:Str}{c:fO},(x,c)∈S3 cells names cs->(x,c)∈cs\/((x,fK)∈names/\c=(cells.lookup x).getD 0)
 | [],cs,x,c,h=>.inl h
 | (n,k)::r,cs,x,c,h=>by
  unfold S3 at h;split at h
  .rename_i hk;rcases at5 h with q|⟨q1,q2⟩
   .rcases ao.mp q with q|q
    .cases q;have:k=.free:=by simpa using hk
     subst this;exact .inr ⟨ah,rfl⟩
    .exact .inl q
   .exact .inr ⟨xmm _ q1,q2⟩
  .rcases at5 h with q|⟨q1,q2⟩
   .exact .inl q
   .exact .inr ⟨xmm _ q1,q2⟩
theorem aa0:∀{names:List (Str×NameKind)}{cs:List (Str×fO)}{x:Str},((x,fK)∈names\/∃c,(x,c)∈cs)->∃c,(x,c)∈S3 cells names cs
 | [],cs,x,h=>by
  rcases h with h|h
  .cases h
  .exact h
 | (n,k)::r,cs,x,h=>by
  unfold S3;rcases h with h|⟨c,h⟩
  .rcases ao.mp h with q|q
   .cases q;rw[if_pos (by rfl)];exact aa0<|.inr ⟨_,ah⟩
   .split
    .exact aa0 (.inl q)
    .exact aa0 (.inl q)
  .split
   .exact aa0 (.inr ⟨c,xmm _ h⟩)
   .exact aa0 (.inr ⟨c,h⟩)
def an6{l:List (Str×fO)}{x:Str}{c:fO}(h:(x,c)∈l):∃c',l.lookup x=Z c':=by
 induction l with
 | nil=>cases h
 | cons p r ih =>
  obtain⟨n,a⟩:=p;rw[aL];cases e:x==n with
  | true=>exact⟨a,rfl⟩
  | false =>
   rcases ao.mp h with q|q
   .cases q;simp at e
   .exact ih q
def aq8:(relabel scope env).names.lookup x=Z k->∃k0,scope.names.lookup x=Z k0/\(k=k0\/k0=.free):=by
 unfold relabel;simp only;generalize scope.names=names
 induction names with
 | nil=>intro h;simp at h
 | cons p r ih =>
  obtain⟨n,k1⟩:=p;intro h;rw[bF]at h;by_cases hc:(k1==fK&&env.scope.kind == .function&&env.kindOf n==Z .cell)=true
  .simp only[hc,if_true,aL]at h;rw[aL];cases e:x==n with
   | true =>
    rw[e]at h;rw[af,af]at hc;exact⟨k1,rfl,.inr<|by simpa using hc.1.1⟩
   | false=>rw[e]at h;exact ih h
  .have hc':(k1==fK&&env.scope.kind == .function&&env.kindOf n==Z .cell)=false:=by simpa using hc
   simp only[hc',be,if_false,aL]at h;rw[aL];cases e:x==n with
   | true=>rw[e]at h;cases h;exact⟨_,rfl,.inl rfl⟩
   | false=>rw[e]at h;exact ih h
def aS5:scope.names.lookup x=Z .free->(relabel scope env).names.lookup x=Z .cell\/(relabel scope env).names.lookup x=Z .free:=by
 unfold relabel;simp only;generalize scope.names=names
 induction names with
 | nil=>intro h;simp at h
 | cons p r ih =>
  obtain⟨n,k1⟩:=p;intro h;rw[aL]at h;rw[bF];cases e:x==n with
  | true =>
   rw[e]at h;cases h;have en:x=n:=by simpa using e
   subst en;by_cases hc:(fK==fK&&env.scope.kind == .function&&env.kindOf x==Z .cell)=true
   .simp only[hc,if_true,aL,e];exact .inl trivial
   .have hc':(fK==fK&&env.scope.kind == .function&&env.kindOf x==Z .cell)=false:=by simpa using hc
    simp only[hc',be,if_false,aL,e];exact .inr trivial
  | false =>
   rw[e]at h;by_cases hc:(k1==fK&&env.scope.kind == .function&&env.kindOf n==Z .cell)=true
   .simp only[hc,if_true,aL,e];exact ih h
   .have hc':(k1==fK&&env.scope.kind == .function&&env.kindOf n==Z .cell)=false:=by simpa using hc
    simp only[hc',be,if_false,aL,e];exact ih h
noncomputable def F0(X:Cx)(N':List Str)(scope:Scope)(C:fO)(s₀:fN)(H₀:Hp)(ex:List fO):Cx where
 prog:=X.prog
 w:=X.w
 K:=X.K
 mg:=X.mg
 base:=X.base
 A:=X.A
 N:=N'
 s₀:=s₀
 H₀:=H₀
 env:=compEnvC scope (S3 X.env.cells scope.names []) C X.env
 outer:=X.stack
 stack:=X.stack
 ex:=ex
 fn:=λ_=>false
 calm:=X.calm
 pn:=[]
 xe:=λ_ _=>False
structure CompSc (X:Cx) (N':List Str) (n:Nat) (caps:List Nat) (scope:Scope):Prop where
 kind:scope.kind=.function
 cell:∀y∈scope.names,y.2≠.cell
 loc:∀y∈scope.names,y.2=.local->scope.names.lookup y.1=Z .local
 free:∀y∈scope.names,y.2=.free->X.env.scope.names.lookup y.1=Z .cell\/X.env.scope.names.lookup y.1=Z .free
 len:N'.length=n+caps.length
 cap:∀(i j:Nat),caps[i]? = Z j->∃x,X.N[j]? = Z x/\N'[n+i]? = Z x/\scope.names.lookup x=Z .free
section
variable {X:Cx}{N':List Str}{n:Nat}{caps:List Nat}{scope:Scope}
def T0{l:List (Str×NameKind)}{x:Str}{k:NameKind}(h:l.lookup x=Z k):(x,k)∈l:=PySem.mem_of_lookup h
noncomputable def aM4(n:Nat)(caps:List Nat)(σ:L2.St):L2.St:=ax n O++caps.map λj=>(σ[j]?).join
def bm7(S:CompSc X N' n caps scope)(I:Inv X pins σ H s)(hf:∀b∈fp,ay0 X pins H b)(hlt:∀b∈fp,b < s.heap.objs.size)
  (hns:h1.Ns s.heap.objs.size m) (hk:∀b o,s.heap.get? b=Z o->h1.get? b=Z o) :
  Inv (F0 X N' scope s.heap.objs.size s H fp) [] (aM4 n caps σ) H { s with heap:=h1,toks:=tk }:=by
 have cl_of:∀x c,(S3 X.env.cells scope.names []).lookup x=Z c->X.env.cells.lookup x=Z c:=λx c h=>by
  have hm:=PySem.mem_of_lookup h;rcases at5 hm with q|⟨q1,q2⟩
  .cases q
  .obtain⟨c',hc'⟩:=I.ok.has x (S.free _ q1 rfl);rw[hc']at q2;rw[hc',q2];rfl
 have cl_has:∀x,(x,fK)∈scope.names->∃c,(S3 X.env.cells scope.names []).lookup x=Z c:=λx h=>by
  obtain⟨c,hc⟩:=aa0 (cells:=X.env.cells) (cs:=[]) (.inl h);exact an6 hc
 have kind_free:∀x,((relabel scope X.env).names.lookup x=Z .cell\/(relabel scope X.env).names.lookup x=Z .free)->(x,fK)∈scope.names:=λx h=>by
  rcases h with h|h
  .obtain⟨k0,e1,e2⟩:=aq8 h;rcases e2 with e2|e2
   .subst e2;exact absurd rfl<|S.cell _ (T0 e1)
   .subst e2;exact T0 e1
  .obtain⟨k0,e1,e2⟩:=aq8 h;rcases e2 with e2|e2
   .subst e2;exact T0 e1
   .subst e2;exact T0 e1
 have cell_lt:∀x c,X.env.cells.lookup x=Z c->c < s.heap.objs.size:=λx c e=>by
  obtain⟨v,q⟩:=I.cell x c e;exact q.lt
 have ok:(F0 X N' scope s.heap.objs.size s H fp).Ok:=by
  refine⟨I.ok.mod,S.kind,I.ok.glob,I.ok.blt,aj _,λx y c e1 e2=>I.ok.inj x y c (cl_of x c e1) (cl_of y c e2),λx hx=>cl_has x (kind_free x hx),λx c e _=>(aE e).elim,I.ok.hd,I.ok.frames,.inl rfl,λb hb=>⟨aC (hlt b hb),λx c e=>(hf b hb).2.2.2.2.1 x c (cl_of x c e)⟩,
   I.bs,aO I.ok.bsz I.sz,λb o e hb=>?_,λb hb hb2=>?_,I.stack,I.stkFree⟩
  .rcases(hf b hb).2.2.2.1 with z|z
   .exact I.ok.noex b o e z
   .exact absurd (aH (fA e)<|aO I.ok.bsz z) (bt _)
  .rcases ao.mp (I.stkSub b hb2) with z|z
   .exact(hf b hb).2.1 z
   .exact(hf b hb).2.2.1 z
 refine⟨ok,rfl,I.bare,Un.kept hk,⟨m,hns,λi x v e1 e2 e3=>?_⟩,λx c e=>?_,I.hok.fresh<|aj _,λx c e=>I.freeC x c<|cl_of x c e,λp hp=>absurd (show p∈([]:List (fO×Obj)) from hp) (by simp),I.hok.kept hk,?_⟩
 .have hi:n<=i:=by
   rcases bG i n with h|h
   .unfold aM4 at e2;rw[aX (by simpa using h),bo,if_pos h]at e2;cases e2
   .exact h
  unfold aM4 at e2;rw[aM (by simpa using hi),aF]at e2;simp only[bN]at e2;cases hj:caps[i - n]? with
  | none=>rw[hj]at e2;cases e2
  | some j =>
   rw[hj]at e2;have e2':(σ[j]?).join=Z v:=by simpa using e2
   have e2'':σ[j]? = Z (Z v):=by
    cases q:σ[j]? with
    | none=>rw[q]at e2';cases e2'
    | some o=>rw[q]at e2';simp at e2';rw[e2']
   obtain⟨y,q1,q2,q3⟩:=S.cap _ _ hj
   have:y=x:=by
    have e1':N'[i]? = Z x:=e1;rw[show n+(i - n)=i by grind,e1']at q2;cases q2;rfl
   subst this;obtain⟨m0,hn0,hl0⟩:=I.loc
   have hv:Vis X.env.scope y:=by
    rcases S.free _ (T0 q3) rfl with z|z
    .exact .inr (.inl z)
    .exact .inr (.inr z)
   obtain⟨u,ru,lk⟩:=hl0 j y v q1 e2'' hv;refine⟨u,ru,.inr ⟨aS5 q3,?_⟩⟩;rcases lk with⟨lk,_⟩|⟨_,c,hc,hcell⟩
   .rcases S.free _ (T0 q3) rfl with z|z
    .have:X.env.scope.names.lookup y=Z .local:=lk;rw[z]at this;cases this
    .have:X.env.scope.names.lookup y=Z .local:=lk;rw[z]at this;cases this
   .obtain⟨c',hc'⟩:=cl_has y (T0 q3);have:=cl_of y c' hc';rw[hc]at this;cases this;obtain⟨o,ho,hd⟩:=hcell;exact⟨c,hc',o,hk c o ho,hd⟩
 .obtain⟨v,o,ho,hd⟩:=I.cell x c (cl_of x c e);exact⟨v,o,hk c o ho,hd⟩
 .show(aM4 n caps σ).length=N'.length;unfold aM4;rw[S.len];simp
def aP4(I:Inv X pins σ H s)(hf:∀b∈fp,ay0 X pins H b)
  (I':Inv (F0 X N' scope s.heap.objs.size s H fp) [] σ' H' s') (sb:Heap.SameBut s.heap.objs.size s'.heap h'):Inv X pins σ H' { s' with heap:=h' }:=by
 have ne:∀b o,s.heap.get? b=Z o->b≠s.heap.objs.size:=λb o e=>aC<|fA e
 refine I.call' (s':={ s' with heap:=h' }) (ch:=fp) I'.os ?_ ?_ I'.bare λb hb=>⟨(hf b hb).2.2.2.1,(hf b hb).2.1,(hf b hb).2.2.2.2.1,(hf b hb).2.2.2.2.2⟩
 .refine⟨λb o e n hb hx=>sb.extBut b o (ne b o e)<|I'.base.keep b o e n hb hx,λb o e n hb hx=>?_,I'.base.free,λb o e hx=>?_,I'.base.tups,I'.base.frzs,I'.base.tbls⟩
  .obtain⟨sl,q⟩:=I'.base.slot b o e n hb hx;exact⟨sl,sb.extBut b _ (ne b o e) q⟩
  .obtain⟨o',q⟩:=I'.base.there b o e hx;exact⟨o',sb.extBut b _ (ne b o e) q⟩
 .intro b u e
  have nC:∀c v,H' c=Z v->c≠s.heap.objs.size:=λc v q z=>by
   have:=I'.free;have z':H' c=O:=by rw[z];exact this
   rw[z']at q;cases q
  refine(I'.hok b u e).stay (λc v hc q=>sb.extBut c v ?_ q) (λ_ q=>q) λ_ _ q=>q
  rcases hc with z|z
  .rw[z];exact nC b u e
  .exact nC c _ z
noncomputable def PTs(X:Cx)(ifs:List Expr)(t:TT):Prop :=
 ∀(pins:List (fO×Obj)) (s:fN) (σ:L2.St) (H:Hp) (Q:Bool->Hp->Prop),Inv X pins σ H s->t σ H Q ->
  ft (fu X.prog X.w) X.A (forIn ifs true λc r=>if r=true then do let ok ← isTrue c X.env (eval c X.env);pure (ForInStep.yield ok) else pure (ForInStep.yield r)) (TP X pins σ Q) X.xe s
def cc6:PTs X [] (λ_ H Q=>Q true H):=λpins s σ H Q I h=>wpAny_tests_nil ⟨H,I,h⟩
def cc5(h:PT X c t):PTs X [c] t:=λpins s σ H Q I q=>wpAny_tests_one<|h pins s σ H Q I q
noncomputable def bH4(n:Nat)(caps:List Nat)(wi:TI)(g:TG)(tc:TT)(te:TE):TE:=λσ H Q=>wi σ H λJ H1=>∀Dd,H1 Dd=O->∃W:Nat->Nat->List V->L2.St->Hp->Prop,
 (∃m,W 0 m [] (aM4 n caps σ)<|upd H1 Dd (.lst [])) /\
 ∀i m ys σ' H',W i m ys σ' H' ->
  (J.stop i H'/\Q (.ref Dd) H') \/
  (J.go i H'/\∀x H2,J.yld i H' x H2->g x σ' H2 λσ3 H3=>tc σ3 H3 λb H4 =>
   if b=true then te σ3 H4 λy H5=>H5 Dd=Z (.lst ys)/\ys.length < eU/\∃m',m' < m/\W (i+1) m' (ys++[y]) σ3 (upd H5 Dd<|.lst (ys++[y]))
   else ∃m',m' < m/\W (i+1) m' ys σ3 H4)
def be7{elt tgt iter:Expr}{ifs:List Expr}{pos:Pos}{wi:TI}{g:TG}{tc:TT}{te:TE}{RR:fM->fO->Result->fN->Prop}{E:fM->fN->Prop}(S:CompSc X N' n caps scope)(hx:∀e s,X.xe e s->False)(hc:X.calm=true)
  (hi:PI X tgt iter wi) (hg:∀C s0 H0 ex,PG (F0 X N' scope C s0 H0 ex) tgt g) (ht:∀C s0 H0 ex,PTs (F0 X N' scope C s0 H0 ex) ifs tc) (he:∀C s0 H0 ex,PE (F0 X N' scope C s0 H0 ex) elt te)
  {pins:List (fO×Obj)}{s:fN}{σ:L2.St}{H:Hp}{Q:VK}(I:Inv X pins σ H s) (h:bH4 n caps wi g tc te σ H Q)
  (hRR:∀D C r s',r=.ok .next->(∃m,s'.heap.Ns C m/\∀h',Heap.SameBut C s'.heap h'->∃H',Inv X pins σ H' { s' with heap:=h' }/\Q (.ref D) H') ->
   (∃s2 fp σ' H2 H',s2.heap.objs.size=C/\Inv X pins σ H2 s2/\(∀b∈fp,ay0 X pins H2 b)/\Inv (F0 X N' scope s2.heap.objs.size s2 H2 fp) [] σ' H' s'/\Q (.ref D) H')->RR (.ref D) C r s') :
  ft (fu X.prog X.w) X.A (eval iter X.env) (λx s₁=>ft (fu X.prog X.w) X.A (pyIter x) (λit s₂=>ft (fu X.prog X.w) X.A (newList []) (λacc s₃ =>
   ft (fu X.prog X.w) X.A (newFunctionEnv scope X.env.globals (S3 X.env.cells scope.names []) [] X.env.qual O .none (Z X.env)) (λcenv s₄ =>
    codeAny (fu X.prog X.w) X.A (.compStart (.ListComp elt [⟨tgt,iter,ifs,0⟩] scope pos) 0 it acc { cenv with scope:=relabel scope X.env }) (RR acc cenv.locals) s₄) E s₃) E s₂) E s₁) E s:=by
 refine eO (hi pins s σ H _ I h) (λv s1 h1=>eO h1 (λitv s2 h2=>?_) λ_ _ z=>(hx _ _ z).elim) λ_ _ z=>(hx _ _ z).elim
 obtain⟨it,fp,tn,J,H2,e,I2,T,st2,f2,R⟩:=h2;subst e;refine eQ (wpAny_newFunctionEnv S.cell (by intro y hy;simp at hy) (λh₁ hns₁ hsb₁=>?_) S.kind);dsimp only at hns₁ hsb₁ ⊢;obtain⟨W,⟨m0,w0⟩,turn⟩:=R s2.heap.objs.size<|I2.hok.fresh (aj _)
 have lt2:∀b∈fp,b < s2.heap.objs.size:=λb hb=>by
  obtain⟨o,ho,_⟩:=T.obj _ _ st2 b hb;exact fA ho
 have I3:Inv X pins σ (upd H2 s2.heap.objs.size<|.lst []) { s2 with heap:=s2.heap.push { cls:=.type "list", dict:=O,data:=.seq ([]:List fM).toArray } } :=
  I2.laid (t':=s2.toks) (λb u e=>fw _ e) (aj _) ⟨aQ _,[],0,.nil,fB _ rfl⟩
 generalize hs3:({ s2 with heap:=s2.heap.push { cls:=.type "list", dict:=O,data:=.seq ([]:List fM).toArray } }:fN)=s3 at I3;have es3:s3.heap=s2.heap.push { cls:=.type "list", dict:=O,data:=.seq ([]:List fM).toArray }:=by rw[← hs3]
 rw[← es3]at hns₁ hsb₁ ⊢;have keep3:∀b o,s3.heap.get? b=Z o->h₁.get? b=Z o:=λb o e=>hsb₁.extBut b o (aC<|fA e)<|fw _ e
 have lt3:∀b∈fp,b < s3.heap.objs.size:=λb hb=>by rw[es3,Heap.size_push];exact cu<|lt2 b hb
 have f3:∀b∈fp,ay0 X pins (upd H2 s2.heap.objs.size<|.lst []) b:=λb hb=>⟨by rw[C6 (aC<|lt2 b hb)];exact(f2 b hb).1,(f2 b hb).2⟩
 generalize hH3:upd H2 s2.heap.objs.size (HO.lst [])=H3 at I3 f3 w0
 have fin3:∀{σ':L2.St}{H':Hp}{pl:List (fO×Obj)},(∀b∈fp,H' b=O)->(∀p∈pl,False)->∀b∈fp,ay0 (F0 X N' scope s3.heap.objs.size s3 H3 fp) pl H' b:=λ{σ' H' pl} hn hp b hb=>by
  refine⟨hn b hb,aC<|lt3 b hb,λz=>?_,.inl hb,λx c e=>?_,λp hp'=>?_⟩
  .rcases ao.mp (I3.stkSub b z) with z|z
   .exact(f3 b hb).2.1 z
   .exact(f3 b hb).2.2.1 z
  .have hm:=PySem.mem_of_lookup e;rcases at5 hm with q|⟨q1,q2⟩
   .cases q
   .obtain⟨c',hc'⟩:=I3.ok.has x (S.free _ q1 rfl);rw[hc']at q2;have q2':c=c':=q2;subst q2';exact(f3 b hb).2.2.2.2.1 x c hc'
  .exact(hp p<|by simpa [F0] using hp').elim
 have toks:∃tk,({ s2 with heap:=h₁,toks:=s2.toks+([]:List (Str×fM)).length }:fN)={ s3 with heap:=h₁,toks:=tk }:=⟨s2.toks,by rw[← hs3];rfl⟩;obtain⟨tk,htk⟩:=toks;have st4:tn 0 h₁:=T.keep 0 s2.heap h₁ st2 λb hb o e=>keep3 b o (by rw[es3];exact fw _ e)
 have I4:Inv (F0 X N' scope s3.heap.objs.size s3 H3 fp) [] (aM4 n caps σ) H3 { s3 with heap:=h₁,toks:=tk }:=bm7 S I3 f3 lt3 hns₁ keep3
 have loop:codeAny (fu X.prog X.w) X.A (.compLoop (.ListComp elt [⟨tgt,iter,ifs,0⟩] scope pos) 0 (.ref it) (.ref s2.heap.objs.size)<|compEnvC scope (S3 X.env.cells scope.names []) s3.heap.objs.size X.env) (RR (.ref s2.heap.objs.size) s3.heap.objs.size) { s3 with heap:=h₁,toks:=tk }:=by
  refine bD6 (λk s'=>∃i ys σ' H',Inv (F0 X N' scope s3.heap.objs.size s3 H3 fp) [] σ' H' s'/\tn i s'.heap/\(∀b∈fp,H' b=O)/\W i k ys σ' H') ?_ m0 ⟨0,[],_,H3,I4,st4,λb hb=>(f3 b hb).1,w0⟩
  rintro k s5 ⟨i,ys,σ5,H5,I5,st5,fr5,w5⟩
  have pz:∀p∈([]:List (fO×Obj)),False:=λp hp=>by cases hp
  rcases turn i k ys σ5 H5 w5 with⟨stop,qn⟩|⟨go,step⟩
  .refine eO (T.done (F0 X N' scope s3.heap.objs.size s3 H3 fp) rfl rfl rfl hc i [] s5 σ5 H5 (λ_ _=>False) I5 (fin3 (σ':=σ5) fr5 pz) st5 stop) (λr s6 ⟨hr,I6⟩=>?_) λ_ _ z=>z
   subst hr;obtain⟨m6,hn6,_⟩:=I6.loc;refine hRR _ _ _ s6 rfl ⟨m6,hn6,λh' sb=>⟨H5,aP4 I3 f3 I6 sb,qn⟩⟩ ⟨s3,fp,σ5,H3,H5,rfl,I3,f3,I6,qn⟩
  .refine eO (T.item (F0 X N' scope s3.heap.objs.size s3 H3 fp) rfl rfl rfl hc i [] s5 σ5 H5 (λ_ _=>False) I5 (fin3 (σ':=σ5) fr5 pz) st5 go) (λr s6 ⟨u,hr,h6⟩=>?_) λ_ _ z=>z
   subst hr;refine eO h6 (λ_ s7 ⟨x,H7,I7,r7,y7,st7,fr7⟩=>?_) λ_ _ z=>z
   have I7':=I7.pinned (fin3 (σ':=σ5) fr7 pz) (T.obj _ _ st7);refine eO (hg _ _ _ _ _ s7 σ5 H7 x u _ I7' r7<|step x H7 y7) (λ_ s8 ⟨σ8,H8,I8,q8⟩=>?_) λ_ _ z=>z
   refine eO (ht _ _ _ _ _ s8 σ8 H8 _ I8 q8) (λok s9 ⟨H9,I9,q9⟩=>?_) λ_ _ z=>z
   have again:∀{σ':L2.St}{H':Hp}{s':fN},Inv (F0 X N' scope s3.heap.objs.size s3 H3 fp) ([]++aG4 fp s7.heap) σ' H' s'->Inv (F0 X N' scope s3.heap.objs.size s3 H3 fp) [] σ' H' s'/\tn (i+1) s'.heap/\∀b∈fp,H' b=O:=λ{σ' H' s'} I'=>by
    refine⟨I'.unpinned,T.keep _ _ _ st7 λb hb o e=>(I'.pin (b,o)<|au _ (au _<|ac3 hb e)).1,λb hb=>?_⟩;obtain⟨o,e,d⟩:=T.obj _ _ st7 b hb;exact(I'.pin (b,o)<|au _ (au _<|ac3 hb e)).2.1
   cases ok with
   | false =>
    rw[if_neg aE]at q9 ⊢;obtain⟨m',hm,w'⟩:=q9;obtain⟨a1,a2,a3⟩:=again I9;exact⟨m',hm,i+1,ys,σ8,H9,a1,a2,a3,w'⟩
   | true =>
    rw[if_pos rfl]at q9 ⊢;refine eO (he _ _ _ _ _ s9 σ8 H9 _ I9 q9) (λy s10 ⟨vy,H10,I10,r10,q10,z10,m',hm,w'⟩=>?_) λ_ _ z=>z
    refine eO (aN9 (X:=F0 X N' scope s3.heap.objs.size s3 H3 fp) _ s10 σ8 H10 (.ref s2.heap.objs.size) [vy] _ _ (λv H'=>v=.non/\H'=upd H10 s2.heap.objs.size (.lst<|ys++[vy])) I10 rfl (.cons r10 .nil) ⟨_,ys,vy,rfl,rfl,q10,z10,rfl,rfl⟩) (λ_ s11 ⟨v11,H11,I11,r11,e11,e12⟩=>?_) λ_ _ z=>z
    subst e12;obtain⟨a1,a2,a3⟩:=again I11;exact⟨m',hm,i+1,ys++[vy],σ8,_,a1,a2,a3,w'⟩
 show codeAny (fu X.prog X.w) X.A _ _ ({ s2 with heap:=h₁,toks:=s2.toks+([]:List (Str×fM)).length }:fN);rw[htk];exact codeAny_compStart_list loop<|T.self _ _ _ _ _ st4 loop
end
section
variable {X:Cx}
noncomputable def tgJ(K:ad)(f:D->Rho->Option Rho):TG:=λv σ H Q=>∃d ρ ρ' H0 Hf,f d ρ=Z ρ'/\E2 Hf H/\Slots K H0 ρ σ H Hf/\Rep K Hf d v/\∀σ',Slots K H0 ρ' σ' H Hf->Q σ' H
def JG(X:Cx)(tg:Expr)(f:D->Rho->Option Rho):Prop:=PG X tg<|tgJ X.K f
noncomputable def da1(K:ad)(f:List D->Rho->Option Rho):TGs:=λvs σ H Q=>∃ds ρ ρ' H0 Hf,f ds ρ=Z ρ'/\E2 Hf H/\Slots K H0 ρ σ H Hf/\Reps K Hf ds vs/\∀σ',Slots K H0 ρ' σ' H Hf->Q σ' H
def JGs(X:Cx)(tg:List Expr)(f:List D->Rho->Option Rho):Prop:=PGs X tg<|da1 X.K f
noncomputable def B9(i:Nat):D->Rho->Option Rho:=λd ρ=>Z<|ρ.set i (Z<|.val d)
def ci8(i:Nat)(hN:X.N.Nodup)(hi:X.N[i]? = Z x:=by rfl)(hx:Loc X.env.scope x:=by first|exact Or.inl rfl|exact Or.inr rfl)(hf:X.fn x=true\/X.env.scope.names.lookup x=Z .local:=by first|exact .inl rfl|exact .inr rfl):JG X (.Name x pos) (B9 i):=by
 intro pins s σ H v u Q I r ⟨d,ρ,ρ',H0,Hf,e,ss,sl,rp,k⟩;cases e;exact cd6 hN hi hx hf pins s σ H v u Q I r<|k _ (sl.set rp)
noncomputable def T4:List D->Rho->Option Rho:=λds ρ=>match ds with
 | []=>Z ρ
 | _=>O
noncomputable def D0(f:D->Rho->Option Rho)(g:List D->Rho->Option Rho):List D->Rho->Option Rho:=λds ρ=>match ds with
 | d::r=>(f d ρ).bind λρ'=>g r ρ'
 | []=>O
def ci7:JGs X [] T4:=by
 intro pins s σ H vs us Q I r ⟨ds,ρ,ρ',H0,Hf,e,ss,sl,rp,k⟩;cases ds with
 | nil=>cases e;exact cd5 pins s σ H vs us Q I r ⟨rp,k _ sl⟩
 | cons d ds=>cases e
def bP4(h1:JG X e f)(h2:JGs X es g)(hs:(fj (e::es) X.env).map (·.2)=assign e X.env::(fj es X.env).map (·.2):=by rfl):JGs X (e::es) (D0 f g):=by
 intro pins s σ H vs us Q I r ⟨ds,ρ,ρ',H0,Hf,e,ss,sl,rp,k⟩;cases ds with
 | nil=>cases e
 | cons d ds =>
  obtain⟨ρ1,e1,e2⟩:=xbm e;obtain⟨v,vr,rfl,q1,q2⟩:=rp;exact bK3 h1 h2 hs pins s σ H _ us Q I r ⟨v,vr,rfl,d,ρ,ρ1,H0,Hf,e1,ss,sl,q1,λσ' sl'=>⟨ds,ρ1,ρ',H0,Hf,e2,ss,sl',q2,k⟩⟩
noncomputable def S7(n:Nat)(g:List D->Rho->Option Rho):D->Rho->Option Rho:=λd ρ=>match d with
 | .tuple ds=>if ds.length=n then g ds ρ else O
 | _=>O
def cG8(h:JGs X es g)(hc:X.calm=true:=by rfl)(hn:(fj es X.env).length=n:=by rfl)(hst:(fj es X.env).findIdx? (·.1)=O:=by rfl):JG X (.Tuple es k pos) (S7 n g):=by
 intro pins s σ H v u Q I r ⟨d,ρ,ρ',H0,Hf,e,ss,sl,rp,kk⟩;cases d with
 | tuple ds =>
  simp only[S7]at e;split at e
  .rename_i hl;obtain⟨a,vs,rfl,q1,q2⟩:=rp;exact cz5 hc h hn hst pins s σ H _ u Q I r ⟨a,vs,rfl,D5 ss q1,by rw[q2.length,hl],ds,ρ,ρ',H0,Hf,e,ss,sl,q2,kk⟩
  .cases e
 | _=>cases e
noncomputable def bn7(K:ad)(J:It)(ds:List D)(Hf1:Hp):Prop:=∀(i:Nat) (H Hf:Hp),E2 Hf1 Hf->E2 Hf H->(ds.length<=i->J.stop i H)/\∀d,ds[i]? = Z d->J.go i H/\∀x H',J.yld i H x H'->∃Hf',Grow H Hf H' Hf'/\Rep K Hf' d x
noncomputable def tiJ(K:ad)(ρ:Rho)(ds:List D):TI:=λσ H R=>∃H0 Hf,E2 Hf H/\Slots K H0 ρ σ H Hf/\∀J H' Hf',Grow H Hf H' Hf'->bn7 K J ds Hf'->R J H'
def JI(X:Cx)(tg iter:Expr)(f:Rho->Option (List D)):Prop:=∀ρ ds,f ρ=Z ds->PI X tg iter (tiJ X.K ρ ds)
def bi4(h:PI X tg iter t)(i:∀σ H R,t' σ H R->t σ H R):PI X tg iter t':=λpins s σ H R I q=>h pins s σ H R I<|i σ H R q
noncomputable def K1(f:DE):Rho->Option (List D):=λρ=>(f ρ).bind λd=>match d with
 | .list ds=>Z ds
 | .tuple ds=>Z ds
 | _=>O
def bj6(h:JE X e f):JI X tg e (K1 f):=λρ ds q=>by
 obtain⟨d,e1,e2⟩:=xbm q;cases d with
 | list xs =>
  cases e2;refine bi4 (cd4<|h ρ _ e1) λσ H R ⟨H0,Hf,s,sl,k⟩=>⟨H0,Hf,s,sl,λv H1 Hf1 g1 ⟨a,vs,h1,h2,h3⟩=>⟨a,h1,⟨vs,F7 g1.sub h2⟩,k _ H1 Hf1 g1 ?_⟩⟩
  intro i H' Hf' sa sb;have q':SqL X.K H' a vs:=F7 (sa.trans sb) h2;refine⟨λhi=>⟨vs,q',by rw[h3.length];exact hi⟩,λd hd=>?_⟩;obtain⟨v,w1,w2⟩:=h3.get hd;refine⟨⟨vs,v,q',w1⟩,λx H'' hy=>?_⟩;obtain⟨rfl,hy⟩:=hy;have:=hy vs q';rw[w1]at this;cases this;exact⟨Hf',Grow.refl sb,w2.mono sa⟩
 | tuple xs =>
  cases e2;refine bi4 (cz4<|h ρ _ e1) λσ H R ⟨H0,Hf,s,sl,k⟩=>⟨H0,Hf,s,sl,λv H1 Hf1 g1 ⟨a,vs,h1,h2,h3⟩=>⟨a,h1,⟨vs,D5 g1.sub h2⟩,k _ H1 Hf1 g1 ?_⟩⟩
  intro i H' Hf' sa sb;have q':SqT X.K H' a vs:=D5 (sa.trans sb) h2;refine⟨λhi=>⟨vs,q',by rw[h3.length];exact hi⟩,λd hd=>?_⟩;obtain⟨v,w1,w2⟩:=h3.get hd;refine⟨⟨vs,v,q',w1⟩,λx H'' hy=>?_⟩;obtain⟨rfl,hy⟩:=hy;have:=hy vs q';rw[w1]at this;cases this;exact⟨Hf',Grow.refl sb,w2.mono sa⟩
 | _=>cases e2
noncomputable def ab6(lo hi:Int):List D:=(ay (hi - lo).toNat).map λ(i:Nat)=>fE<|lo+i
def aR3{K:ad}{lo hi:Int}{Hf1:Hp}:bn7 K (Itr lo (hi - lo).toNat) (ab6 lo hi) Hf1:=by
 intro i H Hf sa sb;have hl:(ab6 lo hi).length=(hi - lo).toNat:=by simp[ab6]
 refine⟨λh=>by rw[hl]at h;exact h,λd hd=>?_⟩
 have hi':i < (hi - lo).toNat:=by
  have:=(ak.mp hd).1;rw[hl]at this;exact this
 refine⟨hi',λx H' hy=>?_⟩;obtain⟨e1,e2⟩:=hy;subst e1 e2
 have:d=.int (lo+i):=by
  have:(ab6 lo hi)[i]? = Z (.int<|lo+i):=by simp[ab6,hi']
  rw[hd]at this;cases this;rfl
 subst this;exact⟨Hf,Grow.refl sb,rfl⟩
noncomputable def M9(f:DE):Rho->Option (List D):=λρ=>(f ρ).bind λd=>match d with
 | .int j=>if -(2 ^ 62)<=j/\j < 2 ^ 62 then Z (ab6 0 j) else O
 | _=>O
def bA0{tg e:Expr}{f:DE}{p pos:Pos}(hg:Gl X "range")(hm:X.mg "range" = O)(h:JE X e f)(hs:eT [e] X.env=[(false,eval e X.env)]:=by rfl):JI X tg (.Call (.Name "range" p) [e] [] pos) (M9 f):=λρ ds q=>by
 obtain⟨d,e1,e2⟩:=xbm q;split at e2
 .split at e2
  .rename_i j c;cases e2;refine bi4 (bx5 hg hm (E3 (h ρ _ e1) J8 hs) hs) λσ H R ⟨H0,Hf,s,sl,k⟩=>⟨H0,Hf,s,sl,λv H1 Hf1 g1 r=>⟨j,by rw[show v=_ from r],c.1,c.2,k _ H1 Hf1 g1 ?_⟩⟩
   have:=aR3 (K:=X.K) (lo:=0) (hi:=j) (Hf1:=Hf1);rw[Int.sub_zero]at this;exact this
  .cases e2
 .cases e2
def Grow.nofr(g:Grow H Hf H' Hf')(h:H a=Z o)(n:Hf a=O):Hf' a=O:=by
 cases q:Hf' a with
 | none=>rfl
 | some u =>
  rcases g.new a (by rw[q];simp) with z|z
  .exact absurd n z
  .rw[h]at z;cases z
noncomputable def ag9(n:Nat)(caps:List Nat)(ρ:Rho):Rho:=ax n O++caps.map λj=>match ρ[j]? with
 | some (Z (.val d))=>Z<|.val d
 | _=>O
noncomputable def U8(g:D->Rho->Option Rho)(c:Rho->Option Bool)(e:DE):List D->Rho->Option (List D)
 | [],_=>Z []
 | d::ds,ρ=>(g d ρ).bind λρ1=>(c ρ1).bind λb=>if b then(e ρ1).bind λy=>(U8 g c e ds ρ1).map λr=>y::r else U8 g c e ds ρ1
noncomputable def D1(n:Nat)(caps:List Nat)(src:Rho->Option (List D))(g:D->Rho->Option Rho)(c:Rho->Option Bool)(e:DE):Rho->Option (List D):=λρ=>(src ρ).bind λds=>if ds.length<=16777216 then U8 g c e ds (ag9 n caps ρ) else O
noncomputable def aN1(K:ad)(c:Rho->Option Bool):TT:=λσ H Q=>∃ρ b,c ρ=Z b/\∃H0 Hf,E2 Hf H/\Slots K H0 ρ σ H Hf/\∀H' Hf',Grow H Hf H' Hf'->Q b H'
noncomputable def bp2(K:ad)(e:DE):TE:=λσ H Q=>∃ρ d,e ρ=Z d/\tJ K ρ (λ_ v _ Hf=>Rep K Hf d v) σ H Q
def JTs(X:Cx)(ifs:List Expr)(c:Rho->Option Bool):Prop:=PTs X ifs<|aN1 X.K c
noncomputable def F6:Rho->Option Bool:=λ_=>Z true
def ch1:JTs X [] F6:=λpins s σ H Q I ⟨ρ,b,e,H0,Hf,ss,sl,k⟩=>by
 cases e;exact cc6 pins s σ H Q I<|k H Hf (Grow.refl ss)
def ch0(h:JT X e c):JTs X [e] c:=λpins s σ H Q I ⟨ρ,b,e,H0,Hf,ss,sl,k⟩=>cc5 (h ρ b e) pins s σ H Q I ⟨H0,Hf,ss,sl,k⟩
def bn1{K:ad}{n:Nat}{caps:List Nat}{H0 H H1 H' Hf:Hp}{ρ:Rho}{σ:L2.St}(sl:Slots K H0 ρ σ H Hf):Slots K H1 (ag9 n caps ρ) (aM4 n caps σ) H' Hf:=by
 have noown:∀(i:Nat) (ds:List D),(ag9 n caps ρ)[i]?≠Z (Z<|.own ds):=λi ds h=>by
  unfold ag9 at h;rcases bG i n with q|q
  .rw[aX (by simpa using q),bo,if_pos q]at h;cases h
  .rw[aM (by simpa using q),aF]at h;cases hj:caps[i - (ax n (O:Option B)).length]? with
   | none=>rw[hj]at h;cases h
   | some j =>
    rw[hj]at h;simp only[dl,bf.injEq]at h;split at h<;>cases h
 refine⟨by simp[ag9,aM4],λi b e=>?_,λi j ds es a h1=>(noown i ds h1).elim⟩;unfold ag9 at e;unfold aM4;rcases bG i n with q|q
 .rw[aX (by simpa using q),bo,if_pos q]at e;cases e
 .rw[aM (by simpa using q),aF]at e;rw[aM (by simpa using q),aF];simp only[bN]at e ⊢;cases hj:caps[i - n]? with
  | none=>rw[hj]at e;cases e
  | some j =>
   rw[hj]at e;simp only[dl,bf.injEq]at e ⊢;split at e
   .rename_i d hd;cases e;obtain⟨v,h1,h2⟩:=sl.is j _ hd;exact⟨v,by rw[h1];rfl,h2⟩
   .cases e
def ao9{K:ad}{n:Nat}{caps:List Nat}{ρ:Rho}{src:Rho->Option (List D)}{g:D->Rho->Option Rho}{c:Rho->Option Bool}{e:DE}{out:List D}(h:D1 n caps src g c e ρ=Z out):
  ∃ds,src ρ=Z ds/\∀σ H Q,tJ K ρ (λH v H' Hf'=>∃a vs,v=.ref a/\H a=O/\H' a=Z (.lst vs)/\Hf' a=O/\Reps K Hf' out vs) σ H Q->bH4 n caps (tiJ K ρ ds) (tgJ K g) (aN1 K c) (bp2 K e) σ H Q:=by
 obtain⟨ds,e1,e2⟩:=xbm h;split at e2
 .rename_i hz;refine⟨ds,e1,λσ H Q ⟨H0,Hf,s,sl,k⟩=>⟨H0,Hf,s,sl,λJ H1 Hf1 g1 Y Dd hD=>?_⟩⟩
  refine⟨λi m ys σ' H'=>m=ds.length - i/\i<=ds.length/\∃Hf' ρ' o1 o2,Grow H1 Hf1 H' Hf'/\H' Dd=Z (.lst ys)/\Hf' Dd=O/\Slots K (upd H1 Dd (.lst [])) ρ' σ' H' Hf'/\Reps K Hf' o1 ys/\o1.length<=i/\U8 g c e (ds.drop i) ρ'=Z o2/\o1++o2=out,
   ⟨ds.length,by simp,aQ _,Hf1,ag9 n caps ρ,[],out,Grow.made g1.sub hD,C5,g1.sub.free hD,bn1 (sl.grow g1),rfl,aj _,by simpa using e2,rfl⟩,?_⟩
  rintro i m ys σ' H' ⟨rfl,hi,Hf',ρ',o1,o2,gr,hd1,hd2,sl',rp,ho,ec,eo⟩
  obtain⟨Ys,Yg⟩:=Y i H' Hf' gr.ext gr.sub;rcases bG i ds.length with hlt|hge
  .right
   obtain⟨go,yl⟩:=Yg ds[i] (by simp[hlt]);refine⟨go,λx H2 hy=>?_⟩;obtain⟨Hf2,g2,r2⟩:=yl x H2 hy;rw[bB hlt]at ec;obtain⟨ρ1,c1,ec⟩:=xbm ec;obtain⟨b,c2,ec⟩:=xbm ec;refine⟨ds[i],ρ',ρ1,_,Hf2,c1,g2.sub,sl'.grow g2,r2,λσ3 sl3=>⟨ρ1,b,c2,_,Hf2,g2.sub,sl3,λH4 Hf4 g4=>?_⟩⟩;have gr4:=(gr.trans g2).trans g4;have hd4:H4 Dd=Z (.lst ys):=g4.big _ _ (g2.big _ _ hd1);have hf4:Hf4 Dd=O:=(g2.trans g4).nofr hd1 hd2;have rp4:=rp.mono (g2.trans g4).ext;cases b with
   | false =>
    rw[if_neg aE]at ec;refine aH7 ?_;exact⟨ds.length - (i+1),by grind,rfl,hlt,Hf4,ρ1,o1,o2,gr4,hd4,hf4,sl3.grow g4,rp4,by grind,ec,eo⟩
   | true =>
    rw[if_pos rfl]at ec;refine aH6 ?_;obtain⟨y,c3,ec⟩:=xbm ec;obtain⟨o3,c4,rfl⟩:=xmo ec;refine⟨ρ1,y,c3,_,Hf4,g4.sub,sl3.grow g4,λv H5 Hf5 g5 r5=>⟨g5.big _ _ hd4,?_,?_⟩⟩
    .rw[rp.length,eV];grind
    .have hf5:Hf5 Dd=O:=g5.nofr hd4 hf4;have gr5:=gr4.trans g5;refine⟨ds.length - (i+1),by grind,rfl,hlt,Hf5,ρ1,o1++[y],o3,⟨λb u q=>?_,λb u q=>?_,gr5.ext,gr5.new⟩,C5,hf5,?_,(rp4.mono g5.ext).append ⟨v,[],rfl,r5,rfl⟩,by simp;grind,c4,by simp[← eo]⟩
     .rw[C6 (C9 q hD)];exact gr5.big b u q
     .rw[C6 (C9 q hf5)];exact gr5.sub b u q
     .have sl5:=(sl3.grow g4).grow g5;refine⟨sl5.len,λj bb q=>?_,sl5.apart⟩;obtain⟨w,q1,q2⟩:=sl5.is j bb q;refine⟨w,q1,?_⟩;cases bb with
      | val d=>exact q2
      | exc C=>exact q2
      | own dd =>
       obtain⟨a,vs,z1,z2,z3,z4,z5⟩:=q2;have ne:a≠Dd:=λz=>by rw[z,C5]at z4;cases z4
       exact⟨a,vs,z1,by rw[C6 ne];exact z2,z3,z4,z5⟩
  .left
   have:i=ds.length:=by grind
   subst this;rw[List.drop_length]at ec;cases ec;rw[ba]at eo;subst eo;exact⟨Ys (aj _),k _ H' Hf' (g1.trans gr) ⟨Dd,ys,rfl,g1.big.free hD,hd1,hd2,rp⟩⟩
 .cases e2
end
section
variable {X:Cx}
noncomputable def aE3(N N':List Str)(n:Nat)(caps:List Nat)(sc scope:Scope):Bool :=
 (match scope.kind with | .function=>true|_=>false) &&
 (scope.names.all λy=>(match y.2 with | .cell=>false | .local=>scope.names.lookup y.1==Z .local | .free=>sc.names.lookup y.1==Z .cell || sc.names.lookup y.1==Z .free|_=>true)) &&
 (N'.length==n+caps.length) &&
 ((ay caps.length).all λi=>match caps[i]? with
  | some j=>(match N[j]? with|some x=>N'[n+i]? == Z x&&scope.names.lookup x==Z .free|none=>false)
  | none=>true)
def bD7(h:aE3 N N' n caps sc scope=true)(hN:X.N=N)(hS:X.env.scope=sc):CompSc X N' n caps scope:=by
 subst hN hS;unfold aE3 at h;simp only[af,aK]at h;obtain⟨⟨⟨h1,h2⟩,h3⟩,h4⟩:=h;refine⟨?_,λy hy e=>?_,λy hy e=>?_,λy hy e=>?_,by simpa using h3,λi j e=>?_⟩
 .cases q:scope.kind<;>rw[q]at h1<;>first|rfl|cases h1
 .have:=h2 y hy;rw[e]at this;cases this
 .have:=h2 y hy;rw[e]at this;simpa using this
 .have:=h2 y hy;rw[e]at this;simpa using this
 .have hi:i < caps.length:=(ak.mp e).1;have:=h4 i (by simpa using hi);rw[e]at this;simp only at this;cases q:X.N[j]? with
  | none=>rw[q]at this;cases this
  | some x =>
   rw[q]at this;simp only[af]at this;exact⟨x,rfl,by simpa using this.1,by simpa using this.2⟩
def bu8(S:CompSc X N' n caps scope)(I:Inv X pins σ H s):closureFor scope X.env=pure (S3 X.env.cells scope.names []) :=
 cm7 λy hy e=>I.ok.has y.1<|S.free y hy e
def ci5(S:CompSc X N' n caps scope)(hx:∀e s,X.xe e s->False)
  (hi:JI X tgt iter src) (hg:∀C s0 H0 ex,JG (F0 X N' scope C s0 H0 ex) tgt g) (ht:∀C s0 H0 ex,JTs (F0 X N' scope C s0 H0 ex) ifs c) (he:∀C s0 H0 ex,JE (F0 X N' scope C s0 H0 ex) elt e)
  (hc:X.calm=true:=by rfl) (hs:∀x,fk iter X.env x=pure x:=by intro _;rfl):JN X (.ListComp elt [⟨tgt,iter,ifs,0⟩] scope pos) (D1 n caps src g c e):=by
 intro ρ out h;obtain⟨ds,e1,k⟩:=ao9 (K:=X.K) h;intro pins s σ H Q I t;rw[eval_ListComp];refine wpAny_comprehension_free (use:=O) rfl hs (bu8 S I) S.kind S.loc (be7 (RR:=λacc C=>compPost (fu X.prog X.w) X.A X.xe O (EP X pins σ Q) acc C) S hx hc (hi ρ ds e1) (g:=tgJ X.K g) (tc:=aN1 X.K c) (te:=bp2 X.K e) hg ht (λC s0 H0 ex pins s σ H Q I ⟨ρ,d,e,t⟩=>he C s0 H0 ex ρ d e pins s σ H Q I t) I (k σ H Q t) ?_);intro Dd C r s' hr ⟨m,hn,kk⟩ _;subst hr;exact⟨m,hn,λh' sb=>let⟨H',I',q⟩:=kk h' sb;⟨.ref Dd,H',I',rfl,q⟩⟩
def aG3(S:CompSc X N' n caps scope)(hx:∀e s,X.xe e s->False)(hc:X.calm=true)
  (hN:X.N.Nodup) (hi:X.N[i]? = Z x) (hl:X.env.scope.names.lookup x=Z .local) (hsrc:PI X tgt iter wi) (hg:∀C s0 H0 ex,PG (F0 X N' scope C s0 H0 ex) tgt g) (ht:∀C s0 H0 ex,PTs (F0 X N' scope C s0 H0 ex) ifs tc) (he:∀C s0 H0 ex,PE (F0 X N' scope C s0 H0 ex) elt te)
  (hsw:swapsWith (.ListComp elt [⟨tgt,iter,ifs,0⟩] scope pos) (Z<|.Name x pos') spos.line X.env=pure true) (hs:∀x,fk iter X.env x=pure x) :
  PS X (.Assign [.Name x pos'] (.ListComp elt [⟨tgt,iter,ifs,0⟩] scope pos) spos) (λEn σ H=>bH4 n caps wi g tc te σ H λv H'=>En.nx (σ.set i<|Z v) H'):=by
 intro pins s σ H En I h;rw[exec_Assign_Name_used _ _ _ _ hsw];refine eK (wpAny_standAt<|eK ?_);show ft _ X.A (do let _ ← comprehension (.ListComp elt [⟨tgt,iter,ifs,0⟩] scope pos) scope X.env _ (newList []) false (eval iter X.env) (Z<|assign (.Name x pos') X.env)) _ _ s
 refine eK (eO (wpAny_comprehension_free (use:=Z (assign (.Name x pos') X.env)) (Q:=λ_ s'=>SP X pins En .next s') rfl hs (bu8 S I) S.kind S.loc
  (be7 (RR:=λacc C=>compPost (fu X.prog X.w) X.A X.xe (Z (assign (.Name x pos') X.env)) (λ_ s'=>SP X pins En .next s') acc C) S hx hc hsrc hg ht he I h ?_)) (λ_ s' hq=>eM (eM hq)) λ_ _ z=>z)
 intro Dd C r s' hr _ ⟨s2,fp,σ',H2,H',eC,I2,f2,I',q⟩;subst hr eC;have IX:Inv X pins σ H' s':=aP4 (h':=s'.heap) I2 f2 I' (Heap.SameBut.refl ..);obtain⟨mC,hnC,_⟩:=I'.loc
 have hCL:s2.heap.objs.size≠X.env.locals:=λz=>by
  have:=I2.lt;rw[← z]at this;exact bt _ this
 show ft _ X.A (assign (.Name x pos') X.env<|.ref Dd) _ _ _;refine wpAny_assign_Name<|aN3 (v:=.ref Dd) IX hN hi (.inl hl) rfl (λs3 I3 ⟨a,sb,ha⟩=>?_) (.inr hl)
 have hCa:s2.heap.objs.size≠a:=λz=>by
  rcases ha with ha|ha
  .exact hCL (z.trans ha)
  .obtain⟨v,q'⟩:=I2.cell x a ha;have:=q'.lt;rw[← z]at this;exact bt _ this
 refine⟨mC,hnC.sameBut sb hCa,λh' sb'=>?_⟩;refine⟨_,H',I3.turned (t':=s3.toks) (it:=s2.heap.objs.size) (λb o hb e=>sb'.extBut b o hb e) I'.free hCL (.inr I2.sz) (λy c e z=>?_) λp hp z=>?_,q⟩
 .obtain⟨v,q'⟩:=I2.cell y c e;have:=q'.lt;rw[z]at this;exact bt _ this
 .have:=fA (I2.pin p hp).1;rw[z]at this;exact bt _ this
noncomputable def aq4(i:Nat)(f:Rho->Option (List D)):DS:=λρ=>(f ρ).map λds=>.nx<|ρ.set i (Z<|.val (.list ds))
def ch8(i:Nat)(hN:X.N.Nodup)(S:CompSc X N' n caps scope)(hx:∀e s,X.xe e s->False)
  (hi:JI X tgt iter src) (hg:∀C s0 H0 ex,JG (F0 X N' scope C s0 H0 ex) tgt g) (ht:∀C s0 H0 ex,JTs (F0 X N' scope C s0 H0 ex) ifs c) (he:∀C s0 H0 ex,JE (F0 X N' scope C s0 H0 ex) elt e)
  (hi2:X.N[i]? = Z x:=by rfl) (hl:X.env.scope.names.lookup x=Z .local:=by rfl) (hsw:swapsWith (.ListComp elt [⟨tgt,iter,ifs,0⟩] scope pos) (Z<|.Name x pos') spos.line X.env=pure true:=by rfl)
  (hc:X.calm=true:=by rfl) (hs:∀x,fk iter X.env x=pure x:=by intro _;rfl):JS X (.Assign [.Name x pos'] (.ListComp elt [⟨tgt,iter,ifs,0⟩] scope pos) spos) (aq4 i<|D1 n caps src g c e):=λρ fl q H0 Hf0=>by
 obtain⟨out,e1,e2⟩:=xmo q;subst e2;obtain⟨ds,e3,k⟩:=ao9 (K:=X.K) e1;refine P9 (aG3 S hx hc hN hi2 hl (hi ρ ds e3) (g:=tgJ X.K g) (tc:=aN1 X.K c) (te:=bp2 X.K e) hg ht (λC s0 H0 ex pins s σ H Q I ⟨ρ,d,e,t⟩=>he C s0 H0 ex ρ d e pins s σ H Q I t) hsw hs) λEn σ H ⟨Hf,a,ee⟩=>k σ H _ ⟨H0,Hf,a.gr.sub,a.sl,λv H' Hf' gg ⟨p,vs,z1,z2,z3,z4,z5⟩=>?_⟩
 subst z1;have g2:=gg.freeze z3 z4 z2;exact ee _ H' _ ⟨a.gr.trans g2,(a.sl.grow g2).set ⟨p,vs,rfl,SqL.of C5,z5.mono<|E4 z4⟩⟩ g2.ext
def cF3{kt k2 pt2}(hN:X.N.Nodup)(ha:JA X [a,b] f)(hw:swappedStores [.Tuple [.Name x px,.Name y py] kt pt] (.Tuple [a,b] k2 pt2) X.env=pure (Z [x,y]))(hij:i≠j)
  (hi:X.N[i]? = Z x:=by rfl) (hj:X.N[j]? = Z y:=by rfl) (hx:X.env.scope.names.lookup x=Z .local:=by rfl) (hy:X.env.scope.names.lookup y=Z .local:=by rfl) (hc:X.calm=true:=by rfl)
  (hs:swapsWithSole [.Tuple [.Name x px,.Name y py] kt pt] (.Tuple [a,b] k2 pt2) pos.line X.env=pure false:=by rfl):JS X (.Assign [.Tuple [.Name x px,.Name y py] kt pt] (.Tuple [a,b] k2 pt2) pos) (bI4 i j f):=λρ fl q H0 Hf0=>by
 obtain⟨ds,e1,e2⟩:=xbm q;split at e2
 .cases e2;refine P9 (cz0 hc hN hi hj hij hx hy (λpos pins s σ H Q I t=>ha.run ρ _ e1 pos pins s σ H Q I t) hw hs) λEn σ H ⟨Hf,at',e⟩=>⟨H0,Hf,at'.gr.sub,at'.sl,λvs H' Hf' gg rp=>?_⟩
  obtain⟨v,r,rfl,r1,w,r',rfl,r2,r3⟩:=rp;cases r3;exact⟨v,w,rfl,e _ H' Hf' ⟨at'.gr.trans gg,((at'.sl.grow gg).set r1).set r2⟩ gg.ext⟩
 .cases e2
noncomputable def aq5(f:DE)(g:D->Rho->Option Rho):DS:=λρ=>(f ρ).bind λd=>(g d ρ).map Fl.nx
def bO7(he:JE X e f)(hg:JG X tg g)(hs:swapsWithSole [tg] e pos.line X.env=pure false:=by rfl)(hw:swappedStores [tg] e X.env=pure O:=by rfl)
  (h1:(fj [tg] X.env).map (·.2)=[assign tg X.env]:=by rfl):JS X (.Assign [tg] e pos) (aq5 f g):=λρ fl q H0 Hf0=>by
 obtain⟨d,e1,e2⟩:=xbm q;obtain⟨ρ',e3,e4⟩:=xmo e2;subst e4;exact P9 (cz2 (he ρ d e1) hg hs hw h1) λEn σ H ⟨Hf,a,ee⟩=>⟨H0,Hf,a.gr.sub,a.sl,λv H' Hf' gg r=>⟨d,ρ,ρ',H0,Hf',e3,gg.sub,a.sl.grow gg,r,λσ' sl'=>ee σ' H' Hf' ⟨a.gr.trans gg,sl'⟩ gg.ext⟩⟩
noncomputable def ae1(i:Nat)(f:Rho->Option (List D)):DS:=λρ=>(f ρ).map λds=>.nx<|ρ.set i (Z<|.own ds)
def Slots.setOwn{K:ad}{H0 H H' Hf Hf':Hp}{ρ:Rho}{σ:L2.St}{i:Nat}{ds:List D}{a:fO}{vs:List V}(s:Slots K H0 ρ σ H Hf)(g:Grow H Hf H' Hf')(n0:H0 a=O)(n:H a=O)(h:H' a=Z (.lst vs))(nf:Hf' a=O)(r:Reps K Hf' ds vs):
  Slots K H0 (ρ.set i<|Z (.own ds)) (σ.set i<|Z (.ref a)) H' Hf':=by
 have s':=s.grow g
 have old:∀(j:Nat) (es:List D),i≠j->ρ[j]? = Z (Z<|.own es)->σ[j]?≠Z (Z<|.ref a):=λj es hj e z=>by
  obtain⟨v,h1,b,us,e1,h2,_⟩:=s.is j _ e;rw[z]at h1;cases h1;cases e1;rw[n]at h2;cases h2
 refine⟨by simp[s.len],λj b e=>?_,λj k ds1 es b h1 h2 h3 h4=>?_⟩
 .by_cases q:i=j
  .subst q;have hi:i < ρ.length:=by simpa using (ak.mp e).1
   have hi':i < σ.length:=by rw[← s.len];exact hi
   rw[aI hi]at e;cases e;exact⟨_,aI hi',a,vs,rfl,h,nf,n0,r⟩
  .rw[aG q]at e;obtain⟨u,h1,h2⟩:=s'.is j b e;exact⟨u,by rw[aG q];exact h1,h2⟩
 .by_cases qj:i=j
  .by_cases qk:i=k
   .rw[← qj,← qk]
   .subst qj;have hi:i < ρ.length:=by simpa using (ak.mp h1).1
    rw[aI (by rw[← s.len];exact hi)]at h3;rw[aG qk]at h2 h4;cases h3;exact(old k es qk h2 h4).elim
  .rw[aG qj]at h1 h3;by_cases qk:i=k
   .subst qk;have hi:i < ρ.length:=by simpa using (ak.mp h2).1
    rw[aI (by rw[← s.len];exact hi)]at h4;cases h4;exact(old j ds1 qj h1 h3).elim
   .rw[aG qk]at h2 h4;exact s.apart j k ds1 es b h1 h2 h3 h4
def cF4(i:Nat)(hN:X.N.Nodup)(h:JN X e f)(hi:X.N[i]? = Z x:=by rfl)(hx:Loc X.env.scope x:=by first|exact Or.inl rfl|exact Or.inr rfl)
  (hs:swapsWith e (Z<|.Name x pos') pos.line X.env=pure false:=by rfl) (hf:X.fn x=true\/X.env.scope.names.lookup x=Z .local:=by first|exact .inl rfl|exact .inr rfl):JS X (.Assign [.Name x pos'] e pos) (ae1 i f):=λρ fl q H0 Hf0=>by
 obtain⟨ds,e1,e2⟩:=xmo q;subst e2;refine P9 (bJ5 hN hi hx (h ρ ds e1) hs hf) λEn σ H ⟨Hf,a,e⟩=>⟨H0,Hf,a.gr.sub,a.sl,λv H' Hf' g ⟨p,vs,z1,z2,z3,z4,z5⟩=>?_⟩
 subst z1;exact e _ H' Hf' ⟨a.gr.trans g,a.sl.setOwn g (a.gr.big.free z2) z2 z3 z4 z5⟩ g.ext
noncomputable def x0(i:Nat)(f:DE):DS:=λρ=>match ρ[i]? with
 | some (Z (.own ds))=>if ds.length < 16777216 then(f ρ).map λd=>.nx (ρ.set i<|Z (.own<|ds++[d])) else O
 | _=>O
def cF9(i:Nat)(h:JE X e f)(hN:X.N[i]? = Z x:=by rfl)(hv:Vis X.env.scope x:=by first|exact Or.inl rfl|exact Or.inr (Or.inl rfl)|exact Or.inr<|Or.inr rfl)(hd:(x==("__debug__" : Str))=false:=by decide)
  (hcd:(x==("__classdict__" : Str))=false:=by decide) (hbase:fq (.Name x p) "append" X.env (eval (.Name x p) X.env)=eval (.Name x p) X.env:=by rfl)
  (hfew:((backTo cpos (eT [e] X.env)).all (λx=>!x.1)&&(backToKw cpos (keywordEach [] X.env)).all (λx=>x.1.isSome)
   && decide (([e]:List Expr).length+([]:List fh).length+(if([]:List fh).isEmpty then 0 else 1) < 30))=true:=by rfl)
  (hline:(apos.endLine==cpos.line)=true:=by rfl) (hs:eT [e] X.env=[(false,eval e X.env)]:=by rfl) (hsw:swapsWith (.Call (.Attribute (.Name x p) "append" apos) [e] [] cpos) O pos.line X.env=pure false:=by rfl) :
  JS X (.Expr (.Call (.Attribute (.Name x p) "append" apos) [e] [] cpos) pos) (x0 i f):=λρ fl q H0 Hf0=>by
 unfold x0 at q;split at q
 .rename_i ds eo;split at q
  .rename_i hz;obtain⟨d,e1,e2⟩:=xmo q;subst e2;refine P9 (aS9 (bq2 PySem.F.plainAttrs_list PySem.F.slot_list_append PySem.F.type_list_append aN9 (ac0 hN hv hd hcd) (E3 (h ρ d e1) J8 hs) hbase hfew hline hs) hsw) λEn σ H ⟨Hf,a,ee⟩=>?_
   obtain⟨v,h1,b,vs,rfl,h2,h3,h4,h5⟩:=a.sl.is i _ eo;refine⟨_,h1,.inl ⟨rfl,vs,SqL.of h2⟩,H0,Hf,a.gr.sub,a.sl,λw H' Hf' gg r=>?_⟩;have hb:H' b=Z (.lst vs):=gg.big _ _ h2;have hfb:Hf' b=O:=gg.nofr h2 h3;have g2:=a.gr.trans gg;have sl2:=a.sl.grow gg;refine⟨b,vs,w,rfl,rfl,hb,by rw[h5.length,eV];exact hz,ee _ _ Hf' ⟨⟨λc u z=>?_,λc u z=>?_,g2.ext,g2.new⟩,?_⟩ gg.ext⟩
   .rw[C6 (C9 z h4)];exact g2.big c u z
   .rw[C6 (C9 z hfb)];exact g2.sub c u z
   .refine⟨by simpa using sl2.len,λj bb z=>?_,λj k ds1 es c q1 q2 q3 q4=>?_⟩
    .by_cases qj:i=j
     .subst qj;have hi:i < ρ.length:=(ak.mp eo).1;rw[aI hi]at z;cases z;exact⟨_,h1,b,vs++[w],rfl,C5,hfb,h4,(h5.mono gg.ext).append ⟨w,[],rfl,r,rfl⟩⟩
     .rw[aG qj]at z;obtain⟨u,z1,z2⟩:=sl2.is j bb z;refine⟨u,z1,?_⟩;cases bb with
      | val d=>exact z2
      | exc C=>exact z2
      | own dd =>
       obtain⟨a',vs',y1,y2,y3,y4,y5⟩:=z2
       have ne:a'≠b:=λzz=>by
        subst zz y1;exact qj<|a.sl.apart i j ds dd a' eo z h1 z1
       exact⟨a',vs',y1,by rw[C6 ne];exact y2,y3,y4,y5⟩
    .have q1':∃dd,ρ[j]? = Z (Z<|.own dd):=by
      by_cases qj:i=j
      .subst qj;exact⟨ds,eo⟩
      .rw[aG qj]at q1;exact⟨_,q1⟩
     have q2':∃dd,ρ[k]? = Z (Z<|.own dd):=by
      by_cases qj:i=k
      .subst qj;exact⟨ds,eo⟩
      .rw[aG qj]at q2;exact⟨_,q2⟩
     obtain⟨d1,q1'⟩:=q1';obtain⟨d2,q2'⟩:=q2';exact a.sl.apart j k d1 d2 c q1' q2' q3 q4
  .cases q
 .cases q
noncomputable def frz(i:Nat)(ρ:Rho):Rho:=match ρ[i]? with
 | some (Z (.own ds))=>ρ.set i<|Z (.val<|.list ds)
 | _=>ρ
def cJ7{K:ad}{H0 Hf0 H Hf:Hp}{ρ:Rho}{σ:L2.St}(i:Nat)(a:At K H0 Hf0 ρ σ H Hf):∃Hf',E2 Hf Hf'/\At K H0 Hf0 (frz i ρ) σ H Hf':=by
 unfold frz;split
 .rename_i ds eo;obtain⟨v,h1,b,vs,rfl,h2,h3,h4,h5⟩:=a.sl.is i _ eo;have g:Grow H0 Hf0 H (upd Hf b<|.lst vs):=a.gr.freeze h2 h3 h4;refine⟨upd Hf b<|.lst vs,E4 h3,g,⟨by simpa using a.sl.len,λj bb z=>?_,λj k ds1 es c q1 q2 q3 q4=>?_⟩⟩
  .have hi:i < ρ.length:=(ak.mp eo).1;by_cases qj:i=j
   .subst qj;rw[aI hi]at z;cases z;exact⟨_,h1,b,vs,rfl,SqL.of C5,h5.mono (E4 h3)⟩
   .rw[aG qj]at z;obtain⟨u,z1,z2⟩:=a.sl.is j bb z;refine⟨u,z1,?_⟩;cases bb with
    | val d=>exact Rep.mono (E4 h3) z2
    | exc C =>
     obtain⟨a',o',C',y1,y2,y3⟩:=z2;exact⟨a',o',C',y1,E4 h3 _ _ y2,y3⟩
    | own dd =>
     obtain⟨a',vs',y1,y2,y3,y4,y5⟩:=z2
     have ne:a'≠b:=λzz=>by
      subst zz y1;exact qj<|a.sl.apart i j ds dd a' eo z h1 z1
     exact⟨a',vs',y1,y2,by rw[C6 ne];exact y3,y4,y5.mono<|E4 h3⟩
  .have hi:i < ρ.length:=(ak.mp eo).1;have qj:i≠j:=λz=>by subst z;rw[aI hi]at q1;cases q1
   have qk:i≠k:=λz=>by subst z;rw[aI hi]at q2;cases q2
   rw[aG qj]at q1;rw[aG qk]at q2;exact a.sl.apart j k ds1 es c q1 q2 q3 q4
 .exact⟨Hf,E2.refl _,a⟩
noncomputable def aS1(i:Nat)(f:DS):DS:=λρ=>f<|frz i ρ
def cF5(i:Nat){st:Stmt}{f:DS}(h:JS X st f):JS X st (aS1 i f):=λρ fl q H0 Hf0=>P9 (h (frz i ρ) fl q H0 Hf0) λEn σ H ⟨Hf,a,e⟩=>by
 obtain⟨Hf',s,a'⟩:=cJ7 i a;exact⟨Hf',a',Fl.ends_mono e s⟩
noncomputable def cP2(K:ad)(H0 Hf0:Hp)(f:DS):TS:=λEn σ H=>∃ρ fl,f ρ=Z fl/\tJS K H0 Hf0 ρ fl En σ H
def bq0(h:JSs X sts f):PSs X sts (cP2 X.K H0 Hf0 f):=λpins s σ H En I ⟨ρ,fl,e,t⟩=>h ρ fl e H0 Hf0 pins s σ H En I t
def cy8(h:JT X e c):PT X e (aN1 X.K c):=λpins s σ H Q I ⟨ρ,b,e,t⟩=>h ρ b e pins s σ H Q I t
noncomputable def X1(t:Rho->Option Bool)(f:DS):Nat->DS
 | 0=>λ_=>O
 | n+1=>λρ=>(t ρ).bind λc=>if c then(f ρ).bind λfl=>match fl with
   | .nx ρ'=>X1 t f n ρ'
   | .ct ρ'=>X1 t f n ρ'
   | .bk ρ'=>Z<|.nx ρ'
   | .rt d=>Z<|.rt d
  else Z (.nx ρ)
theorem an9:∀{n:Nat}{ρ:Rho}{fl:Fl},X1 t f n ρ=Z fl->X1 t f (n+1) ρ=Z fl
 | 0,_,_,h=>by cases h
 | n+1,ρ,fl,h=>by
  obtain⟨c,e1,h⟩:=xbm h;show(t ρ).bind _=_;rw[e1];cases c with
  | false=>exact h
  | true =>
   obtain⟨fl1,e2,h⟩:=xbm h;show(f ρ).bind _=_;rw[e2];cases fl1 with
   | nx ρ'=>exact an9 (n:=n) h
   | ct ρ'=>exact an9 (n:=n) h
   | bk ρ'=>exact h
   | rt d=>exact h
def bb7(h:X1 t f n ρ=Z fl)(l:n<=m):X1 t f m ρ=Z fl:=by
 induction l with
 | refl=>exact h
 | step _ ih=>exact an9 ih
open Classical in
noncomputable def ab5(t:Rho->Option Bool)(f:DS):DS:=λρ=>if h:∃fl n,X1 t f n ρ=Z fl then Z h.choose else O
def aN4(h:X1 t f n ρ=Z fl):ab5 t f ρ=Z fl:=by
 have hx:∃fl n,X1 t f n ρ=Z fl:=⟨fl,n,h⟩;unfold ab5;rw[dif_pos hx];obtain⟨m,hm⟩:=hx.choose_spec;have h1:=bb7 h (Nat.le_max_left n m);have h2:=bb7 hm (Nat.le_max_right n m);rw[h1]at h2;exact h2.symm
def by0(h:ab5 t f ρ=Z fl):∃n,X1 t f n ρ=Z fl:=by
 unfold ab5 at h;split at h
 .rename_i hx;cases h;exact hx.choose_spec
 .cases h
def bO6(hc:JT X c t)(hb:JSs X body f)(hp:PassesOwn (fu X.prog X.w) X.A X.env X.xe:=by exact PassesOwn.never):JS X (.While c body [] pos) (ab5 t f):=λρ fl q H0 Hf0=>by
 obtain⟨n,hn⟩:=by0 q;refine P9 (bJ4 hp (cy8 hc)<|bq0 (H0:=H0) (Hf0:=Hf0) hb) λEn σ H ⟨Hf,a,e⟩=>?_
 refine⟨λm σ H=>∃Hf' ρ',At X.K H0 Hf0 ρ' σ H Hf'/\E2 Hf Hf'/\X1 t f m ρ'=Z fl,⟨n,Hf,ρ,a,E2.refl _,hn⟩,?_⟩
 rintro m σ' H' ⟨Hf',ρ',a',s',hm⟩
 cases m with
 | zero=>cases hm
 | succ m =>
  obtain⟨b,e1,hm⟩:=xbm hm;refine⟨ρ',b,e1,H0,Hf',a'.gr.sub,a'.sl,λH2 Hf2 g2=>?_⟩;have a2:=a'.grow g2;have s2:=s'.trans g2.ext;cases b with
  | false =>
   have:fl=.nx ρ':=by simpa using hm.symm
   subst this;exact aH7<|e σ' H2 Hf2 a2 s2
  | true =>
   obtain⟨fl1,e2,hm⟩:=xbm (show(f ρ').bind _=Z fl from hm);refine aH6 ⟨λσ3 H3=>∃m',m' < m+1/\∃Hf' ρ',At X.K H0 Hf0 ρ' σ3 H3 Hf'/\E2 Hf Hf'/\X1 t f m' ρ'=Z fl,λσ3 H3 z=>z,ρ',fl1,e2,Hf2,a2,?_⟩;cases fl1 with
   | nx ρ3=>exact λσ3 H3 Hf3 a3 s3=>⟨m,cV _,Hf3,ρ3,a3,s2.trans s3,hm⟩
   | ct ρ3=>exact λσ3 H3 Hf3 a3 s3=>⟨m,cV _,Hf3,ρ3,a3,s2.trans s3,hm⟩
   | bk ρ3 =>
    cases hm;exact λσ3 H3 Hf3 a3 s3=>e σ3 H3 Hf3 a3<|s2.trans s3
   | rt d =>
    cases hm;exact e
noncomputable def j8(g:D->Rho->Option Rho)(f:DS):List D->DS
 | []=>λρ=>Z<|.nx ρ
 | d::ds=>λρ=>(g d ρ).bind λρ1=>(f ρ1).bind λfl=>match fl with
   | .nx ρ'=>j8 g f ds ρ'
   | .ct ρ'=>j8 g f ds ρ'
   | .bk ρ'=>Z<|.nx ρ'
   | .rt d=>Z<|.rt d
noncomputable def W9(src:Rho->Option (List D))(g:D->Rho->Option Rho)(f:DS):DS:=λρ=>(src ρ).bind λds=>j8 g f ds ρ
def cF6(hi:JI X tg iter src)(hg:JG X tg g)(hb:JSs X body f)(hp:PassesOwn (fu X.prog X.w) X.A X.env X.xe:=by exact PassesOwn.never)(hc:X.calm=true:=by rfl)
  (hs:∀x,fk iter X.env x=pure x:=by intro _;rfl):JS X (.For tg iter body [] pos) (W9 src g f):=λρ fl q H0 Hf0=>by
 obtain⟨ds,e1,e2⟩:=xbm q;refine P9 (cz1 hp hc (hi ρ ds e1) hg (bq0 (H0:=H0) (Hf0:=Hf0) hb) hs) λEn σ H ⟨Hf,a,e⟩=>⟨H0,Hf,a.gr.sub,a.sl,λJ H1 Hf1 g1 Y=>?_⟩
 refine⟨λi m σ H=>m=ds.length - i/\i<=ds.length/\∃Hf' ρ',At X.K H0 Hf0 ρ' σ H Hf'/\E2 Hf1 Hf'/\j8 g f (ds.drop i) ρ'=Z fl,⟨ds.length,by simp,aQ _,Hf1,ρ,a.grow g1,E2.refl _,by simpa using e2⟩,?_⟩
 rintro i m σ' H' ⟨rfl,hi,Hf',ρ',a',s',hm⟩
 obtain⟨Ys,Yg⟩:=Y i H' Hf' s' a'.gr.sub;rcases bG i ds.length with hlt|hge
 .right
  obtain⟨go,yl⟩:=Yg ds[i] (by simp[hlt]);rw[bB hlt]at hm;obtain⟨ρ1,c1,hm⟩:=xbm hm;obtain⟨fl1,c2,hm⟩:=xbm hm;refine⟨go,λσ3 H3=>∃m',m' < ds.length - i/\m'=ds.length - (i+1)/\i+1<=ds.length/\∃Hf' ρ',At X.K H0 Hf0 ρ' σ3 H3 Hf'/\E2 Hf1 Hf'/\j8 g f (ds.drop<|i+1) ρ'=Z fl,λσ3 H3 ⟨m',z1,z2⟩=>⟨m',z1,z2⟩,λx H2 hy=>?_⟩;obtain⟨Hf2,g2,r2⟩:=yl x H2 hy;have a2:=a'.grow g2;refine⟨ds[i],ρ',ρ1,H0,Hf2,c1,g2.sub,a2.sl,r2,λσ3 sl3=>⟨ρ1,fl1,c2,Hf2,⟨a2.gr,sl3⟩,?_⟩⟩;have s2:=s'.trans g2.ext;cases fl1 with
  | nx ρ3=>exact λσ3 H3 Hf3 a3 s3=>⟨_,by omega,rfl,hlt,Hf3,ρ3,a3,s2.trans s3,hm⟩
  | ct ρ3=>exact λσ3 H3 Hf3 a3 s3=>⟨_,by omega,rfl,hlt,Hf3,ρ3,a3,s2.trans s3,hm⟩
  | bk ρ3 =>
   cases hm;exact λσ3 H3 Hf3 a3 s3=>e σ3 H3 Hf3 a3<|g1.ext.trans (s2.trans s3)
  | rt d =>
   cases hm;exact e
 .left
  have:i=ds.length:=by omega
  subst this;rw[List.drop_length]at hm;cases hm;exact⟨Ys (aj _),e σ' H' Hf' a' (g1.ext.trans s')⟩
def ch5:JS X (.Pass pos) C2:=λρ fl q H0 Hf0=>by
 cases q;exact P9 cd0 λEn σ H ⟨Hf,a,e⟩=>e σ H Hf a<|E2.refl _
def cF8:JS X (.Break pos) (λρ=>Z<|.bk ρ):=λρ fl q H0 Hf0=>by
 cases q;exact P9 bJ6 λEn σ H ⟨Hf,a,e⟩=>e σ H Hf a<|E2.refl _
end
noncomputable def Z9(n:Nat)(ds:List D):Rho:=ds.map (λd=>Z<|B.val d)++ax (n - ds.length) O
noncomputable def C4(g:DS)(n:Nat):List D->Option D:=λds=>(g<|Z9 n ds).bind λfl=>match fl with
 | .rt d=>Z d
 | .nx _=>Z .none
 | _=>O
def az1{K:ad}{H0 H Hf:Hp}{N:List Str}{ds:List D}{vs:List V}(r:Reps K Hf ds vs):Slots K H0 (Z9 N.length ds) (L2.Q5 N vs) H Hf:=by
 have hl:=r.length
 have noown:∀(i:Nat) (b:B),(Z9 N.length ds)[i]? = Z (Z b)->∃d,ds[i]? = Z d/\b=.val d:=λi b h=>by
  unfold Z9 at h;rcases bG i ds.length with q|q
  .rw[aX (by simpa using q),aF]at h;rw[am q]at h ⊢;simp only[dl,bf.injEq]at h;exact⟨ds[i],rfl,h.symm⟩
  .rw[aM (by simpa using q),bo]at h;split at h<;>cases h
 refine⟨by simp[Z9,L2.Q5,hl],λi b e=>?_,λi j d1 d2 a e1 _ _ _=>?_⟩
 .obtain⟨d,h1,h2⟩:=noown i b e;subst h2;obtain⟨v,h3,h4⟩:=r.get h1;refine⟨v,?_,h4⟩;have hi:i < vs.length:=(ak.mp h3).1;unfold L2.Q5;rw[aX (by simpa using hi),aF,h3];rfl
 .obtain⟨d,_,h2⟩:=noown i _ e1;cases h2
def bt8{P:fb}{w:World}{K:ad}{mg:Str->Option fM}{base:Heap}{x qual:Str}{st:Stmt}{f:fO}{fd:fe}{N ps:List Str}{k:Nat}{g:DS}(F:Fun K x qual st f fd)(S:FnScope N ps (C8 st))
  (hb:∀(cdv:fM) (A:fc) (outer:List Env) (s:fN) (H:Hp) (E:XK),Room k (A.deeper<|envOfC qual (C8 st) s.heap.objs.size f cdv)->JSs (aW0 CX0 P w K mg base N qual (C8 st) f cdv A outer s H E).nox (M0 st) g) :
  FnOk P w K mg base CX0 (k+1) f fd ps (spF K ps.length<|C4 g N.length):=by
 refine F.ok S (λvs H Q E h=>h.1) λcdv A outer s H vs Q E hr hsp=>?_
 obtain⟨hlen,Hf,ds,d,ss,rp,e,kk⟩:=hsp;obtain⟨fl,e1,e2⟩:=xbm e;refine⟨_,hb cdv A outer s H E hr _ fl e1 H Hf,Hf,⟨Grow.refl ss,az1 rp⟩,?_⟩;cases fl with
 | rt d'=>cases e2;exact λv H' Hf' g r=>kk v H' Hf' g r
 | nx ρ=>cases e2;exact λσ' H' Hf' a _=>kk _ H' Hf' a.gr rfl
 | bk ρ=>cases e2
 | ct ρ=>cases e2
noncomputable def SIt:Bool->Heap->fO->fO->Nat->Prop
 | true=>Heap.IsTupleIter
 | false=>Heap.IsListIter
noncomputable def SSq:Bool->Heap->fO->Array fM->Prop
 | true=>Heap.IsTuple
 | false=>Heap.IsList
section
variable {prog:Program}{w:World}{A:Around}{E:Value->Shared->Prop}{s:Shared}{t t1 t2:Bool}
def SIt.ext(x:SIt t h it l k)(e:∀o,h.get? it=Z o->h'.get? it=Z o):SIt t h' it l k:=by
 cases t with
 | true=>obtain⟨o,ho,r⟩:=x;exact⟨o,e o ho,r⟩
 | false=>obtain⟨o,ho,r⟩:=x;exact⟨o,e o ho,r⟩
def SSq.ext(x:SSq t h l xs)(e:∀o,h.get? l=Z o->h'.get? l=Z o):SSq t h' l xs:=by
 cases t with
 | true=>obtain⟨o,ho,r⟩:=x;exact⟨o,e o ho,r⟩
 | false=>obtain⟨o,ho,r⟩:=x;exact⟨o,e o ho,r⟩
def SIt.lt(x:SIt t h it l k):it < h.objs.size:=by
 cases t with
 | true=>obtain⟨o,ho,_⟩:=x;exact fA ho
 | false=>obtain⟨o,ho,_⟩:=x;exact fA ho
def bh0(hit:s.heap.IsTupleIter it l k)(hl:s.heap.IsTuple l xs)(hx:xs[k]? = Z x)
  (hQ:∀h',h'.IsTupleIter it l (k+1)->Heap.SameBut it s.heap h'->Q x { s with heap:=h' }):ft (fu prog w) A (Builtin.SmallTypes.nextOf<|.ref it) Q E s:=by
 obtain⟨o,ho,hc,hd⟩:=id hit;obtain⟨ol,hol,_,nl,hdl⟩:=hl;unfold Builtin.SmallTypes.nextOf;refine eK (wpAny_callSpecial?_slot (name:=Str.ofString "__next__") hit.typeIs F.slot_tuple_iterator_next<|wpAny_call_entry F.slot_tuple_iterator_next hit.typeIs F.entry_tuple_iterator_next ?_ (F.args_tuple_iterator_next_1 _));show ft _ _ (field (.ref it) 0 >>= _) _ _ s;refine eK (eS ho hd (x:=.ref l) rfl ?_);show ft _ _ (if(fI l==fJ)=true then _ else _) _ _ s;rw[if_neg (show ¬((fI l==fJ)=true) from aE)];show ft _ _ (field (.ref it) 1 >>= _) _ _ s;refine eK (eS ho hd (x:=.int k 0) rfl ?_);show ft _ _ (seqItems? (.ref l) >>= _) _ _ s;refine eK (wpAny_seqItems hol hdl ?_);simp only[bp,hx];refine eK (wpAny_setField ho hd (by simp)<|eM ⟨x,rfl,eM<|hQ _ ⟨_,Heap.get?_update_self _ ho<|Obj.isFreed_of_fields (Obj.data_mapFields hd _),(Obj.cls_mapFields ..).trans hc,?_⟩ (Heap.SameBut.update ..)⟩);rw[Obj.data_mapFields hd];simp[rawInt]
def bw5(hh:A.handled=O)(hit:s.heap.IsTupleIter it l k)(hl:s.heap.IsTuple l xs)(hx:xs[k]? = O)
  (hE:∀h' e,Heap.ExtBut it s.heap h'->(∃o,h'.get? e=Z o/\o.cls=.type "StopIteration")->E (.ref e) { s with heap:=h' }):ft (fu prog w) A (Builtin.SmallTypes.nextOf<|.ref it) Q E s:=by
 obtain⟨o,ho,hc,hd⟩:=id hit;obtain⟨ol,hol,_,nl,hdl⟩:=hl;unfold Builtin.SmallTypes.nextOf;refine eK (wpAny_callSpecial?_slot (name:=Str.ofString "__next__") hit.typeIs F.slot_tuple_iterator_next<|wpAny_call_entry F.slot_tuple_iterator_next hit.typeIs F.entry_tuple_iterator_next ?_ (F.args_tuple_iterator_next_1 _));show ft _ _ (field (.ref it) 0 >>= _) _ _ s;refine eK (eS ho hd (x:=.ref l) rfl ?_);show ft _ _ (if(fI l==fJ)=true then _ else _) _ _ s;rw[if_neg (show ¬((fI l==fJ)=true) from aE)];show ft _ _ (field (.ref it) 1 >>= _) _ _ s;refine eK (eS ho hd (x:=.int k 0) rfl ?_);show ft _ _ (seqItems? (.ref l) >>= _) _ _ s;refine eK (wpAny_seqItems hol hdl ?_);simp only[bp,hx];refine eK (wpAny_rule<|eK (wpAny_setField ho hd (by simp) ?_));show ft _ _ (newExc (.type "StopIteration") [] >>= _) _ _ _;refine eK ?_;simp only[newExc,newTuple];refine eK (eQ ?_<|by size_fits);refine eK (m:=firstArgMember _ _) (wpAny_of_eq (a:=fJ) (by first|rfl|(simp only[firstArgMember];rfl)) ?_);refine eQ ?_ (by size_fits);simp only[raiseNew];refine eK (wpAny_handled ?_);first|rw[show A.in1.handled=O from hh]|rw[hh]
 refine eK (eM<|wpAny_throw ?_);exact hE _ _ (((Heap.SameBut.update ..).extBut.push _).push _) ⟨_,fB _ rfl,rfl⟩
def bH9(hit:SIt t s.heap it l k)(hl:SSq t s.heap l xs)(hx:xs[k]? = Z x)
  (hQ:∀h',SIt t h' it l (k+1)->Heap.SameBut it s.heap h'->Q x { s with heap:=h' }):ft (fu prog w) A (Builtin.SmallTypes.nextOf<|.ref it) Q E s:=by
 cases t with
 | true=>exact bh0 hit hl hx hQ
 | false=>exact wpAny_nextOf_list_item hit hl hx hQ
def bp5(hh:A.handled=O)(hit:SIt t s.heap it l k)(hl:SSq t s.heap l xs)(hx:xs[k]? = O)
  (hE:∀h' e,Heap.ExtBut it s.heap h'->(∃o,h'.get? e=Z o/\o.cls=.type "StopIteration")->E (.ref e) { s with heap:=h' }):ft (fu prog w) A (Builtin.SmallTypes.nextOf<|.ref it) Q E s:=by
 cases t with
 | true=>exact bw5 hh hit hl hx hE
 | false=>exact wpAny_nextOf_list_end hh hit hl hx hE
noncomputable def aO7(t:Bool)(l:fO):Obj:={ cls:=.type (if t then "tuple_iterator" else "list_iterator"),data:=.fields #[.ref l,.int 0 0] }
def cb7{h:Heap}{l:fO}(t:Bool):SIt t (h.push<|aO7 t l) h.objs.size l 0:=by
 cases t with
 | true=>exact⟨_,fB _ rfl,rfl,rfl⟩
 | false=>exact⟨_,fB _ rfl,rfl,rfl⟩
def aF9(hl:SSq t s.heap l xs)(hQ:Q (.ref s.heap.objs.size) { s with heap:=s.heap.push (aO7 t l) }):ft (fu prog w) A (pyIter<|.ref l) Q E s:=by
 cases t with
 | true=>exact wpAny_pyIter_tuple hl hQ
 | false=>exact wpAny_pyIter_list hl hQ
end
def cw6(I:Inv X pins σ H s)(h:Sq X.K t H a xs)(h':Sq X.K t H a ys):xs=ys:=by
 cases t with
 | true=>exact I.tuple_inj h h'
 | false=>exact I.list_inj h h'
def aR9(I:Inv X pins σ H s)(h:Sq X.K t H a xs):∃its:List fM,E1 xs its/\SSq t s.heap a its.toArray/\a < s.heap.objs.size:=by
 cases t with
 | true =>
  obtain⟨its,r,p,_⟩:=I.tuple h;exact⟨its,r,p,by obtain⟨o,ho,_⟩:=p;exact fA ho⟩
 | false =>
  obtain⟨its,r,p,_⟩:=I.list h;exact⟨its,r,p.isList,by obtain⟨o,ho,_⟩:=p.isList;exact fA ho⟩
def aC3{X:Cx}{pins:List (fO×Obj)}{σ:L2.St}{H:Hp}{s:fN}{h':Heap}{t':Nat}{ch:List fO}{T:fO}{o:HO}(I:Inv X pins σ H s)(hf:∀b∈ch,ay0 X pins H b)(hT:s.heap.objs.size<=T)
  (k:∀b u,b∉ch->s.heap.get? b=Z u->h'.get? b=Z u) (new:N8 X.prog X.w (upd H T o) h' T o):Inv X pins σ (upd H T o) { s with heap:=h',toks:=t' }:=by
 have hn:H T=O:=I.hok.fresh hT;have neT:∀b u,s.heap.get? b=Z u->b≠T:=λb u e=>aC<|aH (fA e) hT
 have nch:∀b u,H b=Z u->b∉ch:=λb u e z=>by rw[(hf b z).1]at e;cases e
 refine I.step (g':=s.gens) (d':=s.drawn) (ch:=ch) (λb hb=>⟨(hf b hb).2.2.2.1,(hf b hb).2.1,(hf b hb).2.2.2.2.1,(hf b hb).2.2.2.2.2⟩) (λb u _ _ hc e _=>k b u hc e) (λb u _ _ hc e _=>⟨u.slots,k b u hc e⟩)
  (λb u _ e n=>by rw[C6 (neT b u e)];exact n) (λb u hc e=>⟨u,k b u hc e⟩) (λb xs e=>by rw[C6 (C9 e hn)];exact e) (λb ob u e=>by rw[C6 (C9 e hn)];exact e)
  (λb ps e=>⟨#[],by rw[C6 (C9 e hn),e];simp⟩) (λm hm=>?_) (λb u e=>?_) I.bare
 .obtain⟨ob,es,ep,ho,r⟩:=hm;exact⟨ob,es,ep,k _ ob (λz=>(hf _ z).2.1 rfl) ho,r⟩
 .by_cases hb:b=T
  .subst hb;rw[C5]at e;cases e;exact new
  .rw[C6 hb]at e;refine(I.hok b u e).stay (λc v hc q=>k c v ?_ q) (λc q=>by rw[C6 (C9 q hn)];exact q) λc xs q=>by rw[C6 (C9 q hn)];exact q
   rcases hc with z|z
   .rw[z];exact nch b u e
   .exact nch c _ z
def bk1{X:Cx}{pins:List (fO×Obj)}{σ:L2.St}{H:Hp}{s:fN}{h':Heap}{t':Nat}{ch:List fO}(I:Inv X pins σ H s)(hf:∀b∈ch,ay0 X pins H b)
  (k:∀b u,b∉ch->s.heap.get? b=Z u->h'.get? b=Z u):Inv X pins σ H { s with heap:=h',toks:=t' }:=by
 have nch:∀b u,H b=Z u->b∉ch:=λb u e z=>by rw[(hf b z).1]at e;cases e
 refine I.step (g':=s.gens) (d':=s.drawn) (ch:=ch) (λb hb=>⟨(hf b hb).2.2.2.1,(hf b hb).2.1,(hf b hb).2.2.2.2.1,(hf b hb).2.2.2.2.2⟩) (λb u _ _ hc e _=>k b u hc e) (λb u _ _ hc e _=>⟨u.slots,k b u hc e⟩)
  (λb u _ e n=>n) (λb u hc e=>⟨u,k b u hc e⟩) (λb xs e=>e) (λb ob u e=>e) (λb ps e=>⟨#[],by rw[e];simp⟩) (λm hm=>?_) (λb u e=>?_) I.bare
 .obtain⟨ob,es,ep,ho,r⟩:=hm;exact⟨ob,es,ep,k _ ob (λz=>(hf _ z).2.1 rfl) ho,r⟩
 .refine(I.hok b u e).stay (λc v hc q=>k c v ?_ q) (λc q=>q) λc xs q=>q
  rcases hc with z|z
  .rw[z];exact nch b u e
  .exact nch c _ z
section
variable {X:Cx}
noncomputable def ck6(f g:Rho->Option (Bool×List D)):Rho->Option (List D):=λρ=>(f ρ).bind λp=>(g ρ).bind λq=>Z<|(p.2.zip q.2).map λ(x,y)=>PyData.tuple [x,y]
end
def aA1:fillsNumberSlot (.type "tuple") "mul" = pure false:=PySem.fillsNumberSlot_seq (id := "tuple.__mul__") (r:=Z<|.builtin "tuple.__rmul__") F.slot_tuple_mul.lookup (by decide +kernel) F.slot_tuple_rmul.lookup (by decide +kernel)
def aN5:seqRepeat? (.type "tuple")=pure (Z<|.builtin "tuple.__mul__"):=by
 unfold seqRepeat?;rw[PySem.seqSlot_of (T := "tuple") (name := "__mul__") (id := "tuple.__mul__") F.slot_tuple_mul.lookup (by decide +kernel),PySem.seqSlot_of (T := "tuple") (name := "__rmul__") (id := "tuple.__rmul__") F.slot_tuple_rmul.lookup (by decide +kernel)];rfl
def aq7(a:Int)(t:Tok)(l:fO)(items:Array fM)(n:Nat)(dd:Option fO)(sl:Array (Option fM)):
  Meets (Builtin.«int.__rmul__» ⟨[.int a t,.ref l],[]⟩) (λ_ R s=>s.heap.get? l=Z ⟨.type "tuple", dd,.seq items n,sl⟩/\R (.ok<|.ret Value.notImplemented) s) :=
 .of_wp λprog w A R s h=>by obtain⟨hp,g,d,tk,os⟩:=s;obtain⟨hl,h⟩:=h;wp_walk;exact⟨_,rfl,h⟩
def bh9(items:Array fM)(k:Nat):cQ (λx1 x2=>x1++x2) #[] (ax k items)=(ax k items.toList).flatten.toArray:=by
 have:=aP0 items.toList k [];rw[List.nil_append]at this;simpa using this
def ba4(l:fO)(items:Array fM)(n:Nat)(dd:Option fO)(sl:Array (Option fM))(x:Int)(u:Tok)(h2:2<=x)(h3:x < 1000000)(he:items.isEmpty=false)(hz:items.size*x.toNat<=eU):
  Meets (Builtin.«tuple.__mul__» ⟨[.ref l,.int x u],[]⟩) (λ_ R s=>s.heap.get? l=Z ⟨.type "tuple", dd,.seq items n,sl⟩/\R (.ok<|.ret (fI s.heap.objs.size)) { s with heap:=s.heap.push { cls:=Value.type "tuple", data:=Data.seq (cQ (λx1 x2=>x1++x2) #[] (ax x.toNat items)) } }) :=
 .of_wp λprog w A R s h=>by
  obtain⟨hp,g,d,tk,os⟩:=s;obtain⟨hl,h⟩:=h
  have hm:(items.size:Int)*x<=16777216:=by
   have e:((items.size*x.toNat:Nat):Int)=(items.size:Int)*x:=by rw[bD,Int.toNat_of_nonneg (by omega)]
   have:items.size*x.toNat<=16777216:=by rw[← eV];exact hz
   omega
  wp_walk
  refine wpAny_ite_false (by simp;omega) ?_;have ht:Heap.IsTuple (Shared.heap ⟨hp,g,d,tk,os⟩) l items:=⟨_,hl,rfl,n,rfl⟩;refine eK (tupleItemsOf_ ht ?_);refine wpAny_ite_false (by rw[he];simp;omega) ?_;show ft _ _ (if(decide (x<=0) || items.isEmpty)=true then _ else _) _ _ _;refine wpAny_ite_false (by rw[he];simp;omega) ?_;show ft _ _ (if(items.size:Int)*x > (2 ^ 63 - 1) / 8 then _ else _) _ _ _;rw[if_neg (by omega)];show ft _ _ (if Builtin.Tuple.tupleTooMany ((items.size:Int)*x)=true then _ else _) _ _ _;rw[if_neg (by unfold Builtin.Tuple.tupleTooMany;rw[eV];simp;omega)];refine eK (m:=Builtin.Tuple.tupleExact _) (eQ (eM ⟨_,rfl,h⟩) ?_);show(cQ (λx1 x2=>x1++x2) #[] (ax x.toNat items)).size<=eU;rw[bh9 items x.toNat,ap,aT9,aV,cz];exact hz
section
variable {X:Cx}
def ce4:OpR X (fg .Mult) (λx y H Q=>∃l k xs,x=.ref l/\y=.int k/\SqT X.K H l xs/\xs≠[]/\2<=k/\k < 1000000/\xs.length*k.toNat<=eU/\∀p,H p=O->Q (.ref p) (upd H p<|.tup (ax k.toNat xs).flatten)):=by
 intro pins s σ H x y v u Q I rx ry h;obtain⟨l,k,xs,rfl,rfl,hq,hx,h2,h3,hz,q⟩:=h;cases rx;obtain⟨t,rfl⟩:=ry;obtain⟨its,r,p1,_⟩:=I.tuple hq;obtain⟨⟨cls,dd,data,sl⟩,ho,hc,n,hd⟩:=id p1;simp only at hc hd;subst hc hd;have hl:=r.length
 have he:its.toArray.isEmpty=false:=by
  cases its with
  | nil=>exact absurd (r.nil_iff.mp rfl) hx
  | cons a b=>rfl
 refine wpAny_binaryOp_repeat_ref (T := "tuple") (U := "int") (by decide) ⟨_,ho,rfl⟩ (λs'=>typeIs_int s' k t) aA1 F.fills_int_mul F.slot_int_rmul aN5 F.slot_int_index.lookup
  (fo F.slot_int_rmul (typeIs_int s k t) F.entry_int_rmul (F.args_int_rmul_2 _ _) (aq7 k t l its.toArray n dd sl) ⟨ho,rfl,⟨_,ho,rfl⟩,
   fo F.slot_tuple_mul ⟨_,ho,rfl⟩ F.entry_tuple_mul (F.args_tuple_mul_2 _ _) (ba4 l its.toArray n dd sl k t h2 h3 he (by rw[ap,← hl];exact hz)) ⟨ho,?_⟩⟩)
 rw[bh9];refine⟨.ref _,_,I.laid (t':=s.toks) (o:=.tup (ax k.toNat xs).flatten) (λb ob q=>fw _ q) (aj _) ⟨?_,_,r.rep k.toNat,aJ4.new _ _⟩,rfl,q _<|I.hok.fresh (aj _)⟩;rw[aT9,cz];exact hz
noncomputable def ac2(x y:D):Option D:=match x,y with
 | .int i,.int j=>if F4 i/\F4 j then Z (.int<|i*j) else O
 | .tuple xs,.int k=>if xs.isEmpty=false/\2<=k/\k < 1000000/\xs.length*k.toNat<=16777216 then Z (.tuple (ax k.toNat xs).flatten) else O
 | _,_=>O
def aT2:OpD X (fg .Mult) ac2:=λx y z h=>by
 unfold ac2 at h;split at h
 .exact cB2 _ _ z (by unfold cD1;exact h)
 .split at h
  .rename_i xs k c;cases h;refine OpR.imp ce4 λvx vy H Q ⟨Hf,s,r1,r2,kk⟩=>?_
   obtain⟨a,vs,rfl,h2,h3⟩:=r1;refine⟨a,k,vs,rfl,r2,D5 s h2,?_,c.2.1,c.2.2.1,by rw[h3.length,eV];exact c.2.2.2,λp hp=>?_⟩
   .intro e;subst e;have:=h3.length;cases xs with
    | nil=>exact absurd c.1 (by simp)
    | cons a b=>simp at this
   .exact kk _ _ _ (Grow.laid s hp) ⟨p,_,rfl,SqT.of C5,(h3.flatten k.toNat).mono<|E4 (s.free hp)⟩
  .cases h
 .cases h
noncomputable def ax2(f:DE):DE:=λρ=>(f ρ).bind λd=>match d with
 | .int i=>Z<|.int (-i)
 | _=>O
def bj7(h:JE X a f):JE X (.UnaryOp .USub a pos) (ax2 f):=λρ d q=>by
 obtain⟨x,e1,e2⟩:=xbm q;cases x with
 | int i =>
  cases e2;exact C3 (cR9 cv3<|h ρ _ e1) λσ H Q ⟨H0,Hf,s,sl,k⟩=>⟨H0,Hf,s,sl,λv H1 Hf1 g1 r1=>⟨_,r1,k _ H1 Hf1 g1 rfl⟩⟩
 | _=>cases e2
noncomputable def isB(x y:D):Option D:=match y with
 | .bool b=>(match x with
  | .bool c=>Z<|.bool (c==b)
  | .dict _=>O
  | _=>Z (.bool false))
 | .none=>isN x .none
 | _=>O
noncomputable def aw2(x y:D):Option D:=match y with
 | .bool b=>(match x with
  | .bool c=>Z<|.bool (!(c==b))
  | .dict _=>O
  | _=>Z (.bool true))
 | .none=>cC0 x .none
 | _=>O
def cT2:OpD X (eW .Is) isB:=λx y z h=>by
 cases y with
 | none=>exact cB4 x .none z h
 | bool b =>
  intro pins s σ H vx vy v u Q I rx ry ⟨Hf,ss,r1,r2,k⟩;cases r2;cases ry;have fin:∀c,z=.bool c->(v==Value.bool b)=c->EP X pins σ Q (.bool<|v==Value.bool b) s:=λc e1 e2=>by rw[e2];subst e1;exact⟨.bl c,H,I,rfl,k _ H Hf (Grow.refl ss) rfl⟩
  cases x with
  | none=>cases r1;cases rx;cases h;exact wpAny_is_plain rfl<|fin _ rfl rfl
  | bool c=>cases r1;cases rx;cases h;exact wpAny_is_plain rfl (fin _ rfl (by cases c<;>cases b<;>rfl))
  | int i=>cases r1;obtain⟨t,rfl⟩:=rx;cases h;exact wpAny_is_plain rfl<|fin _ rfl rfl
  | str i=>cases r1;obtain⟨t,rfl⟩:=rx;cases h;exact wpAny_is_plain rfl<|fin _ rfl rfl
  | tuple ds=>obtain⟨a,vs,rfl,_⟩:=r1;cases rx;cases h;exact wpAny_is_plain rfl<|fin _ rfl rfl
  | list ds=>obtain⟨a,vs,rfl,_⟩:=r1;cases rx;cases h;exact wpAny_is_plain rfl<|fin _ rfl rfl
  | dict ds=>cases h
 | _=>cases h
def bL7:OpD X (eW .IsNot) aw2:=λx y z h=>by
 cases y with
 | none=>exact cf5 x .none z h
 | bool b =>
  intro pins s σ H vx vy v u Q I rx ry ⟨Hf,ss,r1,r2,k⟩;cases r2;cases ry;have fin:∀c,z=.bool c->(!(v==Value.bool b))=c->EP X pins σ Q (.bool (!(v==Value.bool b))) s:=λc e1 e2=>by rw[e2];subst e1;exact⟨.bl c,H,I,rfl,k _ H Hf (Grow.refl ss) rfl⟩
  cases x with
  | none=>cases r1;cases rx;cases h;exact wpAny_isNot_plain rfl<|fin _ rfl rfl
  | bool c=>cases r1;cases rx;cases h;exact wpAny_isNot_plain rfl (fin _ rfl (by cases c<;>cases b<;>rfl))
  | int i=>cases r1;obtain⟨t,rfl⟩:=rx;cases h;exact wpAny_isNot_plain rfl<|fin _ rfl rfl
  | str i=>cases r1;obtain⟨t,rfl⟩:=rx;cases h;exact wpAny_isNot_plain rfl<|fin _ rfl rfl
  | tuple ds=>obtain⟨a,vs,rfl,_⟩:=r1;cases rx;cases h;exact wpAny_isNot_plain rfl<|fin _ rfl rfl
  | list ds=>obtain⟨a,vs,rfl,_⟩:=r1;cases rx;cases h;exact wpAny_isNot_plain rfl<|fin _ rfl rfl
  | dict ds=>cases h
 | _=>cases h
def bf5(K:ad)(d:D)(u:fM):Prop:=∃v,D9 v u/\∀H:Hp,Rep K H d v
def cH9(r:bf5 X.K d u)(hg:Gl X x)(hm:X.mg x=Z u)(hd:(x==("__debug__" : Str))=false:=by decide):JE X (.Name x pos) (dC d):=λρ d' q=>by
 cases q;obtain⟨v,rv,rp⟩:=r;exact C3 (cd7 hg hm rv hd) λσ H Q ⟨H0,Hf,s,sl,k⟩=>k _ H Hf (Grow.refl s)<|rp Hf
noncomputable def qN(f:Rho->Option (List D)):Rho->Option (Bool×List D):=λρ=>(f ρ).map λds=>(false,ds)
def cG4(h:JN X e f):JQ X e (qN f):=bP0 h
noncomputable def U7(f:Rho->Option (Bool×List D)):DE:=λρ=>(f ρ).bind λq=>if q.1=true then O else Z (.tuple q.2)
def ci9(hg:Gl X "tuple")(hm:X.mg "tuple" = O)(h:JQ X e f)(he:eT [e] X.env=[(false,eval e X.env)]:=by rfl):JE X (.Call (.Name "tuple" p) [e] [] pos) (U7 f):=bP6 hg hm h (he:=he)
end
def bE8(l b:fO)(items items2:Array fM)(n n2:Nat)(dd dd2:Option fO)(sl sl2:Array (Option fM))(hz:items.size+items2.size<=eU):
  Meets (Builtin.«list.__add__» ⟨[.ref l,.ref b],[]⟩) (λ_ R s=>s.heap.get? l=Z ⟨.type "list", dd,.seq items n,sl⟩/\s.heap.get? b=Z ⟨.type "list", dd2,.seq items2 n2,sl2⟩/\R (.ok<|.ret (fI s.heap.objs.size)) { s with heap:=s.heap.push { cls:=Value.type "list", data:=Data.seq (items++items2) } }) :=
 .of_wp λprog w A R s h=>by
  obtain⟨hp,g,d,tk,os⟩:=s;obtain⟨hl,hb,h⟩:=h;have hsub:isSubtype (.type "list") (.type "list")=pure true:=by rw[isSubtype_type];kernel_rfl
  have hsz:=hz
  wp_walk
  exact⟨_,rfl,h⟩
section
variable {X:Cx}
def bq8:OpR X (fg .Add) (λx y H Q=>∃a b xs ys,x=.ref a/\y=.ref b/\SqL X.K H a xs/\SqL X.K H b ys/\xs.length+ys.length<=eU/\∀p,H p=O->Q (.ref p) (upd H p<|.lst (xs++ys))):=by
 intro pins s σ H x y v u Q I rx ry h;obtain⟨a,b,xs,ys,rfl,rfl,ha,hb,hz,q⟩:=h;cases rx;cases ry;obtain⟨its,r1,p1,_⟩:=I.list ha;obtain⟨its2,r2,p2,_⟩:=I.list hb;obtain⟨⟨cls,dd,data,sl⟩,ho,hc,n,hd⟩:=p1.isList;obtain⟨⟨cls2,dd2,data2,sl2⟩,ho2,hc2,n2,hd2⟩:=p2.isList;simp only at hc hd hc2 hd2;subst hc hd hc2 hd2;have l1:=r1.length;have l2:=r2.length;refine concat_meets ⟨_,ho,rfl⟩ ⟨_,ho2,rfl⟩ noFill_list_add seq_list_add PySem.F.slot_list_add PySem.F.entry_list_add (PySem.F.args_list_add_2 _ _) (bE8 a b its.toArray its2.toArray n n2 dd dd2 sl sl2 (by simp only[ap];grind)) ⟨ho,ho2,?_⟩;have ea:its.toArray++its2.toArray=(its++its2).toArray:=by simp
 rw[ea];exact⟨.ref _,_,I.lnew (t':=s.toks) (r1.append r2) (by rw[ae];grind),rfl,q _ I.fresh⟩
noncomputable def B0(x y:D):Option D:=match x,y with
 | .list xs,.list ys=>if xs.length+ys.length<=16777216 then Z (.list<|xs++ys) else O
 | x,y=>ac6 x y
def br0:OpD X (fg .Add) B0:=λx y z h=>by
 unfold B0 at h;split at h
 .split at h
  .rename_i c;cases h;refine OpR.imp bq8 λvx vy H Q ⟨Hf,s,r1,r2,k⟩=>?_
   obtain⟨a,vs,rfl,h2,h3⟩:=r1;obtain⟨b,us,rfl,h5,h6⟩:=r2;refine⟨a,b,vs,us,rfl,rfl,F7 s h2,F7 s h5,by rw[h3.length,h6.length,eV];exact c,λp hp=>?_⟩;exact k _ _ _ (Grow.laid s hp) ⟨p,vs++us,rfl,SqL.of C5,(h3.append h6).mono<|E4 (s.free hp)⟩
  .cases h
 .exact bL8 _ _ z h
noncomputable def cr8(f:DE):DE:=λρ=>(f ρ).bind λd=>match d with
 | .tuple xs=>Z<|.tuple xs.reverse
 | _=>O
end
section
variable {prog:Program}{w:World}{A:Around}{E:Value->Shared->Prop}{s:Shared}
def bn5(n:Nat):Builtin.Slice.sliceAdjust O O (-1) (n:Int)=((n:Int) - 1,-1):=by
 unfold Builtin.Slice.sliceAdjust;have h1:(-1:Int) < 0:=by omega
 simp only[h1,if_true]
def bi1(n:Nat):Builtin.Slice.slicePlaces ((n:Int) - 1) (-1) (-1)=n:=by
 unfold Builtin.Slice.slicePlaces;have h1:¬(-1:Int) > 0:=by grind
 have h2:-(-1:Int)=1:=by grind
 simp only[h1,if_false,h2,Int.ediv_one];split<;>grind
def av3{sl:fO}{t:Tok}{n:Nat}{Q:Int×Int×Nat->fN->Prop}(hs:s.heap.IsSliceOf sl .none .none (.int (-1) t))
  (h:Q ((n:Int) - 1,-1,n) s):ft (fu prog w) A (Builtin.Slice.sliceApplied (.ref sl)<|pure (n:Int)) Q E s:=by
 obtain⟨os,hos,hcs,hds⟩:=id hs;unfold Builtin.Slice.sliceApplied Builtin.Slice.sliceFields;refine eK (eK<|eS hos hds (x:=.none) rfl (eK<|eS hos hds (x:=.none) rfl (eK<|eS hos hds (x:=.int (-1) t) rfl (eM ?_))));refine eK (slicePart_int ?_);show ft _ _ (if((-1:Int)==0)=true then _ else _) _ _ s;rw[if_neg (by decide)];refine eK (slicePart_none<|eK (slicePart_none<|eK (eM ?_)));show ft _ _ (match Builtin.Slice.sliceAdjust O O (-1) (n:Int) with|(lo,hi)=>pure (lo,(-1:Int),Builtin.Slice.slicePlaces lo hi (-1))) _ _ s;rw[bn5 n];show ft _ _ (pure ((n:Int) - 1,(-1:Int),Builtin.Slice.slicePlaces ((n:Int) - 1) (-1) (-1))) _ _ s;rw[bi1];exact eM h
theorem aZ5{α:Type}:∀l:List α,(ay l.length).filterMap (λk=>l[k]?)=l
 | []=>rfl
 | a::l=>by
  rw[aD,dR,bU,List.filterMap_map];simp only[cM]
  congr 1
  exact aZ5 l
theorem bc0{α β:Type}{f g:α->Option β}:∀{l:List α},(∀x∈l,f x=g x)->l.filterMap f=l.filterMap g
 | [],_=>rfl
 | a::l,h=>by rw[bU,bU,h a (ah ..),bc0 λx hx=>h x (xmm _ hx)]
def bK1(xs:Array fM):((ay xs.size).filterMap λ(k:Nat)=>xs[(((xs.size:Int) - 1)+(k:Int) * -1).toNat]?).toArray=xs.toList.reverse.toArray:=by
 congr 1
 have e:∀k∈ay xs.size,xs[(((xs.size:Int) - 1)+(k:Int) * -1).toNat]? = xs.toList.reverse[k]?:=by
  intro k hk;have hk:=aR.mp hk;have:(((xs.size:Int) - 1)+(k:Int) * -1).toNat=xs.size - 1 - k:=by grind
  rw[this,List.getElem?_reverse (by rw[aV];exact hk),aV,eF]
 rw[bc0 e];have:=aZ5 xs.toList.reverse;rw[dt,aV]at this;exact this
def as1(ht:IsTup s.heap t items)(hs:s.heap.IsSliceOf sl .none .none (.int (-1) k))
  (h:Q (.ref s.heap.objs.size) { s with heap:=s.heap.push { cls:=.type "tuple", data:=.seq items.toList.reverse.toArray } })
  (hsz:items.size<=eU):ft (fu prog w) A (getItem (.ref t)<|.ref sl) Q E s:=by
 have htake:sizeOk (.seq items.toList.reverse.toArray):=by
  show items.toList.reverse.toArray.size<=eU;rw[ap,dt,aV];omega
 obtain⟨os,hos,hcs,hds⟩:=id hs;have hTs:s.TypeIs (.ref sl) "slice" := ⟨os,hos,hcs⟩;unfold getItem
 try with_reducible refine wpAny_holding ?_
 first|refine eK (eM ?_)|skip
 refine eK (wpAny_sequenceKey ht.typeIs (by decide) ?_)
 refine eK (wpAny_callSpecial?_slot (name:=Str.ofString "__getitem__") ht.typeIs PyProof.Rows.slot_tuple_getitem
  (wpAny_call_entry PyProof.Rows.slot_tuple_getitem ht.typeIs entry_tuple_getitem ?_ (args_tuple_getitem _ _)))
 show ft _ _ (Builtin.Tuple.tupleItemsOf (.ref t) >>= _) _ _ s;refine eK (tupleItemsOf_ ht ?_);refine eK (wpAny_typeOf hTs ?_);rw[if_pos (by decide)];refine eK<|av3 hs ?_
 have hno:¬((((items.size:Int) - 1)==0&&(-1:Int)==1&&items.size==items.size)=true):=by
  have:((-1:Int)==1)=false:=rfl;rw[this];simp
 show ft _ _ (if(((items.size:Int) - 1)==0&&(-1:Int)==1&&items.size==items.size)=true then _ else _) _ _ s;rw[if_neg hno,bK1]
 first
  | exact eK (m:=Builtin.Tuple.tupleExact _)<|eQ (eM ⟨_,rfl,eM h⟩) htake
  | exact eK (m:=Builtin.Tuple.tupleExact _)<|eQ (eK<|eM (eM ⟨_,rfl,eM h⟩)) htake
  | exact eK<|eK (m:=Builtin.Tuple.tupleExact _) (eQ (eM<|eM ⟨_,rfl,eM h⟩) htake)
  | exact eK<|eK (m:=Builtin.Tuple.tupleExact _) (eQ (eM ⟨_,rfl,eM h⟩) htake)
end
section
variable {X:Cx}{e st:Expr}{te ts:TE}{p2 pos:Pos}
theorem aY2:∀{xs:List V}{us:List fM},E1 xs us->E1 xs.reverse us.reverse
 | [],[],h=>h
 | x::xs,u::us,h=>by
  cases h with
  | cons a b=>rw[cO,cO];exact(aY2 b).append (.cons a .nil)
def cz7(he:PE X e te)(hs:PE X st ts):PE X (.Subscript e (.Slice O O (Z st) p2) pos)
  (λσ H Q=>te σ H λx H1=>ts σ H1 λy H2=>∃a xs,x=.ref a/\y=.int (-1)/\SqT X.K H2 a xs/\∀p,H2 p=O->Q (.ref p) (upd H2 p<|.tup xs.reverse)):=by
 intro pins s σ H Q I h;refine Subscript_ (thn (he pins s σ H _ I h) λv s1 ⟨x,H1,I1,r1,q1⟩=>?_);refine wpAny_Slice ?_;rw[evalPart_none];refine eM (eM ?_);rw[evalPart_some];refine thn (hs pins s1 σ H1 _ I1 q1) λvs s3 ⟨y,H3,I3,r3,a,xs,e1,e2,hx,q⟩=>?_
 subst e1 e2;cases r1;obtain⟨tk,rfl⟩:=r3;have I4:Inv X pins σ H3 { s3 with heap:=s3.heap.push { cls:=.type "slice", data:=.fields #[.none,.none,.int (-1) tk] } }:=I3.kept (t':=s3.toks) λb ob q=>fw _ q
 obtain⟨its,r,ht,hz⟩:=I4.tuple hx;have hlen:its.toArray.size=xs.length:=by rw[ap];exact r.length.symm
 show ft (fu X.prog X.w) X.A (subscriptTail e (.Slice O O (Z st) p2) (.ref a)<|.ref s3.heap.objs.size) (EP X pins σ Q) X.xe { s3 with heap:=s3.heap.push { cls:=.type "slice", data:=.fields #[.none,.none,.int (-1) tk] } };refine tail_any (ops:=[.ref a,.ref s3.heap.objs.size]) ht.typeIs PyProof.Rows.slot_tuple_getitem.lookup ?_ (by with_unfolding_all rfl);refine as1 ht (Heap.IsSliceOf.new ..) ?_ (by rw[hlen];exact hz);refine⟨.ref _,_,I4.laid (t':=s3.toks) (o:=.tup xs.reverse) (λb ob q=>fw _ q) (aj _) ?_,rfl,q _<|I4.hok.fresh (aj _)⟩;exact⟨by rw[dt];exact hz,_,aY2 r,aJ4.new _ _⟩
def bI8{K:ad}{H:Hp}{ds:List D}{vs:List V}(h:Reps K H ds vs):Reps K H ds.reverse vs.reverse:=by
 induction ds generalizing vs with
 | nil=>cases vs with
  | nil=>exact h
  | cons _ _=>exact absurd h.length (by simp)
 | cons d ds ih=>cases vs with
  | nil=>exact absurd h.length (by simp)
  | cons v vs =>
   obtain⟨v',r',e,h1,h2⟩:=h;cases e;rw[cO,cO];exact(ih h2).append ⟨_,_,rfl,h1,rfl⟩
def cj0(ha:JE X a f)(hs:JE X st (ax2<|dC (.int 1))):JE X (.Subscript a (.Slice O O (Z st) p2) pos) (cr8 f):=λρ d q=>by
 obtain⟨x,e1,q⟩:=xbm q;cases x with
 | tuple xs =>
  cases q;refine C3 (cz7 (ha ρ _ e1)<|hs ρ (.int (-1)) rfl) λσ H Q ⟨H0,Hf,s,sl,k⟩=>?_
  refine⟨H0,Hf,s,sl,λv H1 Hf1 g1 ⟨p,vs,q1,q2,q3⟩=>⟨H0,Hf1,g1.sub,sl.grow g1,λu H2 Hf2 g2 r2=>?_⟩⟩;subst q1;cases r2;have q2':=D5 g2.ext q2;have q3':=q3.mono g2.ext;refine⟨p,vs,rfl,rfl,D5 g2.sub q2',λp' hp=>?_⟩;exact k _ _ _ ((g1.trans g2).trans<|Grow.laid g2.sub hp) ⟨p',_,rfl,SqT.of C5,(bI8 q3').mono<|E4 (g2.sub.free hp)⟩
 | _=>cases q
end
section
variable {X:Cx}
noncomputable def atS(x:Str)(i:Int):Option D:=if x.length<=16777216 then(atI x.cps.toList i).map λc=>.str ⟨#[c]⟩ else O
noncomputable def ao5(f g:DE):DE:=λρ=>(f ρ).bind λx=>(g ρ).bind λi=>match x,i with
 | .str x,.int i=>atS x i
 | _,_=>O
def cH5(ha:JE X a f)(hb:JE X b g)(hs:au0 b:=by intro _ _;rfl):JE X (.Subscript a b pos) (ao5 f g):=λρ d q=>by
 obtain⟨x,h1,q⟩:=xbm q;obtain⟨y,h2,h3⟩:=xbm q;split at h3
 .rename_i x i;unfold atS at h3;split at h3
  .rename_i hz;obtain⟨c,e1,e2⟩:=xmo h3;subst e2;refine C3 (cp6 bR1 (ha ρ _ h1) (hb ρ _ h2) hs) λσ H Q ⟨H0,Hf,s,sl,k⟩=>?_
   refine⟨H0,Hf,s,sl,λv H1 Hf1 g1 r1=>⟨H0,Hf1,g1.sub,sl.grow g1,λu H2 Hf2 g2 r2=>?_⟩⟩;exact .inr (.inr ⟨x,i,c,r1,r2,by rw[eV];exact hz,e1,k _ H2 Hf2 (g1.trans g2) rfl⟩)
  .cases h3
 .cases h3
noncomputable def D6(f:DE)(lo hi:Rho->Option (Option Int)):DE:=λρ=>(f ρ).bind λd=>(lo ρ).bind λl=>(hi ρ).bind λh=>match d with
 | .tuple xs=>Z<|.tuple (R1 xs l h)
 | .list xs=>Z<|.list (R1 xs l h)
 | _=>O
def cH2{a:Expr}{lo hi:Option Expr}{f:DE}{l h:Rho->Option (Option Int)}{pos p2:Pos}(ha:JE X a f)(hl:JO X lo l)(hh:JO X hi h):JE X (.Subscript a (.Slice lo hi O p2) pos) (D6 f l h):=λρ d q=>by
 obtain⟨x,e1,q⟩:=xbm q;obtain⟨y,e2,q⟩:=xbm q;obtain⟨z,e3,q⟩:=xbm q;cases x with
 | tuple xs =>
  cases q;refine bP8 ha hl hh ρ _ ?_;unfold be1;rw[e1,cW,e2,cW,e3,cW]
 | list xs =>
  cases q;refine C3 (ar2 bp4 (ha ρ _ e1) (hl ρ y e2)<|hh ρ z e3) λσ H Q ⟨H0,Hf,s,sl,k⟩=>?_
  refine⟨H0,Hf,s,sl,λv H1 Hf1 g1 ⟨p,vs,q1,q2,q3⟩=>⟨H0,Hf1,g1.sub,sl.grow g1,λH2 Hf2 g2=>⟨H0,Hf2,g2.sub,sl.grow<|g1.trans g2,λH3 Hf3 g3=>?_⟩⟩⟩;subst q1;have q2':=F7 (g2.trans g3).ext q2;have q3':=q3.mono (g2.trans g3).ext;refine⟨p,vs,rfl,F7 g3.sub q2',λp' hp=>?_⟩;exact k _ _ _ (((g1.trans g2).trans g3).trans<|Grow.laid g3.sub hp) ⟨p',_,rfl,SqL.of C5,(aG2 q3' y z).mono<|E4 (g3.sub.free hp)⟩
 | _=>cases q
end
section
variable {X:Cx}
theorem ah7:∀{ys:List Str}{us:List fM},E1 (ys.map V.str) us->∃l:List (Str×Tok),us=strValues l/\l.map (·.1)=ys
 | [],[],_=>⟨[],rfl,rfl⟩
 | y::ys,u::us,h=>by
  cases h with
  | cons a b =>
   obtain⟨t,rfl⟩:=a;obtain⟨l,rfl,rfl⟩:=ah7 b;exact⟨(y,t)::l,rfl,rfl⟩
noncomputable def ar6(sep:Str)(ys:List Str):Nat:=ys.toArray.foldl (λn y=>n+y.length+sep.length) 0
noncomputable def cR3(K:ad):V->List V->Hp->VK->Prop:=λx vs H Q=>∃sep p ys,x=.str sep/\vs=[.ref p]/\SqL K H p (ys.map V.str)/\ar6 sep ys<=eU/\(Builtin.Str.glued sep ys).length<=eU/\Q (.str<|Builtin.Str.glued sep ys) H
def cg6:MtR X "str.join" (cR3 X.K):=by
 intro pins s σ H x vs v us Q I rx rv h;obtain⟨sep,p,ys,rfl,rfl,hq,hz,hg,q⟩:=h;obtain⟨t,rfl⟩:=rx;obtain⟨u,rfl,ru⟩:=rv.one;cases ru;obtain⟨its,r,pl,_⟩:=I.list hq;obtain⟨l,rfl,rfl⟩:=ah7 r;refine fo F.slot_str_join (typeIs_str s sep t) F.entry_str_join (F.args_str_join_2 _ _) (meets_str_join_list sep t p l ?_) ⟨pl.isList,?_⟩
 .show decide (ar6 sep (l.map (·.1)) > eU)=false;exact decide_eq_false (by grind)
 .match l,q,hg with
  | [],q,hg=>exact⟨hg,.str _,H,I.tok _,⟨_,rfl⟩,q⟩
  | [a],q,_=>exact⟨.str _,H,I,⟨_,rfl⟩,q⟩
  | a::b::r,q,hg=>exact⟨hg,.str _,H,I.tok _,⟨_,rfl⟩,q⟩
noncomputable def ay9:List D->Option (List Str)
 | []=>Z []
 | .str x::r=>(ay9 r).map λys=>x::ys
 | _::_=>O
theorem av5{K:ad}{H:Hp}:∀{ds:List D}{ys:List Str}{vs:List V},ay9 ds=Z ys->Reps K H ds vs->vs=ys.map V.str
 | [],ys,vs,h,r=>by cases h;exact r
 | .str x::ds,ys,vs,h,r=>by
  obtain⟨zs,e1,e2⟩:=xmo h;subst e2;obtain⟨v,r',e,h1,h2⟩:=r;subst e;rw[av5 e1 h2];cases h1;rfl
noncomputable def aI7(f:DE)(g:Rho->Option (Bool×List D)):DE:=λρ=>(f ρ).bind λs=>(g ρ).bind λq=>match s with
 | .str sep=>if q.1=true then O else(ay9 q.2).bind λys=>if ar6 sep ys<=16777216/\(Builtin.Str.glued sep ys).length<=16777216 then Z (.str<|Builtin.Str.glued sep ys) else O
 | _=>O
def cj3(ho:JE X o f)(h:JQ X e g)
  (hbase:fq o "join" X.env (eval o X.env)=eval o X.env:=by rfl)
  (hfew:((backTo cpos (eT [e] X.env)).all (λx=>!x.1)&&(backToKw cpos (keywordEach [] X.env)).all (λx=>x.1.isSome)
   && decide (([e]:List Expr).length+([]:List fh).length+(if([]:List fh).isEmpty then 0 else 1) < 30))=true:=by rfl)
  (hline:(apos.endLine==cpos.line)=true:=by rfl) (hs:eT [e] X.env=[(false,eval e X.env)]:=by rfl) :
  JE X (.Call (.Attribute o "join" apos) [e] [] cpos) (aI7 f g):=λρ d q=>by
 obtain⟨s,e1,q⟩:=xbm q;obtain⟨⟨t,ds⟩,e2,q⟩:=xbm q;cases s with
 | str sep =>
  cases t with
  | true=>simp at q
  | false =>
   simp only[be,if_false]at q;obtain⟨ys,e3,q⟩:=xbm q;split at q
   .rename_i hz;cases q;refine C3 (bq2 F.plainAttrs_str F.slot_str_join F.type_str_join cg6 (ho ρ _ e1) (E3 (h ρ false ds e2) J8 hs) hbase hfew hline hs) λσ H Q ⟨H0,Hf,s,sl,k⟩=>?_
    refine⟨H0,Hf,s,sl,λv H1 Hf1 g1 r1=>?_⟩;cases r1;refine⟨rfl,H0,Hf1,g1.sub,sl.grow g1,λw H2 Hf2 g2 ⟨p,vs,z1,z2,z3⟩=>?_⟩;subst z1;rw[av5 e3 z3]at z2;exact⟨sep,p,ys,rfl,rfl,z2,by rw[eV];exact hz.1,by rw[eV];exact hz.2,k _ H2 Hf2 (g1.trans g2) rfl⟩
   .cases q
 | _=>cases q
end
section
open PySem.SeqAt PySem.MeetsSeq PySem.MeetsSeq2 PySem.MeetsSeq3 PySem.SeqRoads2
open PySem.AutoSeq1 (wpAny_loadPart')
def aF1(l:fO)(items:Array fM)(n:Nat)(dd:Option fO)(sl:Array (Option fM))(x:fM)(e:Nat->Bool):
  Meets (Builtin.«tuple.__contains__» ⟨[.ref l,x],[]⟩)
   (λA R s=>s.heap.get? l=Z { cls:=.type "tuple", dict:=dd,data:=.seq items n,slots:=sl }/\(∀j (h:j < items.size),EqAt A.in1 s items[j] x (e j))/\R (.ok<|.ret (.bool<|(ay items.size).any e)) s) :=
 .of_wp λprog w A R s h=>by
  obtain⟨hp,g,d,tk,os⟩:=s;obtain⟨hl,he,h⟩:=h
  wp_walk using wpAny_loadPart' hl,wpAny_forIn_array _ (λG9 b s'=>b.1=O/\s'=⟨hp,g,d,tk,os⟩/\∃i,G9=items.toList.drop i/\R (.ok<|.ret (.bool<|((ay items.size).drop i).any e)) ⟨hp,g,d,tk,os⟩) _
  case turn =>
   rintro y G9 b s' ⟨hb,rfl,i,hz,hR⟩
   have hlt:i < items.toList.length:=by
    rcases bG i items.toList.length with h'|h'
    .exact h'
    .rw[cR h']at hz;cases hz
   have hi:i < items.size:=by simpa using hlt
   rw[bB hlt]at hz;injection hz with hy hrest
   have hy:y=items[i]:=by simpa using hy
   subst hy;have hd:(ay items.size).drop i=i::(ay items.size).drop (i+1):=by simp[bB,hi]
   rw[hd,bO]at hR;refine eK (he i hi prog w _ _ ?_);cases hy:e i with
   | true =>
    rw[hy]at hR
    wp_walk
    exact⟨_,rfl,by simpa using hR⟩
   | false =>
    rw[hy]at hR
    wp_walk
    exact⟨rfl,rfl,i+1,hrest,by simpa using hR⟩
  case fin =>
   rintro⟨b1,b2⟩ s' ⟨hb,rfl,i,hz,hR⟩
   simp only at hb;subst hb
   have hge:items.size<=i:=by
    rcases bG i items.toList.length with h'|h'
    .rw[bB h']at hz;cases hz
    .simpa using h'
   rw[cR (by simpa using hge)]at hR
   wp_walk
   exact⟨_,rfl,by simpa using hR⟩
  case h =>exact⟨rfl,rfl,0,by simp,by simpa using h⟩
end
section
variable {X:Cx}
noncomputable def M1:D->Bool
 | .none=>true
 | .bool _=>true
 | .int _=>true
 | .str _=>true
 | _=>false
noncomputable def toV:D->V
 | .none=>.non
 | .bool b=>.bl b
 | .int i=>.int i
 | .str x=>.str x
 | _=>.non
def x5{K:ad}{H:Hp}{d:D}{v:V}(f:M1 d=true)(r:Rep K H d v):v=toV d/\al9 v=true:=by
 cases d with
 | none=>cases r;exact⟨rfl,rfl⟩
 | bool b=>cases r;exact⟨rfl,rfl⟩
 | int i=>cases r;exact⟨rfl,rfl⟩
 | str x=>cases r;exact⟨rfl,rfl⟩
 | tuple _=>cases f
 | list _=>cases f
 | dict _=>cases f
theorem ah9{K:ad}{H:Hp}:∀{ds:List D}{vs:List V},ds.all M1=true->Reps K H ds vs->vs=ds.map toV/\vs.all al9=true
 | [],vs,_,r=>by cases(show vs=[] from r);exact⟨rfl,rfl⟩
 | d::ds,vs,f,r=>by
  rw[bz,af]at f;obtain⟨v,r',e,h1,h2⟩:=r;subst e;obtain⟨e1,e2⟩:=x5 f.1 h1;obtain⟨e3,e4⟩:=ah9 f.2 h2;subst e1 e3;exact⟨rfl,by rw[bz,e2,e4];rfl⟩
noncomputable def isS:D->Bool
 | .str _=>true
 | _=>false
noncomputable def inD(neg:Bool)(x y:D):Option D:=match y with
 | .list ds=>if M1 x=true/\ds.all M1=true then Z (.bool (if neg then !inV (toV x) (ds.map toV) else inV (toV x) (ds.map toV))) else O
 | .tuple ds=>if M1 x=true/\ds.all M1=true then Z (.bool (if neg then !inV (toV x) (ds.map toV) else inV (toV x) (ds.map toV))) else if M1 x=false/\fC x=true/\ds.all isS=true then Z (.bool neg) else if fC x=true/\x.depth<=60/\ds.all fC=true then Z (.bool (if neg then !(ds.any λy=>fD y x) else ds.any λy=>fD y x)) else O
 | _=>O
def cl1(f:M1 x=false)(sh:fC x=true)(r:Reads s.heap v x as)(hu:A.units < cLine)(a:Str)(t:Tok):SeqAt.EqAt A s (.str a t) v false:=by
 cases r with
 | none=>cases f
 | bool _=>cases f
 | int _ _=>cases f
 | str _ _=>cases f
 | list h1 h2 h3 _=>exact SeqAt.EqAt.str_list a t ⟨_,h1,h2,_,h3⟩ hu
 | tuple h1 h2 h3 _=>exact SeqAt.EqAt.str_tuple a t ⟨_,h1,h2,_,h3⟩ hu
 | dict _ _ _ _ _=>exact absurd (SeqAt.canLay_of_shaped sh) (by simp[fH])
theorem bc1{K:ad}{H:Hp}:∀{ds:List D}{vs:List V}{us:List fM},ds.all isS=true->Reps K H ds vs->E1 vs us->∀y∈us,∃a t,y=Value.str a t
 | [],_,_,_,r,w=>by cases(show _=[] from r);cases w;intro y hy;cases hy
 | d::ds,_,_,f,r,w=>by
  rw[bz,af]at f;obtain⟨v,r',rfl,h1,h2⟩:=r;cases w with
  | cons w1 w2 =>
   intro y hy;rcases ao.mp hy with rfl|hy
   .cases d with
    | str a =>
     cases(show v=.str a from h1);obtain⟨t,e⟩:=w1;exact⟨a,t,e⟩
    | _=>cases f.1
   .exact bc1 f.2 h2 w2 y hy
def bR9{x:D}{ds:List D}{vx vy:V}{v u:fM}{pins:List (fO×Obj)}{s:fN}{σ:L2.St}{H Hf:Hp}{Q:fM->fN->Prop}(hu:X.A.units+64 < cLine)(f:M1 x=false)(sh:fC x=true)(a:ds.all isS=true)(I:L2.Inv X pins σ H s)(rx:D9 vx v)(ry:D9 vy u)(ss:E2 Hf H)(r1:Rep X.K Hf x vx)(r2:Rep X.K Hf (.tuple ds) vy):
  (Q (.bool false) s->ft (fu X.prog X.w) X.A (eW .In v u) Q X.xe s)/\(Q (.bool true) s->ft (fu X.prog X.w) X.A (eW .NotIn v u) Q X.xe s):=by
 obtain⟨p,vs,rfl,h2,h3⟩:=r2;obtain rfl:u=fI p:=ry;obtain⟨its,rv,pl,_⟩:=I.tuple (D5 ss h2);obtain⟨as,rd⟩:=Rep.reads I (r1.mono ss) rx;have st:=bc1 a h3 rv
 have he:∀y,y∈its.toArray->SeqAt.EqAt X.A.in1 s y v ((λ_=>false) y):=λy hy=>by
  obtain⟨b,t,rfl⟩:=st y (by simpa using hy);exact cl1 f sh rd (by show X.A.units+1 < _;grind) b t
 have no:its.toArray.any (λ_=>false)=false:=by simp
 refine⟨λq=>SeqAt.in_tupleAt (λ_=>false) pl he (by rw[no];exact q),λq=>SeqAt.notIn_tupleAt (λ_=>false) pl he (by rw[no];exact q)⟩
theorem cy1:∀{vs:List fM}{ds:List D}{as:List fO},ReadsAll h vs ds as->vs.length=ds.length/\∀(j:Nat) (hj:j < vs.length),∃bs,Reads h vs[j] (ds.getD j .none) bs
 | [],_,_,r=>by cases r;exact⟨rfl,λj hj=>absurd hj<|dS _⟩
 | v::vs,_,_,r=>by
  cases r with
  | cons r1 r2 =>
   obtain⟨h1,h2⟩:=cy1 r2;refine⟨by rw[aD,aD,h1],λj hj=>?_⟩;cases j with
   | zero=>exact⟨_,r1⟩
   | succ j=>exact h2 j (by simpa using hj)
def bE6{α:Type}(p:α->Bool)(z:α)(l:List α):(ay l.length).any (λj=>p<|l.getD j z)=l.any p:=by
 rw[bX,bv,bv];constructor
 .rintro⟨j,hj,h⟩
  have hj:=aR.mp hj;exact⟨l[j],aS hj,by simpa [hj] using h⟩
 .rintro⟨x,hx,h⟩
  obtain⟨j,hj,rfl⟩:=List.getElem_of_mem hx;exact⟨j,aR.mpr hj,by simpa [hj] using h⟩
def bp1(hu:X.A.units+64 < cLine)(sx:fC x=true)(dx:x.depth<=60)(sd:ds.all fC=true)(I:L2.Inv X pins σ H s)(rx:D9 vx v)(ss:E2 Hf H)(r1:Rep X.K Hf x vx)(h2:SqT X.K Hf p vs)(h3:Reps X.K Hf ds vs):
  ∃its:List fM,IsTup s.heap p its.toArray/\its.length=ds.length/\∀j (h:j < its.toArray.size),SeqAt.EqAt X.A.in1 s its.toArray[j] v (fD (ds.getD j .none) x):=by
 obtain⟨its,rv,pl,_⟩:=I.tuple (D5 ss h2);obtain⟨as,rd⟩:=Rep.reads I (r1.mono ss) rx;obtain⟨bs,ra⟩:=Reps.reads I (h3.mono ss) rv;obtain⟨e1,e2⟩:=cy1 ra;refine⟨its,pl,e1,λj hj=>?_⟩;have hj':j < its.length:=by simpa using hj
 obtain⟨cs,q⟩:=e2 j hj';have hd:j < ds.length:=by grind
 have sj:=aK.mp sd _ (aS hd);have ej:ds.getD j .none=ds[j]:=by simp[hd]
 rw[ej]at q ⊢;have:=SeqAt.eqAt_reads ds[j] x X.A.in1 s _ _ _ _ q rd (SeqAt.canLay_of_shaped sj) (SeqAt.canLay_of_shaped sx) (by show X.A.units+1+_ < _;have:=dF ds[j].depth x.depth;grind);simpa using this
def bR8(hu:X.A.units+64 < cLine)(sx:fC x=true)(dx:x.depth<=60)(sd:ds.all fC=true)(I:L2.Inv X pins σ H s)(rx:D9 vx v)(ry:D9 vy u)(ss:E2 Hf H)(r1:Rep X.K Hf x vx)(r2:Rep X.K Hf (.tuple ds) vy):
  (Q (.bool<|ds.any λy=>fD y x) s->ft (fu X.prog X.w) X.A (eW .In v u) Q X.xe s)/\(Q (.bool (!(ds.any λy=>fD y x))) s->ft (fu X.prog X.w) X.A (eW .NotIn v u) Q X.xe s):=by
 obtain⟨p,vs,rfl,h2,h3⟩:=r2;obtain rfl:u=fI p:=ry;obtain⟨its,pl,ln,he⟩:=bp1 hu sx dx sd I rx ss r1 h2 h3;obtain⟨⟨cls,dd,data,sl⟩,ho,hc,n,hd⟩:=id pl;simp only at hc hd;subst hc hd
 have ea:(ay its.toArray.size).any (λj=>fD (ds.getD j .none) x)=ds.any λy=>fD y x:=by
  rw[ap,ln];exact bE6 (λy=>fD y x) .none ds
 refine⟨λq=>SeqRoads2.in_meets ⟨_,ho,rfl⟩ F.slot_tuple_contains F.entry_tuple_contains (F.args_tuple_contains_2 _ _) (aF1 p its.toArray n dd sl v _) ⟨ho,he,_,rfl,by rw[ea];exact q⟩,
  λq=>SeqRoads2.notIn_meets ⟨_,ho,rfl⟩ F.slot_tuple_contains F.entry_tuple_contains (F.args_tuple_contains_2 _ _) (aF1 p its.toArray n dd sl v _) ⟨ho,he,_,rfl,by rw[ea];exact q⟩⟩
def bS0{op:CmpOp}{neg:Bool}(o:OpR X (eW op) (rIn X.K neg))(o2:∀x ds,M1 x=false->fC x=true->ds.all isS=true->OpR X (eW op) (λvx vy H Q=>∃Hf,E2 Hf H/\Rep X.K Hf x vx/\Rep X.K Hf (.tuple ds) vy/\∀v H' Hf',Grow H Hf H' Hf'->Rep X.K Hf' (.bool neg) v->Q v H'))
  (o3:∀x ds,fC x=true->x.depth<=60->ds.all fC=true->OpR X (eW op) (λvx vy H Q=>∃Hf,E2 Hf H/\Rep X.K Hf x vx/\Rep X.K Hf (.tuple ds) vy/\∀v H' Hf',Grow H Hf H' Hf'->Rep X.K Hf' (.bool (if neg then !(ds.any λy=>fD y x) else ds.any λy=>fD y x)) v->Q v H')):OpD X (eW op) (inD neg):=λx y z h=>by
 unfold inD at h;split at h
 .split at h
  .rename_i c;cases h;refine OpR.imp o λvx vy H Q ⟨Hf,s,r1,r2,k⟩=>?_
   obtain⟨p,vs,rfl,h2,h3⟩:=r2;obtain⟨e1,e2⟩:=x5 c.1 r1;obtain⟨e3,e4⟩:=ah9 c.2 h3;subst e1 e3;exact⟨p,_,rfl,.inl<|F7 s h2,e2,e4,k _ H Hf (Grow.refl s) rfl⟩
  .cases h
 .split at h
  .rename_i c;cases h;refine OpR.imp o λvx vy H Q ⟨Hf,s,r1,r2,k⟩=>?_
   obtain⟨p,vs,rfl,h2,h3⟩:=r2;obtain⟨e1,e2⟩:=x5 c.1 r1;obtain⟨e3,e4⟩:=ah9 c.2 h3;subst e1 e3;exact⟨p,_,rfl,.inr<|D5 s h2,e2,e4,k _ H Hf (Grow.refl s) rfl⟩
  .split at h
   .rename_i c;cases h;exact o2 _ _ c.1 c.2.1 c.2.2
   .split at h
    .rename_i c;cases h;exact o3 _ _ c.1 c.2.1 c.2.2
    .cases h
 .cases h
def cT3(hu:X.A.units+64 < cLine):OpD X (eW .In) (inD false):=bS0 bx8 (λx ds f sh a pins s σ H vx vy v u Q I rx ry ⟨Hf,ss,r1,r2,k⟩=>(bR9 hu f sh a I rx ry ss r1 r2).1 ⟨.bl false,H,I,rfl,k _ H Hf (Grow.refl ss) rfl⟩)
 λx ds sx dx sd pins s σ H vx vy v u Q I rx ry ⟨Hf,ss,r1,r2,k⟩=>(bR8 hu sx dx sd I rx ry ss r1 r2).1 ⟨.bl _,H,I,rfl,k _ H Hf (Grow.refl ss) rfl⟩
def bL6(hu:X.A.units+64 < cLine):OpD X (eW .NotIn) (inD true):=bS0 aT1 (λx ds f sh a pins s σ H vx vy v u Q I rx ry ⟨Hf,ss,r1,r2,k⟩=>(bR9 hu f sh a I rx ry ss r1 r2).2 ⟨.bl true,H,I,rfl,k _ H Hf (Grow.refl ss) rfl⟩)
 λx ds sx dx sd pins s σ H vx vy v u Q I rx ry ⟨Hf,ss,r1,r2,k⟩=>(bR8 hu sx dx sd I rx ry ss r1 r2).2 ⟨.bl _,H,I,rfl,k _ H Hf (Grow.refl ss) rfl⟩
def ck5(neg:Bool)(x:Str)(ys:List Str):inD neg (.str x) (.tuple<|ys.map fG)=Z (.bool (if neg then !(ys.any λy=>y==x) else ys.any λy=>y==x)):=by
 have f:(ys.map fG).all M1=true:=by
  rw[aK];intro d hd;obtain⟨y,_,rfl⟩:=aP.mp hd;rfl
 show(if M1 (.str x)=true/\(ys.map fG).all M1=true then _ else _)=_;rw[if_pos ⟨rfl,f⟩]
 have:inV (toV<|.str x) ((ys.map fG).map toV)=ys.any λy=>y==x:=by
  unfold inV;rw[bH,dH];rfl
 rw[this]
end
section
variable {X:Cx}
def cL6:ff "min" = Z (.builtin "min"):=by decide +kernel
def bY0:ff "max" = Z (.builtin "max"):=by decide +kernel
def bQ9(Fk:FnOk X.prog X.w X.K X.mg X.base CX0 k f fd ps (spF X.K 0 F))(hr:Room k X.A)(hg:Gl X x)(hm:X.mg x=Z (.ref f))(hk:aW X.K (.ref f)=true)(hb:Q3 X.K fd ps [])
  (hdb:(x==("__debug__" : Str))=false:=by decide):JE X (.Call (.Name x p) [] [] pos) (A3 F A2):=λρ d q=>by
 have h2:F []=Z d:=q;refine C3 (bK8 Fk hr hg hm hk hb .nil cp7 hdb) λσ H Q ⟨H0,Hf,s,sl,kk⟩=>?_
 exact⟨rfl,Hf,[],d,s,rfl,h2,λv H2 Hf2 g2 r2=>kk v H2 Hf2 g2 r2⟩
end
noncomputable def aQ3(K:ad):List D->List fM->Prop
 | [],us=>us=[]
 | d::ds,us=>∃u r,us=u::r/\bf5 K d u/\aQ3 K ds r
section
variable {K:PySem.W.Frag}
def V3:aQ3 K [] []:=rfl
def D4(h:bf5 K d u)(t:aQ3 K ds us):aQ3 K (d::ds) (u::us):=⟨u,us,rfl,h,t⟩
theorem aO2:∀{ds:List D}{us:List fM},aQ3 K ds us->∃vs,E1 vs us/\∀H:Hp,Reps K H ds vs
 | [],_,h=>by cases h;exact⟨[],.nil,λ_=>rfl⟩
 | d::ds,_,⟨u,r,e,⟨v,h1,h2⟩,h3⟩=>by
  subst e;obtain⟨vs,q1,q2⟩:=aO2 h3;exact⟨v::vs,.cons h1 q1,λH=>⟨v,vs,rfl,h2 H,q2 H⟩⟩
def R0(i:Int)(t:Tok):bf5 K (.int i) (.int i t):=⟨.int i,⟨t,rfl⟩,λ_=>rfl⟩
def i9(h:K.lookup a=Z o)(hc:o.cls=.type "tuple")(hn:o.dict=O)(hd:o.data=.seq its n)(hz:its.size<=1000)(hi:aQ3 K ds its.toList):bf5 K (.tuple ds) (.ref a):=by
 obtain⟨vs,q1,q2⟩:=aO2 hi;exact⟨.ref a,rfl,λH=>⟨a,vs,rfl,.inr ⟨o,its,n,h,hc,hn,hd,bT<|av2 hz,q1⟩,q2 H⟩⟩
end
def ba3(l:fO)(items:Array fM)(n:Nat)(dd:Option fO)(sl:Array (Option fM))(u:Tok):
  Meets (Builtin.«tuple.__mul__» ⟨[.ref l,.int 1 u],[]⟩) (λ_ R s=>s.heap.get? l=Z ⟨.type "tuple", dd,.seq items n,sl⟩/\R (.ok<|.ret (fI l)) s) :=
 .of_wp λprog w A R s h=>by
  obtain⟨hp,g,d,tk,os⟩:=s;obtain⟨hl,h⟩:=h
  wp_walk
  exact⟨_,rfl,h⟩
section
variable {X:Cx}
def bL1:OpR X (fg .Mult) (λx y H Q=>∃l xs,x=.ref l/\y=.int 1/\SqT X.K H l xs/\Q (.ref l) H):=by
 intro pins s σ H x y v u Q I rx ry h;obtain⟨l,xs,rfl,rfl,hq,q⟩:=h;cases rx;obtain⟨t,rfl⟩:=ry;obtain⟨its,r,p1,_⟩:=I.tuple hq;obtain⟨⟨cls,dd,data,sl⟩,ho,hc,n,hd⟩:=id p1;simp only at hc hd;subst hc hd
 exact wpAny_binaryOp_repeat_ref (T := "tuple") (U := "int") (by decide) ⟨_,ho,rfl⟩ (λs'=>typeIs_int s' 1 t) aA1 F.fills_int_mul F.slot_int_rmul aN5 F.slot_int_index.lookup
  (fo F.slot_int_rmul (typeIs_int s 1 t) F.entry_int_rmul (F.args_int_rmul_2 _ _) (aq7 1 t l its.toArray n dd sl) ⟨ho,rfl,⟨_,ho,rfl⟩,
   fo F.slot_tuple_mul ⟨_,ho,rfl⟩ F.entry_tuple_mul (F.args_tuple_mul_2 _ _) (ba3 l its.toArray n dd sl t) ⟨ho,⟨.ref l,H,I,rfl,q⟩⟩⟩)
def aS4(a:Int)(t:Tok)(l:fO)(items:Array fM)(n:Nat)(dd:Option fO)(sl:Array (Option fM)):
  Meets (Builtin.«int.__rmul__» ⟨[.int a t,.ref l],[]⟩) (λ_ R s=>s.heap.get? l=Z ⟨.type "list", dd,.seq items n,sl⟩/\R (.ok<|.ret Value.notImplemented) s):=Meets.of_wp λprog w A R s h=>by
 obtain⟨hp,g,d,tk,os⟩:=s;obtain⟨hl,h⟩:=h
 wp_walk
 exact⟨_,rfl,h⟩
def ba5(l:fO)(items:Array fM)(n:Nat)(dd:Option fO)(sl:Array (Option fM))(x:Int)(u:Tok)(c0:¬(!Builtin.List.listFitsIndex x)=true)(c1:¬items.size*x.toNat > (2 ^ 63 - 1) / 8)(c2:¬Builtin.List.listTooLong (items.size*x.toNat)=true):
  Meets (Builtin.«list.__mul__» ⟨[.ref l,.int x u],[]⟩) (λ_ R s=>s.heap.get? l=Z ⟨.type "list", dd,.seq items n,sl⟩/\R (.ok<|.ret (fI s.heap.objs.size)) { s with heap:=s.heap.push { cls:=Value.type "list", data:=Data.seq (cQ (λx1 x2=>x1++x2) #[] (ax (if items.isEmpty=true then 0 else x.toNat) items)) } }):=Meets.of_wp λprog w A R s h=>by
 obtain⟨hp,g,d,tk,os⟩:=s;obtain⟨hl,h⟩:=h;have hsz:=AutoListH.joined_fits c2
 wp_walk
 refine wpAny_ite_false (decide_eq_false<|Nat.not_lt.mpr hsz) ?_
 wp_walk
 exact⟨_,rfl,h⟩
def ce5:OpR X (fg .Mult) (λx y H Q=>∃l k xs,x=.ref l/\y=.int k/\SqL X.K H l xs/\0<=k/\k < 1000000/\xs.length*k.toNat<=eU/\∀p,H p=O->Q (.ref p) (upd H p<|.lst (ax k.toNat xs).flatten)):=by
 intro pins s σ H x y v u Q I rx ry h;obtain⟨l,k,xs,rfl,rfl,hq,h1,h2,hz,q⟩:=h;cases rx;obtain⟨t,rfl⟩:=ry;obtain⟨its,r,p1,_⟩:=I.list hq;obtain⟨⟨cls,dd,data,sl⟩,ho,hc,n,hd⟩:=p1.isList;simp only at hc hd;subst hc hd;have hl:=r.length;have hlen:its.toArray.size*k.toNat<=eU:=by rw[ap,← hl];exact hz
 have hcap:¬its.toArray.size*k.toNat > (2 ^ 63 - 1) / 8:=by
  have:(eU:Nat)<=(2 ^ 63 - 1) / 8:=by decide
  grind
 have hfit:¬(!Builtin.List.listFitsIndex k)=true:=by rw[fitsIndex_both (by grind) (by grind)];exact aE
 have hlong:¬Builtin.List.listTooLong (its.toArray.size*k.toNat)=true:=by rw[af8 hlen];exact aE
 have hnew:cQ (λx1 x2=>x1++x2) #[] (ax (if its.toArray.isEmpty=true then 0 else k.toNat) its.toArray)=(ax k.toNat its).flatten.toArray:=by
  rw[bh9];cases its with
  | nil=>simp
  | cons a r'=>rw[if_neg (by simp)]
 refine wpAny_binaryOp_repeat_ref (T := "list") (U := "int") (by decide) ⟨_,ho,rfl⟩ (λs'=>typeIs_int s' k t) noFill_list_mul F.fills_int_mul F.slot_int_rmul repeat_list F.slot_int_index.lookup
  (fo F.slot_int_rmul (typeIs_int s k t) F.entry_int_rmul (F.args_int_rmul_2 _ _) (aS4 k t l its.toArray n dd sl) ⟨ho,rfl,⟨_,ho,rfl⟩,
   fo F.slot_list_mul ⟨_,ho,rfl⟩ F.entry_list_mul (F.args_list_mul_2 _ _) (ba5 l its.toArray n dd sl k t hfit hcap hlong) ⟨ho,?_⟩⟩)
 rw[hnew];exact⟨.ref _,_,I.lnew (t':=s.toks) (r.rep k.toNat) (by rw[aT9,cz];exact hz),rfl,q _ I.fresh⟩
noncomputable def E9(x y:D):Option D:=match x,y with
 | .tuple xs,.int k=>if k=1 then Z (.tuple xs) else ac2 (.tuple xs) (.int k)
 | .list xs,.int k=>if 0<=k/\k < 1000000/\xs.length*k.toNat<=16777216 then Z (.list (ax k.toNat xs).flatten) else O
 | x,y=>ac2 x y
def bq9:OpD X (fg .Mult) E9:=λx y z h=>by
 unfold E9 at h;split at h
 .split at h
  .rename_i xs k c;subst c;cases h;refine OpR.imp bL1 λvx vy H Q ⟨Hf,s,r1,r2,kk⟩=>?_
   obtain⟨a,vs,rfl,h2,h3⟩:=r1;exact⟨a,vs,rfl,r2,D5 s h2,kk _ _ _ (Grow.refl s) ⟨a,vs,rfl,h2,h3⟩⟩
  .exact aT2 _ _ z h
 .split at h
  .rename_i xs k c;cases h;refine OpR.imp ce5 λvx vy H Q ⟨Hf,s,r1,r2,kk⟩=>?_
   obtain⟨a,vs,rfl,h2,h3⟩:=r1;refine⟨a,k,vs,rfl,r2,F7 s h2,c.1,c.2.1,by rw[h3.length,eV];exact c.2.2,λp hp=>?_⟩;exact kk _ _ _ (Grow.laid s hp) ⟨p,_,rfl,SqL.of C5,(h3.flatten k.toNat).mono<|E4 (s.free hp)⟩
  .cases h
 .exact aT2 _ _ z h
def ac5(i j:Int):B0 (.int i) (.int j)=Z (.int<|i+j):=rfl
noncomputable def bD4(f:Rho->Option (Bool×List D))(lo hi:Rho->Option (Option Int)):DE:=λρ=>(f ρ).bind λq=>(lo ρ).bind λl=>(hi ρ).bind λh=>if q.1=true then O else Z (.list<|R1 q.2 l h)
def cH1{a:Expr}{lo hi:Option Expr}{f:Rho->Option (Bool×List D)}{l h:Rho->Option (Option Int)}{pos p2:Pos}(ha:JQ X a f)(hl:JO X lo l)(hh:JO X hi h):JE X (.Subscript a (.Slice lo hi O p2) pos) (bD4 f l h):=λρ d q=>by
 obtain⟨⟨t,xs⟩,e1,q⟩:=xbm q;obtain⟨y,e2,q⟩:=xbm q;obtain⟨z,e3,q⟩:=xbm q;cases t with
 | true=>simp at q
 | false =>
  simp only[be,if_false]at q;cases q;refine C3 (ar2 bp4 (ha ρ _ _ e1) (hl ρ y e2)<|hh ρ z e3) λσ H Q ⟨H0,Hf,s,sl,k⟩=>?_
  refine⟨H0,Hf,s,sl,λv H1 Hf1 g1 ⟨p,vs,q1,q2,q3⟩=>⟨H0,Hf1,g1.sub,sl.grow g1,λH2 Hf2 g2=>⟨H0,Hf2,g2.sub,sl.grow<|g1.trans g2,λH3 Hf3 g3=>?_⟩⟩⟩;subst q1;have q3':=q3.mono (g2.trans g3).ext;refine⟨p,vs,rfl,F7 (g2.trans g3).big q2,λp' hp=>?_⟩;exact k _ _ _ (((g1.trans g2).trans g3).trans<|Grow.laid g3.sub hp) ⟨p',_,rfl,SqL.of C5,(aG2 q3' y z).mono<|E4 (g3.sub.free hp)⟩
noncomputable def B8:DS:=λ_=>O
def B7{st:Stmt}:JS X st B8:=λρ fl q=>by cases q
noncomputable def bh1(f:DE):Rho->Option Bool:=λρ=>(f ρ).bind M8
def bO4(o1:OpD X (eW op) h1)(o2:OpD X (eW op') h2)(ha:JE X a f)(hb:JE X b g)(hc:JE X c k)
  (hm:lastMarks [op,op'] [b,c]=false:=by with_unfolding_all rfl):JT X (.Compare a [op,op'] [b,c] pos) (bh1<|V4 h1 h2 f g k):=λρ d q=>by
 obtain⟨dd,q,ed⟩:=xbm q;have ed:=bv0 ed;subst ed;obtain⟨x,e1,q⟩:=xbm q;obtain⟨y,e2,q⟩:=xbm q;obtain⟨z,e3,q⟩:=xbm q;split at q
 .obtain⟨w,e4,e5⟩:=xbm q;refine aS8 (aZ0 (o1 x y _ e3) (o2 y w _ e5) (ha ρ x e1) (hb ρ y e2) (hc ρ w e4) hm) λσ H Q ⟨H0,Hf,s,sl,kk⟩=>?_
  refine⟨H0,Hf,s,sl,λv H1 Hf1 g1 r1=>⟨H0,Hf1,g1.sub,sl.grow g1,λu H2 Hf2 g2 r2=>⟨Hf2,g2.sub,r1.mono g2.ext,r2,λz' H3 Hf3 g3 r3=>?_⟩⟩⟩;refine⟨true,r3,aH6 ⟨H0,Hf3,g3.sub,sl.grow<|(g1.trans g2).trans g3,λw' H4 Hf4 g4 r4=>⟨Hf4,g4.sub,r2.mono (g3.trans g4).ext,r4,λz2 H5 Hf5 g5 r5=>?_⟩⟩⟩;exact⟨d,r5,kk H5 Hf5<|(((g1.trans g2).trans g3).trans g4).trans g5⟩
 .cases q;intro pins s σ H Q I ⟨H0,Hf,ss,sl,kk⟩;refine aZ0 (tc:=λ_ _ _=>False) (r':=λ_ _ _ _=>False) (o1 x y _ e3) (λ_ _ _ _ _ _ _ _ _ _ _ _ h=>h.elim) (ha ρ x e1) (hb ρ y e2) (λ_ _ _ _ _ _ h=>h.elim) hm pins s σ H Q I ?_;refine⟨H0,Hf,ss,sl,λv H1 Hf1 g1 r1=>⟨H0,Hf1,g1.sub,sl.grow g1,λu H2 Hf2 g2 r2=>⟨Hf2,g2.sub,r1.mono g2.ext,r2,λz' H3 Hf3 g3 r3=>?_⟩⟩⟩;exact⟨false,r3,aH7 ⟨false,rfl,kk H3 Hf3<|(g1.trans g2).trans g3⟩⟩
 .cases q
end
def bB0(hh:A.handled=O)(t:Bool)(it l:fO)(hne:l≠it)(xs:Array fM):Draws prog w A it [it,l] xs.size (λi x=>xs[i]? = Z x) (λi h=>SIt t h it l i/\SSq t h l xs):=by
 refine⟨λi h ⟨a,_⟩=>?_,λi h h' ⟨a,b⟩ k=>⟨a.ext λo e=>k it (by simp) o e,b.ext λo e=>k l (by simp) o e⟩,λi s Q E hi ⟨a,b⟩ hQ=>?_,λs Q E ⟨a,b⟩ hE=>bp5 hh a b (by simp) hE⟩
 .cases t with
  | true=>obtain⟨o,ho,_⟩:=a;exact⟨o,ho⟩
  | false=>obtain⟨o,ho,_⟩:=a;exact⟨o,ho⟩
 .have hx:xs[i]? = Z xs[i]:=by simp[hi]
  exact bH9 a b hx λh' c sb=>hQ _ h' s.toks hx ⟨c,b.ext λo e=>sb.extBut l o hne e⟩ sb
def bw9(l:fO)(items:Array fM)(n:Nat)(dd:Option fO)(sl:Array (Option fM)):
  Meets (Builtin.«enumerate.__new__» ⟨[.type "enumerate", .ref l],[]⟩) (λ_ R s=>s.heap.get? l=Z ⟨.type "tuple", dd,.seq items n,sl⟩ /\
   R (.ok (.ret (.ref (s.heap.push (aO7 true l)).objs.size))) { s with heap:=(s.heap.push (aO7 true l)).push { cls:=.type "enumerate", data:=.fields #[.none,.bool false,.ref s.heap.objs.size,rawInt 0,.none,.none] } }):=Meets.of_wp λprog w A R s h=>by
 obtain⟨hp,g,d,tk,os⟩:=s;obtain⟨hl,h⟩:=h;have hsub:=sub_enumerate;have q1:SSq true (Shared.heap ⟨hp,g,d,tk,os⟩) l items:=⟨_,hl,rfl,n,rfl⟩
 wp_walk using AutoSeq1.wpAny_loadPart' hl
 refine wpAny_stack_any λst=>eM ?_
 split
 .rename_i c _ _ _ _ _;cases(c==Value.type "enumerate")
  .wp_walk using AutoSeq1.wpAny_loadPart' hl,aF9 q1
   exact⟨_,rfl,h⟩
  .wp_walk using AutoSeq1.wpAny_loadPart' hl,aF9 q1
   exact⟨_,rfl,h⟩
 .wp_walk using AutoSeq1.wpAny_loadPart' hl,aF9 q1
  exact⟨_,rfl,h⟩
section
variable {prog:Program}{w:World}{A:Around}{E:Value->Shared->Prop}{s:Shared}{t:Bool}
def bh6(hl:SSq t s.heap l xs)
  (h:∀h',IsEnum h' (s.heap.objs.size+1) s.heap.objs.size 0 .none->SIt t h' s.heap.objs.size l 0->(∀c o,s.heap.get? c=Z o->h'.get? c=Z o)->Q (.ref<|s.heap.objs.size+1) { s with heap:=h' }) :
  ft (fu prog w) A (call (.type "enumerate") [.ref l]) Q E s:=by
 cases t with
 | false=>exact call_enumerate_list hl λh' a b _ d=>h h' a b d
 | true =>
  obtain⟨⟨cls,dd,data,sl⟩,ho,hc,n,hd⟩:=hl;simp only at hc hd;subst hc hd;refine callType_new F.called_enumerate (by decide) (F.typeCall_enumerate_1 _) (F.newCall_enumerate_1 _) (λobj=>F.args_object_init_2 obj _) F.entry_enumerate_new (bw9 l xs n dd sl) ⟨ho,?_⟩;have z1:(s.heap.push<|aO7 true l).objs.size=s.heap.objs.size+1:=Heap.size_push ..;show _/\_;rw[z1];have he:=fB (s.heap.push<|aO7 true l) (o:={ cls:=.type "enumerate", data:=.fields #[.none,.bool false,.ref s.heap.objs.size,rawInt 0,.none,.none] }) rfl;rw[z1]at he;exact⟨⟨_,he,rfl⟩,h _ he ((cb7 (h:=s.heap) (l:=l) true).ext λo e=>fw _ e) λc o e=>fw _<|fw _ e⟩
def bA7(hh:A.handled=O)(he:IsEnum s.heap e it i old)(hit:SIt t s.heap it l k)(hl:SSq t s.heap l xs)(hx:xs[k]? = O)
  (hQ:∀h',Heap.ExtBut it s.heap h'->Q O { s with heap:=h' }):ft (fu prog w) A (pyNext<|.ref e) Q E s:=by
 have hT:s.TypeIs (.ref e) "enumerate" := ⟨_,he,rfl⟩;unfold pyNext;refine eK (wpAny_attempt<|wpAny_callSpecial?_slot (name:=Str.ofString "__next__") hT F.slot_enumerate_next (wpAny_call_entry F.slot_enumerate_next hT F.entry_enumerate_next ?_<|F.args_enumerate_next_1 _));show ft _ _ (field (.ref e) 2 >>= _) _ _ _;refine eK (eS he rfl (x:=.ref it) rfl<|eK (bp5 hh hit hl hx λh' x he' hx'=>?_));obtain⟨o,ho,hc⟩:=hx';exact eK<|wpAny_isInstance (T := "StopIteration") (b:=true) ⟨o,ho,hc⟩ isSubtype_stop (eM<|hQ _ he')
end
noncomputable def Ite(K:ad)(t:Bool)(a:fO):It :=
  ⟨λi H=>∃xs x,Sq K t H a xs/\xs[i]? = Z x,
   λi H v H'=>∃T x,v=.ref T/\H T=O/\H'=upd H T (.tup [.int i,x])/\∀xs,Sq K t H a xs->xs[i]? = Z x,
   λi H=>∃xs,Sq K t H a xs/\xs.length<=i⟩
def bw4{P:fb}{w:World}{K:ad}{elts:List Expr}{k0:Nat}{pos:Pos}{t:Bool}{e it a:fO}(h1:e≠it)(h2:a≠e)(h3:a≠it):
  Turn P w K (.Tuple elts k0 pos) (Ite K t a) [e,it] e (λi h=>(∃old,IsEnum h e it i old)/\SIt t h it a i) where
 mem:=by simp
 obj:=λi h ⟨⟨old,he⟩,hi⟩ c hc=>by
  simp only[ao,aB,or_false]at hc;rcases hc with rfl|rfl
  .exact⟨_,he,λv q=>by cases q⟩
  .cases t with
   | true=>obtain⟨o,ho,_,hd⟩:=hi;exact⟨o,ho,λv q=>by rw[hd]at q;cases q⟩
   | false=>obtain⟨o,ho,_,hd⟩:=hi;exact⟨o,ho,λv q=>by rw[hd]at q;cases q⟩
 keep:=λi h h' ⟨⟨old,he⟩,hi⟩ hk=>⟨⟨old,hk e (by simp) _ he⟩,hi.ext λo q=>hk it (by simp) o q⟩
 item:=by
  intro X hP hw hK hc i pins s σ H E I hf ⟨⟨old,he⟩,hi⟩ hg;subst hP hw hK;obtain⟨xs,x,q1,ex⟩:=hg;obtain⟨us,r1,p1,lt1⟩:=aR9 I q1;obtain⟨ux,eux,rx⟩:=r1.get ex;have hlt:i < us.toArray.size:=by rw[ap];exact(ak.mp eux).1
  refine wpAny_pyNext_enum_itemD (bB0 (A:=X.A.in1) (I.ok.hd hc) t it a h3 us.toArray) he ⟨hi,p1⟩ hlt h1 (by simp only[ao,aB,or_false,not_or];exact⟨h1,λz=>h2 z.symm⟩) λy h' tk hy ho hst hT hsz hk=>⟨_,rfl,wpAny_letOwnedTupleGo_enum ho λh'' c1 c2=>?_⟩
  have ey:y=ux:=by
   have:us[i]? = Z y:=by simpa using hy
   rw[eux]at this;exact(bf.inj this).symm
  subst ey;have neT:∀c o,s.heap.get? c=Z o->c≠s.heap.objs.size:=λc o q=>aC<|fA q
  have up:∀c o,c≠e->h'.get? c=Z o->h''.get? c=Z o:=λc o n q=>c2.extBut c o n q
  refine⟨.ref s.heap.objs.size,upd H s.heap.objs.size<|.tup [.int i,x],aC3 (s:=s) (h':=h'') (t':=tk+1) (ch:=[e,it]) I hf (aj _) (λc u hc q=>?_) ?_,rfl,⟨_,x,rfl,I.hok.fresh<|aj _,rfl,λzs hz'=>by rw[cw6 I hz' q1];exact ex⟩,⟨⟨_,by simpa using c1⟩,hst.1.ext λo q=>up it o h1.symm q⟩,λc hc=>?_⟩
  .simp only[ao,aB,or_false,not_or]at hc;exact up c u hc.1<|hk c u hc.1 hc.2 q
  .refine⟨by show 2<=eU;decide,[.int i tk,y],.cons ⟨tk,rfl⟩<|.cons rx .nil,_,up _ _ ?_ hT,rfl,⟨_,rfl⟩,rfl⟩;exact λq=>neT e _ he q.symm
  .have lt:c < s.heap.objs.size:=by
    simp only[ao,aB,or_false]at hc;rcases hc with rfl|rfl
    .exact fA he
    .exact hi.lt
   rw[C6 (aC lt)];exact(hf c hc).1
 done:=by
  intro X hP hw hK hc i pins s σ H E I hf ⟨⟨old,he⟩,hi⟩ hg;subst hP hw hK;obtain⟨xs,q1,hl⟩:=hg;obtain⟨us,r1,p1,lt1⟩:=aR9 I q1;have l1:=r1.length;refine bA7 (I.ok.hd hc) he hi p1 (by simp;grind) λh' hk=>⟨rfl,bk1 (t':=s.toks) (ch:=[e,it]) I hf λc u hc q=>?_⟩
  simp only[ao,aB,or_false,not_or]at hc;exact hk c u hc.2 q
 self:=λ_ _ _ _ _ st h=>by
  obtain⟨⟨old,he⟩,_⟩:=st;exact wpAny_pyIter_enum he h
section
variable {X:Cx}
noncomputable def aA8(ds:List D):List D:=(ay ds.length).zip ds |>.map λ(k,d)=>PyData.tuple [.int (k:Nat),d]
noncomputable def bb9(f:Rho->Option (Bool×List D)):Rho->Option (List D):=λρ=>(f ρ).map λq=>aA8 q.2
def as4(ds:List D)(i:Nat):(aA8 ds)[i]? = (ds[i]?).map λd=>.tuple [.int i,d]:=by
 unfold aA8;rw[aF];cases e:ds[i]? with
 | none =>
  have:ds.length<=i:=by simpa using e
  have z:((ay ds.length).zip ds)[i]? = O:=by simp;omega
  rw[z];rfl
 | some d =>
  have hi:=(ak.mp e).1;have z:((ay ds.length).zip ds)[i]? = Z (i,d):=List.getElem?_zip_eq_some.mpr ⟨by simp[hi],e⟩;rw[z];rfl
def bc2(ds:List D):(aA8 ds).length=ds.length:=by unfold aA8;simp
def aX8{K:ad}{t:Bool}{a:fO}{vs:List V}{ds:List D}{Hf1:Hp}(h1:Sq K t Hf1 a vs)(r1:Reps K Hf1 ds vs):bn7 K (Ite K t a) (aA8 ds) Hf1:=by
 have mono:∀{t:Bool}{a:fO}{xs:List V}{H H':Hp},E2 H H'->Sq K t H a xs->Sq K t H' a xs:=λ{t a xs H H'} e h=>by
  cases t with
  | true=>exact D5 e h
  | false=>exact F7 e h
 intro i H Hf sa sb;have m1:=mono (sa.trans sb) h1;have l1:=r1.length;refine⟨λhi=>⟨vs,m1,by rw[bc2]at hi;grind⟩,λd hd=>?_⟩;rw[as4]at hd;obtain⟨x,q1,q2⟩:=xmo hd;subst q2;obtain⟨vx,e1,e2⟩:=r1.get q1;refine⟨⟨vs,vx,m1,e1⟩,λv H' ⟨T,x',z1,z2,z3,z4⟩=>?_⟩;subst z1 z3;have w1:=z4 vs m1;rw[e1]at w1;cases w1;have nf:Hf T=O:=sb.free z2;exact⟨upd Hf T<|.tup [.int i,vx],Grow.laid sb z2,T,[.int i,vx],rfl,SqT.of C5,.int i,[vx],rfl,rfl,vx,[],rfl,(e2.mono sa).mono<|E4 nf,rfl⟩
def ci6{elts:List Expr}{k0:Nat}{tpos:Pos}{a:Expr}{f:DE}{p pos:Pos}(hg:Gl X "enumerate")(hm:X.mg "enumerate" = O)(ha:JE X a f)(hs:eT [a] X.env=[(false,eval a X.env)]:=by rfl):
  JI X (.Tuple elts k0 tpos) (.Call (.Name "enumerate" p) [a] [] pos) (bb9<|qE f):=λρ out q=>by
 obtain⟨⟨t1,ds⟩,e1,q⟩:=xmo q;subst q;obtain⟨d1,e1,e1'⟩:=xbm e1;intro pins s σ H R I ⟨H0,Hf,ss,sl,k⟩
 refine Call_ (aH3 I hg hm rfl (PyProof.Rows.callWith_type1 (thn (E3 (ha ρ d1 e1) J8 (by rw[hs];rfl) pos pins s σ H
  (λvs H'=>∃v Hf',vs=[v]/\Grow H Hf H' Hf'/\Rep X.K Hf' d1 v) I ⟨H0,Hf,ss,sl,λv H1 Hf1 g1 r1=>⟨v,Hf1,rfl,g1,r1⟩⟩) λus s1 ⟨vs,H1,I1,r1,v,Hf1,ev,gr,p1⟩=>?_) (by rw[hs];rfl) (by rfl)))
 subst ev;obtain⟨uv,rfl,rv⟩:=r1.one;obtain⟨a1,vs1,rfl,w1,w2⟩:=p1.seq (E2.refl Hf1) e1';cases rv
 have mono:∀{t:Bool}{a:fO}{xs:List V}{H H':Hp},E2 H H'->Sq X.K t H a xs->Sq X.K t H' a xs:=λ{t a xs H H'} e h=>by
  cases t with
  | true=>exact D5 e h
  | false=>exact F7 e h
 obtain⟨us1,rr1,hp1,lt1⟩:=aR9 I1 (mono gr.sub w1);refine bh6 hp1 λh' b1 b2 b3=>?_
 have I2:Inv X pins σ H1 { s1 with heap:=h' }:=I1.kept (t':=s1.toks) b3;refine wpAny_pyIter_enum b1 ⟨_,_,_,_,H1,rfl,I2,bw4 (e:=s1.heap.objs.size+1) (it:=s1.heap.objs.size) (a:=a1) (Nat.succ_ne_self _) (aC<|cu lt1)<|aC lt1,⟨⟨_,b1⟩,b2⟩,λb hb=>?_,k _ H1 Hf1 gr<|aX8 w1 w2⟩
 have hb':s1.heap.objs.size<=b:=by
  simp only[ao,aB,or_false]at hb;rcases hb with rfl|rfl
  .exact ce _ _
  .exact aj _
 exact I1.fpOk hb'<|I1.hok.fresh hb'
end
section
variable {prog:Program}{w:World}{A:Around}{E:Value->Shared->Prop}{s:Shared}
def aG1{l b sl:fO}{items new:Array fM}{n n2:Nat}{vl vu:fM}{lo hi:Option Int}{Q:Unit->fN->Prop}
    (e:s.heap.get? l=Z { cls:=.type "list", data:=.seq items n }) (e2:s.heap.get? b=Z { cls:=.type "list", data:=.seq new n2 }) (hne:l≠b)
    (hs:s.heap.IsSliceOf sl vl vu .none) (pl:IsPart vl lo) (pu:IsPart vu hi) (hsz:items.size+new.size<=eU)
    (h:Q () { s with heap:=s.heap.update l (Obj.mapSeq λxs=>xs.extract 0 (HT.sIx items.size 0 lo)++new++xs.extract (max (HT.sIx items.size 0 lo)<|HT.sIx items.size items.size hi) xs.size) }) :
    ft (fu prog w) A (setItem (.ref l) (.ref sl)<|.ref b) Q E s:=by
  have hl:s.heap.IsList l items:=PySem.IsL.isList e;have hb:s.heap.IsList b new:=PySem.IsL.isList e2;obtain⟨os,hos,hcs,hds⟩:=id hs;have hTs:s.TypeIs (.ref sl) "slice" := ⟨os,hos,hcs⟩;have hstep:¬((rawPart O==rawInt 0)=true):=aE
  have hsame:Builtin.List.listSameRef (.ref l) (.ref b)=false:=by
    unfold Builtin.List.listSameRef;exact beq_eq_false_iff_ne.mpr hne
  have hbd:sliceBounds lo hi O items.size=(((HT.sIx items.size 0 lo:Nat):Int),((HT.sIx items.size items.size hi:Nat):Int),1):=by
    obtain⟨h1,h2,h3⟩:=aq3 lo hi items.size;exact Prod.ext h1<|Prod.ext h2 h3
  have hmax:(max ((HT.sIx items.size 0 lo:Nat):Int) ((HT.sIx items.size items.size hi:Nat):Int)).toNat=max (HT.sIx items.size 0 lo) (HT.sIx items.size items.size hi):=by grind
  have hz':((λxs:Array fM=>xs.extract 0 (HT.sIx items.size 0 lo)++new++xs.extract (max (HT.sIx items.size 0 lo)<|HT.sIx items.size items.size hi) xs.size) items).size<=eU+1:=by
    simp only[bx,Array.size_extract]
    grind
  unfold setItem
  try with_reducible refine wpAny_holding ?_
  first|refine eK (eM ?_)|skip
  refine eK (wpAny_sequenceKey hl.typeIs (by decide) ?_);refine eK (wpAny_callSpecial?_slot (name:=Str.ofString "__setitem__") hl.typeIs slot_list_setitem<|wpAny_call_entry slot_list_setitem hl.typeIs entry_list_setitem ?_ (args_list_setitem _ _ _));show ft _ _ (Builtin.List.listSubscript? (.ref sl) >>= _) _ _ s;refine eK ?_;unfold Builtin.List.listSubscript?;refine eK (wpAny_specialOf hTs slice_no_index ?_);simp only[Option.isNone_none,if_true];refine eM ?_;show ft _ _ (typeOf (.ref sl) >>= _) _ _ s;refine eK<|wpAny_typeOf hTs ?_
  first
    | rw[if_neg (by decide)]
    | refine PySem.W.KFB.if_not (by decide) ?_
  rw[listSliceParts_eq];refine eK (eK<|eS hos hds (x:=.none) rfl (eK<|wpAny_listPart .none ?_));rw[if_neg hstep];refine eK (eS hos hds (x:=vl) rfl<|eK (wpAny_listPart pl ?_));refine eK<|eS hos hds (x:=vu) rfl (eK<|wpAny_listPart pu (eM ?_))
  first
    | simp only[hsame,be,if_false]
    | refine PySem.W.KFB.if_not hsame ?_
    | (dsimp only
       rw[if_neg (by rw[hsame];exact aE)])
  refine eK (m:=Builtin.List.listAllItems (.ref b) "must assign iterable to extended slice") ?_;unfold Builtin.List.listAllItems;refine eK<|wpAny_typeOf hb.typeIs ?_
  first
    | refine PySem.W.KFB.if_so (by decide) ?_
    | rw[if_pos (by decide)]
    | simp only[beq_self_eq_true,Bool.true_or,if_true]
  unfold Builtin.List.listItems;refine eK (wpAny_seqItems e2 rfl<|eM ?_);refine eK (eK<|wpAny_seqItems e rfl (eM ?_));refine eK (wpAny_of_eq ((sliceIndices_raw lo hi O items.size<|by simp).trans<|congrArg (pure:Int×Int×Int->Sem (Int×Int×Int)) hbd) ?_);show ft _ _ (if((1:Int)==1)=true then _ else _) _ _ s;rw[if_pos (by decide)];refine eK<|wpAny_rule ?_
  first
    | simp only[af8 hsz,be,if_false]
    | refine PySem.W.KFB.if_not (af8 hsz) ?_
  first|refine eK (eM ?_)|skip
  show ft _ _ (updateSeq l (λxs=>xs.extract 0 (((HT.sIx items.size 0 lo:Nat):Int)).toNat++new++xs.extract (max ((HT.sIx items.size 0 lo:Nat):Int) ((HT.sIx items.size items.size hi:Nat):Int)).toNat xs.size) >>= _) _ _ s;rw[hmax,bp];refine eK (wpAny_updateSeq (hz:=aO (ce _ _) hsz) (_hz':=hz') e rfl ?_);refine eK<|wpAny_letGo ?_
  first
    | exact eK<|eM (eM ⟨.none,rfl,eM h⟩)
    | exact eM ⟨.none,rfl,eM h⟩
end
section
variable {X:Cx}
noncomputable def aF6{α:Type}(xs:List α)(lo hi:Option Int)(ys:List α):List α:=xs.take (HT.sIx xs.length 0 lo)++ys++xs.drop (max (HT.sIx xs.length 0 lo)<|HT.sIx xs.length xs.length hi)
def bh5{pins:List (fO×Obj)}{s:fN}{σ:L2.St}{H:Hp}{l b sl:fO}{xs ys:List V}{lo hi:Option Int}{vl vu:fM}{Q:Unit->fN->Prop}(I:Inv X pins σ H s)
  (hH:H l=Z (.lst xs)) (hB:H b=Z (.lst ys)) (hne:l≠b) (hs:s.heap.IsSliceOf sl vl vu .none) (pl:IsPart vl lo) (pu:IsPart vu hi)
  (hz:xs.length+ys.length<=eU) (h:∀s',Inv X pins σ (upd H l<|.lst (aF6 xs lo hi ys)) s'->Q () s') :
  ft (fu X.prog X.w) X.A (setItem (.ref l) (.ref sl)<|.ref b) Q X.xe s:=by
 obtain⟨z,its,n,r,hl,e⟩:=I.lstM hH;obtain⟨z2,its2,n2,r2,hl2,e2⟩:=I.lstM hB;refine aG1 e e2 hne hs pl pu (by rw[ap,ap];grind) (h _ ?_);have hz0:its.toArray.size=xs.length:=by rw[ap];exact hl.symm
 refine I.lset (its':=its.take (HT.sIx xs.length 0 lo)++its2++its.drop (max (HT.sIx xs.length 0 lo)<|HT.sIx xs.length xs.length hi)) (t':=s.toks) hH e ?_ (E1.append (E1.append (r.take _) r2)<|r.drop _) ?_
 .have e0:=bw8 its its2 (HT.sIx xs.length 0 lo) (max (HT.sIx xs.length 0 lo)<|HT.sIx xs.length xs.length hi);rw[hz0]at e0 ⊢;exact e0
 .unfold aF6;rw[ae,ae,aA,aY]
  grind
def bI7{K:ad}{H:Hp}{ds es:List D}{vs us:List V}(h:Reps K H ds vs)(g:Reps K H es us)(lo hi:Option Int):Reps K H (aF6 ds lo hi es) (aF6 vs lo hi us):=by
 unfold aF6;rw[h.length];exact((h.take _).append g).append (h.drop _)
def Slots.reOwn{K:ad}{H0 H Hf:Hp}{ρ:Rho}{σ:L2.St}{i:Nat}{ds ds':List D}{b:fO}{vs':List V}(sl:Slots K H0 ρ σ H Hf)(eo:ρ[i]? = Z (Z<|.own ds))(h1:σ[i]? = Z (Z<|.ref b))(hf:Hf b=O)(h0:H0 b=O)(r:Reps K Hf ds' vs'):
  Slots K H0 (ρ.set i<|Z (.own ds')) σ (upd H b<|.lst vs') Hf:=by
 refine⟨by simpa using sl.len,λj bb z=>?_,λj k ds1 es c q1 q2 q3 q4=>?_⟩
 .by_cases qj:i=j
  .subst qj;have hi:i < ρ.length:=(ak.mp eo).1;rw[aI hi]at z;cases z;exact⟨_,h1,b,vs',rfl,C5,hf,h0,r⟩
  .rw[aG qj]at z;obtain⟨u,z1,z2⟩:=sl.is j bb z;refine⟨u,z1,?_⟩;cases bb with
   | val d=>exact z2
   | exc C=>exact z2
   | own dd =>
    obtain⟨a',us',y1,y2,y3,y4,y5⟩:=z2
    have ne:a'≠b:=λzz=>by
     subst zz y1;exact qj<|sl.apart i j ds dd a' eo z h1 z1
    exact⟨a',us',y1,by rw[C6 ne];exact y2,y3,y4,y5⟩
 .have f:∀(j:Nat) (es:List D),(ρ.set i<|Z (B.own ds'))[j]? = Z (Z<|B.own es)->∃dd:List D,ρ[j]? = Z (Z<|B.own dd):=λj es q=>by
   by_cases qj:i=j
   .subst qj;exact⟨ds,eo⟩
   .rw[aG qj]at q;exact⟨_,q⟩
  obtain⟨d1,q1'⟩:=f j _ q1;obtain⟨d2,q2'⟩:=f k _ q2;exact sl.apart j k d1 d2 c q1' q2' q3 q4
noncomputable def bI3(i:Nat)(lo hi:Rho->Option (Option Int))(f:Rho->Option (List D)):DS:=λρ=>(f ρ).bind λes=>(lo ρ).bind λl=>(hi ρ).bind λh=>match ρ[i]? with
 | some (Z (.own ds))=>if ds.length+es.length<=16777216 then Z (.nx<|ρ.set i (Z<|.own (aF6 ds l h es))) else O
 | _=>O
def cF2(i:Nat){x:Str}{e:Expr}{lo hi:Option Expr}{f:Rho->Option (List D)}{l h:Rho->Option (Option Int)}{p p2 pos' pos:Pos}(he:JN X e f)(hl:JO X lo l)(hh:JO X hi h)(hN:X.N[i]? = Z x:=by rfl)
  (hv:Vis X.env.scope x:=by first|exact Or.inl rfl|exact Or.inr (Or.inl rfl)|exact Or.inr<|Or.inr rfl) (hd:(x==("__debug__" : Str))=false:=by decide) (hcd:(x==("__classdict__" : Str))=false:=by decide)
  (hsw:swapsWith e (Z<|.Subscript (.Name x p) (.Slice lo hi O p2) pos') pos.line X.env=pure false:=by rfl):JS X (.Assign [.Subscript (.Name x p) (.Slice lo hi O p2) pos'] e pos) (bI3 i l h f):=λρ fl q H0 Hf0=>by
 obtain⟨es,e1,q⟩:=xbm q;obtain⟨y,e2,q⟩:=xbm q;obtain⟨z,e3,q⟩:=xbm q;split at q
 .rename_i ds eo;split at q
  .rename_i hz;cases q;intro pins s σ H En I ⟨Hf,a,ee⟩;refine wpAny_Assign_Subscript (thn (he ρ es e1 pins s σ H (λv H'=>∃Hf',Grow H Hf H' Hf'/\∃b us,v=.ref b/\H b=O/\H' b=Z (.lst us)/\Hf' b=O/\Reps X.K Hf' es us) I ⟨H0,Hf,a.gr.sub,a.sl,λv H' Hf' g r=>⟨Hf',g,r⟩⟩) λv s1 ⟨x1,H1,I1,r1,Hf1,g1,b,us,ev,b1,b2,b3,b4⟩=>?_) hsw;subst ev;cases r1;obtain⟨vl0,h1,c,vs,ev,h2,h3,h4,h5⟩:=a.sl.is i _ eo;subst ev;refine thn (ac0 hN hv hd hcd pins s1 σ H1 (λv H'=>v=.ref c/\H'=H1) I1 ⟨_,h1,rfl,rfl⟩) λov s2 ⟨x2,H2,I2,r2,ex,eH⟩=>?_
   subst ex eH;cases r2;have sl1:=a.sl.grow g1;refine wpAny_Slice (thn (hl ρ y e2 pins s2 σ H2 (λo H'=>o=y/\∃Hf',Grow H2 Hf1 H' Hf') I2 ⟨H0,Hf1,g1.sub,sl1,λH' Hf' g=>⟨rfl,Hf',g⟩⟩) λwl s3 ⟨o3,H3,I3,pl,eo3,Hf3,g3⟩=>?_);subst eo3;have sl3:=sl1.grow g3;refine thn (hh ρ z e3 pins s3 σ H3 (λo H'=>o=z/\∃Hf',Grow H3 Hf3 H' Hf') I3 ⟨H0,Hf3,g3.sub,sl3,λH' Hf' g=>⟨rfl,Hf',g⟩⟩) λwu s4 ⟨o4,H4,I4,pu,eo4,Hf4,g4⟩=>?_
   subst eo4;have sl4:=sl3.grow g4;have gg:Grow H Hf H4 Hf4:=(g1.trans g3).trans g4;rw[evalPart_none];refine eM ?_;have I5:Inv X pins σ H4 { s4 with heap:=s4.heap.push { cls:=.type "slice", data:=.fields #[wl,wu,.none] } }:=I4.kept (t':=s4.toks) λb ob q=>fw _ q
   have hc:H4 c=Z (.lst vs):=gg.big _ _ h2;have hb:H4 b=Z (.lst us):=(g3.trans g4).big _ _ b2;have hcb:c≠b:=λzz=>by subst zz;rw[h2]at b1;cases b1
   have hfc:Hf4 c=O:=gg.nofr h2 h3;have rd:Reps X.K Hf4 (aF6 ds o3 o4 es) (aF6 vs o3 o4 us):=bI7 (h5.mono gg.ext) (b4.mono (g3.trans g4).ext) _ _;refine bh5 I5 hc hb hcb (Heap.IsSliceOf.new ..) pl pu (by rw[h5.length,b4.length,eV];exact hz) λs' I'=>?_
   have ga:=a.gr.trans gg;refine⟨σ,_,I',ee σ _ Hf4 ⟨⟨λd u zz=>?_,λd u zz=>?_,ga.ext,ga.new⟩,sl4.reOwn eo h1 hfc h4 rd⟩ gg.ext⟩
   .rw[C6 (C9 zz h4)];exact ga.big d u zz
   .rw[C6 (C9 zz hfc)];exact ga.sub d u zz
  .cases q
 .cases q
def ch6(i:Nat)(hN:X.N.Nodup)(S:CompSc X N' n caps scope)(hx:∀e s,X.xe e s->False)
  (hi:JI X tgt iter src) (hg:∀C s0 H0 ex,JG (F0 X N' scope C s0 H0 ex) tgt g) (ht:∀C s0 H0 ex,JTs (F0 X N' scope C s0 H0 ex) ifs c) (he:∀C s0 H0 ex,JE (F0 X N' scope C s0 H0 ex) elt e)
  (hi2:X.N[i]? = Z x:=by rfl) (hl:X.env.scope.names.lookup x=Z .local:=by rfl) (hsw:swapsWith (.ListComp elt [⟨tgt,iter,ifs,0⟩] scope pos) (Z<|.Name x pos') spos.line X.env=pure true:=by rfl)
  (hc:X.calm=true:=by rfl) (hs:∀x,fk iter X.env x=pure x:=by intro _;rfl):JS X (.Assign [.Name x pos'] (.ListComp elt [⟨tgt,iter,ifs,0⟩] scope pos) spos) (ae1 i<|D1 n caps src g c e):=λρ fl q H0 Hf0=>by
 obtain⟨out,e1,e2⟩:=xmo q;subst e2;obtain⟨ds,e3,k⟩:=ao9 (K:=X.K) e1;refine P9 (aG3 S hx hc hN hi2 hl (hi ρ ds e3) (g:=tgJ X.K g) (tc:=aN1 X.K c) (te:=bp2 X.K e) hg ht (λC s0 H0 ex pins s σ H Q I ⟨ρ,d,e,t⟩=>he C s0 H0 ex ρ d e pins s σ H Q I t) hsw hs) λEn σ H ⟨Hf,a,ee⟩=>k σ H _ ⟨H0,Hf,a.gr.sub,a.sl,λv H' Hf' gg ⟨p,vs,z1,z2,z3,z4,z5⟩=>?_⟩
 subst z1;exact ee _ H' Hf' ⟨a.gr.trans gg,a.sl.setOwn gg (a.gr.big.free z2) z2 z3 z4 z5⟩ gg.ext
noncomputable def co7:DS:=λρ=>Z<|.ct ρ
def ch7:JS X (.Continue pos) co7:=λρ fl q H0 Hf0=>by
 cases q;exact P9 aZ1 λEn σ H ⟨Hf,a,e⟩=>e σ H Hf a<|E2.refl _
end
section
variable {X:Cx}
noncomputable def aC1(x:Str)(k:Int):Str:=if(k==1 || x.length==0)=true then x else⟨(ax k.toNat x.cps).foldl (·++·) #[]⟩
noncomputable def by8(x y:D):Option D:=match x,y with
 | .str x,.int k=>if 1<=k/\k<=2/\x.length<=1000/\(aC1 x k).length<=16777216 then Z (.str<|aC1 x k) else O
 | _,_=>O
def cf6:OpD X (fg .Mult) by8:=λx y z h=>by
 unfold by8 at h;split at h
 .split at h
  .rename_i x k c;cases h;intro pins s σ H vx vy v u Q I rx ry ⟨Hf,ss,r1,r2,kk⟩;cases r1;cases r2;obtain⟨t,rfl⟩:=rx;obtain⟨t2,rfl⟩:=ry;have w:=kk (.str<|aC1 x k) H Hf (Grow.refl ss) rfl;have k12:k=1\/k=2:=by grind
   refine P.mul_str (by rw[decide_eq_false (by grind),decide_eq_false (by grind)];rfl) (λ_ _=>by rcases k12 with rfl|rfl<;>grind) (λ_ _=>?_) ?_
   .unfold Builtin.Str.tooLong;rw[eV];refine decide_eq_false ?_;rcases k12 with rfl|rfl<;>simp<;>grind
   .rw[if_neg (by grind)];unfold aC1 at w c;split
    .rename_i e;rw[if_pos e]at w;exact⟨.str x,H,I,⟨_,rfl⟩,w⟩
    .rename_i e;rw[if_neg e]at w c;exact⟨by rw[eV];exact c.2.2.2,.str _,H,I.tok _,⟨_,rfl⟩,w⟩
  .cases h
 .cases h
noncomputable def slS(x:Str)(lo hi:Option Int):Str:=if((1:Int)==1&&(Builtin.Str.strSliceIndices lo hi 1 x.length).length==x.length)=true then x else⟨((Builtin.Str.strSliceIndices lo hi 1 x.length).filterMap (x.cps[·]?)).toArray⟩
noncomputable def bD3(f:DE)(lo hi:Rho->Option (Option Int)):DE:=λρ=>(f ρ).bind λd=>(lo ρ).bind λl=>(hi ρ).bind λh=>match d with
 | .str x=>if x.length<=1000/\(slS x l h).length<=16777216 then Z (.str<|slS x l h) else O
 | _=>O
def bq5(h:IsPart u o):∃p:Option (Int×Tok),u=partValue p/\p.map (·.1)=o:=by
 cases h with
 | none=>exact⟨O,rfl,rfl⟩
 | int i t=>exact⟨Z (i,t),rfl,rfl⟩
def cb4:SlR X (λx lo hi H Q=>∃z,x=.str z/\(slS z lo hi).length<=16777216/\Q (.str<|slS z lo hi) H):=by
 intro pins s σ H x v vl vu lo hi sl Q I rx hs pl pu h;obtain⟨z,rfl,hz,q⟩:=h;obtain⟨t,rfl⟩:=rx;obtain⟨pl',rfl,rfl⟩:=bq5 pl;obtain⟨pu',rfl,rfl⟩:=bq5 pu;refine⟨"str", _,F.slot_str_getitem.lookup,typeIs_str s z t,wpAny_getItem_str_slice (l:=pl') (u:=pu') (st:=O) hs rfl ?_⟩;show(if((1:Int)==1&&(Builtin.Str.strSliceIndices (pl'.map (·.1)) (pu'.map (·.1)) 1 z.length).length==z.length)=true then Made.val (.str z t) else Made.str ⟨((Builtin.Str.strSliceIndices (pl'.map (·.1)) (pu'.map (·.1)) 1 z.length).filterMap (z.cps[·]?)).toArray⟩).post _ _;unfold slS at q hz;by_cases e:((1:Int)==1&&(Builtin.Str.strSliceIndices (pl'.map (·.1)) (pu'.map (·.1)) 1 z.length).length==z.length)=true
 .rw[if_pos e]at q ⊢;exact⟨.str z,H,I,⟨_,rfl⟩,q⟩
 .rw[if_neg e]at q hz ⊢;exact⟨by rw[eV];exact hz,.str _,H,I.tok _,⟨_,rfl⟩,q⟩
def cH0{a:Expr}{lo hi:Option Expr}{f:DE}{l h:Rho->Option (Option Int)}{pos p2:Pos}(ha:JE X a f)(hl:JO X lo l)(hh:JO X hi h):JE X (.Subscript a (.Slice lo hi O p2) pos) (bD3 f l h):=λρ d q=>by
 obtain⟨x,e1,q⟩:=xbm q;obtain⟨y,e2,q⟩:=xbm q;obtain⟨z,e3,q⟩:=xbm q;cases x with
 | str x =>
  simp only at q;split at q
  .rename_i c;cases q;refine C3 (ar2 cb4 (ha ρ _ e1) (hl ρ y e2)<|hh ρ z e3) λσ H Q ⟨H0,Hf,s,sl,k⟩=>?_
   refine⟨H0,Hf,s,sl,λv H1 Hf1 g1 r1=>⟨H0,Hf1,g1.sub,sl.grow g1,λH2 Hf2 g2=>⟨H0,Hf2,g2.sub,sl.grow<|g1.trans g2,λH3 Hf3 g3=>?_⟩⟩⟩;exact⟨x,r1,c.2,k _ H3 Hf3 ((g1.trans g2).trans g3) rfl⟩
  .cases q
 | _=>cases q
noncomputable def aS2(i:Nat)(f:DE):DS:=λρ=>match ρ[i]? with
 | some (Z (.own ds))=>(f ρ).bind λd=>match d with
  | .list es=>if ds.length+es.length<=16777216 then Z (.nx<|ρ.set i (Z<|.own (ds++es))) else O
  | .tuple es=>if ds.length+es.length<=16777216 then Z (.nx<|ρ.set i (Z<|.own (ds++es))) else O
  | _=>O
 | _=>O
end
section
variable {X:Cx}
noncomputable def by7(f g:Rho->Option (Bool×List D)):Rho->Option (List D):=λρ=>(f ρ).bind λp=>(g ρ).bind λq=>if p.1=false/\q.1=false/\p.2.length+q.2.length<=16777216 then Z (p.2++q.2) else O
def cG5(ha:JQ X a f)(hb:JQ X b g):JN X (.BinOp a .Add b pos) (by7 f g):=λρ out q=>by
 obtain⟨⟨t1,xs⟩,e1,q⟩:=xbm q;obtain⟨⟨t2,ys⟩,e2,q⟩:=xbm q;split at q
 .rename_i c;obtain⟨c1,c2,c3⟩:=c;simp only at c1 c2 c3;subst c1 c2;cases q;refine C3 (cp5 bq8 (ha ρ _ _ e1)<|hb ρ _ _ e2) λσ H Q ⟨H0,Hf,s,sl,k⟩=>?_
  refine⟨H0,Hf,s,sl,λv H1 Hf1 g1 ⟨p,vs,z1,z2,z3⟩=>⟨H0,Hf1,g1.sub,sl.grow g1,λu H2 Hf2 g2 ⟨p',us,z1',z2',z3'⟩=>?_⟩⟩;subst z1 z1';refine⟨p,p',vs,us,rfl,rfl,F7 g2.big z2,z2',by rw[z3.length,z3'.length,eV];exact c3,λn hn=>?_⟩;exact k _ _ _ ((g1.trans g2).trans<|Grow.made g2.sub hn) ⟨n,vs++us,rfl,(g1.trans g2).big.free hn,C5,g2.sub.free hn,(z3.mono g2.ext).append z3'⟩
 .cases q
end
section
variable {X:Cx}
def cl3(l b:fO)(xs ys:Array fM)(n m:Nat)(dd:Option fO)(sl:Array (Option fM))(h0:¬(!xs.isEmpty&&Builtin.List.listTooLong (xs.size+ys.size))=true)(h1:xs.size<=eU)(h2:xs.size+ys.size<=eU+1):
  Meets (Builtin.«list.extend» ⟨[.ref l,.ref b],[]⟩) (λ_ R s=>s.heap.get? l=Z { cls:=.type "list", data:=.seq xs n }/\s.heap.get? b=Z ⟨.type "list", dd,.seq ys m,sl⟩ /\
   R (.ok (.ret fJ)) { s with heap:=s.heap.update l (Obj.mapSeq λx=>x++ys),toks:=s.toks }) :=
 .of_wp λprog w A R s h=>by
  obtain⟨hp,g,d,tk,os⟩:=s;obtain⟨hl,hb,h⟩:=h;have f1:=AutoSeq1.idx_int;have f2:=AutoSeq1.sub_tuple_tuple;have f3:=AutoSeq1.sub_list_list;have f4:=AutoSeq1.sub_tuple_list;have f5:=AutoSeq1.sub_list_tuple;have hz':(xs++ys).size<=eU+1:=by rw[bx];exact h2
  wp_walk using (wpAny_updateSeq hl rfl (hz:=h1) (_hz':=hz')),AutoSeq1.wpAny_loadPart' hl,AutoSeq1.wpAny_loadPart' hb
  exact⟨_,rfl,h⟩
def cl2(l b:fO)(xs ys:Array fM)(n m:Nat)(dd:Option fO)(sl:Array (Option fM))(h0:¬(!xs.isEmpty&&Builtin.List.listTooLong (xs.size+ys.size))=true)(h1:xs.size<=eU)(h2:xs.size+ys.size<=eU+1):
  Meets (Builtin.«list.extend» ⟨[.ref l,.ref b],[]⟩) (λ_ R s=>s.heap.get? l=Z { cls:=.type "list", data:=.seq xs n }/\s.heap.get? b=Z ⟨.type "tuple", dd,.seq ys m,sl⟩ /\
   R (.ok (.ret fJ)) { s with heap:=s.heap.update l (Obj.mapSeq λx=>x++ys),toks:=s.toks }) :=
 .of_wp λprog w A R s h=>by
  obtain⟨hp,g,d,tk,os⟩:=s;obtain⟨hl,hb,h⟩:=h;have f1:=AutoSeq1.idx_int;have f2:=AutoSeq1.sub_tuple_tuple;have f3:=AutoSeq1.sub_list_list;have f4:=AutoSeq1.sub_tuple_list;have f5:=AutoSeq1.sub_list_tuple;have hz':(xs++ys).size<=eU+1:=by rw[bx];exact h2
  wp_walk using (wpAny_updateSeq hl rfl (hz:=h1) (_hz':=hz')),AutoSeq1.wpAny_loadPart' hl,AutoSeq1.wpAny_loadPart' hb
  exact⟨_,rfl,h⟩
noncomputable def db7(K:ad):V->List V->Hp->VK->Prop:=λx vs H Q=>∃l b xs zs,x=.ref l/\vs=[.ref b]/\H l=Z (.lst xs)/\(SqL K H b zs\/SqT K H b zs)/\xs.length+zs.length<=eU/\Q .non (upd H l<|.lst (xs++zs))
def bN0:MtM X "list.extend" (db7 X.K):=by
 intro pins s σ H x vs v us Q I rx rv h;obtain⟨l,b,xs,zs,rfl,rfl,hH,hB,hz,q⟩:=h;cases rx;obtain⟨u,rfl,ru⟩:=rv.one;cases ru;obtain⟨z,its,n,r,hl,e⟩:=I.lstM hH;rcases hB with hB|hB
 .obtain⟨its2,r2,pl,_⟩:=I.list hB;obtain⟨⟨cls,dd,data,sl⟩,ho,hc,m,hd⟩:=pl.isList;simp only at hc hd;subst hc hd;have hl2:=r2.length;have hsz:its.toArray.size+its2.toArray.size<=eU:=by rw[ap,ap];grind
  have hlong:¬(!its.toArray.isEmpty&&Builtin.List.listTooLong (its.toArray.size+its2.toArray.size))=true:=by rw[af8 hsz,eI];exact aE
  refine fo F.slot_list_extend ⟨_,e,rfl⟩ F.entry_list_extend (F.args_list_extend_2 _ _) (cl3 l b its.toArray its2.toArray n m dd sl hlong (by rw[ap];grind)<|by grind) ⟨e,ho,?_⟩;refine⟨.non,_,I.lset (its':=its++its2) hH e (by simp) (r.append r2) ?_,rfl,q⟩;rw[ae];grind
 .obtain⟨its2,r2,pl,_⟩:=I.tuple hB;obtain⟨⟨cls,dd,data,sl⟩,ho,hc,m,hd⟩:=pl;simp only at hc hd;subst hc hd;have hl2:=r2.length;have hsz:its.toArray.size+its2.toArray.size<=eU:=by rw[ap,ap];grind
  have hlong:¬(!its.toArray.isEmpty&&Builtin.List.listTooLong (its.toArray.size+its2.toArray.size))=true:=by rw[af8 hsz,eI];exact aE
  refine fo F.slot_list_extend ⟨_,e,rfl⟩ F.entry_list_extend (F.args_list_extend_2 _ _) (cl2 l b its.toArray its2.toArray n m dd sl hlong (by rw[ap];grind)<|by grind) ⟨e,ho,?_⟩;refine⟨.non,_,I.lset (its':=its++its2) hH e (by simp) (r.append r2) ?_,rfl,q⟩;rw[ae];grind
def cF7(i:Nat)(h:JE X e f)(hN:X.N[i]? = Z x)(hv:Vis X.env.scope x)(hd:(x==("__debug__" : Str))=false)
  (hcd:(x==("__classdict__" : Str))=false) (hline:(apos.endLine==cpos.line)=true) (hs:eT [e] X.env=[(false,eval e X.env)]) :
  JS X (.Expr (.Call (.Attribute (.Name x p) "extend" apos) [e] [] cpos) pos) (aS2 i f):=λρ fl q H0 Hf0=>by
 unfold aS2 at q;split at q
 .rename_i ds eo;obtain⟨d,e1,q⟩:=xbm q;split at q
  .rename_i es;split at q
   .rename_i hz;cases q;refine P9 (aS9 (bq2 PySem.F.plainAttrs_list PySem.F.slot_list_extend PySem.F.type_list_extend bN0 (ac0 hN hv hd hcd) (E3 (h ρ _ e1) J8 hs) rfl (by rw[hs];rfl) hline hs) rfl) λEn σ H ⟨Hf,a,ee⟩=>?_
    obtain⟨v,h1,b,vs,rfl,h2,h3,h4,h5⟩:=a.sl.is i _ eo;refine⟨_,h1,.inl ⟨rfl,vs,SqL.of h2⟩,H0,Hf,a.gr.sub,a.sl,λw H' Hf' gg r=>?_⟩;obtain⟨b2,us,rfl,r1,r2⟩:=r;have hb:H' b=Z (.lst vs):=gg.big _ _ h2;have hfb:Hf' b=O:=gg.nofr h2 h3;have g2:=a.gr.trans gg;have sl2:=a.sl.grow gg;refine⟨b,b2,vs,us,rfl,rfl,hb,.inl<|F7 gg.sub r1,by rw[h5.length,r2.length,eV];exact hz,ee _ _ Hf' ⟨⟨λc u z=>?_,λc u z=>?_,g2.ext,g2.new⟩,?_⟩ gg.ext⟩
    .rw[C6 (C9 z h4)];exact g2.big c u z
    .rw[C6 (C9 z hfb)];exact g2.sub c u z
    .exact sl2.reOwn eo h1 hfb h4 ((h5.mono gg.ext).append r2)
   .cases q
  .rename_i es;split at q
   .rename_i hz;cases q;refine P9 (aS9 (bq2 PySem.F.plainAttrs_list PySem.F.slot_list_extend PySem.F.type_list_extend bN0 (ac0 hN hv hd hcd) (E3 (h ρ _ e1) J8 hs) rfl (by rw[hs];rfl) hline hs) rfl) λEn σ H ⟨Hf,a,ee⟩=>?_
    obtain⟨v,h1,b,vs,rfl,h2,h3,h4,h5⟩:=a.sl.is i _ eo;refine⟨_,h1,.inl ⟨rfl,vs,SqL.of h2⟩,H0,Hf,a.gr.sub,a.sl,λw H' Hf' gg r=>?_⟩;obtain⟨b2,us,rfl,r1,r2⟩:=r;have hb:H' b=Z (.lst vs):=gg.big _ _ h2;have hfb:Hf' b=O:=gg.nofr h2 h3;have g2:=a.gr.trans gg;have sl2:=a.sl.grow gg;refine⟨b,b2,vs,us,rfl,rfl,hb,.inr<|D5 gg.sub r1,by rw[h5.length,r2.length,eV];exact hz,ee _ _ Hf' ⟨⟨λc u z=>?_,λc u z=>?_,g2.ext,g2.new⟩,?_⟩ gg.ext⟩
    .rw[C6 (C9 z h4)];exact g2.big c u z
    .rw[C6 (C9 z hfb)];exact g2.sub c u z
    .exact sl2.reOwn eo h1 hfb h4 ((h5.mono gg.ext).append r2)
   .cases q
  .cases q
 .cases q
end
noncomputable def ao1(a:List Str)(x:Str):List Str:=if a.any (· == x) then a else a++[x]
noncomputable def ddN(v:Nat->Str)(i:Nat):List Str:=((ay i).map v).foldl ao1 []
noncomputable def ddS(l:List Str):List Str:=l.foldl ao1 []
def aI5(v:Nat->Str)(i:Nat):ddN v (i+1)=ao1 (ddN v i) (v i):=by
 unfold ddN;rw[List.range_succ,bj,List.foldl_append];rfl
theorem bV0(v:Nat->Str):∀i,(ddN v i).length<=i
 | 0=>aj 0
 | i+1=>by
  have ih:=bV0 v i;rw[aI5];unfold ao1;split
  .grind
  .rw[ae,aN]
   grind
def cK7(a:List Str)(x y:Str):(ao1 a x).any (· == y)=(a.any (· == y) || decide (y=x)):=by
 unfold ao1;by_cases q:a.any (· == x)=true
 .rw[if_pos q];by_cases e:y=x
  .subst e;rw[q];simp
  .simp[e]
 .rw[if_neg q,List.any_append];by_cases e:y=x
  .subst e;simp
  .have:(x==y)=false:=by simpa [beq_iff_eq] using λz:x=y=>e z.symm
   simp[this,e]
def bU9(a:List Str)(x:Str):(ao1 a x).length=if a.any (· == x) then a.length else a.length+1:=by
 unfold ao1;split<;>simp
def cK8(l:List Str)(d:Str):ddN (λi=>l.getD i d) l.length=ddS l:=by
 unfold ddN ddS
 congr 1
 refine dw λi=>?_
 rw[aF];by_cases hi:i < l.length
 .rw[du hi,am hi];simp[List.getD,am hi]
 .rw[bg (by simpa using hi),bg (by simpa using hi)];rfl
section
variable {prog:Program}{w:World}{A:Around}{R:Result->Shared->Prop}{J:Addr}{fp wr:List Addr}{Gn:Array GenState->Array GenState->Prop}{n:Nat}{P:Nat->Value->Prop}{St:Nat->Shared->Prop}
def bI2(W:WalksS prog w A.in1 J fp wr Gn n P St)(S:fO)(hS1:S∉fp)(v:Nat->Str)(hv:∀i u,P i u->∃t,u=.str (v i) t)(hb:n+1 < scanBound):
  ∀(k i:Nat) (s:fN),n - i=k->i<=n->St i s->s.heap.SetOf (strKind prog w) S (λy=>(ddN v i).any (· == y)) (ddN v i).length ->
   (∀s',Moved (S::wr) Gn s s'->s'.heap.SetOf (strKind prog w) S (λy=>(ddN v n).any (· == y)) (ddN v n).length->R (.ok<|.ret .none) s') ->
   codeAny (fu prog w) A (.builtin "set.update.loop" ⟨[.ref S,.ref J],[]⟩) R s:=by
 have hS2:S∉wr:=λz=>hS1<|W.sub _ z
 have more:∀b∈wr,b∈S::wr:=λb z=>xmm _ z
 intro k
 induction k with
 | zero =>
  intro i s e1 e2 q1 q2 q3;obtain rfl:i=n:=by grind
  refine codeAny_builtin PyProof.Rows.F.entry_set_update_loop ?_;rw[Around.under_plainId PyProof.Rows.F.plain_set_update_loop _];show ft _ _ (pyNext (.ref J) >>= _) _ _ _;refine eK (W.done s _ _ q1 λs' mv=>?_);show ft _ _ (ret fJ) _ _ _;refine eM (q3 s' (mv.mono more) ?_);obtain⟨o,es,ep,tb,ho,more'⟩:=q2;exact⟨o,es,ep,tb,mv.heap S _ hS2 ho,more'⟩
 | succ k ih =>
  intro i s e1 e2 q1 q2 q3;have lt:i < n:=by grind
  refine codeAny_builtin PyProof.Rows.F.entry_set_update_loop ?_;rw[Around.under_plainId PyProof.Rows.F.plain_set_update_loop _];show ft _ _ (pyNext (.ref J) >>= _) _ _ _;refine eK (W.item i s _ _ lt q1 λu s' hP q1' mv=>?_);obtain⟨t,rfl⟩:=hv i u hP
  have q2':s'.heap.SetOf (strKind prog w) S (λy=>(ddN v i).any (· == y)) (ddN v i).length:=by
   obtain⟨o,es,ep,tb,ho,more'⟩:=q2;exact⟨o,es,ep,tb,mv.heap S _ hS2 ho,more'⟩
  show ft _ _ (holding [Value.str (v i) t] (setAdd S<|.str (v i) t) >>= _) _ _ _;refine eK (wpAny_holding ?_);unfold setAdd;refine wpAny_holding (eK<|(strKind prog w).pyHash (k:=v i) (strKind_is _ _ _ _) ?_);have room:(ddN v i).length+1 < scanBound:=by have:=bV0 v i;grind
  refine wpAny_setAddHashed_of (knd:=strKind prog w) (s:={ s' with toks:=s'.toks+1 }) (strKind_is _ _ _ _) rfl q2' room λh' sb q4=>?_
  have q5:h'.SetOf (strKind prog w) S (λy=>(ddN v<|i+1).any (· == y)) (ddN v<|i+1).length:=SetOf_congr q4 (λy=>by rw[aI5,cK7]) (by rw[aI5,bU9]);refine eM ⟨plainId_quiet PyProof.Rows.F.plain_set_update_loop _,ih (i+1) _ (by grind) lt (W.frame _ s' _ _ q1' (cw _) λb z o e=>?_) q5 λs2 mv2 q6=>?_⟩
  .rw[sb.2 b (λy:b=S=>hS1 (by rw[← y];exact z))];exact e
  .refine q3 s2 (Moved.trans W.gtrans ((mv.mono more).then_heap (cw _) λb o z e=>?_) mv2) q6;rw[sb.2 b (λy:b=S=>z (by rw[y];exact ah))];exact e
end
section
variable {prog:Program}{w:World}{A:Around}{E:Value->Shared->Prop}{s:Shared}
noncomputable abbrev U0(b:Bool):Obj:={ cls:=.type "set", dict:=O,data:=.set #[] 0 (.fresh 0 0 b) }
def aY5{l:fO}{its:Array fM}{xs:List Str}{Q:fM->fN->Prop}(hh:A.handled=O)(hl:s.heap.IsList l its)(hi:∀(i:Nat) (u:fM),its[i]? = Z u->∃t,u=.str (xs.getD i "") t)(hb:its.size+1 < scanBound)
  (h:∀(h':Heap) (tk:Nat),h'.SetOf (strKind prog w) s.heap.objs.size (λy=>(ddN (λi=>xs.getD i "") its.size).any (· == y)) (ddN (λi=>xs.getD i "") its.size).length ->
   (∀b o,b < s.heap.objs.size->s.heap.get? b=Z o->h'.get? b=Z o)->Q (.ref s.heap.objs.size) { s with heap:=h',toks:=tk }) :
  ft (fu prog w) A (call (.type "set") [.ref l]) Q E s:=by
 obtain⟨c,tl,hmro⟩:=F.called_set.mro;have hmade:=F.called_set.made;have hsub:=F.called_set.sub;refine wpAny_call (codeAny_of_tree ?_);show ft _ _ (callAny (.type "set") _) _ _ _;refine eM ⟨Code.quiet_builtin _ (by decide +kernel),codeAny_builtin F.entry_type_call ?_⟩;rw[Around.under_plain (weight_type_call_type "set" [.ref l] []) rfl];have n1:=F.called_set.notType;have n2:=F.called_set.canCreate;have n3:=F.typeCall_set_1<|.ref l
 repeat (any_goals (first|assumption|wp_step))
 refine codeAny_mono (code_set_new_1 (.ref l) (E:=E) (Q₁:=λob s1=>∃b:Bool,ob=.ref s.heap.objs.size/\s1={ s with heap:=s.heap.push (U0 b) }) λb=>⟨b,rfl,rfl⟩) λr s1 hr=>?_
 cases r with
 | error e=>exact hr
 | ok fl =>
  cases fl with
  | ret ob =>
   obtain⟨b,rfl,rfl⟩:=hr;have g0:(s.heap.push<|U0 b).get? s.heap.objs.size=Z (U0 b):=fB _ rfl;have hT:Shared.TypeIs { s with heap:=s.heap.push (U0 b) } (.ref s.heap.objs.size) "set" := ⟨_,g0,rfl⟩;have li:=F.called_set.init.lookup;have bi:=F.called_set.init.bind<|.ref s.heap.objs.size
   repeat (any_goals (first|assumption|wp_step))
   refine codeAny_mono (codeAny_call_builtin (R:=wants (λr s2=>r=.none/\∃h' tk,s2={ s with heap:=h',toks:=tk }/\h'.SetOf (strKind prog w) s.heap.objs.size (λy=>(ddN (λi=>xs.getD i "") its.size).any (· == y)) (ddN (λi=>xs.getD i "") its.size).length /\
     (∀b o,b < s.heap.objs.size->s.heap.get? b=Z o->h'.get? b=Z o)) E) F.called_set.init.plain F.entry_set_init (check_set_init_1 hT ?_)) λr2 s2 hr2=>?_
   .obtain⟨⟨c0,d0,dt0,sl0⟩,hol,hcl,nl,hdl⟩:=hl;simp only at hcl hdl;subst hcl hdl;have hol':(s.heap.push<|U0 b).get? l=Z { cls:=.type "list", dict:=d0,data:=.seq its nl,slots:=sl0 }:=fw _ hol;have f1:=F.sub_list_set;have f2:=F.sub_list_frozenset;have f3:(Value.type "list" == Value.type "dict")=false:=by decide
    have hl1:(s.heap.push<|U0 b).IsList l its:=⟨_,hol',rfl,nl,rfl⟩;unfold Builtin.«set.__init__» noKeywords Builtin.Frozenset.updateFrom;generalize hPI:pyIter=PI
    wp_walk
    subst hPI;refine wpAny_pyIter_list hl1 (eK<|wpAny_runValue ?_);have lS:l < s.heap.objs.size:=fA hol;have h3:A.in1.in1.in1.handled=O:=by simp[hh]
    have nI:l≠(s.heap.push<|U0 b).objs.size:=by
     rw[Heap.size_push];exact aC<|cu lS
    have nf:s.heap.objs.size∉[(s.heap.push<|U0 b).objs.size,l]:=by
     rw[Heap.size_push];simp only[ao,aw,aB,or_false,not_or];exact⟨aC<|cV _,Nat.ne_of_gt lS⟩
    refine bI2 ((Walks.list h3 _ l nI its).toS) s.heap.objs.size nf (λi=>xs.getD i "") hi hb (its.size - 0) 0 _ (by grind) (aQ _) ⟨⟨_,fB _ rfl,rfl,rfl⟩,(hl1.push _)⟩ ?hS0 ?hR
    case hS0 =>
     have gt:((s.heap.push<|U0 b).push { cls:=.type "list_iterator", data:=.fields #[.ref l,.int 0 0] }).get? s.heap.objs.size=Z (U0 b):=fw _ g0;exact SetOf_congr ((setObjOf_fresh (knd:=strKind prog w) b).setOf gt (by unfold scanBound;grind)) (λ_=>rfl) rfl
    case hR =>
     intro s' mv q;obtain⟨h',g',d',tk',os'⟩:=s';have eg:g'=s.gens:=mv.gens;have ed:d'=s.drawn:=mv.drawn;have eo:os'=s.os:=mv.os;subst eg ed eo;show ft _ _ _ _ _ _;refine eM ?_;show ft _ _ (ret fJ) _ _ _;refine eM ⟨rfl,h',tk',rfl,q,λc o hc e=>?_⟩;have c1:c≠s.heap.objs.size:=aC hc
     have c2:c≠(s.heap.push<|U0 b).objs.size:=by
      rw[Heap.size_push];exact aC<|cu hc
     exact mv.heap c o (by simp only[ao,aw,aB,or_false,not_or];exact⟨c1,c2⟩)<|fw _ (fw _ e)
   .cases r2 with
    | error e=>exact hr2
    | ok fl2 =>
     cases fl2 with
     | ret r =>
      obtain⟨rfl,h',tk,rfl,q1,q2⟩:=hr2
      repeat (any_goals (first|assumption|wp_step))
      exact h _ _ q1 q2
     | _=>exact hr2.elim
  | _=>exact hr.elim
end
section
variable {X:Cx}
noncomputable def SetO(X:Cx)(a:fO)(n:Nat):HO:=.ext λh=>∃S,h.SetOf (strKind X.prog X.w) a S n
def cL5:ff "set" = Z (.type "set"):=by decide +kernel
theorem aY1:∀{ys:List Str}{us:List fM},E1 (ys.map V.str) us->∀(i:Nat) (u:fM),us[i]? = Z u->∃t,u=.str (ys.getD i "") t
 | [],[],_,i,u,h=>by simp at h
 | y::ys,u::us,h,i,v,e=>by
  cases h with
  | cons a b =>
   cases i with
   | zero =>
    simp only[cM,bf.injEq]at e;subst e;obtain⟨t,e⟩:=a;exact⟨t,e⟩
   | succ i =>
    simp only[dI]at e;obtain⟨t,e'⟩:=aY1 b i v e;exact⟨t,e'⟩
def bD9(hc:X.calm=true):U9 X (.type "set") (λxs H Q=>∃p ys,xs=[.ref p]/\SqL X.K H p (ys.map V.str)/\ys.length<=4000/\∀l,H l=O->Q (.ref l) (upd H l<|SetO X l (ddS ys).length)):=by
 intro pins s σ H xs us Q I r h;obtain⟨p,ys,rfl,hq,hz,q⟩:=h;obtain⟨u,rfl,rx⟩:=W3 r;cases rx;obtain⟨its,rv,pl,_⟩:=I.list hq;have hl:its.length=ys.length:=by have:=rv.length;rw[ag]at this;exact this.symm
 have hs:its.toArray.size=ys.length:=by rw[ap];exact hl
 refine aY5 (xs:=ys) (I.ok.hd hc) pl.isList (λi u e=>aY1 rv i u (by rw[List.getElem?_toArray]at e;exact e)) (by rw[hs];unfold scanBound;grind) λh' tk q1 q2=>?_
 rw[hs,cK8]at q1;refine⟨.ref _,_,I.laid (a:=s.heap.objs.size) (o:=SetO X s.heap.objs.size (ddS ys).length) (h':=h') (t':=tk) (λb o e=>q2 b o (fA e) e) (aj _) ⟨⟨_,q1⟩,?_,?_⟩,rfl,q _ I.fresh⟩
 .obtain⟨o,es,ep,t,ho,_⟩:=q1;exact⟨o,ho⟩
 .intro h1 h2 ⟨S,o,es,ep,t,ho,G9⟩ k;exact⟨S,o,es,ep,t,k o ho,G9⟩
def bE3:U9 X (.builtin "len") (λxs H Q=>∃p n,xs=[.ref p]/\H p=Z (SetO X p n)/\Q (.int n) H):=by
 intro pins s σ H xs us Q I r h;obtain⟨p,n,rfl,hp,q⟩:=h;obtain⟨u,rfl,rx⟩:=W3 r;cases rx;obtain⟨⟨S,o,es,ep,t,ho,hex,hd,_,_,hb,hf,hn⟩,_,_⟩:=I.hok p _ hp;have:es.size < 4096:=hb;exact call_len_set ho hex hd hf (by grind) ⟨.int n,H,I.tok _,⟨_,by rw[hn]⟩,q⟩
noncomputable def at3(f:Rho->Option (Bool×List D)):DE:=λρ=>(f ρ).bind λq=>if q.1=true then O else(ay9 q.2).bind λys=>if ys.length<=4000 then Z (.int (ddS ys).length) else O
def bA1(hg:Gl X "len")(hm:X.mg "len" = O)(hg2:Gl X "set")(hm2:X.mg "set" = O)(h:JQ X e f)(hc:X.calm=true)(he:eT [e] X.env=[(false,eval e X.env)]):
  JE X (.Call (.Name "len" p) [.Call (.Name "set" p2) [e] [] pos2] [] pos) (at3 f):=λρ d q=>by
 obtain⟨⟨t,ds⟩,h1,q⟩:=xbm q;split at q
 .cases q
 .rename_i ht;have ht:t=false:=by simpa using ht
  subst ht;obtain⟨ys,h2,q⟩:=xbm q;split at q
  .rename_i hz;cases q;refine C3 (Q9 bE3 hg hm bn3<|E3 (Z6 (bD9 hc) hg2 hm2 cL5 (E3 (h ρ false ds h1) J8 he) (he:=he)) J8 rfl) λσ H Q ⟨H0,Hf,s,sl,k⟩=>?_
   refine⟨H0,Hf,s,sl,λv H1 Hf1 g1 ⟨a,vs,e1,e2,e3⟩=>⟨a,ys,by rw[e1],?_,hz,λl hl=>⟨l,_,rfl,C5,?_⟩⟩⟩
   .rw[← av5 h2 e3];exact e2
   .exact k _ _ _ (g1.trans<|Grow.made g1.sub hl) rfl
  .cases q
end
section
variable {X:Cx}
noncomputable def ck8(x y:Str):Bool:=!(Builtin.Str.occurrences y x 0 y.length 1).isEmpty
noncomputable def inS(neg:Bool)(x y:D):Option D:=match x,y with
 | .str i,.str j=>Z<|.bool (if neg then !ck8 i j else ck8 i j)
 | _,_=>O
def cB5:OpD X (eW .In) (inS false):=λx y z h=>by
 cases x<;>cases y<;>first|(cases h;done)|skip
 rename_i i j;cases h;refine OpR.imp bx7 λvx vy H Q ⟨Hf,s,rx,ry,k⟩=>?_
 cases rx;cases ry;exact⟨i,j,rfl,rfl,k _ H Hf (Grow.refl s) rfl⟩
def by2:OpD X (eW .NotIn) (inS true):=λx y z h=>by
 cases x<;>cases y<;>first|(cases h;done)|skip
 rename_i i j;cases h;refine OpR.imp aT0 λvx vy H Q ⟨Hf,s,rx,ry,k⟩=>?_
 cases rx;cases ry;exact⟨i,j,rfl,rfl,k _ H Hf (Grow.refl s) rfl⟩
noncomputable def bu3(f:DE):DE:=λρ=>(f ρ).bind λd=>match d with
 | .str x=>if x.length<=16777216 then Z (.int x.length) else O
 | _=>O
def cj2(hg:Gl X "len")(hm:X.mg "len" = O)(h:JE X e f)(he:eT [e] X.env=[(false,eval e X.env)]):JE X (.Call (.Name "len" p) [e] [] pos) (bu3 f):=λρ d q=>by
 obtain⟨y,h1,h2⟩:=xbm q
 obtain⟨x,rfl⟩:∃x,y=.str x:=by
  cases y with
  | str x=>exact⟨x,rfl⟩
  | _=>cases h2
 have h2:(if x.length<=16777216 then Z (fE x.length) else O)=Z d:=h2;split at h2
 .rename_i hz;cases h2;refine C3 (Q9 aW4 hg hm bn3 (E3 (h ρ _ h1) J8 he) (he:=he)) λσ H Q ⟨H0,Hf,s,sl,k⟩=>?_
  refine⟨H0,Hf,s,sl,λv H1 Hf1 g1 r=>⟨x,?_,by rw[eV];exact hz,k _ H1 Hf1 g1 rfl⟩⟩;cases r;rfl
 .cases h2
noncomputable def Its(x:Str):It:=⟨λi _=>i < x.cps.size,λi H v H'=>H'=H/\∃c,x.cps[i]? = Z c/\v=.str ⟨#[c]⟩,λi _=>x.cps.size<=i⟩
def bH0{P:fb}{w:World}{K:ad}{tg:Expr}(x:Str)(t:Tok)(it:fO):Turn P w K tg (Its x) [it] it (λi h=>h.IsStrIter it "str_ascii_iterator" x t i) where
 mem:=by simp
 obj:=λi h st b hb=>by
  have e:b=it:=by simpa using hb
  subst e;obtain⟨o,e,c,d⟩:=st;exact⟨o,e,λv z=>by rw[d]at z;cases z⟩
 keep:=λi h h' st k=>by
  obtain⟨o,e,r⟩:=st;exact⟨o,k it (by simp) o e,r⟩
 item:=by
  intro X hP hw hK hc i pins s σ H E I hf st hg;subst hP hw hK;obtain⟨f0,f1,f2,f3,f4,f5⟩:=hf it (by simp);have hi:i < x.cps.size:=hg;refine wpAny_pyNext_ascii_item st (c:=x.cps[i]) (by simp[hi]) λh' st' sb=>?_
  have I1:Inv X pins σ H { s with heap:=h',toks:=s.toks+1 }:=I.turned (t':=s.toks+1) (λb o hb e=>(sb.2 b hb).trans e) f0 f1 f3 f4 f5;obtain⟨o,e,c,d⟩:=id st';exact⟨_,rfl,bt3 (s:={ s with heap:=h',toks:=s.toks+1 }) e c d (by decide) ⟨.str ⟨#[x.cps[i]]⟩,H,I1,⟨_,rfl⟩,⟨rfl,_,by simp[hi],rfl⟩,st',λb hb=>(hf b hb).1⟩⟩
 done:=by
  intro X hP hw hK hc i pins s σ H E I hf st hg;subst hP hw hK;obtain⟨f0,f1,f2,f3,f4,f5⟩:=hf it (by simp);have hi:x.cps.size<=i:=hg;exact wpAny_pyNext_ascii_end (I.ok.hd hc) st (by simp[hi]) λh' eb=>⟨rfl,I.turned (t':=s.toks) (λb o hb e=>eb b o hb e) f0 f1 f3 f4 f5⟩
 self:=λ_ _ _ _ _ st h=>wpAny_pyIter_striter_ascii st h
noncomputable def aY4(x:Str):List D:=x.cps.toList.map λc=>.str ⟨#[c]⟩
noncomputable def ck7(f:DE):Rho->Option (List D):=λρ=>(f ρ).bind λd=>match d with
 | .str x=>if x.cps.all (· < 128)=true then Z (aY4 x) else O
 | _=>O
def cG6{tg e:Expr}{f:DE}(h:JE X e f):JI X tg e (ck7 f):=λρ ds q=>by
 obtain⟨d,e1,e2⟩:=xbm q
 obtain⟨x,rfl⟩:∃x,d=.str x:=by
  cases d with
  | str x=>exact⟨x,rfl⟩
  | _=>cases e2
 have e2:(if x.cps.all (· < 128)=true then Z (aY4 x) else O)=Z ds:=e2;split at e2
 .rename_i ha;cases e2;intro pins s σ H R I ⟨H0,Hf,ss,sl,k⟩;refine thn (h ρ _ e1 pins s σ H (λv H'=>∃Hf',Grow H Hf H' Hf'/\v=.str x) I ⟨H0,Hf,ss,sl,λv H' Hf' g r=>⟨Hf',g,r⟩⟩) λv s1 ⟨y,H1,I1,r1,Hf1,g1,ey⟩=>?_
  subst ey;obtain⟨t,rfl⟩:=r1;refine wpAny_pyIter_ascii ha ?_;have I2:Inv X pins σ H1 { s1 with heap:=s1.heap.push { cls:=.type "str_ascii_iterator", data:=.fields #[.str x t,.int 0 0] } }:=I1.kept (t':=s1.toks) λb u e=>fw _ e
  refine⟨_,_,_,Its x,H1,rfl,I2,bH0 x t s1.heap.objs.size,⟨_,fB _ rfl,rfl,rfl⟩,λb hb=>?_,k _ H1 Hf1 g1 λi H' Hf' sa sb=>⟨λhi=>?_,λd hd=>?_⟩⟩
  .have hb':s1.heap.objs.size<=b:=by rw[aw]at hb;rw[hb];exact aj _
   exact I1.fpOk hb'<|I1.hok.fresh hb'
  .show x.cps.size<=i;simpa [aY4] using hi
  .unfold aY4 at hd;rw[aF]at hd;obtain⟨c,c1,c2⟩:=xmo hd;have c1':x.cps[i]? = Z c:=by rw[← eF];exact c1
   refine⟨(Array.getElem?_eq_some_iff.mp c1').1,λv H'' ⟨h1,c',h2,h3⟩=>?_⟩;subst h1 h3 c2;rw[c1']at h2;cases h2;exact⟨Hf',Grow.refl sb,rfl⟩
 .cases e2
end
end G
namespace G
open PySem PySem.Spec PyProof PyProof.Rows L2
section
variable {X:Cx}
noncomputable def mnF(m x:Int):Int:=if x < m then x else m
noncomputable def mxF(m x:Int):Int:=if x > m then x else m
noncomputable def mnL:List Int->Int
 | []=>0
 | a::r=>r.foldl mnF a
noncomputable def mxL:List Int->Int
 | []=>0
 | a::r=>r.foldl mxF a
theorem br5:∀(l:List Int) (z:Int),(l.foldl mnF z=z\/l.foldl mnF z∈l)/\l.foldl mnF z<=z/\∀a∈l,l.foldl mnF z<=a
 | [],z=>⟨.inl rfl,Int.le_refl _,λa h=>by simp at h⟩
 | x::l,z=>by
  obtain⟨h1,h2,h3⟩:=br5 l (mnF z x);rw[bA];have k:(mnF z x=z\/mnF z x=x)/\mnF z x<=z/\mnF z x<=x:=by unfold mnF;split<;>omega
  refine⟨?_,by omega,λa ha=>?_⟩
  .rcases h1 with h|h
   .rcases k.1 with q|q
    .left;rw[h,q]
    .right;rw[h,q];exact ah ..
   .right;exact xmm _ h
  .rcases ao.mp ha with rfl|ha
   .omega
   .exact h3 a ha
theorem br4:∀(l:List Int) (z:Int),(l.foldl mxF z=z\/l.foldl mxF z∈l)/\z<=l.foldl mxF z/\∀a∈l,a<=l.foldl mxF z
 | [],z=>⟨.inl rfl,Int.le_refl _,λa h=>by simp at h⟩
 | x::l,z=>by
  obtain⟨h1,h2,h3⟩:=br4 l (mxF z x);rw[bA];have k:(mxF z x=z\/mxF z x=x)/\z<=mxF z x/\x<=mxF z x:=by unfold mxF;split<;>omega
  refine⟨?_,by omega,λa ha=>?_⟩
  .rcases h1 with h|h
   .rcases k.1 with q|q
    .left;rw[h,q]
    .right;rw[h,q];exact ah ..
   .right;exact xmm _ h
  .rcases ao.mp ha with rfl|ha
   .omega
   .exact h3 a ha
def bN2(h:l≠[]):mnL l∈l/\∀a∈l,mnL l<=a:=by
 cases l with
 | nil=>exact absurd rfl h
 | cons x l =>
  obtain⟨h1,h2,h3⟩:=br5 l x;refine⟨?_,λa ha=>?_⟩
  .rcases h1 with h|h
   .show l.foldl mnF x∈_;rw[h];exact ah ..
   .exact xmm _ h
  .rcases ao.mp ha with rfl|ha
   .exact h2
   .exact h3 a ha
def aH0(h:l≠[]):mxL l∈l/\∀a∈l,a<=mxL l:=by
 cases l with
 | nil=>exact absurd rfl h
 | cons x l =>
  obtain⟨h1,h2,h3⟩:=br4 l x;refine⟨?_,λa ha=>?_⟩
  .rcases h1 with h|h
   .show l.foldl mxF x∈_;rw[h];exact ah ..
   .exact xmm _ h
  .rcases ao.mp ha with rfl|ha
   .exact h2
   .exact h3 a ha
noncomputable def aH9:List D->Option (List Int)
 | []=>Z []
 | .int i::r=>(aH9 r).map λys=>i::ys
 | _::_=>O
theorem ah8{K:ad}{H:Hp}:∀{ds:List D}{ys:List Int}{vs:List V},aH9 ds=Z ys->Reps K H ds vs->vs=ys.map V.int
 | [],ys,vs,h,r=>by cases h;exact r
 | .int x::ds,ys,vs,h,r=>by
  obtain⟨zs,h1,h2⟩:=xmo h;subst h2;obtain⟨v,t,e1,e2,e3⟩:=r;subst e1;rw[show v=_ from e2,ah8 h1 e3];rfl
theorem V0:∀{ys:List Int}{us:List fM},E1 (ys.map V.int) us->∃xs:List (Int×Tok),us=xs.map (λp=>.int p.1 p.2)/\xs.map (·.1)=ys
 | [],[],_=>⟨[],rfl,rfl⟩
 | y::ys,u::us,h=>by
  cases h with
  | cons a b =>
   obtain⟨xs,e1,e2⟩:=V0 b;obtain⟨t,rfl⟩:=a;exact⟨(y,t)::xs,by rw[e1];rfl,by rw[bF,e2]⟩
def bE0(hc:X.calm=true):U9 X (.builtin "min") (λxs H Q=>∃p ns,xs=[.ref p]/\SqL X.K H p (ns.map V.int)/\ns≠[]/\Q (.int<|mnL ns) H):=by
 intro pins s σ H xs us Q I r h;obtain⟨p,ns,rfl,hq,hz,q⟩:=h;obtain⟨u,rfl,rx⟩:=W3 r;cases rx;obtain⟨its,rv,pl,_⟩:=I.list hq;obtain⟨zs,e1,e2⟩:=V0 rv
 have hl:s.heap.IsList p (intItems zs.toArray):=by
  have:=pl.isList;rw[e1]at this;simpa [intItems] using this
 have hzs:zs.toArray.toList.map (·.1)=ns:=by simpa using e2
 have hn:0 < zs.toArray.size:=by
  cases zs with
  | nil=>exact absurd e2.symm hz
  | cons=>simp
 refine min_intList (I.ok.hd hc) hl hn λv h' tk hv hk=>?_
 obtain⟨t,rfl⟩:=intItems_at hv;obtain⟨b1,b2⟩:=argBest_lt (numAt zs.toArray)<|zs.toArray.size - 1
 have key:numAt zs.toArray (argBest (λi j=>decide (numAt zs.toArray i < numAt zs.toArray j))<|zs.toArray.size - 1)=mnL ns:=by
  obtain⟨m1,m2⟩:=bN2 hz;have g:∀j,j < zs.toArray.size->numAt zs.toArray j∈ns:=λj hj=>by rw[numAt_eq,hzs];exact getD_mem (by rw[← hzs,ag,aV];omega)
  refine dU ?_ (m2 _<|g _ (by omega));rw[← hzs]at m1;obtain⟨j,hj,e⟩:=mem_getD m1;rw[ag,aV]at hj;have:=b2 j (by omega);rw[numAt_eq zs.toArray j,e,hzs]at this;exact this
 rw[key];exact⟨.int _,H,I.kept (t':=tk) hk,⟨_,rfl⟩,q⟩
def cm9{zs:List (Int×Tok)}{ns:List Int}(hzs:zs.toArray.toList.map (·.1)=ns)(hz:ns≠[])(hn:0 < zs.toArray.size):numAt zs.toArray (argBest (λi j=>decide (numAt zs.toArray i > numAt zs.toArray j))<|zs.toArray.size - 1)=mxL ns:=by
 obtain⟨b1,b2⟩:=argBest_gt (numAt zs.toArray) (zs.toArray.size - 1);obtain⟨m1,m2⟩:=aH0 hz;have g:∀j,j < zs.toArray.size->numAt zs.toArray j∈ns:=λj hj=>by rw[numAt_eq,hzs];exact getD_mem (by rw[← hzs,ag,aV];omega)
 refine dU (m2 _<|g _ (by omega)) ?_;rw[← hzs]at m1;obtain⟨j,hj,e⟩:=mem_getD m1;rw[ag,aV]at hj;have:=b2 j (by omega);rw[numAt_eq zs.toArray j,e,hzs]at this;exact this
def bE1(hc:X.calm=true):U9 X (.builtin "max") (λxs H Q=>∃p ns,xs=[.ref p]/\SqT X.K H p (ns.map V.int)/\ns≠[]/\Q (.int<|mxL ns) H):=by
 intro pins s σ H xs us Q I r h;obtain⟨p,ns,rfl,hq,hz,q⟩:=h;obtain⟨u,rfl,rx⟩:=W3 r;cases rx;obtain⟨its,rv,pl,_⟩:=I.tuple hq;obtain⟨zs,e1,e2⟩:=V0 rv
 have hl:s.heap.IsTuple p (intItems zs.toArray):=by
  have:s.heap.IsTuple p its.toArray:=pl;rw[e1]at this;simpa [intItems] using this
 have hzs:zs.toArray.toList.map (·.1)=ns:=by simpa using e2
 have hn:0 < zs.toArray.size:=by
  cases zs with
  | nil=>exact absurd e2.symm hz
  | cons=>simp
 have hA:X.A.in1.handled=O:=I.ok.hd hc;obtain⟨o,ho,hcl,n,hd⟩:=hl;have lt:=fA ho;refine call_max_walk (wpAny_pyIter_tuple ⟨o,ho,hcl,n,hd⟩ ?_);refine⟨s.heap.objs.size,_,_,_,_,_,_,rfl,Walks.tuple hA s.heap.objs.size p (aC lt)<|intItems zs.toArray,⟨?_,⟨o,fw _ ho,hcl,n,hd⟩⟩,?_,by simpa [intItems] using hn,CmpOf.ints_gt (numAt zs.toArray) λi v hv=>intItems_at hv,λv h' tk hv hk=>?_⟩
 .exact⟨_,fB _ rfl,rfl,rfl⟩
 .intro b hb;simp only[ao,aB,or_false]at hb;rw[Heap.size_push];rcases hb with rfl|rfl
  .exact cV _
  .exact cu lt
 .obtain⟨t,rfl⟩:=intItems_at hv;have sz:(intItems zs.toArray).size=zs.toArray.size:=by simp[intItems]
  rw[sz,cm9 hzs hz hn]
  exact⟨.int _,H,I.kept (t':=tk) (λb o e=>hk b o (by
   simp only[ao,aB,or_false]
   exact aC (fA e)) (fw _ e)),⟨_,rfl⟩,q⟩
def bE2(hc:X.calm=true):U9 X (.builtin "max") (λxs H Q=>∃p ns,xs=[.ref p]/\SqL X.K H p (ns.map V.int)/\ns≠[]/\Q (.int<|mxL ns) H):=by
 intro pins s σ H xs us Q I r h;obtain⟨p,ns,rfl,hq,hz,q⟩:=h;obtain⟨u,rfl,rx⟩:=W3 r;cases rx;obtain⟨its,rv,pl,_⟩:=I.list hq;obtain⟨zs,e1,e2⟩:=V0 rv
 have hl:s.heap.IsList p (intItems zs.toArray):=by
  have:=pl.isList;rw[e1]at this;simpa [intItems] using this
 have hzs:zs.toArray.toList.map (·.1)=ns:=by simpa using e2
 have hn:0 < zs.toArray.size:=by
  cases zs with
  | nil=>exact absurd e2.symm hz
  | cons=>simp
 refine max_intList (I.ok.hd hc) hl hn λv h' tk hv hk=>?_
 obtain⟨t,rfl⟩:=intItems_at hv;obtain⟨b1,b2⟩:=argBest_gt (numAt zs.toArray)<|zs.toArray.size - 1
 have key:numAt zs.toArray (argBest (λi j=>decide (numAt zs.toArray i > numAt zs.toArray j))<|zs.toArray.size - 1)=mxL ns:=by
  obtain⟨m1,m2⟩:=aH0 hz;have g:∀j,j < zs.toArray.size->numAt zs.toArray j∈ns:=λj hj=>by rw[numAt_eq,hzs];exact getD_mem (by rw[← hzs,ag,aV];omega)
  refine dU (m2 _<|g _ (by omega)) ?_;rw[← hzs]at m1;obtain⟨j,hj,e⟩:=mem_getD m1;rw[ag,aV]at hj;have:=b2 j (by omega);rw[numAt_eq zs.toArray j,e,hzs]at this;exact this
 rw[key];exact⟨.int _,H,I.kept (t':=tk) hk,⟨_,rfl⟩,q⟩
noncomputable def cX6(f:Rho->Option (Bool×List D)):DE:=λρ=>(f ρ).bind λq=>if q.1=true then O else(aH9 q.2).bind λns=>if ns=[] then O else Z (.int<|mnL ns)
noncomputable def bu2(f:Rho->Option (Bool×List D)):DE:=λρ=>(f ρ).bind λq=>(aH9 q.2).bind λns=>if ns=[] then O else Z (.int<|mxL ns)
def cZ5(hg:Gl X "min")(hm:X.mg "min" = O)(h:JQ X e f)(hc:X.calm=true)(he:eT [e] X.env=[(false,eval e X.env)]):JE X (.Call (.Name "min" p) [e] [] pos) (cX6 f):=λρ d q=>by
 obtain⟨⟨t,ds⟩,h1,q⟩:=xbm q;split at q
 .cases q
 .rename_i ht;have ht:t=false:=by simpa using ht
  subst ht;obtain⟨ys,h2,q⟩:=xbm q;split at q
  .cases q
  .rename_i hz;cases q;refine C3 (Q9 (bE0 hc) hg hm cL6 (E3 (h ρ false ds h1) J8 he) (he:=he)) λσ H Q ⟨H0,Hf,s,sl,k⟩=>?_
   refine⟨H0,Hf,s,sl,λv H1 Hf1 g1 ⟨a,vs,e1,e2,e3⟩=>⟨a,ys,by rw[e1],?_,hz,?_⟩⟩
   .rw[← ah8 h2 e3];exact e2
   .exact k _ _ _ g1 rfl
def cj1(hg:Gl X "max")(hm:X.mg "max" = O)(h:JQ X e f)(hc:X.calm=true)(he:eT [e] X.env=[(false,eval e X.env)]):JE X (.Call (.Name "max" p) [e] [] pos) (bu2 f):=λρ d q=>by
 obtain⟨⟨t,ds⟩,h1,q⟩:=xbm q;obtain⟨ys,h2,q⟩:=xbm q;split at q
 .cases q
 .rename_i hz;cases q;cases t with
  | false =>
   refine C3 (Q9 (bE2 hc) hg hm bY0 (E3 (h ρ false ds h1) J8 he) (he:=he)) λσ H Q ⟨H0,Hf,s,sl,k⟩=>?_
   refine⟨H0,Hf,s,sl,λv H1 Hf1 g1 ⟨a,vs,e1,e2,e3⟩=>⟨a,ys,by rw[e1],?_,hz,?_⟩⟩
   .rw[← ah8 h2 e3];exact e2
   .exact k _ _ _ g1 rfl
  | true =>
   refine C3 (Q9 (bE1 hc) hg hm bY0 (E3 (h ρ true ds h1) J8 he) (he:=he)) λσ H Q ⟨H0,Hf,s,sl,k⟩=>?_
   refine⟨H0,Hf,s,sl,λv H1 Hf1 g1 ⟨a,vs,e1,e2,e3⟩=>⟨a,ys,by rw[e1],?_,hz,?_⟩⟩
   .rw[← ah8 h2 e3];exact e2
   .exact k _ _ _ g1 rfl
end
end G
namespace G
open PySem PySem.Spec PyProof.Rows L2
section
open PySem.SeqAt PySem.MeetsSeq PySem.MeetsSeq2 PySem.MeetsSeq3 PySem.SeqRoads2
open PySem.AutoSeq1 (wpAny_loadPart')
def bg9(l:fO)(items:Array fM)(n:Nat)(dd:Option fO)(sl:Array (Option fM))(x:fM)(e:Nat->Bool)(j:Nat)(hj:j < items.size)(hit:e j=true)(hno:∀m,m < j->e m=false):
  Meets (Builtin.«tuple.index» ⟨[.ref l,x],[]⟩)
   (λA R s=>s.heap.get? l=Z { cls:=.type "tuple", dict:=dd,data:=.seq items n,slots:=sl }/\(∀j (h:j < items.size),EqAt A.in1 s items[j] x (e j))/\R (.ok<|.ret (.int j s.toks)) { s with toks:=s.toks+1 }) :=
 .of_wp λprog w A R s h=>by
  obtain⟨hp,g,d,tk,os⟩:=s;obtain⟨hl,he,h⟩:=h;unfold Builtin.«tuple.index»;simp only[Std.Legacy.Range.forIn_eq_forIn_range']
  wp_walk using wpAny_loadPart' hl,wpAny_forIn_list _ (λG9 b s'=>b.1=O/\s'=⟨hp,g,d,tk,os⟩/\∃i,i<=j/\G9=List.range' i (items.size - i)) _
  case turn =>
   rintro y G9 b s' ⟨hb,rfl,i,hij,hz⟩
   obtain⟨m,hm⟩:∃m,items.size - i=m+1:=⟨items.size - i - 1,by grind⟩;rw[hm,List.range'_succ]at hz;injection hz with hy hrest
   subst hy;have hi:y < items.size:=by grind
   have e1:items[y]? = Z items[y]:=by simp[hi]
   rw[e1];refine eK (he y hi prog w _ _ ?_);rcases bG y j with q|q
   .rw[hno y q]
    wp_walk
    exact⟨rfl,rfl,y+1,q,by rw[hrest];congr 1;grind⟩
   .have:y=j:=by grind
    subst this;rw[hit]
    wp_walk
    exact⟨_,rfl,h⟩
  case fin =>
   rintro⟨b1,b2⟩ s' ⟨hb,rfl,i,hij,hz⟩
   exfalso
   have:items.size - i=0:=by
    cases q:items.size - i with
    | zero=>rfl
    | succ m=>rw[q,List.range'_succ]at hz;cases hz
   grind
  case h =>
   refine⟨rfl,rfl,0,aQ _,?_⟩;simp[Std.Legacy.Range.size]
end
section
variable {X:Cx}
noncomputable def db6(X:Cx)(ds:List D)(x:D)(j:Nat):V->List V->Hp->VK->Prop:=λvt vs H Q=>∃Hf vx,vs=[vx]/\E2 Hf H/\Rep X.K Hf (.tuple ds) vt/\Rep X.K Hf x vx/\Q (.int j) H
def bM9(hu:X.A.units+64 < cLine)(sx:fC x=true)(dx:x.depth<=60)(sd:ds.all fC=true)(hj:ds.findIdx? (λy=>fD y x)=Z j):MtR X "tuple.index" (db6 X ds x j):=by
 intro pins s σ H vt vs v us Q I rt rv ⟨Hf,vx,e,ss,r1,r2,q⟩;subst e;obtain⟨u,rfl,rx⟩:=W3 rv;obtain⟨p,ws,rfl,h2,h3⟩:=r1;obtain rfl:v=fI p:=rt;obtain⟨its,pl,ln,he⟩:=bp1 hu sx dx sd I rx ss r2 h2 h3;obtain⟨⟨cls,dd,data,sl⟩,ho,hc,n,hd⟩:=id pl;simp only at hc hd;subst hc hd;obtain⟨h1,h4,h5⟩:=bY.mp hj;refine fo F.slot_tuple_index ⟨_,ho,rfl⟩ F.entry_tuple_index (F.args_tuple_index_2 _ _) (bg9 p its.toArray n dd sl u (λm=>fD (ds.getD m .none) x) j (by rw[ap,ln];exact h1) (by simpa [h1] using h4) λm hm=>?_) ⟨ho,he,.int j,H,I.tok _,⟨_,rfl⟩,q⟩;have hm':m < ds.length:=by omega
 have:=h5 m hm;simpa [hm'] using this
abbrev hfX(X:Cx)(e:Expr)(cpos:Pos):Prop:=((backTo cpos<|eT [e] X.env).all (λx=>!x.1)&&(backToKw cpos<|keywordEach [] X.env).all (λx=>x.1.isSome)&&decide (([e]:List Expr).length+([]:List fh).length+(if([]:List fh).isEmpty then 0 else 1) < 30))=true
def cA2{o e:Expr}{to:TE}{t:TA}{name:Str}{apos cpos:Pos}{id:String}{r:V->List V->Hp->VK->Prop}(slot:Slot "tuple" name id)(hty:typeOf (.builtin id)=pure (.type "method_descriptor"))(hm:MtR X id r)(ho:PE X o to)(ha:PA X [e] t)
  (hbase:fq o name X.env (eval o X.env)=eval o X.env)
  (hfew:hfX X e cpos)
  (hline:(apos.endLine==cpos.line)=true) (hs:eT [e] X.env=[(false,eval e X.env)]) :
  PE X (.Call (.Attribute o name apos) [e] [] cpos) (λσ H Q=>to σ H λx H1=>(∃p xs,x=.ref p/\SqT X.K H1 p xs)/\t σ H1 λxs H2=>r x xs H2 Q):=by
 intro pins s σ H Q I h;refine wpAny_Call_method_late hbase hfew hline rfl (thn (ho pins s σ H _ I h) λv s1 ⟨x,H1,I1,r1,⟨p,xs,e1,e2⟩,q1⟩=>?_);subst e1;obtain rfl:v=fI p:=r1;obtain⟨its,_,⟨ob,g1,g2,_,g4⟩,_⟩:=I1.tupN e2;refine⟨"tuple", id,F.plainAttrs_tuple,slot,hty,⟨ob,g1,g2⟩,λa ea=>?_,?_⟩
 .cases ea;exact⟨ob,g1,g4⟩
 have hA:=ha cpos pins s1 σ H1 _ I1 q1;rw[hs]at hA ⊢;refine Calls.callWith_builtin (by rfl) (Calls.evalArgs_plain ?_);exact thn hA λus s2 ⟨vs,H2,I2,r2,q2⟩=>hm pins s2 σ H2 (.ref p) vs (.ref p) us Q I2 rfl r2 q2
noncomputable def bW6(f g:DE):DE:=λρ=>(f ρ).bind λt=>(g ρ).bind λx=>match t with
 | .tuple ds=>if fC x=true/\x.depth<=60/\ds.all fC=true then(ds.findIdx? λy=>fD y x).map (λ(j:Nat)=>fE (j:Int)) else O
 | _=>O
def bQ4(hu:X.A.units+64 < cLine)(ho:JE X o f)(h:JE X e g)(hbase:fq o "index" X.env (eval o X.env)=eval o X.env)
  (hfew:hfX X e cpos)
  (hline:(apos.endLine==cpos.line)=true) (hs:eT [e] X.env=[(false,eval e X.env)]):JE X (.Call (.Attribute o "index" apos) [e] [] cpos) (bW6 f g):=λρ d q=>by
 obtain⟨t,e1,q⟩:=xbm q;obtain⟨x,e2,q⟩:=xbm q;cases t with
 | tuple ds =>
  simp only at q;split at q
  .rename_i c;obtain⟨j,hj,rfl⟩:=xmo q;refine C3 (cA2 F.slot_tuple_index F.type_tuple_index (bM9 hu c.1 c.2.1 c.2.2 hj) (ho ρ _ e1) (E3 (h ρ _ e2) J8 hs) hbase hfew hline hs) λσ H Q ⟨H0,Hf,s,sl,k⟩=>?_
   refine⟨H0,Hf,s,sl,λv H1 Hf1 g1 r1=>?_⟩;have r1':=r1;obtain⟨p,vs,rfl,h2,h3⟩:=r1;refine⟨⟨p,vs,rfl,D5 g1.sub h2⟩,H0,Hf1,g1.sub,sl.grow g1,λw H2 Hf2 g2 r2=>?_⟩;exact⟨Hf2,w,rfl,g2.sub,r1'.mono g2.ext,r2,k _ H2 Hf2 (g1.trans g2) rfl⟩
  .cases q
 | _=>cases q
end
section
variable {X:Cx}
noncomputable def flV:fM->D
 | .bool b=>.bool b
 | .int i _=>.int i
 | .str x _=>.str x
 | _=>.none
def cK2(f:M1 d=true)(r:D9 (toV d) y):flV y=d:=by
 cases d with
 | none=>cases r;rfl
 | bool b=>cases r;rfl
 | int i=>obtain⟨t,rfl⟩:=r;rfl
 | str x=>obtain⟨t,rfl⟩:=r;rfl
 | tuple _=>cases f
 | list _=>cases f
 | dict _=>cases f
theorem bt9:∀{ds:List D}{its:List fM},ds.all M1=true->E1 (ds.map toV) its->its.map flV=ds
 | [],its,_,r=>by cases r;rfl
 | d::ds,its,f,r=>by
  rw[bz,af]at f;cases r with
  | cons r1 r2=>rw[bF,cK2 f.1 r1,bt9 f.2 r2]
def bs0(hu:X.A.units+64 < cLine)(sx:fC x=true)(dx:x.depth<=60)(sd:ds.all fC=true)(fd:ds.all M1=true)(I:L2.Inv X pins σ H s)(rx:D9 vx v)(ss:E2 Hf H)(r1:Rep X.K Hf x vx)(h2:SqL X.K Hf p vs)(h3:Reps X.K Hf ds vs):
  ∃its:List fM,PlainL s.heap p its.toArray/\its.map flV=ds/\its.length<=eU/\∀y∈its.toArray,SeqAt.EqAt X.A.in1 s y v (fD (flV y) x):=by
 obtain⟨its,rv,pl,hz⟩:=I.list (F7 ss h2);have hz':its.length<=eU:=by rw[← rv.length];exact hz
 obtain⟨as,rd⟩:=Rep.reads I (r1.mono ss) rx;obtain⟨bs,ra⟩:=Reps.reads I (h3.mono ss) rv;obtain⟨e1,e2⟩:=cy1 ra
 have fm:its.map flV=ds:=by
  obtain⟨e,_⟩:=ah9 fd h3;subst e;exact bt9 fd rv
 refine⟨its,pl,fm,hz',λy hy=>?_⟩;obtain⟨j,hj,rfl⟩:=List.getElem_of_mem (List.mem_toArray.mp hy);obtain⟨cs,q⟩:=e2 j hj;have hd:j < ds.length:=by grind
 have sj:=aK.mp sd _<|aS hd
 have ej:flV its[j]=ds[j]:=by
  have:(its.map flV)[j]'(by simpa using hj)=ds[j]:=by simp only[fm]
  rwa [List.getElem_map]at this
 have eg:ds.getD j .none=ds[j]:=by simp[hd]
 rw[eg]at q;rw[ej];have:=SeqAt.eqAt_reads ds[j] x X.A.in1 s _ _ _ _ q rd (SeqAt.canLay_of_shaped sj) (SeqAt.canLay_of_shaped sx) (by show X.A.units+1+_ < _;have:=dF ds[j].depth x.depth;grind);simpa using this
noncomputable def cy3(X:Cx)(ds:List D)(x z:D):V->List V->Hp->VK->Prop:=λvt vs H Q=>∃Hf vx,vs=[vx]/\E2 Hf H/\Rep X.K Hf (.list ds) vt/\Rep X.K Hf x vx/\∀v,Rep X.K Hf z v->Q v H
def bz0(hu:X.A.units+64 < cLine)(sx:fC x=true)(dx:x.depth<=60)(sd:ds.all fC=true)(fd:ds.all M1=true):MtR X "list.count" (cy3 X ds x<|.int (ds.countP λy=>fD y x)):=by
 intro pins s σ H vt vs v us Q I rt rv ⟨Hf,vx,e,ss,r1,r2,q⟩;subst e;obtain⟨u,rfl,rx⟩:=W3 rv;obtain⟨p,ws,rfl,h2,h3⟩:=r1;obtain rfl:v=fI p:=rt;obtain⟨its,pl,fm,_,he⟩:=bs0 hu sx dx sd fd I rx ss r2 h2 h3;obtain⟨⟨cls,dd,data,sl⟩,n,ho,hc,hd0,hd⟩:=pl;simp only at hc hd hd0;subst hc hd hd0;refine fo F.slot_list_count ⟨_,ho,rfl⟩ F.entry_list_count (F.args_list_count_2 _ _) (SeqAt.list_countAt p its.toArray n O sl u λy=>fD (flV y) x) ⟨ho,he,.int<|ds.countP λy=>fD y x,H,I.tok _,⟨s.toks,?_⟩,q _ rfl⟩;have:(its.countP λy=>fD (flV y) x)=ds.countP λy=>fD y x:=by rw[← fm,List.countP_map];rfl
 rw[← this]
def by9(hu:X.A.units+64 < cLine){ds:List D}{x:D}{j:Nat}(sx:fC x=true)(dx:x.depth<=60)(sd:ds.all fC=true)(fd:ds.all M1=true)(hj:ds.findIdx? (λy=>fD y x)=Z j):MtR X "list.index" (cy3 X ds x<|.int j):=by
 intro pins s σ H vt vs v us Q I rt rv ⟨Hf,vx,e,ss,r1,r2,q⟩;subst e;obtain⟨u,rfl,rx⟩:=W3 rv;obtain⟨p,ws,rfl,h2,h3⟩:=r1;obtain rfl:v=fI p:=rt;obtain⟨its,pl,fm,hz,he⟩:=bs0 hu sx dx sd fd I rx ss r2 h2 h3;obtain⟨⟨cls,dd,data,sl⟩,n,ho,hc,hd0,hd⟩:=pl;simp only at hc hd hd0;subst hc hd hd0;obtain⟨h1,h4,h5⟩:=bY.mp hj;have ln:its.length=ds.length:=by rw[← fm,ag]
 have ej:∀(m:Nat) (hm:m < its.length),flV its[m]=ds[m]'(by grind):=λm hm=>by
  have:(its.map flV)[m]'(by simpa using hm)=ds[m]'(by grind):=by simp only[fm]
  rwa [List.getElem_map]at this
 have hn:=an7;refine fo F.slot_list_index ⟨_,ho,rfl⟩ F.entry_list_index (F.args_list_index_2 _ _) (SeqAt.list_indexAt p its.toArray n O sl u (λy=>fD (flV y) x) j (by rw[ap];grind) (by grind) (by simpa [ej j (by grind)] using h4) λm hm hmj=>?_) ⟨ho,he,.int j,H,I.tok _,⟨_,rfl⟩,q _ rfl⟩;have hm':m < its.length:=by simpa using hm
 have:=h5 m hmj;simpa [ej m hm'] using this
def cA3{o e:Expr}{to:TE}{t:TA}{name:Str}{apos cpos:Pos}{id:String}{r:V->List V->Hp->VK->Prop}(slot:Slot "list" name id)(hty:typeOf (.builtin id)=pure (.type "method_descriptor"))(hm:MtR X id r)(ho:PE X o to)(ha:PA X [e] t)
  (hbase:fq o name X.env (eval o X.env)=eval o X.env)
  (hfew:hfX X e cpos)
  (hline:(apos.endLine==cpos.line)=true) (hs:eT [e] X.env=[(false,eval e X.env)]) :
  PE X (.Call (.Attribute o name apos) [e] [] cpos) (λσ H Q=>to σ H λx H1=>(∃p xs,x=.ref p/\SqL X.K H1 p xs)/\t σ H1 λxs H2=>r x xs H2 Q):=by
 intro pins s σ H Q I h;refine wpAny_Call_method_late hbase hfew hline rfl (thn (ho pins s σ H _ I h) λv s1 ⟨x,H1,I1,r1,⟨p,xs,e1,e2⟩,q1⟩=>?_);subst e1;obtain rfl:v=fI p:=r1;obtain⟨its,_,⟨ob,n,g1,g2,g4,_⟩,_⟩:=I1.list e2;refine⟨"list", id,F.plainAttrs_list,slot,hty,⟨ob,g1,g2⟩,λa ea=>?_,?_⟩
 .cases ea;exact⟨ob,g1,g4⟩
 have hA:=ha cpos pins s1 σ H1 _ I1 q1;rw[hs]at hA ⊢;refine Calls.callWith_builtin (by rfl) (Calls.evalArgs_plain ?_);exact thn hA λus s2 ⟨vs,H2,I2,r2,q2⟩=>hm pins s2 σ H2 (.ref p) vs (.ref p) us Q I2 rfl r2 q2
def lsB(x:D)(ds:List D):Prop:=fC x=true/\x.depth<=60/\ds.all fC=true/\ds.all M1=true
instance (x:D) (ds:List D):Decidable (lsB x ds):=by unfold lsB;exact inferInstance
noncomputable def bm6(f g:DE):DE:=λρ=>(f ρ).bind λt=>(g ρ).bind λx=>match t with
 | .list ds=>if lsB x ds then Z (.int<|ds.countP λy=>fD y x) else O
 | _=>O
noncomputable def aE1(f g:DE):DE:=λρ=>(f ρ).bind λt=>(g ρ).bind λx=>match t with
 | .list ds=>if lsB x ds then(ds.findIdx? λy=>fD y x).map (λ(j:Nat)=>fE (j:Int)) else O
 | _=>O
def bs8{o e:Expr}{f g:DE}{name:Str}{id:String}{apos cpos:Pos}{ρ:Rho}{ds:List D}{x z:D}(slot:Slot "list" name id)(hty:typeOf (.builtin id)=pure (.type "method_descriptor"))(hm:MtR X id (cy3 X ds x z))(ho:JE X o f)(h:JE X e g)(hz:∀Hf Hf' v,Rep X.K Hf z v->Rep X.K Hf' z v)(e1:f ρ=Z (.list ds))(e2:g ρ=Z x)(hbase:fq o name X.env (eval o X.env)=eval o X.env)
  (hfew:hfX X e cpos)
  (hline:(apos.endLine==cpos.line)=true) (hs:eT [e] X.env=[(false,eval e X.env)]):PE X (.Call (.Attribute o name apos) [e] [] cpos) (tJ X.K ρ λ_ v _ Hf=>Rep X.K Hf z v):=by
 refine C3 (cA3 slot hty hm (ho ρ _ e1) (E3 (h ρ _ e2) J8 hs) hbase hfew hline hs) λσ H Q ⟨H0,Hf,s,sl,k⟩=>?_
 refine⟨H0,Hf,s,sl,λv H1 Hf1 g1 r1=>?_⟩;have r1':=r1;obtain⟨p,vs,rfl,h2,h3⟩:=r1;refine⟨⟨p,vs,rfl,F7 g1.sub h2⟩,H0,Hf1,g1.sub,sl.grow g1,λw H2 Hf2 g2 r2=>?_⟩;exact⟨Hf2,w,rfl,g2.sub,r1'.mono g2.ext,r2,λv rv=>k _ H2 Hf2 (g1.trans g2) rv⟩
def bQ5(hu:X.A.units+64 < cLine)(ho:JE X o f)(h:JE X e g)(hbase:fq o "count" X.env (eval o X.env)=eval o X.env)
  (hfew:hfX X e cpos)
  (hline:(apos.endLine==cpos.line)=true) (hs:eT [e] X.env=[(false,eval e X.env)]):JE X (.Call (.Attribute o "count" apos) [e] [] cpos) (bm6 f g):=λρ d q=>by
 obtain⟨t,e1,q⟩:=xbm q;obtain⟨x,e2,q⟩:=xbm q;cases t with
 | list ds =>
  simp only at q;split at q
  .rename_i c;cases q;exact bs8 F.slot_list_count F.type_list_count (bz0 hu c.1 c.2.1 c.2.2.1 c.2.2.2) ho h (λ_ _ _ r=>r) e1 e2 hbase hfew hline hs
  .cases q
 | _=>cases q
def aO5{o e:Expr}{f g:DE}{apos cpos:Pos}(hu:X.A.units+64 < cLine)(ho:JE X o f)(h:JE X e g)(hbase:fq o "index" X.env (eval o X.env)=eval o X.env)
  (hfew:hfX X e cpos)
  (hline:(apos.endLine==cpos.line)=true) (hs:eT [e] X.env=[(false,eval e X.env)]):JE X (.Call (.Attribute o "index" apos) [e] [] cpos) (aE1 f g):=λρ d q=>by
 obtain⟨t,e1,q⟩:=xbm q;obtain⟨x,e2,q⟩:=xbm q;cases t with
 | list ds =>
  simp only at q;split at q
  .rename_i c;obtain⟨j,hj,rfl⟩:=xmo q;exact bs8 F.slot_list_index F.type_list_index (by9 hu c.1 c.2.1 c.2.2.1 c.2.2.2 hj) ho h (λ_ _ _ r=>r) e1 e2 hbase hfew hline hs
  .cases q
 | _=>cases q
noncomputable def at4(f g:DE):DE:=λρ=>match f ρ with
 | some (.list _)=>aE1 f g ρ
 | _=>bW6 f g ρ
def bA2(hu:X.A.units+64 < cLine)(ho:JE X o f)(h:JE X e g)(hbase:fq o "index" X.env (eval o X.env)=eval o X.env)
  (hfew:hfX X e cpos)
  (hline:(apos.endLine==cpos.line)=true) (hs:eT [e] X.env=[(false,eval e X.env)]):JE X (.Call (.Attribute o "index" apos) [e] [] cpos) (at4 f g):=λρ d q=>by
 unfold at4 at q;split at q
 .exact aO5 hu ho h hbase hfew hline hs ρ d q
 .exact bQ4 hu ho h hbase hfew hline hs ρ d q
end
end G
namespace L2
open PySem PySem.Spec PyProof.Rows
section
variable {κ:Type} [DecidableEq κ]
noncomputable def aq0(kvs:List (κ×V))(k:κ):Option V:=(kvs.find? λkv=>decide (kv.1=k)).map (·.2)
noncomputable def aj0(kvs:List (κ×V))(k:κ)(v:V):List (κ×V) :=
 if(kvs.any λkv=>decide (kv.1=k))=true then kvs.map (λkv=>if kv.1=k then(kv.1,v) else kv) else kvs++[(k,v)]
def aE9{p:κ×V}{r:List (κ×V)}{k:κ}(e:p.1=k):aq0 (p::r) k=Z p.2:=by simp[aq0,bS,e]
def aF0{p:κ×V}{r:List (κ×V)}{k:κ}(e:¬p.1=k):aq0 (p::r) k=aq0 r k:=by simp[aq0,bS,e]
def aA4(kvs:List (κ×V))(k:κ)(v:V):(aj0 kvs k v).length<=kvs.length+1:=by
 unfold aj0;split
 .rw[ag];grind
 .rw[ae,aD,dW];grind
def aD0.isSome_eq(r:aD0 o u):o.isSome=u.isSome:=by
 cases o with
 | none=>cases u with
  | none=>rfl
  | some _=>exact(show False from r).elim
 | some _=>cases u with
  | none=>exact(show False from r).elim
  | some _=>rfl
theorem aD0.getD(r:aD0 o u)(rd:D9 d d'):D9 (o.getD d) (u.getD d'):=by
 cases o with
 | none=>cases u with
  | none=>exact rd
  | some _=>exact(show False from r).elim
 | some _=>cases u with
  | none=>exact(show False from r).elim
  | some _=>exact r
def KV.val(r:KV kvs vs)(k:κ):aD0 (aq0 kvs k) (valueAt vs k):=by
 unfold KV at r
 induction r with
 | nil=>exact True.intro
 | @cons p q ps qs h t ih =>
  obtain⟨h1,h2⟩:=h;by_cases e:p.1=k
  .have e':q.1=k:=h1.symm.trans e;have b:valueAt (q::qs) k=Z q.2:=by simp[valueAt,bS,e']
   rw[aE9 e,b];exact h2
  .have e':¬q.1=k:=λz=>e (h1.trans z)
   have b:valueAt (q::qs) k=valueAt qs k:=by simp[valueAt,bS,e']
   rw[aF0 e,b];exact ih
theorem KV.any(r:KV kvs vs)(k:κ):(kvs.any λkv=>decide (kv.1=k))=vs.any λkv=>decide (kv.1=k):=by
 unfold KV at r
 induction r with
 | nil=>rfl
 | cons h t ih=>rw[bO,bO,ih,h.1]
def KV.repl(r:KV kvs vs)(k:κ)(ry:D9 y u):
  KV (kvs.map λkv=>if kv.1=k then(kv.1,y) else kv) (vs.map λkv=>if kv.1=k then(kv.1,u) else kv):=by
 unfold KV at r ⊢
 induction r with
 | nil=>exact .nil
 | @cons p q ps qs h t ih =>
  rw[bF,bF];refine .cons ?_ ih;obtain⟨h1,h2⟩:=h;by_cases e:p.1=k
  .rw[if_pos e,if_pos (h1.symm.trans e)];exact⟨h1,ry⟩
  .rw[if_neg e,if_neg (λz=>e<|h1.trans z)];exact⟨h1,h2⟩
def KV.put(r:KV kvs vs)(k:κ)(ry:D9 y u):KV (aj0 kvs k y) (stored vs k u):=by
 unfold aj0 stored;rw[r.any k];by_cases e:(vs.any λkv=>decide (kv.1=k))=true
 .rw[if_pos e,if_pos e];exact r.repl k ry
 .rw[if_neg e,if_neg e];exact Paired.snoc r ⟨rfl,ry⟩
end
def aO4(r:D9 (kV k) u):(F8 P w).is k u=true:=by
 cases k with
 | inl i=>obtain⟨t,e⟩:=(show ∃t,u=Value.int i t from r);subst e;exact ba8 P w i t
 | inr x=>obtain⟨t,e⟩:=(show ∃t,u=Value.str x t from r);subst e;exact aA2 P w x t
theorem aO6:∀{ks:List Key}{us:List fM},E1 (ks.map kV) us->ItemsAre (F8 P w) ks us
 | [],_,r=>by rw[List.map_nil]at r;cases r;exact .nil
 | k::ks,_,r=>by
  rw[bF]at r;cases r with
  | cons h t=>exact .cons (aO4 h)<|aO6 t
noncomputable abbrev KT(H:Hp):List (List Key×V)->List (List Key×fO×fM)->Prop:=Paired λp q=>p.1=q.1/\H q.2.1=Z (.tup<|p.1.map kV)/\D9 p.2 q.2.2
def KT.val(r:KT H kvs xs)(k:List Key):aD0 (aq0 kvs k) ((atKey xs k).map (·.2)):=by
 induction r with
 | nil=>exact True.intro
 | @cons p q ps qs h t ih =>
  obtain⟨h1,_,h2⟩:=h;by_cases e:p.1=k
  .have e':q.1=k:=h1.symm.trans e;have b:atKey (q::qs) k=Z q.2:=by simp[atKey,bS,e']
   rw[aE9 e,b];exact h2
  .have e':¬q.1=k:=λz=>e (h1.trans z)
   have b:atKey (q::qs) k=atKey qs k:=by simp[atKey,bS,e']
   rw[aF0 e,b];exact ih
section
variable {P:Program}{w:World}{H:Hp}{h:Heap}{a:Addr}
def cp0(ok:HOk P w H h)(e:Rd H a u):N8 P w H h a u:=e.ok ok
def aI3(ok:HOk P w H h)(e:Rd H a (.dK kvs)):kvs.length<=eU/\(a==sysModules)=false/\∃vs,KV kvs vs/\h.DictOf (F8 P w) a vs :=
 show N8 P w H h a (.dK kvs) from cp0 ok e
def cX5(ok:HOk P w H h)(e:H a=Z (.dK kvs)):kvs.length<=eU/\(a==sysModules)=false/\∃vs,KV kvs vs/\h.DictOf (F8 P w) a vs:=aI3 ok<|.inl e
def aH4(ok:HOk P w H h)(e:H a=Z (.tup<|ks.map kV)):(tupleKind<|F8 P w).is h ks a:=by
 obtain⟨_,its,r,o,h1,h2,⟨n,h3⟩,_⟩:=(show N8 P w H h a (.tup<|ks.map kV) from ok a _ e);exact⟨o,its.toArray,n,h1,h2,h3,by simpa using aO6 r⟩
def aP2(ok:HOk P w H h)(e:Rd H a (.dT kvs)):kvs.length<=eU/\(a==sysModules)=false /\
  ∃xs,KT H kvs xs/\h.DictOfH (tupleKind<|F8 P w) a xs:=by
 obtain⟨z,y,xs,r,o,es,ep,h1,h2,h3,h4,h5⟩:=(show N8 P w H h a (.dT kvs) from cp0 ok e);refine⟨z,y,xs,r,o,es,ep,h1,h2,h3,h4,λx hx=>?_,h5⟩
 have all:∀{l:List (List Key×V)}{m:List (List Key×fO×fM)},KT H l m->∀x∈m,(tupleKind<|F8 P w).is h x.1 x.2.1:=by
  intro l m q
  induction q with
  | nil=>intro x hx;exact nomatch hx
  | @cons p q ps qs hq t ih =>
   intro x hx;rcases ao.mp hx with e|hx
   .subst e;exact aH4 ok (by rw[← hq.1];exact hq.2.1)
   .exact ih x hx
 exact all r x hx
end
def ay7(H:Hp)(a:fO)(y:V)(r:Option V):Prop :=
 (∃kvs k,Rd H a (.dK kvs)/\y=kV k/\r=aq0 kvs k)\/∃kvs k b,Rd H a (.dT kvs)/\y=.ref b/\H b=Z (.tup<|k.map kV)/\r=aq0 kvs k
theorem ay7.k{H:Hp}{a:fO}{kvs:List (Key×V)}{k:Key}(e:H a=Z (.dK kvs)):ay7 H a (kV k) (aq0 kvs k):=.inl ⟨kvs,k,.inl e,rfl,rfl⟩
section
variable {X:Cx}{pins:List (Addr×Obj)}{σ:St}{H:Hp}{s:Shared}{a:Addr}{y v:V}{u r:Value}{o:Option V}{A:Around}{E:Value->Shared->Prop}
def Inv.big(I:Inv X pins σ H s):sysModules < s.heap.objs.size:=by
 have h:eY < s.heap.objs.size:=(I.mod.glob.keeps I.bk).lt;exact dJ (by decide) h
def bD2(hu:A.units+1 < cLine)(I:Inv X pins σ H s)(g:ay7 H a y (Z v))(ry:D9 y u)(h:∀w' s',Inv X pins σ H s'->D9 v w'->Q w' s'):
  ft (fu X.prog X.w) A (getItem (.ref a) u) Q E s:=by
 rcases g with⟨kvs,k,e,ey,l⟩|⟨kvs,k,b,e,ey,eb,l⟩
 .subst ey;obtain⟨z,hd,vs,rel,dd⟩:=aI3 I.hok e;obtain⟨w',hw,rw'⟩:=aD0.some_of (v:=v) (o:=valueAt vs k) (by rw[l];exact rel.val k);exact wpAny_getItem_of (aO4 ry) dd.mapOf hw<|h w' _ (I.tok _) rw'
 .subst ey;cases(show u=fI b from ry);obtain⟨z,hd,xs,rel,dd⟩:=aP2 I.hok e;obtain⟨w',hw,rw'⟩:=aD0.some_of (v:=v) (o:=(atKey xs k).map (·.2)) (by rw[l];exact rel.val k);obtain⟨p,hp,hp2⟩:=xmo hw;refine wpAny_getItem_heap (tupleKind_room_in1 hu) (aH4 I.hok eb) dd hp ?_;rw[hp2];exact h w' _ (I.tok _) rw'
def de0(hu:A.units+1 < cLine)(I:Inv X pins σ H s)(g:ay7 H a y o)(ry:D9 y u)(h:∀s',Inv X pins σ H s'->Q (.bool o.isSome) s'):
  ft (fu X.prog X.w) A (eW .In u<|.ref a) Q E s:=by
 rcases g with⟨kvs,k,e,ey,l⟩|⟨kvs,k,b,e,ey,eb,l⟩
 .subst ey;obtain⟨z,hd,vs,rel,dd⟩:=aI3 I.hok e;refine wpAny_in_of (aO4 ry) hd dd.mapOf ?_;rw[← (rel.val k).isSome_eq,← l];exact h _<|I.tok _
 .subst ey;cases(show u=fI b from ry);obtain⟨z,hd,xs,rel,dd⟩:=aP2 I.hok e;refine wpAny_in_heap (tupleKind_room_in1 hu) (aH4 I.hok eb) hd dd ?_;have q:=(rel.val k).isSome_eq;rw[dy]at q;rw[← q,← l];exact h _<|I.tok _
def cm2(hu:A.units+1 < cLine)(I:Inv X pins σ H s)(g:ay7 H a y o)(ry:D9 y u)(h:∀s',Inv X pins σ H s'->Q (.bool (!o.isSome)) s'):
  ft (fu X.prog X.w) A (eW .NotIn u<|.ref a) Q E s:=by
 rcases g with⟨kvs,k,e,ey,l⟩|⟨kvs,k,b,e,ey,eb,l⟩
 .subst ey;obtain⟨z,hd,vs,rel,dd⟩:=aI3 I.hok e;refine wpAny_notIn_of (aO4 ry) hd dd.mapOf ?_;rw[← (rel.val k).isSome_eq,← l];exact h _<|I.tok _
 .subst ey;cases(show u=fI b from ry);obtain⟨z,hd,xs,rel,dd⟩:=aP2 I.hok e;refine wpAny_notIn_heap (tupleKind_room_in1 hu) (aH4 I.hok eb) hd dd ?_;have q:=(rel.val k).isSome_eq;rw[dy]at q;rw[← q,← l];exact h _<|I.tok _
def cm1(I:Inv X pins σ H s)(mu:Mut (H a))(hs:Heap.SameBut a s.heap h')(he:∃q,h'.get? a=Z q)(new:N8 X.prog X.w (upd H a ob) h' a ob):
  Inv X pins σ (upd H a ob) { s with heap:=h',toks:=t' } :=
 I.write (x:=a) (e:=a) mu (.inl rfl) (λb q hb z=>(hs.2 b hb).trans z) he new
def bU7(z:kvs.length<=eU)(hd:(a==sysModules)=false)(rel:KV kvs vs)(dd:h'.DictOf (F8 P w) a vs):
  N8 P w H' h' a (.dK kvs):=⟨z,hd,vs,rel,dd⟩
end
def cZ4(i:Expr):Prop:=∀ov iv,subscripted i false ov iv=operate [ov,iv] (getItem ov iv)
def cb1{prog:fb}{w:World}{A:fc}{E:fM->fN->Prop}{s:fN}{env:Env}{value slice:Expr}{pos:Pos}{T id:String}{Q:fM->fN->Prop}
  (hl:typeLookup (.type T) "__getitem__" = pure (Z<|.builtin id)) (hs:cZ4 slice)
  (h:ft (fu prog w) A (eval value env) (λo s₁=>ft (fu prog w) A (eval slice env) (λi s₂=>s₂.TypeIs o T/\ft (fu prog w) A (getItem o i) Q E s₂) E s₁) E s) :
  ft (fu prog w) A (eval (.Subscript value slice pos) env) Q E s:=by
 refine Subscript_ (eO h (λo s₁ h₁=>eO h₁ (λi s₂ h₂=>?_) λ_ _ x=>x) λ_ _ x=>x);obtain⟨hT,h₂⟩:=h₂;unfold subscriptTail;refine eK ?_;rw[getitemInPython_of_ne hT.not_modules];refine eK<|wpAny_specialOf hT hl ?_
 have fin:ft (fu prog w) A (subscripted slice false o i) (λr s₃=>ft (fu prog w) A (letTemporaryGo value o r >>= λ_=>pure r) Q E s₃) E s₂:=by
  rw[hs o i];exact wpAny_operating<|eO h₂ (λr s₃ h₃=>eK<|wpAny_letTemporaryGo (eM h₃)) λ_ _ x=>x
 first
  | exact eM<|eK fin
  | exact eK<|eM (eK fin)
  | exact eK fin
def bc8(I:Inv X pins σ H s)(g:ay7 H a y o):s.TypeIs (.ref a) "dict" := by
 rcases g with⟨kvs,k,e,_,_⟩|⟨kvs,k,b,e,_,_,_⟩
 .obtain⟨_,_,vs,_,dd⟩:=aI3 I.hok e;exact dd.typeIs
 .obtain⟨_,_,xs,_,dd⟩:=aP2 I.hok e;exact dd.typeIs
noncomputable def cQ1(td ty:TE):TE:=λσ H Q=>td σ H λx H1=>ty σ H1 λy H2=>∃a v,x=.ref a/\ay7 H2 a y (Z v)/\Q v H2
section
variable {X:Cx}{o i e value:Expr}{pos pos' tpos:Pos}{td ty tv:TE}
def cd9(hu:X.A.units+1 < cLine)(ho:PE X o td)(hi:PE X i ty)(hs:cZ4 i):PE X (.Subscript o i pos) (cQ1 td ty):=by
 intro pins s σ H Q I h;refine cb1 PySem.F.slot_dict_getitem.lookup hs (thn (ho pins s σ H _ I h) λu s1 ⟨x,H1,I1,rx,q1⟩=>thn (hi pins s1 σ H1 _ I1 q1) λiv s2 ⟨y,H2,I2,ry,a,v,ex,g,q2⟩=>?_);subst ex;obtain rfl:u=fI a:=rx;exact⟨bc8 I2 g,bD2 hu I2 g ry λw' s3 I3 rw'=>⟨v,H2,I3,rw',q2⟩⟩
end
def bU8(h:Heap)(hb:sysModules < h.objs.size):N8 P w H (h.push { cls:=.type "dict", data:=.dict #[] }) h.objs.size (.dK []) :=
 ⟨aQ _,beq_eq_false_iff_ne.mpr<|Ne.symm (aC hb),[],.nil,Heap.DictOf.new h⟩
noncomputable def aR6:List (TE×TE)->St->Hp->(List (V×V)->Hp->Prop)->Prop
 | [],_,H,Q=>Q [] H
 | (tk,tv)::r,σ,H,Q=>tk σ H λx H1=>tv σ H1 λy H2=>aR6 r σ H2 λps H3=>Q ((x,y)::ps) H3
noncomputable abbrev VV:List (V×V)->List (fM×fM)->Prop:=Paired λp q=>D9 p.1 q.1/\D9 p.2 q.2
noncomputable def PPs(X:Cx)(pos:Pos)(keys:List (Option Expr))(values:List Expr)(trs:List (TE×TE)):Prop :=
 ∀(pins:List (fO×Obj)) (s:fN) (σ:St) (H:Hp) (Q:List (V×V)->Hp->Prop),Inv X pins σ H s->aR6 trs σ H Q ->
  ft (fu X.prog X.w) X.A (evalPairs<|pairTrees keys values X.env pos) (λvs s'=>∃ps H',Inv X pins σ H' s'/\VV ps vs/\Q ps H') X.xe s
def cd1:PPs X pos [] [] []:=λpins s σ H Q I h=>pairTrees_nil_walk ⟨[],H,I,.nil,h⟩
def bJ8(hk:PE X k tk)(hv:PE X v tv)(hr:PPs X pos ks vs trs):
  PPs X pos (Z k::ks) (v::vs) ((tk,tv)::trs):=λpins s σ H Q I h =>
 pairTrees_cons_walk (thn (hk pins s σ H _ I h) λu s1 ⟨x,H1,I1,rx,q1⟩=>thn (hv pins s1 σ H1 _ I1 q1) λw2 s2 ⟨y,H2,I2,ry,q2⟩ =>thn (hr pins s2 σ H2 _ I2 q2) λws s3 ⟨ps,H3,I3,rel,q3⟩=>⟨(x,y)::ps,H3,I3,.cons ⟨rx,ry⟩ rel,q3⟩)
noncomputable def an4(kvs more:List (Key×V)):List (Key×V):=more.foldl (λacc kv=>aj0 acc kv.1 kv.2) kvs
def KV.merge:∀{more:List (Key×V)}{rs:List (Key×fM)}{kvs:List (Key×V)}{vs:List (Key×fM)},KV more rs->KV kvs vs->KV (an4 kvs more) (merged vs rs):=by
 intro more rs kvs vs r;unfold KV at r
 induction r generalizing kvs vs with
 | nil=>intro q;exact q
 | @cons p q ps qs h t ih =>
  intro r0
  have e:KV (aj0 kvs p.1 p.2) (stored vs q.1 q.2):=by
   have:=r0.put p.1 h.2;rw[← h.1];exact this
  exact ih e
theorem al7:∀(more kvs:List (Key×V)),(an4 kvs more).length<=kvs.length+more.length
 | [],kvs=>by show kvs.length<=kvs.length+0;grind
 | p::r,kvs=>by
  have h1:=al7 r (aj0 kvs p.1 p.2);have h2:=aA4 kvs p.1 p.2;show(an4 (aj0 kvs p.1 p.2) r).length<=_;rw[aD];grind
theorem aI9:∀{kvs:List (Key×V)}{ws:List (fM×fM)},VV (kvs.map λkv=>(kV kv.1,kv.2)) ws->∃rs,Carries (F8 P w) ws rs/\KV kvs rs
 | [],_,r=>by rw[List.map_nil]at r;cases r;exact⟨[],True.intro,.nil⟩
 | p::kvs,_,r=>by
  rw[bF]at r;cases r with
  | @cons a b as bs h t =>
   obtain⟨rs,c,q⟩:=aI9 (P:=P) (w:=w) t;obtain⟨b1,b2⟩:=b;exact⟨(p.1,b2)::rs,⟨aO4 h.1,rfl,c⟩,.cons ⟨rfl,h.2⟩ q⟩
noncomputable def cQ0(trs:List (TE×TE)):TE:=λσ H Q=>∀p,H p=O->aR6 trs σ (upd H p<|.dK []) λps H2=>H2 p=Z (.dK [])/\∃kvs:List (Key×V),ps=kvs.map (λkv=>(kV kv.1,kv.2))/\kvs.length<=15/\Q (.ref p) (upd H2 p<|.dK (an4 [] kvs))
def cd8(h:PPs X pos keys values trs)(hall:keys.all (·.isSome)=true)(hl:keys.length=values.length)(h0:keys≠[])
  (h15:keys.length<=15):PE X (.Dict keys values pos) (cQ0 trs):=by
 intro pins s σ H Q I q;have hn:=I.hok.fresh (aj s.heap.objs.size);have I1:=I.laid (a:=s.heap.objs.size) (o:=.dK []) (h':=s.heap.push { cls:=.type "dict", data:=.dict #[] }) (t':=s.toks) (λ_ _ q=>fw _ q) (aj _) (bU8 s.heap I.big);refine wpAny_Dict_walk (knd:=F8 X.prog X.w) hall hl h0 h15 (thn (h pins _ σ _ _ I1<|q _ hn) λws s2 ⟨ps,H2,I2,rel,e,kvs,ep,lk,q2⟩=>?_);subst ep;obtain⟨rs,c,rk⟩:=aI9 (P:=X.prog) (w:=X.w) rel;obtain⟨z,hd,vs0,r0,dd⟩:=cX5 I2.hok e;cases r0;refine⟨rs,c,dd,λh' dd' hs=>⟨.ref s.heap.objs.size,_,?_,rfl,q2⟩⟩
 have hz:(an4 [] kvs).length<=eU:=by
  have h1:=al7 kvs [];rw[dW]at h1;rw[eV];grind
 have he:∃q,h'.get? s.heap.objs.size=Z q:=let⟨q,_,_,hq,_⟩:=dd';⟨q,hq⟩
 exact cm1 I2 (by rw[e];exact True.intro) hs he<|bU7 hz hd (rk.merge .nil) dd'
structure M2 (X:Cx) (o:Expr) (m:Str) (apos:Pos) (e f:Expr) (cpos:Pos):Prop where
 base:fq o m X.env (eval o X.env)=eval o X.env
 few:((backTo cpos (eT [e,f] X.env)).all (λx=>!x.1)&&(backToKw cpos (keywordEach [] X.env)).all (λx=>x.1.isSome)
  && decide (([e,f]:List Expr).length+([]:List fh).length+(if([]:List fh).isEmpty then 0 else 1) < 30))=true
 line:(apos.endLine==cpos.line)=true
 trees:backTo cpos (eT [e,f] X.env)=[(false,eval e X.env),(false,eval f X.env)]
def IsD(H:Hp)(a:fO):Prop:=(∃kvs,Rd H a<|.dK kvs)\/∃kvs,Rd H a<|.dT kvs
def cI7(I:Inv X pins σ H s)(d:IsD H a):
  s.TypeIs (.ref a) "dict" /\ (∀b,fI a=.ref b->∃ob,s.heap.get? b=Z ob/\ob.dict=O)/\(a==sysModules)=false:=by
 rcases d with⟨kvs,e⟩|⟨kvs,e⟩
 .obtain⟨_,hd,vs,_,dd⟩:=aI3 I.hok e;refine⟨dd.typeIs,λb q=>?_,hd⟩;cases q;obtain⟨ob,_,_,h1,h2,_⟩:=dd;exact⟨ob,h1,h2.2.1⟩
 .obtain⟨_,hd,xs,_,dd⟩:=aP2 I.hok e;refine⟨dd.typeIs,λb q=>?_,hd⟩;cases q;obtain⟨ob,_,_,h1,h2,_⟩:=dd;exact⟨ob,h1,h2.2.1⟩
section
variable {X:Cx}{pins:List (Addr×Obj)}{σ:St}{H:Hp}{s:Shared}{a:Addr}{y d:V}{u r:Value}{o:Option V}{A:Around}{E:Value->Shared->Prop}
def cL1(hu:A.units+1 < cLine)(I:Inv X pins σ H s)(g:ay7 H a y o)(ry:D9 y u)(rd:D9 d r)(h:∀w' s',Inv X pins σ H s'->D9 (o.getD d) w'->Q w' s'):
  ft (fu X.prog X.w) A (call (.builtin "dict.get") [.ref a,u,r]) Q E s:=by
 rcases g with⟨kvs,k,e,ey,l⟩|⟨kvs,k,b,e,ey,eb,l⟩
 .subst ey;obtain⟨z,hd,vs,rel,dd⟩:=aI3 I.hok e;refine call_meetsIn PySem.F.slot_dict_get dd.typeIs PySem.F.entry_dict_get (PySem.F.args_dict_get_3 _ _ _) (meets_dict_get_default (F8 X.prog X.w) a (aO4 ry) hd r) ⟨_,dd.mapOf,h _ _ (I.tok _) ?_⟩;rw[l];exact(rel.val k).getD rd
 .subst ey;cases(show u=fI b from ry);obtain⟨z,hd,xs,rel,dd⟩:=aP2 I.hok e;refine call_meetsIn PySem.F.slot_dict_get dd.typeIs PySem.F.entry_dict_get (PySem.F.args_dict_get_3 _ _ _) (meetsH_dict_get_default (tupleKind<|F8 X.prog X.w) a b hd r) ⟨tupleKind_room_in1 hu,k,xs,aH4 I.hok eb,dd,h _ _ (I.tok _) ?_⟩;rw[l];exact(rel.val k).getD rd
end
noncomputable def cw2(td ty tx:TE):TE:=λσ H Q=>td σ H λx H1=>∃a,x=.ref a/\IsD H1 a/\ty σ H1 λy H2=>tx σ H2 λz H3=>∃o,ay7 H3 a y o/\Q (o.getD z) H3
section
variable {X:Cx}{o e f:Expr}{apos cpos:Pos}{td ty tx:TE}
def bK7(hu:X.A.units+1 < cLine)(ho:PE X o td)(he:PE X e ty)(hf:PE X f tx)(m:M2 X o "get" apos e f cpos):PE X (.Call (.Attribute o "get" apos) [e,f] [] cpos) (cw2 td ty tx):=by
 intro pins s σ H Q I h;refine wpAny_Call_method m.base m.few m.line PySem.F.plainAttrs_dict PySem.F.slot_dict_get PySem.F.type_dict_get (thn (ho pins s σ H _ I h) λu s1 ⟨x,H1,I1,rx,a,ex,d,q1⟩=>?_);subst ex;obtain rfl:u=fI a:=rx;obtain⟨t1,t2,_⟩:=cI7 I1 d;refine⟨t1,t2,?_⟩;rw[m.trees];refine Calls.callWith_builtin rfl (Calls.evalArgs_plain<|Calls.spliced_cons (thn (he pins s1 σ H1 _ I1 q1) λiv s2 ⟨y,H2,I2,ry,q2⟩ =>Calls.spliced_cons<|thn (hf pins s2 σ H2 _ I2 q2) λfv s3 ⟨z,H3,I3,rz,ov,g,q3⟩=>Calls.spliced_nil ?_));exact cL1 hu I3 g ry rz λw' s4 I4 rw'=>⟨_,H3,I4,rw',q3⟩
end
end L2
namespace G
open PySem PySem.Spec PyProof.Rows L2
def aA9:entryFor table "dict.update.loop" = Z Builtin.«dict.update.loop»:=entryFor_of_tree (by kernel_rfl)
def p9:plainId "dict.update.loop" = true:=by decide +kernel
def aT8:typeLookup (.type "list") "keys" = pure O:=by rw[typeLookup_type,builtinLookup_eq_fast];kernel_rfl
noncomputable def mgL(l:List (Str×fM)):List (Key×fM):=l.foldl (λa p=>stored a (Sum.inr p.1) p.2) []
def bw6(a:List (Key×fM))(k:Key)(v:fM):(stored a k v).length<=a.length+1:=by
 unfold stored;split
 .rw[ag];grind
 .rw[ae,aN];grind
def ba9(l:List (Str×fM))(p:Str×fM):mgL (l++[p])=stored (mgL l) (Sum.inr p.1) p.2:=by unfold mgL;rw[List.foldl_append];rfl
theorem br7:∀(l:List (Str×fM)) (n:Nat),l.length=n->(mgL l).length<=n
 | l,0,h=>by rw[dM]at h;subst h;exact aj 0
 | l,n+1,h=>by
  obtain⟨a,p,rfl⟩:∃a p,l=a++[p]:=by
   rcases List.eq_nil_or_concat l with e|⟨a,p,e⟩
   .subst e;cases h
   .exact⟨a,p,by rw[e,List.concat_eq_append]⟩
  rw[ae,aN]at h;rw[ba9];have:=br7 a n (by grind);have:=bw6 (mgL a) (Sum.inr p.1) p.2
  grind
section
variable {prog:Program}{w:World}{A:Around}{E:Value->Shared->Prop}{s:Shared}
def bz7(hx:s.heap.get? a=Z o)(hc:o.cls=.type "list")(hdat:o.data=.seq xs k)(hd:o.dict=O)(hA:A.handled=O)
  (h:∀h' tk,(∀b o,s.heap.get? b=Z o->h'.get? b=Z o)->Q O { s with heap:=h',toks:=tk }):ft (fu prog w) A (getAttr? (.ref a) "keys") Q E s:=by
 obtain⟨c,dct,dat,sl⟩:=o;simp only at hc hdat hd;subst hc hdat hd;obtain⟨hp,g,d,tk,os⟩:=s;have hT:∀tk',(⟨hp,g,d,tk',os⟩:fN).TypeIs (.ref a) "list" := λ_=>⟨_,hx,rfl⟩
 have f1:=sub_AttributeError;have f3:=F.slot_list_getattribute.lookup;have f4:=F.slot_list_getattribute.bind (.ref a);have f5:=am_list_getattr_none;unfold getAttr? getAttrBy? getAttrBy
 repeat (any_goals (first|assumption|exact hT _|((with_reducible show ft _ _ (call (Value.builtin "list.__getattribute__") _ _) _ _ _);refine fo F.slot_list_getattribute (hT _) am_entry_list_getattribute (F.args_list_getattribute_2 _ _) (meets_getattribute_miss_list a xs k sl "keys" _ aT8 (by decide)<|by size_fits) ⟨hx,hA,λh' tk' e hx'=>?_⟩)|wp_step))
 obtain⟨t',u',he⟩:=hx'.there;show ft _ _ (getattributeRaised _ _ _ _ _ _ _) _ _ _;unfold getattributeRaised
 repeat (any_goals (first|assumption|wp_step))
 exact h _ _ hx'.keeps
variable {R:Result->Shared->Prop}{J S:Addr}{fp wr:List Addr}{Gn:Array GenState->Array GenState->Prop}{P:Nat->Value->Prop}{St:Nat->Shared->Prop}{ps:List (Str×Value)}
def bB2(W:WalksS prog w A.in1 J fp wr Gn ps.length P St)(hS1:S∉fp)(T:Nat->fO)(hT:∀j,j < ps.length->T j∉S::wr)(hP:∀i u,P i u->u=.ref (T i))(hb:ps.length<=1000):
  ∀(k i:Nat) (s:fN) (ii:Int),ps.length - i=k->i<=ps.length->St i s->(∀j p,ps[j]? = Z p->∃t,IsTup s.heap (T j) #[.str p.1 t,p.2])->s.heap.DictOf (F8 prog w) S (mgL<|ps.take i) ->
   (∀s',Moved (S::wr) Gn s s'->s'.heap.DictOf (F8 prog w) S (mgL ps)->R (.ok<|.ret .none) s') ->
   codeAny (fu prog w) A (.builtin "dict.update.loop" ⟨[.ref S,.ref J,rawInt ii,.none],[]⟩) R s:=by
 have hS2:S∉wr:=λz=>hS1<|W.sub _ z
 have more:∀b∈wr,b∈S::wr:=λb z=>xmm _ z
 intro k
 induction k with
 | zero =>
  intro i s ii e1 e2 q1 q0 q2 q3;obtain rfl:i=ps.length:=by grind
  refine codeAny_builtin aA9 ?_;rw[Around.under_plainId p9 _];show ft _ _ (pyNext (.ref J) >>= _) _ _ _;refine eK (W.done s _ _ q1 λs' mv=>?_);show ft _ _ (Builtin.Dict.addKeywords S [] >>= λ_=>ret fJ) _ _ _;refine eK (eM<|eM (q3 s' (mv.mono more) ?_));rw[List.take_length]at q2;obtain⟨o,es,ep,ho,more'⟩:=q2;exact⟨o,es,ep,mv.heap S _ hS2 ho,more'⟩
 | succ k ih =>
  intro i s ii e1 e2 q1 q0 q2 q3;have lt:i < ps.length:=by grind
  refine codeAny_builtin aA9 ?_;rw[Around.under_plainId p9 _];show ft _ _ (pyNext (.ref J) >>= _) _ _ _;refine eK (W.item i s _ _ lt q1 λu s' hP' q1' mv=>?_);obtain rfl:=hP i u hP'
  have q2':s'.heap.DictOf (F8 prog w) S (mgL<|ps.take i):=by
   obtain⟨o,es,ep,ho,more'⟩:=q2;exact⟨o,es,ep,mv.heap S _ hS2 ho,more'⟩
  have q0':∀j p,ps[j]? = Z p->∃t,IsTup s'.heap (T j) #[.str p.1 t,p.2]:=λj p e=>by
   obtain⟨t,o,ho,r⟩:=q0 j p e
   have hj:j < ps.length:=by
    rcases bG j ps.length with z|z
    .exact z
    .rw[bg z]at e;cases e
   exact⟨t,o,mv.heap (T j) _ (λz=>hT j hj<|xmm _ z) ho,r⟩
  obtain⟨t,⟨c0,d0,dt0,sl0⟩,ho,hc,n,hd⟩:=q0' i ps[i] (am lt);simp only at hc hd;subst hc hd;obtain⟨hp,g,d,tk,os⟩:=s';simp only at ho;have hTy:(⟨hp,g,d,tk,os⟩:fN).TypeIs (.ref<|T i) "tuple" := ⟨_,ho,rfl⟩;show ft _ _ (holding [fI (T i)] _ >>= _) _ _ _;refine eK (wpAny_holding<|eK (wpAny_tryCatch ?_));unfold Builtin.Dict.pairItems;refine eK (wpAny_typeOf hTy ?_);rw[if_pos (by decide)];generalize hDS:dictSet=DS
  repeat (any_goals (first|assumption|wp_step))
  subst hDS
  refine wpAny_dictSet_pairs (knd:=F8 prog w) (k:=Sum.inr ps[i].1) (aA2 _ _ _ _) q2' (λh' dd hs=>?_) (by
   have:=br7 (ps.take i) i (by rw[aA];grind);have:(1000:Nat) < eU:=by decide
   grind)
  have tk1:ps.take (i+1)=ps.take i++[ps[i]]:=by rw[cS lt]
  rw[← ba9,← tk1]at dd;refine eM ⟨plainId_quiet p9 _,ih (i+1) _ (ii+1) (by grind) lt (W.frame _ _ _ _ q1' (cw _) λb z o e=>?_) (λj p e=>?_) dd λs2 mv2 q6=>?_⟩
  .rw[hs.2 b (λy:b=S=>hS1 (by rw[← y];exact z))];exact e
  .obtain⟨t,o,ho,r⟩:=q0' j p e
   have hj:j < ps.length:=by
    rcases bG j ps.length with z|z
    .exact z
    .rw[bg z]at e;cases e
   exact⟨t,o,(hs.2 (T j) λz=>hT j hj (by rw[z];exact ah)).trans ho,r⟩
  .refine q3 s2 (Moved.trans W.gtrans ((mv.mono more).then_heap (cw _) λb o z e=>?_) mv2) q6;rw[hs.2 b (λy:b=S=>z (by rw[y];exact ah))];exact e
def aL5(hh:A.handled=O)(hl:PlainL s.heap l its)(T:Nat->fO)(hn:its.size=ps.length)(hi:∀(i:Nat) (u:fM),its[i]? = Z u->u=.ref (T i))(ht:∀j p,ps[j]? = Z p->∃t,IsTup s.heap (T j) #[.str p.1 t,p.2])(hb:ps.length<=1000)
  (h:∀(h':Heap) (tk:Nat),h'.DictOf (F8 prog w) s.heap.objs.size (mgL ps)->(∀b o,b < s.heap.objs.size->s.heap.get? b=Z o->h'.get? b=Z o)->Q (.ref s.heap.objs.size) { s with heap:=h',toks:=tk }) :
  ft (fu prog w) A (call (.type "dict") [.ref l]) Q E s:=by
 have hT:∀j,j < ps.length->T j < s.heap.objs.size:=λj hj=>by
  obtain⟨t,o,ho,_⟩:=ht j _ (am hj);exact fA ho
 refine callType_codes (Q₁:=λobj s₁=>obj=.ref s.heap.objs.size/\s₁={ s with heap:=s.heap.push { cls:=.type "dict", data:=.dict #[] } }) F.kt_called_dict (F.kt_typeCall_dict_1 _) F.entry_dict_init (kt_code_dict_new _ ⟨rfl,rfl⟩) ?_
 rintro obj s₁ ⟨rfl,rfl⟩
 have hnew:(s.heap.push { cls:=.type "dict", data:=.dict #[] }).DictOf (F8 prog w) s.heap.objs.size []:=Heap.DictOf.new s.heap;refine⟨hnew.typeIs,F.args_dict_init_2 _ _,?_⟩;unfold Builtin.«dict.__init__»;refine eK ?_;unfold Builtin.Dict.selfAndRest;refine eK (wpAny_notOrdered_dict hnew.typeIs ?_);show ft _ _ (pure (s.heap.objs.size,[fI l])) _ _ _;refine eM ?_;show ft _ _ (Builtin.Dict.updateFrom "dict.__init__" s.heap.objs.size (.ref l) [] .none) _ _ _;unfold Builtin.Dict.updateFrom;obtain⟨o,n,ho,hc,hdd,hd⟩:=hl;have ho1:=fw { cls:=.type "dict", data:=.dict #[] } ho;refine eK (wpAny_typeOf ⟨_,ho1,hc⟩ ?_);rw[if_pos (by decide)];refine eK (bz7 ho1 hc hd hdd (by simpa using hh) λh₁ tk₁ kp=>?_);rw[if_pos (by rfl)];refine eK (wpAny_rule ?_);have hl1:h₁.IsList l its:=⟨o,kp _ _ ho1,hc,n,hd⟩;refine eK (wpAny_pyIter_list hl1 ?_);have sz:s.heap.objs.size < h₁.objs.size:=fA (kp _ _<|fB s.heap (o:={ cls:=.type "dict", data:=.dict #[] }) rfl);have lS:l < s.heap.objs.size:=fA ho;have keep:∀b o,s.heap.get? b=Z o->(h₁.push { cls:=.type "list_iterator", data:=.fields #[.ref l,.int 0 0] }).get? b=Z o:=λb o e=>fw _<|kp _ _ (fw _ e)
 have nf:s.heap.objs.size∉[h₁.objs.size,l]:=by
  simp only[ao,aB,or_false,not_or];exact⟨aC sz,Nat.ne_of_gt lS⟩
 refine eM ⟨plainId_quiet p9 _,bB2 (A:=A.in1) (ps:=ps) (S:=s.heap.objs.size) (hn ▸ (Walks.list (by simpa using hh) _ l (aC<|dJ lS sz) its).toS) nf T (λj hj=>?_) hi hb ps.length 0 _ 0 (by grind) (aQ _) ⟨⟨_,fB _ rfl,rfl,rfl⟩,(hl1.push _)⟩ (λj p e=>?_) ?_ λs' mv dd=>?_⟩
 .have hj':=hT j hj;simp only[ao,aB,or_false,not_or];exact⟨aC hj',aC<|dJ hj' sz⟩
 .obtain⟨t,o,ho,r⟩:=ht j p e;exact⟨t,o,keep _ _ ho,r⟩
 .obtain⟨o,es,ep,ho,r⟩:=hnew;exact⟨o,es,ep,fw _<|kp _ _ ho,r⟩
 .obtain⟨h',g',d',tk',os'⟩:=s';have eg:g'=s.gens:=mv.gens;have ed:d'=s.drawn:=mv.drawn;have eo:os'=s.os:=mv.os;subst eg ed eo;refine⟨rfl,h h' tk' dd λb o hb e=>mv.heap b o ?_<|keep b o e⟩;simp only[ao,aB,or_false,not_or];exact⟨aC hb,aC<|dJ hb sz⟩
end
noncomputable def U6(x:Str)(kv:D×D):Bool:=match kv.1 with
 | .str y=>y==x
 | _=>false
noncomputable def U5(kvs:List (D×D))(x:Str):Option D:=(kvs.find?<|U6 x).map (·.2)
noncomputable def bi0(kvs:List (D×D))(x:Str)(d:D):List (D×D):=if kvs.any (U6 x) then kvs.map (λkv=>if U6 x kv then(kv.1,d) else kv) else kvs++[(.str x,d)]
noncomputable def mgD(ps:List (Str×D)):List (D×D):=ps.foldl (λa p=>bi0 a p.1 p.2) []
noncomputable def bL0:D->Option (Str×D)
 | .tuple [.str x,d]=>Z (x,d)
 | _=>O
noncomputable def aG5:List D->Option (List<|Str×D)
 | []=>Z []
 | d::r=>(bL0 d).bind λp=>(aG5 r).map λq=>p::q
section
variable {K:PySem.W.Frag}{H:Hp}
def cg8(x y:Str):decide ((Sum.inr y:Key)=Sum.inr x)=(y==x):=by rw[bN9];rfl
theorem RepKs.look:∀{kvs:List (D×D)}{m:List (Key×V)}(x:Str),RepKs K H kvs m->(U5 kvs x=O/\aq0 m (.inr x)=O)\/∃d v,U5 kvs x=Z d/\aq0 m (.inr x)=Z v/\Rep K H d v
 | [],_,x,h=>by cases h;exact .inl ⟨rfl,rfl⟩
 | (k,d)::r,_,x,⟨y,v,t,h1,h2,h3,h4⟩=>by
  subst h1 h2;by_cases e:y=x
  .subst e;exact .inr ⟨d,v,by simp[U5,U6],by rw[aE9 rfl],h3⟩
  .have e1:U5 ((.str y,d)::r) x=U5 r x:=by simp[U5,U6,e]
   have e2:aq0 ((Sum.inr y,v)::t) (Sum.inr x)=aq0 t (.inr x):=aF0 (by intro z;exact e<|Sum.inr.inj z);rw[e1,e2];exact RepKs.look x h4
theorem RepKs.any(x:Str):∀{kvs:List (D×D)}{m:List (Key×V)},RepKs K H kvs m->kvs.any (U6 x)=m.any λkv=>decide (kv.1=Sum.inr x)
 | [],_,h=>by cases h;rfl
 | (k,d)::r,_,⟨y,v,t,h1,h2,h3,h4⟩=>by
  subst h1 h2;rw[bO,bO,RepKs.any x h4,cg8];rfl
theorem RepKs.snoc(q:Rep K H d v):∀{kvs:List (D×D)}{m:List (Key×V)},RepKs K H kvs m->RepKs K H (kvs++[(.str x,d)]) (m++[(.inr x,v)])
 | [],_,h=>by cases h;exact⟨x,v,[],rfl,rfl,q,rfl⟩
 | (k,_)::r,_,⟨y,w,t,h1,h2,h3,h4⟩=>by subst h2;exact⟨y,w,_,h1,rfl,h3,RepKs.snoc q h4⟩
theorem RepKs.repl(q:Rep K H d v):∀{kvs:List (D×D)}{m:List (Key×V)},RepKs K H kvs m->RepKs K H (kvs.map λkv=>if U6 x kv then(kv.1,d) else kv) (m.map λkv=>if kv.1=Sum.inr x then(kv.1,v) else kv)
 | [],_,h=>by cases h;rfl
 | (k,e)::r,_,⟨y,w,t,h1,h2,h3,h4⟩=>by
  subst h1 h2;rw[bF,bF];by_cases e:y=x
  .subst e;rw[if_pos (show U6 y (.str y,_)=true by simp[U6]),if_pos rfl];exact⟨y,v,_,rfl,rfl,q,RepKs.repl q h4⟩
  .rw[if_neg (show ¬U6 x (.str y,_)=true by simp[U6,e]),if_neg (by intro z;exact e<|Sum.inr.inj z)];exact⟨y,w,_,rfl,rfl,h3,RepKs.repl q h4⟩
def RepKs.put(q:Rep K H d v)(h:RepKs K H kvs m):RepKs K H (bi0 kvs x d) (aj0 m (.inr x) v):=by
 unfold bi0 aj0;rw[h.any x];split
 .exact h.repl q
 .exact h.snoc q
noncomputable abbrev mgV(a:List (Str×V)):List (Key×V):=a.foldl (λacc p=>aj0 acc (.inr p.1) p.2) []
theorem an1:∀{ps:List (Str×D)}{a:List (Str×V)}{kvs:List (D×D)}{m:List (Key×V)},Paired (λ(p:Str×D) (q:Str×V)=>p.1=q.1/\Rep K H p.2 q.2) ps a->RepKs K H kvs m->RepKs K H (ps.foldl (λa p=>bi0 a p.1 p.2) kvs) (a.foldl (λacc p=>aj0 acc (.inr p.1) p.2) m)
 | _,_,_,_,.nil,h=>h
 | _,_,_,_,.cons ⟨e,r⟩ t,h=>by
  rw[bA,bA];refine an1 t ?_;rw[← e];exact h.put r
theorem bs4:∀{a:List (Str×V)}{b:List (Str×fM)}{k1:List (Key×V)}{k2:List (Key×fM)},Paired (λ(p:Str×V) (q:Str×fM)=>p.1=q.1/\D9 p.2 q.2) a b->KV k1 k2->KV (a.foldl (λacc p=>aj0 acc (.inr p.1) p.2) k1) (b.foldl (λacc p=>stored acc (.inr p.1) p.2) k2)
 | _,_,_,_,.nil,h=>h
 | _,_,_,_,.cons ⟨e,r⟩ t,h=>by
  rw[bA,bA];refine bs4 t ?_;rw[← e];exact h.put _ r
theorem br6:∀(a:List (Str×V)) (m:List (Key×V)),(a.foldl (λacc p=>aj0 acc (Sum.inr p.1) p.2) m).length<=m.length+a.length
 | [],m=>aj _
 | p::r,m=>by
  have h1:=br6 r (aj0 m (.inr p.1) p.2);have h2:=aA4 m (Sum.inr p.1:Key) p.2;rw[bA,aD]
  grind
end
section
variable {X:Cx}
def cn0:ff "dict" = Z (.type "dict"):=by decide +kernel
noncomputable def PrV(K:ad)(H:Hp):List V->List (Str×V)->Prop:=Paired λv p=>∃b,v=.ref b/\SqT K H b [.str p.1,p.2]
theorem PrV.length{K:ad}{H:Hp}{vs:List V}{a:List (Str×V)}(h:PrV K H vs a):vs.length=a.length:=Paired.length h
theorem bJ7{K:ad}{H:Hp}:∀{ds:List D}{vs:List V}{ps:List (Str×D)},aG5 ds=Z ps->Reps K H ds vs->∃a,PrV K H vs a/\Paired (λ(p:Str×D) (q:Str×V)=>p.1=q.1/\Rep K H p.2 q.2) ps a
 | [],_,_,e,h=>by cases e;cases h;exact⟨[],.nil,.nil⟩
 | d::ds,_,_,e,⟨v,r,h1,h2,h3⟩=>by
  subst h1;obtain⟨p,e1,e⟩:=xbm e;obtain⟨q,e2,e⟩:=xmo e;subst e;obtain⟨a,q1,q2⟩:=bJ7 e2 h3;unfold bL0 at e1;split at e1
  .cases e1;obtain⟨b,us,z1,z2,z3⟩:=h2;obtain⟨u1,r1,y1,y2,y3⟩:=z3;obtain⟨u2,r2,x1,x2,x3⟩:=y3;cases y2;cases x3;subst x1 y1;exact⟨(_,u2)::a,.cons ⟨b,z1,z2⟩ q1,.cons ⟨rfl,x2⟩ q2⟩
  .cases e1
theorem aZ2(I:Inv X pins σ H s):∀{vs:List V}{a:List (Str×V)}{us:List fM},PrV X.K H vs a->E1 vs us ->
  ∃(T:List fO) (b:List (Str×fM)),us=T.map fI/\b.length=us.length/\Paired (λ(p:Str×V) (q:Str×fM)=>p.1=q.1/\D9 p.2 q.2) a b/\∀(j:Nat) (p:Str×fM),b[j]? = Z p->∃t,IsTup s.heap (T.getD j 0) #[.str p.1 t,p.2]
 | _,_,_,.nil,.nil=>⟨[],[],rfl,rfl,.nil,λj p e=>by simp at e⟩
 | _,_,_,.cons (b:=p) ⟨b,e,h⟩ t,.cons r rs=>by
  subst e;cases r;obtain⟨T,c,e1,e2,e3,e4⟩:=aZ2 I t rs;obtain⟨its,rv,tp,_⟩:=I.tuple h;cases rv with
  | cons r1 rv =>
   cases rv with
   | cons r2 rv =>
    cases rv;rename_i u2;obtain⟨t1,rfl⟩:=r1;refine⟨b::T,(p.1,u2)::c,by rw[e1];rfl,by simp[e2],.cons ⟨rfl,r2⟩ e3,λj q e=>?_⟩;cases j with
    | zero=>simp at e;subst e;exact⟨t1,tp⟩
    | succ j=>exact e4 j q (by simpa using e)
def bn2:U9 X (.type "dict") (λxs H Q=>X.calm=true/\∃p vs a,xs=[.ref p]/\SqL X.K H p vs/\PrV X.K H vs a/\vs.length<=1000/\∀l,H l=O->Q (.ref l) (upd H l<|.dK (mgV a))):=by
 intro pins s σ H xs us Q I r h;obtain⟨hc,p,vs,a,rfl,hs,hp,hz,q⟩:=h;obtain⟨u,rfl,rx⟩:=W3 r;cases rx;obtain⟨its,rv,pl,_⟩:=I.list hs;obtain⟨T,b,e1,e2,e3,e4⟩:=aZ2 I hp rv;have ln:b.length=vs.length:=by rw[e2,rv.length]
 refine aL5 (ps:=b) (I.ok.hd hc) pl (λj=>T.getD j 0) (by simp[e2]) (λi u hu=>?_) e4 (by grind) λh' tk dd kp=>?_
 .subst e1;simp only[List.getElem?_toArray,aF,dQ]at hu;obtain⟨t,ht,rfl⟩:=hu;simp[List.getD,ht]
 .have hn:=I.hok.fresh (aj s.heap.objs.size)
  have z:(mgV a).length<=eU:=by
   have h1:=br6 a [];have h2:=hp.length;have:(1000:Nat) < eU:=by decide
   simp only[dW]at h1;show(cQ (λacc p=>aj0 acc (Sum.inr p.1) p.2) [] a).length<=eU
   grind
  exact⟨.ref s.heap.objs.size,_,I.laid (a:=s.heap.objs.size) (o:=.dK<|mgV a) (h':=h') (t':=tk) (λb u e=>kp b u (fA e) e) (aj _)<|bU7 z (beq_eq_false_iff_ne.mpr<|Ne.symm (aC I.big)) (bs4 e3 .nil) dd,rfl,q _ hn⟩
noncomputable def be4(f:Rho->Option (Bool×List D)):DE:=λρ=>(f ρ).bind λq=>if q.1=false/\q.2.length<=1000 then(aG5 q.2).map λps=>.dict (mgD ps) else O
def cj6(hc:X.calm=true)(hg:Gl X "dict")(hm:X.mg "dict" = O)(h:JQ X e f)(he:eT [e] X.env=[(false,eval e X.env)]:=by rfl):
  JE X (.Call (.Name "dict" p) [e] [] pos) (be4 f):=λρ d q=>by
 obtain⟨⟨t,ds⟩,h1,h2⟩:=xbm q;simp only at h2;split at h2
 .rename_i c;obtain⟨rfl,c2⟩:=c;obtain⟨ps,e1,e2⟩:=xmo h2;subst e2;refine C3 (Z6 bn2 hg hm cn0 (E3 (h ρ false ds h1) J8 he) (he:=he)) λσ H Q ⟨H0,Hf,s,sl,k⟩=>?_
  refine⟨H0,Hf,s,sl,λv H1 Hf1 g1 ⟨a,vs,z1,z2,z3⟩=>?_⟩;obtain⟨m,m1,m2⟩:=bJ7 e1 z3;refine⟨hc,a,vs,m,by rw[z1],z2,Paired.mapP m1 (λ_ _ z=>let⟨b,y1,y2⟩:=z;⟨b,y1,D5 g1.sub y2⟩),by rw[z3.length];exact c2,λl hl=>?_⟩;have hs:=E4 (o:=.dK<|mgV m) (g1.sub.free hl);refine k _ _ _ (g1.trans<|Grow.laid g1.sub hl) ⟨l,_,rfl,C5,(an1 (Paired.mapP m2 λ_ _ z=>⟨z.1,z.2.mono hs⟩) (show RepKs X.K _ [] [] from rfl))⟩
 .cases h2
noncomputable def ao6(f g:DE):DE:=λρ=>(f ρ).bind λd=>(g ρ).bind λk=>match d,k with
 | .dict kvs,.str x=>U5 kvs x
 | _,_=>O
def cH6(hu:X.A.units+64 < cLine)(ha:JE X a f)(hb:JE X b g)(hs:au0 b:=by intro _ _;rfl):JE X (.Subscript a b pos) (ao6 f g):=λρ d q=>by
 obtain⟨x,e1,q⟩:=xbm q;obtain⟨y,e2,q⟩:=xbm q;split at q
 .rename_i kvs x _;refine C3 (cd9 (by omega) (ha ρ _ e1) (hb ρ _ e2) hs) λσ H Q ⟨H0,Hf,s,sl,k⟩=>?_
  refine⟨H0,Hf,s,sl,λv H1 Hf1 g1 ⟨p,m,z1,z2,z3⟩=>⟨H0,Hf1,g1.sub,sl.grow g1,λu H2 Hf2 g2 r2=>?_⟩⟩;subst z1;cases r2;rcases(z3.mono g2.ext).look x with⟨l1,_⟩|⟨d',w,l1,l2,l3⟩
  .rw[l1]at q;cases q
  .rw[l1]at q;cases q;refine⟨p,w,rfl,?_,k w H2 Hf2 (g1.trans g2) l3⟩;have:=ay7.k (k:=Sum.inr x) (g2.sub _ _<|g2.ext _ _ z2);rw[l2]at this;exact this
 .cases q
noncomputable def inK(neg:Bool)(x y:D):Option D:=match x,y with
 | .str x,.dict kvs=>Z<|.bool (if neg then !(U5 kvs x).isSome else(U5 kvs x).isSome)
 | _,_=>O
def cB6(hu:X.A.units+64 < cLine):OpD X (eW .In) (inK false):=λx y z h=>by
 unfold inK at h;split at h
 .rename_i x kvs;cases h;intro pins s σ H vx vy v u Q I rx ry ⟨Hf,ss,r1,r2,k⟩;cases r1;obtain⟨p,m,z1,z2,z3⟩:=r2;subst z1;cases ry;refine de0 (by omega) I (ay7.k (k:=Sum.inr x)<|ss _ _ z2) rx λs' I'=>⟨.bl _,H,I',rfl,k _ H Hf (Grow.refl ss) ?_⟩
  rcases z3.look x with⟨l1,l2⟩|⟨d',w,l1,l2,l3⟩<;>rw[l1,l2]<;>rfl
 .cases h
def by3(hu:X.A.units+64 < cLine):OpD X (eW .NotIn) (inK true):=λx y z h=>by
 unfold inK at h;split at h
 .rename_i x kvs;cases h;intro pins s σ H vx vy v u Q I rx ry ⟨Hf,ss,r1,r2,k⟩;cases r1;obtain⟨p,m,z1,z2,z3⟩:=r2;subst z1;cases ry;refine cm2 (by omega) I (ay7.k (k:=Sum.inr x)<|ss _ _ z2) rx λs' I'=>⟨.bl _,H,I',rfl,k _ H Hf (Grow.refl ss) ?_⟩
  rcases z3.look x with⟨l1,l2⟩|⟨d',w,l1,l2,l3⟩<;>rw[l1,l2]<;>rfl
 .cases h
noncomputable def bu4(f g h:DE):DE:=λρ=>(f ρ).bind λd=>(g ρ).bind λk=>(h ρ).bind λe=>match d,k with
 | .dict kvs,.str x=>Z<|(U5 kvs x).getD e
 | _,_=>O
def cj4(hu:X.A.units+64 < cLine)(ho:JE X o f)(he:JE X e g)(hf:JE X e2 h)(m:M2 X o "get" apos e e2 cpos):JE X (.Call (.Attribute o "get" apos) [e,e2] [] cpos) (bu4 f g h):=λρ d q=>by
 obtain⟨x,e1,q⟩:=xbm q;obtain⟨y,e2,q⟩:=xbm q;obtain⟨z,e3,q⟩:=xbm q;split at q
 .cases q;refine C3 (bK7 (by omega) (ho ρ _ e1) (he ρ _ e2) (hf ρ _ e3) m) λσ H Q ⟨H0,Hf,s,sl,k⟩=>?_
  refine⟨H0,Hf,s,sl,λv H1 Hf1 g1 ⟨p,m,z1,z2,z3⟩=>⟨p,z1,.inl ⟨m,.inl<|g1.sub _ _ z2⟩,H0,Hf1,g1.sub,sl.grow g1,λu H2 Hf2 g2 r2=>⟨H0,Hf2,g2.sub,sl.grow<|g1.trans g2,λu3 H3 Hf3 g3 r3=>?_⟩⟩⟩;cases r2;refine⟨_,ay7.k (k:=Sum.inr _) (g3.sub _ _<|g3.ext _ _ (g2.ext _ _ z2)),k _ H3 Hf3 ((g1.trans g2).trans g3) ?_⟩;rcases(z3.mono (g2.trans g3).ext).look _ with⟨l1,l2⟩|⟨d',w,l1,l2,l3⟩
  .rw[l1,l2];exact r3
  .rw[l1,l2];exact l3
 .cases q
theorem aA0{K:ad}{H:Hp}:∀(ps:List (Str×Int)),Paired (λ(p:Str×D) (q:Str×V)=>p.1=q.1/\Rep K H p.2 q.2) (ps.map λp=>(p.1,.int p.2)) (ps.map λp=>(p.1,V.int p.2))
 | []=>.nil
 | p::r=>.cons ⟨rfl,rfl⟩<|aA0 r
noncomputable def cQ7:Expr->Option Str
 | .Constant (.str x) _ _=>Z x
 | _=>O
noncomputable def cW2:Expr->Option Int
 | .Constant (.int i) _ _=>Z i
 | _=>O
def cb2(h:cQ7 e=Z x):∃p q,e=.Constant (.str x) p q:=by
 cases e with
 | Constant c p q =>
  cases c with
  | str y=>cases h;exact⟨p,q,rfl⟩
  | _=>cases h
 | _=>cases h
def ck3(h:cW2 e=Z i):∃p q,e=.Constant (.int i) p q:=by
 cases e with
 | Constant c p q =>
  cases c with
  | int y=>cases h;exact⟨p,q,rfl⟩
  | _=>cases h
 | _=>cases h
noncomputable def bc7:List (Option Expr)->List Expr->Option (List<|Str×Int)
 | [],[]=>Z []
 | k::ks,v::vs=>k.bind λk=>(cQ7 k).bind λx=>(cW2 v).bind λi=>(bc7 ks vs).map λr=>(x,i)::r
 | [],_::_=>O
 | _::_,[]=>O
theorem aZ3:∀{ks:List (Option Expr)}{vs:List Expr}{ps:List (Str×Int)},bc7 ks vs=Z ps->PPs X pos ks vs (ps.map λp=>((λσ H Q=>Q (.str p.1) H:TE),(λσ H Q=>Q (.int p.2) H:TE)))/\ks.length=ps.length/\vs.length=ps.length/\ks.all (·.isSome)=true
 | [],[],ps,h=>by cases h;exact⟨cd1,rfl,rfl,rfl⟩
 | [],_::_,ps,h=>by cases h
 | _::_,[],ps,h=>by cases h
 | k::ks,v::vs,ps,h=>by
  rw[bc7]at h;obtain⟨k',e0,h1⟩:=xbm h;obtain⟨x,e1,h2⟩:=xbm h1;obtain⟨i,e2,h3⟩:=xbm h2;obtain⟨r,e3,e4⟩:=xmo h3;subst e0;obtain⟨p1,p2,rfl⟩:=cb2 e1;obtain⟨p3,p4,rfl⟩:=ck3 e2;subst e4;obtain⟨q1,q2,q3,q4⟩:=aZ3 (pos:=pos) e3;exact⟨bJ8 bK4 bK6 q1,by simp[q2],by simp[q3],by simpa using q4⟩
theorem ay8:∀{ps:List (Str×Int)}{Q:List (V×V)->Hp->Prop},Q (ps.map λp=>(.str p.1,.int p.2)) H->aR6 (ps.map λp=>((λσ H Q=>Q (.str p.1) H:TE),(λσ H Q=>Q (.int p.2) H:TE))) σ H Q
 | [],Q,h=>h
 | p::r,Q,h=>ay8 (ps:=r) (Q:=λps H3=>Q ((.str p.1,.int p.2)::ps) H3) h
def cj5(h:bc7 ks vs=Z ps)(h0:ps≠[])(h15:ps.length<=15):JE X (.Dict ks vs pos) (dC<|.dict (mgD<|ps.map λp=>(p.1,.int p.2))):=λρ d q=>by
 cases q;obtain⟨q1,q2,q3,q4⟩:=aZ3 (X:=X) (pos:=pos) h;refine C3 (cd8 q1 q4 (q2.trans q3.symm) (by intro z;rw[z]at q2;exact h0<|dM.mp q2.symm)<|by grind) λσ H Q ⟨H0,Hf,s,sl,k⟩ p hp=>ay8 ?_
 refine⟨C5,ps.map λp=>(Sum.inr p.1,.int p.2),by rw[bH];rfl,by simpa using h15,?_⟩;rw[ca1];refine k _ _ (upd Hf p _) (Grow.laid s hp) ⟨p,_,rfl,C5,?_⟩
 have e:an4 [] (ps.map λp=>((Sum.inr p.1:Key),V.int p.2))=mgV (ps.map λp=>(p.1,V.int p.2)):=by
  unfold an4 mgV;rw[List.foldl_map,List.foldl_map]
 rw[e];exact an1 (aA0 ps) (show RepKs X.K _ [] [] from rfl)
end
section
variable {X:Cx}
noncomputable def cM3:List D->Option Bool
 | []=>Z false
 | .bool b::r=>(cM3 r).map λc=>b || c
 | _::_=>O
theorem bf2:∀{ds:List D}{c:Bool},cM3 ds=Z c->∃bs:List Bool,ds=bs.map fF/\c=bs.any id
 | [],c,h=>by cases h;exact⟨[],rfl,rfl⟩
 | .bool b::r,c,h=>by
  obtain⟨c',h1,h2⟩:=xmo h;obtain⟨bs,h3,h4⟩:=bf2 h1;exact⟨b::bs,by simp[h3],by simp[← h2,h4]⟩
def bE4:U9 X (.builtin "any") (λxs H Q=>X.calm=true/\∃(p:fO) (bs:List Bool),xs=[.ref p]/\SqL X.K H p (bs.map V.bl)/\Q (.bl<|bs.any id) H):=by
 intro pins s σ H xs us Q I r h;obtain⟨hc,p,bs,rfl,hq,q⟩:=h;obtain⟨u,rfl,rx⟩:=W3 r;cases rx;obtain⟨its,rv,pl,hz⟩:=I.list hq;have hlen:=rv.length;have hh:X.A.in1.handled=O:=I.ok.hd hc;have hlt:p < s.heap.objs.size:=by obtain⟨_,e,_⟩:=pl.isList;exact fA e
 refine call_any_walk (wpAny_pyIter_list pl.isList ?_);refine⟨s.heap.objs.size,_,_,_,_,_,λi=>(bs[i]?).getD false,rfl,Walks.list hh _ p (aC hlt) its.toArray,⟨⟨_,fB _ rfl,rfl,rfl⟩,pl.isList.at λo e=>fw _ e⟩,?_,?_⟩
 .intro i v s' Q' E' hv hQ;have hv':its[i]? = Z v:=by simpa using hv
  have:∃b,bs[i]? = Z b:=by
   have:i < its.length:=(ak.mp hv').1;have:i < bs.length:=by simpa using (by grind:i < (bs.map V.bl).length)
   exact⟨bs[i],by simp[this]⟩
  obtain⟨b,hb⟩:=this;obtain⟨u,hu,ru⟩:=rv.get (i:=i) (x:=.bl b) (by simp[hb]);rw[hv']at hu;cases hu;cases ru;exact eR (by simpa [hb] using hQ)
 .intro h' tk hk
  have e:((ay its.toArray.size).any λi=>(bs[i]?).getD false)=bs.any id:=by
   have hn:its.toArray.size=bs.length:=by simpa using hlen.symm
   rw[hn,bX];simp only[bv,aR,id];constructor
   .rintro⟨i,hi,h⟩
    exact⟨bs[i],aS hi,by simpa [hi] using h⟩
   .rintro⟨x,hx,h⟩
    obtain⟨i,hi,rfl⟩:=List.mem_iff_getElem.mp hx;exact⟨i,hi,by simpa [hi] using h⟩
  rw[e]
  have I1:Inv X pins σ H { s with heap:=h',toks:=tk }:=by
   have I0:Inv X pins σ H { s with heap:=s.heap.push { cls:=.type "list_iterator", data:=.fields #[.ref p,rawInt 0] } }:=I.kept (t':=s.toks) λb o e=>fw _ e
   refine I.kept (t':=tk) λb o e=>hk b o ?_<|fw _ e
   intro hb;have:b=s.heap.objs.size:=by simpa using hb
   subst this;exact absurd (fA e)<|bt _
  exact⟨.bl<|bs.any id,H,I1,rfl,q⟩
noncomputable def cX7(f:Rho->Option (Bool×List D)):DE:=λρ=>(f ρ).bind λq=>if q.1=true then O else(cM3 q.2).map fF
def cI0(hg:Gl X "any")(hm:X.mg "any" = O)(h:JQ X e f)(hc:X.calm=true:=by rfl)(he:eT [e] X.env=[(false,eval e X.env)]:=by rfl):JE X (.Call (.Name "any" p) [e] [] pos) (cX7 f):=λρ d q=>by
 obtain⟨⟨t,ds⟩,h1,h2⟩:=xbm q;cases t with
 | true=>simp at h2
 | false =>
  simp only[be,if_false]at h2;obtain⟨c,h3,h4⟩:=xmo h2;subst h4;obtain⟨bs,h5,h6⟩:=bf2 h3;subst h5 h6;refine C3 (Q9 bE4 hg hm boot_any (E3 (h ρ false _ h1) J8 he) (he:=he)) λσ H Q ⟨H0,Hf,s,sl,k⟩=>?_
  refine⟨H0,Hf,s,sl,λv H1 Hf1 g1 ⟨a,vs,e1,e2,e3⟩=>⟨hc,a,bs,by rw[e1],?_,k _ H1 Hf1 g1 rfl⟩⟩;rw[an0 e3]at e2;exact e2
end
def aI2{K:ad}{h:Heap}{C:fO}{bb:List fM}{nid:String}(kin:K.In h)(q:bV K C bb nid=true):
  ∃nm qn N bs bm hd sn sub ab col dd k0 k1 k2 k3 k5 mN,h.get? C=Z (excClassObj nm qn C N bs bm hd sn sub ab col dd k0 k1 k2 k3 k5 nid)/\h.Ns N mN/\mN "__init__" = O/\OwnTail h bb bm:=by
 unfold bV at q;split at q
 case h_2=>cases q
 rename_i d0 c0 sl0 lk;split at q
 case h_2=>cases q
 rename_i C1 tl p0 p1 p2 p3 n1 p5 e1 e2;simp only[af,beq_iff_eq,bC]at q;obtain⟨⟨⟨⟨⟨q1,q2⟩,q3⟩,q4⟩,q5⟩,q6⟩:=q;subst q1 q2;obtain⟨f1,f2,f3,f4,f5,f6,f7,f8,f9,f10,f11⟩:=c0;dsimp only at e1 q3 q5 q6;subst e1 q3;obtain⟨sll⟩:=sl0;dsimp only at e2;subst e2;exact⟨f1,f5,f4,f2,tl,f6,f7,f8,f9,f10,d0,p0,p1,p2,p3,p5,_,kin _ _ lk,.of_isNs<|PySem.W.isNs_of_in kin q5,PySem.W.nsMap_none_of_in kin q5 q6,PySem.W.tail_of_in kin q4⟩
structure Fly (R:fO->Prop) (l:List Env) (g B:Heap) (C a:fO) (h:Heap):Prop where
 keep:∀b o,R b->g.get? b=Z o->b∉frs l->B.get? b=Z o
 fly:∃t,Heap.FlyingW B l a (.ref C) (.ref t) h
 sl:∀b o,g.get? b=Z o->b∈frs l->∃z,h.get? b=Z { o with slots:=z }
def Rl(s:fN)(H':Hp)(b:fO):Prop:=s.heap.get? b≠O\/H' b≠O
noncomputable def CX1(P:fb)(w:World):CXT:=λouter H s E e s'=>∃a C g B H',e=.ref a/\s'.os=s.os/\AllBare s'.gens/\Un (frs outer) [] H H' s.heap g/\HOk P w H' g/\Fly (Rl s H') outer g B C a s'.heap/\E (.ref C) O H'
section
variable {X:Cx}{pins:List (Addr×Obj)}{σ:L2.St}{H H':Hp}{s s':Shared}{g B:Heap}
def cl0(I:Inv X pins σ H s)(os:s'.os=s.os)(bare:AllBare s'.gens)(un:Un (frs X.stack) [] H H' s.heap g)(hok:HOk X.prog X.w H' g)(keep:∀b o,Rl s H' b->g.get? b=Z o->b∉frs X.stack->B.get? b=Z o)
  (hB:B.StaysIn s'.heap) (sl:∀b o,g.get? b=Z o->b∈frs X.stack->∃z,s'.heap.get? b=Z { o with slots:=z }):Inv X pins σ H' s':=by
 have nx:∀b:fO,b∉([]:List fO):=λb z=>absurd z (by simp)
 refine I.call' (ch:=[]) os ⟨λb o e n m z=>hB b o (keep b o (.inl (by rw[e];simp)) (un.keep b o e n m z) m),λb o e n m z=>?_,un.free,λb o e z=>?_,un.tups,un.frzs,un.tbls⟩ ?_ bare λb z=>absurd z<|nx b
 .obtain⟨z1,q⟩:=un.slot b o e n m z;obtain⟨z2,q2⟩:=sl b _ q m;exact⟨z2,q2⟩
 .obtain⟨o',q⟩:=un.there b o e z;by_cases m:b∈frs X.stack
  .obtain⟨z2,q2⟩:=sl b _ q m;exact⟨_,q2⟩
  .exact⟨o',hB b o'<|keep b o' (.inl (by rw[e];simp)) q m⟩
 .intro a o e
  have fr0:∀b,b∈frs X.stack->H' b=O:=λb m=>by
   obtain⟨_,o1,h1,_⟩:=I.stack.mem m;exact un.free b o1 h1 (I.stkFree b m)<|nx b
  refine(hok a o e).stay (λb u hb q=>?_) (λ_ q=>q) λ_ _ q=>q
  have hn:H' b≠O:=by
   rcases hb with rfl|hb
   .rw[e];simp
   .rw[hb];simp
  exact hB b u<|keep b u (.inr hn) q λm=>hn<|fr0 b m
end
section
variable {P:Program}{w:World}{K:PySem.W.Frag}{mg:Str->Option Value}{base:Heap}{N:List Str}{qual:Str}{scope:Scope}{f:Addr}{cd:Value}{A:Around}{outer:List Env}{s:Shared}{H H1:Hp}{E:XK}
 {pins:List (fO×Obj)}{σ:L2.St}{s1 s':fN}{h2:Heap}{a C:fO}{vs:List fM}
noncomputable abbrev cx1(P:fb)(w:World)(K:ad)(mg:Str->Option fM)(base:Heap)(N:List Str)(qual:Str)(scope:Scope)(f:fO)(cd:fM)(A:fc)(outer:List Env)(s:fN)(H:Hp)(E:XK):Cx:=aW0 (CX1 P w) P w K mg base N qual scope f cd A outer s H E
def co9(I:Inv (cx1 P w K mg base N qual scope f cd A outer s H E) pins σ H1 s1)(r:Rl s H1 b):b≠s.heap.objs.size:=by
 rintro rfl
 rcases r with r|r
 .exact r (Heap.get?_none_of_le<|aj _)
 .exact r I.free
def aN8(h1:b∉frs outer)(h2:b≠s.heap.objs.size):b∉frs (cx1 P w K mg base N qual scope f cd A outer s H E).stack:=λm=>by
 have m:b∈s.heap.objs.size::frs outer:=m;rcases ao.mp m with z|z
 .exact h2 z
 .exact h1 z
def bb0(I:Inv (cx1 P w K mg base N qual scope f cd A outer s H E) pins σ H1 s1)(hm:Heap.MadeExcOf s1.heap h2 a (.ref C) vs)(hE:E (.ref C) O H1):(cx1 P w K mg base N qual scope f cd A outer s H E).xe (.ref a) { s1 with heap:=h2 }:=by
 have hin:∀env∈(cx1 P w K mg base N qual scope f cd A outer s H E).stack,∀b,env.frame=Z b->b∈frs (cx1 P w K mg base N qual scope f cd A outer s H E).stack:=λenv he b hb=>cJ.mpr ⟨env,he,hb⟩
 refine wpAny_leaves_madeW (base:=PySem.W.hideAll s1.heap<|frs (cx1 P w K mg base N qual scope f cd A outer s H E).stack) (h:=s1.heap) (outer:=outer) I.ok.frames rfl (λb o q=>PySem.W.of_hideAll _ q) (PySem.W.funFrames_hide I.stack hin) hm λh' t x1 _ _ x4=>?_
 refine⟨a,C,s1.heap,_,H1,rfl,I.os,I.bare,I.base,I.hok,⟨λb o r e m=>PySem.W.hideAll_get _ e<|aN8 m (co9 I r),⟨t,x1⟩,λb o e m=>?_⟩,hE⟩;obtain⟨_,o',e',hd⟩:=I.stack.mem (xmm _ m);rw[e]at e';cases e';exact x4 b o (hm.keeps b o e) hd
def bq4(I:Inv (cx1 P w K mg base N qual scope f cd A outer s H E) pins σ H1 s1)(hx:CX1 P w (cx1 P w K mg base N qual scope f cd A outer s H E).stack H1 s1 E e s'):(cx1 P w K mg base N qual scope f cd A outer s H E).xe e s':=by
 obtain⟨a,C,g,B,H',rfl,os,bare,un,hok,F,hE⟩:=hx;have J:Inv (cx1 P w K mg base N qual scope f cd A outer s H E) pins σ H' { s' with heap:=g }:=I.call' (s':={ s' with heap:=g }) (ch:=[]) os un hok bare (λb z=>absurd z<|by simp);obtain⟨t,fl⟩:=F.fly;refine wpAny_leaves_onW (outer:=outer) I.ok.frames rfl fl λh' x1 x2=>?_
 have up:∀b,Rl s H' b->Rl s1 H' b:=λb r=>r.imp (λz q=>by
  cases e:s.heap.get? b with
  | none=>exact z e
  | some o =>
   obtain⟨o',q'⟩:=I.base.there b o e (λz=>absurd (show b∈([]:List fO) from z)<|by simp)
   rw[q]at q';cases q') id
 refine⟨a,C,g,B,H',rfl,J.os,bare,J.base,J.hok,⟨λb o r e m=>F.keep b o (up b r) e<|aN8 m (co9 J r),⟨t,x1⟩,λb o e m=>?_⟩,hE⟩;obtain⟨z,e2⟩:=F.sl b o e (xmm _ m);obtain⟨_,o',e',hd⟩:=J.stack.mem (xmm _ m);have e':g.get? b=Z o':=e';rw[e]at e';cases e';obtain⟨z2,q⟩:=x2 b _ e2 hd;exact⟨z2,q⟩
end
noncomputable abbrev veB:List fM:=[.type "ValueError", .type "Exception", .type "BaseException", .type "object"]
noncomputable def aa6(K:ad)(x:Str):Bool:=match clA K x with
 | some C=>bV K C veB "ValueError.__new__"
 | none=>false
noncomputable abbrev RD:=Rho->Option (Str×Rho)
noncomputable def EC(C:fO)(H1:Hp):XK:=λcls _ H'=>cls=.ref C/\E2 H1 H'
noncomputable def Ou(X:Cx)(m:Bool)(pins:List (fO×Obj))(ρ1:Rho)(C:fO)(H0 Hf0:Hp)(e:fM)(s':fN):Prop:=∃σ1 H1 Hf1 s1,Inv X pins σ1 H1 s1/\At X.K H0 Hf0 ρ1 σ1 H1 Hf1 /\
 ((m=true/\∃h' a vs,s'={ s1 with heap:=h' }/\e=.ref a/\Heap.MadeExcOf s1.heap h' a (.ref C) vs)\/CX1 X.prog X.w X.stack H1 s1 (EC C H1) e s')
noncomputable def Lo(X:Cx)(C:fO)(H0:Hp)(e:fM)(s':fN):Prop:=ft (fu X.prog X.w) X.A (leaving X.env e) (λ_ s''=>CX1 X.prog X.w X.outer X.H₀ X.s₀ (EC C H0) e s'') (λe' s''=>CX1 X.prog X.w X.outer X.H₀ X.s₀ (EC C H0) e' s'') s'
def Ot(X:Cx)(m:Bool)(pins:List (fO×Obj))(ρ1:Rho)(C:fO)(H0 Hf0:Hp)(e:fM)(s':fN):Prop:=Ou X m pins ρ1 C H0 Hf0 e s'\/(m=true/\Lo X C H0 e s')
noncomputable def JR(X:Cx)(m:Bool)(st:Stmt)(r:RD):Prop:=∀ρ x ρ1 C,r ρ=Z (x,ρ1)->clA X.K x=Z C->∀H0 Hf0 pins s σ H Hf,Inv X pins σ H s->At X.K H0 Hf0 ρ σ H Hf ->
 ft (fu X.prog X.w) X.A (exec st X.env) (λ_ _=>False) (Ot X m pins ρ1 C H0 Hf0) s
noncomputable def JRs(X:Cx)(m:Bool)(sts:List Stmt)(r:RD):Prop:=∀ρ x ρ1 C,r ρ=Z (x,ρ1)->clA X.K x=Z C->∀H0 Hf0 pins s σ H Hf,Inv X pins σ H s->At X.K H0 Hf0 ρ σ H Hf ->
 ft (fu X.prog X.w) X.A (execs sts X.env) (λ_ _=>False) (Ot X m pins ρ1 C H0 Hf0) s
noncomputable def PX(X:Cx)(m:Bool)(e:Expr)(r:RD):Prop:=∀ρ x ρ1 C,r ρ=Z (x,ρ1)->clA X.K x=Z C->∀H0 Hf0 pins s σ H Hf,Inv X pins σ H s->At X.K H0 Hf0 ρ σ H Hf ->
 ft (fu X.prog X.w) X.A (eval e X.env) (λ_ _=>False) (Ot X m pins ρ1 C H0 Hf0) s
def noX{α:Type}{t:Sem α}{Q Q':α->fN->Prop}{M:Model}{A:fc}{E E':fM->fN->Prop}{s:fN}(hx:∀e s,E e s->False)(h:ft M A t Q E s)(hQ:∀a s,Q a s->Q' a s):ft M A t Q' E' s:=eO h hQ λe s z=>(hx e s z).elim
section
variable {X:Cx}{m:Bool}(hx:∀e s,X.xe e s->False)
include hx
noncomputable def T9(x:Str)(f:DE):RD:=λρ=>(f ρ).map λ_=>(x,ρ)
def bO9{x:Str}{e:Expr}{f:DE}{np cpos pos:Pos}(hq:aa6 X.K x=true)(hg:Gl X x)(hm:∀C,clA X.K x=Z C->X.mg x=Z (.ref C))(hc:X.calm=true)(he:JE X e f)(hd:(x==("__debug__" : Str))=false)
  (hs:eT [e] X.env=[(false,eval e X.env)]):JR X true (.Raise (Z<|.Call (.Name x np) [e] [] cpos) O pos) (T9 x f):=by
 intro ρ y ρ1 C q hC H0 Hf0 pins s σ H Hf I at_;obtain⟨d,q1,q2⟩:=xmo q;cases q2;have hq:bV X.K C veB "ValueError.__new__" = true:=by unfold aa6 at hq;rw[hC]at hq;exact hq
 obtain⟨nm,qn,N,bs,bm,hd',sn,sub,ab,col,dd,k0,k1,k2,k3,k5,mN,g1,g2,g3,g4⟩:=aI2 I.mod.kin hq;refine wpAny_Raise_call_subT (C:=C) (bm:=bm) (nm:=nm) (q:=qn) (N:=N) (bs:=bs) (hdct:=hd') (sn:=sn) (sub:=sub) (ab:=ab) (col:=col) (dd:=dd) (k0:=k0) (k1:=k1) (k2:=k2) (k3:=k3) (k5:=k5) F.excBase_ValueError (g4.hasType<|by decide) (I.ok.hd hc) (by first|rw[hs];rfl|unfold hfX;rw[hs];rfl) g3 ?_;refine r8 I hg (hm C hC) ⟨rfl,?_⟩ hd;have hA:=(bs9 he bR0 (by first|rw[hs];rfl|unfold hfX;rw[hs];rfl)).run ρ [d] (by simp only[A0,A2,q1,cW,dl]) cpos pins s σ H (λvs H'=>(∃Hf',At X.K H0 Hf0 ρ σ H' Hf')/\vs.length=1) I ⟨H0,Hf,at_.gr.sub,at_.sl,λvs H' Hf' gr rs=>⟨⟨Hf',at_.grow gr⟩,rs.length⟩⟩;rw[hs]at hA ⊢;refine Calls.evalArgs_plain (noX hx hA λus s2 ⟨vs,H2,I2,r2,⟨Hf2,a2⟩,l1⟩=>?_);have ln:us.length=1:=by rw[← r2.length];exact l1
 exact⟨rfl,by show us.length<=_;rw[ln];decide,I2.bk _ _ g1,g2.keeps I2.bk,g4.keeps I2.bk,λh' a hm'=>.inl ⟨σ,H2,Hf2,s2,I2,a2,.inl ⟨rfl,h',a,us,rfl,rfl,hm'⟩⟩⟩
noncomputable def rNo:RD:=λ_=>O
omit hx in
def ad7{st:Stmt}:JR X m st rNo:=λρ x ρ1 C q=>by cases q
omit hx in
def cG0:JRs X m sts rNo:=λρ x ρ1 C q=>by cases q
noncomputable def rIf(t:Rho->Option Bool)(a b:RD):RD:=λρ=>(t ρ).bind λc=>if c=true then a ρ else b ρ
def cV1{c:Expr}{a b:List Stmt}{t:Rho->Option Bool}{f g:RD}{pos:Pos}(hc:JT X c t)(ha:JRs X m a f)(hb:JRs X m b g):JR X m (.If c a b pos) (rIf t f g):=by
 intro ρ x ρ1 C q hC H0 Hf0 pins s σ H Hf I at_;obtain⟨d,q1,q2⟩:=xbm q;refine wpAny_If (noX hx (hc ρ d q1 pins s σ H (λd' H'=>d'=d/\∃Hf',Grow H Hf H' Hf') I ⟨H0,Hf,at_.gr.sub,at_.sl,λH' Hf' gr=>⟨rfl,Hf',gr⟩⟩) λd' s1 ⟨H1,I1,e,Hf1,gr⟩=>?_);subst e;cases d' with
 | true=>exact ha ρ x ρ1 C q2 hC H0 Hf0 pins s1 σ H1 Hf1 I1<|at_.grow gr
 | false=>exact hb ρ x ρ1 C q2 hC H0 Hf0 pins s1 σ H1 Hf1 I1<|at_.grow gr
noncomputable def O8(r:RD)(f:DS)(r2:RD):RD:=λρ=>match r ρ with
 | some x=>Z x
 | none=>match f ρ with
  | some (.nx ρ')=>r2 ρ'
  | _=>O
def bO8{st:Stmt}{sts:List Stmt}{r r2:RD}{f:DS}(h1:JR X m st r)(h2:JS X st f)(h3:JRs X m sts r2):JRs X m (st::sts) (O8 r f r2):=by
 intro ρ x ρ1 C q hC H0 Hf0 pins s σ H Hf I at_;unfold O8 at q;split at q
 .rename_i y e;cases q;exact wpAny_execs_cons<|thn (h1 ρ x ρ1 C e hC H0 Hf0 pins s σ H Hf I at_) λ_ _ z=>z.elim
 .split at q
  .rename_i ρ' e;refine wpAny_execs_cons (noX hx (h2 ρ _ e H0 Hf0 pins s σ H { nx:=λσ' H'=>∃Hf',At X.K H0 Hf0 ρ' σ' H' Hf',rt:=λ_ _=>False } I ⟨Hf,at_,λσ' H' Hf' a _=>⟨Hf',a⟩⟩) λfl s1 z=>?_);cases fl with
   | next =>
    obtain⟨σ1,H1,I1,Hf1,a1⟩:=z;exact h3 ρ' x ρ1 C q hC H0 Hf0 pins s1 σ1 H1 Hf1 I1 a1
   | ret v=>obtain⟨_,_,_,_,_,z⟩:=z;exact z.elim
   | brk=>obtain⟨_,_,_,z⟩:=z;exact z.elim
   | cont=>obtain⟨_,_,_,z⟩:=z;exact z.elim
  .cases q
omit hx in
def ch9{st:Stmt}{r:RD}(h1:JR X m st r):JRs X m [st] r:=λρ x ρ1 C q hC H0 Hf0 pins s σ H Hf I at_ =>wpAny_execs_cons<|thn (h1 ρ x ρ1 C q hC H0 Hf0 pins s σ H Hf I at_) λ_ _ z=>z.elim
noncomputable def spR(K:ad)(n:Nat)(R:List D->Option Str):Sp:=λvs H _ E=>vs.length=n/\∃Hf ds x C,E2 Hf H/\Reps K Hf ds vs/\R ds=Z x/\clA K x=Z C/\∀H',E2 H H'->E (.ref C) O H'
noncomputable def O2(R:List D->Option Str)(g:Rho->Option (List D)):RD:=λρ=>(g ρ).bind λds=>(R ds).map λx=>(x,ρ)
def cc3{k:Nat}{f:fO}{fd:fe}{ps:List Str}{n:Nat}{R:List D->Option Str}{x:Str}{e:Expr}{es:List Expr}{g:Rho->Option (List D)}{p pos:Pos}(Fk:FnOk X.prog X.w X.K X.mg X.base (CX1 X.prog X.w) k f fd ps (spR X.K n R))(hr:Room k X.A)(hg:Gl X x)(hm:X.mg x=Z (.ref f))(hk:aW X.K (.ref f)=true)(hb:Q3 X.K fd ps [])
  (ha:JA X (e::es) g) (hn:(e::es).length=n) (hdb:(x==("__debug__" : Str))=false) (he:eT (e::es) X.env=(false,eval e X.env)::eT es X.env) (hpl:(backTo pos<|eT es X.env).any (·.1)=false) :
  PX X m (.Call (.Name x p) (e::es) [] pos) (O2 R g):=by
 intro ρ y ρ1 C q hC H0 Hf0 pins s σ H Hf I at_;obtain⟨ds,h1,h2⟩:=xbm q;obtain⟨y',h4,h3⟩:=xmo h2;cases h3;refine wpAny_Call_Name_kw (r8 I hg hm ?_ hdb);refine PySem.W.callWith_K (h₀:=X.base) I.ok.mod.kin hk (noX hx (ha.run ρ ds h1 pos pins s σ H (λvs H'=>∃Hf',At X.K H0 Hf0 ρ σ H' Hf'/\Reps X.K Hf' ds vs) I ⟨H0,Hf,at_.gr.sub,at_.sl,λvs H1 Hf1 g1 r1=>⟨Hf1,at_.grow g1,r1⟩⟩) λus s1 ⟨vs,H1,I1,r,Hf1,a1,rp⟩=>⟨I1.kIn,?_⟩) he hpl;have hl:vs.length=n:=by rw[rp.length,ha.len ρ ds h1,hn]
 have sp:spR X.K n R vs H1 (λ_ _=>False) (EC C H1):=⟨hl,Hf1,ds,y,C,a1.gr.sub,rp,h4,hC,λH' sm=>⟨rfl,sm⟩⟩;have hl2:us.length=ps.length:=by rw[← r.length];exact Fk.len vs H1 (λ_ _=>False) (EC C H1) sp
 have bd:BindsTo s1 fd ⟨us,[]⟩ (ps.zip us):=by
  have:=hb s1 us I1.kIn (by rw[ba];exact hl2)
  rwa [ba]at this
 refine wpAny_call (codeAny_mono (Fk.run X.A X.stack s1 H1 ⟨us,[]⟩ us vs (λ_ _=>False) (EC C H1) hr I1.env0 bd r sp) λrs s' hq=>?_);cases rs with
 | error e=>exact .inl ⟨σ,H1,Hf1,s1,I1,a1,.inr hq⟩
 | ok fl =>
  cases fl with
  | ret u=>obtain⟨_,_,_,_,_,_,_,z⟩:=hq;exact z.elim
  | next=>exact False.elim hq
  | brk=>exact False.elim hq
  | cont=>exact False.elim hq
omit hx in
def ci0(h:PX X m e r)(hs:swapsWith e O pos.line X.env=pure false):JR X m (.Expr e pos) r:=λρ x ρ1 C q hC H0 Hf0 pins s σ H Hf I at_ =>wpAny_Expr_any (thn (h ρ x ρ1 C q hC H0 Hf0 pins s σ H Hf I at_) λ_ _ z=>z.elim) I.quiet hs
omit hx in
def cG2(h:PX X m e r):JR X m (.Return (Z e) pos) r:=λρ x ρ1 C q hC H0 Hf0 pins s σ H Hf I at_ =>wpAny_Return_some<|thn (h ρ x ρ1 C q hC H0 Hf0 pins s σ H Hf I at_) λ_ _ z=>z.elim
omit hx in
def cG1(h:PX X m e r)(hs:swapsWith e (Z<|.Name x pos') pos.line X.env=pure false):JR X m (.Assign [.Name x pos'] e pos) r:=λρ y ρ1 C q hC H0 Hf0 pins s σ H Hf I at_ =>wpAny_Assign_Name (thn (h ρ y ρ1 C q hC H0 Hf0 pins s σ H Hf I at_) λ_ _ z=>z.elim) hs
end
def CX1.mono(h:CX1 P w outer H s E e s')(m:∀cls H',E cls O H'->E' cls O H'):CX1 P w outer H s E' e s':=by
 obtain⟨a,C,g,B,H',q1,q2,q3,q4,q5,q6,q7⟩:=h;exact⟨a,C,g,B,H',q1,q2,q3,q4,q5,q6,m _ _ q7⟩
noncomputable def af6(r:RD)(n:Nat):List D->Option Str:=λds=>(r<|Z9 n ds).map (·.1)
def bT3{P:fb}{w:World}{K:ad}{mg:Str->Option fM}{base:Heap}{x qual:Str}{st:Stmt}{f:fO}{fd:fe}{N ps:List Str}{k:Nat}{r:RD}(F:Fun K x qual st f fd)(S:FnScope N ps (C8 st))
  (hb:∀(cdv:fM) (A:fc) (outer:List Env) (s:fN) (H:Hp) (E:XK),Room k (A.deeper<|envOfC qual (C8 st) s.heap.objs.size f cdv)->JRs (cx1 P w K mg base N qual (C8 st) f cdv A outer s H E).nox true (M0 st) r) :
  FnOk P w K mg base (CX1 P w) (k+1) f fd ps (spR K ps.length<|af6 r N.length):=by
 obtain⟨oc,od,kV,doc,pm,an,cdv,ct,osl,rfl,lk,hcd⟩:=F.ex;refine aP1 lk hcd S (λvs H Q E h=>h.1) λA outer s H vs Q E hr hsp=>?_
 obtain⟨hlen,Hf,ds,y,C,ss,rp,e,hC,hE⟩:=hsp;obtain⟨⟨y',ρ1⟩,e1,e2⟩:=xmo e;cases e2;refine⟨λ_ σ H'=>σ=L2.Q5 N vs/\H'=H,λpins s1 σ H1 D I z=>?_,rfl,rfl⟩;obtain⟨rfl,rfl⟩:=z;refine eO (hb cdv A outer s H1 E hr (Z9 N.length ds) y' ρ1 C e1 hC H1 Hf pins s1 _ H1 Hf (I.wish _) ⟨Grow.refl ss,az1 rp⟩) (λ_ _ z=>z.elim) λex s' ho=>?_
 rcases ho with ho|⟨_,lo⟩
 case inr =>exact eO lo (λ_ s'' z=>CX1.mono z λcls H' q=>by obtain⟨rfl,sm⟩:=q;exact hE H' sm) λe' s'' z=>CX1.mono z λcls H' q=>by obtain⟨rfl,sm⟩:=q;exact hE H' sm
 obtain⟨σ1,H2,Hf2,s2,I2,a2,o⟩:=ho;have I2:=I2.unwish;rcases o with⟨_,h',a,vs',rfl,rfl,hm⟩|hc
 .exact bb0 I2 hm (hE H2 a2.gr.big)
 .refine bq4 I2 ?_;obtain⟨a,C',g,B,H',q1,q2,q3,q4,q5,q6,q7,q8⟩:=hc;cases q7;exact⟨a,C,g,B,H',q1,q2,q3,q4,q5,q6,hE H' (a2.gr.big.trans q8)⟩
section
variable {M:Model}{A:Around}{E:Value->Shared->Prop}{h:Heap}{g:Array GenState}{d:Drawn}{t:Nat}{os:OsState}
variable {nm qn nm2 qn2:Str}{C N D N2:Addr}{bs bm bs2 bm2:List Value}{hd hd2:Bool}{sn sn2:List Str}{sub sub2:List Value}{ab ab2:Bool}{col col2:Option Bool}{dd dd2:Option Addr}{k0 k1 k2 k3 k5 j0 j1 j2 j3 j5:Option Value}{nid nid2:String}
def dd5(hC:h.get? C=Z (excClassObj nm qn C N bs bm hd sn sub ab col dd k0 k1 k2 k3 k5 nid))(hD:h.get? D=Z (excClassObj nm2 qn2 D N2 bs2 bm2 hd2 sn2 sub2 ab2 col2 dd2 j0 j1 j2 j3 j5 nid2))
  (he:h.get? e=Z oe) (hcls:oe.cls=.ref C) (hb:bm2.contains (.type "BaseException")=true) (hq:Q ((fI C::bm).contains<|.ref D) ⟨h,g,d,t,os⟩):ft M A (excMatches (.ref e)<|.ref D) Q E ⟨h,g,d,t,os⟩:=by
 have cB:(fI D::bm2).contains (.type "BaseException")=true:=by rw[List.contains_cons,hb,Bool.or_true]
 have f:=tc_notTuple;generalize hb:(fI C::bm).contains (.ref D)=b at hq;unfold excMatches
 repeat (first|(with_reducible refine wpAny_loadPart_at he ?_;rw[hcls])|with_reducible refine wpAny_loadPart_at hD ?_|(with_reducible refine wpAny_isSubtype_exc hD ?_;rw[cB])|(with_reducible refine wpAny_isSubtype_exc hC ?_;rw[hb])|wp_step)
 cases b<;>(wp_walk;exact hq)
end
noncomputable abbrev Cx.held(X:Cx)(e:fM):Cx:={ X with A:=X.A.mark (Z e),calm:=false }
section
variable {X:Cx}{pins:List (Addr×Obj)}{σ:L2.St}{H:Hp}{s:Shared}
theorem Inv.held(I:Inv X pins σ H s)(e:fM):Inv (Cx.held X e) pins σ H s :=
 ⟨⟨I.ok.mod,I.ok.kind,I.ok.glob,I.ok.blt,I.ok.above,I.ok.inj,I.ok.has,I.ok.cab,(λz=>by cases z),I.ok.frames,I.ok.stk,I.ok.exf,I.ok.bs,I.ok.bsz,I.ok.noex,I.ok.exfs,I.ok.funs,I.ok.frf⟩,I.os,I.bare,I.base,I.loc,I.cell,I.free,I.freeC,I.pin,I.hok,I.len⟩
def Inv.unheld(I:Inv (Cx.held X e) pins σ H s)(ok:X.Ok):Inv X pins σ H s:=⟨ok,I.os,I.bare,I.base,I.loc,I.cell,I.free,I.freeC,I.pin,I.hok,I.len⟩
def Inv.wipe(I:Inv X pins σ H s)(hn:h'.Ns X.env.locals m')(hs:Heap.SameBut X.env.locals s.heap h'):Inv X pins (ax σ.length O) H { s with heap:=h',toks:=tk }:=by
 have ne0:∀b o,X.s₀.heap.get? b=Z o->b≠X.env.locals:=λb o e z=>by
  have:=fA e;rw[z]at this;exact absurd (aH this I.ok.above)<|bt _
 have eq:∀b,b≠X.env.locals->h'.get? b=s.heap.get? b:=λb hb=>hs.2 b hb
 refine⟨I.ok,I.os,I.bare,⟨λb o e n hb hx=>?_,λb o e n hb hx=>?_,I.base.free,λb o e hx=>?_,I.base.tups,I.base.frzs,I.base.tbls⟩,⟨m',hn,λi x v _ e _=>?_⟩,λx c e=>?_,I.free,I.freeC,λp hp=>?_,λa o e=>?_,by rw[bN];exact I.len⟩
 .show h'.get? b=_;rw[eq b (ne0 b o e)];exact I.base.keep b o e n hb hx
 .obtain⟨sl,q⟩:=I.base.slot b o e n hb hx;exact⟨sl,by show h'.get? b=_;rw[eq b (ne0 b o e)];exact q⟩
 .obtain⟨o',q⟩:=I.base.there b o e hx;exact⟨o',by show h'.get? b=_;rw[eq b (ne0 b o e)];exact q⟩
 .rw[bo]at e;split at e<;>cases e
 .obtain⟨v,o,q1,q2⟩:=I.cell x c e;exact⟨v,o,by show h'.get? c=_;rw[eq c (I.cne x c e)];exact q1,q2⟩
 .obtain⟨q1,q2,q3,q4,q5⟩:=I.pin p hp;exact⟨by show h'.get? p.1=_;rw[eq p.1 q3];exact q1,q2,q3,q4,q5⟩
 .refine(I.hok a o e).stay (λb u hb q=>?_) (λ_ q=>q) λ_ _ q=>q
  show h'.get? b=_;rw[eq b λz=>?_]
  .exact q
  .have f:=I.free;rcases hb with rfl|hb
   .rw[z,f]at e;cases e
   .rw[z,f]at hb;cases hb
end
def N8.is(x:N8 P w H h a o):∃u,h.get? a=Z u:=by
 cases o with
 | lst xs=>obtain⟨_,_,_,_,e⟩:=x;exact⟨_,e⟩
 | tup xs=>obtain⟨_,_,_,ob,e,_⟩:=x;exact⟨_,e⟩
 | dK kvs=>obtain⟨_,_,_,_,ob,_,_,e,_⟩:=x;exact⟨_,e⟩
 | dT kvs=>obtain⟨_,_,_,_,ob,_,_,e,_⟩:=x;exact⟨_,e⟩
 | set S n=>obtain⟨ob,_,_,_,e,_⟩:=x;exact⟨_,e⟩
 | ins C dx fs=>obtain⟨_,_,_,e,_⟩:=x;exact⟨_,e⟩
 | own y=>exact x
 | xd fs=>obtain⟨_,⟨ob,_,_,e,_⟩,_⟩:=x;exact⟨_,e⟩
 | rng lo hi=>obtain⟨_,_,_,e⟩:=x;exact⟨_,e⟩
 | frz ob u=>obtain⟨e,_⟩:=x;exact⟨_,e⟩
 | tbl ps=>exact⟨_,x⟩
 | met f y=>exact⟨_,x⟩
 | ext φ=>obtain⟨_,e,_⟩:=x;exact e
section
variable {X:Cx}{pins:List (Addr×Obj)}{σ:L2.St}{H:Hp}{s:Shared}{a:Addr}{oe:Obj}
noncomputable abbrev fz(oe:Obj)(a:fO):HO:=.frz oe<|.own a
def Inv.track(I:Inv X pins σ H s)(ha:H a=O)(e:s.heap.get? a=Z oe)(n0:X.s₀.heap.get? a=O)(np:∀p∈X.pn++pins,p.1≠a)(nl:X.env.locals≠a)(nc:∀x c,X.env.cells.lookup x=Z c->c≠a):Inv X pins σ (upd H a<|fz oe a) s:=by
 have nb:∀b o,X.s₀.heap.get? b=Z o->b≠a:=λb o q z=>by rw[z,n0]at q;cases q
 have up:∀b o,H b=Z o->upd H a (fz oe a) b=Z o:=λb o q=>by rw[C6 (λz=>by rw[z,ha]at q;cases q)];exact q
 refine⟨I.ok,I.os,I.bare,⟨I.base.keep,I.base.slot,λb o q n hx=>?_,I.base.there,λb xs q=>up b _<|I.base.tups b xs q,λb o u q=>up b _<|I.base.frzs b o u q,λb ps q=>?_⟩,I.loc,I.cell,?_,λx c q=>?_,λp hp=>?_,λb o q=>?_,I.len⟩
 .rw[C6 (nb b o q)];exact I.base.free b o q n hx
 .obtain⟨more,z⟩:=I.base.tbls b ps q;exact⟨more,up b _ z⟩
 .rw[C6 nl];exact I.free
 .rw[C6 (nc x c q)];exact I.freeC x c q
 .obtain⟨q1,q2,q3⟩:=I.pin p hp;exact⟨q1,by rw[C6 (np p hp)];exact q2,q3⟩
 .by_cases hb:b=a
  .subst hb;rw[C5]at q;cases q;exact⟨e,oe,e⟩
  .rw[C6 hb]at q;exact(I.hok b o q).stay (λ_ _ _ z=>z) (λc z=>up c _ z) λc xs z=>up c _ z
def bk4(sm:E2 H1 H')(sb:E2 Hf1 H1)(ha:H' a=O):Grow H1 Hf1 (upd H' a<|fz oe a) (upd Hf1 a<|fz oe a):=by
 have h1:H1 a=O:=sm.free ha;have h2:Hf1 a=O:=sb.free h1;refine⟨λb o q=>?_,λb o q=>?_,λb o q=>?_,λb q=>?_⟩
 .rw[C6 (C9 q h1)];exact sm b o q
 .by_cases hb:b=a
  .subst hb;rw[C5]at q ⊢;exact q
  .rw[C6 hb]at q ⊢;exact sm b o<|sb b o q
 .rw[C6 (C9 q h2)];exact q
 .by_cases hb:b=a
  .subst hb;exact .inr h1
  .rw[C6 hb]at q;exact .inl q
end
noncomputable def bH7(K:ad)(x c:Str):Bool:=match clA K x,clA K c with
 | some C,Z D=>(match K.lookup C with
  | some ⟨_,_,.cls cd,_⟩=>cd.mro.contains<|.ref D
  | _=>false)
 | _,_=>false
noncomputable def aY6(r:RD)(f:DS)(i:Nat)(g:DS):DS:=λρ=>match r ρ with
 | some (x,ρ1)=>(match g (ρ1.set i (Z (.exc x))) with
  | some (.rt d)=>Z<|.rt d
  | _=>O)
 | none=>f ρ
def Slots.setExc{K:ad}{H0 H Hf:Hp}{ρ:Rho}{σ:L2.St}(s:Slots K H0 ρ σ H Hf){i:Nat}{x:Str}{v:V}(hb:SB K H0 H Hf (.exc x) v):Slots K H0 (ρ.set i<|Z (.exc x)) (σ.set i<|Z v) H Hf:=by
 have own:∀(j:Nat) (ds:List D),(ρ.set i<|Z (B.exc x))[j]? = Z (Z<|.own ds)->i≠j/\ρ[j]? = Z (Z<|.own ds):=λj ds h=>by
  rw[cx]at h;split at h
  .split at h<;>cases h
  .rename_i n;exact⟨n,h⟩
 have gt:∀j,i≠j->(σ.set i<|Z v)[j]? = σ[j]?:=λj n=>by rw[cx,if_neg n]
 refine⟨by rw[dX,dX];exact s.len,λj b h=>?_,λj k ds es c h1 h2 h3 h4=>?_⟩
 .by_cases q:i=j
  .subst q;rw[cx,if_pos rfl]at h;split at h
   .rename_i l;cases h;exact⟨v,by rw[cx,if_pos rfl,if_pos (by rw[← s.len];exact l)],hb⟩
   .cases h
  .rw[cx,if_neg q]at h;rw[gt j q];exact s.is j b h
 .obtain⟨n1,h1⟩:=own j _ h1;obtain⟨n2,h2⟩:=own k _ h2;rw[gt j n1]at h3;rw[gt k n2]at h4;exact s.apart j k ds es c h1 h2 h3 h4
section
variable {X:Cx}
def ch4(hx:∀e s,X.xe e s->False)(hex:X.ex=[])(hst:X.stack=X.env::X.outer)(hfr:X.env.frame=Z X.env.locals)
  (hb:JSs X body f) (hr:JRs X false body r) (hgc:Gl X c) (hmc:∀D,clA X.K c=Z D->X.mg c=Z (.ref D)) (hdc:(c==("__debug__" : Str))=false) (hcb:aa6 X.K c=true)
  (hsub:∀ρ x ρ1,r ρ=Z (x,ρ1)->aa6 X.K x=true/\bH7 X.K x c=true)
  (hN:X.N.Nodup) (hi:X.N[i]? = Z n) (hl:X.env.scope.names.lookup n=Z .local) (hh:∀a:fO,JSs (Cx.held X<|.ref a) (b₀::suite) gd) :
  JS X (.Try body [.ExceptHandler (Z<|.Name c np) (Z n) (b₀::suite) hpos] [] [] pos) (aY6 r f i gd):=by
 intro ρ fl q H0 Hf0 pins s σ H En I hw;obtain⟨Hf,at_,ends⟩:=hw;unfold aY6 at q;split at q
 case h_2 =>
  refine wpAny_Try_except (noX hx (hb ρ fl q H0 Hf0 pins s σ H En I ⟨Hf,at_,ends⟩) λf' s1 z=>?_);cases f' with
  | next=>exact wpAny_execs_nil z
  | ret v=>exact z
  | brk=>exact z
  | cont=>exact z
 rename_i x ρ1 er
 obtain⟨d,hd,rfl⟩:∃d,gd (ρ1.set i<|Z (.exc x))=Z (.rt d)/\fl=.rt d:=by
  split at q
  .rename_i d e;cases q;exact⟨d,e,rfl⟩
  .cases q
 obtain⟨hxb,hsb⟩:=hsub ρ x ρ1 er
 obtain⟨C,hC⟩:∃C,clA X.K x=Z C:=by
  unfold aa6 at hxb;cases e:clA X.K x with
  | none=>rw[e]at hxb;cases hxb
  | some C=>exact⟨C,rfl⟩
 obtain⟨D,hD⟩:∃D,clA X.K c=Z D:=by
  unfold aa6 at hcb;cases e:clA X.K c with
  | none=>rw[e]at hcb;cases hcb
  | some C=>exact⟨C,rfl⟩
 have qC:bV X.K C veB "ValueError.__new__" = true:=by unfold aa6 at hxb;rw[hC]at hxb;exact hxb
 have qD:bV X.K D veB "ValueError.__new__" = true:=by unfold aa6 at hcb;rw[hD]at hcb;exact hcb
 obtain⟨nm,qn,N,bs,bm,hd',sn,sub,ab,col,dd,k0,k1,k2,k3,k5,mN,c1,c2,c3,c4⟩:=aI2 I.mod.kin qC;obtain⟨nm',qn',N',bs',bm',hd'',sn',sub',ab',col',dd',j0,j1,j2,j3,j5,mN',d1,d2,d3,d4⟩:=aI2 I.mod.kin qD
 have hin:(fI C::bm).contains (.ref D)=true:=by
  unfold bH7 at hsb;rw[hC,hD]at hsb;dsimp only at hsb;split at hsb
  .rename_i lk;have z:=I.mod.kin _ _ lk;rw[c1]at z;cases z;exact hsb
  .cases hsb
 refine wpAny_Try_except (eO (hr ρ x ρ1 C er hC H0 Hf0 pins s σ H Hf I at_) (λ_ _ z=>z.elim) λex s1 ho=>?_);rcases ho with ho|⟨z,_⟩
 case inr=>cases z
 obtain⟨σ1,H1,Hf1,s0,I1,a1,o⟩:=ho;rcases o with⟨z,_⟩|hc
 .cases z
 obtain⟨a,C',g,B,H',rfl,os,bare,un,hok,F,cE,sm⟩:=hc;cases cE;obtain⟨t,fl0⟩:=F.fly;have nx:∀b:fO,b∉([]:List fO):=λb z=>absurd z (by simp)
 have J:Inv X pins σ1 H' { s1 with heap:=g }:=I1.call' (s':={ s1 with heap:=g }) (ch:=[]) os un hok bare λb z=>absurd z<|nx b
 have key:∀h'':Heap,B.StaysIn h''->s1.heap.UpToSlots h''->Inv X pins σ1 H' { s1 with heap:=h'' }:=λh'' k1 k2=>by
  refine cl0 (s':={ s1 with heap:=h'' }) I1 os bare un hok F.keep k1 λb o e m=>?_
  obtain⟨z,e2⟩:=F.sl b o e m;obtain⟨_,o',e',hd⟩:=J.stack.mem m;have e':g.get? b=Z o':=e';rw[e]at e';cases e';obtain⟨z2,q⟩:=k2 b _ e2 hd;exact⟨z2,q⟩
 rw[hst]at fl0;refine wpAny_looks_onW (outer:=X.outer) (by rw[← hst];exact I.ok.frames) hfr fl0 λh4 held4 up4=>?_
 refine wpAny_landsW held4 λh5 fl5 up5=>?_
 have I5:=key h5 fl5.1 (up4.trans up5);obtain⟨ob,hob,hobc⟩:=fl5.there;refine wpAny_handleBy_cons (codeAny_handlers_test<|r8 (Inv.held I5<|.ref a) hgc (hmc D hD) ?_ hdc) (by intro q;cases q);refine dd5 (I5.bk _ _ c1) (I5.bk _ _ d1) hob hobc (d4.hasType<|by decide) ?_;rw[hin];refine codeAny_handlers_suite_as (lands_againW fl5 λh6 fl6 up6=>?_);have I6:=key h6 fl6.1 ((up4.trans up5).trans up6);obtain⟨oe,ws,e6,ec6,ed6,_⟩:=fl6.first;have nB:B.get? a=O:=fl6.2.1
 have nf:a∉frs X.stack:=λm=>by
  obtain⟨_,o',e',hd⟩:=I6.stack.mem m;have e':h6.get? a=Z o':=e';rw[e6]at e';cases e';exact hd ws ed6
 have ng:∀o,Rl s0 H' a->g.get? a=Z o->False:=λo rr e=>by
  have:=F.keep a o rr e nf;rw[nB]at this;cases this
 have ha:H' a=O:=by
  cases e:H' a with
  | none=>rfl
  | some o =>
   obtain⟨u,e'⟩:=N8.is (hok a o e);exact(ng u (.inr (by rw[e];simp)) e').elim
 have n0:s0.heap.get? a=O:=by
  cases e:s0.heap.get? a with
  | none=>rfl
  | some o =>
   obtain⟨u,e'⟩:=un.there a o e (nx a);exact(ng u (.inl (by rw[e];simp)) e').elim
 have n00:X.s₀.heap.get? a=O:=by
  cases e:X.s₀.heap.get? a with
  | none=>rfl
  | some o =>
   obtain⟨u,e'⟩:=I1.base.there a o e (by rw[hex];exact nx a);rw[n0]at e';cases e'
 have I7:Inv X pins σ1 (upd H' a<|fz oe a) { s1 with heap:=h6 }:=by
  refine Inv.track I6 ha e6 n00 (λp hp z=>?_) (λz=>?_) λy cc e z=>?_
  .have:=(I1.pin p hp).1;rw[z,n0]at this;cases this
  .obtain⟨m,⟨o',_,_,e',_⟩,_⟩:=I1.loc;rw[z,n0]at e';cases e'
  .obtain⟨v,o',e',_⟩:=I1.cell y cc e;rw[z,n0]at e';cases e'
 have gr:Grow H1 Hf1 (upd H' a<|fz oe a) (upd Hf1 a<|fz oe a):=bk4 sm a1.gr.sub ha;have a7:=a1.grow gr;refine ae5 (X:=Cx.held X<|.ref a) (v:=.ref a) (Inv.held I7<|.ref a) hN hi (.inl hl) rfl (λs8 I8=>?_) (.inr hl);refine eO (hh a _ _ hd H0 Hf0 pins s8 _ _ { nx:=λ_ _=>False,rt:=λv H'=>∃Hf',Grow H0 Hf0 H' Hf'/\Rep X.K Hf' d v } I8 ⟨_,⟨a7.gr,Slots.setExc a7.sl ⟨a,oe,C,rfl,C5,hC,ec6⟩⟩,λv H' Hf' g r=>⟨Hf',g,r⟩⟩) (λfl' s9 z=>?_) λe s z=>(hx e s z).elim
 cases fl' with
 | next=>obtain⟨_,_,_,z⟩:=z;exact z.elim
 | brk=>obtain⟨_,_,_,z⟩:=z;exact z.elim
 | cont=>obtain⟨_,_,_,z⟩:=z;exact z.elim
 | ret u =>
 obtain⟨v,σ9,H9,I9,rv,Hf9,g9,rp⟩:=z;have I9:=Inv.unheld I9 I.ok;obtain⟨m9,hn9,_⟩:=I9.loc;refine wpAny_nameGoes (m:=m9) (by show X.env.scope.names.lookup n=_;exact hl) hn9 (by rw[I.ok.kind];rfl) λh' m' hn' hs'=>?_
 exact⟨v,_,H9,Inv.wipe I9 hn' hs',rv,ends v H9 Hf9 g9 rp⟩
end
section
variable {prog:Program}{w:World}{A:Around}{E:Value->Shared->Prop}{h:Heap}{g:Array GenState}{d:Drawn}{t:Nat}{os:OsState}{a C:Addr}{o:Obj}{K:PySem.W.Frag}
noncomputable def xcB(K:ad)(C:fO):Bool:=PySem.W.findIn K (.ref C) "__class__" == Z (Z<|.builtin "object.__class__")&&PySem.W.findIn K (.ref C) "__getattribute__" == Z (Z<|.builtin "BaseException.__getattribute__") &&
 PySem.W.findIn K (.ref C) "__getattr__" == Z O&&PySem.W.mroIn K C (.type "object")==Z true&&PySem.W.mroIn K C (.type "BaseException")==Z true
def ct5(kin:K.In h)(hx:h.get? a=Z o)(hc:o.cls=.ref C)(hm:PySem.W.mroIn K C (.type "object")=Z true)(hq:R (.ok<|.ret (.ref C)) ⟨h,g,d,t,os⟩):
  codeAny (fu prog w) A (.call (.builtin "getset_descriptor.__get__") ⟨[.builtin "object.__class__", .ref a,.ref C],[]⟩) R ⟨h,g,d,t,os⟩:=by
 have hT5:(⟨h,g,d,t,os⟩:fN).TypeIs (.builtin "object.__class__") "getset_descriptor" := F.typeOf_object_class;have L:PySem.W.Looks (fu prog w) h (isSubtype (.ref C)<|.type (".".intercalate ("object.__class__".cutAt '.').dropLast)) true:=by rw[F.owner_object_class];exact PySem.W.looks_mroIn kin hm
 refine codeAny_call_builtin F.slot_gs_get.plain F.entry_gs_get<|F.slot_gs_get.check _ _ _ _ _ _ _ _ hT5 (F.args_gs_get _ _ _) ?_
 repeat (any_goals (first|assumption|(with_reducible refine wpAny_loadPart_at hx ?_;rw[hc])|with_reducible refine L.at ?_|wp_step))
 refine⟨Code.quiet_builtin _ (by decide +kernel),codeAny_builtin F.entry_object_class ?_⟩
 repeat (any_goals (first|assumption|(with_reducible refine wpAny_loadPart_at hx ?_;rw[hc])|wp_step))
def bG0(kin:K.In h)(hx:h.get? a=Z o)(hc:o.cls=.ref C)(hf:PySem.W.findIn K (.ref C) "__class__" = Z (Z<|.builtin "object.__class__"))(hm:PySem.W.mroIn K C (.type "object")=Z true)(hq:Q (.done<|.ret (.ref C)) ⟨h,g,d,t,os⟩):
  ft (fu prog w) A (Builtin.«object.__getattribute__» ⟨[.ref a,.str "__class__" tk],[]⟩) Q E ⟨h,g,d,t,os⟩:=by
 have hT5:(⟨h,g,d,t,os⟩:fN).TypeIs (.builtin "object.__class__") "getset_descriptor" := F.typeOf_object_class;have f5:=F.typeOf_object_class;have f6:=F.slot_gs_get.lookup;have f7:=F.slot_gs_set.lookup;have L:=PySem.W.looks_findIn (M:=fu prog w) kin hf
 repeat (any_goals (first|assumption|(with_reducible refine wpAny_loadPart_at hx ?_;rw[hc])|with_reducible refine L.at ?_|wp_step))
 refine ct5 kin hx hc hm ?_
 repeat (any_goals (first|assumption|wp_step))
def bG1(kin:K.In h)(hx:h.get? a=Z o)(hc:o.cls=.ref C)(hm:PySem.W.mroIn K C (.type "BaseException")=Z true)(hq:Q () ⟨h,g,d,t,os⟩):ft M A (checkBuiltinCall "BaseException.__getattribute__" ⟨[.ref a,nameV],[]⟩) Q E ⟨h,g,d,t,os⟩:=by
 have hk:builtinKind "BaseException.__getattribute__" = Z .slot:=by decide +kernel
 have hsplit:splitId "BaseException.__getattribute__" = Z ("BaseException", "__getattribute__"):=by decide +kernel
 have ha:=F.args_bexc_ga (.ref a) nameV;have L:=PySem.W.looks_mroIn (M:=M) kin hm;simp only[checkBuiltinCall,hk,hsplit];refine eK ?_;unfold isInstance
 repeat (first|(with_reducible refine wpAny_loadPart_at hx ?_;rw[hc])|with_reducible refine L.at ?_|wp_step)
 exact hq
def bY8(kin:K.In h)(hx:h.get? a=Z o)(hc:o.cls=.ref C)(hb:xcB K C=true)(hq:R (.ok<|.ret (.ref C)) ⟨h,g,d,t,os⟩):
  codeAny (fu prog w) A (.call (.builtin "BaseException.__getattribute__") ⟨[.ref a,.str "__class__" tk],[]⟩) R ⟨h,g,d,t,os⟩:=by
 simp only[xcB,af,beq_iff_eq]at hb;exact codeAny_call_builtin F.attr_ValueError.ga.plain F.entry_bexc_ga<|bG1 kin hx hc hb.2 (bG0 kin hx hc hb.1.1.1.1 hb.1.2 hq)
def cO0{tk:Tok}{fill expr:Bool}{Q:fM->fN->Prop}(kin:K.In h)(hx:h.get? a=Z o)(hc:o.cls=.ref C)(hb:xcB K C=true)(hq:Q (.ref C) ⟨h,g,d,t,os⟩):ft (fu prog w) A (getAttrBy (.ref a) (.str "__class__" tk) fill expr) Q E ⟨h,g,d,t,os⟩:=by
 have hb':=hb;simp only[xcB,af,beq_iff_eq]at hb';have L1:=PySem.W.looks_findIn (M:=fu prog w) kin hb'.1.1.1.2;have L2:=PySem.W.looks_findIn (M:=fu prog w) kin hb'.1.1.2;have f3:=F.attr_ValueError.ga.bind (.ref a);have z0:(expr&&onTheHeap (Value.builtin "BaseException.__getattribute__"))=false:=by cases expr<;>rfl
 have z2:(Value.builtin "BaseException.__getattribute__" == Value.builtin "object.__getattribute__")=false:=by decide +kernel
 have z1:(onTheHeap (fI C)&&Value.builtin "BaseException.__getattribute__" == Value.builtin "object.__getattribute__")=false:=by rw[z2];rfl
 repeat (any_goals (first|assumption|(with_reducible refine wpAny_loadPart_at hx ?_;rw[hc])|with_reducible refine L1.at ?_|with_reducible refine L2.at ?_|wp_step))
 refine bY8 kin hx hc hb ?_
 repeat (any_goals (first|assumption|wp_step))
def bY9{Q:Option fM->fN->Prop}(kin:K.In h)(hx:h.get? a=Z o)(hc:o.cls=.ref C)(hb:xcB K C=true)(hq:Q (Z<|.ref C) ⟨h,g,d,t+1,os⟩):ft (fu prog w) A (getAttr? (.ref a) "__class__") Q E ⟨h,g,d,t,os⟩:=by
 unfold getAttr? getAttrBy?
 repeat (any_goals (first|assumption|with_reducible apply cO0 kin hx hc hb|wp_step))
def bN8(hb:xcB K C=true)(hq:bV K C bb nid=true):PySem.W.KitX K (.ref a) (.ref C) (λh=>∃o,h.get? a=Z o/\o.cls=.ref C) where
 ty:=λ_ _ _ ⟨o,h1,h2⟩=>h2 ▸ (PySem.W.Looks.ld h1).andThen .now
 it:=λ_ _ kin _=>by
  obtain⟨nm,qn,N,bs,bm,hd,sn,sub,ab,col,dd,k0,k1,k2,k3,k5,mN,g1,_⟩:=aI2 kin hq;intro A' Q' E' s' k q;unfold isType loadHead;exact eK<|wpAny_loadPart (k _ _ g1) (eM q)
 ne:=λh tp dd its n sl kin htp=>by
  obtain⟨nm,qn,N,bs,bm,hd,sn,sub,ab,col,dd',k0,k1,k2,k3,k5,mN,g1,_⟩:=aI2 kin hq;refine Bool.eq_false_iff.mpr λq=>?_
  have e:C=tp:=Value.ref.inj (beq_iff_eq.mp q);subst e;rw[g1]at htp;have z:=congrArg Obj.data (bf.inj htp);cases z
 ca:=λ{_ _ _ _ _ s} kin ⟨o,h1,h2⟩ k=>by
  obtain⟨h,g,d,t,os⟩:=s;exact bY9 kin h1 h2 hb k
end
section
variable {X:Cx}
noncomputable def bm5(i:Nat)(tb:Str->Option Bool):DE:=λρ=>match ρ[i]? with
 | some (Z (.exc x))=>(tb x).map fF
 | _=>O
def au1(K:ad)(cv:fM)(tb:Str->Option Bool):Prop:=∀x b,tb x=Z b->∃C,clA K x=Z C/\xcB K C=true/\bV K C veB "ValueError.__new__" = true/\PySem.W.kitOne K (.ref C) cv=Z b
def bX7(hv:D9 v cv)(hv':∀u,D9 v u->u=cv)(ok:au1 X.K cv tb):U9 X (.builtin "isinstance") (λxs H Q=>∃x y b H0 Hf,xs=[y,v]/\E2 Hf H/\SB X.K H0 H Hf (.exc x) y/\tb x=Z b/\Q (.bl b) H):=by
 intro pins s σ H xs us Q I r h;obtain⟨x,y,b,H0,Hf,rfl,sm,⟨a,o,C,rfl,e1,e2,e3⟩,hb,q⟩:=h;obtain⟨u,c,rfl,rx,rc⟩:=co2 r;cases rx;obtain rfl:=hv' c rc;obtain⟨C',f1,f2,f3,f4⟩:=ok x b hb;rw[e2]at f1;cases f1;obtain⟨z,_⟩:=(show N8 X.prog X.w H s.heap a (.frz o<|.own a) from I.hok a _ (sm _ _ e1));exact PySem.W.kia_one (bN8 f2 f3) I.kIn ⟨o,z,e3⟩ f4 (λz=>nomatch z) λtk=>⟨.bl b,H,I.tok tk,rfl,q⟩
end
section
variable {X:Cx}
def ce1{y:Str}{D:fO}{pos:Pos}(hg:Gl X y)(hm:X.mg y=Z (.ref D))(hd:(y==("__debug__" : Str))=false):PE X (.Name y pos) (tC<|.ref D):=λpins s σ H Q I h=>r8 I hg hm ⟨.ref D,H,I,rfl,h⟩ hd
def bQ1(hg:Gl X "isinstance")(hm:X.mg "isinstance" = O)(hN:X.N[i]? = Z n)(hv:Vis X.env.scope n)(hd:(n==("__debug__" : Str))=false)(hcd:(n==("__classdict__" : Str))=false)
  (hc:PE X (.Name y p2) (tC v)) (r1:D9 v cv) (r2:∀u,D9 v u->u=cv) (ok:au1 X.K cv tb)
  (he:eT [.Name n p1,.Name y p2] X.env=(false,eval (.Name n p1) X.env)::eT [.Name y p2] X.env:=by rfl) (he2:eT [.Name y p2] X.env=[(false,eval (.Name y p2) X.env)]:=by rfl) (hpl:(backTo pos<|eT [.Name y p2] X.env).any (·.1)=false:=by rfl) :
  JE X (.Call (.Name "isinstance" p) [.Name n p1,.Name y p2] [] pos) (bm5 i tb):=λρ d q=>by
 unfold bm5 at q;split at q
 case h_2=>cases q
 rename_i x e;obtain⟨b,hb,rfl⟩:=xmo q;refine C3 (Q9 (bX7 r1 r2 ok) hg hm bY1 (E3 (ac0 hN hv hd hcd) (E3 hc J8 he2) he) (he:=he) (hpl:=hpl)) λσ H Q ⟨H0,Hf,s,sl,k⟩=>?_
 obtain⟨v0,h1,sb⟩:=sl.is i _ e;exact⟨v0,h1,x,v0,b,H0,Hf,rfl,s,sb,hb,k _ H Hf (Grow.refl s) rfl⟩
noncomputable def dRp(f:DE):DE:=λρ=>(f ρ).bind λd=>match d with
 | .str x=>if x.length<=1000/\x.cps.all (· < 1114112)=true then Z (.str<|reprText x) else O
 | _=>O
def cV4(h:JE X e f):JE X (.FormattedValue e 114 O pos) (dRp f):=λρ d q=>by
 obtain⟨y,h1,h2⟩:=xbm q;cases y with
 | str x =>
  dsimp only at h2;split at h2
  case isFalse=>cases h2
  rename_i c;cases h2
  have ln:(reprText x).length<=eU:=by
   refine aO (PySem.StrLaws.reprText_len x λz hz=>?_) ?_
   .have:=c.2;rw[← dG,aK]at this;have:=of_decide_eq_true (this z hz);omega
   .have:=c.1;exact aO (show 10*x.length+2<=10002 by omega) (by decide)
  intro pins s σ H Q I hw;obtain⟨H0,Hf,sm,sl,k⟩:=hw;refine wpAny_FormattedValue_repr (thn (h ρ _ h1 pins s σ H (λv H'=>v=.str x/\∃Hf',Grow H Hf H' Hf') I ⟨H0,Hf,sm,sl,λv H' Hf' g r=>⟨r,Hf',g⟩⟩) λv s1 ⟨v',H1,I1,r1,e1,Hf1,g1⟩=>?_);subst e1;obtain⟨t,rfl⟩:=(show ∃t,v=Value.str x t from r1);refine wpAny_pyReprObj_str ?_ ln;exact wpAny_formatField_str ⟨.str<|reprText x,H1,I1.tok _,⟨_,rfl⟩,k _ H1 Hf1 g1 rfl⟩ ⟨.str<|reprText x,H1,(I1.tok _).tok _,⟨_,rfl⟩,k _ H1 Hf1 g1 rfl⟩ ln
 | none=>cases h2
 | bool b=>cases h2
 | int i=>cases h2
 | tuple xs=>cases h2
 | list xs=>cases h2
 | dict xs=>cases h2
noncomputable def ao7:Str->List DE->DE
 | acc,[]=>λ_=>Z<|.str acc
 | acc,f::fs=>λρ=>(f ρ).bind λd=>match d with
  | .str y=>if(acc++y).length<=16777216 then ao7 (acc++y) fs ρ else O
  | _=>O
inductive JEs (X:Cx):List Expr->List DE->Prop
 | nil:JEs X [] []
 | cons {e:Expr}{es:List Expr}{f:DE}{fs:List DE}:JE X e f->JEs X es fs->JEs X (e::es) (f::fs)
theorem an8:∀(ps:List (Sem fM)) (a:Str) (Q Q':Str->fN->Prop) (s:fN),(∀o s,Q o s->Q' o s)->Joins (fu X.prog X.w) X.A X.xe ps a Q s->Joins (fu X.prog X.w) X.A X.xe ps a Q' s
 | [],_,_,_,_,hq,z=>hq _ _ z
 | _::ps,_,Q,Q',_,hq,z=>thn z λ_ s1 ⟨y,t,e,c,z⟩=>⟨y,t,e,c,an8 ps _ Q Q' s1 hq z⟩
theorem bt5:∀(fs:List DE) (acc:Str) (ρ:Rho) (d:D),ao7 acc fs ρ=Z d->acc.length<=16777216->∃x:Str,d=.str x/\x.length<=16777216
 | [],acc,ρ,d,q,l=>by cases q;exact⟨acc,rfl,l⟩
 | f::fs,acc,ρ,d,q,l=>by
  obtain⟨y,h1,h2⟩:=xbm q;cases y<;>dsimp only at h2
  case str x =>
   split at h2
   .rename_i c;exact bt5 fs (acc++x) ρ d h2 c
   .cases h2
  all_goals cases h2
def cV2(h:JEs X es fs):∀(acc:Str) (ρ:Rho) (d:D),ao7 acc fs ρ=Z d->∀(pins:List (fO×Obj)) (s:fN) (σ:L2.St) (H0 H Hf:Hp),Inv X pins σ H s->E2 Hf H->Slots X.K H0 ρ σ H Hf ->
  Joins (fu X.prog X.w) X.A X.xe (evalEach es X.env) acc (λout s1=>d=.str out/\∃H1 Hf1,Inv X pins σ H1 s1/\Grow H Hf H1 Hf1) s:=by
 induction h with
 | nil =>
  intro acc ρ d q pins s σ H0 H Hf I sm sl;cases q;exact⟨rfl,H,Hf,I,Grow.refl sm⟩
 | @cons e es f fs he hs ih =>
  intro acc ρ d q pins s σ H0 H Hf I sm sl;obtain⟨y,h1,h2⟩:=xbm q;cases y with
  | str x =>
   dsimp only at h2;split at h2
   case isFalse=>cases h2
   rename_i c;refine thn (he ρ _ h1 pins s σ H (λv H'=>v=.str x/\∃Hf',Grow H Hf H' Hf') I ⟨H0,Hf,sm,sl,λv H' Hf' g r=>⟨r,Hf',g⟩⟩) λv s1 ⟨v',H1,I1,r1,e1,Hf1,g1⟩=>?_
   subst e1;obtain⟨t,rfl⟩:=(show ∃t,v=Value.str x t from r1);refine⟨x,t,rfl,c,?_⟩;have z:=ih (acc++x) ρ d h2 pins s1 σ H0 H1 Hf1 I1 g1.sub (sl.grow g1);exact an8 _ _ _ _ _ (λo s ⟨z1,H2,Hf2,I2,g2⟩=>⟨z1,H2,Hf2,I2,g1.trans g2⟩) z
  | none=>cases h2
  | bool b=>cases h2
  | int i=>cases h2
  | tuple xs=>cases h2
  | list xs=>cases h2
  | dict xs=>cases h2
def cV7(h:JEs X (e1::e2::es) fs):JE X (.JoinedStr (e1::e2::es) pos) (ao7 fL fs):=λρ d q=>by
 intro pins s σ H Q I hw;obtain⟨H0,Hf,sm,sl,k⟩:=hw;obtain⟨x,rfl,lx⟩:=bt5 fs _ ρ d q (by decide);refine wpAny_JoinedStr (an8 _ _ _ _ _ (λo s1 z=>?_)<|cV2 h fL ρ _ q pins s σ H0 H Hf I sm sl);obtain⟨e,H1,Hf1,I1,g1⟩:=z;cases e;exact⟨lx,.str x,H1,I1.tok _,⟨_,rfl⟩,k _ H1 Hf1 g1 rfl⟩
end
def cM9(X:Cx):Prop:=∀pins ρ1 C H0 Hf0 e s',Ou X true pins ρ1 C H0 Hf0 e s'->Lo X C H0 e s'
section
variable {X:Cx}
def cE1{P:fb}{w:World}{K:ad}{mg:Str->Option fM}{base:Heap}{N:List Str}{qual:Str}{scope:Scope}{f:fO}{cd:fM}{A:fc}{outer:List Env}{s:fN}{H:Hp}{E:XK}:cM9 (cx1 P w K mg base N qual scope f cd A outer s H E).nox:=by
 intro pins ρ1 C H0 Hf0 e s' h;obtain⟨σ1,H2,Hf2,s2,I2,a2,o⟩:=h;have I3:Inv (cx1 P w K mg base N qual scope f cd A outer s H<|EC C H0) pins σ1 H2 s2:=(I2.unwish).wish (cx1 P w K mg base N qual scope f cd A outer s H<|EC C H0).xe;rcases o with⟨_,h',a,vs',rfl,rfl,hm⟩|hc
 .exact bb0 I3 hm ⟨rfl,a2.gr.big⟩
 .exact bq4 I3 (CX1.mono hc λcls H' q=>⟨q.1,a2.gr.big.trans q.2⟩)
end
noncomputable def cw5(K:ad)(x c:Str):Bool:=match clA K x,clA K c with
 | some C,Z D=>(match K.lookup C with
  | some ⟨_,_,.cls cd,_⟩=>!cd.mro.contains (.ref D)
  | _=>false)
 | _,_=>false
structure RoomQ (k:Nat) (A:fc):Prop where
 dp:A.depth+3*k+5 < recursionLimit
 un:A.units+16*k+200 < cLine
noncomputable abbrev cxQ(P:fb)(w:World)(K:ad)(mg:Str->Option fM)(base:Heap)(N:List Str)(qual:Str)(scope:Scope)(f:fO)(cd:fM)(A:fc)(outer:List Env)(s:fN)(H:Hp):Cx:={ (aW0 CX0 P w K mg base N qual scope f cd A outer s H E0).nox with calm:=false }
structure FnQ (P:fb) (w:World) (K:ad) (mg:Str->Option fM) (base:Heap) (k:Nat) (f:fO) (fd:fe) (ps:List Str) (sp:Sp):Prop where
 len:∀vs H Q E,sp vs H Q E->vs.length=ps.length
 run:∀(A:fc) (outer:List Env) (s:fN) (H:Hp) (args:Args) (us:List fM) (vs:List V) (Q:VK),RoomQ k A->Env0 P w K mg base A outer s H->BindsTo s fd args (ps.zip us)->E1 vs us->sp vs H Q E0->codeAny (fu P w) A (.call (.ref f) args) (CR CX0 outer P w H s Q E0) s
def FnQ.mono{P:fb}{w:World}{K:ad}{mg:Str->Option fM}{base:Heap}{j k:Nat}{f:fO}{fd:fe}{ps:List Str}{sp:Sp}(F:FnQ P w K mg base j f fd ps sp)(h:j<=k):FnQ P w K mg base k f fd ps sp :=
 ⟨F.len,λA outer s H args us vs Q hr=>F.run A outer s H args us vs Q ⟨by have:=hr.dp;omega,by have:=hr.un;omega⟩⟩
def bk2{P:fb}{w:World}{K:ad}{mg:Str->Option fM}{base:Heap}{N ps:List Str}{qual:Str}{scope:Scope}{f:fO}{cd:fM}{A:fc}{outer:List Env}{s s1:fN}{H:Hp}{us:List fM}{vs:List V}
  (S:FnScope N ps scope) (e0:Env0 P w K mg base A outer s H) (hl:vs.length=ps.length) (r:E1 vs us)
  (x:InCallC s s.heap.objs.size (bindL (envOfC qual scope s.heap.objs.size f cd).kindOf (ps.zip us) λ_=>O) (cellsFrom (s.heap.objs.size+1) scope.names []) (bindC (envOfC qual scope s.heap.objs.size f cd).kindOf (ps.zip us) λ_=>O) s1) :
  Inv (cxQ P w K mg base N qual scope f cd A outer s H) [] (Q5 N vs) H s1:=by
 have hpl:ps.length<=N.length:=by have:=congrArg cT S.pre;rw[aA]at this;omega
 obtain⟨h1,tk,rfl,hk⟩:=x.done;have noA:∀b:fO,b∉(cxQ P w K mg base N qual scope f cd A outer s H).ex:=λb z=>absurd (show b∈([]:List fO) from z) (by simp)
 refine⟨⟨e0.mod,S.kind,rfl,rfl,aj _,λy z c h1 h2=>?_,λy hy=>?_,λy c _ h=>?_,(λz=>nomatch z),Around.frames_deeper e0.frames,.inr ⟨rfl,rfl⟩,λb z=>absurd z (noA b),e0.bs,e0.bsz,λb _ _=>noA b,λb z=>absurd z (noA b),e0.funs,e0.frf⟩,
  rfl,e0.bare,Un.kept hk,⟨_,x.toInCall.ns,λi y v h1 h2 h3=>?_⟩,λy c h=>⟨_,x.cell y c h⟩,e0.hok.fresh (aj _),λy c h=>?_,λp hp=>absurd (show p∈([]:List (fO×Obj)) from hp) (by simp),e0.hok.kept hk,?_⟩
 .exact name_of_addr x.apart (PySem.mem_of_lookup h1) (PySem.mem_of_lookup h2)
 .have hy:scope.names.lookup y=Z .cell\/scope.names.lookup y=Z .free:=hy;rcases hy with hy|hy
  .exact at6 hy
  .exact absurd rfl (S.nofree _<|PySem.mem_of_lookup hy)
 .exact bT (x.above y c<|PySem.mem_of_lookup h)
 .have hi:i < vs.length:=by
   unfold L2.Q5 at h2;by_cases hi:i < vs.length
   .exact hi
   .rw[aM (by simpa using hi)]at h2;rw[bo]at h2;split at h2<;>cases h2
  have ha:vs[i]? = Z v:=by
   unfold L2.Q5 at h2;rw[aX (by simpa using hi),aF]at h2;cases e:vs[i]? with
   | none=>rw[e]at h2;cases h2
   | some a=>rw[e]at h2;cases h2;rfl
  obtain⟨u,hu,rv⟩:=r.get ha;have hp:ps[i]? = Z y:=by rw[← S.pre,dD (by omega)];exact h1
  have ndP:ps.Nodup:=by rw[← S.pre];exact S.nd.sublist<|List.take_sublist _ _
  refine⟨u,rv,?_⟩;rcases S.par y (cA hp) with k|k
  .exact .inl ⟨k,ax3 ndP hp hu k⟩
  .obtain⟨c,e⟩:=at6 (n:=s.heap.objs.size+1) k;refine .inr ⟨.inl k,c,e,?_⟩;have q:=x.cell y c e;rw[ax4 ndP hp hu (by show scope.names.lookup y≠_;rw[k];decide)]at q;exact q
 .exact e0.hok.fresh (bT<|x.above y c (PySem.mem_of_lookup h))
 .unfold L2.Q5;show _=N.length;rw[ae,ag,bN];omega
def cK1{P:fb}{w:World}{K:ad}{mg:Str->Option fM}{base:Heap}{k:Nat}{x qual:Str}{st:Stmt}{f:fO}{fd:fe}{N ps:List Str}{sp:Sp}(F:Fun K x qual st f fd)(S:FnScope N ps (C8 st))(len:∀vs H Q E,sp vs H Q E->vs.length=ps.length)
  (hbody:∀(cdv:fM) (A:fc) (outer:List Env) (s:fN) (H:Hp) (vs:List V) (Q:VK),RoomQ k (A.deeper<|envOfC qual (C8 st) s.heap.objs.size f cdv)->sp vs H Q E0->∃t,PSs (cxQ P w K mg base N qual (C8 st) f cdv A outer s H) (M0 st) t/\t { nx:=λ_ H'=>Q .non H',rt:=Q } (Q5 N vs) H):FnQ P w K mg base (k+1) f fd ps sp:=by
 obtain⟨oc,od,kV,doc,pm,an,cdv,ct,osl,rfl,lk,hcd⟩:=F.ex;refine⟨len,λA outer s H args us vs Q hr e0 hb r hsp=>?_⟩;have hl:=len _ _ _ _ hsp;have KX:K.In s.heap:=e0.mod.kin.keeps λb o e=>(e0.bs b o e).1
 have lim:s.heap.NoLimit:=e0.mod.nolimit.keeps λb o e=>(e0.bs b o e).1
 have hkind:∀y∈ps.zip us,(C8 st).names.lookup y.1=Z .local\/((C8 st).names.lookup y.1=Z .cell/\((cellsFrom (s.heap.objs.size+1) (C8 st).names []).lookup y.1).isSome=true):=λ⟨n,v⟩ hy=>by
  rcases S.par n (dk hy).1 with q|q
  .exact .inl q
  .exact .inr ⟨q,PySem.W.cellsFrom_some _ _ _<|.inl q⟩
 have dpt:A.depth < recursionLimit:=by have:=hr.dp;omega
 refine codeAny_call_function (by first|exact dpt|(have:=hr.dp;omega)) (KX _ _ lk) rfl S.co S.gen rfl (PySem.W.codeRec_of KX hcd) (hb _ _ _ _ ?_);refine wpAny_newFunctionEnv_cells S.kind hkind λenv he s1 x=>?_
 subst he;refine⟨lim.keeps x.toInCall.keep,codeAny_func ?_⟩;obtain⟨t,ht,hq⟩:=hbody cdv A outer s H vs Q ⟨by have:=hr.dp;show A.depth+1+3*k+5 < _;omega,by have:=hr.un;show A.units+3+16*k+200 < _;omega⟩ hsp;have I:L2.Inv (cxQ P w K mg base N qual (C8 st) f cdv A outer s H) [] (Q5 N vs) H s1:=bk2 S e0 hl r x;refine eO (ht [] s1 (Q5 N vs) H _ I hq) (λfl s' hs=>?_) λe s' hs=>False.elim hs
 have fin:∀{σ':L2.St}{H':Hp}{v:V}{u:fM},L2.Inv (cxQ P w K mg base N qual (C8 st) f cdv A outer s H) [] σ' H' s'->D9 v u->Q v H'->CE outer P w H s Q u s' :=
  λ{σ' H' v u} J rv q=>⟨v,H',J.os,J.bare,J.base,J.hok,rv,q⟩
 cases fl with
 | ret u =>
  obtain⟨v,σ',H',J,rv,q⟩:=hs;exact fin J rv q
 | next =>
  obtain⟨σ',H',J,q⟩:=hs;exact fin (v:=V.non) (u:=fJ) J rfl q
 | brk =>
  obtain⟨_,_,_,q⟩:=hs;exact False.elim q
 | cont =>
  obtain⟨_,_,_,q⟩:=hs;exact False.elim q
noncomputable def aF3(n:Nat)(x:Str):Rho:=Z (.exc x)::ax (n - 1) O
noncomputable def cx6(g:DS)(n:Nat):Str->Option D:=λx=>(g<|aF3 n x).bind λfl=>match fl with
 | .rt d=>Z d
 | _=>O
noncomputable def spX(K:ad)(F:Str->Option D):Sp:=λvs H Q _=>∃Hf x v d,vs=[v]/\E2 Hf H/\SB K H H Hf (.exc x) v/\F x=Z d/\∀u H' Hf',Grow H Hf H' Hf'->Rep K Hf' d u->Q u H'
def aR8{K:ad}{H0 H Hf:Hp}{N:List Str}{x:Str}{v:V}(hN:1<=N.length)(r:SB K H0 H Hf (.exc x) v):Slots K H0 (aF3 N.length x) (L2.Q5 N [v]) H Hf:=by
 have only:∀(i:Nat) (b:B),(aF3 N.length x)[i]? = Z (Z b)->i=0/\b=.exc x:=λi b h=>by
  unfold aF3 at h;cases i with
  | zero=>rw[cM]at h;cases h;exact⟨rfl,rfl⟩
  | succ i =>
   rw[dI,bo]at h;split at h<;>cases h
 refine⟨by simp[aF3,L2.Q5],λi b e=>?_,λi j d1 d2 a e1 _ _ _=>?_⟩
 .obtain⟨rfl,rfl⟩:=only i b e;exact⟨v,rfl,r⟩
 .obtain⟨_,z⟩:=only i _ e1;cases z
def bT2{P:fb}{w:World}{K:ad}{mg:Str->Option fM}{base:Heap}{x qual:Str}{st:Stmt}{f:fO}{fd:fe}{N ps:List Str}{k:Nat}{g:DS}(F:Fun K x qual st f fd)(S:FnScope N ps (C8 st))(hp:ps.length=1)
  (hb:∀(cdv:fM) (A:fc) (outer:List Env) (s:fN) (H:Hp),RoomQ k (A.deeper<|envOfC qual (C8 st) s.heap.objs.size f cdv)->JSs (cxQ P w K mg base N qual (C8 st) f cdv A outer s H) (M0 st) g) :
  FnQ P w K mg base (k+1) f fd ps (spX K<|cx6 g N.length):=by
 have hN:1<=N.length:=by have:=congrArg cT S.pre;rw[aA,hp]at this;omega
 refine cK1 F S (λvs H Q E h=>by obtain⟨_,_,_,_,rfl,_⟩:=h;rw[hp];rfl) λcdv A outer s H vs Q hr hsp=>?_
 obtain⟨Hf,y,v,d,rfl,ss,sb,e,kk⟩:=hsp;obtain⟨fl,e1,e2⟩:=xbm e;refine⟨_,hb cdv A outer s H hr _ fl e1 H Hf,Hf,⟨Grow.refl ss,aR8 hN sb⟩,?_⟩;cases fl with
 | rt d'=>cases e2;exact λv H' Hf' g r=>kk v H' Hf' g r
 | nx ρ=>cases e2
 | bk ρ=>cases e2
 | ct ρ=>cases e2
section
variable {X:Cx}
noncomputable def ao8(i:Nat)(F:Str->Option D):DE:=λρ=>match ρ[i]? with
 | some (Z (.exc x))=>F x
 | _=>O
def bQ8(Fk:FnQ X.prog X.w X.K X.mg X.base k f fd ps (spX X.K F))(hr:RoomQ k X.A)(hg:Gl X x)(hm:X.mg x=Z (.ref f))(hk:aW X.K (.ref f)=true)(hb:Q3 X.K fd ps [])
  (hN:X.N[i]? = Z n) (hv:Vis X.env.scope n) (hd:(n==("__debug__" : Str))=false) (hcd:(n==("__classdict__" : Str))=false) (hdb:(x==("__debug__" : Str))=false) :
  JE X (.Call (.Name x p) [.Name n p1] [] pos) (ao8 i F):=λρ d q=>by
 unfold ao8 at q;split at q
 case h_2=>cases q
 rename_i y e;intro pins s σ H Q I ⟨H0,Hf,ss,sl,kk⟩;obtain⟨v0,h1,sb⟩:=sl.is i _ e;refine wpAny_Call_Name_kw (r8 I hg hm ?_ hdb);refine PySem.W.callWith_K (h₀:=X.base) I.ok.mod.kin hk (thn (E3 (ac0 hN hv hd hcd) J8 rfl pos pins s σ H (λvs H'=>vs=[v0]/\H'=H) I ⟨v0,h1,rfl,rfl⟩) λus s1 ⟨vs,H1,I1,r,e1,e2⟩=>⟨I1.kIn,?_⟩) rfl rfl;subst e1 e2;have sp:spX X.K F [v0] H1 Q E0:=⟨Hf,y,v0,d,rfl,ss,sb,q,λu H' Hf' g r=>kk u H' Hf' g r⟩;have hl2:us.length=ps.length:=by rw[← r.length];exact Fk.len _ _ _ _ sp
 have bd:BindsTo s1 fd ⟨us,[]⟩ (ps.zip us):=by
  have:=hb s1 us I1.kIn (by rw[ba];exact hl2)
  rwa [ba]at this
 refine wpAny_call (codeAny_mono (Fk.run X.A X.stack s1 H1 ⟨us,[]⟩ us [v0] Q hr I1.env0 bd r sp) λrs s' hq=>?_);cases rs with
 | error e=>exact False.elim hq
 | ok fl =>
  cases fl with
  | ret u=>exact I1.after hq
  | next=>exact False.elim hq
  | brk=>exact False.elim hq
  | cont=>exact False.elim hq
end
end G
namespace G
def xg0{α:Type}{a:α}{l:List α}:(a::l)[0]? = Z a:=rfl
def xg1{α:Type}{a:α}{i:Nat}{l:List α}:(a::l)[i+1]? = l[i]?:=rfl
def xw0{α:Type}{a b:α}{l:List α}:(a::l).set 0 b=b::l:=rfl
def xw1{α:Type}{a b:α}{i:Nat}{l:List α}:(a::l).set (i+1) b=a::l.set i b:=rfl
def xbs{α β:Type}{a:α}{f:α->Option β}:(Z a).bind f=f a:=rfl
def xms{α β:Type}{a:α}{f:α->β}:(Z a).map f=Z (f a):=rfl
def xca{α:Type}{a:α}{l m:List α}:(a::l)++m=a::(l++m):=rfl
def xna{α:Type}{l:List α}:[]++l=l:=rfl
def xmc{α β:Type}{f:α->β}{a:α}{l:List α}:(a::l).map f=f a::l.map f:=rfl
def xmn{α β:Type}{f:α->β}:[].map f=[]:=rfl
def xnf:(!false)=true:=rfl
def xnt:(!true)=false:=rfl
def xft:(false=true)=False:=by simp
end G
local macro_rules
  | `(‹$x›) => `(some (G.B.val $x))
local macro_rules
  | `(⇑$x) => `(G.dC (PySem.PyData.int $x))
noncomputable section
namespace Sh
open PySem PySem.Spec PyProof.Rows L2 G
def ax9:DS:=(A7 (ab5 (tB2 neD (A1 1) ⇑0)<|A7 (B3 2<|A5 n5 (A1 0) (A1 1)) (A7 (B3 0<|A1 1)<|B3 1 (A1 2)))<|B1 (A1 0))
def O1:List D->Option D:=C4 ax9 3
def Z3:DS:=(A7 (B3 2<|A3 O1 (A0 (A1 0)<|A0 (A1 1) A2))<|B1 (B4<|A0 (A5 ao0 (A1 0)<|A1 2) (A0 (A5 ao0 (A1 1)<|A1 2) A2)))
def av1:List D->Option D:=C4 Z3 3
def Z4:DS:=(B1<|A5 leI (A5 ac2 (dIx (A8 0) ⇑0)<|dIx (A8 1) ⇑1) (A5 ac2 (dIx (A8 1) ⇑0)<|dIx (A8 0) ⇑1))
def ad6:List D->Option D:=C4 Z4 2
def aE5:DS:=(B1<|A3 av1 (A0 (A5 ac2 (dIx (A8 0) ⇑0)<|dIx (A8 1) ⇑0)<|A0 (A5 ac2 (dIx (A8 0) ⇑1)<|dIx (A8 1) ⇑1) A2))
def cn9:List D->Option D:=C4 aE5 2
def aK2:DS:=(A7 (sIf (tB2 eqD (A1 0)<|L6 A2) (B1<|A5 ac2 ⇑7 (A1 1)) C2)<|B1 (A5 ac6 (dIx (A8 0)<|A5 n5 (A1 1) (S2<|A8 0))<|A5 ac2 ⇑6553 (A5 ao0 (A1 1)<|S2 (A8 0))))
def aK8:List D->Option D:=C4 aK2 2
def aQ9:DS:=(A7 (B3 3<|A5 n5 (A5 ac6 (A5 ac2 (A5 n5 (A3 aK8<|A0 (A1 0) (A0 (A1 1) A2)) ⇑2147483563) ⇑69069)<|A5 ac2 ⇑104723 (A5 ac6 (A1 1) ⇑1)) ⇑2147483563)<|A7 (B3 3<|A5 n5 (A5 ac6 (A5 ac2 (A1 3)<|A1 3)<|A5 ao0 (A1 3) ⇑3) ⇑2147483399) (B1<|A5 n5 (A5 ao0 (A5 n5 (A5 ac6 (A5 ac2 (A1 3)<|A1 3)<|A5 ao0 (A1 3) ⇑7) ⇑2147483647) ⇑11) (A1 2)))
def A9:List D->Option D:=C4 aQ9 4
def au5:DS:=(A7 (B3 2<|A1 0)<|A7 (B3 3<|A1 1) (A7 (ab5 (tB2 gtI (A1 2) ⇑0)<|bI4 2 3 (A0 (A5 n5 (A1 3)<|A1 2)<|A0 (A1 2) A2))<|B1 (B4<|A0 (A5 ao0 (A1 0)<|A1 3) (A0 (A5 ao0 (A1 1)<|A1 3) A2))))
def aa3:List D->Option D:=C4 au5 4
def aQ5:DS:=(B1<|A3 aa3 (A0 (A5 ac2 (dIx (A8 0) ⇑0)<|dIx (A8 1) ⇑0)<|A0 (A5 ac2 (dIx (A8 0) ⇑1)<|dIx (A8 1) ⇑1) A2))
def ay3:List D->Option D:=C4 aQ5 2
def aQ6:DS:=(A7 (B3 2<|A5 ac6 ⇑1 (A3 A9<|A0 (A1 0) (A0 (A1 1)<|A0 ⇑12 A2)))<|A7 (B3 3<|A3 aa3 (A0 (A3 A9<|A0 (A1 0) (A0 (A5 ac6 (A1 1) ⇑1)<|A0 (A5 ac6 (A1 2) ⇑1) A2))<|A0 (A1 2) A2)) (B1<|dIx (qN<|A0 (A1 3) (A0 (A1 3)<|A0 (A1 3) (A0 (B4<|A0 ⇑0 (A0 ⇑1 A2))<|A0 (B4<|A0 ⇑1 (A0 ⇑1 A2)) A2))) (A3 A9<|A0 (A1 0) (A0 (A5 ac6 (A1 1) ⇑2)<|A0 ⇑5 A2))))
def L5:List D->Option D:=C4 aQ6 4
def bf9:DS:=(A7 (B3 2<|A3 L5 (A0 (A1 0)<|A0 (A1 1) A2))<|B1 (A5 ac6 (B4<|A0 (A1 2) A2)<|U7 (qN<|D1 1 [2,0,1] (M9 ⇑3) (B9 0) F6 (A3 ay3<|A0 (A1 1) (A0 (A3 L5<|A0 (A1 2) (A0 (A5 ac6 (A5 ac6 (A1 3) ⇑3)<|A5 ac2 ⇑3 (A1 0)) A2)) A2)))))
def X7:List D->Option D:=C4 bf9 3
def aX3:DS:=(B1<|T7 (ae3 "int"<|A1 0) (be2<|ae3 "bool" (A1 0)))
def ad4:List D->Option D:=C4 aX3 1
def au6:DS:=(A7 (sIf (P8 (K5<|J5 (ae3 "tuple"<|A1 0))<|P8 (tB2 neD (S2<|A8 0) ⇑2) (P8 (K5<|J5 (A3 ad4<|A0 (dIx (A8 0) ⇑0) A2))<|K5 (J5<|A3 ad4 (A0 (dIx (A8 0) ⇑1) A2)))) (B1<|dC (.bool false)) C2)<|B1 (T7 (A5 gtI (dIx (A8 0) ⇑1) ⇑0)<|T7 (V4 leI leI ⇑0 (dIx (A8 0) ⇑0)<|dIx (A8 0) ⇑1) (A5 eqD (A3 aa3<|A0 (dIx (A8 0) ⇑0) (A0 (dIx (A8 0) ⇑1) A2))<|A1 0)))
def aX5:List D->Option D:=C4 au6 1
def bo0:DS:=(B1<|T7 (ae3 "int"<|A1 0) (be2<|ae3 "bool" (A1 0)))
def O6:List D->Option D:=C4 bo0 1
def aK4:DS:=(A7 (sIf (P8 (K5<|J5 (ae3 "tuple"<|A1 0))<|tB2 neD (S2<|A8 0) ⇑2) (B1<|dC (.bool false)) C2)<|A7 (B3 1<|dIx (A8 0) ⇑0) (A7 (B3 2<|dIx (A8 0) ⇑1)<|A7 (sIf (P8 (K5<|J5 (A3 O6<|A0 (A1 1) A2))<|K5 (J5<|A3 O6 (A0 (A1 2) A2))) (B1<|dC (.bool false)) C2) (B1<|T7 (A5 gtI (A1 2) ⇑0) (T7 (V4 leI leI ⇑0 (A1 1)<|A1 2)<|A5 eqD (A3 O1<|A0 (A1 1) (A0 (A1 2) A2)) ⇑1))))
def W0:List D->Option D:=C4 aK4 3
def aR0:DS:=(A7 (sIf (P8 (K5<|J5 (ae3 "tuple"<|A1 0))<|tB2 neD (S2<|A8 0) ⇑4) (B1<|dC (.bool false)) C2)<|A7 (sIf (K5<|J5 (aM1<|qN (D1 1 [] (K1<|A1 0) (B9 0) F6<|A3 W0 (A0 (A1 0) A2)))) (B1<|dC (.bool false)) C2) (B1<|aM1 (qN<|D1 1 [0] (K1<|be1 (A1 0) (B6 ⇑1) C7) (B9 0) F6 (A3 ad6<|A0 (A1 0) (A0 (dIx (A8 1) ⇑0) A2)))))
def ai9:List D->Option D:=C4 aR0 1
def ax8:DS:=(B1<|T7 (A3 O6<|A0 (A1 0) A2) (V4 leI leI ⇑1 (A1 0) ⇑8))
def aa5:List D->Option D:=C4 ax8 1
def ap7:DS:=(A7 (sIf (P8 (K5<|J5 (ae3 "tuple"<|A1 0))<|tB2 neD (S2<|A8 0) ⇑3) (B1<|dC (.bool false)) C2)<|B1 (T7 (A3 aa5<|A0 (dIx (A8 0) ⇑0) A2)<|T7 (A3 aa5<|A0 (dIx (A8 0) ⇑1) A2) (ae3 "tuple"<|dIx (A8 0) ⇑2)))
def k9:List D->Option D:=C4 ap7 1
def aK3:DS:=(A7 (sIf (K5<|J5 (A3 k9<|A0 (A1 0) A2)) (B1<|dC (.bool false)) C2)<|A7 (B3 1<|dIx (A8 0) ⇑2) (B1<|T7 (A5 eqD (S2<|A8 1)<|A5 E9 (dIx (A8 0) ⇑0) (dIx (A8 0) ⇑1)) (aM1<|qN (D1 1 [] (K1<|A1 1) (B9 0) F6<|A3 ai9 (A0 (A1 0) A2)))))
def ap9:List D->Option D:=C4 aK3 2
def aB7:DS:=(B1<|L6 (D1 1 [0] (M9<|A5 E9 (A1 0) (A1 1)) (B9 0) F6<|B4 (A0 (A5 n5 (A1 0)<|A1 1)<|A0 (A5 ao0 (A1 0)<|A1 1) A2)))
def bg0:List D->Option D:=C4 aB7 2
def aC0:DS:=(B1<|T7 (V4 leI ltI ⇑0 (A1 1)<|dIx (A8 0) ⇑0) (V4 leI ltI ⇑0 (A1 2)<|dIx (A8 0) ⇑1))
def X8:List D->Option D:=C4 aC0 3
def u5:DS:=(B1<|A5 B0 (A5 E9 (A1 2)<|dIx (A8 0) ⇑0) (A1 1))
def Q2:List D->Option D:=C4 u5 3
def ax5:DS:=(A7 (sIf (K5<|J5 (A3 X8<|A0 (A1 0) (A0 (A1 1)<|A0 (A1 2) A2))) (B1<|dC (.tuple [(.tuple [(.int 0),(.int 1)]),(.tuple [(.int 0),(.int 1)]),(.tuple [(.int 0),(.int 1)]),(.tuple [(.int 0),(.int 1)])])) C2)<|B1 (dIx (qE<|dIx (A8 0) ⇑2)<|A3 Q2 (A0 (A1 0)<|A0 (A1 1) (A0 (A1 2) A2))))
def ay1:List D->Option D:=C4 ax5 3
def ax7:DS:=(A7 (aq4 4<|D1 1 [0,1] (M9<|A5 E9 (A1 2) (A1 3)) (B9 0) F6 (A3 X7<|A0 (A1 1) (A0 (A5 B0 (A1 2)<|A5 E9 ⇑12 (A1 0)) A2)))<|A7 (sIf (tB2 eqD (A3 A9<|A0 (A1 0) (A0 (A5 B0 (A1 1) ⇑7)<|A0 ⇑3 A2)) ⇑0) (B3 4<|A5 E9 (D6 (A1 4) C7<|B6 ⇑1) (A5 E9 (A1 2)<|A1 3)) C2) (B1<|B4 (A0 (A1 2)<|A0 (A1 3) (A0 (U7<|A8 4) A2))))
def ai6:List D->Option D:=C4 ax7 5
def bF6:DS:=(B1<|dIx (A8 0) ⇑0)
def ai8:List D->Option D:=C4 bF6 1
def bo3:DS:=(B1<|A5 eqD (A3 ai8<|A0 (A1 0) A2) (dC<|.str "layer"))
def R6:List D->Option D:=C4 bo3 1
def bF7:DS:=(B1<|A5 eqD (A3 ai8<|A0 (A1 0) A2) (dC<|.str "tone"))
def aa4:List D->Option D:=C4 bF7 1
def bf7:DS:=(B1<|dIx (A8 0) ⇑2)
def O3:List D->Option D:=C4 bf7 1
def bF1:DS:=(B1<|dIx (A8 0) ⇑2)
def ai4:List D->Option D:=C4 bF1 1
def aM8:DS:=(B1<|dIx (A8 0) ⇑3)
def W2:List D->Option D:=C4 aM8 1
def bo2:DS:=(B1<|dIx (A8 0) ⇑4)
def ad5:List D->Option D:=C4 bo2 1
def bF5:DS:=(B1<|dIx (A8 0) ⇑5)
def ai5:List D->Option D:=C4 bF5 1
def bY2:DS:=(B1<|dIx (A8 0) ⇑6)
def au9:List D->Option D:=C4 bY2 1
def bF4:DS:=(B1<|dIx (A8 0) ⇑7)
def ay2:List D->Option D:=C4 bF4 1
def bn8:DS:=(B1<|dIx (A8 0) ⇑8)
def R4:List D->Option D:=C4 bn8 1
def aM9:DS:=(B1<|dIx (A8 0) ⇑5)
def E6:List D->Option D:=C4 aM9 1
def nbA:DS:=(B3 6<|aI7 (dC<|.str "") (qN<|D1 1 [0,1,5] (M9 ⇑2) (B9 0) F6 (ao5 (dC<|.str "abcdefghijklmnopqrstuvwxyz")<|A3 A9 (A0 (A1 1)<|A0 (A5 B0 (A5 B0 (A5 B0 (A1 2) ⇑1)<|A5 E9 ⇑3 (A1 3))<|A1 0) (A0 ⇑26 A2)))))
def nbB:DS:=(B3 6<|A5 by8 (bD3 (A1 6) C7<|B6 (A3 A9<|A0 (A1 0) (A0 (A5 B0 (A5 B0 (A1 1) ⇑3)<|A5 E9 ⇑3 (A1 5))<|A0 ⇑3 A2))) (dIx (qN<|A0 ⇑1 (A0 ⇑2 A2))<|A3 A9 (A0 (A1 0)<|A0 (A5 B0 (A5 B0 (A1 1) ⇑2)<|A5 E9 ⇑3 (A1 5)) (A0 ⇑2 A2))))
def nbC:DS:=(x0 4<|dIx (qN<|A0 (A5 B0 (A1 6)<|ao5 (dC<|.str "abcdefghijklmn") (A1 5)) (A0 (A5 B0 (ao5 (dC<|.str "abcdefghijklmn")<|A1 5)<|A1 6) A2)) (be3<|A1 3))
def aQ8:DS:=(A7 (B3 3<|A5 eqD (A3 A9<|A0 (A1 0) (A0 (A1 1)<|A0 ⇑2 A2)) ⇑0)<|A7 (ae1 4 A2) (A7 (W9 (M9<|A1 2) (B9 5)<|A7 nbA (A7 nbB nbC))<|aS1 4 (B1<|A1 4)))
def ai7:List D->Option D:=C4 aQ8 7
def ae7:DS:=(B3 4<|A3 L5 (A0 (A1 0)<|A0 (A1 1) A2))
def ae6:DS:=(B3 5<|A5 gtI (A3 A9<|A0 (A1 0) (A0 (A5 B0 (A1 1) ⇑3)<|A0 ⇑6 A2)) ⇑0)
def W4:DS:=(sIf (tB2 eqD (A3 A9<|A0 (A1 0) (A0 (A5 B0 (A1 1) ⇑4)<|A0 ⇑6 A2)) ⇑0) (B1<|B4 (A0 (dC<|.str "tone")<|A0 (A1 2) (A0 (dIx (qN<|A0 (dC<|.str "turn") (A0 (dC<|.str "grey")<|A0 (dC<|.str "round") A2))<|A3 A9 (A0 (A1 0)<|A0 (A5 B0 (A1 1) ⇑5) (A0 ⇑3 A2)))<|A0 (A1 4) (A0 (A1 5) A2)))) C2)
def az6:DS:=(B3 6<|dIx (qN<|A0 (dC<|.str "over") (A0 (dC<|.str "multiply")<|A0 (dC<|.str "screen") (A0 (dC<|.str "plus")<|A0 (dC<|.str "atop") (A0 (dC<|.str "cut") A2)))) (A3 A9<|A0 (A1 0) (A0 (A5 B0 (A1 1) ⇑5)<|A0 ⇑6 A2)))
def n8:DS:=(sIf (tB2 gtI (A3 A9<|A0 (A1 0) (A0 (A5 B0 (A1 1) ⇑6)<|A0 ⇑3 A2)) ⇑0) (B3 6<|A1 3) C2)
def az5:DS:=(B3 7<|A5 B0 ⇑1 (A3 A9<|A0 (A1 0) (A0 (A5 B0 (A1 1) ⇑7)<|A0 ⇑3 A2)))
def az4:DS:=(B3 8<|A5 B0 ⇑1 (A3 A9<|A0 (A1 0) (A0 (A5 B0 (A1 1) ⇑8)<|A0 ⇑3 A2)))
def az3:DS:=(B3 9<|dC .none)
def n6:DS:=(sIf (tB2 eqD (A3 A9<|A0 (A1 0) (A0 (A5 B0 (A1 1) ⇑9)<|A0 ⇑3 A2)) ⇑0) (B3 9<|U7 (qN<|D1 1 [0,1] (M9<|A5 E9 (A1 7) (A1 8)) (B9 0) F6 (A3 L5<|A0 (A1 1) (A0 (A5 B0 (A5 B0 (A1 2) ⇑20)<|A5 E9 ⇑3 (A1 0)) A2)))) C2)
def az2:DS:=(B3 10<|A5 aR7 (A3 A9<|A0 (A1 0) (A0 (A5 B0 (A1 1) ⇑10)<|A0 ⇑4 A2)) ⇑1)
def aq2:DS:=(B3 11<|A5 aR7 (A3 A9<|A0 (A1 0) (A0 (A5 B0 (A1 1) ⇑11)<|A0 ⇑4 A2)) ⇑1)
def Z0:DS:=(sIf (tB2 eqD (A3 A9<|A0 (A1 0) (A0 (A5 B0 (A1 1) ⇑12)<|A0 ⇑3 A2)) ⇑0) (aq5 (B4<|A0 ⇑3 (A0 ⇑3<|A0 ⇑0 (A0 ⇑0<|A0 (dC .none) A2)))<|S7 5 (D0 (B9 7)<|D0 (B9 8) (D0 (B9 10)<|D0 (B9 11) (D0 (B9 9) T4)))) C2)
def aq1:DS:=(B3 12<|A3 ai6 (A0 (A1 0)<|A0 (A5 B0 (A1 1) ⇑50) (A0 (A1 7)<|A0 (A1 8) A2)))
def aa9:DS:=(B1<|B4 (A0 (dC<|.str "layer")<|A0 (A1 2) (A0 (A1 6)<|A0 (A1 4) (A0 (A1 5)<|A0 (A1 10) (A0 (A1 11)<|A0 (A1 9) (A0 (A1 12) A2))))))
def aJ9:DS:=(A7 ae7<|A7 ae6 (A7 W4<|A7 az6 (A7 n8<|A7 az5 (A7 az4<|A7 az3 (A7 n6<|A7 az2 (A7 aq2<|A7 Z0 (A7 aq1 aa9)))))))
def S8:List D->Option D:=C4 aJ9 13
def gb0:DS:=(B3 8<|A3 A9 (A0 (A1 0)<|A0 (A5 B0 (A5 B0 (A1 1) ⇑3)<|A5 E9 ⇑5 (A1 7)) (A0 (A5 B0 (S2<|A8 6) ⇑1) A2)))
def gb1:DS:=(B3 9<|A5 B0 (A1 8) (A3 A9<|A0 (A1 0) (A0 (A5 B0 (A5 B0 (A1 1) ⇑4)<|A5 E9 ⇑5 (A1 7))<|A0 ⇑3 A2)))
def gb2:DS:=(B3 10<|dIx (qN<|A0 (B4<|A0 ⇑1 (A0 ⇑1 A2)) (A0 (A3 L5<|A0 (A1 0) (A0 (A5 B0 (A5 B0 (A1 1) ⇑5)<|A5 E9 ⇑5 (A1 7)) A2)) A2)) (A3 A9<|A0 (A1 0) (A0 (A5 B0 (A5 B0 (A1 1) ⇑6)<|A5 E9 ⇑5 (A1 7))<|A0 ⇑2 A2)))
def gb3:DS:=(B3 11<|dIx (qN<|A0 (A1 4) (A0 (dC<|.str "atop")<|A0 (A1 4) (A0 (dC<|.str "cut") A2))) (A3 A9<|A0 (A1 0) (A0 (A5 B0 (A5 B0 (A1 1) ⇑7)<|A5 E9 ⇑5 (A1 7))<|A0 ⇑4 A2)))
def gb4:DS:=(B3 12<|B4 (A0 (dC<|.str "group")<|A0 (dIx (A8 3)<|A5 B0 (A1 2) (A1 7)) (A0 (A1 11)<|A0 (A1 10) (A0 (A5 gtI (A3 A9<|A0 (A1 0) (A0 (A5 B0 (A5 B0 (A1 1) ⇑14)<|A1 7)<|A0 ⇑7 A2)) ⇑0) A2))))
def gb5:DS:=(bI3 6 (B6<|A1 8) (B6<|A1 9)<|A0 (A5 B0 (A1 12)<|B4 (A0 (U7<|qE (bD4 (A8 6) (B6<|A1 8)<|B6 (A1 9))) A2)) A2)
def bt4:DS:=(A7 gb0<|A7 gb1 (A7 gb2<|A7 gb3 (A7 gb4 gb5)))
def gn0:DS:=(B3 4<|dIx (qN<|A0 (dC<|.str "over") (A0 (dC<|.str "multiply")<|A0 (dC<|.str "screen") (A0 (dC<|.str "plus") A2))) (A3 A9<|A0 (A1 0) (A0 (A1 1)<|A0 ⇑4 A2)))
def gn1:DS:=(B3 5<|A3 A9 (A0 (A1 0)<|A0 (A5 B0 (A1 1) ⇑1) (A0 (A5 B0 (A1 2) ⇑1) A2)))
def gn2:DS:=(ae1 6<|D1 1 [0,4,3,1] (M9<|A1 5) (B9 0) F6 (A3 S8<|A0 (A1 1) (A0 (A5 B0 (A5 B0 (A1 4) ⇑20)<|A5 E9 ⇑170 (A1 0))<|A0 (dIx (A8 3)<|A1 0) (A0 (A1 2) A2))))
def gn3:DS:=(W9 (M9<|A3 A9 (A0 (A1 0)<|A0 (A5 B0 (A1 1) ⇑2) (A0 ⇑3 A2))) (B9 7) bt4)
def aQ7:DS:=(A7 gn0<|A7 gn1 (A7 gn2<|A7 gn3 (B1<|U7 (A8 6))))
def ay4:List D->Option D:=C4 aQ7 13
def aB8:DS:=(A7 (B3 4<|A5 B0 ⇑1 (A3 A9<|A0 (A1 0) (A0 (A1 1)<|A0 ⇑3 A2)))<|A7 (B3 5<|A5 B0 ⇑1 (A3 A9<|A0 (A1 0) (A0 (A5 B0 (A1 1) ⇑1)<|A0 ⇑3 A2))) (B1<|B4 (A0 (A1 4)<|A0 (A1 5) (A0 (A3 ay4<|A0 (A1 0) (A0 (A5 B0 (A1 1) ⇑2)<|A0 (A1 2) (A0 (A1 3) A2))) A2))))
def u7:List D->Option D:=C4 aB8 6
def bo4:DS:=(B1<|A5 eqD (A3 ai8<|A0 (A1 0) A2) (dC<|.str "group"))
def K4:List D->Option D:=C4 bo4 1
def bF3:DS:=(B1<|dIx (A8 0) ⇑1)
def V9:List D->Option D:=C4 bF3 1
def ap5:DS:=(B1<|A5 B0 (D6 (A1 0) C7<|B6 ⇑5) (B4<|A0 (A1 1) A2))
def L8:List D->Option D:=C4 ap5 2
def aJ5:DS:=(A7 (W9 (bb9<|qE (A1 0)) (S7 2<|D0 (B9 2) (D0 (B9 3) T4))<|sIf (tB2 eqD (A3 V9<|A0 (A1 3) A2)<|A1 1) (B1<|A1 2) C2)<|B1 (dC .none))
def E5:List D->Option D:=C4 aJ5 4
def L3(self:List D->Option D):DS:=(A7 (sIf (tB2 aw2 (A3 E5<|A0 (A1 0) (A0 (A1 1) A2))<|dC .none) (B1<|A1 0) C2)<|A7 (W9 (K1<|A1 0) (B9 2)<|sIf (J5<|A3 K4 (A0 (A1 2) A2)) (A7 (B3 3<|A3 self (A0 (A3 E6<|A0 (A1 2) A2)<|A0 (A1 1) A2))<|sIf (tB2 aw2 (A1 3)<|dC .none) (B1<|A1 3) C2) C2) (B1<|dC .none))
def F5:Nat->List D->Option D
 | 0=>λ_=>O
 | k+1=>C4 (L3<|F5 k) 4
def ah1:DS:=(A7 (B3 2<|A3 (F5 12) (A0 (dIx (A8 0) ⇑2)<|A0 (A1 1) A2))<|A7 (sIf (tB2 isB (A1 2)<|dC .none) B8 C2) (B1<|A1 2))
def L9:List D->Option D:=C4 ah1 3
def K6(self:Nat->List D->Option D):DS:=(A7 (sIf (tB2 aw2 (A3 E5<|A0 (A1 0) (A0 (A1 1) A2))<|dC .none) (B1<|A1 2) C2)<|B1 (U7<|qN (D1 1 [1,2] (K1<|A1 0) (B9 0) F6<|A3 (self 1) (A0 (A1 0)<|A0 (A1 1) (A0 (A1 2) A2)))))
def J1(self:Nat->List D->Option D):DS:=(A7 (sIf (K5<|J5 (A3 K4<|A0 (A1 0) A2)) (B1<|A1 0) C2)<|B1 (A3 L8<|A0 (A1 0) (A0 (A3 (self 0)<|A0 (A3 E6<|A0 (A1 0) A2) (A0 (A1 1)<|A0 (A1 2) A2)) A2)))
def am5:Nat->Nat->List D->Option D
 | 0=>λ_ _=>O
 | k+1=>λi=>match i with
  | 0=>C4 (K6<|am5 k) 3
  | 1=>C4 (J1<|am5 k) 3
  | _=>λ_=>O
def G7(k:Nat):List D->Option D:=am5 k 0
def J3(k:Nat):List D->Option D:=am5 k 1
def Y8:DS:=(B1<|B4 (A0 (dIx (A8 0) ⇑0)<|A0 (dIx (A8 0) ⇑1) (A0 (A3 (G7 12)<|A0 (dIx (A8 0) ⇑2) (A0 (A1 1)<|A0 (A1 2) A2)) A2)))
def S4:List D->Option D:=C4 Y8 3
def aB5:DS:=(A7 (B3 3<|A3 L9 (A0 (A1 0)<|A0 (A1 1) A2))<|A7 (B3 4<|A3 E5 (A0 (A1 3)<|A0 (A1 1) A2)) (B1<|A3 S4 (A0 (A1 0)<|A0 (A1 1) (A0 (A5 B0 (A5 B0 (D6 (A1 3) C7<|B6 (A1 4))<|B4 (A0 (A1 2) A2))<|D6 (A1 3) (B6<|A5 B0 (A1 4) ⇑1) C7) A2))))
def X6:List D->Option D:=C4 aB5 5
def bv7(self:List D->Option D):DS:=(A7 (ae1 1 A2)<|A7 (W9 (K1<|A1 0) (B9 2)<|A7 (x0 1<|A1 2) (sIf (tB2 eqD (dIx (A8 2) ⇑0)<|dC (.str "group")) (ae1 1<|by7 (A8 1) (qE<|A3 self (A0 (dIx (A8 2) ⇑5) A2))) C2)) (aS1 1<|B1 (A1 1)))
def G6:Nat->List D->Option D
 | 0=>λ_=>O
 | k+1=>C4 (bv7<|G6 k) 3
end Sh
namespace G
open PySem PySem.Spec PyProof.Rows L2
abbrev FnD:=List D->Option D
structure Sg where
 fn:List (Str×FnD×Nat)
 cs:List (Str×D)
 bl:List Str
structure Kx where
 N:List Str
 sc:Scope
 df:Bool
 own:List Nat
 cpt:List Nat
 tx:List Nat
 dx:List Nat
 old:Bool
 fz:List (Nat×List Nat)
 hc:List ((Nat×Nat)×List Nat)
def biS(K:ad)(n:Nat)(F:List D->Option D):List V->Hp->VK->Prop:=λvs H Q=>vs.length=n/\∃Hf ds d,E2 Hf H/\Reps K Hf ds vs/\F ds=Z d/\∀v H' Hf',Grow H Hf H' Hf'->Rep K Hf' d v->Q v H'
def cN7(x:Str)(F:FnD)(n:Nat):Prop:=0 < n/\x ≠ "__name__" /\ ∃nm,ff x=Z (.builtin nm)/\∀X:Cx,X.A.units+64 < cLine->U9 X (.builtin nm) (biS X.K n F)
def cV9(hb:cN7 x F n)(hu:X.A.units+64 < cLine)(hg:Gl X x)(hm:X.mg x=O)(ha:JA X (e::es) g)(hn:(e::es).length=n)(hdb:(x==("__debug__" : Str))=false)
  (he:eT (e::es) X.env=(false,eval e X.env)::eT es X.env) (hpl:(backTo pos<|eT es X.env).any (·.1)=false):JE X (.Call (.Name x p) (e::es) [] pos) (A3 F g):=λρ d q=>by
 obtain⟨ds,h1,h2⟩:=xbo q;obtain⟨_,hnn,nm,hv,hc⟩:=hb;refine C3 (Q9 (hc X hu) hg hm hv (ha.run ρ ds h1) hnn hdb he hpl) λσ H Q ⟨H0,Hf,s,sl,kk⟩=>?_
 exact⟨H0,Hf,s,sl,λvs H1 Hf1 g1 r1=>⟨by rw[r1.length,ha.len ρ ds h1,hn],Hf1,ds,d,g1.sub,r1,h2,λv H2 Hf2 g2 r2=>kk v H2 Hf2 (g1.trans g2) r2⟩⟩
def de5(X:Cx)(x:Str)(F:FnD)(n:Nat):Prop:=(∃(k:Nat) (f:fO) (fd:fe) (ps:List Str),FnOk X.prog X.w X.K X.mg X.base CX0 k f fd ps (spF X.K n F)/\Room k X.A/\X.mg x=Z (.ref f)/\aW X.K (.ref f)=true/\Q3 X.K fd ps [])\/(X.mg x=O/\cN7 x F n)
structure Fit (S:Sg) (c:Kx) (X:Cx):Prop where
 N:X.N=c.N
 sc:X.env.scope=c.sc
 nd:c.N.Nodup
 calm:X.calm=true
 xe:X.xe=λ_ _=>False
 units:X.A.units+64 < cLine
 df:c.df=true->(∀x,X.fn x=true)/\c.sc.kind=.function
 fns:∀x F n,S.fn.lookup x=Z (F,n)->de5 X x F n
 css:∀x d,S.cs.lookup x=Z d->∃u,bf5 X.K d u/\X.mg x=Z u
 bls:∀x,S.bl.contains x=true->X.mg x=O
def pl:Expr->Bool
 | .Starred ..=>false
 | .Slice ..=>false
 | .Set ..=>false
 | _=>true
def aw5:Expr->Bool
 | .Call ..=>false
 | _=>true
def isC:Expr->Bool
 | .ListComp ..=>true
 | .SetComp ..=>true
 | .DictComp ..=>true
 | _=>false
def plT:Expr->Bool
 | .UnaryOp ..=>false
 | .BoolOp ..=>false
 | .IfExp ..=>false
 | .Compare ..=>false
 | _=>true
def x9(x:Str):List Str->Option Nat
 | []=>O
 | y::r=>if y==x then Z 0 else(x9 x r).map (·+1)
theorem bb6:∀{l:List Str}{i:Nat},x9 x l=Z i->l[i]? = Z x
 | [],i,h=>by cases h
 | y::r,i,h=>by
  unfold x9 at h;split at h
  .rename_i e;cases h;simp only[beq_iff_eq]at e;subst e;rfl
  .obtain⟨j,h1,h2⟩:=xmo h;subst h2;simpa using bb6 h1
def aw4:List Str->Bool
 | []=>true
 | x::r=>!(r.contains x)&&aw4 r
theorem aw3:∀{l:List Str},aw4 l=true->l.Nodup
 | [],_=>eJ
 | x::r,h=>by
  unfold aw4 at h;simp only[af,bC]at h;refine bn.mpr ⟨λz=>?_,aw3 h.2⟩;have:=h.1;rw[cX.mpr z]at this;cases this
def aR5(sc:Scope)(x:Str):Bool:=(match sc.names.lookup x with|some .local=>true|some .cell=>true|some .free=>true|_=>false) && !(x==("__debug__" : Str)) && !(x==("__classdict__" : Str))
def bz4(c:Kx)(x:Str):Bool:=(match c.sc.names.lookup x with|some .local=>true|some .cell=>c.df|_=>false)
def aC6(sc:Scope)(x:Str):Bool:=(match sc.names.lookup x with|some .globalImplicit=>true|_=>false) && !(x==("__debug__" : Str))
def biB(S:Sg)(c:Kx)(w x:Str):Bool:=x==w&&S.bl.contains w&&aC6 c.sc w
section
variable {X:Cx}{S:Sg}{c:Kx}
def aa8(F:Fit S c X)(h:aR5 c.sc x=true):Vis X.env.scope x/\(x==("__debug__" : Str))=false/\(x==("__classdict__" : Str))=false:=by
 unfold aR5 at h;simp only[af,bC]at h;obtain⟨⟨h1,h2⟩,h3⟩:=h;refine⟨?_,h2,h3⟩;rw[F.sc];unfold Vis;split at h1
 .rename_i e;exact .inl e
 .rename_i e;exact .inr<|.inl e
 .rename_i e;exact .inr<|.inr e
 .cases h1
def aT7(F:Fit S c X)(h:bz4 c x=true):L2.Loc X.env.scope x/\(X.fn x=true\/X.env.scope.names.lookup x=Z .local):=by
 unfold bz4 at h;rw[F.sc];unfold L2.Loc;split at h
 .rename_i e;exact⟨.inl e,.inr e⟩
 .rename_i e;exact⟨.inr e,.inl<|(F.df h).1 x⟩
 .cases h
def t7(F:Fit S c X)(h:aC6 c.sc x=true):Gl X x/\(x==("__debug__" : Str))=false:=by
 unfold aC6 at h;simp only[af,bC]at h;refine⟨?_,h.2⟩;unfold Gl Env.kindOf;rw[F.sc];have h1:=h.1;split at h1
 .rename_i e;exact e
 .cases h1
def L0(F:Fit S c X)(h:biB S c w x=true):x=w/\Gl X w/\X.mg w=O:=by
 unfold biB at h;simp only[af,beq_iff_eq]at h;exact⟨h.1.1,(t7 F h.2).1,F.bls _ h.1.2⟩
def K7(h:pl e=true)(es:List Expr)(env:Env):eT (e::es) env=(false,eval e env)::eT es env:=by cases e<;>first|rfl|cases h
def bK0(h:pl e=true):au0 e:=by
 intro o i;cases e<;>first|rfl|cases h
def ai0(h:pl e=true)(op:CmpOp):behindInMarks op e=false:=by cases e<;>first|rfl|cases h
def bq1(h:pl e=true)(env:Env)(x:fM):fk e env x=pure x:=by cases e<;>first|rfl|cases h
def X0(h:aw5 o=true)(attr:Str)(env:Env)(t:Sem fM):fq o attr env t=t:=by cases o<;>first|rfl|cases h
def ar5(h:isC e=false)(t:Option Expr)(l:Nat)(env:Env):swapsWith e t l env=pure false:=by cases e<;>first|rfl|cases h
def aZ4(h:plT e=true)(env:Env)(whole:Sem fM):isTrue e env whole=(do let v ← whole;standAt e.pos;holding [v] (truthy v)):=by cases e<;>first|rfl|cases h
end
abbrev DA:=Rho->Option (List D)
abbrev DQ:=Rho->Option (Bool×List D)
abbrev DT:=Rho->Option Bool
abbrev DG:=D->Rho->Option Rho
def dNo:DE:=λ_=>O
def aNo:DA:=λ_=>O
def qNo:DQ:=λ_=>O
def tNo:DT:=λ_=>O
def gNo:DG:=λ_ _=>O
structure Ev where
 e:Kx->Expr->DE
 q:Kx->Expr->DQ
 n:Kx->Expr->DA
 t:Kx->Expr->DT
 g:Kx->Expr->DG
 b:Kx->List Stmt->DS
def aM3:CmpOp->D->D->Option D
 | .Lt=>ltI | .LtE=>leI | .Gt=>gtI | .GtE=>geI | .Eq=>eqD | .NotEq=>neD | .Is=>isB | .IsNot=>aw2 | .In=>inD false | .NotIn=>inD true
def evA(f:Expr->DE):List Expr->DA
 | []=>A2
 | e::es=>if pl e then A0 (f e) (evA f es) else aNo
def bA6(f:Expr->DE)(op:BoolOp):List Expr->DE
 | []=>dNo
 | [a]=>f a
 | a::b::r=>match op with
  | .And=>T7 (f a)<|bA6 f op (b::r)
  | .Or=>dOr (f a)<|bA6 f op (b::r)
def bA5(f:Expr->DT)(op:BoolOp):List Expr->DT
 | []=>tNo
 | [a]=>f a
 | a::b::r=>match op with
  | .And=>Z8 (f a)<|bA5 f op (b::r)
  | .Or=>P8 (f a)<|bA5 f op (b::r)
def evO(f:Expr->DE):Option Expr->Rho->Option (Option Int)
 | none=>C7
 | some e=>B6<|f e
def cK3(f:Expr->DG):List Expr->List D->Rho->Option Rho
 | []=>T4
 | e::es=>D0 (f e)<|cK3 f es
def bT5(f:Expr->DT):List Expr->DT
 | []=>F6
 | [t]=>f t
 | _=>tNo
def X9:Expr->List Str
 | .Name x _=>[x]
 | .Tuple es _ _=>es.filterMap λ| .Name x _=>Z x|_=>O
 | _=>[]
def rl(scope sc:Scope):Scope:={ scope with names:=scope.names.map λ(n,k)=>if(k == .free&&sc.kind == .function&&sc.names.lookup n==Z .cell) then(n,.cell) else(n,k) }
def bk3(n:Nat)(caps l:List Nat):List Nat:=(ay caps.length).filterMap λi=>match caps[i]? with|some j=>if l.contains j then Z (n+i) else O|none=>O
def cQ8(c:Kx)(j:Nat):Str:=(c.N[j]?).getD ""
def inner(c:Kx)(tn:List Str)(caps:List Nat)(scope:Scope):Kx :=
 { N:=tn++caps.map (cQ8 c),sc:=rl scope c.sc,df:=false,own:=bk3 tn.length caps c.own,cpt:=[],tx:=bk3 tn.length caps c.tx,dx:=bk3 tn.length caps c.dx,old:=c.old,fz:=[],hc:=c.hc }
def isList:Expr->Bool
 | .List ..=>true
 | .ListComp ..=>true
 | _=>false
def ac4(c:Kx)(l:List Nat):Expr->Bool
 | .Name x _=>(match x9 x c.N with|some i=>l.contains i|none=>false)
 | _=>false
def cI6:Expr->Bool
 | .Constant (.str _) _ _=>true
 | _=>false
def cP3(S:Sg)(c:Kx):Expr->Bool
 | .Constant (.str _) _ _=>true
 | .Name x _=>(match x9 x c.N with|some _=>false|none=>(match S.cs.lookup x with|some (.str _)=>true|_=>false))
 | _=>false
def opW(S:Sg)(c:Kx)(op:CmpOp)(b:Expr):D->D->Option D:=if cP3 S c b then(match op with
 | .In=>inS false
 | .NotIn=>inS true
 | _=>aM3 op) else if ac4 c c.dx b then(match op with
 | .In=>inK false
 | .NotIn=>inK true
 | _=>aM3 op) else aM3 op
def aA6:Expr->Bool
 | .Tuple ..=>true
 | _=>false
def cv6(x:Str):Option String:=if x == "int" then Z "int" else if x == "bool" then Z "bool" else if x == "str" then Z "str" else if x == "tuple" then Z "tuple" else if x == "list" then Z "list" else O
section
variable (S:Sg) (r:Ev)
def evR(c:Kx)(tg:Expr)(a:Expr):DA:=match a with
 | .Call f as kw _=>(match f,as,kw with
  | .Name y _,[e],[]=>(match e with
   | .Call f2 as2 kw2 _=>(match f2,as2,kw2 with
    | .Name z _,[b],[]=>if biB S c "list" y&&biB S c "enumerate" z&&aA6 tg&&pl b then λ_=>O else λ_=>O
    | _,_,_=>λ_=>O)
   | _=>λ_=>O)
  | _,_,_=>λ_=>O)
 | _=>λ_=>O
def evI(c:Kx)(tg it:Expr):DA:=match it with
 | .Call (.Name x _) [a] [] _=>if biB S c "reversed" x then evR S c tg a else if biB S c "range" x&&pl a then M9 (r.e c a) else if biB S c "enumerate" x&&aA6 tg&&pl a then bb9 (qE<|r.e c a) else K1 (r.e c it)
 | .Call (.Name x _) [a,b] [] _=>if biB S c "range" x&&pl a&&pl b then(λ_=>O) else if biB S c "zip" x&&aA6 tg&&pl a&&pl b then(λ_=>O) else K1 (r.e c it)
 | _=>if ac4 c c.tx it then ck7 (r.e c it) else K1 (r.e c it)
def evC(c:Kx)(ex:Expr):DA:=match ex with
 | .ListComp elt [⟨tgt,iter,ifs,0⟩] scope pos =>
  let tn:=X9 tgt
  let caps:=(c.hc.lookup (pos.line,pos.col)).getD []
  let c':=inner c tn caps scope
  if aE3 c.N c'.N tn.length caps c.sc scope&&aw4 c'.N&&pl iter then D1 tn.length caps (evI S r c tgt iter) (r.g c' tgt) (bT5 (r.t c') ifs) (r.e c' elt) else aNo
 | _=>aNo
def bg5(c:Kx)(x:Str)(a:Expr):DE :=
 if !(pl a) then dNo
 else if biB S c "len" x then(match a with
  | .Call (.Name y _) [e] [] _=>if biB S c "set" y&&pl e then at3 (r.q c e) else S2 (r.q c a)
  | _=>if ac4 c c.tx a then bu3 (r.e c a) else S2 (r.q c a))
 else if biB S c "tuple" x then U7 (r.q c a)
 else if biB S c "all" x then aM1 (r.q c a)
 else if biB S c "any" x then cX7 (r.q c a)
 else if biB S c "dict" x then be4 (r.q c a)
 else if biB S c "int" x then be3 (r.e c a)
 else if biB S c "str" x then dNo
 else if biB S c "abs" x then dNo
 else if biB S c "min" x then dNo
 else if biB S c "max" x then bu2 (r.q c a)
 else dNo
def bg4(c:Kx)(x:Str)(a b:Expr):DE :=
 if !(pl a) then dNo
 else if biB S c "isinstance" x then(match b with
  | .Name y _=>(match cv6 y with
   | some T=>if biB S c y y then ae3 T (r.e c a) else dNo
   | none=>dNo)
  | _=>dNo)
 else if !(pl b) then dNo
 else if biB S c "min" x then dNo
 else if biB S c "max" x then dNo
 else dNo
def bG4(c:Kx)(x:Str)(args:List Expr)(ex:Expr):DE:=match S.fn.lookup x with
 | some (F,n)=>if aC6 c.sc x&&args.length==n&&args.all pl then A3 F (evA (r.e c) args) else dNo
 | none=>match args with
  | [a]=>if biB S c "list" x then L6 (r.n c ex) else bg5 S r c x a
  | [a,b]=>bg4 S r c x a b
  | _=>dNo
def cw8:Expr->Option (Option Expr×Option Expr×Option Expr)
 | .Slice lo hi st _=>Z (lo,hi,st)
 | _=>O
def unE:Expr->Option (UnaryOp×Expr)
 | .UnaryOp o a _=>Z (o,a)
 | _=>O
def de1:Const->Bool
 | .int i=>decide (i=1)
 | _=>false
def cS8:Expr->Bool
 | .Constant k _ _=>de1 k
 | _=>false
def m1E(e:Expr):Bool:=match unE e with
 | some t=>(match t.1 with
  | .USub=>cS8 t.2
  | _=>false)
 | none=>false
def nmP:Expr->Option (Str×Pos)
 | .Name x p=>Z (x,p)
 | _=>O
def cP1:List Expr->Option ((Str×Pos)×Str×Pos)
 | [a,b]=>(nmP a).bind λx=>(nmP b).map λy=>(x,y)
 | _=>O
def cP0:Expr->Option (Expr×Expr)
 | .Tuple es _ _=>(match es with
  | [a,b]=>Z (a,b)
  | _=>O)
 | _=>O
def ct7(c:Kx)(a i:Expr):DE:=match cw8 i with
 | some t=>(match t.2.2 with
  | none =>
   if c.old then be1 (r.e c a) (evO (r.e c) t.1) (evO (r.e c) t.2.1)
   else if ac4 c c.tx a then bD3 (r.e c a) (evO (r.e c) t.1) (evO (r.e c) t.2.1)
   else if ac4 c c.own a then bD4 (r.q c a) (evO (r.e c) t.1) (evO (r.e c) t.2.1)
   else D6 (r.e c a) (evO (r.e c) t.1) (evO (r.e c) t.2.1)
  | some e=>if t.1.isNone&&t.2.1.isNone&&m1E e then cr8 (r.e c a) else dNo)
 | none=>if pl i then(if cI6 a then ao5 (r.e c a) (r.e c i) else if ac4 c c.dx a then ao6 (r.e c a) (r.e c i) else dIx (r.q c a) (r.e c i)) else dNo
def xCn(k:Const):DE:=match k with
 | .none=>dC .none
 | .bool b=>dC<|.bool b
 | .int i=>dC<|.int i
 | .str x=>dC<|.str x
 | _=>dNo
def cu4(c:Kx)(a:Expr)(op:Operator)(b:Expr):DE:=match op with
 | .Add=>if c.old && !(isList a || isList b) then A5 ac6 (r.e c a) (r.e c b) else A5 B0 (r.e c a) (r.e c b)
 | .Sub=>A5 aR7 (r.e c a)<|r.e c b
 | .Mult=>if c.old then A5 ac2 (r.e c a) (r.e c b) else(match a with
  | .Subscript v _ _=>if ac4 c c.tx v then A5 by8 (r.e c a) (r.e c b) else A5 E9 (r.e c a) (r.e c b)
  | _=>A5 E9 (r.e c a) (r.e c b))
 | .FloorDiv=>A5 ao0 (r.e c a)<|r.e c b
 | .Mod=>A5 n5 (r.e c a)<|r.e c b
 | .Pow=>dNo
 | _=>dNo
def xUn(c:Kx)(op:UnaryOp)(a:Expr):DE:=match op with
 | .USub=>ax2<|r.e c a
 | .Not=>be2<|r.e c a
 | _=>dNo
def cu2(c:Kx)(a:Expr)(ops:List CmpOp)(bs:List Expr):DE:=match ops,bs with
 | [op],[b]=>if pl b then A5 (opW S c op b) (r.e c a) (r.e c b) else dNo
 | [op,op'],[b,d]=>if pl d then V4 (aM3 op) (aM3 op') (r.e c a) (r.e c b) (r.e c d) else dNo
 | _,_=>dNo
def ct9(c:Kx)(o:Expr)(m:Str)(apos cpos:Pos)(args:List Expr):DE:=match args with
 | [a]=>if m == "join" && aw5 o&&apos.endLine==cpos.line&&pl a then aI7 (r.e c o) (r.q c a) else if m == "index" && aw5 o&&apos.endLine==cpos.line&&pl a then at4 (r.e c o) (r.e c a) else dNo
 | [a,b]=>if m == "get" && aw5 o&&apos.endLine==cpos.line&&pl a&&pl b then bu4 (r.e c o) (r.e c a) (r.e c b) else dNo
 | _=>dNo
def xCl(c:Kx)(f:Expr)(args:List Expr)(kw:List fh)(pos:Pos):DE:=match kw with
 | []=>(match f with
  | .Name x p=>bG4 S r c x args<|.Call (.Name x p) args [] pos
  | .Attribute o m apos=>ct9 r c o m apos pos args
  | _=>dNo)
 | _=>dNo
def xDs(ks:List (Option Expr))(vs:List Expr):DE:=match bc7 ks vs with
 | some ps=>if !ps.isEmpty&&ps.length<=15 then dC (.dict<|mgD (ps.map λp=>(p.1,.int p.2))) else dNo
 | none=>dNo
def xE(c:Kx)(ex:Expr):DE:=match ex with
 | .Constant k _ _=>xCn k
 | .Name x _=>(match x9 x c.N with
  | some i=>if aR5 c.sc x then A1 i else dNo
  | none=>(match S.cs.lookup x with
   | some d=>if aC6 c.sc x then dC d else dNo
   | none=>dNo))
 | .Tuple es _ _=>if es.length<=1000 then B4 (evA (r.e c) es) else dNo
 | .List _ _=>L6<|r.n c ex
 | .ListComp _ _ _ _=>L6<|r.n c ex
 | .BinOp a op b _=>cu4 r c a op b
 | .UnaryOp op a _=>xUn r c op a
 | .Compare a ops bs _=>cu2 S r c a ops bs
 | .BoolOp op vs _=>bA6 (r.e c) op vs
 | .IfExp t a b _=>bD5 (r.t c t) (r.e c a)<|r.e c b
 | .Subscript a i _=>ct7 r c a i
 | .Call f args kw pos=>xCl S r c f args kw pos
 | .Dict ks vs _=>xDs ks vs
 | _=>dNo
def dd0(c:Kx)(f:Expr)(as:List Expr)(kw:List fh):Bool:=match f with
 | .Name x _=>as.length==1&&kw.isEmpty&&biB S c "list" x
 | _=>false
def xQ(c:Kx)(ex:Expr):DQ:=match ex with
 | .Name x _=>(match x9 x c.N with
  | some i=>if aR5 c.sc x then A8 i else qNo
  | none=>qE (r.e c ex))
 | .List _ _=>qN<|r.n c ex
 | .ListComp _ _ _ _=>qN<|r.n c ex
 | .Call f as kw _=>if dd0 S c f as kw then qN (r.n c ex) else qE (r.e c ex)
 | _=>qE<|r.e c ex
def xNl(c:Kx)(f:Expr)(as:List Expr)(kw:List fh):DA:=match f with
 | .Name x _=>(match as,kw with
  | [a],[]=>if biB S c "list" x&&pl a then(λρ=>(r.q c a ρ).map λq=>q.2) else aNo
  | _,_=>aNo)
 | _=>aNo
def xN(c:Kx)(ex:Expr):DA:=match ex with
 | .List es _=>if es.length<=1000 then evA (r.e c) es else aNo
 | .ListComp _ _ _ _=>evC S r c ex
 | .Call f as kw _=>xNl S r c f as kw
 | .BinOp a op b _=>(match op with
  | .Add=>by7 (r.q c a)<|r.q c b
  | _=>aNo)
 | _=>aNo
def co1(c:Kx)(a:Expr)(ops:List CmpOp)(bs:List Expr):DT:=match ops,bs with
 | [op],[b]=>if pl b then tB2 (opW S c op b) (r.e c a) (r.e c b) else tNo
 | [op,op'],[b,d]=>if pl d then bh1 (V4 (aM3 op) (aM3 op') (r.e c a) (r.e c b)<|r.e c d) else tNo
 | _,_=>tNo
def cZ7(c:Kx)(op:UnaryOp)(a:Expr):DT:=match op with
 | .Not=>K5<|r.t c a
 | _=>tNo
def xT(c:Kx)(ex:Expr):DT:=match ex with
 | .Compare a ops bs _=>co1 S r c a ops bs
 | .BoolOp op vs _=>bA5 (r.t c) op vs
 | .UnaryOp op a _=>cZ7 r c op a
 | _=>if plT ex then J5 (r.e c ex) else tNo
def xG(c:Kx)(ex:Expr):DG:=match ex with
 | .Name x _=>(match x9 x c.N with
  | some i=>if bz4 c x then B9 i else gNo
  | none=>gNo)
 | .Tuple es _ _=>if es.all pl then S7 es.length (cK3 (r.g c) es) else gNo
 | _=>gNo
def cS1(c:Kx)(x y:Str)(px py:Pos)(a b:Expr):Bool :=
 c.df&&pl a&&pl b && !(x==y)&&px.line==py.line&&c.sc.names.lookup x==Z .local&&c.sc.names.lookup y==Z .local && !(([a,b]:List Expr).all<|foldedForSure 8) && !(([a,b]:List Expr).all<|constantsAlone 8)
def cu5(c:Kx)(tg v:Expr)(es:List Expr):DS:=match cP1 es with
 | some ((x,px),(y,py))=>if aA6 v then(match cP0 v with
  | some (a,b)=>(match x9 x c.N with
   | some i=>(match x9 y c.N with
    | some j=>if cS1 c x y px py a b then bI4 i j (evA (r.e c) [a,b]) else B8
    | none=>B8)
   | none=>B8)
  | none=>B8) else aq5 (r.e c v) (r.g c tg)
 | none=>if aA6 v&&(es.length==2 || es.length==3) then B8 else aq5 (r.e c v) (r.g c tg)
def cu7(c:Kx)(x:Str)(p':Pos)(v:Expr):DS:=match x9 x c.N with
 | none=>B8
 | some i=>if !(bz4 c x) then B8 else(match v with
  | .ListComp _ _ sc pv=>if c.sc.names.lookup x==Z .local then
    (if c.df&&p'.line==pv.line && !(sc.names.any λ(n,k)=>n==x&&(k == .local || k == .cell)) then(if c.own.contains i then ae1 i (evC S r c v) else aq4 i (evC S r c v)) else B8)
   else B3 i (r.e c v)
  | _=>if isC v then B8 else if c.own.contains i then ae1 i (r.n c v) else B3 i (r.e c v))
def cu6(c:Kx)(a i v:Expr):DS:=match nmP a with
 | none=>B8
 | some x=>(match cw8 i with
  | none=>B8
  | some t=>if t.2.2.isSome then B8 else(match x9 x.1 c.N with
   | none=>B8
   | some i=>if aR5 c.sc x.1 && !(isC v) then bI3 i (evO (r.e c) t.1) (evO (r.e c) t.2.1) (r.n c v) else B8))
def cO7(c:Kx)(tg v:Expr)(p:Pos):DS:=match tg with
 | .Name x p'=>cu7 S r c x p' v
 | .Subscript a i _=>cu6 r c a i v
 | .Tuple es _ _=>cu5 r c tg v es
 | _=>B8
def ct8(c:Kx)(x m:Str)(e:Expr):DS:=match x9 x c.N with
 | none=>B8
 | some i=>if aR5 c.sc x&&pl e then(if m == "append" then x0 i (r.e c e) else if m == "extend" then aS2 i (r.e c e) else B8) else B8
def xEx(c:Kx)(e:Expr):DS:=match e with
 | .Call f args kw cpos=>(match f with
  | .Attribute o m apos=>(match o with
   | .Name x _=>(match args,kw with
    | [e],[]=>if apos.endLine==cpos.line then ct8 r c x m e else B8
    | _,_=>B8)
   | _=>B8)
  | _=>B8)
 | _=>B8
def cZ8(c:Kx):Option Expr->DS
 | some e=>B1<|r.e c e
 | none=>B8
def xWh(c:Kx)(t:Expr)(a:List Stmt):List Stmt->DS
 | []=>ab5 (r.t c t)<|r.b c a
 | _=>B8
def xFo(c:Kx)(tg it:Expr)(a:List Stmt):List Stmt->DS
 | []=>if pl it then W9 (evI S r c tg it) (r.g c tg) (r.b c a) else B8
 | _=>B8
def xAs(c:Kx)(v:Expr)(p:Pos):List Expr->DS
 | [tg]=>cO7 S r c tg v p
 | _=>B8
def xS0(c:Kx)(st:Stmt):DS:=match st with
 | .Return o _=>cZ8 r c o
 | .If t a b _=>sIf (r.t c t) (r.b c a)<|r.b c b
 | .While t a o _=>xWh r c t a o
 | .For tg it a o _=>xFo S r c tg it a o
 | .Assign ts v p=>xAs S r c v p ts
 | .Expr e _=>xEx r c e
 | .Continue _=>co7
 | .Break _=>λρ=>Z<|.bk ρ
 | .Pass _=>C2
 | _=>B8
def cE2:Stmt->Nat
 | .Return _ p=>p.line
 | .If _ _ _ p=>p.line
 | .While _ _ _ p=>p.line
 | .For _ _ _ _ p=>p.line
 | .Assign _ _ p=>p.line
 | .Expr _ p=>p.line
 | _=>0
def fzW(g:DS):Option (List Nat)->DS
 | none=>g
 | some l=>l.foldl (λg i=>aS1 i g) g
def xS(c:Kx)(st:Stmt):DS:=fzW (xS0 S r c st)<|c.fz.lookup (cE2 st)
def evB(f:Stmt->DS):List Stmt->DS
 | []=>C2
 | [s]=>f s
 | s::t::G9=>A7 (f s)<|evB f (t::G9)
def step:Ev:=⟨xE S r,xQ S r,xN S r,xT S r,xG r,λc=>evB<|xS S r c⟩
end
def ev(S:Sg):Nat->Ev
 | 0=>⟨λ_ _=>dNo,λ_ _=>qNo,λ_ _=>aNo,λ_ _=>tNo,λ_ _=>gNo,λ_ _=>B8⟩
 | n+1=>step S<|ev S n
end G
namespace Sh
open PySem PySem.Spec PyProof.Rows L2 G
def aR1:DS:=(B1<|T7 (ae3 "str"<|A1 0) (T7 (V4 leI leI ⇑1 (bu3<|A1 0) ⇑6)<|aM1 (qN<|D1 1 [] (ck7<|A1 0) (B9 0) F6 (A5 (inS false) (A1 0)<|dC (.str "abcdefghijklmnopqrstuvwxyz")))))
def ay5:List D->Option D:=C4 aR1 1
def bo1:DS:=(B1<|ae3 "bool" (A1 0))
def ap8:List D->Option D:=C4 bo1 1
def aB9:DS:=(B1<|T7 (A3 O6<|A0 (A1 0) A2) (V4 leI leI (ax2 ⇑9) (A1 0) ⇑9))
def u8:List D->Option D:=C4 aB9 1
def aR2:DS:=(A7 (sIf (tB2 isB (A1 0)<|dC .none) (B1<|dC (.bool true)) C2)<|A7 (sIf (P8 (K5<|J5 (ae3 "tuple"<|A1 0))<|tB2 neD (S2<|A8 0) (S2<|qE (dIx (A8 1) ⇑2))) (B1<|dC (.bool false)) C2) (B1<|aM1 (qN<|D1 1 [] (K1<|A1 0) (B9 0) F6 (A3 W0<|A0 (A1 0) A2))))
def ay6:List D->Option D:=C4 aR2 2
def Y9:DS:=(A7 (sIf (P8 (tB2 neD (S2<|A8 0) ⇑9)<|P8 (tB2 (inD true) (A3 O3<|A0 (A1 0) A2)<|dC (.tuple [(.str "over"),(.str "multiply"),(.str "screen"),(.str "plus"),(.str "atop"),(.str "cut")])) (K5<|J5 (A3 ap9<|A0 (A3 R4<|A0 (A1 0) A2) A2))) (B1<|dC (.bool false)) C2)<|B1 (T7 (A3 u8<|A0 (A3 ai5<|A0 (A1 0) A2) A2)<|T7 (A3 u8<|A0 (A3 au9<|A0 (A1 0) A2) A2) (A3 ay6<|A0 (A3 ay2<|A0 (A1 0) A2) (A0 (A3 R4<|A0 (A1 0) A2) A2))))
def N1:List D->Option D:=C4 Y9 1
def E8(self:Nat->List D->Option D):DS:=(A7 (sIf (P8 (tB2 neD (S2<|A8 0) ⇑6)<|P8 (tB2 (inD true) (A3 O3<|A0 (A1 0) A2)<|dC (.tuple [(.str "over"),(.str "multiply"),(.str "screen"),(.str "plus"),(.str "atop"),(.str "cut")])) (tB2 eqD (A1 1) ⇑0)) (B1<|dC (.bool false)) C2)<|B1 (A3 (self 2)<|A0 (A3 E6<|A0 (A1 0) A2) (A0 (A5 aR7 (A1 1) ⇑1) A2)))
def K3(self:Nat->List D->Option D):DS:=(A7 (sIf (P8 (K5<|J5 (ae3 "tuple"<|A1 0))<|tB2 ltI (S2<|A8 0) ⇑5) (B1<|dC (.bool false)) C2)<|A7 (sIf (P8 (K5<|J5 (A3 ay5<|A0 (A3 V9<|A0 (A1 0) A2) A2))<|P8 (K5<|J5 (A3 W0<|A0 (A3 W2<|A0 (A1 0) A2) A2)) (K5<|J5 (A3 ap8<|A0 (A3 ad5<|A0 (A1 0) A2) A2))) (B1<|dC (.bool false)) C2) (A7 (sIf (J5<|A3 R6 (A0 (A1 0) A2)) (B1<|A3 N1 (A0 (A1 0) A2)) C2)<|A7 (sIf (J5<|A3 K4 (A0 (A1 0) A2)) (B1<|A3 (self 0) (A0 (A1 0)<|A0 (A1 1) A2)) C2) (B1<|T7 (A3 aa4<|A0 (A1 0) A2) (T7 (A5 eqD (S2<|A8 0) ⇑5)<|A5 (inD false) (A3 ai4<|A0 (A1 0) A2) (dC<|.tuple [(.str "turn"),(.str "grey"),(.str "round")])))))
def X5(self:Nat->List D->Option D):DS:=(B1<|T7 (ae3 "tuple"<|A1 0) (aM1<|qN (D1 1 [1] (K1<|A1 0) (B9 0) F6<|A3 (self 1) (A0 (A1 0)<|A0 (A1 1) A2))))
def A4:Nat->Nat->List D->Option D
 | 0=>λ_ _=>O
 | k+1=>λi=>match i with
  | 0=>C4 (E8<|A4 k) 2
  | 1=>C4 (K3<|A4 k) 2
  | 2=>C4 (X5<|A4 k) 2
  | _=>λ_=>O
def aj6(k:Nat):List D->Option D:=A4 k 0
def P3(k:Nat):List D->Option D:=A4 k 1
def R7(k:Nat):List D->Option D:=A4 k 2
def am2(self:List D->Option D):DS:=(A7 (ae1 1 A2)<|A7 (W9 (K1<|A1 0) (B9 2)<|A7 (x0 1<|A3 V9 (A0 (A1 2) A2)) (sIf (J5<|A3 K4 (A0 (A1 2) A2)) (aS2 1<|A3 self (A0 (A3 E6<|A0 (A1 2) A2) A2)) C2)) (aS1 1<|B1 (A1 1)))
def G1:Nat->List D->Option D
 | 0=>λ_=>O
 | k+1=>C4 (am2<|G1 k) 3
def T1:DS:=(A7 (B3 1<|A3 (G1 12) (A0 (A1 0) A2))<|B1 (A5 eqD (at3<|A8 1)<|S2 (A8 1)))
def O7:List D->Option D:=C4 T1 2
def ad0:DS:=(B1<|T7 (A3 k9<|A0 (A1 0) A2) (T7 (A3 (R7 12)<|A0 (dIx (A8 0) ⇑2) (A0 ⇑3 A2))<|A3 O7 (A0 (dIx (A8 0) ⇑2) A2)))
def S0:List D->Option D:=C4 ad0 1
def aJ6:DS:=(B1<|A3 (G1 12) (A0 (dIx (A8 0) ⇑2) A2))
def V8:List D->Option D:=C4 aJ6 1
def bf8(self:List D->Option D):DS:=(A7 (ae1 3 A2)<|A7 (W9 (K1<|A1 0) (B9 4)<|sIf (tB2 eqD (dIx (A8 4) ⇑1)<|A1 1) (aS2 3<|A1 2) (sIf (tB2 eqD (dIx (A8 4) ⇑0)<|dC (.str "group")) (x0 3<|A5 B0 (D6 (A1 4) C7<|B6 ⇑5) (B4<|A0 (A3 self<|A0 (dIx (A8 4) ⇑5) (A0 (A1 1)<|A0 (A1 2) A2)) A2))<|x0 3 (A1 4))) (B1<|U7 (A8 3)))
def O0:Nat->List D->Option D
 | 0=>λ_=>O
 | k+1=>C4 (bf8<|O0 k) 5
def au4:DS:=(A7 (B3 2<|A3 L9 (A0 (A1 0)<|A0 (A1 1) A2))<|B1 (dIx (A8 2)<|A3 E5 (A0 (A1 2)<|A0 (A1 1) A2)))
def U3:List D->Option D:=C4 au4 3
end Sh
namespace Sh
open PySem G
def cg1(i j:Int):neD (.int i) (.int j)=Z (.bool (!(i==j))):=rfl
def aV1(i j:Int):eqD (.int i) (.int j)=Z (.bool<|i==j):=rfl
def bt0(h1:t ρ=Z true)(h2:f ρ=Z (.nx ρ')):X1 t f (n+1) ρ=X1 t f n ρ':=by simp only[X1,h1,h2,xbs,if_true]
def bS8:∀(b a:Nat) (x:Option B),∃n x',X1 (tB2 neD (A1 1) ⇑0) (A7 (B3 2<|A5 n5 (A1 0) (A1 1))<|A7 (B3 0<|A1 1) (B3 1<|A1 2)) n [‹.int a›,‹.int b›,x]
  = Z (.nx [‹.int (cn a b)›,‹.int 0›,x']):=by
 intro b
 induction b using Nat.strongRecOn with
 | _ b ih =>
  intro a x;by_cases hb:b=0
  .subst hb;refine⟨1,x,?_⟩;rw[Nat.gcd_zero_right];rfl
  .obtain⟨n,x',h⟩:=ih (a % b) (Nat.mod_lt _<|cK hb) b (‹.int ((a % b:Nat):Int)›);refine⟨n+1,x',?_⟩
   have e1:tB2 neD (A1 1) ⇑0 [‹.int a›,‹.int b›,x]=Z true:=by
    show(neD (.int b)<|.int 0).bind M8=Z true;rw[cg1];have:((b:Int)==0)=false:=by simp;omega
    rw[this];rfl
   have e2:n5 (.int a) (.int b)=Z (.int ((a % b:Nat):Int)):=by
    show(if(0:Int) < (b:Int) then Z (fE<|(a:Int) % (b:Int)) else O)=_;rw[if_pos (by omega)];simp
   have e3:A7 (B3 2<|A5 n5 (A1 0) (A1 1)) (A7 (B3 0<|A1 1)<|B3 1 (A1 2)) [‹.int a›,‹.int b›,x]=Z (.nx [‹.int b›,‹.int ((a % b:Nat):Int)›,‹.int ((a % b:Nat):Int)›]):=by
    show((((n5 (.int a)<|.int b)).map λd=>Fl.nx [‹.int a›,‹.int b›,‹d›]).bind _)=_;rw[e2];rfl
   rw[bt0 e1 e3,h,Nat.gcd_comm b,Nat.gcd_comm a b,← Nat.gcd_rec]
def ct1(a b:Nat):O1 [.int a,.int b]=Z (.int<|cn a b):=by
 obtain⟨n,x',h⟩:=bS8 b a O;show((ab5 _ _ [‹.int a›,‹.int b›,O]).bind _).bind _=_;rw[aN4 h];rfl
def bz3:∀(a b:Nat) (t u:D),∃n,X1 (tB2 gtI (A1 2) ⇑0) (bI4 2 3<|A0 (A5 n5 (A1 3)<|A1 2) (A0 (A1 2) A2)) n [‹t›,‹u›,‹.int a›,‹.int b›]
  = Z (.nx [‹t›,‹u›,‹.int 0›,‹.int (cn a b)›]):=by
 intro a
 induction a using Nat.strongRecOn with
 | _ a ih =>
  intro b t u;by_cases ha:a=0
  .subst ha;refine⟨1,?_⟩;rw[Nat.gcd_zero_left];rfl
  .obtain⟨n,h⟩:=ih (b % a) (Nat.mod_lt _<|cK ha) a t u;refine⟨n+1,?_⟩
   have e1:tB2 gtI (A1 2) ⇑0 [‹t›,‹u›,‹.int a›,‹.int b›]=Z true:=by
    show Z (decide ((0:Int) < (a:Int)))=Z true;rw[decide_eq_true (by omega)]
   have e2:n5 (.int b) (.int a)=Z (.int ((b % a:Nat):Int)):=by
    show(if(0:Int) < (a:Int) then Z (fE<|(b:Int) % (a:Int)) else O)=_;rw[if_pos (by omega)];simp
   have e3:bI4 2 3 (A0 (A5 n5 (A1 3)<|A1 2)<|A0 (A1 2) A2) [‹t›,‹u›,‹.int a›,‹.int b›]=Z (.nx [‹t›,‹u›,‹.int ((b % a:Nat):Int)›,‹.int a›]):=by
    show((n5 (.int b)<|.int a).bind λd=>(Z [fE (a:Int)]).map λds=>d::ds).bind _=_;rw[e2];rfl
   rw[bt0 e1 e3,h,← Nat.gcd_rec]
def fr(r:Rat):D:=.tuple [.int r.num,.int r.den]
def J7(h:i.natAbs < 2 ^ k)(hk:k<=8000):F4 i:=aH h (dj (by decide) hk)
def ba7(a b:Nat)(hb:0 < b):fr (mkRat a b)=.tuple [.int ((a / cn a b:Nat):Int),.int ((b / cn a b:Nat):Int)]:=by
 unfold fr;rw[Rat.num_mkRat,Rat.den_mkRat,if_neg (by omega),if_neg (by omega)];have e:b.gcd (a:Int).natAbs=cn a b:=by rw[cj,Nat.gcd_comm]
 rw[e];simp
def bu1(a b x k:Nat)(hb:0 < b)(hk:b < 2 ^ k)(hk8:k<=8000):ao0 (.int x) (.int<|cn a b)=Z (.int ((x / cn a b:Nat):Int)):=by
 have g0:0 < cn a b:=Nat.gcd_pos_of_pos_right _ hb;have gs:F4 (cn a b:Nat):=J7 (k:=k) (by rw[cj];exact cg (Nat.le_of_dvd hb<|Nat.gcd_dvd_right a b) hk) hk8;show(if(0:Int) < ((cn a b:Nat):Int)/\F4 (cn a b:Nat) then Z (fE<|(x:Int) / ((cn a b:Nat):Int)) else O)=_;rw[if_pos ⟨by omega,gs⟩];simp
def co0(a b k:Nat)(hb:0 < b)(hk:b < 2 ^ k)(hk8:k<=8000):av1 [.int a,.int b]=Z (fr<|mkRat a b):=by
 have d:=λx=>bu1 a b x k hb hk hk8
 have e:Z3 [‹.int a›,‹.int b›,O]=Z (.rt<|fr (mkRat a b)):=by
  rw[ba7 a b hb];simp only[Z3,A7,B3,A3,A0,A2,A1,xg0,xg1,xbs,xms,ct1,xw1,xw0,B1,B4,A5,d]
 show(Z3 [‹.int a›,‹.int b›,O]).bind _=_;rw[e];rfl
def bo6(a b k:Nat)(hb:0 < b)(hk:b < 2 ^ k)(hk8:k<=8000):aa3 [.int a,.int b]=Z (fr<|mkRat a b):=by
 have d:=λx=>bu1 a b x k hb hk hk8
 obtain⟨n,h⟩:=bz3 a b (.int a)<|.int b
 have e:au5 [‹.int a›,‹.int b›,O,O]=Z (.rt<|fr (mkRat a b)):=by
  rw[ba7 a b hb];simp only[au5,A7,B3,A3,A0,A2,A1,xg0,xg1,xbs,xms,xw1,xw0,B1,B4,A5,d,aN4 h]
 show(au5 [‹.int a›,‹.int b›,O,O]).bind _=_;rw[e];rfl
structure Bd (k:Nat) (r:Rat):Prop where
 nn:0<=r
 num:r.num.natAbs < 2 ^ k
 den:r.den < 2 ^ k
def Bd.mono(h:Bd j r)(l:j<=k):Bd k r:=⟨h.nn,aH h.num (dj (by decide) l),aH h.den<|dj (by decide) l⟩
def Bd.nat(h:Bd k r):r.num=(r.num.natAbs:Int):=by
 have:=Rat.num_nonneg.mpr h.nn;omega
def bN3(a b:Nat):0<=mkRat (a:Int) b:=by
 rw[← Rat.num_nonneg,Rat.num_mkRat];split
 .exact Int.le_refl _
 .exact Int.ediv_nonneg (by omega) (by omega)
def Bd.of{a b k:Nat}(hb:0 < b)(h1:a < 2 ^ k)(h2:b < 2 ^ k):Bd k (mkRat a b):=by
 refine⟨bN3 a b,?_,?_⟩
 .rw[Rat.num_mkRat,if_neg (by omega)];rw[show((a:Int) / ((b.gcd (a:Int).natAbs:Nat):Int))=((a / b.gcd (a:Int).natAbs:Nat):Int) by simp,cj];exact cg (dY _ _) h1
 .rw[Rat.den_mkRat,if_neg (by omega)];exact cg (dY _ _) h2
def ac1(h1:a < 2 ^ j)(h2:b < 2 ^ k):a*b < 2 ^ (j+k):=by
 rw[Nat.pow_add];exact Nat.mul_lt_mul'' h1 h2
def aS6(hr:Bd j r)(hs:Bd k s):r*s=mkRat ((r.num.natAbs*s.num.natAbs:Nat):Int) (r.den*s.den):=by rw[Rat.mul_def,Rat.normalize_eq_mkRat,bD,← hr.nat,← hs.nat]
def O4(r:Rat):0 < r.den:=cK r.den_nz
def Bd.mul{j k:Nat}{r s:Rat}(hr:Bd j r)(hs:Bd k s):Bd (j+k) (r*s):=by
 rw[aS6 hr hs];exact Bd.of (cY (O4 r)<|O4 s) (ac1 hr.num hs.num)<|ac1 hr.den hs.den
def Bd.one:Bd 1 1:=⟨by decide,by decide,by decide⟩
def Bd.zero:Bd 1 0:=⟨by decide,by decide,by decide⟩
def Bd.sn(h:Bd k r)(hk:k<=8000):F4 r.num:=J7 h.num hk
def Bd.sd(h:Bd k r)(hk:k<=8000):F4 r.den:=J7 (k:=k) (by rw[cj];exact h.den) hk
def Y7(h1:F4 i)(h2:F4 j):ac2 (.int i) (.int j)=Z (.int<|i*j):=by
 show(if F4 i/\F4 j then Z (fE<|i*j) else O)=_;rw[if_pos ⟨h1,h2⟩]
def cs3(i j:Int):ac6 (.int i) (.int j)=Z (.int<|i+j):=rfl
def bH6(i j:Int):aR7 (.int i) (.int j)=Z (.int<|i - j):=rfl
def cE3(i j:Int):leI (.int i) (.int j)=Z (.bool<|decide (i<=j)):=rfl
def cM2(a b:D):L2.atI [a,b] 0=Z a:=rfl
def cM1(a b:D):L2.atI [a,b] 1=Z b:=rfl
def ix0(h:ρ[i]? = Z (‹fr r›)):dIx (A8 i) ⇑0 ρ=Z (.int r.num):=by simp only[dIx,A8,h,fr,dC,xbs,cM2]
def ix1(h:ρ[i]? = Z (‹fr r›)):dIx (A8 i) ⇑1 ρ=Z (.int r.den):=by simp only[dIx,A8,h,fr,dC,xbs,cM1]
def v0(x:Option B)(l:Rho):(x::l)[0]? = Z x:=rfl
def v1(y x:Option B)(l:Rho):(y::x::l)[1]? = Z x:=rfl
def cN4(hr:Bd j r)(hs:Bd k s)(l:j+k<=8000):cn9 [fr r,fr s]=Z (fr<|r*s):=by
 have e:aE5 [‹fr r›,‹fr s›]=Z (.rt<|fr (r*s)):=by
  simp only[aE5,B1,A3,A0,A2,A5,ix0 (v0 _ _),ix1 (v0 _ _),ix0 (v1 _ _ _),ix1 (v1 _ _ _),xbs,xms,Y7 (hr.sn<|by omega) (hs.sn<|by omega),Y7 (hr.sd<|by omega) (hs.sd<|by omega)];have:=co0 (r.num.natAbs*s.num.natAbs) (r.den*s.den) (j+k) (cY (O4 r)<|O4 s) (ac1 hr.den hs.den) l;rw[← aS6 hr hs,bD,bD,← hr.nat,← hs.nat]at this;rw[this];rfl
 show(aE5 [‹fr r›,‹fr s›]).bind _=_;rw[e];rfl
def ah5(hr:Bd j r)(hs:Bd k s)(l:j+k<=8000):ad6 [fr r,fr s]=Z (.bool<|decide (r<=s)):=by
 have e:Z4 [‹fr r›,‹fr s›]=Z (.rt<|.bool (decide (r<=s))):=by
  simp only[Z4,B1,A3,A0,A2,A5,ix0 (v0 _ _),ix1 (v0 _ _),ix0 (v1 _ _ _),ix1 (v1 _ _ _),xbs,xms,Y7 (hr.sn<|by omega) (hs.sd<|by omega),Y7 (hs.sn<|by omega) (hr.sd<|by omega),cE3];simp only[← Rat.le_iff]
 show(Z4 [‹fr r›,‹fr s›]).bind _=_;rw[e];rfl
end Sh
set_option exponentiation.threshold 9000
namespace Sh
open PySem G L2
def cU4(i j:Int):ltI (.int i) (.int j)=Z (.bool<|decide (i < j)):=rfl
def cW6(i j:Int):gtI (.int i) (.int j)=Z (.bool<|decide (j < i)):=rfl
def cc1{α:Type}(x:α):ax 0 x=[]:=rfl
def cc0{α:Type}(x:α):ax 1 x=[x]:=rfl
def cb9{α:Type}(x:α):ax 2 x=[x,x]:=rfl
def bu5(a b c d:D):R1 [a,b,c,d] (Z 1) O=[b,c,d]:=rfl
def cZ0(a b c d:D):L2.atI [a,b,c,d] 0=Z a:=rfl
def cY9(a b c d:D):L2.atI [a,b,c,d] 1=Z b:=rfl
def cY8(a b c d:D):L2.atI [a,b,c,d] 2=Z c:=rfl
def cY7(a b c d:D):L2.atI [a,b,c,d] 3=Z d:=rfl
def cM0(a b c:D):L2.atI [a,b,c] 0=Z a:=rfl
def cL9(a b c:D):L2.atI [a,b,c] 1=Z b:=rfl
def cL8(a b c:D):L2.atI [a,b,c] 2=Z c:=rfl
def w9{n k:Nat}(h:n < 2 ^ k)(hk:k<=8000):F4 (n:Int):=J7 (k:=k) (by rw[cj];exact h) hk
def aO0(h:0 < j):n5 (.int i) (.int j)=Z (.int<|i % j):=by
 show(if(0:Int) < j then Z (fE<|i % j) else O)=_;rw[if_pos h]
def bc6(h:0 < j)(s:F4 j):ao0 (.int i) (.int j)=Z (.int<|i / j):=by
 show(if(0:Int) < j/\F4 j then Z (fE<|i / j) else O)=_;rw[if_pos ⟨h,s⟩]
def B2(h:Z9 n ds=ρ)(e:g ρ=Z (.rt d)):C4 g n ds=Z d:=by
 unfold C4;rw[h,e];rfl
def rX1{g:DS}{a z:D}(e:g [‹a›]=Z (.rt z)):C4 g 1 [a]=Z z:=B2 rfl e
def rX2{g:DS}{a b z:D}(e:g [‹a›,‹b›]=Z (.rt z)):C4 g 2 [a,b]=Z z:=B2 rfl e
def ap4(hr:Bd j r)(hs:Bd k s)(l:j+k<=8000):ay3 [fr r,fr s]=Z (fr<|r*s):=by
 refine rX2 ?_;simp only[aQ5,B1,A3,A0,A2,A5,ix0 (v0 _ _),ix1 (v0 _ _),ix0 (v1 _ _ _),ix1 (v1 _ _ _),xbs,xms,Y7 (hr.sn<|by grind) (hs.sn<|by grind),Y7 (hr.sd<|by grind) (hs.sd<|by grind)];have:=bo6 (r.num.natAbs*s.num.natAbs) (r.den*s.den) (j+k) (cY (O4 r)<|O4 s) (ac1 hr.den hs.den) l;rw[← aS6 hr hs,bD,bD,← hr.nat,← hs.nat]at this;rw[this];rfl
def aP7(ns:List Int)(k:Nat):Int:=if ns.length=0 then 7*(k:Int) else ns.getD (k % ns.length) 0+6553*((k / ns.length:Nat):Int)
def bT8(ns:List Int):eqD (.list<|ns.map fE) (.list [])=Z (.bool<|decide (ns.length=0)):=by
 have h1:fC (.list<|ns.map fE)=true:=by
  have c:∀l:List Int,PyData.canLayAll0 (l.map fE)=true:=λl=>by
   induction l with
   | nil=>rfl
   | cons a r ih=>simp only[xmc,PyData.canLayAll0,fH,ih];rfl
  have d:∀l:List Int,PyData.depthAll (l.map fE)=0:=λl=>by
   induction l with
   | nil=>rfl
   | cons a r ih=>simp only[xmc,PyData.depthAll,PyData.depth,ih];rfl
  unfold fC;simp only[fH,c,PyData.depth,d];rfl
 unfold eqD;rw[if_pos ⟨h1,rfl⟩];cases ns with
 | nil=>rfl
 | cons a r=>simp[fD,PyData.eqvAll]
end Sh
local macro_rules
  | `(tactic| exists evP, $ts,*) => `(tactic| simp only [G.A7, G.B3, G.B1, G.sIf, G.C2, G.aq4, G.aq5, G.A1, G.dC, G.B4, G.L6, G.A5, G.A3, G.T7, G.dOr, G.be2, G.V4, G.U7, G.aM1, G.be3, G.ae3, G.C7, G.B6, G.aI0, G.A2, G.A0, G.J5, G.tB2, G.Z8, G.P8, G.K5, G.bH3, G.M8, G.F6, G.B9, G.S7, G.D0, G.T4, G.K1, G.bj8, G.xg0, G.xg1, G.xw0, G.xw1, G.xbs, G.xms, G.xmc, G.xmn, G.xna, G.xca, Sh.cs3, Sh.bH6, Sh.cE3, Sh.cg1, Sh.aV1, Sh.cU4, Sh.cW6, Sh.cZ0, Sh.cY9, Sh.cY8, Sh.cY7, Sh.cM0, Sh.cL9, Sh.cL8, Sh.cM2, Sh.cM1, G.xnt, G.xnf, G.xft, if_true, if_false, $[$ts:term],*])
local macro_rules
  | `(tactic| exists evB) => `(tactic| exists evP, G.dIx, G.S2, G.A8, G.qE, G.qN, G.av4)
  | `(tactic| exists evB, $ts,*) => `(tactic| exists evP, G.dIx, G.S2, G.A8, G.qE, G.qN, G.av4, $ts,*)
local macro_rules
  | `(tactic| exists evA) => `(tactic| exists evB, G.bD5, G.be1, G.D1, G.U8, G.ag9, G.M9, G.ck6, Sh.cc1, Sh.cc0, Sh.cb9, Sh.bu5, ite_true, ite_false)
  | `(tactic| exists evA, $ts,*) => `(tactic| exists evB, G.bD5, G.be1, G.D1, G.U8, G.ag9, G.M9, G.ck6, Sh.cc1, Sh.cc0, Sh.cb9, Sh.bu5, ite_true, ite_false, $ts,*)
local macro_rules
  | `(tactic| exists evD) => `(tactic| exists evB, G.ac5, G.bh1)
  | `(tactic| exists evD, $ts,*) => `(tactic| exists evB, G.ac5, G.bh1, $ts,*)
local macro_rules
  | `(tactic| exists evC) => `(tactic| exists evD, G.bD5, G.be1, G.D1, G.U8, G.ag9, G.M9, G.ck6, Sh.cc1, Sh.cc0, Sh.cb9, Sh.bu5, ite_true, ite_false)
  | `(tactic| exists evC, $ts,*) => `(tactic| exists evD, G.bD5, G.be1, G.D1, G.U8, G.ag9, G.M9, G.ck6, Sh.cc1, Sh.cc0, Sh.cb9, Sh.bu5, ite_true, ite_false, $ts,*)
local macro_rules
  | `(tactic| exists evQ) => `(tactic| exists evP, G.ac5, G.bh1)
  | `(tactic| exists evQ, $ts,*) => `(tactic| exists evP, G.ac5, G.bh1, $ts,*)
namespace Sh
open PySem G L2
def cN6(ns:List Int)(k:Nat)(hn:ns.length<=63)(hk:k < 2 ^ 60):aK8 [.list (ns.map fE),.int k]=Z (.int<|aP7 ns k):=by
 refine rX2 ?_;have sk:F4 (k:Int):=w9 hk (by decide);by_cases h:ns.length=0
 .have e:aP7 ns k=7*(k:Int):=by unfold aP7;rw[if_pos h]
  exists evA,aK2,bT8,h,decide_true,Y7 (i:=7) (J7 (k:=3) (by decide)<|by decide) sk,e
 .have e:aP7 ns k=ns.getD (k % ns.length) 0+6553*((k / ns.length:Nat):Int):=by unfold aP7;rw[if_neg h]
  have hl:(List.map fE ns).length=ns.length:=ag ..;have hp:0 < ns.length:=cK h;have m1:n5 (.int k) (.int ns.length)=Z (.int ((k % ns.length:Nat):Int)):=by rw[aO0 (by grind)];simp
  have m2:ao0 (.int k) (.int ns.length)=Z (.int ((k / ns.length:Nat):Int)):=by rw[bc6 (by grind) (w9 (k:=6) (by grind)<|by decide)];simp
  have m3:L2.atI (List.map fE ns) ((k % ns.length:Nat):Int)=Z (.int<|ns.getD (k % ns.length) 0):=by
   refine L2.Q1 ?_;have hlt:k % ns.length < ns.length:=Nat.mod_lt _ hp;rw[aF,am hlt];simp[List.getD,hlt]
  have sq:F4 ((k / ns.length:Nat):Int):=w9 (k:=60) (cg (dY _ _) hk) (by decide)
  exists evA,aK2,bT8,h,decide_false,hl,m1,m2,m3,Y7 (i:=6553) (J7 (k:=13) (by decide)<|by decide) sq,e
def as9(ns:List Int)(k:Nat)(m:Int):Int :=
 let c:=(aP7 ns k % 2147483563*69069+104723*((k:Int)+1)) % 2147483563
 let c:=(c*c+c / 3) % 2147483399
 (c*c+c / 7) % 2147483647 / 11 % m
def aF7(h0:0<=i)(h:i < 4294967296):F4 i:=J7 (k:=32) (by omega) (by decide)
def aE7(ns:List Int)(k:Nat)(m:Int)(hn:ns.length<=63)(hk:k < 2 ^ 60)(hm:0 < m):A9 [.list (ns.map fE),.int k,.int m]=Z (.int<|as9 ns k m):=by
 refine B2 (ρ:=[‹.list (ns.map fE)›,‹.int k›,‹.int m›,O]) rfl ?_;have c0:∀x:Int,F4 (x % 2147483563):=λx=>aF7 (by grind) (by grind)
 have c1:∀x:Int,F4 (x % 2147483399):=λx=>aF7 (by grind) (by grind)
 have sk:F4 ((k:Int)+1):=J7 (k:=61) (by grind) (by decide);have s1:F4 69069:=J7 (k:=17) (by decide) (by decide);have s2:F4 104723:=J7 (k:=17) (by decide) (by decide);have s3:F4 3:=J7 (k:=2) (by decide) (by decide);have s7:F4 7:=J7 (k:=3) (by decide) (by decide);have s11:F4 11:=J7 (k:=4) (by decide) (by decide)
 exists evA,aQ9,cN6 ns k hn hk,aO0 (show(0:Int) < 2147483563 by decide),aO0 (show(0:Int) < 2147483399 by decide),aO0 (show(0:Int) < 2147483647 by decide),aO0 hm,Y7 (c0 _) s1,Y7 s2 sk,Y7 (c0 _) (c0 _),Y7 (c1 _) (c1 _),bc6 (show(0:Int) < 3 by decide) s3,bc6 (show(0:Int) < 7 by decide) s7,bc6 (show(0:Int) < 11 by decide) s11
 rfl
def aE0(ns:List Int)(k:Nat)(m:Int)(hm:0 < m):0<=as9 ns k m/\as9 ns k m < m:=by
 unfold as9;exact⟨Int.emod_nonneg _ (by omega),Int.emod_lt_of_pos _ hm⟩
structure IsSh (k:Nat) (r:Rat):Prop where
 bd:Bd k r
 le:r<=1
def bz6{a b:Nat}(hb:0 < b)(h:a<=b):mkRat (a:Int) b<=1:=by
 rw[Rat.le_iff,Rat.num_mkRat,Rat.den_mkRat,if_neg (by omega),if_neg (by omega)];have e0:(1:Rat).num=1:=rfl;have e1:(1:Rat).den=1:=rfl;rw[e0,e1];have:a / b.gcd a<=b / b.gcd a:=Nat.div_le_div_right h;simp
 exact_mod_cast this
def ai3(ns:List Int)(at':Nat)(hn:ns.length<=63)(hk:at' < 2 ^ 40):∃r,L5 [.list (ns.map fE),.int at']=Z (fr r)/\IsSh 4 r:=by
 obtain⟨u0,u1⟩:=aE0 ns at' 12 (by decide);obtain⟨u,hu⟩:∃u:Nat,(1:Int)+as9 ns at' 12=u/\0 < u/\u<=12:=⟨(1+as9 ns at' 12).toNat,by grind,by grind,by grind⟩;obtain⟨t0,t1⟩:=aE0 ns (at'+1) ((u:Int)+1) (by grind);obtain⟨t,ht⟩:∃t:Nat,as9 ns (at'+1) ((u:Int)+1)=t/\t<=u:=⟨(as9 ns (at'+1)<|(u:Int)+1).toNat,by grind,by grind⟩;obtain⟨p0,p1⟩:=aE0 ns (at'+2) 5 (by decide);have hs:IsSh 4 (mkRat (t:Int) u):=⟨Bd.of (by grind) (by grind) (by grind),bz6 (by grind)<|by grind⟩;have e1:=aE7 ns at' 12 hn (by grind) (by decide);have e2:=aE7 ns (at'+1) ((u:Int)+1) hn (by grind) (by grind);have e3:=aE7 ns (at'+2) 5 hn (by grind) (by decide);have e4:=bo6 t u 4 (by grind) (by grind) (by decide);have c1:((at':Int)+1)=((at'+1:Nat):Int):=by grind
 have c2:((at':Int)+2)=((at'+2:Nat):Int):=by grind
 rw[ht.1]at e2
 have pick:∀(j:Int),0<=j->j < 5->∃r,L2.atI [fr (mkRat (t:Int) u),fr (mkRat (t:Int) u),fr (mkRat (t:Int) u),.tuple [.int 0,.int 1],.tuple [.int 1,.int 1]] j=Z (fr r)/\IsSh 4 r:=λj h0 h5=>by
  have:j=0\/j=1\/j=2\/j=3\/j=4:=by grind
  rcases this with rfl|rfl|rfl|rfl|rfl
  .exact⟨_,rfl,hs⟩
  .exact⟨_,rfl,hs⟩
  .exact⟨_,rfl,hs⟩
  .exact⟨0,rfl,Bd.zero.mono (by decide),by decide⟩
  .exact⟨1,rfl,Bd.one.mono (by decide),by decide⟩
 obtain⟨r,hr1,hr2⟩:=pick _ p0 p1;refine⟨r,B2 (ρ:=[‹.list (ns.map fE)›,‹.int at'›,O,O]) rfl ?_,hr2⟩
 exists evA,aQ6,e1,hu.1,c1,c2,e2,e3,e4,hr1
def sp(c x y z:Rat):D:=.tuple [fr c,fr x,fr y,fr z]
structure Spot (k:Nat) (c x y z:Rat):Prop where
 hc:IsSh k c
 hx:Bd k x
 hy:Bd k y
 hz:Bd k z
 xc:x<=c
 yc:y<=c
 zc:z<=c
theorem IsSh.mono(h:IsSh j r)(l:j<=k):IsSh k r:=⟨h.bd.mono l,h.le⟩
theorem Spot.mono(h:Spot j c x y z)(l:j<=k):Spot k c x y z:=⟨h.hc.mono l,h.hx.mono l,h.hy.mono l,h.hz.mono l,h.xc,h.yc,h.zc⟩
def ag1{c r:Rat}(hc:0<=c)(hr:r<=1):c*r<=c:=by
 have:=Rat.mul_le_mul_of_nonneg_right hr hc
 grind
def db3:ab6 0 3=[.int 0,.int 1,.int 2]:=rfl
def cN5(ns:List Int)(k:Nat)(hn:ns.length<=63)(hk:k < 2 ^ 30):∃c x y z,X7 [.list (ns.map fE),.int k]=Z (sp c x y z)/\Spot 8 c x y z:=by
 obtain⟨c,ec,hc⟩:=ai3 ns k hn (by grind);obtain⟨a0,e0,h0⟩:=ai3 ns (k+3) hn (by grind);obtain⟨a1,e1,h1⟩:=ai3 ns (k+6) hn (by grind);obtain⟨a2,e2,h2⟩:=ai3 ns (k+9) hn (by grind);refine⟨c,c*a0,c*a1,c*a2,?_,⟨hc.mono (by decide),hc.bd.mul h0.bd,hc.bd.mul h1.bd,hc.bd.mul h2.bd,ag1 hc.bd.nn h0.le,ag1 hc.bd.nn h1.le,ag1 hc.bd.nn h2.le⟩⟩;refine B2 (ρ:=[‹.list (ns.map fE)›,‹.int k›,O]) rfl ?_;have i0:(k:Int)+3+3*0=((k+3:Nat):Int):=by grind
 have i1:(k:Int)+3+3*1=((k+6:Nat):Int):=by grind
 have i2:(k:Int)+3+3*2=((k+9:Nat):Int):=by grind
 have s0:F4 0:=J7 (k:=2) (by decide) (by decide);have s1:F4 1:=J7 (k:=2) (by decide) (by decide);have s2:F4 2:=J7 (k:=2) (by decide) (by decide);have s3:F4 3:=J7 (k:=2) (by decide) (by decide);have m0:=Y7 s3 s0;have m1:=Y7 s3 s1;have m2:=Y7 s3 s2;have r3:((-(2 ^ 62):Int)<=3/\(3:Int) < 2 ^ 62):=by decide
 have l3:([fE 0,.int 1,.int 2]:List D).length<=16777216:=by decide
 have ct:∀a b c d:D,ac6 (.tuple [a]) (.tuple [b,c,d])=Z (.tuple [a,b,c,d]):=λa b c d=>rfl
 exists evA,bf9,ec,r3,and_self,db3,l3,m0,m1,m2,i0,i1,i2,e0,e1,e2,ap4 hc.bd h0.bd (by decide),ap4 hc.bd h1.bd (by decide),ap4 hc.bd h2.bd (by decide),ct,sp
def ck1(i:Int):ad4 [.int i]=Z (.bool true):=rfl
def bR3(i:Int):O6 [.int i]=Z (.bool true):=rfl
def aO9(r:Rat):fC (fr r)=true:=rfl
def bT9(r s:Rat):eqD (fr r) (fr s)=Z (.bool<|decide (r=s)):=by
 unfold eqD;rw[if_pos ⟨aO9 r,aO9 s⟩]
 congr 2
 show((r.num==s.num)&&(((r.den:Int)==(s.den:Int))&&true))=_;rw[bX];simp only[Bool.and_true,af,beq_iff_eq,decide_eq_true_eq];constructor
 .intro h;exact Rat.ext h.1 (by exact_mod_cast h.2)
 .intro h;subst h;exact⟨rfl,rfl⟩
def ba6(h:Bd k r):mkRat ((r.num.natAbs:Nat):Int) r.den=r:=by rw[← h.nat];exact Rat.mkRat_self r
def aG8(h:IsSh k r):r.num<=r.den:=by
 have:=(Rat.le_iff r 1).mp h.le;have e0:(1:Rat).num=1:=rfl;have e1:(1:Rat).den=1:=rfl;rw[e0,e1]at this;omega
def cU6(a b:D):((([a,b]:List D).length:Nat):Int)=2:=rfl
def dc7(a b c d:D):((([a,b,c,d]:List D).length:Nat):Int)=4:=rfl
def bb2:((2:Int)==2)=true:=rfl
def bb4:((4:Int)==4)=true:=rfl
def cN0(h:IsSh k r)(hk:k<=8000):aX5 [fr r]=Z (.bool true):=by
 have n0:=Rat.num_nonneg.mpr h.bd.nn;have nd:=aG8 h;have d0:(0:Int) < r.den:=by have:=O4 r;omega
 have e:=bo6 r.num.natAbs r.den k (O4 r) h.bd.den hk;rw[ba6 h.bd,← h.bd.nat]at e;have e2:=bT9 r r;refine rX1 ?_;have e':aa3 [fE r.num,fE r.den]=Z (.tuple [.int r.num,.int r.den]):=e
 have e2':eqD (.tuple [.int r.num,.int r.den]) (.tuple [.int r.num,.int r.den])=Z (.bool true):=by
  have:=e2;simp only[decide_true]at this;exact this
 exists evA,au6,fr,cU6,bb2,ck1,d0,decide_true,n0,nd,e',e2'
def V6(h:IsSh k r)(hk:k<=8000):W0 [fr r]=Z (.bool true):=by
 have n0:=Rat.num_nonneg.mpr h.bd.nn;have nd:=aG8 h;have d0:(0:Int) < r.den:=by have:=O4 r;omega
 have e:=ct1 r.num.natAbs r.den;rw[← h.bd.nat,show cn r.num.natAbs r.den=1 from r.reduced]at e;have e':O1 [fE r.num,fE r.den]=Z (.int 1):=e;have b1:((1:Int)==1)=true:=rfl;refine B2 (ρ:=[‹fr r›,O,O]) rfl ?_
 exists evA,aK4,fr,cU6,bb2,bR3,d0,decide_true,n0,nd,e',b1
def cZ2:aW8 [.bool true,.bool true,.bool true]=Z true:=rfl
def cZ1:aW8 [.bool true,.bool true,.bool true,.bool true]=Z true:=rfl
def bF0(S:Spot k c x y z)(hk:k+k<=8000):ai9 [sp c x y z]=Z (.bool true):=by
 have hk1:k<=8000:=by grind
 have lx:IsSh k x:=⟨S.hx,Rat.le_trans S.xc S.hc.le⟩;have ly:IsSh k y:=⟨S.hy,Rat.le_trans S.yc S.hc.le⟩;have lz:IsSh k z:=⟨S.hz,Rat.le_trans S.zc S.hc.le⟩;refine rX1 ?_;have f4:([fr c,fr x,fr y,fr z]:List D).length<=16777216:=by show 4<=16777216;decide
 have f3:([fr x,fr y,fr z]:List D).length<=16777216:=by show 3<=16777216;decide
 exists evA,aR0,sp,dc7,bb4,f4,f3,V6 S.hc hk1,V6 lx hk1,V6 ly hk1,V6 lz hk1,cZ2,cZ1,ah5 S.hx S.hc.bd hk,ah5 S.hy S.hc.bd hk,ah5 S.hz S.hc.bd hk,S.xc,S.yc,S.zc,decide_true
def Q0(hx:fH (.str x)=true)(hy:fH (.str y)=true)(e:(x==y)=b):eqD (.str x) (.str y)=Z (.bool b):=by
 unfold eqD;have s:∀z:Str,fH (.str z)=true->fC (.str z)=true:=λz h=>by unfold fC;rw[h];rfl
 rw[if_pos ⟨s x hx,s y hy⟩];show Z (fF<|x==y)=_;rw[e]
def cg3(hx:fH (.str x)=true)(hy:fH (.str y)=true)(e:(!(x==y))=b):neD (.str x) (.str y)=Z (.bool b):=by
 unfold neD;have s:∀z:Str,fH (.str z)=true->fC (.str z)=true:=λz h=>by unfold fC;rw[h];rfl
 rw[if_pos ⟨s x hx,s y hy⟩];show Z (fF (!(x==y)))=_;rw[e]
inductive Man where
 | over|mult|screen|plus|atop|cut
def Man.s:Man->Str
 | .over => "over"
 | .mult => "multiply"
 | .screen => "screen"
 | .plus => "plus"
 | .atop => "atop"
 | .cut => "cut"
inductive Rul where
 | turn|grey|round
def Rul.s:Rul->Str
 | .turn => "turn"
 | .grey => "grey"
 | .round => "round"
def j7:Rat:=mkRat 1 2
def bt6:fr j7=.tuple [.int 1,.int 2]:=by
 show PyData.tuple [.int (mkRat 1 2).num,.int (mkRat 1 2).den]=_;rw[show(mkRat 1 2).num=1 by decide +kernel,show(mkRat 1 2).den=2 by decide +kernel];rfl
def ck9:IsSh 2 j7:=⟨⟨by decide +kernel,by decide +kernel,by decide +kernel⟩,by decide +kernel⟩
def cat_tup(h:xs.length+ys.length<=16777216):ac6 (.tuple xs) (.tuple ys)=Z (.tuple<|xs++ys):=if_pos h
def z3(a b c d e f:D):(List.zip [a,b,c] [d,e,f]).map (λ(x,y)=>PyData.tuple [x,y])=[.tuple [a,d],.tuple [b,e],.tuple [c,f]]:=rfl
structure Q4 where
 c:Rat
 x:Rat
 y:Rat
 z:Rat
def Q4.d(q:Q4):D:=sp q.c q.x q.y q.z
def Q4.ok(k:Nat)(q:Q4):Prop:=Spot k q.c q.x q.y q.z
def q0:Q4:=⟨0,0,0,0⟩
theorem Q4.ok.mono{j k:Nat}{q:Q4}(h:q.ok j)(l:j<=k):q.ok k:=Spot.mono h l
def Ly(n:Nat)(d:D):Prop:=fH d=true/\PyData.depth d<=n
theorem aJ2:∀xs:List D,(∀x∈xs,Ly n x)->PyData.canLayAll0 xs=true/\PyData.depthAll xs<=n
 | [],_=>⟨rfl,aQ _⟩
 | x::xs,g=>by
  have a:=g x (ah ..);have b:=aJ2 xs λy hy=>g y<|xmm _ hy
  refine⟨?_,?_⟩
  .show(fH x&&PyData.canLayAll0 xs)=true;rw[a.1,b.1];rfl
  .show max (PyData.depth x) (PyData.depthAll xs)<=n;have:=a.2;have:=b.2;grind
def Ly.tup{n:Nat}{xs:List D}(h:∀x∈xs,Ly n x):Ly (n+1) (.tuple xs):=⟨(aJ2 xs h).1,Nat.succ_le_succ (aJ2 xs h).2⟩
def Ly.lst{n:Nat}{xs:List D}(h:∀x∈xs,Ly n x):Ly (n+1) (.list xs):=⟨(aJ2 xs h).1,Nat.succ_le_succ (aJ2 xs h).2⟩
theorem Ly.int(n:Nat)(i:Int):Ly n (.int i):=⟨rfl,aQ _⟩
def Ly.mono(h:Ly m d)(l:m<=n):Ly n d:=⟨h.1,aO h.2 l⟩
def Ly.shaped(g:Ly n d)(hn:n<=64):fC d=true:=by
 unfold fC;rw[g.1,Bool.true_and];exact decide_eq_true (by have:=g.2;grind)
def Ly.q4(q:Q4)(n:Nat):Ly (n+2) q.d:=⟨rfl,by show 2<=n+2;grind⟩
def Ly.spots(l:List Q4)(n:Nat):Ly (n+3) (.tuple<|l.map Q4.d):=Ly.tup λx hx=>by
 obtain⟨q,_,rfl⟩:=aP.mp hx;exact Ly.q4 q n
def aD6(g:Ly n d)(hn:n<=64):neD d d=Z (.bool false):=by
 unfold neD;rw[if_pos ⟨g.shaped hn,g.shaped hn⟩,SeqAt.eqv_refl d g.1];rfl
def shD(w h:Nat)(l:List Q4):D:=.tuple [.int w,.int h,.tuple (l.map Q4.d)]
def Ly.sheet(w h:Nat)(l:List Q4):Ly 4 (shD w h l):=Ly.tup λx hx=>by
 simp only[ao,aB,or_false]at hx;rcases hx with rfl|rfl|rfl
 .exact Ly.int _ _
 .exact Ly.int _ _
 .exact Ly.spots l 0
def atQ(w h:Nat)(l:List Q4)(x y:Int):Q4:=if 0<=x/\x < w/\0<=y/\y < h then l.getD (y*w+x).toNat q0 else q0
structure ShOk (k:Nat) (w h:Nat) (l:List Q4):Prop where
 w1:1<=w
 w8:w<=8
 h1:1<=h
 h8:h<=8
 len:l.length=w*h
 ok:∀q∈l,q.ok k
theorem cs0{α:Type}{e:DE}{r:Rho}{h f:α->D}:∀(l:List α) (x:Option B),(∀a∈l,e (‹h a›::r)=Z (f a))->U8 (B9 0) F6 e (l.map h) (x::r)=Z (l.map f)
 | [],_,_=>rfl
 | a::l,x,H=>by simp only[xmc,U8,B9,xw0,xbs,F6,if_true,H a (ah ..),cs0 l _ (λb hb=>H b<|xmm _ hb),xms]
theorem cr9{α:Type}{e:DE}{r:Rho}{h1 h2 f:α->D}:∀(l:List α) (x y:Option B),(∀a∈l,e (‹h1 a›::‹h2 a›::r)=Z (f a))->U8 (S7 2<|D0 (B9 0) (D0 (B9 1) T4)) F6 e (l.map λa=>.tuple [h1 a,h2 a]) (x::y::r)=Z (l.map f)
 | [],_,_,_=>rfl
 | a::l,x,y,H=>by
  have hl:([h1 a,h2 a]:List D).length=2:=rfl;simp only[xmc,U8,S7,D0,T4,B9,hl,if_true,xw0,xw1,xbs,F6,if_true,H a (ah ..),cr9 l _ _ (λb hb=>H b<|xmm _ hb),xms]
theorem bX0{α:Type}{c:Rho->Option Bool}{e:DE}{r:Rho}{h f:α->D}{p:α->Bool}:∀(l:List α) (x:Option B),(∀a∈l,c (‹h a›::r)=Z (p a))->(∀a∈l,e (‹h a›::r)=Z (f a))->U8 (B9 0) c e (l.map h) (x::r)=Z ((l.filter p).map f)
 | [],_,_,_=>rfl
 | a::l,x,C,H=>by
  have ih:=bX0 l (‹h a›) (λb hb=>C b<|xmm _ hb) (λb hb=>H b<|xmm _ hb);cases q:p a with
  | true =>simp only[xmc,U8,B9,xw0,xbs,C a (ah ..),q,if_true,H a (ah ..),ih,xms,dN q]
  | false =>
   have q':¬p a=true:=by rw[q];exact aE
   simp only[xmc,U8,B9,xw0,xbs,C a (ah ..),q,xft,if_false,ih,dO q']
def V2{α:Type}{caps:List Nat}{src:Rho->Option (List D)}{e:DE}{ρ r:Rho}{l:List α}{h f:α->D}(hr:ag9 1 caps ρ=O::r)(hs:src ρ=Z (l.map h))(hl:l.length<=1000)(H:∀a∈l,e (‹h a›::r)=Z (f a)):
  D1 1 caps src (B9 0) F6 e ρ=Z (l.map f):=by
 unfold D1;rw[hs,xbs,if_pos (by rw[ag];grind),hr,cs0 l _ H]
def dc4{α:Type}{caps:List Nat}{src:Rho->Option (List D)}{e:DE}{ρ r:Rho}{l:List α}{h1 h2 f:α->D}(hr:ag9 2 caps ρ=O::O::r)(hs:src ρ=Z (l.map λa=>.tuple [h1 a,h2 a]))(hl:l.length<=1000)(H:∀a∈l,e (‹h1 a›::‹h2 a›::r)=Z (f a)):
  D1 2 caps src (S7 2<|D0 (B9 0) (D0 (B9 1) T4)) F6 e ρ=Z (l.map f):=by
 unfold D1;rw[hs,xbs,if_pos (by rw[ag];omega),hr,cr9 l _ _ H]
def cg4{α:Type}{caps:List Nat}{src:Rho->Option (List D)}{c:Rho->Option Bool}{e:DE}{ρ r:Rho}{l:List α}{h f:α->D}{p:α->Bool}(hr:ag9 1 caps ρ=O::r)(hs:src ρ=Z (l.map h))(hl:l.length<=1000)(C:∀a∈l,c (‹h a›::r)=Z (p a))(H:∀a∈l,e (‹h a›::r)=Z (f a)):
  D1 1 caps src (B9 0) c e ρ=Z ((l.filter p).map f):=by
 unfold D1;rw[hs,xbs,if_pos (by rw[ag];omega),hr,bX0 l _ C H]
def ab7(h:f ρ=Z (.int n))(hn:n<=1000):M9 f ρ=Z ((ay n).map λk:Nat=>fE k):=by
 unfold M9;rw[h,xbs];show(if -(2 ^ 62)<=(n:Int)/\(n:Int) < 2 ^ 62 then Z (ab6 0 n) else O)=_;rw[if_pos ⟨by grind,by grind⟩];unfold ab6
 congr 1
 have e:((n:Int) - 0).toNat=n:=by grind
 rw[e];apply List.map_congr_left;intro k _
 congr 1
 grind
def bM7(h1:F4 i)(h2:F4 j):E9 (.int i) (.int j)=Z (.int<|i*j):=Y7 h1 h2
def N4{i j:Nat}(h1:i<=1000)(h2:j<=1000):E9 (.int i) (.int j)=Z (.int ((i*j:Nat):Int)):=by rw[bM7 (w9 (k:=10) (by grind)<|by decide) (w9 (k:=10) (by grind)<|by decide),bD]
def sm8(h0:0<=i)(h:i<=1000):F4 i:=aF7 h0 (by omega)
def plc(w n:Nat):List (Int×Int):=(ay n).map λk=>(((k % w:Nat):Int),((k / w:Nat):Int))
def cN8{w h:Nat}(w1:1<=w)(w8:w<=8)(h8:h<=8):bg0 [.int w,.int h]=Z (.list<|(plc w<|w*h).map λp=>.tuple [.int p.1,.int p.2]):=by
 refine rX2 ?_;have hm:(A5 E9 (A1 0)<|A1 1) [‹.int w›,‹.int h›]=Z (.int ((w*h:Nat):Int)):=N4 (by grind) (by grind);have wh:w*h<=64:=bQ w8 h8;unfold aB7 B1 L6;rw[V2 (l:=ay<|w*h) (h:=λk:Nat=>fE k) (f:=λk=>.tuple [.int ((k % w:Nat):Int),.int ((k / w:Nat):Int)]) (r:=[‹.int w›]) rfl (ab7 hm<|by grind) (by rw[aU];grind) ?_]
 .unfold plc;rw[bH];rfl
 .intro k _;have wp:(0:Int) < (w:Int):=by grind
  simp only[B4,A0,A2,A5,A1,xg0,xg1,xbs,xms,aO0 wp,bc6 wp (sm8 (by grind)<|by grind)];rfl
def as0(w h:Int)(s:D)(x y:Int):X8 [.tuple [.int w,.int h,s],.int x,.int y]=Z (.bool<|decide (0<=x/\x < w/\0<=y/\y < h)):=by
 refine B2 (ρ:=[‹.tuple [.int w,.int h,s]›,‹.int x›,‹.int y›]) rfl ?_;by_cases a:0<=x<;>by_cases b:x < w<;>by_cases c:0<=y<;>by_cases e:y < h<;>simp[aC0,A7,B3,B1,sIf,C2,aq4,aq5,A1,dC,B4,L6,A5,A3,T7,dOr,be2,V4,dIx,S2,U7,aM1,be3,ae3,A8,qE,qN,av4,C7,B6,aI0,A2,A0,J5,tB2,Z8,P8,K5,bH3,M8,F6,B9,S7,D0,T4,K1,bj8,xg0,xg1,xw0,xw1,xbs,xms,xmc,xmn,xna,xca,cs3,bH6,cE3,cg1,aV1,cU4,cW6,cZ0,cY9,cY8,cY7,cM0,cL9,cL8,cM2,cM1,xnt,xnf,xft,if_true,if_false,ac5,bh1,a,b,c,e]
def aH5{n:Nat}{i:Int}(h0:0<=i)(h1:i < n):ixN n i=Z i.toNat:=by unfold ixN;rw[if_pos h0,if_pos h1]
def atD(l:List Q4){i:Int}(h0:0<=i)(h1:i < l.length):L2.atI (l.map Q4.d) i=Z (l.getD i.toNat q0).d:=by
 unfold L2.atI;rw[ag,aH5 h0 h1,xbs,aF,bh];have:i.toNat < l.length:=by omega
 rw[am this];rfl
def bx3{w h:Nat}{x y:Int}(b:0<=x/\x < w/\0<=y/\y < h):0<=y*w+x/\y*w+x < ((w*h:Nat):Int):=by
 obtain⟨a,b,c,e⟩:=b;have p:0<=y*(w:Int):=Int.mul_nonneg c (by grind);refine⟨by grind,?_⟩;have:(y+1)*(w:Int)<=h*(w:Int):=Int.mul_le_mul_of_nonneg_right (by grind) (by grind);have e2:(y+1)*(w:Int)=y*w+w:=by rw[Int.add_mul,Int.one_mul]
 have e3:((w*h:Nat):Int)=h*w:=by rw[bD,Int.mul_comm]
 grind
def aN7{w h:Nat}{x y:Int}(s:D)(w8:w<=8)(h8:h<=8)(b:0<=x/\x < w/\0<=y/\y < h):Q2 [.tuple [.int w,.int h,s],.int x,.int y]=Z (.int<|y*w+x):=by
 refine B2 (ρ:=[‹.tuple [.int w,.int h,s]›,‹.int x›,‹.int y›]) rfl ?_
 exists evD,u5,bM7 (sm8 b.2.2.1<|by grind) (sm8 (show(0:Int)<=w by grind)<|by grind)
def bh3{k w h:Nat}{l:List Q4}(S:ShOk k w h l)(x y:Int):ay1 [shD w h l,.int x,.int y]=Z (atQ w h l x y).d:=by
 refine B2 (ρ:=[‹shD w h l›,‹.int x›,‹.int y›]) rfl ?_;have hp:=as0 w h (.tuple<|l.map Q4.d) x y;unfold atQ;by_cases b:0<=x/\x < w/\0<=y/\y < h
 .rw[if_pos b];rw[decide_eq_true b]at hp;have nm:=aN7 (.tuple<|l.map Q4.d) S.w8 S.h8 b;have pn:=bx3 b;have e:=atD l pn.1 (by rw[S.len];exact pn.2)
  exists evD,ax5,shD,hp,nm,e
 .rw[if_neg b];rw[decide_eq_false b]at hp
  exists evD,ax5,shD,hp
  rfl
abbrev scr(ns:List Int):D:=.list<|ns.map fE
def bc3(ns:List Int)(k m:Nat)(hn:ns.length<=63)(hk:k < 2 ^ 60)(hm:0 < m):∃n:Nat,A9 [scr ns,.int k,.int m]=Z (.int n)/\n < m:=by
 have a:=aE7 ns k m hn hk (by grind);have b:=aE0 ns k m (by grind);refine⟨(as9 ns k m).toNat,?_,by grind⟩;rw[a]
 congr 2
 grind
def aE2(h1:f ρ=Z x)(h2:g ρ=Z y):A5 h f g ρ=h x y:=by unfold A5;rw[h1,xbs,h2,xbs]
theorem x5{α:Type}(a:α):∀n:Nat,(ax n [a]).flatten=ax n a
 | 0=>rfl
 | n+1=>by rw[bK,bJ,x5 a n];rfl
def bM8{xs:List D}{n:Nat}(hn:n<=1000)(hx:xs.length<=1000):E9 (.list xs) (.int n)=Z (.list (ax n xs).flatten):=by
 show(if 0<=(n:Int)/\(n:Int) < 1000000/\xs.length*((n:Int)).toNat<=16777216 then Z (PyData.list (ax ((n:Int)).toNat xs).flatten) else O)=_;rw[bp,if_pos ⟨by omega,by omega,aO (bQ hx hn)<|by decide⟩]
def cL2(a:D)(r:List D):R1 (a::r) O (Z 1)=[a]:=by
 unfold R1;have h1:HT.sIx (a::r).length 0 O=0:=by simp[HT.sIx]
 have h2:HT.sIx (a::r).length (a::r).length (Z 1)=1:=by simp only[HT.sIx,aD];first|omega|(simp;omega)|simp
 rw[h1,h2];rfl
def aX4(ns:List Int)(k:Nat)(hn:ns.length<=63)(hk:k < 2 ^ 30):∃q:Q4,X7 [scr ns,.int k]=Z q.d/\q.ok 8:=by
 obtain⟨c,x,y,z,e,S⟩:=cN5 ns k hn hk;exact⟨⟨c,x,y,z⟩,e,S⟩
def bH8(ns:List Int)(at':Nat)(hn:ns.length<=63)(ha:at' < 2 ^ 20):∃f:Nat->Q4,∀k,k < 1000->X7 [scr ns,.int ((at'+12*k:Nat):Int)]=Z (f k).d/\(f k).ok 8:=by
 refine⟨λk=>if h:k < 1000 then Classical.choose (aX4 ns (at'+12*k) hn<|by grind) else q0,λk hk=>?_⟩;simp only[dif_pos hk];exact eG (aX4 ns (at'+12*k) hn<|by grind)
def aU1(ns:List Int)(at' w h:Nat)(hn:ns.length<=63)(ha:at' < 2 ^ 20)(w1:1<=w)(w8:w<=8)(h1:1<=h)(h8:h<=8):∃l:List Q4,ai6 [scr ns,.int at',.int w,.int h]=Z (shD w h l)/\ShOk 8 w h l:=by
 obtain⟨f,hf⟩:=bH8 ns at' hn ha;have wh:w*h<=64:=bQ w8 h8;have wh1:1<=w*h:=bQ w1 h1;obtain⟨t,et,ht⟩:=bc3 ns (at'+7) 3 hn (by grind) (by decide);have et':A9 [scr ns,.int ((at':Int)+7),.int 3]=Z (.int t):=by rw[← et];simp
 have c:D1 1 [0,1] (M9<|A5 E9 (A1 2) (A1 3)) (B9 0) F6 (A3 X7<|A0 (A1 1) (A0 (A5 B0 (A1 2)<|A5 E9 ⇑12 (A1 0)) A2)) [‹scr ns›,‹.int at'›,‹.int w›,‹.int h›,O]=Z ((ay<|w*h).map λk=>(f k).d):=by
  refine V2 (l:=ay<|w*h) (h:=λk:Nat=>fE k) (r:=[‹scr ns›,‹.int at'›]) rfl (ab7 ?_<|by grind) (by rw[aU];grind) ?_
  .exact N4 (by grind) (by grind)
  .intro k hk;have hk:=aR.mp hk;have m12:E9 (.int 12) (.int k)=Z (.int ((12*k:Nat):Int)):=N4 (i:=12) (by decide) (by grind);have e1:((at':Int)+((12*k:Nat):Int))=((at'+12*k:Nat):Int):=by grind
   exists evD,m12,e1,(hf k<|by grind).1
 have mwh:E9 (.int w) (.int h)=Z (.int ((w*h:Nat):Int)):=N4 (by grind) (by grind)
 have cv:((t:Int)==0)=decide (t=0):=by cases t with
  | zero=>rfl
  | succ n=>rw[decide_eq_false (by grind)];exact beq_eq_false_iff_ne.mpr (by grind)
 obtain⟨n,en⟩:∃n,w*h=n+1:=⟨w*h - 1,by grind⟩;by_cases t0:t=0
 .refine⟨ax (w*h)<|f 0,?_,w1,w8,h1,h8,bN ..,λq hq=>by rw[(List.mem_replicate.mp hq).2];exact(hf 0<|by decide).2⟩;refine B2 (ρ:=[‹scr ns›,‹.int at'›,‹.int w›,‹.int h›,O]) rfl ?_;have hd:(ay<|w*h).map (λk=>(f k).d)=(f 0).d::(ay n).map (λk=>(f<|k+1).d):=by rw[en,dR,xmc,bH];rfl
  rw[hd]at c
  have v:A5 E9 (D6 (A1 4) C7<|B6 ⇑1) (A5 E9 (A1 2)<|A1 3) [‹scr ns›,‹.int at'›,‹.int w›,‹.int h›,‹.list ((f 0).d::(ay n).map (λk=>(f<|k+1).d))›]=Z (.list<|ax (w*h) (f 0).d):=by
   have a1:D6 (A1 4) C7 (B6 ⇑1) [‹scr ns›,‹.int at'›,‹.int w›,‹.int h›,‹.list ((f 0).d::(ay n).map (λk=>(f<|k+1).d))›]=Z (.list<|R1 ((f 0).d::(ay n).map (λk=>(f<|k+1).d)) O (Z 1)):=rfl;have a2:A5 E9 (A1 2) (A1 3) [‹scr ns›,‹.int at'›,‹.int w›,‹.int h›,‹.list ((f 0).d::(ay n).map (λk=>(f<|k+1).d))›]=Z (.int ((w*h:Nat):Int)):=(aE2 rfl rfl).trans mwh;rw[cL2]at a1;have a3:=bM8 (xs:=[(f 0).d]) (show w*h<=1000 by grind) (show 1<=1000 by decide);rw[x5]at a3;exact(aE2 a1 a2).trans a3
  have t1:tB2 eqD (A3 A9<|A0 (A1 0) (A0 (A5 B0 (A1 1) ⇑7)<|A0 ⇑3 A2)) ⇑0 [‹scr ns›,‹.int at'›,‹.int w›,‹.int h›,‹.list ((f 0).d::(ay n).map (λk=>(f<|k+1).d))›]=Z true:=by simp only[tB2,A5,A3,A0,A2,A1,dC,xms,xbs,xg0,xg1,ac5,et',aV1,cv,decide_eq_true t0,M8]
  simp only[ax7,A7,aq4,c,sIf,t1,B3,v,B1,B4,A0,A2,U7,A8,A1,xms,xbs,xw0,xw1,xg0,xg1,if_true,xft,if_false,shD,List.map_replicate]
 .refine⟨(ay (w*h)).map f,?_,w1,w8,h1,h8,by rw[ag,aU],λq hq=>by
   obtain⟨k,hk,rfl⟩:=aP.mp hq
   exact(hf k (by have:=aR.mp hk;grind)).2⟩
  refine B2 (ρ:=[‹scr ns›,‹.int at'›,‹.int w›,‹.int h›,O]) rfl ?_
  exists evD,ax7,c,et',cv,decide_eq_false t0,shD,bH
  rfl
theorem at9{α:Type}(f:α->Bool):∀l:List α,aW8 (l.map λa=>fF<|f a)=Z (l.all f)
 | []=>rfl
 | a::l=>by
  show(aW8<|l.map λa=>fF<|f a).map (λc=>f a&&c)=_;rw[at9 f l];rfl
def bb8(S:ShOk k w h l)(hk:k+k<=8000):ap9 [shD w h l]=Z (.bool true):=by
 have sz:∀n:Nat,1<=n->n<=8->aa5 [.int n]=Z (.bool true):=λn a b=>by
  refine rX1 ?_;have w1:O6 [.int n]=Z (.bool true):=rfl;have a':(1:Int)<=n:=by grind
  have b':(n:Int)<=8:=by grind
  exists evD,ax8,w1,a',b',decide_true
 have l3:((([.int w,.int h,.tuple (l.map Q4.d)]:List D).length:Nat):Int)=3:=rfl;have b3:((3:Int)==3)=true:=rfl;have w8:=S.w8;have h8:=S.h8;have wh:w*h<=64:=bQ w8 h8
 have zz:k9 [shD w h l]=Z (.bool true):=by
  refine rX1 ?_
  exists evD,ap7,shD,l3,b3,sz w S.w1 S.w8,sz h S.h1 S.h8
 have al:∀q:Option B,D1 1 [] (K1<|A1 1) (B9 0) F6 (A3 ai9<|A0 (A1 0) A2) [q,‹.tuple (l.map Q4.d)›]=Z (l.map λx=>.bool true):=λq=>by
  refine V2 (l:=l) (h:=Q4.d) (r:=[]) rfl rfl (by rw[S.len];grind) λx hx=>?_
  have:=bF0 (S.ok x hx) hk
  exists evD,Q4.d,this
 have mwh:E9 (.int w) (.int h)=Z (.int ((w*h:Nat):Int)):=N4 (by grind) (by grind);have hb:((((l.map Q4.d).length:Nat):Int)==((w*h:Nat):Int))=true:=by rw[ag,S.len];simp
 have ab:aW8 (l.map λx=>.bool true)=Z true:=by rw[at9 (λ_=>true)];simp
 refine B2 (ρ:=[‹shD w h l›,O]) rfl ?_;simp only[shD]at zz
 exists evD,aK3,shD,zz,al,mwh,hb,ab
def q4:(4:Nat)<=16777216:=by decide
def q3:(3:Nat)<=16777216:=by decide
def Dv(N:Nat)(r:Rat):Prop:=∃z:Int,r*(N:Rat)=(z:Rat)
def Dv.mul(h:Dv M r)(g:Dv N s):Dv (M*N) (r*s):=by
 obtain⟨a,ha⟩:=h;obtain⟨b,hb⟩:=g;exact⟨a*b,by rw[Rat.intCast_mul,← ha,← hb,Rat.natCast_mul];grind⟩
def Dv.int(N:Nat)(i:Int):Dv N (i:Rat):=⟨i*N,by rw[Rat.intCast_mul];rfl⟩
def Dv.one(N:Nat):Dv N 1:=Dv.int N 1
def Dv.right(h:Dv N r)(M:Nat):Dv (N*M) r:=by have:=h.mul (Dv.one M);rwa [Rat.mul_one]at this
def Dv.left(h:Dv N r)(M:Nat):Dv (M*N) r:=by have:=(Dv.one M).mul h;rwa [Rat.one_mul]at this
def Dv.of(a:Int)(hN:0 < N):Dv N (mkRat a N):=by
 refine⟨a,?_⟩
 have hN':(N:Rat)≠0:=by
  intro h;have:N=0:=by exact_mod_cast h
  omega
 rw[Rat.mkRat_eq_div];exact Rat.div_mul_cancel hN'
def Dn(k:Nat)(q:Q4):Prop:=∃N,0 < N/\N < 2 ^ k/\Dv N q.c/\Dv N q.x/\Dv N q.y/\Dv N q.z
def Ds(k:Nat)(s:Rat):Prop:=∃N,0 < N/\N < 2 ^ k/\Dv N s
def an5(h1:a < 2 ^ j)(h2:b < 2 ^ k):a*b < 2 ^ (j+k):=by
 rw[Nat.pow_add];exact Nat.mul_lt_mul'' h1 h2
def Q4.or(q:Q4):Prop:=0<=q.x/\0<=q.y/\0<=q.z/\q.x<=q.c/\q.y<=q.c/\q.z<=q.c/\q.c<=1
theorem Q4.ok.or{k:Nat}{q:Q4}(h:q.ok k):q.or:=⟨h.hx.nn,h.hy.nn,h.hz.nn,h.xc,h.yc,h.zc,h.hc.le⟩
structure Dq (k:Nat) (q:Q4):Prop where
 o:q.or
 n:Dn k q
structure Sr (k:Nat) (s:Rat):Prop where
 h:IsSh k s
 n:Ds k s
inductive Nd where
 | layer (nm:D) (m:Man) (s:Rat) (sh:Bool) (lf tp:Int) (mk:Option (List Rat)) (w h:Nat) (l:List Q4) (kb:Nat)
 | tone (nm:D) (r:Rul) (s:Rat) (sh:Bool)
 | group (nm:D) (m:Man) (s:Rat) (sh:Bool) (ns:List Nd)
def mkD:Option (List Rat)->D
 | none=>.none
 | some ms=>.tuple<|ms.map fr
mutual
def Nd.d:Nd->D
 | .layer nm m s sh lf tp mk w h l _=>.tuple [.str "layer", nm,.str m.s,fr s,.bool sh,.int lf,.int tp,mkD mk,shD w h l]
 | .tone nm r s sh=>.tuple [.str "tone", nm,.str r.s,fr s,.bool sh]
 | .group nm m s sh ns=>.tuple [.str "group", nm,.str m.s,fr s,.bool sh,.tuple (Nd.ds ns)]
def Nd.ds:List Nd->List D
 | []=>[]
 | n::r=>n.d::Nd.ds r
end
mutual
def Nd.Ok:Nd->Prop
 | .layer _ _ s _ _ _ mk w h l kb=>Sr 4 s/\ShOk kb w h l/\(∀q∈l,Dq kb q)/\(∀ms,mk=Z ms->ms.length=w*h/\∀r∈ms,Sr 4 r)/\1<=kb
 | .tone _ _ s _=>Sr 4 s
 | .group _ _ s _ ns=>Sr 4 s/\Nd.Oks ns
def Nd.Oks:List Nd->Prop
 | []=>True
 | n::r=>n.Ok/\Nd.Oks r
end
mutual
def Nd.wg:Nd->Nat
 | .layer _ _ _ _ _ _ _ _ _ _ kb=>kb+8
 | .tone ..=>6
 | .group _ _ _ _ ns=>5+Nd.wgs ns
def Nd.wgs:List Nd->Nat
 | []=>0
 | n::r=>n.wg+Nd.wgs r
end
mutual
def Nd.dp:Nd->Nat
 | .layer ..=>0
 | .tone ..=>0
 | .group _ _ _ _ ns=>1+Nd.dps ns
def Nd.dps:List Nd->Nat
 | []=>0
 | n::r=>max n.dp<|Nd.dps r
end
def dd7:eqD (.str "layer") (.str "tone")=Z (.bool false):=Q0 (by decide +kernel) (by decide +kernel) (by decide +kernel)
def cX2:eqD (.str "tone") (.str "tone")=Z (.bool true):=Q0 (by decide +kernel) (by decide +kernel) (by decide +kernel)
def dd8:eqD (.str "group") (.str "tone")=Z (.bool false):=Q0 (by decide +kernel) (by decide +kernel) (by decide +kernel)
def cX3:eqD (.str "layer") (.str "layer")=Z (.bool true):=Q0 (by decide +kernel) (by decide +kernel) (by decide +kernel)
def dd9:eqD (.str "group") (.str "layer")=Z (.bool false):=Q0 (by decide +kernel) (by decide +kernel) (by decide +kernel)
def bA8:eqD (.str "layer") (.str "group")=Z (.bool false):=Q0 (by decide +kernel) (by decide +kernel) (by decide +kernel)
def bA9:eqD (.str "group") (.str "group")=Z (.bool true):=Q0 (by decide +kernel) (by decide +kernel) (by decide +kernel)
section
variable {nm:D}{m:Man}{r:Rul}{s:Rat}{sh:Bool}{lf tp:Int}{mk:Option (List Rat)}{w h:Nat}{l:List Q4}{kb:Nat}{ns:List Nd}
def cv9:aa4 [Nd.d (.tone nm r s sh)]=Z (.bool true):=by rw[Nd.d];exact rX1<|congrArg (cr Fl.rt) cX2
def bs3:R6 [Nd.d (.layer nm m s sh lf tp mk w h l kb)]=Z (.bool true):=by rw[Nd.d];exact rX1<|congrArg (cr Fl.rt) cX3
def aU7:R6 [Nd.d (.group nm m s sh ns)]=Z (.bool false):=by rw[Nd.d];exact rX1<|congrArg (cr Fl.rt) dd9
def aU2:R4 [Nd.d (.layer nm m s sh lf tp mk w h l kb)]=Z (shD w h l):=by rw[Nd.d];rfl
def as3:E6 [Nd.d (.group nm m s sh ns)]=Z (.tuple<|Nd.ds ns):=by rw[Nd.d];rfl
end
def bR4:isB .none .none=Z (.bool true):=rfl
def bk0(ds:List D):isB (.tuple ds) .none=Z (.bool false):=rfl
end Sh
open Sh.Q4 renaming d→fP
open Sh.Nd renaming d→fQ,ds→fR,Ok→fS,Oks→fT,wgs→fU,dp→fV,dps→fW
local macro_rules
  | `(↥$x) => `(PySem.PyData.tuple (Sh.Nd.ds $x))
namespace Sh
open PySem G L2
def aB3(a b c d e f g h i:D):L2.atI [a,b,c,d,e,f,g,h,i] 0=Z a:=rfl
def aQ2(a b c d e f g h i:D):L2.atI [a,b,c,d,e,f,g,h,i] 1=Z b:=rfl
def cY2(a b c d e f g h i:D):L2.atI [a,b,c,d,e,f,g,h,i] 2=Z c:=rfl
def cs5(a b c d e f g h i:D):L2.atI [a,b,c,d,e,f,g,h,i] 3=Z d:=rfl
def cY1(a b c d e f g h i:D):L2.atI [a,b,c,d,e,f,g,h,i] 4=Z e:=rfl
def cs4(a b c d e f g h i:D):L2.atI [a,b,c,d,e,f,g,h,i] 8=Z i:=rfl
def aJ0(a b c d e f:D):L2.atI [a,b,c,d,e,f] 0=Z a:=rfl
def bv2(a b c d e f:D):L2.atI [a,b,c,d,e,f] 1=Z b:=rfl
def cs6(a b c d e f:D):L2.atI [a,b,c,d,e,f] 3=Z d:=rfl
def cY3(a b c d e f:D):L2.atI [a,b,c,d,e,f] 4=Z e:=rfl
def bf0(a b c d e f:D):L2.atI [a,b,c,d,e,f] 5=Z f:=rfl
def bf1(a b c d e:D):L2.atI [a,b,c,d,e] 0=Z a:=rfl
def cs7(a b c d e:D):L2.atI [a,b,c,d,e] 1=Z b:=rfl
def cY5(a b c d e:D):L2.atI [a,b,c,d,e] 3=Z d:=rfl
def cY4(a b c d e:D):L2.atI [a,b,c,d,e] 4=Z e:=rfl
def aG9:aw2 .none .none=Z (.bool false):=rfl
def A6(h:f ρ=Z (.nx ρ')):A7 f g ρ=g ρ':=by unfold A7;rw[h];rfl
def G2(h:f ρ=Z (.rt d)):A7 f g ρ=Z (.rt d):=by unfold A7;rw[h];rfl
theorem ag4{α:Type}{g:D->Rho->Option Rho}{f:DS}{h:α->D}{I:Nat->Rho->Prop}:∀(l:List α) (i:Nat) (ρ:Rho),I i ρ->(∀(j:Nat) (a:α),l[j]? = Z a->∀ρ,I (i+j) ρ->∃ρ1,g (h a) ρ=Z ρ1/\∃ρ',f ρ1=Z (.nx ρ')/\I (i+j+1) ρ')->∃ρ',j8 g f (l.map h) ρ=Z (.nx ρ')/\I (i+l.length) ρ'
 | [],i,ρ,h0,_=>⟨ρ,rfl,h0⟩
 | a::l,i,ρ,h0,H=>by
  obtain⟨ρ1,e1,ρ2,e2,h2⟩:=H 0 a rfl ρ h0
  obtain⟨ρ',e3,h3⟩:=ag4 l (i+1) ρ2 (by simpa using h2) (λj b hb ρ hρ=>by
   have:=H (j+1) b (by simpa using hb) ρ (by rwa [show i+(j+1)=i+1+j by grind])
   rwa [show i+(j+1)+1=i+1+j+1 by grind]at this)
  refine⟨ρ',?_,by rw[aD,show i+(l.length+1)=i+1+l.length by grind];exact h3⟩;simp only[xmc,j8,e1,xbs,e2,e3]
def aP1{α:Type}(x:α){n:Nat}{P:Nat->α->Prop}(h:∀j,j < n->∃a,P j a):∃f:Nat->α,∀j,j < n->P j (f j):=by
 refine⟨λj=>if hj:j < n then Classical.choose (h j hj) else x,λj hj=>?_⟩;simp only[dif_pos hj];exact eG<|h j hj
def K9(ns:List Int)(hn:ns.length<=63)(k m:Nat)(he:e=(k:Int))(hm':m'=(m:Int))(hk:k < 2 ^ 60)(hm:0 < m):∃n:Nat,A9 [scr ns,.int e,.int m']=Z (.int n)/\n < m:=by
 subst he hm';exact bc3 ns k m hn hk hm
def drw(ns:List Int)(hn:ns.length<=63)(a:Nat)(c m:Int)(ha:a < 2 ^ 59)(hc:0<=c/\c < 1048576:=by decide)(hm:0 < m:=by decide):∃n:Nat,A9 [scr ns,.int ((a:Int)+c),.int m]=Z (.int n)/\n < m.toNat :=
 K9 ns hn (e:=a+c) (m':=m) (a+c.toNat) m.toNat (by grind) (by grind) (by grind) (by grind)
def aG0(ns:List Int)(hn:ns.length<=63)(k:Nat)(he:e=(k:Int))(hk:k < 2 ^ 40):∃r,L5 [scr ns,.int e]=Z (fr r)/\IsSh 4 r:=by
 subst he;exact ai3 ns k hn hk
def bI1(ns:List Int)(hn:ns.length<=63)(k w h:Nat)(he:e=(k:Int))(hk:k < 2 ^ 20)(w1:1<=w)(w8:w<=8)(h1:1<=h)(h8:h<=8):∃l:List Q4,ai6 [scr ns,.int e,.int w,.int h]=Z (shD w h l)/\ShOk 8 w h l:=by
 subst he;exact aU1 ns k w h hn hk w1 w8 h1 h8
def as5(r:Rat):Dv r.den r:=by
 have:=Dv.of r.num<|O4 r
 rwa [Rat.mkRat_self]at this
def aF5(h:IsSh k s):Sr k s:=⟨h,s.den,O4 s,h.bd.den,as5 s⟩
def cr5(h:q.ok 8):Dq 32 q :=
 ⟨h.or,q.c.den*q.x.den*(q.y.den*q.z.den),cY (cY (O4 _) (O4 _)) (cY (O4 _) (O4 _)),an5 (an5 h.hc.bd.den h.hx.den) (an5 h.hy.den h.hz.den),
  ((as5 q.c).right _).right _,((as5 q.x).left _).right _,((as5 q.y).right _).left _,((as5 q.z).left _).left _⟩
def SOk(s:Str):Prop:=∀c∈s.cps.toList,97<=c/\c<=122
def SOk.ok(h:SOk s):fH (.str s)=true:=by
 show s.cps.all (· < 0x110000)=true;rw[Array.all_eq_true'];intro c hc;exact decide_eq_true (by have:=h c (cC.mpr hc);grind)
def SOk.app(ha:SOk a)(hb:SOk b):SOk (a++b):=by
 intro c hc;have:c∈(a.cps++b.cps).toList:=hc;rw[cF]at this;rcases az.mp this with h|h
 .exact ha c h
 .exact hb c h
def cI5(x:Str)(n:Nat)(h:n < x.length)(hx:x.length<=1000):∃s:Str,atS x (n:Int)=Z (.str s)/\s.length=1/\(SOk x->SOk s):=by
 unfold atS;rw[if_pos (by grind)];have hl:x.cps.toList.length=x.length:=by unfold Str.length;simp
 have h':n < x.cps.toList.length:=by grind
 have:atI x.cps.toList (n:Int)=Z x.cps.toList[n]:=by
  unfold atI;rw[aH5 (by grind) (by grind),xbs,bp,am h']
 rw[this];refine⟨⟨#[x.cps.toList[n]]⟩,rfl,rfl,λhs c hc=>?_⟩;have:c=x.cps.toList[n]:=by simpa using hc
 rw[this];exact hs _<|aS h'
def cb6(x:Str)(lo hi:Option Int):(slS x lo hi).length<=x.length:=by
 unfold slS;split
 .exact aj _
 .unfold Str.length;rw[ap];exact aO (List.length_filterMap_le ..)<|PyProof.Rows.indices_len_le ..
def cb5(h:SOk x)(lo hi:Option Int):SOk (slS x lo hi):=by
 unfold slS;split
 .exact h
 .intro c hc;simp only[List.toList_toArray]at hc;obtain⟨i,_,e⟩:=cJ.mp hc;exact h c<|cC.mpr (Array.mem_of_getElem? e)
def bI9(h:SOk x)(k:Int)(hk:k=1\/k=2):SOk (aC1 x k):=by
 unfold aC1;split
 .exact h
 .rename_i e;rcases hk with rfl|rfl
  .simp at e
  .intro c hc;have:c∈((#[]++x.cps)++x.cps).toList:=hc;simp at this;exact h c<|cC.mpr this
def bS7(ha:SOk a)(hb:SOk b):SOk (Builtin.Str.glued "" [a,b]):=by
 intro c hc;have:c∈(a.cps++("" : Str).cps++b.cps).toList:=hc;rw[cF,cF]at this;rcases az.mp this with h|h
 .rcases az.mp h with h|h
  .exact ha c h
  .exact absurd h (by simp[show("" : Str).cps = #[] from rfl])
 .exact hb c h
def cn6:SOk "abcdefghijklmnopqrstuvwxyz" := by
 have:("abcdefghijklmnopqrstuvwxyz" : Str).cps.toList.all (λc=>decide (97<=c/\c<=122))=true:=by decide +kernel
 intro c hc;exact of_decide_eq_true<|aK.mp this c hc
def ltr(k:Nat):Str:=⟨#[97+k]⟩
def cD8:∀k:Nat,k < 14->atS "abcdefghijklmn" (k:Int)=Z (.str<|ltr k):=by
 have e:("abcdefghijklmn" : Str)=⟨#[97,98,99,100,101,102,103,104,105,106,107,108,109,110]⟩:=by decide +kernel
 intro k hk;rw[e];rcases k with _|_|_|_|_|_|_|_|_|_|_|_|_|_|k
 all_goals first|rfl|grind
def br9(k:Nat)(h:k < 14):SOk (ltr k):=by
 intro c hc;have:c=97+k:=by simpa [ltr] using hc
 grind
def nmS(b:Bool)(k:Nat)(y:Str):Str:=if b=true then ltr k++y else y++ltr k
def cf9(b:Bool)(hk:k < 14)(hy:SOk y):SOk (nmS b k y):=by
 unfold nmS;split
 .exact(br9 k hk).app hy
 .exact hy.app (br9 k hk)
def cg0(e:nmS b i y=nmS b j z):i=j:=by
 unfold nmS at e;cases b with
 | true =>
  have e:(ltr i).cps++y.cps=(ltr j).cps++z.cps:=congrArg Str.cps e;have e:=congrArg (λa=>a.toList.head?) e;simp[ltr]at e;omega
 | false =>
  have e:y.cps++(ltr i).cps=z.cps++(ltr j).cps:=congrArg Str.cps e;have e:=congrArg (λa=>a.toList.getLast?) e;simp[ltr]at e;omega
def aY7(x:Str)(k:Int)(hk:k=1\/k=2):(aC1 x k).length<=2*x.length:=by
 unfold aC1;split
 .grind
 .rename_i e;rcases hk with rfl|rfl
  .simp at e
  .show((#[]++x.cps)++x.cps).size<=2*x.cps.size;simp;grind
def cq6(a b:Str)(ha:a.length=1)(hb:b.length=1):aI7 (dC<|.str "") (λ_=>Z (false,[.str a,.str b])) []=Z (.str<|Builtin.Str.glued "" [a,b])/\(Builtin.Str.glued "" [a,b]).length=2:=by
 have h2:(Builtin.Str.glued "" [a,b]).length=2:=by
  show(a.cps++("" : Str).cps++b.cps).size=2;unfold Str.length at ha hb;rw[bx,bx,ha,hb];rfl
 have h1:ar6 "" [a,b]<=16777216:=by
  show 0+a.length+("" : Str).length+b.length+("" : Str).length<=16777216;have:("" : Str).length=0:=rfl
  grind
 refine⟨?_,h2⟩;show(if ar6 "" [a,b]<=16777216/\(Builtin.Str.glued "" [a,b]).length<=16777216 then Z (fG<|Builtin.Str.glued "" [a,b]) else O)=_;rw[if_pos ⟨h1,by grind⟩]
def ci1(hf:f ρ=Z (.str ""))(hg:g ρ=Z (false,[.str a,.str b]))(ha:a.length=1)(hb:b.length=1):aI7 f g ρ=Z (.str<|Builtin.Str.glued "" [a,b]):=by
 rw[← (cq6 a b ha hb).1];unfold aI7;rw[hf,hg];rfl
def cg5(x:Str)(k:Int)(hk:k=1\/k=2)(hx:x.length<=1000):by8 (.str x) (.int k)=Z (.str<|aC1 x k):=by
 show(if 1<=k/\k<=2/\x.length<=1000/\(aC1 x k).length<=16777216 then Z (fG<|aC1 x k) else O)=_;have:=aY7 x k hk;rw[if_pos ⟨by grind,by grind,hx,by grind⟩]
def be8(a b:Str)(ha:a.length<=1000)(hb:b.length<=1000):B0 (.str a) (.str b)=Z (.str<|a++b):=by
 show(if a.length+b.length<=16777216 then Z (fG<|a++b) else O)=_;rw[if_pos (by grind)]
def dc9:∀n:Nat,n < 2->∃k:Int,atI ([.int 1,.int 2]:List D) (n:Int)=Z (.int k)/\(k=1\/k=2)
 | 0,_=>⟨1,rfl,.inl rfl⟩
 | 1,_=>⟨2,rfl,.inr rfl⟩
 | n+2,h=>absurd h (by grind)
def ba2:DS:=A7 nbA<|A7 nbB nbC
def bS6:aQ8=(A7 (B3 3<|A5 eqD (A3 A9<|A0 (A1 0) (A0 (A1 1)<|A0 ⇑2 A2)) ⇑0)<|A7 (ae1 4 A2) (A7 (W9 (M9<|A1 2) (B9 5) ba2)<|aS1 4 (B1<|A1 4))):=rfl
def gn4:DS:=(B1<|U7 (A8 6))
def bS5:aQ7=(A7 gn0<|A7 gn1 (A7 gn2<|A7 gn3 gn4)):=rfl
def cC9(ns:List Int)(hn:ns.length<=63)(at' k:Nat)(ha:at' < 2 ^ 20)(hk:k < 14)(a2:Option B)(b:Bool)(L:List D)(a6:Option B):∃x:Str,nbA [‹scr ns›,‹.int at'›,a2,‹.bool b›,Z (.own L),‹.int k›,a6]=Z (.nx [‹scr ns›,‹.int at'›,a2,‹.bool b›,Z (.own L),‹.int k›,‹.str x›])/\x.length=2/\SOk x:=by
 have m3:E9 (.int 3) (.int k)=Z (.int ((3*k:Nat):Int)):=N4 (i:=3) (by decide) (by grind)
 have P:∀j,j < 2->∃s:Str,ao5 (dC<|.str "abcdefghijklmnopqrstuvwxyz") (A3 A9<|A0 (A1 1) (A0 (A5 B0 (A5 B0 (A5 B0 (A1 2) ⇑1)<|A5 E9 ⇑3 (A1 3))<|A1 0)<|A0 ⇑26 A2)) [‹.int (j:Nat)›,‹scr ns›,‹.int at'›,‹.int k›]=Z (.str s)/\s.length=1/\SOk s:=λj hj=>by
  obtain⟨d,ed,ld⟩:=K9 ns hn (e:=(at':Int)+1+((3*k:Nat):Int)+(j:Int)) (m':=26) (at'+1+3*k+j) 26 (by grind) rfl (by grind) (by decide);obtain⟨s,es,ls,ss⟩:=cI5 "abcdefghijklmnopqrstuvwxyz" d ld (by decide);refine⟨s,?_,ls,ss cn6⟩
  exists evD,ao5,m3,ed,es
 obtain⟨S,hS⟩:=aP1 (x:=("" : Str)) P
 have c:D1 1 [0,1,5] (M9 ⇑2) (B9 0) F6 (ao5 (dC<|.str "abcdefghijklmnopqrstuvwxyz")<|A3 A9 (A0 (A1 1)<|A0 (A5 B0 (A5 B0 (A5 B0 (A1 2) ⇑1)<|A5 E9 ⇑3 (A1 3))<|A1 0) (A0 ⇑26 A2))) [‹scr ns›,‹.int at'›,a2,‹.bool b›,Z (.own L),‹.int k›,a6]=Z ((ay 2).map λj=>.str<|S j) :=
  V2 (l:=ay 2) (h:=λj:Nat=>fE j) (r:=[‹scr ns›,‹.int at'›,‹.int k›]) rfl (ab7 (n:=2) rfl<|by decide) (by decide) λj hj=>(hS j<|aR.mp hj).1
 refine⟨Builtin.Str.glued "" [S 0,S 1],?_,(cq6 _ _ (hS 0<|by decide).2.1 (hS 1<|by decide).2.1).2,bS7 (hS 0<|by decide).2.2 (hS 1<|by decide).2.2⟩;have jn:=ci1 (f:=dC<|.str "") (g:=qN<|D1 1 [0,1,5] (M9 ⇑2) (B9 0) F6 (ao5 (dC<|.str "abcdefghijklmnopqrstuvwxyz")<|A3 A9 (A0 (A1 1)<|A0 (A5 B0 (A5 B0 (A5 B0 (A1 2) ⇑1)<|A5 E9 ⇑3 (A1 3))<|A1 0) (A0 ⇑26 A2)))) (ρ:=[‹scr ns›,‹.int at'›,a2,‹.bool b›,Z (.own L),‹.int k›,a6]) rfl (by unfold qN;rw[c];rfl) (hS 0<|by decide).2.1 (hS 1<|by decide).2.1;unfold nbA B3;rw[jn];rfl
def cC8(ns:List Int)(hn:ns.length<=63)(at' k:Nat)(ha:at' < 2 ^ 20)(hk:k < 14)(a2:Option B)(b:Bool)(L:List D)(x:Str)(hx:x.length=2)(sx:SOk x):∃y:Str,nbB [‹scr ns›,‹.int at'›,a2,‹.bool b›,Z (.own L),‹.int k›,‹.str x›]=Z (.nx [‹scr ns›,‹.int at'›,a2,‹.bool b›,Z (.own L),‹.int k›,‹.str y›])/\y.length<=4/\SOk y:=by
 have m3:E9 (.int 3) (.int k)=Z (.int ((3*k:Nat):Int)):=N4 (i:=3) (by decide) (by grind);obtain⟨d,ed,ld⟩:=K9 ns hn (e:=(at':Int)+3+((3*k:Nat):Int)) (m':=3) (at'+3+3*k) 3 (by grind) rfl (by grind) (by decide);obtain⟨d',ed',ld'⟩:=K9 ns hn (e:=(at':Int)+2+((3*k:Nat):Int)) (m':=2) (at'+2+3*k) 2 (by grind) rfl (by grind) (by decide);obtain⟨kk,ek,hk'⟩:=dc9 d' ld';have sl:=cb6 x O (Z (d:Int));have rl:=aY7 (slS x O<|Z (d:Int)) kk hk';refine⟨aC1 (slS x O<|Z (d:Int)) kk,?_,by grind,bI9 (cb5 sx _ _) kk hk'⟩
 have a1:bD3 (A1 6) C7 (B6<|A3 A9 (A0 (A1 0)<|A0 (A5 B0 (A5 B0 (A1 1) ⇑3)<|A5 E9 ⇑3 (A1 5)) (A0 ⇑3 A2))) [‹scr ns›,‹.int at'›,a2,‹.bool b›,Z (.own L),‹.int k›,‹.str x›]=Z (.str<|slS x O (Z (d:Int))):=by
  have cnd:x.length<=1000/\(slS x O<|Z (d:Int)).length<=16777216:=⟨by grind,by grind⟩
  exists evD,bD3,m3,ed,if_pos cnd
 have a2:dIx (qN<|A0 ⇑1 (A0 ⇑2 A2)) (A3 A9<|A0 (A1 0) (A0 (A5 B0 (A5 B0 (A1 1) ⇑2)<|A5 E9 ⇑3 (A1 5))<|A0 ⇑2 A2)) [‹scr ns›,‹.int at'›,a2,‹.bool b›,Z (.own L),‹.int k›,‹.str x›]=Z (.int kk):=by exists evD,m3,ed',ek
 unfold nbB B3;rw[aE2 a1 a2,cg5 _ kk hk' (by grind)];rfl
def ifb(b:Bool)(x y:D):atI [x,y] (if b=true then 1 else 0)=Z (if b=true then y else x):=by cases b<;>rfl
def cC7(ns:List Int)(at' k:Nat)(hk:k < 14)(a2:Option B)(b:Bool)(L:List D)(hL:L.length<=100)(y:Str)(hy:y.length<=4):nbC [‹scr ns›,‹.int at'›,a2,‹.bool b›,Z (.own L),‹.int k›,‹.str y›]=Z (.nx [‹scr ns›,‹.int at'›,a2,‹.bool b›,Z (.own<|L++[.str (nmS b k y)]),‹.int k›,‹.str y›]):=by
 have ec:=cD8 k hk;have lc:(ltr k).length=1:=rfl;have c1:=be8 y (ltr k) (by grind) (by grind);have c2:=be8 (ltr k) y (by grind) (by grind);have hl:L.length < 16777216:=by grind
 have e:dIx (qN<|A0 (A5 B0 (A1 6)<|ao5 (dC<|.str "abcdefghijklmn") (A1 5)) (A0 (A5 B0 (ao5 (dC<|.str "abcdefghijklmn")<|A1 5)<|A1 6) A2)) (be3<|A1 3) [‹scr ns›,‹.int at'›,a2,‹.bool b›,Z (.own L),‹.int k›,‹.str y›]=Z (.str<|nmS b k y):=by
  exists evD,ao5,ec,c1,c2,ifb
  cases b<;>rfl
 unfold nbC x0;simp only[xg0,xg1,if_pos hl,e,xms,xw0,xw1]
def bM6(ns:List Int)(hn:ns.length<=63)(at' many:Nat)(ha:at' < 2 ^ 20)(hm:many<=14):∃L:List D,ai7 [scr ns,.int at',.int many]=Z (.list L)/\L.length=many/\∃b:Bool,∀i,i < many->∃y,L[i]? = Z (.str<|nmS b i y)/\SOk y/\y.length<=4:=by
 obtain⟨d,ed,ld⟩:=K9 ns hn (e:=(at':Int)) (m':=2) at' 2 rfl rfl (by grind) (by decide)
 obtain⟨ρ',e,L,a5,a6,hρ,hL,hP⟩:=ag4 (g:=B9 5) (f:=ba2) (h:=λj:Nat=>fE j) (I:=λi ρ=>∃(L:List D) (a5 a6:Option B),ρ=[‹scr ns›,‹.int at'›,‹.int many›,‹.bool ((d:Int)==0)›,Z (.own L),a5,a6]/\L.length=i/\∀n,n < i->∃y,L[n]? = Z (.str (nmS ((d:Int)==0) n y))/\SOk y/\y.length<=4) (ay many) 0 [‹scr ns›,‹.int at'›,‹.int many›,‹.bool ((d:Int)==0)›,Z (.own []),O,O] ⟨[],O,O,rfl,rfl,λn h=>absurd h (dS n)⟩ (λj a hj ρ hρ=>by
  obtain⟨L,a5,a6,rfl,hL,hP⟩:=hρ;obtain⟨hj1,hj2⟩:=ak.mp hj;rw[aU]at hj1;rw[List.getElem_range]at hj2;subst hj2;refine⟨_,rfl,?_⟩;simp only[xw0,xw1];obtain⟨x,e1,hx,sx⟩:=cC9 ns hn at' j ha (by grind) (‹.int many›) ((d:Int)==0) L a6;obtain⟨y,e2,hy,sy⟩:=cC8 ns hn at' j ha (by grind) (‹.int many›) ((d:Int)==0) L x hx sx;have e3:=cC7 ns at' j (by grind) (‹.int many›) ((d:Int)==0) L (by grind) y hy
  have eb:ba2 [‹scr ns›,‹.int at'›,‹.int many›,‹.bool ((d:Int)==0)›,Z (.own L),‹.int j›,a6]=Z (.nx [‹scr ns›,‹.int at'›,‹.int many›,‹.bool ((d:Int)==0)›,Z (.own<|L++[.str (nmS ((d:Int)==0) j y)]),‹.int j›,‹.str y›]):=by
   unfold ba2;rw[A6 e1,A6 e2,e3]
  refine⟨_,eb,L++[.str (nmS ((d:Int)==0) j y)],_,_,rfl,by rw[ae,hL];rfl,λn hn=>?_⟩;by_cases q:n < 0+j
  .obtain⟨z,e1,e2⟩:=hP n q;exact⟨z,by rw[aX (by grind)];exact e1,e2⟩
  .have:n=L.length:=by grind
   refine⟨y,?_,sy,hy⟩;rw[this,aM (aj _),bW];rw[show L.length=j by grind]
   rfl)
 subst hρ;rw[aU,dr]at hL hP;refine⟨L,?_,hL,_,hP⟩;refine B2 (ρ:=[‹scr ns›,‹.int at'›,‹.int many›,O,O,O,O]) rfl ?_;have rn:M9 (A1 2) [‹scr ns›,‹.int at'›,‹.int many›,‹.bool ((d:Int)==0)›,Z (.own []),O,O]=_:=ab7 (n:=many) rfl (by grind);have s1:(ae1 4 A2) [‹scr ns›,‹.int at'›,‹.int many›,‹.bool ((d:Int)==0)›,O,O,O]=Z (.nx [‹scr ns›,‹.int at'›,‹.int many›,‹.bool ((d:Int)==0)›,Z (.own []),O,O]):=rfl
 have s2:(W9 (M9<|A1 2) (B9 5) ba2) [‹scr ns›,‹.int at'›,‹.int many›,‹.bool ((d:Int)==0)›,Z (.own []),O,O]=Z (.nx [‹scr ns›,‹.int at'›,‹.int many›,‹.bool ((d:Int)==0)›,Z (.own L),a5,a6]):=by
  unfold W9;rw[rn];exact e
 have s3:(aS1 4<|B1 (A1 4)) [‹scr ns›,‹.int at'›,‹.int many›,‹.bool ((d:Int)==0)›,Z (.own L),a5,a6]=Z (.rt<|.list L):=rfl;rw[bS6];refine(A6 (by simp only[B3,A5,A3,A0,A2,A1,dC,xbs,xms,xg0,xg1,xw0,xw1,ed,aV1];rfl)).trans ?_;rw[A6 s1,A6 s2];exact s3
def cU1:∀n:Nat,n < 6->∃m:Man,atI ([.str "over", .str "multiply", .str "screen", .str "plus", .str "atop", .str "cut"]:List D) (n:Int)=Z (.str m.s)
 | 0,_=>⟨.over,rfl⟩
 | 1,_=>⟨.mult,rfl⟩
 | 2,_=>⟨.screen,rfl⟩
 | 3,_=>⟨.plus,rfl⟩
 | 4,_=>⟨.atop,rfl⟩
 | 5,_=>⟨.cut,rfl⟩
 | n+6,h=>absurd h (by grind)
def dc5:∀n:Nat,n < 4->∃m:Man,atI ([.str "over", .str "multiply", .str "screen", .str "plus"]:List D) (n:Int)=Z (.str m.s)
 | 0,_=>⟨.over,rfl⟩
 | 1,_=>⟨.mult,rfl⟩
 | 2,_=>⟨.screen,rfl⟩
 | 3,_=>⟨.plus,rfl⟩
 | n+4,h=>absurd h (by grind)
def cU2(m:Man):∀n:Nat,n < 4->∃m':Man,atI ([.str m.s,.str "atop", .str m.s,.str "cut"]:List D) (n:Int)=Z (.str m'.s)
 | 0,_=>⟨m,rfl⟩
 | 1,_=>⟨.atop,rfl⟩
 | 2,_=>⟨m,rfl⟩
 | 3,_=>⟨.cut,rfl⟩
 | n+4,h=>absurd h (by omega)
def db2:∀n:Nat,n < 3->∃r:Rul,atI ([.str "turn", .str "grey", .str "round"]:List D) (n:Int)=Z (.str r.s)
 | 0,_=>⟨.turn,rfl⟩
 | 1,_=>⟨.grey,rfl⟩
 | 2,_=>⟨.round,rfl⟩
 | n+3,h=>absurd h (by grind)
def bv9(n:Nat):((n:Int)==0)=decide (n=0):=by
 cases n with
 | zero=>rfl
 | succ n=>rw[decide_eq_false (by omega)];exact beq_eq_false_iff_ne.mpr (by omega)
def bF9(n:Nat):(decide ((0:Int) < (n:Int)))=decide (0 < n):=by
 cases n with
 | zero=>rfl
 | succ n=>rw[decide_eq_true (by omega),decide_eq_true (by omega)]
def ad1(n:Nat):(1:Int)+(n:Int)=((1+n:Nat):Int):=by grind
def Nd.nm:Nd->D
 | .layer nm ..=>nm
 | .tone nm ..=>nm
 | .group nm ..=>nm
mutual
def Nd.near:Nd->Prop
 | .layer _ _ _ _ lf tp _ w h l kb=>-2<=lf/\lf<=2/\-2<=tp/\tp<=2/\kb<=40/\w<=3/\h<=3/\∀q∈l,q.ok 8
 | .tone ..=>True
 | .group _ _ _ _ ns=>Nd.nears ns
def Nd.nears:List Nd->Prop
 | []=>True
 | n::r=>n.near/\Nd.nears r
end
theorem T3:∀l:List Nd,Nd.nears l↔∀n∈l,n.near
 | []=>by simp[Nd.nears]
 | n::r=>by simp[Nd.nears,T3 r]
abbrev lv(ns:List Int)(at':Nat)(nm:D)(m:Man)(s:Rat)(d:Nat)(r:Rho):Rho:=‹scr ns›::‹.int at'›::‹nm›::‹.str m.s›::‹fr s›::‹.bool (decide (0 < d))›::r
def aU0(ns:List Int)(hn:ns.length<=63)(at':Nat)(ha:at' < 2 ^ 19)(nm:D)(m:Man):∃n:Nd,S8 [scr ns,.int at',nm,.str m.s]=Z n.d/\n.Ok/\n.dp=0/\n.wg<=40/\n.nm=nm/\n.near:=by
 obtain⟨s,es,hs⟩:=ai3 ns at' hn (by grind);have es:L5 [scr ns,.int at']=Z (fr s):=es;obtain⟨d3,e3,l3⟩:=drw ns hn at' 3 6 (by grind);obtain⟨d4,e4,l4⟩:=drw ns hn at' 4 6 (by grind);obtain⟨d6,e6,l6⟩:=drw ns hn at' 6 3 (by grind);obtain⟨d7,e7,l7⟩:=drw ns hn at' 7 3 (by grind);obtain⟨d8,e8,l8⟩:=drw ns hn at' 8 3 (by grind);obtain⟨d9,e9,l9⟩:=drw ns hn at' 9 3 (by grind);obtain⟨d10,e10,l10⟩:=drw ns hn at' 10 4 (by grind);obtain⟨d11,e11,l11⟩:=drw ns hn at' 11 4 (by grind);obtain⟨d12,e12,l12⟩:=drw ns hn at' 12 3 (by grind);obtain⟨d5,e5,l5⟩:=drw ns hn at' 5 3 (by grind);obtain⟨d5',e5',l5'⟩:=drw ns hn at' 5 6 (by grind);by_cases t4:d4=0
 .obtain⟨r,er⟩:=db2 d5 l5;refine⟨.tone nm r s<|decide (0 < d3),?_,aF5 hs,rfl,by show 6<=40;decide,rfl,by rw[Nd.near];trivial⟩;have s2:W4 (lv ns at' nm m s d3 [O,O,O,O,O,O,O])=Z (.rt<|.tuple [.str "tone", nm,.str r.s,fr s,.bool (decide (0 < d3))]):=by exists evD,W4,lv,e4,bv9,decide_eq_true t4,e5,er
  refine B2 (ρ:=[‹scr ns›,‹.int at'›,‹nm›,‹.str m.s›,O,O,O,O,O,O,O,O,O]) rfl ?_;unfold aJ9;refine(A6 (by exists evD,ae7,lv,es;rfl)).trans ?_;refine(A6 (by exists evD,ae6,lv,e3,bF9;rfl)).trans ?_;rw[G2 s2,fQ]
 have s2:W4 (lv ns at' nm m s d3 [O,O,O,O,O,O,O])=Z (.nx<|lv ns at' nm m s d3 [O,O,O,O,O,O,O]):=by exists evD,W4,lv,e4,bv9,decide_eq_false t4
 obtain⟨m0,em0⟩:=cU1 d5' l5'
 obtain⟨m1,s4⟩:∃m1:Man,n8 (lv ns at' nm m s d3 [‹.str m0.s›,O,O,O,O,O,O])=Z (.nx<|lv ns at' nm m s d3 [‹.str m1.s›,O,O,O,O,O,O]):=by
  by_cases t6:0 < d6
  .exact⟨m,by exists evD,n8,lv,e6,bF9,decide_eq_true t6⟩
  .exact⟨m0,by exists evD,n8,lv,e6,bF9,decide_eq_false t6⟩
 have wh:(1+d7)*(1+d8)<=9:=bQ (show 1+d7<=3 by grind) (show 1+d8<=3 by grind);have mwh:E9 (.int ((1+d7:Nat):Int)) (.int ((1+d8:Nat):Int))=Z (.int (((1+d7)*(1+d8):Nat):Int)):=N4 (by grind) (by grind)
 obtain⟨mk,s8,hmk⟩:∃mk:Option (List Rat),n6 (lv ns at' nm m s d3 [‹.str m1.s›,‹.int ((1+d7:Nat):Int)›,‹.int ((1+d8:Nat):Int)›,Z (.val .none),O,O,O])=Z (.nx<|lv ns at' nm m s d3 [‹.str m1.s›,‹.int ((1+d7:Nat):Int)›,‹.int ((1+d8:Nat):Int)›,‹mkD mk›,O,O,O])/\∀ms,mk=Z ms->ms.length=(1+d7)*(1+d8)/\∀r∈ms,Sr 4 r:=by
  by_cases t9:d9=0
  .have P:∀j,j < 9->∃r:Rat,L5 [scr ns,.int ((at':Int)+20+((3*j:Nat):Int))]=Z (fr r)/\IsSh 4 r:=λj hj=>aG0 ns hn (at'+20+3*j) (by grind) (by grind)
   obtain⟨R,hR⟩:=aP1 (x:=(0:Rat)) P
   have c:D1 1 [0,1] (M9<|A5 E9 (A1 7) (A1 8)) (B9 0) F6 (A3 L5<|A0 (A1 1) (A0 (A5 B0 (A5 B0 (A1 2) ⇑20)<|A5 E9 ⇑3 (A1 0)) A2)) (lv ns at' nm m s d3 [‹.str m1.s›,‹.int ((1+d7:Nat):Int)›,‹.int ((1+d8:Nat):Int)›,Z (.val .none),O,O,O])=Z ((ay<|(1+d7)*(1+d8)).map λj=>fr<|R j):=by
    refine V2 (l:=ay<|(1+d7)*(1+d8)) (h:=λj:Nat=>fE j) (r:=[‹scr ns›,‹.int at'›]) rfl (ab7 ((aE2 rfl rfl).trans mwh)<|by grind) (by rw[aU];grind) λj hj=>?_
    have hj:=aR.mp hj;have m3:E9 (.int 3) (.int j)=Z (.int ((3*j:Nat):Int)):=N4 (i:=3) (by decide) (by grind)
    exists evD,lv,m3,(hR j<|by grind).1
   refine⟨Z<|(ay<|(1+d7)*(1+d8)).map R,?_,λms e=>?_⟩
   .simp only[n6,sIf,tB2,B3,U7,qN,c,A5,A3,A0,A2,A1,dC,ac5,e9,aV1,bv9,decide_eq_true t9,M8,xbs,xms,xg0,xg1,xw0,xw1,if_true,xft,if_false,mkD,bH];rfl
   .cases e;refine⟨by rw[ag,aU],λr hr=>?_⟩;obtain⟨j,hj,rfl⟩:=aP.mp hr;exact aF5 (hR j (by have:=aR.mp hj;grind)).2
  .exact⟨O,by(exists evD,n6,lv,e9,bv9,decide_eq_false t9,mkD),λms e=>by cases e⟩
 obtain⟨w,h,lf,tp,mk',s11,hw,hh,hmk',hof⟩:∃(w h:Nat) (lf tp:Int) (mk':Option (List Rat)),Z0 (lv ns at' nm m s d3 [‹.str m1.s›,‹.int ((1+d7:Nat):Int)›,‹.int ((1+d8:Nat):Int)›,‹mkD mk›,‹.int ((d10:Int) - 1)›,‹.int ((d11:Int) - 1)›,O])=Z (.nx<|lv ns at' nm m s d3 [‹.str m1.s›,‹.int (w:Nat)›,‹.int (h:Nat)›,‹mkD mk'›,‹.int lf›,‹.int tp›,O])/\(1<=w/\w<=3)/\(1<=h/\h<=3)/\(∀ms,mk'=Z ms->ms.length=w*h/\∀r∈ms,Sr 4 r)/\(-2<=lf/\lf<=2/\-2<=tp/\tp<=2):=by
  by_cases t12:d12=0
  .refine⟨3,3,0,0,O,?_,by decide,by decide,(λms e=>by cases e),by decide⟩;have l5:∀a b c d e:D,([a,b,c,d,e]:List D).length=5:=λ_ _ _ _ _=>rfl
   exists evD,Z0,lv,e12,bv9,decide_eq_true t12,l5,mkD
   rfl
  .exact⟨1+d7,1+d8,(d10:Int) - 1,(d11:Int) - 1,mk,by(exists evD,Z0,lv,e12,bv9,decide_eq_false t12),by grind,by grind,hmk,by grind⟩
 obtain⟨l,el,S⟩:=bI1 ns hn (e:=(at':Int)+50) (at'+50) w h (by grind) (by grind) hw.1 (by grind) hh.1 (by grind);refine⟨.layer nm m1 s (decide (0 < d3)) lf tp mk' w h l 32,?_,?_,rfl,aj _,rfl,by rw[Nd.near];exact⟨hof.1,hof.2.1,hof.2.2.1,hof.2.2.2,by decide,by grind,by grind,S.ok⟩⟩
 .have s13:aa9 (lv ns at' nm m s d3 [‹.str m1.s›,‹.int (w:Nat)›,‹.int (h:Nat)›,‹mkD mk'›,‹.int lf›,‹.int tp›,‹shD w h l›])=Z (.rt<|.tuple [.str "layer", nm,.str m1.s,fr s,.bool (decide (0 < d3)),.int lf,.int tp,mkD mk',shD w h l]):=by
   exists evD,aa9,lv
  refine B2 (ρ:=[‹scr ns›,‹.int at'›,‹nm›,‹.str m.s›,O,O,O,O,O,O,O,O,O]) rfl ?_;unfold aJ9;refine(A6 (by exists evD,ae7,lv,es;rfl)).trans ?_;refine(A6 (by exists evD,ae6,lv,e3,bF9;rfl)).trans ?_;rw[A6 s2];refine(A6 (by exists evD,az6,lv,e5',em0;rfl)).trans ?_;rw[A6 s4];refine(A6 (by exists evD,az5,lv,e7,ad1;rfl)).trans ?_;refine(A6 (by exists evD,az4,lv,e8,ad1;rfl)).trans ?_;refine(A6 (by exists evD,az3,lv;rfl)).trans ?_;rw[A6 s8];refine(A6 (by exists evD,az2,lv,e10;rfl)).trans ?_;refine(A6 (by exists evD,aq2,lv,e11;rfl)).trans ?_;rw[A6 s11];refine(A6 (by exists evD,aq1,lv,el;rfl)).trans ?_;rw[s13,fQ]
 .rw[fS];exact⟨aF5 hs,⟨S.w1,S.w8,S.h1,S.h8,S.len,λq hq=>(S.ok q hq).mono<|by decide⟩,λq hq=>cr5<|S.ok q hq,hmk',by decide⟩
theorem D8:∀l:List Nd,fR l=l.map fQ
 | []=>by rw[fR];rfl
 | n::r=>by rw[fR,D8 r];rfl
theorem R8:∀l:List Nd,fT l↔∀n∈l,n.Ok
 | []=>by simp[fT]
 | n::r=>by simp[fT,R8 r]
theorem aa7:∀a b:List Nd,fU (a++b)=fU a+fU b
 | [],b=>by simp[fU]
 | n::a,b=>by rw[xca,fU,fU,aa7 a b];grind
theorem J6:∀a b:List Nd,fW (a++b)=max (fW a) (fW b)
 | [],b=>by simp[fW]
 | n::a,b=>by rw[xca,fW,fW,J6 a b,Nat.max_assoc]
theorem bG5:∀l:List Nd,(∀n∈l,n.wg<=40)->fU l<=40*l.length
 | [],_=>by simp[fU]
 | n::l,h=>by
  have a:=h n (ah ..);have b:=bG5 l λm hm=>h m<|xmm _ hm
  rw[fU,aD];grind
theorem bc4:∀l:List Nd,(∀n∈l,n.dp=0)->fW l=0
 | [],_=>by simp[fW]
 | n::l,h=>by
  have a:=h n (ah ..);have b:=bc4 l λm hm=>h m<|xmm _ hm
  rw[fW];grind
mutual
def Nd.nms:Nd->List D
 | .layer nm _ _ _ _ _ _ _ _ _ _=>[nm]
 | .tone nm _ _ _=>[nm]
 | .group nm _ _ _ ns=>nm::Nd.nmss ns
def Nd.nmss:List Nd->List D
 | []=>[]
 | n::r=>n.nms++Nd.nmss r
end
theorem C0:∀a b:List Nd,Nd.nmss (a++b)=Nd.nmss a++Nd.nmss b
 | [],b=>by simp[Nd.nmss]
 | n::a,b=>by rw[xca,Nd.nmss,Nd.nmss,C0 a b,av]
mutual
def Nd.thin:Nd->Prop
 | .layer ..=>True
 | .tone ..=>True
 | .group _ _ _ _ ns=>ns.length<=1000/\Nd.thins ns
def Nd.thins:List Nd->Prop
 | []=>True
 | n::r=>n.thin/\Nd.thins r
end
theorem P4:∀l:List Nd,Nd.thins l↔∀n∈l,n.thin
 | []=>by simp[Nd.thins]
 | n::r=>by simp[Nd.thins,P4 r]
def aC5(l:List Nd)(a c:Nat)(g:List Nd->Nd):List Nd:=l.take a++[g ((l.drop a).take<|c - a)]++l.drop c
def cw7(l:List Nd)(h:a<=c):l.take a++(l.drop a).take (c - a)++l.drop c=l:=by
 have e:l.drop c=(l.drop a).drop (c - a):=by rw[List.drop_drop];congr 1;grind
 rw[e,av,bP,bP]
def cm5{ds:List D}{a b:Nat}(ha:a<=ds.length):R1 ds (Z (a:Int)) (Z (b:Int))=(ds.drop a).take (min b ds.length - a)/\∀es:List D,aF6 ds (Z (a:Int)) (Z (b:Int)) es=ds.take a++es++ds.drop (max a<|min b ds.length):=by
 have h1:HT.sIx ds.length 0 (Z (a:Int))=a:=by rw[HT.sIx_nat];grind
 have h2:HT.sIx ds.length ds.length (Z (b:Int))=min b ds.length:=HT.sIx_nat ..;refine⟨?_,λes=>?_⟩
 .unfold R1;rw[h1,h2]
 .unfold aF6;rw[h1,h2]
abbrev gE(ns:List Int)(at' most:Nat)(N:List D)(m:Man)(r:Rho):Rho:=‹scr ns›::‹.int at'›::‹.int most›::‹.list N›::‹.str m.s›::r
def bS9(ns:List Int)(hn:ns.length<=63)(at' most k:Nat)(ha:at' < 2 ^ 18)(hk:k < 2)(hmost:most<=6)(N:List D)(hN:most+2<=N.length)(m:Man)(l:List Nd)(hl:l.length<=100)(a5 a8 a9 a10 a11 a12:Option B):
  ∃(a c:Nat) (nm:D) (m':Man) (s:Rat) (sh:Bool) (b8 b9 b10 b11 b12:Option B),bt4 (gE ns at' most N m [a5,Z (.own<|fR l),‹.int k›,a8,a9,a10,a11,a12])=Z (.nx<|gE ns at' most N m [a5,Z (.own<|fR (aC5 l a c<|Nd.group nm m' s sh)),‹.int k›,b8,b9,b10,b11,b12])/\a<=c/\c<=l.length/\IsSh 4 s/\nm=N.getD (most+k) .none:=by
 have m5:E9 (.int 5) (.int k)=Z (.int ((5*k:Nat):Int)):=N4 (i:=5) (by decide) (by grind);have hds:(fR l).length=l.length:=by rw[D8,ag]
 obtain⟨f,ef,lf⟩:=K9 ns hn (e:=(at':Int)+3+((5*k:Nat):Int)) (m':=(((fR l).length:Nat):Int)+1) (at'+3+5*k) (l.length+1) (by grind) (by rw[hds];grind) (by grind) (by grind);obtain⟨d,ed,ld⟩:=K9 ns hn (e:=(at':Int)+4+((5*k:Nat):Int)) (m':=3) (at'+4+5*k) 3 (by grind) rfl (by grind) (by decide);obtain⟨s0,es0,hs0⟩:=aG0 ns hn (e:=(at':Int)+5+((5*k:Nat):Int)) (at'+5+5*k) (by grind) (by grind);obtain⟨d6,e6,l6⟩:=K9 ns hn (e:=(at':Int)+6+((5*k:Nat):Int)) (m':=2) (at'+6+5*k) 2 (by grind) rfl (by grind) (by decide);obtain⟨d7,e7,l7⟩:=K9 ns hn (e:=(at':Int)+7+((5*k:Nat):Int)) (m':=4) (at'+7+5*k) 4 (by grind) rfl (by grind) (by decide);obtain⟨d14,e14,l14⟩:=K9 ns hn (e:=(at':Int)+14+(k:Int)) (m':=7) (at'+14+k) 7 (by grind) rfl (by grind) (by decide);obtain⟨m',em'⟩:=cU2 m d7 l7
 obtain⟨s,est,hs⟩:∃s:Rat,atI ([.tuple [.int 1,.int 1],fr s0]:List D) (d6:Int)=Z (fr s)/\IsSh 4 s:=by
  rcases(show d6=0\/d6=1 by grind) with rfl|rfl
  .exact⟨1,rfl,Bd.one.mono (by decide),Rat.le_refl⟩
  .exact⟨s0,rfl,hs0⟩
 obtain⟨nm,enm,hnm⟩:∃nm,atI N ((most:Int)+(k:Int))=Z nm/\nm=N.getD (most+k) .none:=by
  unfold atI;rw[aH5 (by grind) (by grind),xbs];have h':((most:Int)+(k:Int)).toNat=most+k:=by grind
  rw[h'];exact⟨N[most+k]'(by grind),am (by grind),by rw[bh,am (by grind)];rfl⟩
 refine⟨f,max f<|min (f+d) l.length,nm,m',s,decide (0 < d14),?_⟩;have s0:gb0 (gE ns at' most N m [a5,Z (.own<|fR l),‹.int k›,a8,a9,a10,a11,a12])=Z (.nx<|gE ns at' most N m [a5,Z (.own<|fR l),‹.int k›,‹.int f›,a9,a10,a11,a12]):=by exists evD,gb0,gE,m5,ef
 have fd:(f:Int)+(d:Int)=((f+d:Nat):Int):=by grind
 obtain⟨q1,q2⟩:=cm5 (ds:=fR l) (a:=f) (b:=f+d) (by grind)
 have mid:((fR l).drop f).take (min (f+d) (fR l).length - f)=fR ((l.drop f).take<|max f (min (f+d) l.length) - f):=by
  rw[hds,D8,D8,← cG,← cH]
  congr 2;grind
 have s5:gb5 (gE ns at' most N m [a5,Z (.own<|fR l),‹.int k›,‹.int f›,‹.int ((f+d:Nat):Int)›,‹fr s›,‹.str m'.s›,‹.tuple [.str "group", nm,.str m'.s,fr s,.bool (decide (0 < d14))]›])=Z (.nx<|gE ns at' most N m [a5,Z (.own<|fR (aC5 l f (max f<|min (f+d) l.length)<|Nd.group nm m' s (decide (0 < d14)))),‹.int k›,‹.int f›,‹.int ((f+d:Nat):Int)›,‹fr s›,‹.str m'.s›,‹.tuple [.str "group", nm,.str m'.s,fr s,.bool (decide (0 < d14))]›]):=by
  have x1:bD4 (A8 6) (B6<|A1 8) (B6<|A1 9) (gE ns at' most N m [a5,Z (.own<|fR l),‹.int k›,‹.int f›,‹.int ((f+d:Nat):Int)›,‹fr s›,‹.str m'.s›,‹.tuple [.str "group", nm,.str m'.s,fr s,.bool (decide (0 < d14))]›])=Z (.list<|fR ((l.drop f).take<|max f (min (f+d) l.length) - f)):=by rw[← mid,← q1];rfl
  have x2:(A0 (A5 B0 (A1 12)<|B4 (A0 (U7<|qE (bD4 (A8 6) (B6<|A1 8)<|B6 (A1 9))) A2)) A2) (gE ns at' most N m [a5,Z (.own<|fR l),‹.int k›,‹.int f›,‹.int ((f+d:Nat):Int)›,‹fr s›,‹.str m'.s›,‹.tuple [.str "group", nm,.str m'.s,fr s,.bool (decide (0 < d14))]›])=Z [fQ (Nd.group nm m' s (decide (0 < d14))<|(l.drop f).take (max f (min (f+d) l.length) - f))]:=by
   have cc:∀a b c d e g:D,B0 (.tuple [a,b,c,d,e]) (.tuple [g])=Z (.tuple [a,b,c,d,e,g]):=λ_ _ _ _ _ _=>rfl
   simp only[A0,A2,A5,B4,U7,qE,x1,av4,A1,xbs,xms,xg0,xg1,xft,if_false,cc,fQ]
  have sz:(fR l).length+1<=16777216:=by grind
  have fin:aF6 (fR l) (Z (f:Int)) (Z ((f+d:Nat):Int)) [fQ (Nd.group nm m' s (decide (0 < d14))<|(l.drop f).take (max f (min (f+d) l.length) - f))]=fR (aC5 l f (max f<|min (f+d) l.length)<|Nd.group nm m' s (decide (0 < d14))):=by
   rw[q2,hds];unfold aC5;rw[D8,D8,bj,bj,cH,cG];rfl
  rw[← fin];unfold gb5 bI3;rw[x2,xbs];show(if(fR l).length+1<=16777216 then Z (Fl.nx _) else O)=_;rw[if_pos sz];rfl
 refine⟨‹.int f›,‹.int ((f+d:Nat):Int)›,‹fr s›,‹.str m'.s›,‹.tuple [.str "group", nm,.str m'.s,fr s,.bool (decide (0 < d14))]›,?_,by grind,by grind,hs,hnm⟩;unfold bt4;rw[A6 s0];refine(A6 (by exists evD,gb1,gE,m5,ed,fd;rfl)).trans ?_;refine(A6 (by exists evD,gb2,gE,m5,es0,e6,est;rfl)).trans ?_;refine(A6 (by exists evD,gb3,gE,m5,e7,em';rfl)).trans ?_;refine(A6 (by exists evD,gb4,gE,enm,e14,bF9;rfl)).trans ?_;rw[s5]
structure NOk (N:List D) (i:Nat) (most:Nat) (l:List Nd):Prop where
 ok:fT l
 wg:fU l<=40*most+5*i
 dp:fW l<=i
 len:l.length<=most+i
 th:Nd.thins l
 nr:Nd.nears l
 ix:∃is:List Nat,Nd.nmss l=is.map (λj=>N.getD j .none)/\is.Nodup/\∀j∈is,j < most+i
def NOk.grp(h:NOk N i most l)(ac:a<=c)(hs:IsSh 4 s)(hnm:nm=N.getD (most+i) .none)(h100:l.length<=100):NOk N (i+1) most (aC5 l a c<|Nd.group nm m s sh):=by
 have e:=cw7 l ac;have w1:=congrArg fU e;have w2:=congrArg fW e;rw[aa7,aa7]at w1;rw[J6,J6]at w2;have hw:=h.wg;have hd:=h.dp;refine⟨?_,?_,?_,?_,?_,?_,?_⟩
 .rw[R8];have ok:=(R8 l).mp h.ok;intro n hn;unfold aC5 at hn;rcases az.mp hn with hn|hn
  .rcases az.mp hn with hn|hn
   .exact ok n (bq hn)
   .rw[aw.mp hn];rw[fS];exact⟨aF5 hs,(R8 _).mpr λn' hn'=>ok n'<|br (bq hn')⟩
  .exact ok n (br hn)
 .unfold aC5;rw[aa7,aa7];simp only[fU,Nd.wg]
  grind
 .unfold aC5;rw[J6,J6];simp only[fW,fV]
  grind
 .unfold aC5;rw[ae,ae,aA,aY,aN];have:=h.len
  grind
 .rw[P4];have th:=(P4 l).mp h.th;intro n hn;unfold aC5 at hn;rcases az.mp hn with hn|hn
  .rcases az.mp hn with hn|hn
   .exact th n (bq hn)
   .rw[aw.mp hn,Nd.thin];exact⟨aO (List.length_take_le' ..) (by rw[aY];grind),(P4 _).mpr λn' hn'=>th n'<|br (bq hn')⟩
  .exact th n (br hn)
 .rw[T3];have th:=(T3 l).mp h.nr;intro n hn;unfold aC5 at hn;rcases az.mp hn with hn|hn
  .rcases az.mp hn with hn|hn
   .exact th n (bq hn)
   .rw[aw.mp hn,Nd.near];exact(T3 _).mpr λn' hn'=>th n'<|br (bq hn')
  .exact th n (br hn)
 .obtain⟨is,e1,e2,e3⟩:=h.ix;have w3:=congrArg Nd.nmss e;rw[C0,C0,e1]at w3;obtain⟨i12,i3,q1,q2,q3⟩:=dZ.mp w3.symm;obtain⟨i1,i2,p1,p2,p3⟩:=dZ.mp q2;subst p1 q1;refine⟨i1++((most+i)::i2)++i3,?_,?_,?_⟩
  .unfold aC5;rw[C0,C0,← q3,← p2];simp only[Nd.nmss,Nd.nms,ba,bj,xmc,p3,hnm]
  .have pm:(i1++((most+i)::i2)++i3).Perm ((most+i)::(i1++i2++i3)):=by
    rw[av,xca,av i1 i2 i3];exact List.perm_middle
   rw[pm.nodup_iff,bn];exact⟨λz=>by have:=e3 _ z;grind,e2⟩
  .intro j hj
   have:j=most+i\/j∈i1++i2++i3:=by
    simp only[az,ao]at hj ⊢;rcases hj with(h|h|h)|h
    .exact .inr (.inl<|.inl h)
    .exact .inl h
    .exact .inr (.inl<|.inr h)
    .exact .inr (.inr h)
   rcases this with rfl|h
   .grind
   .have:=e3 j h;grind
def bM0(ns:List Int)(hn:ns.length<=63)(at' most:Nat)(ha:at' < 2 ^ 18)(hmost:most<=6)(N:List D)(hN:most+2<=N.length):∃l:List Nd,ay4 [scr ns,.int at',.int most,.list N]=Z ↥l/\NOk N 2 most l:=by
 obtain⟨d0,e0,l0⟩:=K9 ns hn (e:=(at':Int)) (m':=4) at' 4 rfl rfl (by grind) (by decide);obtain⟨d1,e1,l1⟩:=K9 ns hn (e:=(at':Int)+1) (m':=(most:Int)+1) (at'+1) (most+1) (by grind) (by grind) (by grind) (by grind);obtain⟨d2,e2,l2⟩:=drw ns hn at' 2 3 (by grind);obtain⟨m,em⟩:=dc5 d0 l0
 have P:∀j,j < d1->∃n:Nd,A3 S8 (A0 (A1 1)<|A0 (A5 B0 (A5 B0 (A1 4) ⇑20)<|A5 E9 ⇑170 (A1 0)) (A0 (dIx (A8 3)<|A1 0)<|A0 (A1 2) A2)) [‹.int (j:Nat)›,‹scr ns›,‹.str m.s›,‹.list N›,‹.int at'›]=Z n.d/\n.Ok/\n.dp=0/\n.wg<=40/\n.nm=N.getD j .none/\n.near:=λj hj=>by
  have m170:E9 (.int 170) (.int j)=Z (.int ((170*j:Nat):Int)):=N4 (i:=170) (by decide) (by grind)
  have en:atI N (j:Int)=Z (N[j]'(by grind)):=by
   unfold atI;rw[aH5 (by grind) (by grind),xbs,bp];exact am (by grind)
  obtain⟨n,en',hn'⟩:=aU0 ns hn (at'+20+170*j) (by grind) (N[j]'(by grind)) m;have ei:(at':Int)+20+((170*j:Nat):Int)=((at'+20+170*j:Nat):Int):=by grind
  refine⟨n,?_,hn'.1,hn'.2.1,hn'.2.2.1,by rw[hn'.2.2.2.1,bh,am (by grind)];rfl,hn'.2.2.2.2⟩
  exists evD,gE,m170,en,ei,en'
 obtain⟨f,hf⟩:=aP1 (x:=Nd.tone .none .turn 0 true) P
 have g2:gn2 (gE ns at' most N m [‹.int d1›,O,O,O,O,O,O,O])=Z (.nx<|gE ns at' most N m [‹.int d1›,Z (.own<|fR ((ay d1).map f)),O,O,O,O,O,O]):=by
  have c:D1 1 [0,4,3,1] (M9<|A1 5) (B9 0) F6 (A3 S8<|A0 (A1 1) (A0 (A5 B0 (A5 B0 (A1 4) ⇑20)<|A5 E9 ⇑170 (A1 0))<|A0 (dIx (A8 3)<|A1 0) (A0 (A1 2) A2))) (gE ns at' most N m [‹.int d1›,O,O,O,O,O,O,O])=Z ((ay d1).map λj=>(f j).d) :=
   V2 (l:=ay d1) (h:=λj:Nat=>fE j) (r:=[‹scr ns›,‹.str m.s›,‹.list N›,‹.int at'›]) rfl (ab7 (n:=d1) rfl<|by grind) (by rw[aU];grind) λj hj=>(hf j<|aR.mp hj).1
  unfold gn2 ae1;rw[c,D8,bH];rfl
 have Q5:NOk N 0 most ((ay d1).map f):=by
  refine⟨(R8 _).mpr λn h=>?_,?_,?_,?_,(P4 _).mpr λn h=>?_,(T3 _).mpr λn h=>?_,ay d1,?_,List.nodup_range,λj hj=>by have:=aR.mp hj;grind⟩
  .obtain⟨j,hj,rfl⟩:=aP.mp h;exact(hf j<|aR.mp hj).2.1
  .have:=bG5 ((ay d1).map f) λn h=>by
    obtain⟨j,hj,rfl⟩:=aP.mp h;exact(hf j<|aR.mp hj).2.2.2.1
   rw[ag,aU]at this
   grind
  .rw[bc4 _ λn h=>by
    obtain⟨j,hj,rfl⟩:=aP.mp h
    exact(hf j (aR.mp hj)).2.2.1]
   exact aj _
  .rw[ag,aU];grind
  .obtain⟨j,hj,rfl⟩:=aP.mp h;have:=(hf j<|aR.mp hj).2.2.1;cases q:f j with
   | group=>rw[q,fV]at this;grind
   | layer=>rw[Nd.thin];trivial
   | tone=>rw[Nd.thin];trivial
  .obtain⟨j,hj,rfl⟩:=aP.mp h;exact(hf j<|aR.mp hj).2.2.2.2.2
  .have key:∀is:List Nat,(∀j∈is,j < d1)->Nd.nmss (is.map f)=is.map λj=>N.getD j .none:=by
    intro is
    induction is with
    | nil=>intro _;simp[Nd.nmss]
    | cons j is ih =>
     intro hj;have a:=hf j (hj j<|ah ..);rw[xmc,Nd.nmss,ih λi hi=>hj i (xmm _ hi),xmc,← a.2.2.2.2.1];cases q:f j with
     | group=>have:=a.2.2.1;rw[q,fV]at this;grind
     | layer=>simp[Nd.nms,Nd.nm]
     | tone=>simp[Nd.nms,Nd.nm]
   exact key _ λj hj=>aR.mp hj
 obtain⟨ρ',e3,l,b7,b8,b9,b10,b11,b12,hρ,hl⟩:=ag4 (g:=B9 7) (f:=bt4) (h:=λj:Nat=>fE j) (I:=λi ρ=>∃(l:List Nd) (b7 b8 b9 b10 b11 b12:Option B),ρ=(gE ns at' most N m [‹.int d1›,Z (.own (fR l)),b7,b8,b9,b10,b11,b12])/\NOk N i most l) (ay d2) 0 (gE ns at' most N m [‹.int d1›,Z (.own (fR ((ay d1).map f))),O,O,O,O,O,O]) ⟨_,_,_,_,_,_,_,rfl,Q5⟩ (λj a hj ρ hρ=>by
  obtain⟨l,b7,b8,b9,b10,b11,b12,rfl,hl⟩:=hρ;obtain⟨hj1,hj2⟩:=ak.mp hj;rw[aU]at hj1;rw[List.getElem_range]at hj2;subst hj2;refine⟨_,rfl,?_⟩;simp only[xw0,xw1];have hll:=hl.len;obtain⟨a,c,nm,m',s,sh,c8,c9,c10,c11,c12,eb,ac,cl,hs,hnm⟩:=bS9 ns hn at' most j ha (by grind) hmost N hN m l (by grind) (‹.int d1›) b8 b9 b10 b11 b12
  exact⟨_,eb,_,_,_,_,_,_,_,rfl,hl.grp ac hs (by rw[hnm,dr]) (by grind)⟩)
 subst hρ;rw[aU,dr]at hl
 refine⟨l,?_,hl.ok,by have:=hl.wg;grind,by have:=hl.dp;grind,by have:=hl.len;grind,hl.th,hl.nr,by
  obtain⟨is,q1,q2,q3⟩:=hl.ix
  exact⟨is,q1,q2,λj hj=>by have:=q3 j hj;grind⟩⟩
 have rn:M9 (A3 A9<|A0 (A1 0) (A0 (A5 B0 (A1 1) ⇑2)<|A0 ⇑3 A2)) (gE ns at' most N m [‹.int d1›,Z (.own<|fR ((ay d1).map f)),O,O,O,O,O,O])=_:=ab7 (n:=d2) (by exists evD,gE,e2) (by grind)
 have g3:gn3 (gE ns at' most N m [‹.int d1›,Z (.own<|fR ((ay d1).map f)),O,O,O,O,O,O])=Z (.nx<|gE ns at' most N m [‹.int d1›,Z (.own<|fR l),b7,b8,b9,b10,b11,b12]):=by
  unfold gn3 W9;rw[rn];exact e3
 have g4:gn4 (gE ns at' most N m [‹.int d1›,Z (.own<|fR l),b7,b8,b9,b10,b11,b12])=Z (.rt ↥l):=rfl;refine B2 (ρ:=[‹scr ns›,‹.int at'›,‹.int most›,‹.list N›,O,O,O,O,O,O,O,O,O]) rfl ?_;rw[bS5];refine(A6 (by exists evD,gn0,gE,e0,em;rfl)).trans ?_;refine(A6 (by exists evD,gn1,gE,e1;rfl)).trans ?_;rw[A6 g2,A6 g3];exact g4
def B5(w h:Nat)(l:List Nd):D:=.tuple [.int w,.int h,↥l]
def bi3(ns:List Int)(hn:ns.length<=63)(at' most:Nat)(ha:at' < 2 ^ 17)(hmost:most<=6)(N:List D)(hN:most+2<=N.length):∃(w h:Nat) (l:List Nd),u7 [scr ns,.int at',.int most,.list N]=Z (B5 w h l)/\NOk N 2 most l/\(1<=w/\w<=3)/\(1<=h/\h<=3):=by
 obtain⟨d0,e0,l0⟩:=K9 ns hn (e:=(at':Int)) (m':=3) at' 3 rfl rfl (by grind) (by decide);obtain⟨d1,e1,l1⟩:=drw ns hn at' 1 3 (by grind);obtain⟨l,el,hl⟩:=bM0 ns hn (at'+2) most (by grind) hmost N hN;have e2:(at':Int)+2=((at'+2:Nat):Int):=by grind
 refine⟨1+d0,1+d1,l,?_,hl,by grind,by grind⟩;refine B2 (ρ:=[‹scr ns›,‹.int at'›,‹.int most›,‹.list N›,O,O]) rfl ?_
 exists evD,aB8,gE,e0,e1,ad1,e2,el,B5
def M3(n:Nd):n.nm∈n.nms:=by cases n<;>simp[Nd.nm,Nd.nms]
def K8(h:n∈l)(hd:d∈n.nms):d∈Nd.nmss l:=by
 obtain⟨a,b,rfl⟩:=ck h;rw[C0,Nd.nmss];simp[hd]
def F9(d:D):Prop:=∃s:Str,d=.str s/\SOk s
def same(a b:D):Bool:=@decide (a=b)<|cf _
def M4(a:D):same a a=true:=@decide_eq_true _ (cf _) rfl
def W1(h:a≠b):same a b=false:=@decide_eq_false _ (cf _) h
def aM6(d:D):Prop:=∃s:Str,d=.str s/\fH (.str s)=true
def F9.l(h:F9 d):aM6 d:=by
 obtain⟨s,rfl,hs⟩:=h;exact⟨s,rfl,hs.ok⟩
def bT7(ha:F9 a)(hb:aM6 b):eqD a b=Z (.bool<|same a b):=by
 obtain⟨s,rfl,hs⟩:=ha;obtain⟨t,rfl,ht⟩:=hb;refine Q0 hs.ok ht ?_;by_cases e:s=t
 .subst e;rw[M4];simp
 .rw[W1 (λz=>e (by cases z;rfl))];simp[e]
def cX1(ha:F9 a)(hb:F9 b):eqD a b=Z (.bool<|same a b):=bT7 ha hb.l
theorem aU8{g:D->Rho->Option Rho}{f:DS}{I:Rho->Prop}{d:D}:∀(X:List D) (i:Nat) (ρ:Rho),I ρ->(∀j x,j < i->X[j]? = Z x->∀ρ,I ρ->∃ρ1,g x ρ=Z ρ1/\∃ρ',f ρ1=Z (.nx ρ')/\I ρ')->(∀x,X[i]? = Z x->∀ρ,I ρ->∃ρ1,g x ρ=Z ρ1/\f ρ1=Z (.rt d))->i < X.length->j8 g f X ρ=Z (.rt d)
 | [],i,ρ,_,_,_,h=>absurd h<|dS i
 | x::X,0,ρ,h0,_,H,_=>by
  obtain⟨ρ1,e1,e2⟩:=H x rfl ρ h0;simp only[j8,e1,xbs,e2]
 | x::X,i+1,ρ,h0,S,H,hl=>by
  obtain⟨ρ1,e1,ρ',e2,h2⟩:=S 0 x (by grind) rfl ρ h0;have:=aU8 X i ρ' h2 (λj y hj hy=>S (j+1) y (by grind)<|by simpa using hy) (λy hy=>H y<|by simpa using hy) (by simpa using hl);simp only[j8,e1,xbs,e2,this]
theorem aI1{g:D->Rho->Option Rho}{f:DS}{I:Rho->Prop}:∀(X:List D) (ρ:Rho),I ρ->(∀x∈X,∀ρ,I ρ->∃ρ1,g x ρ=Z ρ1/\∃ρ',f ρ1=Z (.nx ρ')/\I ρ')->∃ρ',j8 g f X ρ=Z (.nx ρ')/\I ρ'
 | [],ρ,h,_=>⟨ρ,rfl,h⟩
 | x::X,ρ,h,H=>by
  obtain⟨ρ1,e1,ρ2,e2,h2⟩:=H x (ah ..) ρ h;obtain⟨ρ',e3,h3⟩:=aI1 X ρ2 h2 λy hy=>H y<|xmm _ hy
  exact⟨ρ',by simp only[j8,e1,xbs,e2,e3],h3⟩
def name_of(n:Nd):V9 [n.d]=Z n.nm:=by cases n<;>(rw[fQ];rfl)
def nab:DS:=(sIf (tB2 eqD (A3 V9<|A0 (A1 3) A2)<|A1 1) (B1<|A1 2) C2)
def bj1{n:Nd}{nm:D}(h1:F9 n.nm)(h2:aM6 nm)(a0 a2:Option B)(k:D):nab [a0,‹nm›,‹k›,‹n.d›]=if same n.nm nm=true then Z (.rt k) else Z (.nx [a0,‹nm›,‹k›,‹n.d›]):=by simp only[nab,sIf,tB2,A5,A3,A0,A2,A1,name_of,bT7 h1 h2,M8,B1,C2,xbs,xms,xg0,xg1]
def ag7(l:List Nd)(j:Nat):(fR l)[j]? = (l[j]?).map fQ:=by rw[D8,aF]
def aw0(hs:∀n∈l,F9 n.nm)(hn:aM6 nm)(h:∀n∈l,n.nm≠nm):E5 [↥l,nm]=Z .none:=by
 refine B2 (ρ:=[‹↥l›,‹nm›,O,O]) rfl ?_
 obtain⟨ρ',e,_⟩:=ag4 (g:=S7 2 (D0 (B9 2) (D0 (B9 3) T4))) (f:=nab) (h:=id) (I:=λ_ ρ=>∃a2 a3,ρ=[‹↥l›,‹nm›,a2,a3]) (aA8 (fR l)) 0 [‹↥l›,‹nm›,O,O] ⟨O,O,rfl⟩ (λj d hj ρ hρ=>by
  obtain⟨a2,a3,rfl⟩:=hρ;rw[as4,ag7]at hj;cases q:l[j]? with
  | none=>rw[q]at hj;cases hj
  | some n =>
   rw[q]at hj;cases hj;have hm:=cA q;refine⟨_,rfl,[‹↥l›,‹nm›,‹.int j›,‹n.d›],?_,_,_,rfl⟩;have:=bj1 (hs n hm) hn (‹↥l›) O (.int j);rw[W1 (h n hm)]at this
   exact this)
 rw[List.map_id]at e;have s0:(W9 (bb9<|qE (A1 0)) (S7 2<|D0 (B9 2) (D0 (B9 3) T4)) nab) [‹↥l›,‹nm›,O,O]=Z (.nx ρ'):=e;exact(A6 s0).trans rfl
def ar4(hs:∀n∈l,F9 n.nm)(hn:F9 nm)(h:∀n∈l,n.nm≠nm):E5 [↥l,nm]=Z .none:=aw0 hs hn.l h
def aG7{a b:List Nd}{n:Nd}(hs:∀n'∈a,F9 n'.nm)(hn:F9 n.nm)(h:∀n'∈a,n'.nm≠n.nm):E5 [↥(a++n::b),n.nm]=Z (.int a.length):=by
 refine B2 (ρ:=[‹↥(a++n::b)›,‹n.nm›,O,O]) rfl ?_
 have e:=aU8 (g:=S7 2 (D0 (B9 2) (D0 (B9 3) T4))) (f:=nab) (d:=.int a.length) (I:=λρ=>∃a2 a3,ρ=[‹↥(a++n::b)›,‹n.nm›,a2,a3]) (aA8 (fR (a++n::b))) a.length [‹↥(a++n::b)›,‹n.nm›,O,O] ⟨O,O,rfl⟩ (λj x hj hx ρ hρ=>by
  obtain⟨a2,a3,rfl⟩:=hρ;rw[as4,ag7,aX hj,am hj]at hx;cases hx;have hm:=aS hj;refine⟨_,rfl,[‹↥(a++n::b)›,‹n.nm›,‹.int j›,Z (.val (a[j]).d)],?_,_,_,rfl⟩;have:=bj1 (hs _ hm) hn.l (‹↥(a++n::b)›) O (.int j);rw[W1 (h _ hm)]at this;exact this) (λx hx ρ hρ=>by
  obtain⟨a2,a3,rfl⟩:=hρ;rw[as4,ag7,aM (aj _),bW]at hx;cases hx;refine⟨_,rfl,?_⟩;have:=bj1 hn hn.l (‹↥(a++n::b)›) O (.int a.length);rw[M4]at this
  exact this) (by rw[bc2,D8,ag,ae];simp)
 have s0:(W9 (bb9<|qE (A1 0)) (S7 2<|D0 (B9 2) (D0 (B9 3) T4)) nab) [‹↥(a++n::b)›,‹n.nm›,O,O]=Z (.rt<|.int a.length):=e;exact G2 s0
def D3(n:Nd):K4 [n.d]=Z (.bool (match n with | .group ..=>true|_=>false)):=by
 have e_tg:eqD (.str "tone") (.str "group")=Z (.bool false):=Q0 (by decide +kernel) (by decide +kernel) (by decide +kernel);cases n with
 | layer nm m s sh lf tp mk w h l kb=>rw[fQ];exact rX1<|congrArg (cr Fl.rt) bA8
 | tone nm r s sh=>rw[fQ];exact rX1<|congrArg (cr Fl.rt) e_tg
 | group nm m s sh ns=>rw[fQ];exact rX1<|congrArg (cr Fl.rt) bA9
def cT9(ds:List D):aw2 (.tuple ds) .none=Z (.bool true):=rfl
def cU0(i:Int):aw2 (.int i) .none=Z (.bool true):=rfl
def ae4(h:nm∉Nd.nmss l):∀n∈l,n.nm≠nm:=λn hn e=>h<|e ▸ K8 hn (M3 n)
def v6(h:∀d∈Nd.nmss l,F9 d):∀n∈l,F9 n.nm:=λn hn=>h _<|K8 hn (M3 n)
def twb(f:Nat):DS:=(sIf (J5<|A3 K4 (A0 (A1 2) A2)) (A7 (B3 3<|A3 (F5 f) (A0 (A3 E6<|A0 (A1 2) A2)<|A0 (A1 1) A2))<|sIf (tB2 aw2 (A1 3)<|dC .none) (B1<|A1 3) C2) C2)
def J0(h:n∈l):n.dp<=fW l:=by
 obtain⟨a,b,rfl⟩:=ck h;rw[J6,fW];grind
def bG9(nm:D)(hn:aM6 nm):∀(k:Nat) (l:List Nd) (f:Nat),fW l<=k->k+1<=f->(∀d∈Nd.nmss l,F9 d)->nm∉Nd.nmss l->F5 f [↥l,nm]=Z .none:=by
 intro k
 induction k with
 | zero =>
  intro l f hd hf hs hni;obtain⟨f,rfl⟩:∃g,f=g+1:=⟨f - 1,by grind⟩;have e0:=aw0 (v6 hs) hn<|ae4 hni
  obtain⟨ρ',e,a2,a3,hρ⟩:=aI1 (g:=B9 2) (f:=twb f) (I:=λρ=>∃a2 a3,ρ=[‹↥l›,‹nm›,a2,a3]) (fR l) [‹↥l›,‹nm›,O,O] ⟨O,O,rfl⟩ (λx hx ρ hρ=>by
   obtain⟨a2,a3,rfl⟩:=hρ;rw[D8]at hx;obtain⟨n,hm,rfl⟩:=aP.mp hx;refine⟨_,rfl,[‹↥l›,‹nm›,‹n.d›,a3],?_,_,_,rfl⟩;have:=J0 hm;cases n with
   | group _ _ _ _ _=>rw[fV]at this;grind
   | layer=>exists evD,twb,D3
   | tone=>exists evD,twb,D3)
  subst hρ;refine B2 (g:=L3<|F5 f) (ρ:=[‹↥l›,‹nm›,O,O]) rfl ?_;unfold twb at e
  exists evD,L3,W9,e0,aG9,e
 | succ k ih =>
  intro l f hd hf hs hni;obtain⟨f,rfl⟩:∃g,f=g+1:=⟨f - 1,by grind⟩;have e0:=aw0 (v6 hs) hn<|ae4 hni
  obtain⟨ρ',e,a2,a3,hρ⟩:=aI1 (g:=B9 2) (f:=twb f) (I:=λρ=>∃a2 a3,ρ=[‹↥l›,‹nm›,a2,a3]) (fR l) [‹↥l›,‹nm›,O,O] ⟨O,O,rfl⟩ (λx hx ρ hρ=>by
   obtain⟨a2,a3,rfl⟩:=hρ;rw[D8]at hx;obtain⟨n,hm,rfl⟩:=aP.mp hx;have hdp:=J0 hm;refine⟨_,rfl,?_⟩;cases n with
   | group nm' m s sh ns =>
    rw[fV]at hdp;have sub:∀d∈Nd.nmss ns,d∈Nd.nmss l:=λd hd=>K8 hm (by rw[Nd.nms];exact xmm _ hd)
    have e1:=ih ns f (by grind) (by grind) (λd hd=>hs d<|sub d hd) (λz=>hni<|sub _ z);refine⟨[‹↥l›,‹nm›,‹fQ (.group nm' m s sh ns)›,Z (.val .none)],?_,_,_,rfl⟩
    exists evD,twb,D3,as3,e1,aG9
   | layer=>exact⟨_,by exists evD,twb,D3;rfl,_,_,rfl⟩
   | tone=>exact⟨_,by exists evD,twb,D3;rfl,_,_,rfl⟩)
  subst hρ;refine B2 (g:=L3<|F5 f) (ρ:=[‹↥l›,‹nm›,O,O]) rfl ?_;unfold twb at e
  exists evD,L3,W9,e0,aG9,e
def ca5(nm:D)(hn:F9 nm)(k:Nat)(l:List Nd)(f:Nat):fW l<=k->k+1<=f->(∀d∈Nd.nmss l,F9 d)->nm∉Nd.nmss l->F5 f [↥l,nm]=Z .none:=bG9 nm hn.l k l f
inductive Stands (a:List Nd) (n:Nd) (b:List Nd):List Nd->Prop
 | top:Stands a n b (a++n::b)
 | deep {c e:List Nd}{nm:D}{m:Man}{s:Rat}{sh:Bool}{ns:List Nd}:Stands a n b ns->Stands a n b (c ++ .group nm m s sh ns::e)
def Stands.nm(h:Stands a n b l):∀d∈n.nms,d∈Nd.nmss l:=by
 induction h with
 | top=>intro d hd;rw[C0,Nd.nmss];simp[hd]
 | deep _ ih=>intro d hd;rw[C0,Nd.nmss,Nd.nms];simp[ih d hd]
def ca4{a b:List Nd}{n:Nd}(hn:F9 n.nm){l:List Nd}(h:Stands a n b l):∀f:Nat,fW l+1<=f->(∀d∈Nd.nmss l,F9 d)->(Nd.nmss l).Nodup->F5 f [↥l,n.nm]=Z ↥(a++n::b):=by
 induction h with
 | top =>
  intro f hf hs hd;obtain⟨f,rfl⟩:∃g,f=g+1:=⟨f - 1,by grind⟩;rw[C0,Nd.nmss]at hd
  have e0:=aG7 (a:=a) (b:=b) (n:=n) (λn' hn'=>v6 hs n' (ar _ hn')) hn (λn' hn' e=>by
   have d1:=(aJ.mp hd).2.2
   exact d1 n'.nm (K8 hn' (M3 n')) n.nm (ar _ (M3 n)) e)
  refine B2 (g:=L3<|F5 f) (ρ:=[‹↥(a++n::b)›,‹n.nm›,O,O]) rfl ?_
  exists evD,L3,e0,cU0
 | @deep c e nm m s sh ns h ih =>
  intro f hf hs hd;obtain⟨f,rfl⟩:∃g,f=g+1:=⟨f - 1,by grind⟩;rw[J6,fW,fV]at hf;have hin:=h.nm n.nm (M3 n);rw[C0,Nd.nmss,Nd.nms]at hd;have dc:=(aJ.mp hd);have dg:=(aJ.mp dc.2.1);have dn:=bn.mp dg.1;have hc:n.nm∉Nd.nmss c:=λz=>dc.2.2 n.nm z n.nm (by simp[hin]) rfl
  have hg:nm≠n.nm:=λz=>dn.1<|z ▸ hin
  have he:n.nm∉Nd.nmss e:=λz=>dg.2.2 n.nm (by simp[hin]) n.nm z rfl
  have hsc:∀d∈Nd.nmss c,F9 d:=λd hd=>hs d (by rw[C0];simp[hd])
  have hsn:∀d∈Nd.nmss ns,F9 d:=λd hd=>hs d (by rw[C0,Nd.nmss,Nd.nms];simp[hd])
  have e0:=ar4 (l:=c ++ .group nm m s sh ns::e) (v6 hs) hn (λn' hn' z=>by
   rcases az.mp hn' with q|q
   .exact ae4 hc n' q z
   .rcases ao.mp q with rfl|q
    .exact hg z
    .exact ae4 he n' q z)
  have e1:=ih f (by grind) hsn dn.2
  have e2:=aU8 (g:=B9 2) (f:=twb f) (d:=.tuple (fR (a++n::b))) (I:=λρ=>∃a2 a3,ρ=[‹↥(c ++ .group nm m s sh ns::e)›,‹n.nm›,a2,a3]) (fR (c ++ .group nm m s sh ns::e)) c.length [‹↥(c ++ .group nm m s sh ns::e)›,‹n.nm›,O,O] ⟨O,O,rfl⟩ (λj x hj hx ρ hρ=>by
   obtain⟨a2,a3,rfl⟩:=hρ;rw[ag7,aX hj,am hj]at hx;cases hx;have hm:=aS hj;have hdp:=J0 hm;refine⟨_,rfl,?_⟩;cases q:c[j] with
   | group nm' m' s' sh' ns' =>
    rw[q]at hm hdp;rw[fV]at hdp;have sub:∀d∈Nd.nmss ns',d∈Nd.nmss c:=λd hd=>K8 hm (by rw[Nd.nms];exact xmm _ hd)
    have e3:=ca5 n.nm hn (fW ns') ns' f (aj _) (by grind) (λd hd=>hsc d<|sub d hd) (λz=>hc<|sub _ z);refine⟨[‹↥(c ++ .group nm m s sh ns::e)›,‹n.nm›,‹fQ (.group nm' m' s' sh' ns')›,Z (.val .none)],?_,_,_,rfl⟩
    exists evD,twb,D3,as3,e3,aG9
   | layer=>exact⟨_,by exists evD,twb,D3;rfl,_,_,rfl⟩
   | tone=>exact⟨_,by exists evD,twb,D3;rfl,_,_,rfl⟩) (λx hx ρ hρ=>by
   obtain⟨a2,a3,rfl⟩:=hρ;rw[ag7,aM (aj _),bW]at hx;cases hx;refine⟨_,rfl,?_⟩
   exists evD,twb,D3,as3,e1,cT9) (by rw[D8,ag,ae];simp)
  refine B2 (g:=L3<|F5 f) (ρ:=[‹↥(c ++ .group nm m s sh ns::e)›,‹n.nm›,O,O]) rfl ?_;unfold twb at e2
  exists evD,L3,W9,e0,aG9,e2
def aE8:L8 [fQ (.group nm m s sh ns),↥ns']=Z (fQ<|.group nm m s sh ns'):=by
 rw[fQ,fQ];rfl
def aG6(hl:l.length<=1000)(e0:E5 [↥l,nm]=Z .none)(hz:l'.length=l.length)(H:∀(j:Nat) (hj:j < l.length),J3 f [(l[j]).d,nm,oth]=Z ((l'[j]'(by omega)).d)):
  G7 (f+1) [↥l,nm,oth]=Z ↥l':=by
 refine B2 (g:=K6<|am5 f) (ρ:=[‹↥l›,‹nm›,‹oth›]) rfl ?_
 have c:D1 1 [1,2] (K1<|A1 0) (B9 0) F6 (A3 (am5 f 1)<|A0 (A1 0) (A0 (A1 1)<|A0 (A1 2) A2)) [‹↥l›,‹nm›,‹oth›]=Z (fR l'):=by
  have q:fR l=(ay l.length).map λj=>((l[j]?).map fQ).getD .none:=by
   rw[D8];apply dw;intro j;rw[aF,aF];by_cases hj:j < l.length
   .simp[du hj,am hj]
   .rw[bg (by omega),bg (by rw[aU];omega)];rfl
  have q':fR l'=(ay l.length).map λj=>((l'[j]?).map fQ).getD .none:=by
   rw[D8];apply dw;intro j;rw[aF,aF];by_cases hj:j < l.length
   .have hj':j < l'.length:=by omega
    simp[du hj,am hj']
   .rw[bg (by omega),bg (by rw[aU];omega)];rfl
  rw[q'];refine V2 (l:=ay l.length) (h:=λj=>((l[j]?).map fQ).getD .none) (r:=[‹nm›,‹oth›]) rfl (by rw[← q];rfl) (by rw[aU];exact hl) λj hj=>?_
  have hj:=aR.mp hj;have:=H j hj;rw[am hj,am (by omega)];exact this
 simp only[K6,A7,sIf,C2,tB2,A5,A3,A0,A2,A1,dC,e0,aG9,M8,B1,U7,qN,c,xbs,xms,xg0,xg1,xft,if_false]
def af7{n:Nd}{nm oth:D}{f:Nat}(h:n.dp=0):J3 (f+1) [n.d,nm,oth]=Z n.d:=by
 refine B2 (g:=J1<|am5 f) (ρ:=[‹n.d›,‹nm›,‹oth›]) rfl ?_;cases n with
 | group=>rw[fV]at h;grind
 | layer=>exists evD,J1,D3
 | tone=>exists evD,J1,D3
def aw1(h:G7 f [↥ns,nm,oth]=Z ↥ns'):J3 (f+1) [fQ (.group nm' m s sh ns),nm,oth]=Z (fQ<|.group nm' m s sh ns'):=by
 refine B2 (g:=J1<|am5 f) (ρ:=[‹fQ (.group nm' m s sh ns)›,‹nm›,‹oth›]) rfl ?_;have h':am5 f 0 [↥ns,nm,oth]=Z ↥ns':=h
 exists evD,J1,D3,as3,h',aE8
def cB8(nm:D)(hn:F9 nm)(oth:D):∀(k:Nat) (l:List Nd) (f:Nat),fW l<=k->2*k+2<=f->(∀d∈Nd.nmss l,F9 d)->nm∉Nd.nmss l->l.length<=1000->Nd.thins l->G7 f [↥l,nm,oth]=Z ↥l:=by
 intro k
 induction k with
 | zero =>
  intro l f hd hf hs hni hl ht;obtain⟨f,rfl⟩:∃g,f=g+2:=⟨f - 2,by grind⟩;refine aG6 hl (ar4 (v6 hs) hn<|ae4 hni) rfl λj hj=>?_
  have:=J0 (aS hj);exact af7 (by grind)
 | succ k ih =>
  intro l f hd hf hs hni hl ht;obtain⟨f,rfl⟩:∃g,f=g+2:=⟨f - 2,by grind⟩;refine aG6 hl (ar4 (v6 hs) hn<|ae4 hni) rfl λj hj=>?_
  have hm:=aS hj;have hdp:=J0 hm;have htn:=(P4 l).mp ht _ hm;generalize l[j]=n at hm hdp htn;cases n with
  | group nm' m s sh ns =>
   rw[fV]at hdp;rw[Nd.thin]at htn;have sub:∀d∈Nd.nmss ns,d∈Nd.nmss l:=λd hd=>K8 hm (by rw[Nd.nms];exact xmm _ hd)
   exact aw1 (ih ns f (by grind) (by grind) (λd hd=>hs d<|sub d hd) (λz=>hni<|sub _ z) htn.1 htn.2)
  | layer=>exact af7 rfl
  | tone=>exact af7 rfl
def cB9(nm:D)(hn:F9 nm)(oth:D)(n:Nd)(f:Nat)(hf:2*n.dp+1<=f)(hs:∀d∈n.nms,F9 d)(hni:nm∉n.nms)(ht:n.thin):J3 f [n.d,nm,oth]=Z n.d:=by
 obtain⟨f,rfl⟩:∃g,f=g+1:=⟨f - 1,by grind⟩;cases n with
 | group nm' m s sh ns =>
  rw[fV]at hf;rw[Nd.thin]at ht;rw[Nd.nms]at hs hni;exact aw1 (cB8 nm hn oth (fW ns) ns f (aj _) (by grind) (λd hd=>hs d<|xmm _ hd) (λz=>hni<|xmm _ z) ht.1 ht.2)
 | layer=>exact af7 rfl
 | tone=>exact af7 rfl
structure StProps (a:List Nd) (n:Nd) (b l:List Nd):Prop where
 ok:fT l->n.Ok
 wg:n.wg<=fU l
 dp:n.dp<=fW l
 nd:(Nd.nmss l).Nodup->(Nd.nmss (a++n::b)).Nodup
 sub:∀d∈Nd.nmss (a++n::b),d∈Nd.nmss l
 len:l.length<=1000->Nd.thins l->(a++n::b).length<=1000
def Stands.props(h:Stands a n b l):StProps a n b l:=by
 induction h with
 | top =>
  refine⟨λo=>(R8 _).mp o n (by simp),?_,?_,λh=>h,λd h=>h,λh _=>h⟩
  .rw[aa7,fU];grind
  .rw[J6,fW];grind
 | @deep c e nm m s sh ns h ih =>
  refine⟨λo=>?_,?_,?_,λhd=>?_,λd hd=>?_,λhl ht=>?_⟩
  .have og:=(R8 _).mp o (.group nm m s sh ns) (by simp);rw[fS]at og;exact ih.ok og.2
  .have:=ih.wg;rw[aa7,fU,Nd.wg];grind
  .have:=ih.dp;rw[J6,fW,fV];grind
  .rw[C0,Nd.nmss,Nd.nms]at hd;exact ih.nd (bn.mp (aJ.mp (aJ.mp hd).2.1).1).2
  .rw[C0,Nd.nmss,Nd.nms];simp[ih.sub d hd]
  .have tg:=(P4 _).mp ht (.group nm m s sh ns) (by simp);rw[Nd.thin]at tg;exact ih.len tg.1 tg.2
def alb(f:Nat):DS:=(A7 (x0 1<|A1 2)<|sIf (tB2 eqD (dIx (A8 2) ⇑0)<|dC (.str "group")) (ae1 1<|by7 (A8 1) (qE<|A3 (G6 f) (A0 (dIx (A8 2) ⇑5) A2))) C2)
def e_tg:eqD (.str "tone") (.str "group")=Z (.bool false):=Q0 (by decide +kernel) (by decide +kernel) (by decide +kernel)
def bf4{n:Nd}(f:Nat)(h:n.dp=0)(a0:Option B)(X:List D)(hX:X.length < 1000):alb f [a0,Z (.own X),‹n.d›]=Z (.nx [a0,Z (.own<|X++[n.d]),‹n.d›]):=by
 have hx:X.length < 16777216:=by grind
 unfold alb;refine(A6 (by simp only[x0,xg0,xg1,if_pos hx,A1,xms,xw0,xw1];rfl)).trans ?_;cases n with
 | group=>rw[fV]at h;grind
 | layer=>rw[fQ];exists evD,aB3,bA8
 | tone=>rw[fQ];exists evD,bf1,e_tg
def bE7(f:Nat)(a0:Option B)(X Y:List D)(hX:X.length < 1000)(hY:Y.length < 1000)(e:G6 f [↥ns]=Z (.list Y)):alb f [a0,Z (.own X),‹fQ (.group nm m s sh ns)›]=Z (.nx [a0,Z (.own<|X++[fQ (.group nm m s sh ns)]++Y),‹fQ (.group nm m s sh ns)›]):=by
 have hx:X.length < 16777216:=by grind
 unfold alb;refine(A6 (by simp only[x0,xg0,xg1,if_pos hx,A1,xms,xw0,xw1];rfl)).trans ?_
 have hc:by7 (A8 1) (qE<|A3 (G6 f) (A0 (dIx (A8 2) ⇑5) A2)) [a0,Z (.own<|X++[fQ (.group nm m s sh ns)]),‹fQ (.group nm m s sh ns)›]=Z (X++[fQ (.group nm m s sh ns)]++Y):=by
  have q2:qE (A3 (G6 f)<|A0 (dIx (A8 2) ⇑5) A2) [a0,Z (.own<|X++[fQ (.group nm m s sh ns)]),‹fQ (.group nm m s sh ns)›]=Z (false,Y):=by
   rw[show fQ (.group nm m s sh ns)=.tuple [.str "group", nm,.str m.s,fr s,.bool sh,↥ns] by rw[fQ]]
   exists evD,bf0,e
  unfold by7;rw[q2];show(if false=false/\false=false/\(X++[fQ (.group nm m s sh ns)]).length+Y.length<=16777216 then Z (X++[fQ (.group nm m s sh ns)]++Y) else O)=_;rw[if_pos ⟨rfl,rfl,by rw[ae];show X.length+1+Y.length<=_;grind⟩]
 have ht:tB2 eqD (dIx (A8 2) ⇑0) (dC<|.str "group") [a0,Z (.own<|X++[fQ (.group nm m s sh ns)]),‹fQ (.group nm m s sh ns)›]=Z true:=by
  rw[show fQ (.group nm m s sh ns)=.tuple [.str "group", nm,.str m.s,fr s,.bool sh,↥ns] by rw[fQ]]
  exists evD,aJ0,bA9
 simp only[sIf,ht,xbs,if_true,ae1,hc,xms,xw0,xw1]
def Low(s:Str):Prop:=∀c∈s.cps.toList,97<=c/\c<=122
def Nm(d:D):Prop:=∃s:Str,d=.str s/\Low s/\1<=s.length/\s.length<=6
def cE0(c:Nat)(h1:97<=c)(h2:c<=122):inS false (.str ⟨#[c]⟩) (.str "abcdefghijklmnopqrstuvwxyz")=Z (.bool true):=by
 have h:∀k:Fin 26,ck8 ⟨#[97+k.val]⟩ "abcdefghijklmnopqrstuvwxyz" = true:=by decide +kernel
 have:=h ⟨c - 97,by omega⟩;simp only[show 97+(c - 97)=c by omega]at this;show Z (fF<|ck8 ⟨#[c]⟩ "abcdefghijklmnopqrstuvwxyz")=_;rw[this]
def aJ1{α:Type}(l:List α):aW8 (l.map λ_=>fF true)=Z true:=by rw[at9 (λ_=>true)];simp
def by6(h:Nm d):ay5 [d]=Z (.bool true):=by
 obtain⟨s,rfl,lo,l1,l6⟩:=h
 have as:s.cps.all (· < 128)=true:=by
  rw[Array.all_eq_true'];intro c hc;have:=lo c (cC.mpr hc);exact decide_eq_true (by grind)
 have ll:s.cps.toList.length=s.length:=by unfold Str.length;simp
 have al:D1 1 [] (ck7<|A1 0) (B9 0) F6 (A5 (inS false) (A1 0)<|dC (.str "abcdefghijklmnopqrstuvwxyz")) [‹.str s›]=Z (s.cps.toList.map λ_=>.bool true):=by
  refine V2 (l:=s.cps.toList) (h:=λc=>.str ⟨#[c]⟩) (r:=[]) rfl ?_ (by grind) λc hc=>cE0 c (lo c hc).1 (lo c hc).2
  show(if s.cps.all (· < 128)=true then Z (aY4 s) else O)=_;rw[if_pos as];rfl
 have z:s.length<=16777216:=by grind
 have a':(1:Int)<=s.length:=by grind
 have b':(s.length:Int)<=6:=by grind
 refine rX1 ?_
 exists evD,aR1,bu3,if_pos z,al,aJ1,a',b',decide_true
def aZ9(h1:-9<=i)(h2:i<=9):u8 [.int i]=Z (.bool true):=by
 refine rX1 ?_;have w1:O6 [.int i]=Z (.bool true):=rfl
 exists evD,aB9,ax2,w1,h1,h2,decide_true
def bz2(w8:w<=8)(h8:h<=8)(len:l.length=w*h)(hm:∀ms,mk=Z ms->ms.length=w*h/\∀r∈ms,Sr 4 r):ay6 [mkD mk,shD w h l]=Z (.bool true):=by
 refine rX2 ?_;cases mk with
 | none=>rfl
 | some ms =>
  obtain⟨lm,hr⟩:=hm ms rfl;have wh:w*h<=64:=bQ w8 h8
  have al:∀q:Option B,D1 1 [] (K1<|A1 0) (B9 0) F6 (A3 W0<|A0 (A1 0) A2) [‹.tuple (ms.map fr)›,q]=Z (ms.map λ_=>.bool true):=λq=>by
   refine V2 (l:=ms) (h:=fr) (r:=[]) rfl rfl (by grind) λx hx=>?_
   have:=V6 (hr x hx).h (by decide)
   exists evD,this
  have i1:isB (.tuple<|ms.map fr) .none=Z (.bool false):=rfl;have n1:(((ms.map fr).length:Nat):Int)=((w*h:Nat):Int):=by rw[ag,lm]
  have n2:(((l.map fP).length:Nat):Int)=((w*h:Nat):Int):=by rw[ag,len]
  have n3:neD (.int ((w*h:Nat):Int)) (.int ((w*h:Nat):Int))=Z (.bool false):=by rw[cg1];simp
  exists evD,aR2,mkD,shD,al,aJ1,i1,n1,n2,beq_self_eq_true
def cr0(hx:M1 x=true)(hd:ds.all M1=true)(h:inV (toV x) (ds.map toV)=v):inD neg x (.tuple ds)=Z (.bool (if neg then !v else v)):=by
 subst h;show(if M1 x=true/\ds.all M1=true then _ else _)=_;rw[if_pos ⟨hx,hd⟩]
def aT5(m:Man):inD true (.str m.s) (.tuple [.str "over", .str "multiply", .str "screen", .str "plus", .str "atop", .str "cut"])=Z (.bool false) :=
 cr0 (v:=true) rfl rfl (by cases m<;>decide +kernel)
def cx7(r:Rul):inD false (.str r.s) (.tuple [.str "turn", .str "grey", .str "round"])=Z (.bool true) :=
 cr0 (v:=true) rfl rfl (by cases r<;>decide +kernel)
mutual
def Nd.off:Nd->Prop
 | .layer _ _ _ _ lf tp _ _ _ _ kb=>-9<=lf/\lf<=9/\-9<=tp/\tp<=9/\kb<=4000
 | .tone ..=>True
 | .group _ _ _ _ ns=>ns.length<=1000/\Nd.offs ns
def Nd.offs:List Nd->Prop
 | []=>True
 | n::r=>n.off/\Nd.offs r
end
theorem ar3:∀l:List Nd,Nd.offs l↔∀n∈l,n.off
 | []=>by simp[Nd.offs]
 | n::r=>by simp[Nd.offs,ar3 r]
def strength_of(n:Nd):∃s,W2 [n.d]=Z (fr s)/\(n.Ok->Sr 4 s):=by
 cases n with
 | layer nm m s sh lf tp mk w h l kb=>exact⟨s,by rw[fQ];rfl,λo=>by rw[fS]at o;exact o.1⟩
 | tone nm r s sh=>exact⟨s,by rw[fQ];rfl,λo=>by rw[fS]at o;exact o⟩
 | group nm m s sh ns=>exact⟨s,by rw[fQ];rfl,λo=>by rw[fS]at o;exact o.1⟩
def bI0(n:Nd):∃b,ad5 [n.d]=Z (.bool b):=by cases n<;>exact⟨_,by rw[fQ];rfl⟩
def bH1(b:Bool):ap8 [.bool b]=Z (.bool true):=rfl
def bN5(o:(Nd.layer nm m s sh lf tp mk w h l kb).Ok)(f:(Nd.layer nm m s sh lf tp mk w h l kb).off):N1 [(Nd.layer nm m s sh lf tp mk w h l kb).d]=Z (.bool true):=by
 rw[fS]at o;rw[Nd.off]at f;obtain⟨hs,S,_,hm,_⟩:=o;obtain⟨f1,f2,f3,f4,f5⟩:=f;rw[fQ];refine rX1 ?_;have e1:∀a b c d e f g h i:D,O3 [.tuple [a,b,c,d,e,f,g,h,i]]=Z c:=λ_ _ _ _ _ _ _ _ _=>rfl
 have e2:∀a b c d e f g h i:D,R4 [.tuple [a,b,c,d,e,f,g,h,i]]=Z i:=λ_ _ _ _ _ _ _ _ _=>rfl
 have e3:∀a b c d e f g h i:D,ai5 [.tuple [a,b,c,d,e,f,g,h,i]]=Z f:=λ_ _ _ _ _ _ _ _ _=>rfl
 have e4:∀a b c d e f g h i:D,au9 [.tuple [a,b,c,d,e,f,g,h,i]]=Z g:=λ_ _ _ _ _ _ _ _ _=>rfl
 have e5:∀a b c d e f g h i:D,ay2 [.tuple [a,b,c,d,e,f,g,h,i]]=Z h:=λ_ _ _ _ _ _ _ _ _=>rfl
 have e6:∀a b c d e f g h i:D,((([a,b,c,d,e,f,g,h,i]:List D).length:Nat):Int)=9:=λ_ _ _ _ _ _ _ _ _=>rfl
 exists evD,Y9,e1,e2,e3,e4,e5,e6,beq_self_eq_true,aT5,bb8 S (by grind),aZ9 f1 f2,aZ9 f3 f4,bz2 S.w8 S.h8 S.len hm
def ca8:R6 [fQ (.tone nm r s sh)]=Z (.bool false):=by
 have e:eqD (.str "tone") (.str "layer")=Z (.bool false):=Q0 (by decide +kernel) (by decide +kernel) (by decide +kernel);rw[fQ];exact rX1<|congrArg (cr Fl.rt) e
def dc6(n:Nd):∃ds:List D,n.d=.tuple ds/\5<=ds.length/\(∀nm r s sh,n=.tone nm r s sh->ds.length=5):=by
 cases n with
 | layer=>exact⟨_,by rw[fQ],by simp,λ_ _ _ _ h=>by cases h⟩
 | tone=>exact⟨_,by rw[fQ],by simp,λ_ _ _ _ _=>rfl⟩
 | group=>exact⟨_,by rw[fQ],by simp,λ_ _ _ _ h=>by cases h⟩
def aD9(n:Nd)(f:Nat)(dd:D)(o:n.Ok)(hn:Nm n.nm)(h:(A7 (sIf (J5<|A3 R6 (A0 (A1 0) A2)) (B1<|A3 N1 (A0 (A1 0) A2)) C2)<|A7 (sIf (J5<|A3 K4 (A0 (A1 0) A2)) (B1<|A3 (A4 f 0) (A0 (A1 0)<|A0 (A1 1) A2)) C2) (B1<|T7 (A3 aa4<|A0 (A1 0) A2) (T7 (A5 eqD (S2<|A8 0) ⇑5)<|A5 (inD false) (A3 ai4<|A0 (A1 0) A2) (dC<|.tuple [(.str "turn"),(.str "grey"),(.str "round")])))) [‹n.d›,‹dd›]=z):K3 (A4 f) [‹n.d›,‹dd›]=z:=by
 obtain⟨s,es,hs⟩:=strength_of n;obtain⟨b,eb⟩:=bI0 n;have en:=name_of n;have et:=by6 hn;have eh:=V6 (hs o).h (by decide);obtain⟨ds,ed,l5,_⟩:=dc6 n;unfold K3;rw[A6 (ρ':=[‹n.d›,‹dd›]),A6 (ρ':=[‹n.d›,‹dd›])]
 .exact h
 .exists evD,en,et,es,eh,eb,bH1
 .have l5':¬((ds.length:Nat):Int) < 5:=by omega
  rw[ed]
  exists evD,decide_eq_false l5'
def cM4(hl:l.length<=1000)(H:∀n∈l,P3 f [n.d,dd]=Z (.bool true)):R7 (f+1) [↥l,dd]=Z (.bool true):=by
 refine B2 (g:=X5<|A4 f) (ρ:=[‹↥l›,‹dd›]) rfl ?_
 have al:D1 1 [1] (K1<|A1 0) (B9 0) F6 (A3 (A4 f 1)<|A0 (A1 0) (A0 (A1 1) A2)) [‹↥l›,‹dd›]=Z (l.map λ_=>.bool true):=by
  refine V2 (l:=l) (h:=fQ) (r:=[‹dd›]) rfl (by rw[D8];rfl) hl λx hx=>?_
  exact H x hx
 exists evD,X5,al,aJ1
def bS2:∀(k:Nat) (n:Nd) (f:Nat) (dd:Nat),n.dp<=k->k<=dd->3*k+1<=f->n.Ok->n.off->(∀d∈n.nms,Nm d)->P3 f [n.d,.int dd]=Z (.bool true):=by
 intro k
 induction k with
 | zero =>
  intro n f dd hd hk hf o of hn;obtain⟨f,rfl⟩:∃g,f=g+1:=⟨f - 1,by grind⟩;refine B2 (g:=K3<|A4 f) (ρ:=[‹n.d›,‹.int dd›]) rfl (aD9 n f _ o (hn _<|M3 n) ?_);cases n with
  | group=>rw[fV]at hd;grind
  | layer nm m s sh lf tp mk w h l kb =>
   have el:=bN5 o of
   exists evD,bs3,el
  | tone nm r s sh =>
   have e1:ai4 [fQ (.tone nm r s sh)]=Z (.str r.s):=by rw[fQ];rfl
   have e2:=D3 (.tone nm r s sh);have e3:S2 (A8 0) [‹fQ (.tone nm r s sh)›,‹.int dd›]=Z (.int 5):=by rw[fQ];rfl
   have e4:eqD (.int 5) (.int 5)=Z (.bool true):=rfl;simp only[A7,B3,B1,sIf,C2,A1,dC,A5,A3,T7,A2,A0,J5,bH3,M8,xg0,xg1,xbs,xms,xw0,ca8,e2,e1,e3,e4,cv9,cx7,xft,if_true,if_false]
 | succ k ih =>
  intro n f dd hd hk hf o of hn;obtain⟨f,rfl⟩:∃g,f=g+3:=⟨f - 3,by grind⟩;by_cases hz:n.dp<=k
  .exact ih n (f+3) dd hz (by grind) (by grind) o of hn
  refine B2 (g:=K3<|A4 (f+2)) (ρ:=[‹n.d›,‹.int dd›]) rfl (aD9 n (f+2) _ o (hn _<|M3 n) ?_);cases n with
  | layer=>rw[fV]at hz;grind
  | tone=>rw[fV]at hz;grind
  | group nm m s sh ns =>
   rw[fV]at hd;rw[fS]at o;rw[Nd.off]at of;have oks:=(R8 ns).mp o.2;have ofs:=(ar3 ns).mp of.2;obtain⟨d',rfl⟩:∃d',dd=d'+1:=⟨dd - 1,by grind⟩;have ea:R7 (f+1) [↥ns,.int d']=Z (.bool true):=cM4 of.1 λn' h'=>ih n' f d' (by have:=J0 h';grind) (by grind) (by grind) (oks n' h') (ofs n' h') λd hd'=>hn d (by rw[Nd.nms];exact xmm _<|K8 h' hd')
   have eg:A4 (f+2) 0 [fQ (.group nm m s sh ns),.int ((d'+1:Nat):Int)]=Z (.bool true):=by
    rw[fQ];refine B2 (g:=E8<|A4 (f+1)) (ρ:=[‹.tuple [.str "group", nm,.str m.s,fr s,.bool sh,↥ns]›,‹.int ((d'+1:Nat):Int)›]) rfl ?_;have e1:∀a b c d e f:D,O3 [.tuple [a,b,c,d,e,f]]=Z c:=λ_ _ _ _ _ _=>rfl
    have e2:∀a b c d e f:D,E6 [.tuple [a,b,c,d,e,f]]=Z f:=λ_ _ _ _ _ _=>rfl
    have e3:∀a b c d e f:D,((([a,b,c,d,e,f]:List D).length:Nat):Int)=6:=λ_ _ _ _ _ _=>rfl
    have e4:(((d'+1:Nat):Int)==0)=false:=by simp;grind
    have e5:((d'+1:Nat):Int) - 1=(d':Int):=by grind
    have ea':A4 (f+1) 2 [↥ns,.int d']=Z (.bool true):=ea
    exists evD,E8,e1,e2,e3,e4,e5,beq_self_eq_true,aT5,ea'
   have e2:=D3<|.group nm m s sh ns
   exists evD,aU7,e2,eg
def nmb(f:Nat):DS:=(A7 (x0 1<|A3 V9 (A0 (A1 2) A2))<|sIf (J5<|A3 K4 (A0 (A1 2) A2)) (aS2 1<|A3 (G1 f) (A0 (A3 E6<|A0 (A1 2) A2) A2)) C2)
def cC3{n:Nd}(f:Nat)(a0:Option B)(X:List D)(hX:X.length+n.nms.length<=1000)(H:∀nm m s sh ns,n=.group nm m s sh ns->G1 f [↥ns]=Z (.list<|Nd.nmss ns)):nmb f [a0,Z (.own X),‹n.d›]=Z (.nx [a0,Z (.own<|X++n.nms),‹n.d›]):=by
 have hx:X.length < 16777216:=by grind
 have en:=name_of n;have eg:=D3 n;unfold nmb;refine(A6 (by simp only[x0,A3,A0,A2,en,xg0,xg1,if_pos hx,A1,xms,xbs,xw0,xw1];rfl)).trans ?_;cases n with
 | layer=>exists evD,eg;rw[Nd.nm,Nd.nms]
 | tone=>exists evD,eg;rw[Nd.nm,Nd.nms]
 | group nm m s sh ns =>
  have e1:E6 [fQ (.group nm m s sh ns)]=Z ↥ns:=by rw[fQ];rfl
  have e2:=H nm m s sh ns rfl;rw[Nd.nms]at hX;have e3:(X++[nm]).length+(Nd.nmss ns).length<=16777216:=by simp at hX ⊢;grind
  rw[Nd.nm]
  exists evD,aS2,eg,e1,e2,if_pos e3
  rw[Nd.nms,av];rfl
def br3{l:List Nd}{f:Nat}(hw:(Nd.nmss l).length<=1000)(H:∀n∈l,∀nm m s sh ns,n=.group nm m s sh ns->G1 f [↥ns]=Z (.list<|Nd.nmss ns)):G1 (f+1) [↥l]=Z (.list<|Nd.nmss l):=by
 obtain⟨ρ',e,a2,hρ⟩:=ag4 (g:=B9 2) (f:=nmb f) (h:=fQ) (I:=λi ρ=>∃a2,ρ=[‹↥l›,Z (.own (Nd.nmss (l.take i))),a2]) l 0 [‹↥l›,Z (.own []),O] ⟨O,rfl⟩ (λj n hj ρ hρ=>by
  obtain⟨a2,rfl⟩:=hρ;rw[dr];obtain⟨hjl,rfl⟩:=ak.mp hj;have ww:Nd.nmss (l.take<|j+1)=Nd.nmss (l.take j)++(l[j]).nms:=by rw[cS hjl,C0,Nd.nmss,Nd.nmss,ba]
  have wl:=congrArg (λx=>(Nd.nmss x).length) (bP (j+1) l);simp only[C0,ww,ae]at wl
  exact⟨_,rfl,_,cC3 f _ _ (by grind) (H _ (aS hjl)),_,by rw[ww]⟩)
 subst hρ;rw[dr,bu (aj _),← D8]at e;refine B2 (g:=am2<|G1 f) (ρ:=[‹↥l›,O,O]) rfl ?_;have s0:(ae1 1 A2) [‹↥l›,O,O]=Z (.nx [‹↥l›,Z (.own []),O]):=rfl;have s1:(W9 (K1<|A1 0) (B9 2)<|nmb f) [‹↥l›,Z (.own []),O]=Z (.nx [‹↥l›,Z (.own<|Nd.nmss l),a2]):=e;have s2:(aS1 1<|B1 (A1 1)) [‹↥l›,Z (.own<|Nd.nmss l),a2]=Z (.rt<|.list (Nd.nmss l)):=rfl;exact(A6 s0).trans ((A6 s1).trans s2)
def cf8(h:n∈l):n.nms.length<=(Nd.nmss l).length:=by
 obtain⟨a,b,rfl⟩:=ck h;rw[C0,Nd.nmss,ae,ae];grind
def names_among:∀(k:Nat) (l:List Nd) (f:Nat),fW l<=k->k+1<=f->(Nd.nmss l).length<=1000->G1 f [↥l]=Z (.list<|Nd.nmss l):=by
 intro k
 induction k with
 | zero =>
  intro l f hd hf hw;obtain⟨f,rfl⟩:∃g,f=g+1:=⟨f - 1,by grind⟩;refine br3 hw λn hn nm m s sh ns e=>?_
  have:=J0 hn;rw[e,fV]at this;grind
 | succ k ih =>
  intro l f hd hf hw;obtain⟨f,rfl⟩:∃g,f=g+1:=⟨f - 1,by grind⟩;refine br3 hw λn hn nm m s sh ns e=>?_
  have h1:=J0 hn;have h2:=cf8 hn;rw[e,fV]at h1;rw[e,Nd.nms,aD]at h2;exact ih ns f (by grind) (by grind) (by grind)
theorem ah7:∀L:List D,(∀d∈L,Nm d)->∃ys:List Str,L=ys.map fG/\ay9 L=Z ys
 | [],_=>⟨[],rfl,rfl⟩
 | d::L,h=>by
  obtain⟨ys,e1,e2⟩:=ah7 L λx hx=>h x<|xmm _ hx
  obtain⟨s,rfl,_⟩:=h d (ah ..);exact⟨s::ys,by rw[e1];rfl,by unfold ay9;rw[e2];rfl⟩
theorem bc9:∀(l a:List Str),(a++l).Nodup->l.foldl ao1 a=a++l
 | [],a,_=>by simp
 | x::l,a,h=>by
  have hx:a.any (· == x)=false:=by
   rw[cy];intro y hy e;have e:y=x:=by simpa using e
   subst e;exact(aJ.mp h).2.2 y hy y (ah ..) rfl
  rw[bA,ao1,hx];simp only[xft,if_false];rw[bc9 l (a++[x]) (by rwa [av]),av];rfl
def aY3(hd:fW l<=3)(hw:(Nd.nmss l).length<=1000)(hn:∀d∈Nd.nmss l,Nm d)(nd:(Nd.nmss l).Nodup):O7 [↥l]=Z (.bool true):=by
 have e:=names_among 3 l 12 hd (by decide) hw;obtain⟨ys,e1,e2⟩:=ah7 _ hn
 have ny:ys.Nodup:=by
  rw[e1]at nd;exact cU.imp (λh e=>h<|congrArg fG e)<|dz.mp nd
 have ed:ddS ys=ys:=by have:=bc9 ys [] (by simpa using ny);simpa [ddS] using this
 have ly:(Nd.nmss l).length=ys.length:=by rw[e1,ag]
 have l4:ys.length<=4000:=by grind
 have es:∀q:Option B,at3 (A8 1) [q,‹.list (Nd.nmss l)›]=Z (.int ys.length):=λq=>by
  show((ay9<|Nd.nmss l).bind λys=>if ys.length<=4000 then Z (fE (ddS ys).length) else O)=_;rw[e2,xbs,if_pos l4,ed]
 refine B2 (ρ:=[‹↥l›,O]) rfl ?_
 exists evD,T1,e,es,ly,beq_self_eq_true
def bh4(l:List Nd)(w1:1<=w)(w8:w<=8)(h1:1<=h)(h8:h<=8):k9 [B5 w h l]=Z (.bool true):=by
 have sz:∀n:Nat,1<=n->n<=8->aa5 [.int n]=Z (.bool true):=λn a b=>by
  refine rX1 ?_;have w1:O6 [.int n]=Z (.bool true):=rfl;have a':(1:Int)<=n:=by grind
  have b':(n:Int)<=8:=by grind
  exists evD,ax8,w1,a',b',decide_true
 have l3:∀a b c:D,((([a,b,c]:List D).length:Nat):Int)=3:=λ_ _ _=>rfl
 refine rX1 ?_
 exists evD,ap7,B5,l3,beq_self_eq_true,sz w w1 w8,sz h h1 h8
def bW7(l:List Nd)(a:Nat):R1 (fR l) O (Z (a:Int))=fR (l.take a):=by
 unfold R1;rw[HT.sIx_none,HT.sIx_nat,List.drop_zero,D8,D8,ag,← cH,Nat.sub_zero]
 congr 1
 rcases Nat.le_total a l.length with h|h
 .rw[bE h]
 .rw[cZ h,bu (aj _),bu h]
def bW8(l:List Nd)(a:Nat):R1 (fR l) (Z (a:Int)) O=fR (l.drop a):=by
 unfold R1;rw[HT.sIx_none,HT.sIx_nat,D8,D8,ag];rcases Nat.le_total a l.length with h|h
 .rw[bE h,← cG,bu (by rw[ag,aY];exact aj _)]
 .rw[cZ h,bW,List.take_zero,cR h];rfl
def bX6(a b:List Nd)(h:a.length+b.length<=1000):B0 ↥a ↥b=Z ↥(a++b):=by
 have:=cat_tup (xs:=fR a) (ys:=fR b) (by rw[D8,D8,ag,ag];grind);have e:fR a++fR b=fR (a++b):=by simp[D8]
 rw[e]at this;exact this
def cY0{l:List Nd}{i:Nat}{n:Nd}(h:l[i]? = Z n):atI (fR l) (i:Int)=Z n.d:=by
 obtain⟨hi,_⟩:=ak.mp h;unfold atI;rw[aH5 (by grind) (by rw[D8,ag];grind),xbs,bp,ag7,h];rfl
def bi7:Sr 4 1:=aF5 ⟨⟨by decide +kernel,by decide +kernel,by decide +kernel⟩,by decide +kernel⟩
abbrev Bx:=Option<|Int×Int×Int×Int
def Bx.le(A B:Bx):Prop:=match A,B with
 | none,_=>True
 | some _,O=>False
 | some (l,t,r,b),Z (l',t',r',b')=>l'<=l/\t'<=t/\r<=r'/\b<=b'
def le_refl(A:Bx):Bx.le A A:=by
 cases A with
 | none=>exact trivial
 | some a=>show _/\_/\_/\_;grind
def le_trans{A B C:Bx}(h1:Bx.le A B)(h2:Bx.le B C):Bx.le A C:=by
 cases A with
 | none=>exact trivial
 | some a =>
  cases B with
  | none=>exact h1.elim
  | some b =>
   cases C with
   | none=>exact h2.elim
   | some c =>
    obtain⟨a1,a2,a3,a4⟩:=h1;obtain⟨b1,b2,b3,b4⟩:=h2;exact⟨dP b1 a1,dP b2 a2,dP a3 b3,dP a4 b4⟩
def bi9(q q':Q4):∃b,neD q.d q'.d=Z (.bool b)/\(b=true->q≠q'):=by
 have:∃b,neD q.d q'.d=Z (.bool b):=by
  unfold neD;rw[if_pos ⟨(Ly.q4 q 0).shaped (by decide),(Ly.q4 q' 0).shaped<|by decide⟩];exact⟨_,rfl⟩
 obtain⟨b,e⟩:=this;refine⟨b,e,λhb he=>?_⟩;subst he hb;rw[aD6 (Ly.q4 q 0) (by decide)]at e;cases e
def neB(q q':Q4):Bool:=(bi9 q q').choose
def bj0(q q':Q4):neD q.d q'.d=Z (.bool<|neB q q'):=(bi9 q q').choose_spec.1
def bM4(h:neB q q'=true):q≠q':=(bi9 q q').choose_spec.2 h
def inK(K:List D)(d:D):Bool:=@decide (d∈K)<|cf _
def cl4(r s:Rat):fD (fr r) (fr s)=decide (r=s):=by
 have e:=bT9 r s;unfold eqD at e;split at e
 .exact PyData.bool.inj (bf.inj e)
 .cases e
section
variable {w h:Nat}{K:List D}{p:Int×Int}
mutual
theorem by4(c e:List Nd):∀n:Nd,∀d∈n.nms,∃a n' b,Stands a n' b (c++n::e)/\n'.nm=d
 | .layer nm m s sh lf tp mk w h l kb,d,hd=>by
  rw[Nd.nms]at hd;exact⟨c,_,e,.top,(aw.mp hd).symm⟩
 | .tone nm r s sh,d,hd=>by
  rw[Nd.nms]at hd;exact⟨c,_,e,.top,(aw.mp hd).symm⟩
 | .group nm m s sh ns,d,hd=>by
  rw[Nd.nms]at hd;rcases ao.mp hd with q|q
  .exact⟨c,_,e,.top,q.symm⟩
  .obtain⟨a,n',b,st,en⟩:=nms_stands [] ns d q;exact⟨a,n',b,.deep st,en⟩
theorem nms_stands(c:List Nd):∀l:List Nd,∀d∈Nd.nmss l,∃a n' b,Stands a n' b (c++l)/\n'.nm=d
 | [],d,hd=>by rw[Nd.nmss]at hd;simp at hd
 | n::r,d,hd=>by
  rw[Nd.nmss]at hd;rcases az.mp hd with q|q
  .exact by4 c r n d q
  .have:=nms_stands (c++[n]) r d q
   rwa [av]at this
end
end
end Sh
open Sh.Nd renaming nm→fX,near→fY,nears→fZ,nms→gb,nmss→gc,thin→gf,thins→gh
namespace Sh
open PySem PySem.Spec PyProof.Rows L2 G
end Sh
namespace G
open PySem PySem.Spec PyProof.Rows L2
section
variable {X:Cx}{S:Sg}{c:Kx}
def D2:JE X e dNo:=λρ d h=>by cases h
def cq5:JQ X e qNo:=λρ t d h=>by cases h
def ar7:JN X e aNo:=λρ d h=>by cases h
def ag3:JT X e tNo:=λρ d h=>by cases h
def cV0:JW X e tNo:=λρ d h=>by cases h
def bb5:JG X e gNo:=by
 unfold JG PG
 intros
 rename_i h;obtain⟨d,ρ,ρ',H0,Hf,z,_⟩:=h;cases z
def cW0:JA X es aNo:=⟨λρ d h=>(nomatch h),λρ d h=>(nomatch h)⟩
def cF0:JTs X es tNo:=λpins s σ H Q I ⟨ρ,b,h,_⟩=>by cases h
def Z1(hu:X.A.units+64 < cLine):∀op:CmpOp,OpD X (eW op) (aM3 op)
 | .Lt=>cT0 | .LtE=>cT1 | .Gt=>cT4 | .GtE=>cT5 | .Eq=>cT6 hu | .NotEq=>cS9 hu | .Is=>cT2 | .IsNot=>bL7 | .In=>cT3 hu | .NotIn=>bL6 hu
def bL5(hu:X.A.units+64 < cLine)(S:Sg)(c:Kx)(op:CmpOp)(b:Expr):OpD X (eW op) (opW S c op b):=by
 unfold opW;split
 .split
  .exact cB5
  .exact by2
  .exact Z1 hu _
 .split
  .split
   .exact cB6 hu
   .exact by3 hu
   .exact Z1 hu _
  .exact Z1 hu op
theorem ar9(h:∀e,JE X e<|f e):∀es,JA X es (evA f es)
 | []=>bR0
 | e::es=>by
  unfold evA;split
  .rename_i p;exact bs9 (h e) (ar9 h es)<|K7 p es _
  .exact cW0
theorem aD8(h:∀e,JE X e<|f e)(op:BoolOp)(pos:Pos):∀vs,JE X (.BoolOp op vs pos) (bA6 f op vs)
 | []=>D2
 | [a]=>cH3<|h a
 | a::b::r=>by
  unfold bA6;cases op
  .exact cI1 (h a) (aD8 h .And pos (b::r))
  .exact cV5 (h a) (aD8 h .Or pos (b::r))
theorem aD7(h:∀e,JT X e<|f e)(op:BoolOp)(pos:Pos):∀vs,JW X (.BoolOp op vs pos) (bA5 f op vs)
 | []=>cV0
 | [a]=>by cases op;exact cg9 (h a);exact cE8<|h a
 | a::b::r=>by
  unfold bA5;cases op
  .exact cE9 (h a) (aD7 h .And pos (b::r))
  .exact cU9 (h a) (aD7 h .Or pos (b::r))
def al8(h:∀e,JE X e<|f e):∀o,JO X o (evO f o)
 | none=>ci3
 | some e=>ci2<|h e
def cF1(h:∀e,JT X e<|f e):∀l,JTs X l (bT5 f l)
 | []=>ch1
 | [t]=>ch0<|h t
 | _::_::_=>cF0
theorem bP3(h:∀e,JG X e<|f e):∀es,es.all pl=true->JGs X es (cK3 f es)
 | [],_=>ci7
 | e::es,p=>by
  simp only[bz,af]at p;refine bP4 (h e) (bP3 h es p.2) ?_;have p1:=p.1;cases e<;>first|rfl|cases p1
theorem bv4:∀{es:List Expr},es.all pl=true->(fj es env).length=es.length/\(fj es env).findIdx? (·.1)=O
 | [],_=>⟨rfl,rfl⟩
 | e::es,p=>by
  simp only[bz,af]at p;obtain⟨h1,h2⟩:=bv4 (env:=env) p.2;have p1:=p.1;have q:fj (e::es) env=(false,assign e env)::fj es env:=by cases e<;>first|rfl|cases p1
  rw[q];refine⟨by simp[h1],?_⟩;simp[List.findIdx?_cons,h2]
structure Sound (S:Sg) (r:Ev):Prop where
 e:∀{c X},Fit S c X->∀ex,JE X ex<|r.e c ex
 q:∀{c X},Fit S c X->∀ex,JQ X ex<|r.q c ex
 n:∀{c X},Fit S c X->∀ex,JN X ex<|r.n c ex
 t:∀{c X},Fit S c X->∀ex,JT X ex<|r.t c ex
 g:∀{c X},Fit S c X->∀ex,JG X ex<|r.g c ex
 b:∀{c X},Fit S c X->∀sts,JSs X sts<|r.b c sts
def Fit.hx(F:Fit S c X):∀e s,X.xe e s->False:=λe s h=>by rw[F.xe]at h;exact h
def Fit.po(F:Fit S c X):PassesOwn (fu X.prog X.w) X.A X.env X.xe:=by rw[F.xe];exact PassesOwn.never
def Fit.slot(F:Fit S c X)(h:x9 x c.N=Z i):X.N[i]? = Z x:=by rw[F.N];exact bb6 h
theorem Fit.inner(F:Fit S c X)(hn:(G.inner c tn caps scope).N.Nodup):Fit S (G.inner c tn caps scope) (F0 X (G.inner c tn caps scope).N scope C s0 H0 ex) :=
 ⟨rfl,by show relabel scope X.env=rl scope c.sc;rw[← F.sc];rfl,hn,F.calm,rfl,F.units,(λh=>by cases h),F.fns,F.css,F.bls⟩
variable {r:Ev}
def cG7(R:Sound S r)(F:Fit S c X)(tg a:Expr)(hg:Gl X "reversed")(hm:X.mg "reversed" = O):JI X tg (.Call (.Name "reversed" p) [a] [] pos) (evR S c tg a):=by
 have no:∀e:Expr,JI X tg e λ_=>O:=λe ρ ds q=>nomatch q
 unfold evR;split
 .split
  .split
   .split
    .split
     .rename_i h;simp only[af]at h;obtain⟨rfl,h1,h2⟩:=L0 F h.1.1.1;obtain⟨rfl,h3,h4⟩:=L0 F h.1.1.2;have ht:=h.1.2;exact no _
     .exact no _
    .exact no _
   .exact no _
  .exact no _
 .exact no _
def cq7(R:Sound S r)(F:Fit S c X)(tg it:Expr):JI X tg it (evI S r c tg it):=by
 unfold evI;split
 .rename_i x p a pos;split
  .rename_i h;obtain⟨rfl,h1,h2⟩:=L0 F h;exact cG7 R F tg a h1 h2
  .split
   .rename_i h;simp only[af]at h;obtain⟨rfl,h1,h2⟩:=L0 F h.1;exact bA0 h1 h2 (R.e F a)<|K7 h.2 _ _
   .split
    .rename_i h;simp only[af]at h;obtain⟨rfl,h1,h2⟩:=L0 F h.1.1;have ht:=h.1.2;cases tg<;>first|(exact ci6 h1 h2 (R.e F a)<|K7 h.2 _ _)|(exact nomatch ht)
    .exact bj6 (R.e F _)
 .rename_i x p a b pos;split
  .rename_i h;simp only[af]at h;obtain⟨rfl,h1,h2⟩:=L0 F h.1.1;exact λρ ds q=>nomatch q
  .split
   .rename_i h;simp only[af]at h;obtain⟨rfl,h1,h2⟩:=L0 F h.1.1.1;have ht:=h.1.1.2;exact λρ ds q=>nomatch q
   .exact bj6 (R.e F _)
 .split
  .exact cG6 (R.e F _)
  .exact bj6 (R.e F _)
def bu6(R:Sound S r)(F:Fit S c X)
  (h:(aE3 c.N (G.inner c (X9 tgt) caps scope).N (X9 tgt).length caps c.sc scope&&aw4 (G.inner c (X9 tgt) caps scope).N&&pl iter)=true) :
  CompSc X (G.inner c (X9 tgt) caps scope).N (X9 tgt).length caps scope/\JI X tgt iter (evI S r c tgt iter)/\(∀C s0 H0 ex,JG (F0 X (G.inner c (X9 tgt) caps scope).N scope C s0 H0 ex) tgt<|r.g (G.inner c (X9 tgt) caps scope) tgt) /\
  (∀C s0 H0 ex,JTs (F0 X (G.inner c (X9 tgt) caps scope).N scope C s0 H0 ex) ifs<|bT5 (r.t<|G.inner c (X9 tgt) caps scope) ifs)/\(∀C s0 H0 ex,JE (F0 X (G.inner c (X9 tgt) caps scope).N scope C s0 H0 ex) elt<|r.e (G.inner c (X9 tgt) caps scope) elt) /\
  ∀x,fk iter X.env x=pure x:=by
 simp only[af]at h;obtain⟨⟨h1,h2⟩,h3⟩:=h;have hn:=aw3 h2;exact⟨bD7 h1 F.N F.sc,cq7 R F tgt iter,λC s0 H0 ex=>R.g (F.inner hn) tgt,λC s0 H0 ex=>cF1 (R.t<|F.inner hn) ifs,λC s0 H0 ex=>R.e (F.inner hn) elt,bq1 h3 _⟩
def cV3(R:Sound S r)(F:Fit S c X)(ex:Expr):JN X ex (evC S r c ex):=by
 unfold evC;split
 .rename_i elt tgt iter ifs scope pos;dsimp only;split
  .rename_i h;obtain⟨h1,h2,h3,h4,h5,h6⟩:=bu6 (ifs:=ifs) (elt:=elt) R F h;exact ci5 h1 F.hx h2 h3 h4 h5 F.calm h6
  .exact ar7
 .exact ar7
def bw2(h:cv6 x=Z T):ff x=Z (.type T)/\x ≠ "__name__" /\ (x==("__debug__" : Str))=false:=by
 unfold cv6 at h;split at h
 .rename_i e;cases h;simp only[beq_iff_eq]at e;subst e;exact⟨bn4,by decide,by decide⟩
 .split at h
  .rename_i e;cases h;simp only[beq_iff_eq]at e;subst e;exact⟨cn1,by decide,by decide⟩
  .split at h
   .rename_i e;cases h;simp only[beq_iff_eq]at e;subst e;exact⟨cL4,by decide,by decide⟩
   .split at h
    .rename_i e;cases h;simp only[beq_iff_eq]at e;subst e;exact⟨be9,by decide,by decide⟩
    .split at h
     .rename_i e;cases h;simp only[beq_iff_eq]at e;subst e;exact⟨bv1,by decide,by decide⟩
     .cases h
theorem ab9(pos:Pos)(env:Env):∀{es:List Expr},es.all pl=true->(eT es env).any (·.1)=false
 | [],_=>rfl
 | e::es,h=>by
  simp only[bz,af]at h;rw[K7 h.1,bO,ab9 pos env h.2];rfl
end
section
variable {X:Cx}{S:Sg}{c:Kx}{r:Ev}
def bp3(h:cw8 e=Z t):∃p,e=.Slice t.1 t.2.1 t.2.2 p:=by cases e<;>first|(cases h;exact⟨_,rfl⟩)|cases h
def bi8(h:nmP e=Z t):e=.Name t.1 t.2:=by cases e<;>first|(cases h;rfl)|cases h
def cv4(h:unE e=Z t):∃p,e=.UnaryOp t.1 t.2 p:=by cases e<;>first|(cases h;exact⟨_,rfl⟩)|cases h
def cf2(h:cS8 e=true):∃p q,e=.Constant (.int 1) p q:=by
 cases e with
 | Constant k p q =>
  cases k with
  | int i=>cases(show i=1 from of_decide_eq_true h);exact⟨p,q,rfl⟩
  | _=>cases h
 | _=>cases h
def cD4(h:m1E e=true):∃p q s,e=.UnaryOp .USub (.Constant (.int 1) p q) s:=by
 unfold m1E at h;split at h
 .rename_i t ht;obtain⟨s,rfl⟩:=cv4 ht;obtain⟨op,a⟩:=t;cases op with
  | USub=>obtain⟨p,q,rfl⟩:=cf2 h;exact⟨p,q,s,rfl⟩
  | _=>cases h
 .cases h
def bZ0(R:Sound S r)(F:Fit S c X)(a i:Expr)(pos:Pos):JE X (.Subscript a i pos) (ct7 r c a i):=by
 unfold ct7;split
 .rename_i t ht;obtain⟨p,rfl⟩:=bp3 ht;obtain⟨lo,hi,st⟩:=t;cases st with
  | none =>
   dsimp only;split
   .exact bP8 (R.e F _) (al8 (R.e F) _) (al8 (R.e F) _)
   .split
    .exact cH0 (R.e F _) (al8 (R.e F) _) (al8 (R.e F) _)
    .split
     .exact cH1 (R.q F _) (al8 (R.e F) _) (al8 (R.e F) _)
     .exact cH2 (R.e F _) (al8 (R.e F) _) (al8 (R.e F) _)
  | some e =>
   dsimp only;split
   .rename_i h;simp only[af,Option.isNone_iff_eq_none]at h;obtain⟨⟨h1,h2⟩,h3⟩:=h;subst h1 h2;obtain⟨_,_,_,rfl⟩:=cD4 h3;exact cj0 (R.e F _)<|bj7 bQ3
   .exact D2
 .split
  .rename_i h;split
   .exact cH5 (R.e F _) (R.e F _) (bK0 h)
   .split
    .exact cH6 F.units (R.e F _) (R.e F _) (bK0 h)
    .exact cV6 (R.q F _) (R.e F _) (bK0 h)
  .exact D2
def bw1(R:Sound S r)(F:Fit S c X)(x:Str)(a:Expr)(p pos:Pos):JE X (.Call (.Name x p) [a] [] pos) (bg5 S r c x a):=by
 unfold bg5;split
 .exact D2
 rename_i hp;have hp:pl a=true:=by simpa using hp
 have hs:=K7 hp [] X.env;split
 .rename_i h;obtain⟨rfl,h1,h2⟩:=L0 F h;split
  .rename_i y py e ppos;split
   .rename_i hy;simp only[af]at hy;obtain⟨rfl,g1,g2⟩:=L0 F hy.1;exact bA1 h1 h2 g1 g2 (R.q F _) F.calm<|K7 hy.2 _ _
   .exact bQ0 h1 h2 (R.q F _) hs
  .split
   .exact cj2 h1 h2 (R.e F a) hs
   .exact bQ0 h1 h2 (R.q F a) hs
 split
 .rename_i h;obtain⟨rfl,h1,h2⟩:=L0 F h;exact ci9 h1 h2 (R.q F a) hs
 split
 .rename_i h;obtain⟨rfl,h1,h2⟩:=L0 F h;exact cI2 h1 h2 (R.q F a) F.calm hs
 split
 .rename_i h;obtain⟨rfl,h1,h2⟩:=L0 F h;exact cI0 h1 h2 (R.q F a) F.calm hs
 split
 .rename_i h;obtain⟨rfl,h1,h2⟩:=L0 F h;exact cj6 F.calm h1 h2 (R.q F a) hs
 split
 .rename_i h;obtain⟨rfl,h1,h2⟩:=L0 F h;exact bQ2 h1 h2 (R.e F a) hs
 split
 .rename_i h;obtain⟨rfl,h1,h2⟩:=L0 F h;exact D2
 split
 .rename_i h;obtain⟨rfl,h1,h2⟩:=L0 F h;exact D2
 split
 .rename_i h;obtain⟨rfl,h1,h2⟩:=L0 F h;exact D2
 split
 .rename_i h;obtain⟨rfl,h1,h2⟩:=L0 F h;exact cj1 h1 h2 (R.q F a) F.calm hs
 exact D2
def bw0(R:Sound S r)(F:Fit S c X)(x:Str)(a b:Expr)(p pos:Pos):JE X (.Call (.Name x p) [a,b] [] pos) (bg4 S r c x a b):=by
 unfold bg4;split
 .exact D2
 rename_i hp;have hp:pl a=true:=by simpa using hp
 split
 .rename_i h;obtain⟨rfl,h1,h2⟩:=L0 F h;split
  .rename_i y py;split
   .rename_i T hT;split
    .rename_i hy;obtain⟨_,g1,g2⟩:=L0 F hy;obtain⟨t1,t2,t3⟩:=bw2 hT;exact cH7 h1 h2 g1 g2 t1 (R.e F a) t2 t3 (K7 hp _ _) rfl rfl
    .exact D2
   .exact D2
  .exact D2
 split
 .exact D2
 rename_i hb;have hb:pl b=true:=by simpa using hb
 split
 .rename_i h;obtain⟨rfl,h1,h2⟩:=L0 F h;exact D2
 split
 .rename_i h;obtain⟨rfl,h1,h2⟩:=L0 F h;exact D2
 exact D2
theorem at8(pos:Pos):∀l:List (Bool×Sem fM),(backTo pos l).any (·.1)=l.any (·.1)
 | []=>rfl
 | (b,t)::r=>by
  have ih:=at8 pos r;unfold backTo at ih ⊢;rw[xmc,bO,bO,ih]
def bG3(R:Sound S r)(F:Fit S c X)(x:Str)(args:List Expr)(p pos:Pos):JE X (.Call (.Name x p) args [] pos) (bG4 S r c x args<|.Call (.Name x p) args [] pos):=by
 unfold bG4;split
 .rename_i Fn n hl;split
  .rename_i h;simp only[af,beq_iff_eq]at h;obtain⟨⟨hg,hn⟩,hp⟩:=h;obtain⟨g1,g2⟩:=t7 F hg;rcases F.fns _ _ _ hl with⟨k,f,fd,ps,hk,hr,hm,hkp,hb⟩|⟨hm,hb⟩
   case inr =>
    cases args with
    | nil=>cases hn;exact absurd hb.1<|bt _
    | cons e es =>
     simp only[bz,af]at hp;exact cV9 hb F.units g1 hm (ar9 (R.e F) (e::es)) hn g2 (K7 hp.1 _ _)<|(at8 pos _).trans (ab9 pos _ hp.2)
   cases args with
   | nil=>cases hn;exact bQ9 hk hr g1 hm hkp hb g2
   | cons e es =>
    simp only[bz,af]at hp;exact cj7 hk hr g1 hm hkp hb (ar9 (R.e F) (e::es)) hn g2 (K7 hp.1 _ _)<|(at8 pos _).trans (ab9 pos _ hp.2)
  .exact D2
 .split
  .split
   .exact ar8 (R.n F _)
   .exact bw1 R F _ _ _ _
  .exact bw0 R F _ _ _ _ _
  .exact D2
def bg3(k:Const)(u:Nat)(pos:Pos):JE X (.Constant k u pos) (xCn k):=by
 unfold xCn;split
 .exact cH4
 .exact cV8
 .exact bQ3
 .exact cG9
 .exact D2
def bZ4(R:Sound S r)(F:Fit S c X)(a:Expr)(op:Operator)(b:Expr)(pos:Pos):JE X (.BinOp a op b pos) (cu4 r c a op b):=by
 unfold cu4;split
 .split
  .exact v7 bL8 (R.e F _) (R.e F _)
  .exact v7 br0 (R.e F _) (R.e F _)
 .exact v7 cB1 (R.e F _) (R.e F _)
 .split
  .exact v7 aT2 (R.e F _) (R.e F _)
  .split
   .split
    .exact v7 cf6 (R.e F _) (R.e F _)
    .exact v7 bq9 (R.e F _) (R.e F _)
   .exact v7 bq9 (R.e F _) (R.e F _)
 .exact v7 cB7 (R.e F _) (R.e F _)
 .exact v7 cB3 (R.e F _) (R.e F _)
 .exact D2
 .exact D2
def ct6(R:Sound S r)(F:Fit S c X)(op:UnaryOp)(a:Expr)(pos:Pos):JE X (.UnaryOp op a pos) (xUn r c op a):=by
 unfold xUn;split
 .exact bj7 (R.e F _)
 .exact bP9 (R.e F _)
 .exact D2
def bZ3(R:Sound S r)(F:Fit S c X)(a:Expr)(ops:List CmpOp)(bs:List Expr)(pos:Pos):JE X (.Compare a ops bs pos) (cu2 S r c a ops bs):=by
 have hu:=F.units;unfold cu2;split
 .split
  .rename_i h;exact bQ6 (bL5 hu S c _ _) (R.e F _) (R.e F _)<|ai0 h _
  .exact D2
 .split
  .rename_i h;exact bQ7 (Z1 hu _) (Z1 hu _) (R.e F _) (R.e F _) (R.e F _)<|ai0 h _
  .exact D2
 .exact D2
def bZ2(R:Sound S r)(F:Fit S c X)(o:Expr)(m:Str)(apos cpos:Pos)(args:List Expr):JE X (.Call (.Attribute o m apos) args [] cpos) (ct9 r c o m apos cpos args):=by
 have hu:=F.units;unfold ct9;split
 .split
  .rename_i h;simp only[af,beq_iff_eq]at h;obtain⟨⟨⟨hm,hn⟩,hl⟩,hp⟩:=h;subst hm;have hs:=K7 hp [] X.env;exact cj3 (R.e F _) (R.q F _) (X0 hn _ _ _) (by first|rw[hs];rfl|unfold hfX;rw[hs];rfl) (by simpa using hl) hs
  .split
   .rename_i h;simp only[af,beq_iff_eq]at h;obtain⟨⟨⟨hm,hn⟩,hl⟩,hp⟩:=h;subst hm;have hs:=K7 hp [] X.env;exact bA2 hu (R.e F _) (R.e F _) (X0 hn _ _ _) (by first|rw[hs];rfl|unfold hfX;rw[hs];rfl) (by simpa using hl) hs
   .exact D2
 .rename_i a1 b1;split
  .rename_i h;simp only[af,beq_iff_eq]at h;obtain⟨⟨⟨⟨hm,hn⟩,hl⟩,hp⟩,hq⟩:=h;subst hm;have hs:=K7 hp [b1] X.env;rw[K7 hq [] X.env]at hs;exact cj4 hu (R.e F _) (R.e F _) (R.e F _) ⟨X0 hn _ _ _,by rw[hs];rfl,by simpa using hl,by rw[hs];rfl⟩
  .exact D2
 .exact D2
def cu3(R:Sound S r)(F:Fit S c X)(f:Expr)(args:List Expr)(kw:List fh)(pos:Pos):JE X (.Call f args kw pos) (xCl S r c f args kw pos):=by
 unfold xCl;split
 .split
  .exact bG3 R F _ _ _ _
  .exact bZ2 R F _ _ _ _ _
  .exact D2
 .exact D2
def cu1(ks:List (Option Expr))(vs:List Expr)(pos:Pos):JE X (.Dict ks vs pos) (xDs ks vs):=by
 unfold xDs;split
 .rename_i ps h;split
  .rename_i q;simp only[af,decide_eq_true_eq]at q;exact cj5 h (by intro z;rw[z]at q;exact absurd q.1<|by decide) q.2
  .exact D2
 .exact D2
def cO6(R:Sound S r)(F:Fit S c X)(ex:Expr):JE X ex (xE S r c ex):=by
 cases ex
 case Constant=>exact bg3 _ _ _
 case Dict ks vs p=>exact cu1 ks vs p
 case Name x p =>
  unfold xE;dsimp only;split
  .rename_i i h;split
   .rename_i v;obtain⟨h1,h2,h3⟩:=aa8 F v;exact bP5 i (F.slot h) h1 h2 h3
   .exact D2
  .split
   .rename_i d hd;split
    .rename_i g;obtain⟨u,k1,k2⟩:=F.css _ _ hd;obtain⟨g1,g2⟩:=t7 F g;exact cH9 k1 g1 k2 g2
    .exact D2
   .exact D2
 case Tuple es _ _ =>
  unfold xE;dsimp only;split
  .rename_i h;exact bP7 (ar9 (R.e F) _) h
  .exact D2
 case List=>exact ar8<|R.n F _
 case ListComp=>exact ar8<|R.n F _
 case BinOp=>exact bZ4 R F _ _ _ _
 case UnaryOp=>exact ct6 R F _ _ _
 case Compare=>exact bZ3 R F _ _ _ _
 case BoolOp=>exact aD8 (R.e F) _ _ _
 case IfExp=>exact cH8 (R.t F _) (R.e F _)<|R.e F _
 case Subscript=>exact bZ0 R F _ _ _
 case Call=>exact cu3 R F _ _ _ _
 all_goals exact D2
def cO3(R:Sound S r)(F:Fit S c X)(ex:Expr):JQ X ex (xQ S r c ex):=by
 cases ex
 case Name x p =>
  unfold xQ;dsimp only;split
  .rename_i i h;split
   .rename_i v;obtain⟨h1,h2,h3⟩:=aa8 F v;exact cG3 i (F.slot h) h1 h2 h3
   .exact cq5
  .exact bP1 (R.e F _)
 case List=>exact cG4<|R.n F _
 case ListComp=>exact cG4<|R.n F _
 case Call f as kw p =>
  unfold xQ;dsimp only;split
  .exact cG4 (R.n F _)
  .exact bP1 (R.e F _)
 all_goals exact bP1<|R.e F _
def cO4(R:Sound S r)(F:Fit S c X)(ex:Expr):JN X ex (xN S r c ex):=by
 cases ex
 case List es p =>
  unfold xN;dsimp only;split
  .rename_i h;exact bP2 (ar9 (R.e F) _) h
  .exact ar7
 case ListComp=>exact cV3 R F _
 case Call f as kw p =>
  unfold xN;dsimp only;unfold xNl;split
  .split
   .split
    .rename_i h;simp only[af]at h;obtain⟨rfl,h1,h2⟩:=L0 F h.1;exact ci4 h1 h2 (R.q F _)<|K7 h.2 _ _
    .exact ar7
   .exact ar7
  .exact ar7
 case BinOp a op b p =>
  cases op
  case Add=>exact cG5 (R.q F _)<|R.q F _
  all_goals exact ar7
 all_goals exact ar7
def cO2(R:Sound S r)(F:Fit S c X)(ex:Expr):JT X ex (xT S r c ex):=by
 have hu:=F.units
 have oth:∀e:Expr,JT X e (if plT e then J5 (r.e c e) else tNo):=λe=>by
  split
  .rename_i h;exact bO1 (R.e F _)<|aZ4 h _
  .exact ag3
 cases ex
 case Compare a ops bs p =>
  unfold xT co1;dsimp only;split
  .split
   .rename_i h;exact bO3 (bL5 hu S c _ _) (R.e F _) (R.e F _)<|ai0 h _
   .exact ag3
  .split
   .rename_i h;exact bO4 (Z1 hu _) (Z1 hu _) (R.e F _) (R.e F _) (R.e F _)<|ai0 h _
   .exact ag3
  .exact ag3
 case BoolOp=>exact bb3<|aD7 (R.t F) _ _ _
 case UnaryOp op a p =>
  cases op
  case Not=>exact bO2<|R.t F _
  all_goals exact ag3
 all_goals exact oth _
def cO5(R:Sound S r)(F:Fit S c X)(ex:Expr):JG X ex (xG r c ex):=by
 unfold xG;split
 .split
  .rename_i i h;split
   .rename_i v;obtain⟨h1,h2⟩:=aT7 F v;exact ci8 i (by rw[F.N];exact F.nd) (F.slot h) h1 h2
   .exact bb5
  .exact bb5
 .split
  .rename_i h;obtain⟨h1,h2⟩:=bv4 (env:=X.env) h;exact cG8 (bP3 (R.g F) _ h) F.calm h1 h2
  .exact bb5
 .exact bb5
def bs5{st:Stmt}{f:DS}(h:∀ρ,f ρ=O):JS X st f:=λρ fl q=>by rw[h ρ]at q;cases q
def bX9(F:Fit S c X)(h:c.df=true):X.env.blockKind=.function:=by
 unfold Env.blockKind;rw[F.sc,(F.df h).2];rfl
def aN2(elt:Expr)(gens:List Comprehension)(sc:Scope)(pv p':Pos)(x:Str)(l:Nat)(env:Env):swapsWith (.ListComp elt gens sc pv) (Z<|.Name x p') l env =
  pure (env.blockKind == .function&&env.kindOf x==Z .local&&p'.line==pv.line && !(sc.names.any λ(n,k)=>n==x&&(k == .local || k == .cell))):=rfl
def bs6(R:Sound S r)(F:Fit S c X){x:Str}{p' pv p:Pos}{elt:Expr}{gens:List Comprehension}{sc:Scope}{i:Nat}(hi:x9 x c.N=Z i)(hl:(c.sc.names.lookup x==Z .local)=true)
  (h:(c.df&&p'.line==pv.line && !(sc.names.any λ(n,k)=>n==x&&(k == .local || k == .cell)))=true) :
  JS X (.Assign [.Name x p'] (.ListComp elt gens sc pv) p) (ae1 i<|evC S r c (.ListComp elt gens sc pv))/\JS X (.Assign [.Name x p'] (.ListComp elt gens sc pv) p) (aq4 i<|evC S r c (.ListComp elt gens sc pv)):=by
 unfold evC;simp only[af]at h;have hl':X.env.scope.names.lookup x=Z .local:=by rw[F.sc];simpa using hl
 have hsw:swapsWith (.ListComp elt gens sc pv) (Z<|.Name x p') p.line X.env=pure true:=by
  rw[aN2,bX9 F h.1.1,h.1.2,h.2];unfold Env.kindOf;rw[hl'];rfl
 split
 .rename_i elt tgt iter ifs scope pos he;cases he;dsimp only;split
  .rename_i hc;obtain⟨h1,h2,h3,h4,h5,h6⟩:=bu6 (ifs:=ifs) (elt:=elt) R F hc;exact⟨ch6 i (by rw[F.N];exact F.nd) h1 F.hx h2 h3 h4 h5 (F.slot hi) hl' hsw F.calm h6,ch8 i (by rw[F.N];exact F.nd) h1 F.hx h2 h3 h4 h5 (F.slot hi) hl' hsw F.calm h6⟩
  .exact⟨bs5 λρ=>rfl,bs5 λρ=>rfl⟩
 .exact⟨bs5 λρ=>rfl,bs5 λρ=>rfl⟩
def bZ8(R:Sound S r)(F:Fit S c X)(x:Str)(p':Pos)(v:Expr)(p:Pos):JS X (.Assign [.Name x p'] v p) (cu7 S r c x p' v):=by
 have nd:X.N.Nodup:=by rw[F.N];exact F.nd
 unfold cu7;split
 .exact B7
 .rename_i i hi;split
  .exact B7
  .rename_i hlo;have hlo:bz4 c x=true:=by simpa using hlo
   obtain⟨l1,l2⟩:=aT7 F hlo;split
   .rename_i elt gens sc pv;split
    .rename_i hl;split
     .rename_i h;split
      .exact(bs6 R F hi hl h).1
      .exact(bs6 R F hi hl h).2
     .exact B7
    .rename_i hl;refine bj5 i nd (R.e F _) (F.slot hi) l1 ?_ l2;rw[aN2]
     have:(X.env.kindOf x==Z .local)=false:=by
      unfold Env.kindOf;rw[F.sc];simpa using hl
     rw[this,eI];rfl
   .split
    .exact B7
    .rename_i hc;have hc:isC v=false:=by simpa using hc
     split
     .exact cF4 i nd (R.n F _) (F.slot hi) l1 (ar5 hc _ _ _) l2
     .exact bj5 i nd (R.e F _) (F.slot hi) l1 (ar5 hc _ _ _) l2
def bZ7(R:Sound S r)(F:Fit S c X)(a i v:Expr)(q p:Pos):JS X (.Assign [.Subscript a i q] v p) (cu6 r c a i v):=by
 unfold cu6;split
 .exact B7
 .rename_i x hx;cases bi8 hx;split
  .exact B7
  .rename_i t ht;obtain⟨p',rfl⟩:=bp3 ht;obtain⟨lo,hi,st⟩:=t;cases st with
   | some e=>exact B7
   | none =>
    dsimp only[Option.isSome];rw[if_neg aE];split
    .exact B7
    .rename_i i hi;split
     .rename_i h;simp only[af,bC]at h;obtain⟨h1,h2,h3⟩:=aa8 F h.1;exact cF2 i (R.n F _) (al8 (R.e F) _) (al8 (R.e F) _) (F.slot hi) h1 h2 h3<|ar5 h.2 _ _ _
     .exact B7
def ca3(h:cP1 es=Z t):es=[.Name t.1.1 t.1.2,.Name t.2.1 t.2.2]:=by
 match es,h with
 | [a,b],h =>
  obtain⟨x,h1,h⟩:=xbo h;obtain⟨y,h2,h⟩:=xmo h;cases h;rw[bi8 h1,bi8 h2]
def ca2(h:cP0 e=Z t):∃k p,e=.Tuple [t.1,t.2] k p:=by
 cases e with
 | Tuple es k p =>
  match es,h with
  | [a,b],h=>cases h;exact⟨k,p,rfl⟩
  | [],h=>cases h
  | [_],h=>cases h
  | _::_::_::_,h=>cases h
 | _=>cases h
def cC1(h:aA6 v=false)(es:List Expr)(k:Nat)(p:Pos)(env:Env):swappedStores [.Tuple es k p] v env=pure O:=by cases v<;>first|rfl|cases h
def stB:Expr->Bool
 | .Starred ..=>true
 | _=>false
def swN(env:Env)(x y:Str)(px py:Pos):List Str:=[(x,px),(y,py)].filterMap λt=>if env.kindOf t.1==Z .local&&t.2.line==px.line then Z t.1 else O
def cQ6(env:Env)(x y:Str)(px py pt p2:Pos)(kt k2:Nat)(a b:Expr):swappedStores [.Tuple [.Name x px,.Name y py] kt pt] (.Tuple [a,b] k2 p2) env =
  (if(env.blockKind != .function)=true then pure O else if([a,b].any stB)=true then pure O else if((swN env x y px py).length != 2 || (swN env x y px py).eraseDups.length != (swN env x y px py).length)=true then pure O
   else if([a,b].all (foldedForSure 8))=true then pure O else if([a,b].all (constantsAlone 8))=true then unsupported "assign.tuple-of-constant-expressions:order-of-the-stores" else pure (Z (swN env x y px py))):=by rfl
def bJ9(h:pl e=true):stB e=false:=by cases e<;>first|rfl|cases h
def cw4(hk:env.blockKind=.function)(ha:pl a=true)(hb:pl b=true)(kx:env.kindOf x=Z .local)(ky:env.kindOf y=Z .local)(hl:px.line=py.line)(hxy:(x==y)=false)
  (hf:([a,b].all<|foldedForSure 8)=false) (hc:([a,b].all<|constantsAlone 8)=false):swappedStores [.Tuple [.Name x px,.Name y py] kt pt] (.Tuple [a,b] k2 p2) env=pure (Z [x,y]):=by
 have hn:swN env x y px py=[x,y]:=by simp[swN,kx,ky,hl]
 have hyx:(y==x)=false:=by
  cases q:(y==x) with
  | false=>rfl
  | true=>simp only[beq_iff_eq]at q;subst q;simp at hxy
 have hd:([x,y]:List Str).eraseDups=[x,y]:=by simp[List.eraseDups,List.eraseDupsBy,List.eraseDupsBy.loop,hxy,hyx]
 rw[cQ6,hk,hn,hd,hf,hc];simp[bJ9 ha,bJ9 hb]
def cb0(h:(es.length==2 || es.length==3)=false)(k k3:Nat)(p p3:Pos)(env:Env):swappedStores [.Tuple es k p] (.Tuple vs k3 p3) env=pure O:=by
 show(if(!(es.length==2 || es.length==3) || vs.length != es.length || env.blockKind != .function)=true then _ else _)=_;rw[if_pos (by rw[h];rfl)]
def bZ6(R:Sound S r)(F:Fit S c X)(es:List Expr)(kt:Nat)(pt:Pos)(v:Expr)(p:Pos):JS X (.Assign [.Tuple es kt pt] v p) (cu5 r c (.Tuple es kt pt) v es):=by
 have nd:X.N.Nodup:=by rw[F.N];exact F.nd
 unfold cu5;split
 .rename_i x px y py ht;cases ca3 ht;split
  .split
   .rename_i a b hab;obtain⟨k2,p2,rfl⟩:=ca2 hab;split
    .rename_i i hi;split
     .rename_i j hj;split
      .rename_i h;unfold cS1 at h;simp only[af,bC,beq_iff_eq]at h;obtain⟨⟨⟨⟨⟨⟨⟨⟨hd,ha⟩,hb⟩,hxy⟩,hl⟩,hx⟩,hy⟩,hf⟩,hcs⟩:=h;have hx':X.env.scope.names.lookup x=Z .local:=by rw[F.sc];exact hx
       have hy':X.env.scope.names.lookup y=Z .local:=by rw[F.sc];exact hy
       have hne:i≠j:=λz=>by
        subst z;have:=(F.slot hi).symm.trans (F.slot hj);cases this;simp at hxy
       refine cF3 nd (ar9 (R.e F) [a,b]) ?_ hne (F.slot hi) (F.slot hj) hx' hy' F.calm rfl;exact cw4 (bX9 F hd) ha hb hx' hy' hl hxy hf hcs
      .exact B7
     .exact B7
    .exact B7
   .exact B7
  .rename_i h;have h:aA6 v=false:=by simpa using h
   refine bO7 (R.e F _) (R.g F _) ?_ (cC1 h _ _ _ _) rfl;cases v<;>rfl
 .split
  .exact B7
  .rename_i h;refine bO7 (R.e F _) (R.g F _) ?_ ?_ rfl
   .cases v<;>rfl
   .cases v<;>first|rfl|skip
    rename_i vs k3 p3;have h:(es.length==2 || es.length==3)=false:=by simpa [aA6] using h
    exact cb0 h _ _ _ _ _
def bZ5(R:Sound S r)(F:Fit S c X)(tg v:Expr)(p:Pos):JS X (.Assign [tg] v p) (cO7 S r c tg v p):=by
 cases tg with
 | Name x p'=>exact bZ8 R F x p' v p
 | Subscript a i q=>exact bZ7 R F a i v q p
 | Tuple es k q=>exact bZ6 R F es k q v p
 | _=>exact B7
end
section
variable {X:Cx}{S:Sg}{c:Kx}{r:Ev}
def bZ1(R:Sound S r)(F:Fit S c X)(x m:Str)(e:Expr)(p apos cpos pos:Pos)(hl:(apos.endLine==cpos.line)=true):JS X (.Expr (.Call (.Attribute (.Name x p) m apos) [e] [] cpos) pos) (ct8 r c x m e):=by
 unfold ct8;split
 .exact B7
 .rename_i i hi;split
  .rename_i h;simp only[af]at h;obtain⟨h1,h2,h3⟩:=aa8 F h.1;have hs:=K7 h.2 [] X.env;split
   .rename_i hm;simp only[beq_iff_eq]at hm;subst hm;exact cF9 i (R.e F e) (F.slot hi) h1 h2 h3 rfl (by first|rw[hs];rfl|unfold hfX;rw[hs];rfl) hl hs rfl
   .split
    .rename_i hm;simp only[beq_iff_eq]at hm;subst hm;exact cF7 i (R.e F e) (F.slot hi) h1 h2 h3 hl hs
    .exact B7
  .exact B7
def cu0(R:Sound S r)(F:Fit S c X)(e:Expr)(pos:Pos):JS X (.Expr e pos) (xEx r c e):=by
 unfold xEx;split
 .split
  .split
   .split
    .split
     .rename_i h;exact bZ1 R F _ _ _ _ _ _ _ h
     .exact B7
    .exact B7
   .exact B7
  .exact B7
 .exact B7
def bG2(R:Sound S r)(F:Fit S c X)(st:Stmt):JS X st (xS0 S r c st):=by
 cases st
 case Return o p =>
  cases o
  .exact B7
  .exact aU3 (R.e F _)
 case If=>exact cq4 (R.t F _) (R.b F _)<|R.b F _
 case While t a o p =>
  cases o
  .exact bO6 (R.t F _) (R.b F _) F.po
  .exact B7
 case For tg it a o p =>
  cases o
  .unfold xS0 xFo;dsimp only;split
   .rename_i h;exact cF6 (cq7 R F _ _) (R.g F _) (R.b F _) F.po F.calm<|bq1 h _
   .exact B7
  .exact B7
 case Assign ts v p =>
  unfold xS0 xAs;dsimp only;split
  .exact bZ5 R F _ _ _
  .exact B7
 case Expr=>exact cu0 R F _ _
 case Continue=>exact ch7
 case Break=>exact cF8
 case Pass=>exact ch5
 all_goals exact B7
theorem bT0{st:Stmt}:∀(l:List Nat) {g:DS},JS X st g->JS X st (l.foldl (λg i=>aS1 i g) g)
 | [],_,h=>h
 | i::l,_,h=>bT0 l<|cF5 i h
def bo7(R:Sound S r)(F:Fit S c X)(st:Stmt):JS X st (xS S r c st):=by
 unfold xS fzW;split
 .exact bG2 R F st
 .exact bT0 _ (bG2 R F st)
theorem ag5(h:∀st,JS X st<|f st):∀sts,JSs X sts (evB f sts)
 | []=>ch3
 | [s]=>ch2<|h s
 | s::t::G9=>bO5 (h s)<|ag5 h (t::G9)
def cb3(R:Sound S r):Sound S (step S r) :=
 ⟨λF=>cO6 R F,λF=>cO3 R F,λF=>cO4 R F,λF=>cO2 R F,λF=>cO5 R F,λF=>ag5<|bo7 R F⟩
theorem am0(S:Sg):∀n,Sound S (ev S n)
 | 0=>⟨λ_ _=>D2,λ_ _=>cq5,λ_ _=>ar7,λ_ _=>ag3,λ_ _=>bb5,λ_ _ ρ fl q=>by cases q⟩
 | n+1=>cb3<|am0 S n
end
structure Fd where
 x:Str
 st:Stmt
 ps:List Str
 N:List Str
 own:List Nat:=[]
 tx:List Nat:=[]
 dx:List Nat:=[]
 old:Bool:=false
 fz:List (Nat×List Nat):=[]
 hc:List ((Nat×Nat)×List Nat):=[]
def fdm(x:Str)(st:Stmt)(n:Nat)(N:List Str)(old:Bool:=false):Fd:={ x,st,ps:=N.take n,N,old }
def Fd.c(d:Fd):Kx:={ N:=d.N,sc:=C8 d.st,df:=true,own:=d.own,cpt:=[],tx:=d.tx,dx:=d.dx,old:=d.old,fz:=d.fz,hc:=d.hc }
def Fd.okB(d:Fd):Bool:=let sc:=C8 d.st
 sc.kind == .function && !sc.isCoroutine && !sc.isGenerator&&aw4 d.N&&d.N.take d.ps.length==d.ps&&(d.ps.all λx=>match sc.names.lookup x with|some .local=>true|some .cell=>true|_=>false)&&sc.names.all λy=>match y.2 with | .free=>false|_=>true
def Fd.sc{d:Fd}(h:d.okB=true):FnScope d.N d.ps (C8 d.st):=by
 unfold Fd.okB at h;simp only[af,bC,beq_iff_eq,aK]at h;obtain⟨⟨⟨⟨⟨⟨h1,h2⟩,h3⟩,h4⟩,h5⟩,h6⟩,h7⟩:=h;refine⟨h1,h2,h3,aw3 h4,h5,λx hx=>?_,λy hy e=>?_⟩
 .have:=h6 x hx;split at this
  .rename_i q;exact .inl q
  .rename_i q;exact .inr q
  .cases this
 .have:=h7 y hy;rw[e]at this;cases this
def KF(K:ad)(x:Str)(st:Stmt):Prop:=∃(f:fO) (oc:fM) (od:Option fO) (sl:Array (Option fM)) (kV dc pm:fM) (an:Option fO) (cd ct:fM),
 aT K eY x=Z (Z<|.ref f)/\K.lookup f=Z ⟨oc,od,.func<|bM x x (Z2 st) (M0 st) (C8 st) .none kV dc pm an cd ct,sl⟩/\cN K cd x=true/\aW K (.ref f)=true
def cU7{K:ad}{x:Str}{st:Stmt}{f:fO}{oc:fM}{od:Option fO}{sl:Array (Option fM)}{kV dc pm:fM}{an:Option fO}{cd ct:fM}(a:aT K eY x=Z (Z<|.ref f))
  (l:K.lookup f=Z ⟨oc,od,.func<|bM x x (Z2 st) (M0 st) (C8 st) .none kV dc pm an cd ct,sl⟩) (c:cN K cd x=true) (k:aW K (.ref f)=true):KF K x st:=⟨f,oc,od,sl,kV,dc,pm,an,cd,ct,a,l,c,k⟩
abbrev Tab:=List<|Str×FnD×Nat
section
variable {P:Program}{w:World}{K:PySem.W.Frag}{mg:Str->Option Value}{base:Heap}{cs:List (Str×D)}{bl:List Str}
structure Md (K:ad) (mg:Str->Option fM) (cs:List (Str×D)) (bl:List Str):Prop where
 ns:∀x v,aT K eY x=Z (Z v)->mg x=Z v
 css:∀x d,cs.lookup x=Z d->∃u,bf5 K d u/\mg x=Z u
 bls:∀x,bl.contains x=true->mg x=O
def TOk(P:fb)(w:World)(K:ad)(mg:Str->Option fM)(base:Heap)(k:Nat)(tab:Tab):Prop:=∀x F n,tab.lookup x=Z (F,n)->(∃(f:fO) (fd:fe) (ps:List Str),
 FnOk P w K mg base CX0 k f fd ps (spF K n F)/\mg x=Z (.ref f)/\aW K (.ref f)=true/\Q3 K fd ps [])\/(mg x=O/\cN7 x F n)
def TOk.nil:TOk P w K mg base 0 []:=λx F n h=>by cases h
theorem TOk.mono(T:TOk P w K mg base j tab)(h:j<=k):TOk P w K mg base k tab:=λx F n e =>(T x F n e).imp (λ⟨f,fd,ps,h1,h2,h3,h4⟩=>⟨f,fd,ps,h1.mono h,h2,h3,h4⟩) id
def UA:Nat->(List fM->Prop)->Prop
 | 0,P=>P []
 | n+1,P=>∀a,UA n λus=>P (a::us)
theorem ua:∀{n:Nat}{P:List fM->Prop},UA n P->∀us:List fM,us.length=n->P us
 | 0,_,h,[],_=>h
 | _+1,P,h,a::us,e=>ua (P:=λus=>P (a::us)) (h a) us<|Nat.succ.inj e
def Bd(d:Fd):Prop:=∀(kV doc pm:fM) (an:Option fO) (cdv ct:fM),UA d.ps.length λus=>bindArgs (bM d.x d.x (Z2 d.st) (M0 d.st) (C8 d.st) .none kV doc pm an cdv ct) ⟨us,[]⟩=pure (d.ps.zip us)
def rd(tab:Tab)(cs:List (Str×D))(bl:List Str)(d:Fd):FnD:=C4 ((ev ⟨tab,cs,bl⟩ 99).b d.c<|M0 d.st) d.N.length
def aA7(M:Md K mg cs bl)(T:TOk P w K mg base k tab)(ok:d.okB=true)(Fn:Fun K d.x d.x d.st f fd):FnOk P w K mg base CX0 (k+1) f fd d.ps (spF K d.ps.length<|rd tab cs bl d):=by
 have Sc:=Fd.sc ok;refine bt8 (N:=d.N) Fn Sc λcdv A outer s H E hr=>(am0 ⟨tab,cs,bl⟩ 99).b (c:=d.c) ?_ _
 refine⟨rfl,rfl,Sc.nd,rfl,rfl,hr.units,λ_=>⟨λ_=>rfl,Sc.kind⟩,λx F n h=>?_,M.css,M.bls⟩;exact(T x F n h).imp (λ⟨f',fd',ps,h1,h2,h3,h4⟩=>⟨k,f',fd',ps,h1,hr,h2,h3,h4⟩) id
def j4{x:Str}{st:Stmt}(h:KF K x st)(M:Md K mg cs bl):∃(f:fO) (kV dc pm:fM) (an:Option fO) (cd ct:fM),Fun K x x st f (bM x x (Z2 st) (M0 st) (C8 st) .none kV dc pm an cd ct)/\mg x=Z (.ref f):=by
 obtain⟨f,oc,od,sl,kV,dc,pm,an,cd,ct,a,l,cc,kk⟩:=h;exact⟨f,kV,dc,pm,an,cd,ct,cJ5 l cc kk,M.ns _ _ a⟩
def TOk.cons{k:Nat}{tab:Tab}{x:Str}{F:FnD}{n:Nat}(T:TOk P w K mg base k tab)(h:∃(f:fO) (fd:fe) (ps:List Str),FnOk P w K mg base CX0 k f fd ps (spF K n F)/\mg x=Z (.ref f)/\aW K (.ref f)=true/\Q3 K fd ps []):
  TOk P w K mg base k ((x,F,n)::tab):=λy G m e=>by
 rw[aL]at e;split at e
 .rename_i q;cases e;simp only[beq_iff_eq]at q;subst q;exact .inl h
 .exact T y G m e
def TOk.add(T:TOk P w K mg base k tab)(M:Md K mg cs bl)(d:Fd)(h:KF K d.x d.st)(F:FnD)(e:rd tab cs bl d=F:=by kernel_rfl)(ok:d.okB=true:=by kernel_rfl)(bd:Bd d:=by repeat (first|exact rfl|intro _)):TOk P w K mg base (k+1) ((d.x,F,d.ps.length)::tab):=by
 subst e;obtain⟨f,kV,dc,pm,an,cd,ct,Fn,hm⟩:=j4 h M;exact(T.mono<|cw k).cons ⟨f,_,d.ps,aA7 M T ok Fn,hm,Fn.kp,.all<|ua (bd kV dc pm an cd ct)⟩
def TOk.rec(T:TOk P w K mg base k tab)(M:Md K mg cs bl)(d:Fd)(h:KF K d.x d.st)(F:Nat->FnD)(j:Nat)(e0:F 0=λ_=>O:=by rfl)(e:∀j,rd ((d.x,F j,d.ps.length)::tab) cs bl d=F (j+1):=by intro;kernel_rfl)(ok:d.okB=true:=by kernel_rfl)(bd:Bd d:=by repeat (first|exact rfl|intro _)):
  TOk P w K mg base (k+j) ((d.x,F j,d.ps.length)::tab):=by
 obtain⟨f,kV,dc,pm,an,cd,ct,Fn,hm⟩:=j4 h M;have bb:Q3 K _ d.ps []:=.all<|ua (bd kV dc pm an cd ct)
 have main:∀j,FnOk P w K mg base CX0 (k+j) f (bM d.x d.x (Z2 d.st) (M0 d.st) (C8 d.st) .none kV dc pm an cd ct) d.ps (spF K d.ps.length<|F j):=λj=>by
  induction j with
  | zero =>
   rw[e0];exact⟨λvs H Q E h=>h.1,λA outer s H args us vs Q E hr e0 hb hv hs=>by obtain⟨_,Hf,ds,d,_,_,e,_⟩:=hs;cases e⟩
  | succ j ih =>
   rw[← e j];exact aA7 M ((T.mono<|ce k j).cons ⟨f,_,d.ps,ih,hm,Fn.kp,bb⟩) ok Fn
 exact(T.mono<|ce k j).cons ⟨f,_,d.ps,main j,hm,Fn.kp,bb⟩
def TOk.rec2(T:TOk P w K mg base k tab)(M:Md K mg cs bl)(d d':Fd)(h:KF K d.x d.st)(h':KF K d'.x d'.st)(F F':Nat->FnD)(j:Nat)(e0:F 0=λ_=>O:=by rfl)(e0':F' 0=λ_=>O:=by rfl)
  (e:∀j,rd ((d.x,F j,d.ps.length)::(d'.x,F' j,d'.ps.length)::tab) cs bl d=F (j+1):=by intro;kernel_rfl) (e':∀j,rd ((d.x,F j,d.ps.length)::(d'.x,F' j,d'.ps.length)::tab) cs bl d'=F' (j+1):=by intro;kernel_rfl) (ok:d.okB=true:=by kernel_rfl) (ok':d'.okB=true:=by kernel_rfl) (bd:Bd d:=by repeat (first|exact rfl|intro _)) (bd':Bd d':=by repeat (first|exact rfl|intro _)) :
  TOk P w K mg base (k+j) ((d.x,F j,d.ps.length)::(d'.x,F' j,d'.ps.length)::tab):=by
 obtain⟨f,kV,dc,pm,an,cd,ct,Fn,hm⟩:=j4 h M;obtain⟨f',kV',dc',pm',an',cd',ct',Fn',hm'⟩:=j4 h' M;have b1:Q3 K _ d.ps []:=.all (ua<|bd kV dc pm an cd ct);have b2:Q3 K _ d'.ps []:=.all (ua<|bd' kV' dc' pm' an' cd' ct');have none_ok:∀{f:fO}{fd:fe}{ps:List Str},FnOk P w K mg base CX0 (k+0) f fd ps (spF K ps.length λ_=>O):=λ{f fd ps} =>⟨λvs H Q E h=>h.1,λA outer s H args us vs Q E hr e0 hb hv hs=>by obtain⟨_,Hf,ds,d,_,_,e,_⟩:=hs;cases e⟩
 have main:∀j,TOk P w K mg base (k+j) ((d.x,F j,d.ps.length)::(d'.x,F' j,d'.ps.length)::tab):=λj=>by
  induction j with
  | zero=>rw[e0,e0'];exact((T.mono<|aj _).cons ⟨f',_,d'.ps,none_ok,hm',Fn'.kp,b2⟩).cons ⟨f,_,d.ps,none_ok,hm,Fn.kp,b1⟩
  | succ j ih =>
   have o1:=aA7 M ih ok Fn;have o2:=aA7 M ih ok' Fn';rw[e j]at o1;rw[e' j]at o2;exact((T.mono<|ce k (j+1)).cons ⟨f',_,d'.ps,o2,hm',Fn'.kp,b2⟩).cons ⟨f,_,d.ps,o1,hm,Fn.kp,b1⟩
 exact main j
def TOk.rec3(T:TOk P w K mg base k tab)(M:Md K mg cs bl)(d1 d2 d3:Fd)(h1:KF K d1.x d1.st)(h2:KF K d2.x d2.st)(h3:KF K d3.x d3.st)(F1 F2 F3:Nat->FnD)(j:Nat)(z1:F1 0=λ_=>O:=by rfl)(z2:F2 0=λ_=>O:=by rfl)(z3:F3 0=λ_=>O:=by rfl)
  (e1:∀j,rd ((d1.x,F1 j,d1.ps.length)::(d2.x,F2 j,d2.ps.length)::(d3.x,F3 j,d3.ps.length)::tab) cs bl d1=F1 (j+1):=by intro;kernel_rfl) (e2:∀j,rd ((d1.x,F1 j,d1.ps.length)::(d2.x,F2 j,d2.ps.length)::(d3.x,F3 j,d3.ps.length)::tab) cs bl d2=F2 (j+1):=by intro;kernel_rfl) (e3:∀j,rd ((d1.x,F1 j,d1.ps.length)::(d2.x,F2 j,d2.ps.length)::(d3.x,F3 j,d3.ps.length)::tab) cs bl d3=F3 (j+1):=by intro;kernel_rfl) (ok1:d1.okB=true:=by kernel_rfl) (ok2:d2.okB=true:=by kernel_rfl) (ok3:d3.okB=true:=by kernel_rfl) (q1:Bd d1:=by repeat (first|exact rfl|intro _)) (q2:Bd d2:=by repeat (first|exact rfl|intro _)) (q3:Bd d3:=by repeat (first|exact rfl|intro _)) :
  TOk P w K mg base (k+j) ((d1.x,F1 j,d1.ps.length)::(d2.x,F2 j,d2.ps.length)::(d3.x,F3 j,d3.ps.length)::tab):=by
 obtain⟨f1,a1,a2,a3,a4,a5,a6,Fn1,hm1⟩:=j4 h1 M;obtain⟨f2,c1,c2,c3,c4,c5,c6,Fn2,hm2⟩:=j4 h2 M;obtain⟨f3,g1,g2,g3,g4,g5,g6,Fn3,hm3⟩:=j4 h3 M;have b1:Q3 K _ d1.ps []:=.all (ua<|q1 a1 a2 a3 a4 a5 a6);have b2:Q3 K _ d2.ps []:=.all (ua<|q2 c1 c2 c3 c4 c5 c6);have b3:Q3 K _ d3.ps []:=.all (ua<|q3 g1 g2 g3 g4 g5 g6);have none_ok:∀{f:fO}{fd:fe}{ps:List Str},FnOk P w K mg base CX0 (k+0) f fd ps (spF K ps.length λ_=>O):=λ{f fd ps} =>⟨λvs H Q E h=>h.1,λA outer s H args us vs Q E hr e0 hb hv hs=>by obtain⟨_,Hf,ds,d,_,_,e,_⟩:=hs;cases e⟩
 induction j with
 | zero=>rw[z1,z2,z3];exact(((T.mono<|aj _).cons ⟨f3,_,d3.ps,none_ok,hm3,Fn3.kp,b3⟩).cons ⟨f2,_,d2.ps,none_ok,hm2,Fn2.kp,b2⟩).cons ⟨f1,_,d1.ps,none_ok,hm1,Fn1.kp,b1⟩
 | succ j ih =>
  have o1:=aA7 M ih ok1 Fn1;have o2:=aA7 M ih ok2 Fn2;have o3:=aA7 M ih ok3 Fn3;rw[e1 j]at o1;rw[e2 j]at o2;rw[e3 j]at o3;exact(((T.mono<|ce k (j+1)).cons ⟨f3,_,d3.ps,o3,hm3,Fn3.kp,b3⟩).cons ⟨f2,_,d2.ps,o2,hm2,Fn2.kp,b2⟩).cons ⟨f1,_,d1.ps,o1,hm1,Fn1.kp,b1⟩
def cg7(M:Md K mg cs bl)(T:∀base:Heap,TOk P w K mg base k tab)(d:Fd)(h:KF K d.x d.st)(e:rd tab cs bl d=F)(hm:mg d.x=Z (.ref fa))(hp:d.ps=[x]:=by rfl)(ok:d.okB=true:=by kernel_rfl)(bd:Bd d:=by repeat (first|exact rfl|intro _)):
  ∃fd:fe,(∀(s:fN) (u:fM),BindsTo s fd ⟨[u],[]⟩ [(x,u)])/\∀base:Heap,FnOk P w K mg base CX0 (k+1) fa fd [x] (spF K 1 F):=by
 subst e;obtain⟨f,kV,dc,pm,an,cd,ct,Fn,hm'⟩:=j4 h M;cases hm.symm.trans hm';refine⟨bM d.x d.x (Z2 d.st) (M0 d.st) (C8 d.st) .none kV dc pm an cd ct,λs u=>.of_eq ?_,λbase=>?_⟩
 .have:=ua (bd kV dc pm an cd ct) [u] (by rw[hp];rfl);rw[hp]at this;exact this
 .have:=aA7 M (T base) ok Fn;rw[hp]at this;exact this
end
abbrev bE9:=List<|Str×(Str->Option D)
abbrev ap3:=List<|Str×(List D->Option Str)×Nat
structure Rg where
 rf:ap3
 cl:List Str
 tb:List (Str×List (Str×Bool))
 sb:List (Str×List Str)
 nb:List (Str×List Str)
 xf:bE9
structure FitR (S:Sg) (T:Rg) (c:Kx) (X:Cx):Prop where
 fit:Fit S c X
 ns:∀x C,clA X.K x=Z C->X.mg x=Z (.ref C)
 rfs:∀x R n,T.rf.lookup x=Z (R,n)->∃(k:Nat) (f:fO) (fd:fe) (ps:List Str),FnOk X.prog X.w X.K X.mg X.base (CX1 X.prog X.w) k f fd ps (spR X.K n R)/\Room k X.A/\X.mg x=Z (.ref f)/\aW X.K (.ref f)=true/\Q3 X.K fd ps []
 cls:∀x,T.cl.contains x=true->aa6 X.K x=true
 tbs:∀y l,T.tb.lookup y=Z l->(∃D,clA X.K y=Z D/\au1 X.K (.ref D) λx=>l.lookup x)\/(y = "ValueError" /\ X.mg y=O/\au1 X.K (.type "ValueError") λx=>l.lookup x)
 sbs:∀y l,T.sb.lookup y=Z l->aa6 X.K y=true/\∀x∈l,aa6 X.K x=true/\bH7 X.K x y=true
 nbs:∀y l,T.nb.lookup y=Z l->∀x∈l,aa6 X.K x=true/\cw5 X.K x y=true
 xfs:∀x F,T.xf.lookup x=Z F->∃(k:Nat) (f:fO) (fd:fe) (ps:List Str),FnQ X.prog X.w X.K X.mg X.base k f fd ps (spX X.K F)/\RoomQ k X.A/\X.mg x=Z (.ref f)/\aW X.K (.ref f)=true/\Q3 X.K fd ps []
section
variable (S:Sg) (T:Rg)
def fsP(c:Kx)(e:Expr):DE:=match e with
 | .FormattedValue v k sp _=>if k==114 then(match sp with
  | none=>dRp<|(ev S 99).e c v
  | some _=>dNo) else dNo
 | .Constant k _ _=>xCn k
 | _=>dNo
def msE(c:Kx)(e:Expr):DE:=match e with
 | .JoinedStr (e1::e2::es) _=>ao7 fL<|(e1::e2::es).map (fsP S c)
 | _=>(ev S 99).e c e
def fnL(c:Kx)(n:Nat):List Expr->Option (List<|FnD×(List D->Option Str))
 | []=>Z []
 | .Name x _::es=>(match S.fn.lookup x,T.rf.lookup x with
  | some (F,m),Z (R,m')=>if aC6 c.sc x&&m==n&&m'==n then(fnL c n es).map λr=>(F,R)::r else O
  | _,_=>O)
 | _::_=>O
def xvE(c:Kx)(e:Expr):DE:=(λ_:Rg=>(ev S 99).e c e) T
def xvS(c:Kx)(st:Stmt):DS:=match st with
 | .Return o _=>(match o with
  | some e=>B1<|xvE S T c e
  | none=>B8)
 | _=>xS S (ev S 99) c st
def rvN(c:Kx)(f a:Expr)(args:List Expr):RD:=match f with
 | .Name x _=>(match T.rf.lookup x with
  | some (R,n)=>if aC6 c.sc x&&(a::args).length==n&&(a::args).all pl then O2 R (evA ((ev S 99).e c) (a::args)) else rNo
  | none=>rNo)
 | _=>rNo
def rvE(c:Kx)(e:Expr):RD:=match e with
 | .Call f as kw _=>(match as,kw with
  | a::args,[]=>rvN S T c f a args
  | _,_=>rNo)
 | _=>rNo
def rvL(f:Stmt->RD)(c:Kx):List Stmt->RD
 | []=>rNo
 | [s]=>f s
 | s::t::r=>O8 (f s) (xS S (ev S 99) c s)<|rvL f c (t::r)
def rvR(mk:Bool)(c:Kx)(a b:Option Expr):RD:=match a,b with
 | some e,O=>(match e with
  | .Call f as kw _=>(match f with
   | .Name x _=>(match as,kw with
    | [e],[]=>if mk&&T.cl.contains x&&aC6 c.sc x&&pl e then T9 x (msE S c e) else rNo
    | _,_=>rNo)
   | _=>rNo)
  | _=>rNo)
 | _,_=>rNo
def rvX(c:Kx)(e:Expr):RD:=match e with
 | .Call f as kw q=>rvE S T c<|.Call f as kw q
 | _=>rNo
def rvA(c:Kx)(v:Expr):List Expr->RD
 | [t]=>(match t with
  | .Name _ _=>rvX S T c v
  | _=>rNo)
 | _=>rNo
def rvS(mk:Bool):Nat->Kx->Stmt->RD
 | 0,_,_=>rNo
 | n+1,c,st=>match st with
  | .Raise a b _=>rvR S T mk c a b
  | .If t a b _=>rIf ((ev S 99).t c t) (rvL S (rvS mk n c) c a)<|rvL S (rvS mk n c) c b
  | .Expr e _=>rvX S T c e
  | .Return o _=>(match o with
   | some e=>rvE S T c e
   | none=>rNo)
  | .Assign ts v _=>rvA S T c v ts
  | _=>rNo
def rvB(mk:Bool)(c:Kx)(sts:List Stmt):RD:=rvL S (rvS S T mk 9 c) c sts
def zvI(c:Kx)(w:Str)(a b:Expr):DE:=match a with
 | .Name x _=>(match b with
  | .Name y _=>if biB S c "isinstance" w&&aR5 c.sc x&&aC6 c.sc y then(match x9 x c.N,T.tb.lookup y with
   | some i,Z l=>bm5 i λx=>l.lookup x
   | _,_=>dNo) else dNo
  | _=>dNo)
 | _=>dNo
def zvE(c:Kx):Nat->Expr->DE
 | 0,_=>dNo
 | n+1,ex=>match ex with
  | .Call f as kw cpos=>(match kw with
   | []=>(match f with
    | .Name w _=>(match as with
     | [a,b]=>zvI S T c w a b
     | _=>dNo)
    | .Attribute o m apos=>(match as with
     | [a]=>if m == "count" && aw5 o&&apos.endLine==cpos.line&&pl a then bm6 (zvE c n o) (zvE c n a) else if m == "index" && aw5 o&&apos.endLine==cpos.line&&pl a then aE1 (zvE c n o) (zvE c n a) else dNo
     | _=>dNo)
    | _=>dNo)
   | _=>dNo)
  | .Constant k _ _=>xCn k
  | .Name x _=>(match x9 x c.N with
   | some i=>if aR5 c.sc x then A1 i else dNo
   | none=>dNo)
  | .Tuple es _ _=>if es.length<=1000 then B4 (evA (zvE c n) es) else dNo
  | .List es _=>if es.length<=1000 then L6 (evA (zvE c n) es) else dNo
  | .UnaryOp op a _=>(match op with
   | .USub=>ax2<|zvE c n a
   | .Not=>be2<|zvE c n a
   | _=>dNo)
  | .BinOp a op b _=>(match op with
   | .Add=>A5 B0 (zvE c n a)<|zvE c n b
   | _=>dNo)
  | .Compare a ops bs _=>(match ops,bs with
   | [op],[b]=>if pl b then A5 (aM3 op) (zvE c n a) (zvE c n b) else dNo
   | _,_=>dNo)
  | .BoolOp op vs _=>bA6 (zvE c n) op vs
  | _=>dNo
def zvT(c:Kx):Nat->Expr->DT
 | 0,_=>tNo
 | n+1,ex=>match ex with
  | .Compare a ops bs _=>(match ops,bs with
   | [op],[b]=>if pl b then tB2 (aM3 op) (zvE S T c 9 a) (zvE S T c 9 b) else tNo
   | _,_=>tNo)
  | .BoolOp op vs _=>bA5 (zvT c n) op vs
  | .UnaryOp op a _=>(match op with
   | .Not=>K5<|zvT c n a
   | _=>tNo)
  | _=>if plT ex then J5 (zvE S T c 9 ex) else tNo
def zvA(c:Kx)(d:DE)(v:Expr):List Expr->DS
 | [t]=>(match t with
  | .Name x _=>(match x9 x c.N with
   | some i=>if bz4 c x && !(isC v) then B3 i d else B8
   | none=>B8)
  | _=>B8)
 | _=>B8
def zvS(c:Kx):Nat->Stmt->DS
 | 0,_=>B8
 | n+1,st=>match st with
  | .Assign ts v _=>zvA c (zvE S T c 9 v) v ts
  | .If t a b _=>sIf (zvT S T c 9 t) (evB (zvS c n) a)<|evB (zvS c n) b
  | .Return o _=>(match o with
   | some e=>B1<|zvE S T c 9 e
   | none=>B8)
  | _=>B8
def hvX(c:Kx)(e:Expr):Option DE:=match e with
 | .Call f as kw _=>(match f with
  | .Name f _=>(match as,kw with
   | [a],[]=>(match a with
    | .Name x _=>(match T.xf.lookup f,x9 x c.N with
     | some F,Z i=>if aC6 c.sc f&&aR5 c.sc x then Z (ao8 i F) else O
     | _,_=>O)
    | _=>O)
   | _,_=>O)
  | _=>O)
 | _=>O
def hvE(c:Kx)(ex:Expr):DE:=match hvX T c ex with
 | some d=>d
 | none=>zvE ⟨[],[],S.bl⟩ T c 9 ex
def hvS(c:Kx)(st:Stmt):DS:=match st with
 | .Assign ts v _=>zvA c (hvE S T c v) v ts
 | .Return o _=>(match o with
  | some e=>B1<|hvE S T c e
  | none=>B8)
 | _=>B8
def al6(l:List Str)(r:RD):RD:=λρ=>match r ρ with
 | some (x,ρ1)=>if l.contains x then Z (x,ρ1) else O
 | none=>O
def hnd:ExceptHandler->Option (Str×Option Str×Stmt×List Stmt)
 | .ExceptHandler t nm su _=>(match t with
  | some e=>(match e with
   | .Name y _=>(match su with
    | b0::suite=>Z (y,nm,b0,suite)
    | []=>O)
   | _=>O)
  | none=>O)
def hc1(c:Kx)(h:ExceptHandler):Option (List Str×List Str×DS):=match hnd h with
 | some (y,O,b0,suite)=>(match T.sb.lookup y,T.nb.lookup y with
  | some l,Z nl=>if aC6 c.sc y then Z (l,nl,evB (hvS S T c) (b0::suite)) else O
  | _,_=>O)
 | _=>O
def hcL(c:Kx):List ExceptHandler->Option (List<|List Str×List Str×DS)
 | []=>Z []
 | h::hs=>(hc1 S T c h).bind λx=>(hcL c hs).map λr=>x::r
def tvA(c:Kx)(body:List Stmt)(h:ExceptHandler):DS:=match hnd h with
 | some (y,Z n,b0,suite)=>(match T.sb.lookup y,x9 n c.N with
  | some l,Z i=>if aC6 c.sc y&&c.sc.names.lookup n==Z .local then aY6 (al6 l<|rvB S T false c body) (evB (xvS S T c) body) i (evB (hvS S T c) (b0::suite)) else B8
  | _,_=>B8)
 | _=>B8
def tvH(c:Kx)(body:List Stmt):List ExceptHandler->DS
 | []=>B8
 | h0::hs=>(match hs with
  | []=>tvA S T c body h0
  | _=>B8)
def tvS(c:Kx)(st:Stmt):DS:=match st with
 | .Try body hs oe fi _=>(match oe,fi with
  | [],[]=>tvH S T c body hs
  | _,_=>B8)
 | _=>xS S (ev S 99) c st
def rdT(tab:Tab)(cs:List (Str×D))(bl:List Str)(T:Rg)(d:Fd):FnD:=C4 (evB (tvS ⟨tab,cs,bl⟩ T d.c)<|M0 d.st) d.N.length
def rdX(bl:List Str)(T:Rg)(d:Fd):Str->Option D:=cx6 (evB (zvS ⟨[],[],bl⟩ T d.c 9)<|M0 d.st) d.N.length
def rdR(tab:Tab)(cs:List (Str×D))(bl:List Str)(T:Rg)(d:Fd):List D->Option Str:=af6 (rvB ⟨tab,cs,bl⟩ T true d.c<|M0 d.st) d.N.length
end
section
variable {S:Sg}{T:Rg}{c:Kx}{X:Cx}
def cJ6(F:Fit S c X)(e:Expr):JE X e (fsP S c e):=by
 unfold fsP;split
 .split
  .rename_i h;simp only[beq_iff_eq]at h;subst h;split
   .exact cV4 ((am0 S 99).e F _)
   .exact D2
  .exact D2
 .exact bg3 _ _ _
 .exact D2
theorem bs7(F:Fit S c X):∀es:List Expr,JEs X es (es.map<|fsP S c)
 | []=>.nil
 | e::es=>.cons (cJ6 F e)<|bs7 F es
def cD3(F:Fit S c X)(e:Expr):JE X e (msE S c e):=by
 unfold msE;split
 .exact cV7 (bs7 F _)
 .exact(am0 S 99).e F e
def ct4(F:FitR S T c X)(e:Expr):JE X e (xvE S T c e):=(am0 S 99).e F.fit e
def ct3(F:FitR S T c X)(st:Stmt):JS X st (xvS S T c st):=by
 unfold xvS;split
 .split
  .exact aU3 (ct4 F _)
  .exact B7
 .exact bo7 (am0 S 99) F.fit st
def aY8:PX X m e rNo:=λρ x ρ1 C q=>by cases q
def bh8(F:FitR S T c X)(e:Expr):PX X m e (rvE S T c e):=by
 unfold rvE;split
 .rename_i f as kw pos;split
  .rename_i a args;unfold rvN;split
   .rename_i x p;split
    .rename_i R n hl;split
     .rename_i h;simp only[af,beq_iff_eq]at h;obtain⟨⟨hg,hn⟩,hp⟩:=h;obtain⟨g1,g2⟩:=t7 F.fit hg;obtain⟨k,f,fd,ps,hk,hr,hm,hkp,hb⟩:=F.rfs _ _ _ hl;simp only[bz,af]at hp;exact cc3 F.fit.hx hk hr g1 hm hkp hb (ar9 ((am0 S 99).e F.fit) (a::args)) hn g2 (K7 hp.1 _ _)<|(at8 pos _).trans (ab9 pos _ hp.2)
     .exact aY8
    .exact aY8
   .exact aY8
  .exact aY8
 .exact aY8
theorem aS3(F:FitR S T c X)(h:∀st,JR X m st<|f st):∀sts,JRs X m sts (rvL S f c sts)
 | []=>cG0
 | [s]=>ch9<|h s
 | s::t::r=>bO8 F.fit.hx (h s) (bo7 (am0 S 99) F.fit s)<|aS3 F h (t::r)
def cx2(F:FitR S T c X)(mk:Bool)(a b:Option Expr)(pos:Pos):JR X mk (.Raise a b pos) (rvR S T mk c a b):=by
 unfold rvR;split
 .split
  .split
   .rename_i x p;split
    .split
     .rename_i h;simp only[af]at h;obtain⟨⟨⟨rfl,hc⟩,hg⟩,hp⟩:=h;obtain⟨g1,g2⟩:=t7 F.fit hg;exact bO9 F.fit.hx (F.cls x hc) g1 (λC=>F.ns x C) F.fit.calm (cD3 F.fit _) g2<|K7 hp [] _
     .exact ad7
    .exact ad7
   .exact ad7
  .exact ad7
 .exact ad7
theorem bh7(F:FitR S T c X)(mk:Bool)(hlo:mk=true->cM9 X):∀(n:Nat) (st:Stmt),JR X mk st (rvS S T mk n c st)
 | 0,st=>ad7
 | n+1,st=>by
  cases st
  case Raise=>exact cx2 F mk _ _ _
  case If=>exact cV1 F.fit.hx ((am0 S 99).t F.fit _) (aS3 F (bh7 F mk hlo n) _)<|aS3 F (bh7 F mk hlo n) _
  case Expr e p =>
   cases e
   case Call=>exact ci0 (bh8 F _) rfl
   all_goals exact ad7
  case Return o p =>
   cases o
   .exact ad7
   .exact cG2 (bh8 F _)
  case Assign ts v p =>
   unfold rvS rvA;dsimp only;split
   .split
    .cases v
     case Call=>exact cG1 (bh8 F _) rfl
     all_goals exact ad7
    .exact ad7
   .exact ad7
  all_goals exact ad7
def bI5(F:FitR S T c X)(mk:Bool)(hlo:mk=true->cM9 X)(sts:List Stmt):JRs X mk sts (rvB S T mk c sts):=aS3 F (bh7 F mk hlo 9) sts
abbrev Cx.quiet(X:Cx):Cx:={ X with calm:=true }
abbrev cn7(T:Rg)(X:Cx):Prop:=(∀x C,clA X.K x=Z C->X.mg x=Z (.ref C))/\∀y l,T.tb.lookup y=Z l->(∃D,clA X.K y=Z D/\au1 X.K (.ref D) λx=>l.lookup x)\/(y = "ValueError" /\ X.mg y=O/\au1 X.K (.type "ValueError") λx=>l.lookup x)
def ct2(F:Fit S c (Cx.quiet X))(tb:cn7 T X)(w:Str)(a b:Expr)(p pos:Pos):JE X (.Call (.Name w p) [a,b] [] pos) (zvI S T c w a b):=by
 unfold zvI;split
 .split
  .rename_i x p1 y p2;split
   .rename_i h;simp only[af]at h;obtain⟨rfl,h1,h2⟩:=L0 F h.1.1;obtain⟨v1,v2,v3⟩:=aa8 F h.1.2;obtain⟨g1,g2⟩:=t7 F h.2;split
    .rename_i i l hi hl;rcases tb.2 y l hl with⟨D,hD,ok⟩|⟨rfl,hm,ok⟩
     .exact bQ1 (X:=X) (v:=.ref D) h1 h2 (F.slot hi) v1 v2 v3 (ce1 g1 (tb.1 y D hD) g2) rfl (λu r=>r) ok
     .exact bQ1 (X:=X) (v:=.ty "ValueError") h1 h2 (F.slot hi) v1 v2 v3 (bq3 (v:=.ty "ValueError") g1 hm (by decide +kernel) rfl (by decide) g2) rfl (λu r=>r) ok
    .exact D2
   .exact D2
  .exact D2
 .exact D2
theorem am6(F:Fit S c (Cx.quiet X))(tb:cn7 T X):∀(n:Nat) (ex:Expr),JE X ex (zvE S T c n ex)
 | 0,ex=>D2
 | n+1,ex=>by
  have hu:X.A.units+64 < cLine:=F.units;have R:=am6 F tb n;cases ex
  case Call f as kw cpos =>
   cases kw
   .cases f
    case Name w p =>
     unfold zvE;dsimp only;split
     .exact ct2 F tb _ _ _ _ _
     .exact D2
    case Attribute o m apos =>
     unfold zvE;dsimp only;split
     .split
      .rename_i h;simp only[af,beq_iff_eq]at h;obtain⟨⟨⟨hm,hn⟩,hl⟩,hp⟩:=h;subst hm;have hs:=K7 hp [] X.env;exact bQ5 hu (R _) (R _) (X0 hn _ _ _) (by first|rw[hs];rfl|unfold hfX;rw[hs];rfl) (by simpa using hl) hs
      .split
       .rename_i h;simp only[af,beq_iff_eq]at h;obtain⟨⟨⟨hm,hn⟩,hl⟩,hp⟩:=h;subst hm;have hs:=K7 hp [] X.env;exact aO5 hu (R _) (R _) (X0 hn _ _ _) (by first|rw[hs];rfl|unfold hfX;rw[hs];rfl) (by simpa using hl) hs
       .exact D2
     .exact D2
    all_goals exact D2
   .exact D2
  case Constant=>exact bg3 _ _ _
  case Name x p =>
   unfold zvE;dsimp only;split
   .rename_i i hi;split
    .rename_i v;obtain⟨h1,h2,h3⟩:=aa8 F v;exact bP5 (X:=X) i (F.slot hi) h1 h2 h3
    .exact D2
   .exact D2
  case Tuple es _ _ =>
   unfold zvE;dsimp only;split
   .rename_i h;exact bP7 (ar9 R _) h
   .exact D2
  case List es _ =>
   unfold zvE;dsimp only;split
   .rename_i h;exact ar8<|bP2 (ar9 R _) h
   .exact D2
  case UnaryOp op a p =>
   cases op
   case USub=>exact bj7<|R _
   case Not=>exact bP9<|R _
   all_goals exact D2
  case BinOp a op b p =>
   cases op
   case Add=>exact v7 br0 (R _)<|R _
   all_goals exact D2
  case Compare a ops bs p =>
   unfold zvE;dsimp only;split
   .split
    .rename_i h;exact bQ6 (Z1 hu _) (R _) (R _)<|ai0 h _
    .exact D2
   .exact D2
  case BoolOp=>exact aD8 R _ _ _
  all_goals exact D2
theorem bg1(F:Fit S c (Cx.quiet X))(tb:cn7 T X):∀(n:Nat) (ex:Expr),JT X ex (zvT S T c n ex)
 | 0,ex=>ag3
 | n+1,ex=>by
  have hu:X.A.units+64 < cLine:=F.units
  have oth:∀e:Expr,JT X e (if plT e then J5 (zvE S T c 9 e) else tNo):=λe=>by
   split
   .rename_i h;exact bO1 (am6 F tb 9 _)<|aZ4 h _
   .exact ag3
  cases ex
  case Compare a ops bs p =>
   unfold zvT;dsimp only;split
   .split
    .rename_i h;exact bO3 (Z1 hu _) (am6 F tb 9 _) (am6 F tb 9 _)<|ai0 h _
    .exact ag3
   .exact ag3
  case BoolOp=>exact bb3<|aD7 (bg1 F tb n) _ _ _
  case UnaryOp op a p =>
   cases op
   case Not=>exact bO2<|bg1 F tb n _
   all_goals exact ag3
  all_goals exact oth _
def bF8(F:Fit S c (Cx.quiet X))(h:JE X v d)(ts:List Expr)(pos:Pos):JS X (.Assign ts v pos) (zvA c d v ts):=by
 have nd:X.N.Nodup:=by have:X.N=c.N:=F.N;rw[this];exact F.nd
 unfold zvA;split
 .split
  .split
   .rename_i i hi;split
    .rename_i hc;simp only[af,bC]at hc;obtain⟨l1,l2⟩:=aT7 F hc.1;exact bj5 (X:=X) i nd h (F.slot hi) l1 (ar5 hc.2 _ _ _) l2
    .exact B7
   .exact B7
  .exact B7
 .exact B7
theorem bg2(F:Fit S c (Cx.quiet X))(tb:cn7 T X):∀(n:Nat) (st:Stmt),JS X st (zvS S T c n st)
 | 0,st=>B7
 | n+1,st=>by
  cases st
  case Assign=>exact bF8 F (am6 F tb 9 _) _ _
  case If=>exact cq4 (bg1 F tb 9 _) (ag5 (bg2 F tb n) _)<|ag5 (bg2 F tb n) _
  case Return o p =>
   cases o
   .exact B7
   .exact aU3 (am6 F tb 9 _)
  all_goals exact B7
def FitR.hf(F:FitR S T c X)(a:fO):Fit ⟨[],[],S.bl⟩ c (Cx.quiet<|Cx.held X (.ref a)) :=
 ⟨F.fit.N,F.fit.sc,F.fit.nd,rfl,F.fit.xe,F.fit.units,F.fit.df,(λx F n h=>nomatch h),(λx d h=>nomatch h),F.fit.bls⟩
def cI9(F:FitR S T c X)(a:fO)(ex:Expr)(h:hvX T c ex=Z d):JE (Cx.held X<|.ref a) ex d:=by
 unfold hvX at h;split at h
 .split at h
  .split at h
   .split at h
    .split at h
     .rename_i G i hl hi;split at h
      .rename_i hc;cases h;simp only[af]at hc;obtain⟨g1,g2⟩:=t7 F.fit hc.1;obtain⟨v1,v2,v3⟩:=aa8 F.fit hc.2;obtain⟨k,fa,fd,ps,hk,hr,hm,hkp,hb⟩:=F.xfs _ _ hl;exact bQ8 (X:=Cx.held X<|.ref a) hk ⟨hr.dp,hr.un⟩ g1 hm hkp hb (F.fit.slot hi) v1 v2 v3 g2
      .cases h
     .cases h
    .cases h
   .cases h
  .cases h
 .cases h
def bS1(F:FitR S T c X)(a:fO)(ex:Expr):JE (Cx.held X<|.ref a) ex (hvE S T c ex):=by
 unfold hvE;split
 .rename_i h;exact cI9 F a ex h
 .exact am6 (F.hf a) ⟨F.ns,F.tbs⟩ 9 ex
def cJ0(F:FitR S T c X)(a:fO)(st:Stmt):JS (Cx.held X<|.ref a) st (hvS S T c st):=by
 unfold hvS;split
 .exact bF8 (F.hf a) (bS1 F a _) _ _
 .split
  .exact aU3 (bS1 F a _)
  .exact B7
 .exact B7
def cf0(h:JRs X m sts r):JRs X m sts (al6 l r):=λρ x ρ1 C q=>by
 unfold al6 at q;split at q
 .rename_i x' ρ' e;split at q
  .cases q;exact h ρ x ρ1 C e
  .cases q
 .cases q
def cf1(h:al6 l r ρ=Z (x,ρ1)):x∈l:=by
 unfold al6 at h;split at h
 .split at h
  .rename_i c;cases h;exact cX.mp c
  .cases h
 .cases h
def cJ1(e:hnd h=Z (y,nm,b0,suite)):∃np hp,h=.ExceptHandler (Z<|.Name y np) nm (b0::suite) hp:=by
 unfold hnd at e;split at e;split at e
 .split at e
  .split at e
   .cases e;exact⟨_,_,rfl⟩
   .cases e
  .cases e
 .cases e
def cv8(F:FitR S T c X)(hex:X.ex=[])(hst:X.stack=X.env::X.outer)(hfr:X.env.frame=Z X.env.locals)(body:List Stmt)(h:ExceptHandler)(pos:Pos):JS X (.Try body [h] [] [] pos) (tvA S T c body h):=by
 unfold tvA;split
 .rename_i y n b0 suite e;obtain⟨np,hp,rfl⟩:=cJ1 e;split
  .rename_i l i hl hi;split
   .rename_i h;simp only[af,beq_iff_eq]at h;obtain⟨g1,g2⟩:=t7 F.fit h.1;obtain⟨c1,c2⟩:=F.sbs y l hl;exact ch4 F.fit.hx hex hst hfr (ag5 (ct3 F) body) (cf0<|bI5 F false (λz=>by cases z) body) g1 (λD hD=>F.ns y D hD) g2 c1 (λρ x ρ1 e=>c2 x<|cf1 e) (by rw[F.fit.N];exact F.fit.nd) (F.fit.slot hi) (by rw[F.fit.sc];exact h.2) λa=>ag5 (cJ0 F a) (b0::suite)
   .exact B7
  .exact B7
 .exact B7
def cv7(F:FitR S T c X)(hex:X.ex=[])(hst:X.stack=X.env::X.outer)(hfr:X.env.frame=Z X.env.locals)(st:Stmt):JS X st (tvS S T c st):=by
 unfold tvS;split
 .split
  .unfold tvH;split
   .exact B7
   .split
    .exact cv8 F hex hst hfr _ _ _
    .exact B7
  .exact B7
 .exact bo7 (am0 S 99) F.fit st
end
section
variable {P:Program}{w:World}{K:PySem.W.Frag}{mg:Str->Option Value}{base:Heap}{cs:List (Str×D)}{bl:List Str}
def TRk(P:fb)(w:World)(K:ad)(mg:Str->Option fM)(base:Heap)(k:Nat)(rt:ap3):Prop:=∀x R n,rt.lookup x=Z (R,n)->∃(f:fO) (fd:fe) (ps:List Str),
 FnOk P w K mg base (CX1 P w) k f fd ps (spR K n R)/\mg x=Z (.ref f)/\aW K (.ref f)=true/\Q3 K fd ps []
def TRk.nil:TRk P w K mg base 0 []:=λx R n h=>by cases h
theorem TRk.mono(T:TRk P w K mg base j rt)(h:j<=k):TRk P w K mg base k rt:=λx R n e =>
 let⟨f,fd,ps,h1,h2,h3,h4⟩:=T x R n e
 ⟨f,fd,ps,h1.mono h,h2,h3,h4⟩
def TRk.cons{k:Nat}{rt:ap3}{x:Str}{R:List D->Option Str}{n:Nat}(T:TRk P w K mg base k rt)(h:∃(f:fO) (fd:fe) (ps:List Str),FnOk P w K mg base (CX1 P w) k f fd ps (spR K n R)/\mg x=Z (.ref f)/\aW K (.ref f)=true/\Q3 K fd ps []):
  TRk P w K mg base k ((x,R,n)::rt):=λy G m e=>by
 rw[aL]at e;split at e
 .rename_i q;cases e;simp only[beq_iff_eq]at q;subst q;exact h
 .exact T y G m e
structure Cl (K:ad) (mg:Str->Option fM) (T:Rg):Prop where
 cls:∀x,T.cl.contains x=true->aa6 K x=true
 tbs:∀y l,T.tb.lookup y=Z l->(∃D,clA K y=Z D/\au1 K (.ref D) λx=>l.lookup x)\/(y = "ValueError" /\ mg y=O/\au1 K (.type "ValueError") λx=>l.lookup x)
 sbs:∀y l,T.sb.lookup y=Z l->aa6 K y=true/\∀x∈l,aa6 K x=true/\bH7 K x y=true
 nbs:∀y l,T.nb.lookup y=Z l->∀x∈l,aa6 K x=true/\cw5 K x y=true
def bn0(M:Md K mg cs bl)(h:clA K x=Z C):mg x=Z (.ref C):=by
 unfold clA at h;split at h
 .rename_i C' e;cases h;exact M.ns _ _ e
 .cases h
def TXk(P:fb)(w:World)(K:ad)(mg:Str->Option fM)(base:Heap)(k:Nat)(xt:bE9):Prop:=∀x F,xt.lookup x=Z F->∃(f:fO) (fd:fe) (ps:List Str),
 FnQ P w K mg base k f fd ps (spX K F)/\mg x=Z (.ref f)/\aW K (.ref f)=true/\Q3 K fd ps []
def TXk.nil:TXk P w K mg base 0 []:=λx R h=>by cases h
theorem TXk.mono(T:TXk P w K mg base j xt)(h:j<=k):TXk P w K mg base k xt:=λx F e =>
 let⟨f,fd,ps,h1,h2,h3,h4⟩:=T x F e
 ⟨f,fd,ps,h1.mono h,h2,h3,h4⟩
def TXk.cons{k:Nat}{xt:bE9}{x:Str}{F:Str->Option D}(T:TXk P w K mg base k xt)(h:∃(f:fO) (fd:fe) (ps:List Str),FnQ P w K mg base k f fd ps (spX K F)/\mg x=Z (.ref f)/\aW K (.ref f)=true/\Q3 K fd ps []):
  TXk P w K mg base k ((x,F)::xt):=λy G e=>by
 rw[aL]at e;split at e
 .rename_i q;cases e;simp only[beq_iff_eq]at q;subst q;exact h
 .exact T y G e
def cJ8(M:Md K mg cs bl)(Ck:Cl K mg T)(ok:d.okB=true)(hp:d.ps.length=1)(Fn:Fun K d.x d.x d.st f fd):FnQ P w K mg base (k+1) f fd d.ps (spX K<|rdX bl T d):=by
 have Sc:=Fd.sc ok;refine bT2 (N:=d.N) Fn Sc hp λcdv A outer s H hr=>ag5 (bg2 (S:=⟨[],[],bl⟩) (c:=d.c) ?_ ⟨λx C h=>bn0 M h,Ck.tbs⟩ 9) _
 exact⟨rfl,rfl,Sc.nd,rfl,rfl,by have:=hr.un;show(A.deeper _).units+64 < _;omega,λ_=>⟨λ_=>rfl,Sc.kind⟩,(λx F n h=>nomatch h),(λx d h=>nomatch h),M.bls⟩
def cK0(M:Md K mg cs bl)(Tk:TOk P w K mg base k tab)(Rk:TRk P w K mg base k T.rf)(Xk:TXk P w K mg base k T.xf)(Ck:Cl K mg T)(ok:d.okB=true)(Fn:Fun K d.x d.x d.st f fd):FnOk P w K mg base (CX1 P w) (k+1) f fd d.ps (spR K d.ps.length<|rdR tab cs bl T d):=by
 have Sc:=Fd.sc ok;refine bT3 (N:=d.N) Fn Sc λcdv A outer s H E hr=>bI5 (c:=d.c) ⟨?_,λx C h=>bn0 M h,λx R n h=>?_,Ck.cls,Ck.tbs,Ck.sbs,Ck.nbs,λx F h=>?_⟩ true (λ_=>cE1) _
 .refine⟨rfl,rfl,Sc.nd,rfl,rfl,hr.units,λ_=>⟨λ_=>rfl,Sc.kind⟩,λx F n h=>?_,M.css,M.bls⟩;exact(Tk x F n h).imp (λ⟨f',fd',ps,h1,h2,h3,h4⟩=>⟨k,f',fd',ps,h1,hr,h2,h3,h4⟩) id
 .obtain⟨f',fd',ps,h1,h2,h3,h4⟩:=Rk x R n h;exact⟨k,f',fd',ps,h1,hr,h2,h3,h4⟩
 .obtain⟨f',fd',ps,h1,h2,h3,h4⟩:=Xk x F h;exact⟨k,f',fd',ps,h1,⟨hr.dp,hr.un⟩,h2,h3,h4⟩
def cJ9(M:Md K mg cs bl)(Tk:TOk P w K mg base k tab)(Rk:TRk P w K mg base k T.rf)(Xk:TXk P w K mg base k T.xf)(Ck:Cl K mg T)(ok:d.okB=true)(Fn:Fun K d.x d.x d.st f fd):FnOk P w K mg base CX0 (k+1) f fd d.ps (spF K d.ps.length<|rdT tab cs bl T d):=by
 have Sc:=Fd.sc ok;refine bt8 (N:=d.N) Fn Sc λcdv A outer s H E hr=>ag5 (λst=>cv7 (c:=d.c) ⟨?_,λx C h=>bn0 M h,λx R n h=>?_,Ck.cls,Ck.tbs,Ck.sbs,Ck.nbs,λx F h=>?_⟩ rfl rfl rfl st) _
 .refine⟨rfl,rfl,Sc.nd,rfl,rfl,hr.units,λ_=>⟨λ_=>rfl,Sc.kind⟩,λx F n h=>?_,M.css,M.bls⟩;exact(Tk x F n h).imp (λ⟨f',fd',ps,h1,h2,h3,h4⟩=>⟨k,f',fd',ps,h1,hr,h2,h3,h4⟩) id
 .obtain⟨f',fd',ps,h1,h2,h3,h4⟩:=Rk x R n h;exact⟨k,f',fd',ps,h1,hr,h2,h3,h4⟩
 .obtain⟨f',fd',ps,h1,h2,h3,h4⟩:=Xk x F h;exact⟨k,f',fd',ps,h1,⟨hr.dp,hr.un⟩,h2,h3,h4⟩
end
def ck0(K:ad)(cv:fM)(p:Str×Bool):Bool:=match clA K p.1 with
 | some C=>xcB K C&&bV K C veB "ValueError.__new__" && PySem.W.kitOne K (.ref C) cv==Z p.2
 | none=>false
def clB(K:ad)(cl:List Str)(tb:List (Str×List (Str×Bool)))(sb nb:List (Str×List Str)):Bool :=
 cl.all (aa6 K)&&tb.all (λp=>match clA K p.1 with
  | some D=>p.2.all<|ck0 K (.ref D)
  | none=>p.1 == "ValueError" && p.2.all (ck0 K (.type "ValueError")))&&(sb.all λp=>aa6 K p.1&&p.2.all λx=>aa6 K x&&bH7 K x p.1)&&nb.all λp=>p.2.all λx=>aa6 K x&&cw5 K x p.1
theorem i8{α:Type}{x:Str}{a:α}:∀{l:List (Str×α)},l.lookup x=Z a->(x,a)∈l
 | [],h=>by cases h
 | (y,b)::l,h=>by
  rw[aL]at h;split at h
  .rename_i q;simp only[beq_iff_eq]at q;cases h;subst q;exact ah ..
  .exact xmm _ (i8 h)
def bR2{K:ad}{cv:fM}{l:List (Str×Bool)}(h:l.all (ck0 K cv)=true):au1 K cv λx=>l.lookup x:=λx b e=>by
 have:=aK.mp h _ (i8 e);unfold ck0 at this;split at this
 .rename_i C hC;simp only[af,beq_iff_eq]at this;exact⟨C,hC,this.1.1,this.1.2,this.2⟩
 .cases this
section
variable {P:Program}{w:World}{K:PySem.W.Frag}{mg:Str->Option Value}{base:Heap}{cs:List (Str×D)}{bl:List Str}
def Cl.of(M:Md K mg cs bl)(hv:bl.contains "ValueError" = true)(h:clB K T.cl T.tb T.sb T.nb=true):Cl K mg T:=by
 simp only[clB,af]at h;obtain⟨⟨⟨h1,h2⟩,h3⟩,h4⟩:=h;refine⟨λx hx=>aK.mp h1 x<|cX.mp hx,λy l e=>?_,λy l e=>?_,λy l e=>?_⟩
 .have:=aK.mp h2 _ (i8 e);dsimp only at this;split at this
  .rename_i D hD;exact .inl ⟨D,hD,bR2 this⟩
  .simp only[af,beq_iff_eq]at this;exact .inr ⟨this.1,by rw[this.1];exact M.bls _ hv,bR2 this.2⟩
 .have:=aK.mp h3 _ (i8 e);simp only[af,aK]at this;exact this
 .have:=aK.mp h4 _ (i8 e);simp only[af,aK]at this;exact this
def TRk.add(Rk:TRk P w K mg base k T.rf)(Tk:TOk P w K mg base k tab)(Xk:TXk P w K mg base k T.xf)(M:Md K mg cs bl)(Ck:Cl K mg T)(d:Fd)(h:KF K d.x d.st)(R:List D->Option Str)(e:rdR tab cs bl T d=R:=by kernel_rfl)(ok:d.okB=true:=by kernel_rfl)(bd:Bd d:=by repeat (first|exact rfl|intro _)):TRk P w K mg base (k+1) ((d.x,R,d.ps.length)::T.rf):=by
 subst e;obtain⟨f,kV,dc,pm,an,cd,ct,Fn,hm⟩:=j4 h M;exact(Rk.mono<|cw k).cons ⟨f,_,d.ps,cK0 M Tk Rk Xk Ck ok Fn,hm,Fn.kp,.all<|ua (bd kV dc pm an cd ct)⟩
def TOk.addT(Tk:TOk P w K mg base k tab)(Rk:TRk P w K mg base k T.rf)(Xk:TXk P w K mg base k T.xf)(M:Md K mg cs bl)(Ck:Cl K mg T)(d:Fd)(h:KF K d.x d.st)(F:FnD)(e:rdT tab cs bl T d=F:=by kernel_rfl)(ok:d.okB=true:=by kernel_rfl)(bd:Bd d:=by repeat (first|exact rfl|intro _)):TOk P w K mg base (k+1) ((d.x,F,d.ps.length)::tab):=by
 subst e;obtain⟨f,kV,dc,pm,an,cd,ct,Fn,hm⟩:=j4 h M;exact(Tk.mono<|cw k).cons ⟨f,_,d.ps,cJ9 M Tk Rk Xk Ck ok Fn,hm,Fn.kp,.all<|ua (bd kV dc pm an cd ct)⟩
def TXk.add(Xk:TXk P w K mg base k xt)(M:Md K mg cs bl)(Ck:Cl K mg T)(d:Fd)(h:KF K d.x d.st)(F:Str->Option D)(e:rdX bl T d=F:=by kernel_rfl)(hp:d.ps.length=1:=by rfl)(ok:d.okB=true:=by kernel_rfl)(bd:Bd d:=by repeat (first|exact rfl|intro _)):TXk P w K mg base (k+1) ((d.x,F)::xt):=by
 subst e;obtain⟨f,kV,dc,pm,an,cd,ct,Fn,hm⟩:=j4 h M;exact(Xk.mono<|cw k).cons ⟨f,_,d.ps,cJ8 M Ck ok hp Fn,hm,Fn.kp,.all<|ua (bd kV dc pm an cd ct)⟩
end
end G
namespace Sh
open PySem PySem.Spec PyProof.Rows L2 G
def bn9:DS:=(B1<|B4 (A0 (A3 ai5<|A0 (A1 0) A2)<|A0 (A3 au9<|A0 (A1 0) A2) A2))
def aK7:List D->Option D:=C4 bn9 1
def aM7:DS:=(B1<|A5 B0 (A5 B0 (D6 (A1 0) C7<|B6 ⇑2)<|B4 (A0 (A1 1) A2)) (D6 (A1 0) (B6 ⇑3) C7))
def am4:List D->Option D:=C4 aM7 2
def aD1:DS:=(B1<|A5 B0 (A5 B0 (D6 (A1 0) C7<|B6 ⇑3)<|B4 (A0 (A1 1) A2)) (D6 (A1 0) (B6 ⇑4) C7))
def ae0:List D->Option D:=C4 aD1 2
def aX1:DS:=(B1<|A5 B0 (A5 B0 (D6 (A1 0) C7<|B6 ⇑4)<|B4 (A0 (A1 1) A2)) (D6 (A1 0) (B6 ⇑5) C7))
def au7:List D->Option D:=C4 aX1 2
def aX2:DS:=(B1<|A5 B0 (A5 B0 (D6 (A1 0) C7<|B6 ⇑5)<|A1 1) (D6 (A1 0) (B6 ⇑7) C7))
def au8:List D->Option D:=C4 aX2 2
def au2:DS:=(B1<|A5 B0 (D6 (A1 0) C7<|B6 ⇑8) (B4<|A0 (A1 1) A2))
def ad2:List D->Option D:=C4 au2 2
def aB4:DS:=(A7 (B3 4<|A3 Q2 (A0 (A1 0)<|A0 (A1 1) (A0 (A1 2) A2)))<|B1 (B4<|A0 (dIx (A8 0) ⇑0) (A0 (dIx (A8 0) ⇑1)<|A0 (A5 B0 (A5 B0 (D6 (dIx (A8 0) ⇑2) C7<|B6 (A1 4))<|B4 (A0 (A1 3) A2))<|D6 (dIx (A8 0) ⇑2) (B6<|A5 B0 (A1 4) ⇑1) C7) A2)))
def ah3:List D->Option D:=C4 aB4 5
def aQ4:DS:=(B1<|dIx (A8 0) ⇑0)
def V7:List D->Option D:=C4 aQ4 1
def aB6:DS:=(B1<|dIx (A8 0) ⇑1)
def G8:List D->Option D:=C4 aB6 1
def bf6:DS:=(B1<|dIx (A8 0) ⇑2)
def M7:List D->Option D:=C4 bf6 1
def bF2:DS:=(B1<|dIx (A8 0) ⇑3)
def N9:List D->Option D:=C4 bF2 1
def cN2:DS:=(B1<|dIx (A8 0) ⇑2)
def aK6:List D->Option D:=C4 cN2 1
def cN1:DS:=(B1<|dIx (A8 0) ⇑3)
def aK5:List D->Option D:=C4 cN1 1
def bY3:DS:=(B1<|dIx (A8 0) (ax2 ⇑2))
def aa2:List D->Option D:=C4 bY3 1
def bY4:DS:=(B1<|dIx (A8 0) (ax2 ⇑1))
def av0:List D->Option D:=C4 bY4 1
def bY6:DS:=(B1<|A5 eqD (A3 V7<|A0 (A1 0) A2) (dC<|.str "put"))
def m7:List D->Option D:=C4 bY6 1
def bY7:DS:=(B1<|A5 eqD (A3 V7<|A0 (A1 0) A2) (dC<|.str "out"))
def m8:List D->Option D:=C4 bY7 1
def ax6:DS:=(A7 (sIf (tB2 (inD true) (A1 1)<|A3 V8 (A0 (A1 0) A2)) B8 C2)<|B1 (A3 U3<|A0 (A1 0) (A0 (A1 1) A2)))
def J4:List D->Option D:=C4 ax6 2
def ah2:DS:=(A7 (B3 2<|A3 V7 (A0 (A1 1) A2))<|A7 (sIf (tB2 eqD (A1 2)<|dC (.str "manner")) (B1<|be2 (A3 aa4<|A0 (A1 0) A2)) C2) (A7 (sIf (tB2 eqD (A1 2)<|dC (.str "place")) (B1<|A3 R6 (A0 (A1 0) A2)) C2)<|A7 (sIf (tB2 eqD (A1 2)<|dC (.str "spot")) (B1<|T7 (A3 R6<|A0 (A1 0) A2) (A3 X8<|A0 (A3 R4<|A0 (A1 0) A2) (A0 (A3 aK6<|A0 (A1 1) A2)<|A0 (A3 aK5<|A0 (A1 1) A2) A2))) C2) (B1<|dC (.bool true))))
def T6:List D->Option D:=C4 ah2 3
def ak2:DS:=(B3 2<|A3 V7 (A0 (A1 1) A2))
def ak1:DS:=(sIf (tB2 eqD (A1 2)<|dC (.str "strength")) (B1<|A3 W2 (A0 (A1 0) A2)) C2)
def ak0:DS:=(sIf (tB2 eqD (A1 2)<|dC (.str "shown")) (B1<|A3 ad5 (A0 (A1 0) A2)) C2)
def aj9:DS:=(sIf (tB2 eqD (A1 2)<|dC (.str "manner")) (B1<|A3 O3 (A0 (A1 0) A2)) C2)
def aj8:DS:=(sIf (tB2 eqD (A1 2)<|dC (.str "place")) (B1<|A3 aK7 (A0 (A1 0) A2)) C2)
def u9:DS:=(B1<|A3 ay1 (A0 (A3 R4<|A0 (A1 0) A2)<|A0 (A3 aK6<|A0 (A1 1) A2) (A0 (A3 aK5<|A0 (A1 1) A2) A2)))
def ac9:DS:=(A7 ak2<|A7 ak1 (A7 ak0<|A7 aj9 (A7 aj8 u9)))
def R3:List D->Option D:=C4 ac9 3
def Y6:DS:=(B3 2<|A3 V7 (A0 (A1 1) A2))
def Y5:DS:=(B3 3<|A3 av0 (A0 (A1 1) A2))
def Y4:DS:=(sIf (tB2 eqD (A1 2)<|dC (.str "strength")) (B1<|A3 ae0 (A0 (A1 0)<|A0 (A1 3) A2)) C2)
def Y3:DS:=(sIf (tB2 eqD (A1 2)<|dC (.str "shown")) (B1<|A3 au7 (A0 (A1 0)<|A0 (A1 3) A2)) C2)
def Y2:DS:=(sIf (tB2 eqD (A1 2)<|dC (.str "manner")) (B1<|A3 am4 (A0 (A1 0)<|A0 (A1 3) A2)) C2)
def Y1:DS:=(sIf (tB2 eqD (A1 2)<|dC (.str "place")) (B1<|A3 au8 (A0 (A1 0)<|A0 (A1 3) A2)) C2)
def S1:DS:=(B1<|A3 ad2 (A0 (A1 0)<|A0 (A3 ah3<|A0 (A3 R4<|A0 (A1 0) A2) (A0 (A3 aK6<|A0 (A1 1) A2)<|A0 (A3 aK5<|A0 (A1 1) A2) (A0 (A1 3) A2))) A2))
def R9:DS:=(A7 Y6<|A7 Y5 (A7 Y4<|A7 Y3 (A7 Y2<|A7 Y1 S1)))
def J2:List D->Option D:=C4 R9 4
def ah0:DS:=(A7 (B3 2<|A3 G8 (A0 (A1 1) A2))<|A7 (B3 3<|A3 J4 (A0 (A1 0)<|A0 (A1 2) A2)) (A7 (sIf (K5<|J5 (A3 T6<|A0 (A1 3) (A0 (A1 1) A2))) B8 C2)<|A7 (sIf (tB2 neD (A3 R3<|A0 (A1 3) (A0 (A1 1) A2))<|A3 aa2 (A0 (A1 1) A2)) B8 C2) (B1<|A3 X6 (A0 (A1 0)<|A0 (A1 2) (A0 (A3 J2<|A0 (A1 3) (A0 (A1 1) A2)) A2)))))
def M6:List D->Option D:=C4 ah0 4
def au3:DS:=(A7 (sIf (tB2 eqD (A1 1)<|dC (.str "")) (B1<|dIx (A8 0) ⇑2) C2)<|A7 (B3 2<|A3 J4 (A0 (A1 0)<|A0 (A1 1) A2)) (A7 (sIf (K5<|J5 (A3 K4<|A0 (A1 2) A2)) B8 C2)<|B1 (A3 E6<|A0 (A1 2) A2)))
def G5:List D->Option D:=C4 au3 3
def ac8:DS:=(A7 (sIf (tB2 eqD (A1 1)<|dC (.str "")) (B1<|B4 (A0 (dIx (A8 0) ⇑0)<|A0 (dIx (A8 0) ⇑1) (A0 (A1 2) A2))) C2)<|B1 (A3 X6<|A0 (A1 0) (A0 (A1 1)<|A0 (A3 L8<|A0 (A3 U3<|A0 (A1 0) (A0 (A1 1) A2)) (A0 (A1 2) A2)) A2)))
def E7:List D->Option D:=C4 ac8 3
def i4:DS:=(B3 2<|A3 G8 (A0 (A1 1) A2))
def h9:DS:=(B3 3<|A3 M7 (A0 (A1 1) A2))
def g8:DS:=(B3 4<|A3 G5 (A0 (A1 0)<|A0 (A1 2) A2))
def am9:DS:=(sIf (tB2 gtI (A1 3)<|S2 (A8 4)) B8 C2)
def g7:DS:=(B3 5<|A3 E7 (A0 (A1 0)<|A0 (A1 2) (A0 (A5 B0 (A5 B0 (D6 (A1 4) C7<|B6 (A1 3))<|B4 (A0 (A3 N9<|A0 (A1 1) A2) A2))<|D6 (A1 4) (B6<|A1 3) C7) A2)))
def c7:DS:=(sIf (K5<|J5 (A3 S0<|A0 (A1 5) A2)) B8 C2)
def am8:DS:=(B1<|A1 5)
def aD2:DS:=(A7 i4<|A7 h9 (A7 g8<|A7 am9 (A7 g7<|A7 c7 am8)))
def P1:List D->Option D:=C4 aD2 6
def aD3:DS:=(A7 (B3 2<|A3 G8 (A0 (A1 1) A2))<|A7 (B3 3<|A3 M7 (A0 (A1 1) A2)) (A7 (B3 4<|A3 G5 (A0 (A1 0)<|A0 (A1 2) A2))<|A7 (sIf (tB2 neD (D6 (A1 4) (B6<|A1 3)<|B6 (A5 B0 (A1 3) ⇑1))<|B4 (A0 (A3 N9<|A0 (A1 1) A2) A2)) B8 C2) (B1<|A3 E7 (A0 (A1 0)<|A0 (A1 2) (A0 (A5 B0 (D6 (A1 4) C7<|B6 (A1 3))<|D6 (A1 4) (B6<|A5 B0 (A1 3) ⇑1) C7) A2)))))
def P2:List D->Option D:=C4 aD3 5
def cN3:DS:=(A7 (sIf (J5<|A3 m7 (A0 (A1 1) A2)) (B1<|A3 P1 (A0 (A1 0)<|A0 (A1 1) A2)) C2)<|A7 (sIf (J5<|A3 m8 (A0 (A1 1) A2)) (B1<|A3 P2 (A0 (A1 0)<|A0 (A1 1) A2)) C2) (B1<|A3 M6 (A0 (A1 0)<|A0 (A1 1) A2)))
def aX6:List D->Option D:=C4 cN3 2
def bo5:DS:=(A7 (sIf (J5<|A3 m7 (A0 (A1 0) A2)) (B1<|A5 B0 (B4<|A0 (dC<|.str "out") A2) (D6 (A1 0) (B6 ⇑1) C7)) C2)<|A7 (sIf (J5<|A3 m8 (A0 (A1 0) A2)) (B1<|A5 B0 (B4<|A0 (dC<|.str "put") A2) (D6 (A1 0) (B6 ⇑1) C7)) C2) (B1<|A5 B0 (D6 (A1 0) C7<|B6 (ax2 ⇑2)) (B4<|A0 (A3 av0<|A0 (A1 0) A2) (A0 (A3 aa2<|A0 (A1 0) A2) A2))))
def n4:List D->Option D:=C4 bo5 1
def aK1(self:List D->Option D):DS:=(B1<|bu2 (qE<|A5 B0 (L6<|A0 ⇑0 A2) (L6<|D1 1 [] (K1<|A1 0) (B9 0) (tB2 eqD (dIx (A8 0) ⇑0)<|dC (.str "group")) (A5 B0 ⇑1<|A3 self (A0 (dIx (A8 0) ⇑5) A2)))))
def S9:Nat->List D->Option D
 | 0=>λ_=>O
 | k+1=>C4 (aK1<|S9 k) 1
def O5:DS:=(A7 (aq5 (A1 1)<|S7 4 (D0 (B9 2)<|D0 (B9 3) (D0 (B9 4)<|D0 (B9 5) T4)))<|A7 (sIf (tB2 gtI (A1 4)<|S2 (A8 0)) (B1<|dC .none) C2) (A7 (sIf (tB2 eqD (A1 2)<|dC (.str "put")) (B1<|A5 B0 (A5 B0 (D6 (A1 0) C7<|B6 (A1 4))<|B4 (A0 (A1 5) A2)) (D6 (A1 0) (B6<|A1 4) C7)) C2)<|A7 (sIf (P8 (tB2 eqD (A1 4)<|S2 (A8 0))<|tB2 neD (dIx (A8 0)<|A1 4) (A1 5)) (B1<|dC .none) C2) (B1<|A5 B0 (D6 (A1 0) C7<|B6 (A1 4)) (D6 (A1 0) (B6<|A5 B0 (A1 4) ⇑1) C7))))
def T2:List D->Option D:=C4 O5 6
def i7:DS:=(B3 2<|bu4 (dC<|.dict (mgD [("manner", .int 2),("strength", .int 3),("shown", .int 4)])) (dIx (A8 1) ⇑0) ⇑5)
def N3:DS:=(sIf (tB2 ltI (A1 2) ⇑5) (A7 (sIf (P8 (tB2 neD (dIx (A8 0)<|A1 2)<|dIx (A8 1) ⇑2)<|Z8 (tB2 eqD (dIx (A8 1) ⇑0)<|dC (.str "manner")) (tB2 eqD (dIx (A8 0) ⇑0)<|dC (.str "tone"))) (B1<|dC .none) C2)<|B1 (A5 B0 (A5 B0 (D6 (A1 0) C7<|B6 (A1 2))<|B4 (A0 (dIx (A8 1) ⇑3) A2))<|D6 (A1 0) (B6<|A5 B0 (A1 2) ⇑1) C7)) C2)
def i6:DS:=(sIf (tB2 neD (dIx (A8 0) ⇑0)<|dC (.str "layer")) (B1<|dC .none) C2)
def T8:DS:=(sIf (tB2 eqD (dIx (A8 1) ⇑0)<|dC (.str "place")) (A7 (sIf (tB2 neD (D6 (A1 0) (B6 ⇑5)<|B6 ⇑7)<|dIx (A8 1) ⇑2) (B1<|dC .none) C2)<|B1 (A5 B0 (A5 B0 (D6 (A1 0) C7<|B6 ⇑5)<|dIx (A8 1) ⇑3)<|D6 (A1 0) (B6 ⇑7) C7)) C2)
def af4:DS:=(aq5 (A1 1)<|S7 6 (D0 (B9 3)<|D0 (B9 4) (D0 (B9 5)<|D0 (B9 6) (D0 (B9 7)<|D0 (B9 8) T4))))
def af3:DS:=(aq5 (dIx (A8 0) ⇑8)<|S7 3 (D0 (B9 9)<|D0 (B9 10) (D0 (B9 11) T4)))
def Q8:DS:=(sIf (P8 (tB2 geI (A1 5)<|A1 9)<|P8 (tB2 geI (A1 6)<|A1 10) (tB2 neD (dIx (A8 11)<|A5 B0 (A5 E9 (A1 6)<|A1 9) (A1 5))<|A1 7)) (B1<|dC .none) C2)
def af2:DS:=(B3 11<|A5 B0 (A5 B0 (D6 (A1 11) C7<|B6 (A5 B0 (A5 E9 (A1 6)<|A1 9)<|A1 5))<|B4 (A0 (A1 8) A2)) (D6 (A1 11) (B6<|A5 B0 (A5 B0 (A5 E9 (A1 6)<|A1 9)<|A1 5) ⇑1) C7))
def aF4:DS:=(B1<|A5 B0 (D6 (A1 0) C7<|B6 ⇑8) (B4<|A0 (B4<|A0 (A1 9) (A0 (A1 10)<|A0 (A1 11) A2)) A2))
def u6:DS:=(A7 i7<|A7 N3 (A7 i6<|A7 T8 (A7 af4<|A7 af3 (A7 Q8<|A7 af2 aF4))))
def T5:List D->Option D:=C4 u6 12
def az8:DS:=(aq5 (A1 0)<|S7 3 (D0 (B9 2)<|D0 (B9 3) (D0 (B9 4) T4)))
def az7:DS:=(B3 5<|be4 (qN<|D1 1 [] (K1<|A3 (G6 12) (A0 (A1 4) A2)) (B9 0) F6 (B4<|A0 (dIx (A8 0) ⇑1) (A0 (A1 0) A2))))
def ae9:DS:=(sIf (tB2 (inD true) (dIx (A8 1) ⇑0)<|B4 (A0 (dC<|.str "put")<|A0 (dC<|.str "out") A2)) (A7 (sIf (tB2 (G.inK true) (dIx (A8 1) ⇑1)<|A1 5) (B1<|dC .none) C2)<|A7 (B3 6<|A3 T5 (A0 (ao6 (A1 5)<|dIx (A8 1) ⇑1)<|A0 (A1 1) A2)) (A7 (sIf (tB2 isB (A1 6)<|dC .none) (B1<|dC .none) C2)<|B1 (B4<|A0 (A1 2) (A0 (A1 3)<|A0 (A3 (O0 12)<|A0 (A1 4) (A0 (dIx (A8 1) ⇑1)<|A0 (B4<|A0 (A1 6) A2) A2)) A2)))) C2)
def Q6:DS:=(sIf (Z8 (tB2 eqD (dIx (A8 1) ⇑0)<|dC (.str "put"))<|tB2 neD (L6<|D1 1 [5] (K1<|A3 (G6 12) (A0 (B4<|A0 (dIx (A8 1) ⇑3) A2) A2)) (B9 0) (tB2 (G.inK false) (dIx (A8 0) ⇑1)<|A1 1) (A1 0)) (L6 A2)) (B1<|dC .none) C2)
def o0:DS:=(sIf (tB2 eqD (dIx (A8 1) ⇑1)<|dC (.str "")) (B3 7<|A3 T2 (A0 (A1 4)<|A0 (A1 1) A2))<|sIf (P8 (tB2 (G.inK true) (dIx (A8 1) ⇑1)<|A1 5)<|tB2 neD (dIx (qE<|ao6 (A1 5) (dIx (A8 1) ⇑1)) ⇑0) (dC<|.str "group")) (B3 7<|dC .none) (A7 (B3 8<|ao6 (A1 5) (dIx (A8 1) ⇑1))<|A7 (B3 7<|A3 T2 (A0 (dIx (A8 8) ⇑5)<|A0 (A1 1) A2)) (sIf (tB2 aw2 (A1 7)<|dC .none) (B3 7<|A3 (O0 12) (A0 (A1 4)<|A0 (dIx (A8 1) ⇑1) (A0 (B4<|A0 (A5 B0 (D6 (A1 8) C7<|B6 ⇑5)<|B4 (A0 (A1 7) A2)) A2) A2))) C2)))
def n9:DS:=(sIf (P8 (tB2 isB (A1 7)<|dC .none)<|tB2 gtI (A3 (S9 12)<|A0 (A1 7) A2) ⇑3) (B1<|dC .none) C2)
def ae8:DS:=(B1<|B4 (A0 (A1 2)<|A0 (A1 3) (A0 (A1 7) A2)))
def aK0:DS:=(A7 az8<|A7 az7 (A7 ae9<|A7 Q6 (A7 o0<|A7 n9 ae8)))
def k8:List D->Option D:=C4 aK0 9
def cn8:DS:=(A7 (B3 4<|A5 B0 (L6<|A0 (B4<|A0 (dC<|.str "") (A0 (A1 2) A2)) A2) (L6<|D1 1 [] (K1<|A3 (G6 12) (A0 (A1 2) A2)) (B9 0) (tB2 eqD (dIx (A8 0) ⇑0)<|dC (.str "group")) (B4<|A0 (dIx (A8 0) ⇑1) (A0 (dIx (A8 0) ⇑5) A2))))<|A7 (aq5 (dIx (A8 4)<|A3 A9 (A0 (A1 0)<|A0 (A1 1) (A0 (S2<|A8 4) A2)))<|S7 2 (D0 (B9 5)<|D0 (B9 6) T4)) (A7 (B3 7<|A3 S8 (A0 (A1 0)<|A0 (A5 B0 (A1 1) ⇑10) (A0 (A1 3)<|A0 (dC<|.str "over") A2)))<|A7 (sIf (tB2 eqD (A3 A9<|A0 (A1 0) (A0 (A5 B0 (A1 1) ⇑1)<|A0 ⇑3 A2)) ⇑0) (B3 7<|B4 (A0 (dC<|.str "group")<|A0 (A1 3) (A0 (dC<|.str "plus")<|A0 (B4<|A0 ⇑1 (A0 ⇑2 A2)) (A0 (dC<|.bool true)<|A0 (B4<|A0 (A5 B0 (A5 B0 (D6 (A1 7) C7<|B6 ⇑1)<|B4 (A0 (A5 B0 (A1 3)<|dC (.str "q")) A2))<|D6 (A1 7) (B6 ⇑2) C7) A2) A2)))) C2) (B1<|B4 (A0 (dC<|.str "put")<|A0 (A1 5) (A0 (A3 A9<|A0 (A1 0) (A0 (A5 B0 (A1 1) ⇑2)<|A0 (A5 B0 (S2<|A8 6) ⇑1) A2))<|A0 (A1 7) A2)))))
def aE6:List D->Option D:=C4 cn8 8
def az9:DS:=(B3 4<|dIx (A8 2) ⇑2)
def W8:DS:=(B3 5<|A3 (G6 12) (A0 (A1 4) A2))
def W7:DS:=(sIf (P8 (tB2 eqD (A1 5)<|L6 A2)<|tB2 eqD (A3 A9<|A0 (A1 0) (A0 (A1 1)<|A0 ⇑4 A2)) ⇑0) (B1<|A3 aE6 (A0 (A1 0)<|A0 (A5 B0 (A1 1) ⇑20) (A0 (A1 4)<|A0 (A1 3) A2))) C2)
def af1:DS:=(B3 6<|dIx (A8 5) (A3 A9<|A0 (A1 0) (A0 (A5 B0 (A1 1) ⇑1)<|A0 (S2<|A8 5) A2)))
def af0:DS:=(B3 7<|A3 A9 (A0 (A1 0)<|A0 (A5 B0 (A1 1) ⇑2) (A0 ⇑6 A2)))
def W6:DS:=(sIf (tB2 eqD (A1 7) ⇑0) (A7 (B3 8<|A5 B0 (L6<|A0 (B4<|A0 (dC<|.str "") (A0 (A1 4) A2)) A2) (L6<|D1 1 [] (K1<|A1 5) (B9 0) (tB2 eqD (dIx (A8 0) ⇑0)<|dC (.str "group")) (B4<|A0 (dIx (A8 0) ⇑1) (A0 (dIx (A8 0) ⇑5) A2))))<|A7 (aq5 (dIx (qN<|D1 1 [6] (K1<|A1 8) (B9 0) (tB2 (inD false) (A1 1)<|dIx (A8 0) ⇑1) (A1 0)) ⇑0)<|S7 2 (D0 (B9 9)<|D0 (B9 10) T4)) (B1<|B4 (A0 (dC<|.str "out")<|A0 (A1 9) (A0 (at4 (A1 10)<|A1 6)<|A0 (A1 6) A2)))) C2)
def Q7:DS:=(sIf (P8 (tB2 eqD (A1 7) ⇑1)<|tB2 eqD (dIx (A8 6) ⇑0) (dC<|.str "tone")) (B1<|B4 (A0 (dC<|.str "shown")<|A0 (dIx (A8 6) ⇑1) (A0 (dIx (A8 6) ⇑4)<|A0 (A5 eqD (A3 A9<|A0 (A1 0) (A0 (A5 B0 (A1 1) ⇑3)<|A0 ⇑2 A2)) ⇑0) A2))) C2)
def W5:DS:=(sIf (P8 (tB2 eqD (A1 7) ⇑2)<|tB2 eqD (dIx (A8 6) ⇑0) (dC<|.str "group")) (B1<|B4 (A0 (dC<|.str "strength")<|A0 (dIx (A8 6) ⇑1) (A0 (dIx (A8 6) ⇑3)<|A0 (A3 L5<|A0 (A1 0) (A0 (A5 B0 (A1 1) ⇑4) A2)) A2))) C2)
def p7:DS:=(sIf (tB2 eqD (A1 7) ⇑3) (A7 (B3 11<|L6 (A0 (dC<|.str "over")<|A0 (dC<|.str "multiply") (A0 (dC<|.str "screen")<|A0 (dC<|.str "plus") (A0 (dC<|.str "atop")<|A0 (dC<|.str "cut") A2))))<|B1 (B4<|A0 (dC<|.str "manner") (A0 (dIx (A8 6) ⇑1)<|A0 (dIx (A8 6) ⇑2) (A0 (dIx (A8 11)<|A3 A9 (A0 (A1 0)<|A0 (A5 B0 (A1 1) ⇑3) (A0 ⇑6 A2))) A2)))) C2)
def o9:DS:=(sIf (tB2 eqD (A1 7) ⇑4) (B1<|B4 (A0 (dC<|.str "place")<|A0 (dIx (A8 6) ⇑1) (A0 (D6 (A1 6) (B6 ⇑5)<|B6 ⇑7)<|A0 (B4<|A0 (A5 aR7 (A3 A9<|A0 (A1 0) (A0 (A5 B0 (A1 1) ⇑3)<|A0 ⇑5 A2)) ⇑2) (A0 (A5 aR7 (A3 A9<|A0 (A1 0) (A0 (A5 B0 (A1 1) ⇑4)<|A0 ⇑5 A2)) ⇑2) A2)) A2))) C2)
def ab4:DS:=(aq5 (dIx (A8 6) ⇑8)<|S7 3 (D0 (B9 12)<|D0 (B9 13) (D0 (B9 14) T4)))
def ab3:DS:=(B3 15<|A3 A9 (A0 (A1 0)<|A0 (A5 B0 (A1 1) ⇑3) (A0 (A1 12) A2)))
def ab1:DS:=(B3 16<|A3 A9 (A0 (A1 0)<|A0 (A5 B0 (A1 1) ⇑4) (A0 (A1 13) A2)))
def ab0:DS:=(B1<|B4 (A0 (dC<|.str "spot")<|A0 (dIx (A8 6) ⇑1) (A0 (A1 15)<|A0 (A1 16) (A0 (dIx (A8 14)<|A5 B0 (A5 E9 (A1 16)<|A1 12) (A1 15))<|A0 (A3 X7<|A0 (A1 0) (A0 (A5 B0 (A1 1) ⇑7) A2)) A2))))
def aa1:DS:=(A7 az9<|A7 W8 (A7 W7<|A7 af1 (A7 af0<|A7 W6 (A7 Q7<|A7 W5 (A7 p7<|A7 o9 (A7 ab4<|A7 ab3 (A7 ab1 ab0)))))))
def ah4:List D->Option D:=C4 aa1 17
def al5:DS:=(B3 3<|A5 E9 (B4<|A0 (B4<|A0 ⇑0 (A0 ⇑1 A2)) A2) ⇑4)
def al4:DS:=(B3 4<|L6 (A0 (A5 B0 (A5 B0 (D6 (A1 1) C7<|B6 ⇑1)<|B4 (A0 (dC<|.str "zzzzzz") A2))<|D6 (A1 1) (B6 ⇑2) C7)<|A0 (A3 n4<|A0 (A1 1) A2) (A0 (B4<|A0 (dC<|.str "shown") (A0 (dC<|.str "zzzzzz")<|A0 (dC<|.bool true) (A0 (dC<|.bool false) A2))) A2)))
def al3:DS:=(B3 5<|A3 S8 (A0 (A1 0)<|A0 ⇑1010 (A0 (dC<|.str "zzzzzz")<|A0 (dC<|.str "cut") A2)))
def aL3:DS:=(B3 6<|B4 (A0 (dC<|.str "group")<|A0 (dC<|.str "qqqqqr") (A0 (dC<|.str "over")<|A0 (B4<|A0 ⇑1 (A0 ⇑1 A2)) (A0 (dC<|.bool true)<|A0 (B4<|A0 (A1 5) A2) A2))))
def aL2:DS:=(B3 6<|B4 (A0 (dC<|.str "group")<|A0 (dC<|.str "qqqqqq") (A0 (dC<|.str "over")<|A0 (B4<|A0 ⇑1 (A0 ⇑1 A2)) (A0 (dC<|.bool true)<|A0 (B4<|A0 (A1 6) A2) A2))))
def aL1:DS:=(B3 4<|A5 B0 (A1 4) (L6<|A0 (B4<|A0 (dC<|.str "put") (A0 (dC<|.str "")<|A0 ⇑9 (A0 (A1 5) A2))) (A0 (B4<|A0 (dC<|.str "out") (A0 (dC<|.str "")<|A0 ⇑0 (A0 (A1 5) A2)))<|A0 (B4<|A0 (dC<|.str "put") (A0 (dC<|.str "zzzzzz")<|A0 ⇑0 (A0 (A1 5) A2))) A2)))
def al2:DS:=(W9 (K1<|A3 (G6 12) (A0 (dIx (A8 2) ⇑2) A2)) (B9 7)<|A7 (B3 8<|dIx (A8 7) ⇑1) (A7 (B3 4<|A5 B0 (A1 4) (L6<|A0 (B4<|A0 (dC<|.str "put") (A0 (A1 8)<|A0 ⇑0 (A0 (A1 5) A2))) (A0 (B4<|A0 (dC<|.str "put") (A0 (dC<|.str "")<|A0 ⇑0 (A0 (A1 7) A2)))<|A0 (B4<|A0 (dC<|.str "manner") (A0 (A1 8)<|A0 (dC<|.str "cut") (A0 (dC<|.str "over") A2))) A2)))<|A7 (B3 4<|A5 B0 (A1 4) (L6<|A0 (B4<|A0 (dC<|.str "place") (A0 (A1 8)<|A0 (B4<|A0 ⇑0 (A0 ⇑0 A2)) (A0 (B4<|A0 ⇑1 (A0 ⇑1 A2)) A2))) (A0 (B4<|A0 (dC<|.str "spot") (A0 (A1 8)<|A0 ⇑1 (A0 ⇑1<|A0 (A1 3) (A0 (A1 3) A2)))) A2))) (B3 4<|A5 B0 (A1 4) (L6<|A0 (B4<|A0 (dC<|.str "put") (A0 (A1 8)<|A0 ⇑0 (A0 (A1 6) A2))) (A0 (B4<|A0 (dC<|.str "strength") (A0 (A1 8)<|A0 (B4<|A0 ⇑1 (A0 ⇑1 A2)) (A0 (B4<|A0 ⇑1 (A0 ⇑2 A2)) A2)))<|A0 (B4<|A0 (dC<|.str "out") (A0 (dC<|.str "")<|A0 ⇑0 (A0 (A1 7) A2))) A2)))))
def aL0:DS:=(B1<|A1 4)
def aJ8:DS:=(A7 al5<|A7 al4 (A7 al3<|A7 aL3 (A7 aL2<|A7 aL1 (A7 al2 aL0))))
def j9:List D->Option D:=C4 aJ8 9
def L7:List D->Option Str:=af6 (O8 rNo (B3 2<|A3 (F5 12) (A0 (dIx (A8 0) ⇑2)<|A0 (A1 1) A2))<|O8 (rIf (tB2 isB (A1 2)<|dC .none) (T9 "NoName"<|ao7 fL [dC (.str "no node has the name "),dRp (A1 1)]) rNo) (sIf (tB2 isB (A1 2)<|dC .none) B8 C2) rNo) 3
def ac7:List D->Option Str:=af6 (O8 (O2 L7<|A0 (A1 0) (A0 (A1 1) A2)) (B3 2<|A3 L9 (A0 (A1 0)<|A0 (A1 1) A2)) rNo) 3
def X4:List D->Option Str:=af6 (O8 (O2 L7<|A0 (A1 0) (A0 (A1 1) A2)) (B3 3<|A3 L9 (A0 (A1 0)<|A0 (A1 1) A2))<|O8 rNo (B3 4<|A3 E5 (A0 (A1 3)<|A0 (A1 1) A2)) rNo) 5
def L4:List D->Option Str:=af6 (O8 (rIf (tB2 (inD true) (A1 1)<|A3 V8 (A0 (A1 0) A2)) (T9 "NotSo"<|ao7 fL [dC (.str "no node has the name "),dRp (A1 1)]) rNo) (sIf (tB2 (inD true) (A1 1)<|A3 V8 (A0 (A1 0) A2)) B8 C2)<|O2 ac7 (A0 (A1 0)<|A0 (A1 1) A2)) 2
def K0:List D->Option Str:=af6 (O8 rNo (B3 2<|A3 G8 (A0 (A1 1) A2))<|O8 (O2 L4<|A0 (A1 0) (A0 (A1 2) A2)) (B3 3<|A3 J4 (A0 (A1 0)<|A0 (A1 2) A2)) (O8 (rIf (K5<|J5 (A3 T6<|A0 (A1 3) (A0 (A1 1) A2))) (T9 "NotSo"<|ao7 fL [dRp (A1 2),dC (.str " has not what the deed changes")]) rNo) (sIf (K5<|J5 (A3 T6<|A0 (A1 3) (A0 (A1 1) A2))) B8 C2)<|O8 (rIf (tB2 neD (A3 R3<|A0 (A1 3) (A0 (A1 1) A2))<|A3 aa2 (A0 (A1 1) A2)) (T9 "NotSo"<|ao7 fL [dRp (A1 2),dC (.str " has something else than what the deed tells as old")]) rNo) (sIf (tB2 neD (A3 R3<|A0 (A1 3) (A0 (A1 1) A2))<|A3 aa2 (A0 (A1 1) A2)) B8 C2) (O2 X4<|A0 (A1 0) (A0 (A1 2)<|A0 (A3 J2<|A0 (A1 3) (A0 (A1 1) A2)) A2)))) 4
def K2:List D->Option Str:=af6 (O8 (rIf (tB2 eqD (A1 1)<|dC (.str "")) rNo rNo) (sIf (tB2 eqD (A1 1)<|dC (.str "")) (B1<|dIx (A8 0) ⇑2) C2)<|O8 (O2 L4<|A0 (A1 0) (A0 (A1 1) A2)) (B3 2<|A3 J4 (A0 (A1 0)<|A0 (A1 1) A2)) (O8 (rIf (K5<|J5 (A3 K4<|A0 (A1 2) A2)) (T9 "NotSo"<|ao7 fL [dRp (A1 1),dC (.str " is no group")]) rNo) (sIf (K5<|J5 (A3 K4<|A0 (A1 2) A2)) B8 C2) rNo)) 3
def G4:List D->Option Str:=af6 (O8 (rIf (tB2 eqD (A1 1)<|dC (.str "")) rNo rNo) (sIf (tB2 eqD (A1 1)<|dC (.str "")) (B1<|B4 (A0 (dIx (A8 0) ⇑0)<|A0 (dIx (A8 0) ⇑1) (A0 (A1 2) A2))) C2)<|O2 X4 (A0 (A1 0)<|A0 (A1 1) (A0 (A3 L8<|A0 (A3 U3<|A0 (A1 0) (A0 (A1 1) A2)) (A0 (A1 2) A2)) A2))) 3
def O9:List D->Option Str:=af6 (O8 rNo (B3 2<|A3 G8 (A0 (A1 1) A2))<|O8 rNo (B3 3<|A3 M7 (A0 (A1 1) A2)) (O8 (O2 K2<|A0 (A1 0) (A0 (A1 2) A2)) (B3 4<|A3 G5 (A0 (A1 0)<|A0 (A1 2) A2))<|O8 (rIf (tB2 gtI (A1 3)<|S2 (A8 4)) (T9 "NotSo"<|dC (.str "the number is greater than there are nodes")) rNo) (sIf (tB2 gtI (A1 3)<|S2 (A8 4)) B8 C2) (O8 (O2 G4<|A0 (A1 0) (A0 (A1 2)<|A0 (A5 B0 (A5 B0 (D6 (A1 4) C7<|B6 (A1 3))<|B4 (A0 (A3 N9<|A0 (A1 1) A2) A2))<|D6 (A1 4) (B6<|A1 3) C7) A2)) (B3 5<|A3 E7 (A0 (A1 0)<|A0 (A1 2) (A0 (A5 B0 (A5 B0 (D6 (A1 4) C7<|B6 (A1 3))<|B4 (A0 (A3 N9<|A0 (A1 1) A2) A2))<|D6 (A1 4) (B6<|A1 3) C7) A2)))<|O8 (rIf (K5<|J5 (A3 S0<|A0 (A1 5) A2)) (T9 "NotSo"<|dC (.str "with the node put there it is no picture")) rNo) (sIf (K5<|J5 (A3 S0<|A0 (A1 5) A2)) B8 C2) rNo))) 6
def P0:List D->Option Str:=af6 (O8 rNo (B3 2<|A3 G8 (A0 (A1 1) A2))<|O8 rNo (B3 3<|A3 M7 (A0 (A1 1) A2)) (O8 (O2 K2<|A0 (A1 0) (A0 (A1 2) A2)) (B3 4<|A3 G5 (A0 (A1 0)<|A0 (A1 2) A2))<|O8 (rIf (tB2 neD (D6 (A1 4) (B6<|A1 3)<|B6 (A5 B0 (A1 3) ⇑1))<|B4 (A0 (A3 N9<|A0 (A1 1) A2) A2)) (T9 "NotSo"<|dC (.str "the node does not stand at the number")) rNo) (sIf (tB2 neD (D6 (A1 4) (B6<|A1 3)<|B6 (A5 B0 (A1 3) ⇑1))<|B4 (A0 (A3 N9<|A0 (A1 1) A2) A2)) B8 C2) (O2 G4<|A0 (A1 0) (A0 (A1 2)<|A0 (A5 B0 (D6 (A1 4) C7<|B6 (A1 3))<|D6 (A1 4) (B6<|A5 B0 (A1 3) ⇑1) C7) A2)))) 5
def ap2:List D->Option Str:=af6 (O8 (rIf (J5<|A3 m7 (A0 (A1 1) A2)) (O2 O9<|A0 (A1 0) (A0 (A1 1) A2)) rNo) (sIf (J5<|A3 m7 (A0 (A1 1) A2)) (B1<|A3 P1 (A0 (A1 0)<|A0 (A1 1) A2)) C2)<|O8 (rIf (J5<|A3 m8 (A0 (A1 1) A2)) (O2 P0<|A0 (A1 0) (A0 (A1 1) A2)) rNo) (sIf (J5<|A3 m8 (A0 (A1 1) A2)) (B1<|A3 P2 (A0 (A1 0)<|A0 (A1 1) A2)) C2) (O2 K0<|A0 (A1 0) (A0 (A1 1) A2))) 2
end Sh
namespace Sh
open PySem G L2 Sh
inductive Rp (o o':List Nd):List Nd->List Nd->Prop
 | top:Rp o o' o o'
 | deep {c e:List Nd}{nm:D}{m:Man}{s:Rat}{sh:Bool}{ns ns':List Nd}:Rp o o' ns ns'->Rp o o' (c ++ .group nm m s sh ns::e) (c ++ .group nm m s sh ns'::e)
def r6(a b:List Nd):fT (a++b)↔fT a/\fT b:=by
 rw[R8,R8,R8];constructor
 .exact λh=>⟨λn hn=>h n<|ar _ hn,λn hn=>h n<|au _ hn⟩
 .intro h n hn;rcases az.mp hn with q|q
  .exact h.1 n q
  .exact h.2 n q
mutual
theorem ca7:∀n:Nd,n.nms.length<=1000->n.thin
 | .layer ..,_=>by rw[gf];trivial
 | .tone ..,_=>by rw[gf];trivial
 | .group nm m s sh ns,h=>by
  rw[gb,aD]at h;rw[gf];have:=thins_of ns (by grind);exact⟨by grind,this.1⟩
theorem thins_of:∀l:List Nd,(gc l).length<=1000->gh l/\l.length<=(gc l).length
 | [],_=>by rw[gh,gc];exact⟨trivial,aj _⟩
 | n::r,h=>by
  rw[gc,ae]at h ⊢;rw[gh];have h1:=ca7 n (by grind);have h2:=thins_of r (by grind);have h3:1<=n.nms.length:=List.length_pos_iff.mpr (List.ne_nil_of_mem<|M3 n);exact⟨⟨h1,h2.1⟩,by rw[aD];grind⟩
end
def cf7{a b:List Nd}{n:Nd}{o':List Nd}(hn:F9 n.nm){l:List Nd}(h:Stands a n b l):∀f:Nat,2*fW l+2<=f->(∀d∈gc l,F9 d)->(gc l).Nodup->l.length<=1000->gh l->∃l',Rp (a++n::b) o' l l'/\G7 f [↥l,n.nm,↥o']=Z ↥l':=by
 induction h with
 | top =>
  intro f hf hs hd hl ht;obtain⟨f,rfl⟩:∃g,f=g+1:=⟨f - 1,by grind⟩;rw[C0,gc]at hd
  have e0:=aG7 (a:=a) (b:=b) (n:=n) (λn' hn'=>v6 hs n' (ar _ hn')) hn (λn' hn' e=>by
   have d1:=(aJ.mp hd).2.2
   exact d1 n'.nm (K8 hn' (M3 n')) n.nm (ar _ (M3 n)) e)
  refine⟨_,.top,B2 (g:=K6<|am5 f) (ρ:=[‹↥(a++n::b)›,‹n.nm›,‹↥o'›]) rfl ?_⟩
  exists evD,K6,e0,cU0
 | @deep c e nm m s sh ns h ih =>
  intro f hf hs hd hl ht;obtain⟨f,rfl⟩:∃g,f=g+2:=⟨f - 2,by grind⟩;rw[J6,fW,fV]at hf;have hin:=h.nm n.nm (M3 n);rw[C0,gc,gb]at hd;have dc:=(aJ.mp hd);have dg:=(aJ.mp dc.2.1);have dn:=bn.mp dg.1;have hc:n.nm∉gc c:=λz=>dc.2.2 n.nm z n.nm (by simp[hin]) rfl
  have hg:nm≠n.nm:=λz=>dn.1<|z ▸ hin
  have he:n.nm∉gc e:=λz=>dg.2.2 n.nm (by simp[hin]) n.nm z rfl
  have hsn:∀d∈gc ns,F9 d:=λd hd=>hs d (by rw[C0,gc,gb];simp[hd])
  have hth:=(P4 _).mp ht;have hgt:=hth (.group nm m s sh ns) (by simp);rw[gf]at hgt
  have e0:=ar4 (l:=c ++ .group nm m s sh ns::e) (v6 hs) hn (λn' hn' z=>by
   rcases az.mp hn' with q|q
   .exact ae4 hc n' q z
   .rcases ao.mp q with rfl|q
    .exact hg z
    .exact ae4 he n' q z)
  obtain⟨ns',sb,e1⟩:=ih f (by grind) hsn dn.2 hgt.1 hgt.2;refine⟨_,.deep sb,aG6 hl e0 (by simp) λj hj=>?_⟩
  have idn:∀n0∈c++e,J3 (f+1) [n0.d,n.nm,↥o']=Z n0.d:=λn0 h0=>by
   have hm:n0∈c ++ .group nm m s sh ns::e:=by
    rcases az.mp h0 with q|q
    .exact ar _ q
    .exact au _ (xmm _ q)
   have hdp:n0.dp<=max (fW c) (fW e):=by
    rcases az.mp h0 with q|q
    .have:=J0 q;grind
    .have:=J0 q;grind
   refine cB9 n.nm hn _ n0 (f+1) (by grind) (λd hd=>hs d<|K8 hm hd) (λz=>?_) (hth n0 hm);rcases az.mp h0 with q|q
   .exact hc (K8 q z)
   .exact he (K8 q z)
  rcases Nat.lt_trichotomy j c.length with q|q|q
  .rw[dE q,dE q];exact idn _<|ar _ (aS q)
  .subst q;simp only[cI (aj _),bW,List.getElem_cons_zero];exact aw1 e1
  .obtain⟨i,rfl⟩:∃i,j=c.length+(i+1):=⟨j - c.length - 1,by grind⟩;have hi:i < e.length:=by simp at hj;grind
   rw[cI (by grind),cI (by grind)];simp only[Nat.add_sub_cancel_left,List.getElem_cons_succ];exact idn _<|au _ (aS hi)
def aQ1{w h:Nat}{a b l:List Nd}{n:Nd}(St:Stands a n b l)(hd:fW l<=3)(hs:∀d∈gc l,F9 d)(nd:(gc l).Nodup)(hN:(gc l).length<=1000):
  L9 [B5 w h l,n.nm]=Z ↥(a++n::b)/\L7 [B5 w h l,n.nm]=O/\E5 [↥(a++n::b),n.nm]=Z (.int a.length) /\
  ∀o':List Nd,∃l',Rp (a++n::b) o' l l'/\S4 [B5 w h l,n.nm,↥o']=Z (B5 w h l'):=by
 have P:=St.props;obtain⟨t1,t2⟩:=thins_of l hN;have sab:∀d∈gc (a++n::b),F9 d:=λd hd=>hs d<|P.sub d hd
 have hn:F9 n.nm:=sab _ (K8 (by simp)<|M3 n);have nda:=P.nd nd;rw[C0,gc]at nda;have e0:=ca4 hn St 12 (by grind) hs nd;have e1:=aG7 (a:=a) (b:=b) (n:=n) (λn' hn'=>v6 sab n'<|ar _ hn') hn (λn' hn' e=>(aJ.mp nda).2.2 n'.nm (K8 hn'<|M3 n') n.nm (ar _<|M3 n) e);refine⟨?_,?_,e1,λo'=>?_⟩
 .refine B2 (ρ:=[‹B5 w h l›,‹n.nm›,O]) rfl ?_
  exists evD,ah1,B5,e0,bk0
 .have st:Z9 3 [B5 w h l,n.nm]=[‹B5 w h l›,‹n.nm›,O]:=rfl;unfold L7 af6;rw[st]
  exists evD,B5,O8,rIf,rNo,e0,bk0,Option.map_none
 .obtain⟨l',r,e2⟩:=cf7 (o':=o') hn St 12 (by grind) hs nd (by grind) t1;refine⟨l',r,?_⟩;refine B2 (ρ:=[‹B5 w h l›,‹n.nm›,‹↥o'›]) rfl ?_
  exists evD,Y8,B5,e2
def N0{d:D}(h:Nm d):F9 d:=by
 obtain⟨s,e,o,_⟩:=h;exact⟨s,e,o⟩
def bW9(l:List Nd){i:Int}{k:Nat}(e:i=(k:Int)):R1 (fR l) O (Z i)=fR (l.take k)/\R1 (fR l) (Z i) O=fR (l.drop k):=by subst e;exact⟨bW7 l k,bW8 l k⟩
end Sh
namespace Sh
open PySem G L2
def aE4(h:xs.length+ys.length<=16777216):B0 (.list xs) (.list ys)=Z (.list<|xs++ys):=if_pos h
def bM3(q:Q4):neB q q=false:=by
 cases h:neB q q with
 | false=>rfl
 | true=>exact absurd rfl<|bM4 h
mutual
def Nd.ws(nm:D) (oth:List Nd):Nd->Nd
 | .layer n m s sh lf tp mk w h l kb=>.layer n m s sh lf tp mk w h l kb
 | .tone n r s sh=>.tone n r s sh
 | .group n m s sh ns=>.group n m s sh<|Nd.wss nm oth ns
def Nd.wss(nm:D) (oth:List Nd):List Nd->List Nd
 | []=>[]
 | n::r=>if same n.nm nm=true then oth++Nd.wss nm oth r else n.ws nm oth::Nd.wss nm oth r
end
def cK5(a b:List Nd):fR (a++b)=fR a++fR b:=by rw[D8,D8,D8,bj]
def wsb(f:Nat):DS:=(sIf (tB2 eqD (dIx (A8 4) ⇑1)<|A1 1) (aS2 3<|A1 2)<|sIf (tB2 eqD (dIx (A8 4) ⇑0)<|dC (.str "group")) (x0 3<|A5 B0 (D6 (A1 4) C7<|B6 ⇑5) (B4<|A0 (A3 (O0 f)<|A0 (dIx (A8 4) ⇑5) (A0 (A1 1)<|A0 (A1 2) A2)) A2)) (x0 3<|A1 4))
end Sh
open Sh.Nd renaming wss→gi
namespace Sh
open PySem G L2 Sh
theorem aR4(hn:F9 nm)(ho:oth.length<=1000)(f:Nat):∀(l:List Nd) (X:List D) (a0 a4:Option B),(∀n∈l,F9 n.nm)->X.length+1001*l.length<=2000000->(∀n∈l,∀nm' m s sh ns,n=.group nm' m s sh ns->O0 f [↥ns,nm,↥oth]=Z ↥(gi nm oth ns)) ->
  ∃a4',j8 (B9 4) (wsb f) (fR l) [a0,‹nm›,‹↥oth›,Z (.own X),a4]=Z (.nx [a0,‹nm›,‹↥oth›,Z (.own<|X++fR (gi nm oth l)),a4'])
 | [],X,a0,a4,_,_,_=>⟨a4,by rw[gi,fR,ba];rfl⟩
 | n::l,X,a0,a4,hs,hl,H=>by
  have hi:=cX1 (hs n<|ah ..) hn;rw[aD,Nat.mul_succ]at hl;have hx:X.length < 16777216:=by grind
  have lo:(fR oth).length<=1000:=by rw[D8,ag];exact ho
  have hx':X.length+(fR oth).length<=16777216:=by grind
  rw[fR,gi];have n1:∃ds:List D,n.d=.tuple ds/\atI ds 1=Z n.nm:=by cases n<;>exact⟨_,by rw[fQ],rfl⟩
  cases q:same n.nm nm with
  | true =>
   rw[q]at hi;obtain⟨a4',e⟩:=aR4 hn ho f l (X++fR oth) a0 (‹n.d›) (λx hx=>hs x<|xmm _ hx) (by rw[ae];grind) (λx hx=>H x<|xmm _ hx);refine⟨a4',?_⟩
   have b:wsb f [a0,‹nm›,‹↥oth›,Z (.own X),‹n.d›]=Z (.nx [a0,‹nm›,‹↥oth›,Z (.own<|X++fR oth),‹n.d›]):=by
    obtain⟨ds,ed,e1⟩:=n1;rw[ed]
    exists evD,wsb,e1,hi,aS2,if_pos hx'
   simp only[j8,B9,xw0,xw1,xbs,b,if_true,cK5];rw[av]at e;exact e
  | false =>
   rw[q]at hi;obtain⟨a4',e⟩:=aR4 hn ho f l (X++[(n.ws nm oth).d]) a0 (‹n.d›) (λx hx=>hs x<|xmm _ hx) (by rw[ae];show X.length+1+_<=_;grind) (λx hx=>H x<|xmm _ hx);refine⟨a4',?_⟩
   have b:wsb f [a0,‹nm›,‹↥oth›,Z (.own X),‹n.d›]=Z (.nx [a0,‹nm›,‹↥oth›,Z (.own<|X++[(n.ws nm oth).d]),‹n.d›]):=by
    cases n with
    | layer=>rw[Nd.ws,fQ];rw[fX]at hi;exists evD,wsb,aQ2,aB3,hi,bA8,x0,if_pos hx
    | tone=>rw[Nd.ws,fQ];rw[fX]at hi;exists evD,wsb,cs7,bf1,hi,e_tg,x0,if_pos hx
    | group nm' m s sh ns =>
     have e1:=H _ (ah ..) nm' m s sh ns rfl;have cut:∀a b c d e f:D,R1 [a,b,c,d,e,f] O (Z 5)=[a,b,c,d,e]:=λ_ _ _ _ _ _=>rfl
     have ct:∀a b c d e f:D,B0 (.tuple [a,b,c,d,e]) (.tuple [f])=Z (.tuple [a,b,c,d,e,f]):=λ_ _ _ _ _ _=>rfl
     rw[Nd.ws,fQ,fQ];rw[fX]at hi
     exists evD,wsb,bv2,aJ0,bf0,hi,bA9,x0,if_pos hx,D6,cut,e1,ct
   simp only[j8,B9,xw0,xw1,xbs,b,xft,if_false,fR];rw[av]at e;exact e
def cu8(hn:F9 nm)(ho:oth.length<=1000):∀(k:Nat) (l:List Nd) (f:Nat),fW l<=k->k+1<=f->l.length<=1000->gh l->(∀d∈gc l,F9 d)->O0 f [↥l,nm,↥oth]=Z ↥(gi nm oth l):=by
 have step:∀(l:List Nd) (f:Nat),l.length<=1000->(∀d∈gc l,F9 d)->(∀n∈l,∀nm' m s sh ns,n=.group nm' m s sh ns->O0 f [↥ns,nm,↥oth]=Z ↥(gi nm oth ns))->O0 (f+1) [↥l,nm,↥oth]=Z ↥(gi nm oth l):=λl f hl hs H=>by
  obtain⟨a4',e⟩:=aR4 hn ho f l [] (‹↥l›) O (v6 hs) (by show 0+_<=_;grind) H;refine B2 (g:=bf8<|O0 f) (ρ:=[‹↥l›,‹nm›,‹↥oth›,O,O]) rfl ?_;have s1:(W9 (K1<|A1 0) (B9 4)<|wsb f) [‹↥l›,‹nm›,‹↥oth›,Z (.own []),O]=Z (.nx [‹↥l›,‹nm›,‹↥oth›,Z (.own<|[]++fR (gi nm oth l)),a4']):=e;exact(A6 (ρ':=[‹↥l›,‹nm›,‹↥oth›,Z (.own []),O]) rfl).trans ((A6 s1).trans rfl)
 intro k
 induction k with
 | zero =>
  intro l f hd hf hl ht hs;obtain⟨f,rfl⟩:∃g,f=g+1:=⟨f - 1,by grind⟩;refine step l f hl hs λn hn' nm' m s sh ns e=>?_
  have:=J0 hn';rw[e,fV]at this;grind
 | succ k ih =>
  intro l f hd hf hl ht hs;obtain⟨f,rfl⟩:∃g,f=g+1:=⟨f - 1,by grind⟩;refine step l f hl hs λn hn' nm' m s sh ns e=>?_
  have h1:=J0 hn';have h2:=(P4 l).mp ht n hn';rw[e,fV]at h1;rw[e,gf]at h2;exact ih ns f (by grind) (by grind) h2.1 h2.2 λd hd'=>hs d (K8 hn' (by rw[e,gb];exact xmm _ hd'))
mutual
theorem cu9:∀n:Nd,nm∉n.nms->n.ws nm oth=n
 | .layer ..,_=>by rw[Nd.ws]
 | .tone ..,_=>by rw[Nd.ws]
 | .group nm' m s sh ns,h=>by
  rw[gb]at h;rw[Nd.ws,wt_id ns λz=>h (xmm _ z)]
theorem wt_id:∀l:List Nd,nm∉gc l->gi nm oth l=l
 | [],_=>by rw[gi]
 | n::r,h=>by
  rw[gc]at h;have h1:nm∉n.nms:=λz=>h<|ar _ z
  have ne:n.nm≠nm:=λz=>h1 (by rw[← z];exact M3 n)
  rw[gi,W1 ne,if_neg (by simp),cu9 n h1,wt_id r λz=>h (au _ z)]
end
theorem bg6(nm:D)(oth:List Nd):∀a b:List Nd,gi nm oth (a++b)=gi nm oth a++gi nm oth b
 | [],b=>by rw[gi];rfl
 | n::a,b=>by
  rw[xca,gi,gi,bg6 nm oth a b];split
  .rw[av]
  .rfl
def aN0(r:Rp (a++n::b) (a++oth++b) l l'):(gc l).Nodup->gi n.nm oth l=l':=by
 induction r with
 | top =>
  intro nd;rw[C0,gc]at nd;have d1:=aJ.mp nd;have d2:=aJ.mp d1.2.1;have ha:n.nm∉gc a:=λz=>d1.2.2 n.nm z n.nm (ar _<|M3 n) rfl
  have hb:n.nm∉gc b:=λz=>d2.2.2 n.nm (M3 n) n.nm z rfl
  rw[bg6,wt_id a ha,gi,M4,if_pos rfl,wt_id b hb,av]
 | @deep c e nm m s sh ns ns' r ih =>
  intro nd
  have hin:n.nm∈gc ns:=by
   have:∀{x y:List Nd},Rp (a++n::b) (a++oth++b) x y->n.nm∈gc x:=λr=>by
    induction r with
    | top=>rw[C0,gc];exact au _<|ar _ (M3 n)
    | deep _ ih=>rw[C0,gc,gb];exact au _<|ar _ (xmm _ ih)
   exact this r
  rw[C0,gc,gb]at nd;have dc:=aJ.mp nd;have dg:=aJ.mp dc.2.1;have dn:=bn.mp dg.1;have hc:n.nm∉gc c:=λz=>dc.2.2 n.nm z n.nm (by simp[hin]) rfl
  have hg:nm≠n.nm:=λz=>dn.1<|z ▸ hin
  have he:n.nm∉gc e:=λz=>dg.2.2 n.nm (by simp[hin]) n.nm z rfl
  rw[bg6,wt_id c hc,gi,show(Nd.group nm m s sh ns).nm=nm by rw[fX],W1 hg,if_neg (by simp),Nd.ws,ih dn.2,wt_id e he]
def Rp.two(r:Rp o o' l l')(o1:List Nd):∃l1,Rp o o1 l l1/\Rp o1 o' l1 l':=by
 induction r with
 | top=>exact⟨o1,.top,.top⟩
 | deep _ ih =>
  obtain⟨l1,r1,r2⟩:=ih;exact⟨_,.deep r1,.deep r2⟩
mutual
def Nd.al:Nd->List Nd
 | .layer nm m s sh lf tp mk w h l kb=>[.layer nm m s sh lf tp mk w h l kb]
 | .tone nm r s sh=>[.tone nm r s sh]
 | .group nm m s sh ns=>.group nm m s sh ns::Nd.als ns
def Nd.als:List Nd->List Nd
 | []=>[]
 | n::r=>Nd.al n++Nd.als r
end
mutual
theorem aW9:∀n:Nd,(Nd.al n).map fX=n.nms
 | .layer ..=>by rw[Nd.al,gb];rfl
 | .tone ..=>by rw[Nd.al,gb];rfl
 | .group nm m s sh ns=>by rw[Nd.al,gb,xmc,als_nms ns];rfl
theorem als_nms:∀l:List Nd,(Nd.als l).map fX=gc l
 | []=>by rw[Nd.als,gc];rfl
 | n::r=>by rw[Nd.als,gc,bj,aW9 n,als_nms r]
end
def ai2(a b:List Nd):Nd.als (a++b)=Nd.als a++Nd.als b:=by
 induction a with
 | nil=>rw[Nd.als];rfl
 | cons n a ih=>rw[xca,Nd.als,Nd.als,ih,av]
theorem bv5(f:Nat):∀(l:List Nd) (X:List D) (a0 a2:Option B),X.length+(Nd.als l).length<=900->(∀n∈l,∀nm' m s sh ns,n=.group nm' m s sh ns->G6 f [↥ns]=Z (.list<|(Nd.als ns).map fQ)) ->
  ∃a2',j8 (B9 2) (alb f) (fR l) [a0,Z (.own X),a2]=Z (.nx [a0,Z (.own<|X++(Nd.als l).map fQ),a2'])
 | [],X,a0,a2,_,_=>⟨a2,by rw[Nd.als,fR,xmn,ba];rfl⟩
 | n::l,X,a0,a2,hl,H=>by
  rw[Nd.als,ae]at hl;obtain⟨a2',e⟩:=bv5 f l (X++(Nd.al n).map fQ) a0 (‹n.d›) (by rw[ae,ag];grind) (λx hx=>H x<|xmm _ hx);refine⟨a2',?_⟩
  have b:alb f [a0,Z (.own X),‹n.d›]=Z (.nx [a0,Z (.own<|X++(Nd.al n).map fQ),‹n.d›]):=by
   cases n with
   | layer=>rw[Nd.al]at hl ⊢;exact bf4 f rfl a0 X (by simp at hl;grind)
   | tone=>rw[Nd.al]at hl ⊢;exact bf4 f rfl a0 X (by simp at hl;grind)
   | group nm' m s sh ns =>
    rw[Nd.al,aD]at hl;have:=bE7 (nm:=nm') (m:=m) (s:=s) (sh:=sh) f a0 X ((Nd.als ns).map fQ) (by grind) (by rw[ag];grind) (H _ (ah ..) nm' m s sh ns rfl);rw[this,Nd.al,xmc,av];rfl
  rw[fR,Nd.als,bj,← av];simp only[j8,B9,xw0,xw1,xbs,b];exact e
def cn4(h:n∈l):(Nd.al n).length<=(Nd.als l).length:=by
 obtain⟨a,b,rfl⟩:=ck h;rw[ai2,Nd.als,ae,ae];grind
def aJ3:∀(k:Nat) (l:List Nd) (f:Nat),fW l<=k->k+1<=f->(Nd.als l).length<=900->G6 f [↥l]=Z (.list<|(Nd.als l).map fQ):=by
 have step:∀(l:List Nd) (f:Nat),(Nd.als l).length<=900->(∀n∈l,∀nm' m s sh ns,n=.group nm' m s sh ns->G6 f [↥ns]=Z (.list<|(Nd.als ns).map fQ))->G6 (f+1) [↥l]=Z (.list<|(Nd.als l).map fQ):=λl f hl H=>by
  obtain⟨a2',e⟩:=bv5 f l [] (‹↥l›) O (by show 0+_<=_;grind) H;refine B2 (g:=bv7<|G6 f) (ρ:=[‹↥l›,O,O]) rfl ?_;have s1:(W9 (K1<|A1 0) (B9 2)<|alb f) [‹↥l›,Z (.own []),O]=Z (.nx [‹↥l›,Z (.own<|[]++(Nd.als l).map fQ),a2']):=e;exact(A6 (ρ':=[‹↥l›,Z (.own []),O]) rfl).trans ((A6 s1).trans rfl)
 intro k
 induction k with
 | zero =>
  intro l f hd hf hl;obtain⟨f,rfl⟩:∃g,f=g+1:=⟨f - 1,by grind⟩;refine step l f hl λn hn' nm' m s sh ns e=>?_
  have:=J0 hn';rw[e,fV]at this;grind
 | succ k ih =>
  intro l f hd hf hl;obtain⟨f,rfl⟩:∃g,f=g+1:=⟨f - 1,by grind⟩;refine step l f hl λn hn' nm' m s sh ns e=>?_
  have h1:=J0 hn';have h2:=cn4 hn';rw[e,fV]at h1;rw[e,Nd.al,aD]at h2;exact ih ns f (by grind) (by grind) (by grind)
def cq1(n:Nd)(r:Rho):dIx (A8 0) ⇑1 (‹n.d›::r)=Z n.nm:=by cases n<;>(rw[fQ];rfl)
def Rp.dps(r:Rp o o' l l')(h:fW o'<=fW o):fW l'<=fW l:=by
 induction r with
 | top=>exact h
 | deep _ ih=>rw[J6,J6,fW,fW,fV,fV];grind
structure Wl (l:List Nd):Prop where
 dp:fW l<=3
 hs:∀d∈gc l,F9 d
 nd:(gc l).Nodup
 nl:(gc l).length<=1000
def Wl.wt(g:Wl l)(hn:F9 nm)(ho:oth.length<=1000):O0 12 [↥l,nm,↥oth]=Z ↥(gi nm oth l):=by
 have t:=thins_of l g.nl;have:=g.nl;exact cu8 hn ho 3 l 12 g.dp (by decide) (by grind) t.1 g.hs
theorem aV3:∀l:List Nd,(∀n∈l,n.dp<=k)->fW l<=k
 | [],_=>by rw[fW];exact aQ _
 | n::l,h=>by rw[fW];exact Nat.max_le.mpr ⟨h n (ah ..),aV3 l λm hm=>h m<|xmm _ hm⟩
def aV2(h:∀n∈l',n.dp=0\/n∈l):fW l'<=fW l:=aV3 l' λn hn=>by
 rcases h n hn with e|e
 .rw[e];exact aQ _
 .exact J0 e
def aT6(h:F9 d)(n:Nat):Ly n d:=by
 obtain⟨s,rfl,o⟩:=h;exact⟨o.ok,aQ _⟩
def bb1(r:Rat):Ly 1 (fr r):=Ly.tup λx hx=>by
 simp only[ao,aB,or_false]at hx;rcases hx with rfl|rfl<;>exact Ly.int _ _
def bj2(m:Man)(n:Nat):Ly n (.str m.s):=⟨by cases m<;>decide +kernel,aQ _⟩
def cD7(hn:F9 nm):Ly 5 (fQ<|.layer nm m s sh lf tp mk w h l kb):=by
 rw[fQ];refine Ly.tup λx hx=>?_
 simp only[ao,aB,or_false]at hx;rcases hx with rfl|rfl|rfl|rfl|rfl|rfl|rfl|rfl|rfl
 .exact⟨by decide +kernel,aQ _⟩
 .exact aT6 hn _
 .exact bj2 m _
 .exact(bb1 s).mono (by decide)
 .exact⟨rfl,aQ _⟩
 .exact Ly.int _ _
 .exact Ly.int _ _
 .cases mk with
  | none=>exact⟨rfl,aQ _⟩
  | some ms =>
   refine Ly.mono (m:=2) (Ly.tup λx hx=>?_) (by decide);obtain⟨r,_,rfl⟩:=aP.mp hx;exact bb1 r
 .exact Ly.sheet w h l
def cD5(r:Rul)(n:Nat):Ly n (.str r.s):=⟨by cases r<;>decide +kernel,aQ _⟩
mutual
theorem aA3:∀n:Nd,(∀d∈n.nms,F9 d)->Ly (5+2*n.dp) n.d
 | .layer nm m s sh lf tp mk w h l kb,hs=>(cD7<|hs nm (by rw[gb];simp)).mono (by grind)
 | .tone nm r s sh,hs=>by
  rw[fQ,fV];refine Ly.tup λx hx=>?_
  simp only[ao,aB,or_false]at hx;rcases hx with rfl|rfl|rfl|rfl|rfl
  .exact⟨by decide +kernel,aQ _⟩
  .exact aT6 (hs _ (by rw[gb];simp)) _
  .exact cD5 r _
  .exact(bb1 s).mono (by decide)
  .exact⟨rfl,aQ _⟩
 | .group nm m s sh ns,hs=>by
  rw[gb]at hs;have i:=ly_nds ns λd hd=>hs d<|xmm _ hd
  rw[fQ,fV];refine Ly.mono (m:=6+2*fW ns+1) (Ly.tup λx hx=>?_) (by grind);simp only[ao,aB,or_false]at hx;rcases hx with rfl|rfl|rfl|rfl|rfl|rfl
  .exact⟨by decide +kernel,aQ _⟩
  .exact aT6 (hs _<|ah ..) _
  .exact bj2 m _
  .exact(bb1 s).mono (by grind)
  .exact⟨rfl,aQ _⟩
  .exact⟨i.1,by show PyData.depthAll (fR ns)+1<=_;grind⟩
theorem ly_nds:∀l:List Nd,(∀d∈gc l,F9 d)->PyData.canLayAll0 (fR l)=true/\PyData.depthAll (fR l)<=5+2*fW l
 | [],_=>by rw[fR];exact⟨rfl,aQ _⟩
 | n::r,hs=>by
  rw[gc]at hs;obtain⟨i1,i2⟩:=aA3 n λd hd=>hs d<|ar _ hd
  obtain⟨j1,j2⟩:=ly_nds r λd hd=>hs d<|au _ hd
  rw[fR,fW];refine⟨?_,?_⟩
  .show(fH n.d&&PyData.canLayAll0 (fR r))=true;rw[i1,j1];rfl
  .show max (PyData.depth n.d) (PyData.depthAll<|fR r)<=_
   grind
end
def cD6(hs:∀d∈gc l,F9 d):Ly (7+2*fW l) (B5 w h l):=by
 have i:=ly_nds l hs;unfold B5;refine Ly.mono (m:=6+2*fW l+1) (Ly.tup λx hx=>?_) (by grind);simp only[ao,aB,or_false]at hx;rcases hx with rfl|rfl|rfl
 .exact Ly.int _ _
 .exact Ly.int _ _
 .exact⟨i.1,by show PyData.depthAll (fR l)+1<=_;grind⟩
mutual
theorem by5:∀n:Nd,n.near->n.thin->n.off
 | .layer ..,o,_=>by rw[fY]at o;rw[Nd.off];grind
 | .tone ..,_,_=>by rw[Nd.off];trivial
 | .group nm m s sh ns,o,t=>by
  rw[fY]at o;rw[gf]at t;rw[Nd.off];exact⟨t.1,nears_off' ns o t.2⟩
theorem nears_off':∀l:List Nd,fZ l->gh l->Nd.offs l
 | [],_,_=>by rw[Nd.offs];trivial
 | n::r,o,t=>by
  rw[fZ]at o;rw[gh]at t;rw[Nd.offs];exact⟨by5 n o.1 t.1,nears_off' r o.2 t.2⟩
end
def bh2(h:Stands a n b l):n∈Nd.als l:=by
 induction h with
 | top =>
  rw[ai2,Nd.als];refine au _ (ar _ ?_);cases n<;>(rw[Nd.al];simp)
 | deep _ ih =>
  rw[ai2,Nd.als,Nd.al];exact au _<|ar _ (xmm _ ih)
theorem aT3(e:n.nm=m.nm):∀{L:List Nd},(L.map fX).Nodup->n∈L->m∈L->n=m
 | [],_,h,_=>absurd h (by simp)
 | x::L,nd,hn,hm=>by
  rw[xmc]at nd;obtain⟨h1,h2⟩:=bn.mp nd;rcases ao.mp hn with h3|h3<;>rcases ao.mp hm with h4|h4
  .exact h3.trans h4.symm
  .exact absurd (aP.mpr ⟨m,h4,by rw[← e,h3]⟩) h1
  .exact absurd (aP.mpr ⟨n,h3,by rw[e,h4]⟩) h1
  .exact aT3 e h2 h3 h4
def V5(nd:(gc l).Nodup)(h:n∈Nd.als l):∃a b,Stands a n b l:=by
 have hn:n.nm∈gc l:=by rw[← als_nms];exact aP.mpr ⟨n,h,rfl⟩
 obtain⟨a,m,b,St,e⟩:=nms_stands [] l n.nm hn;rw[xna]at St;have:m=n:=aT3 e (by rw[als_nms];exact nd) (bh2 St) h;subst this;exact⟨a,b,St⟩
end Sh
open Sh.Nd renaming al→gj,als→gk
namespace Sh
open PySem G L2
mutual
def wt:D->Nat
 | .tuple xs=>1+wts xs
 | .list xs=>1+wts xs
 | _=>1
def wts:List D->Nat
 | []=>0
 | x::xs=>wt x+wts xs
end
def be5{xs:List D}{i:Nat}(h:i < xs.length):R1 xs (Z<|(i:Int)+1) O=xs.drop (i+1):=by
 have e:((i:Int)+1)=((i+1:Nat):Int):=by grind
 rw[e];unfold R1;rw[HT.sIx_none,HT.sIx_nat,bE h];exact bu (by rw[aY];exact aj _)
inductive De where
 | str (nm:D) (o n:Rat)
 | shw (nm:D) (o n:Bool)
 | man (nm:D) (o n:Man)
 | plc (nm:D) (a b c d:Int)
 | spt (nm:D) (x y:Nat) (o n:Q4)
 | put (pa:D) (k:Nat) (x:Nd)
 | out (pa:D) (k:Nat) (x:Nd)
def De.d:De->D
 | .str nm o n=>.tuple [.str "strength", nm,fr o,fr n]
 | .shw nm o n=>.tuple [.str "shown", nm,.bool o,.bool n]
 | .man nm o n=>.tuple [.str "manner", nm,.str o.s,.str n.s]
 | .plc nm a b c d=>.tuple [.str "place", nm,.tuple [.int a,.int b],.tuple [.int c,.int d]]
 | .spt nm x y o n=>.tuple [.str "spot", nm,.int x,.int y,o.d,n.d]
 | .put pa k x=>.tuple [.str "put", pa,.int k,x.d]
 | .out pa k x=>.tuple [.str "out", pa,.int k,x.d]
def De.nm:De->D
 | .str nm ..=>nm
 | .shw nm ..=>nm
 | .man nm ..=>nm
 | .plc nm ..=>nm
 | .spt nm ..=>nm
 | .put pa ..=>pa
 | .out pa ..=>pa
def De.isV:De->Bool
 | .put ..=>false
 | .out ..=>false
 | _=>true
def De.on(e:De)(x:Nd):Option Nd:=match e with
 | .str _ o n=>(match x with
  | .layer nm m s sh lf tp mk w h l kb=>if s=o then Z (.layer nm m n sh lf tp mk w h l kb) else O
  | .tone nm r s sh=>if s=o then Z (.tone nm r n sh) else O
  | .group nm m s sh ns=>if s=o then Z (.group nm m n sh ns) else O)
 | .shw _ o n=>(match x with
  | .layer nm m s sh lf tp mk w h l kb=>if sh=o then Z (.layer nm m s n lf tp mk w h l kb) else O
  | .tone nm r s sh=>if sh=o then Z (.tone nm r s n) else O
  | .group nm m s sh ns=>if sh=o then Z (.group nm m s n ns) else O)
 | .man _ o n=>(match x with
  | .layer nm m s sh lf tp mk w h l kb=>if m.s=o.s then Z (.layer nm n s sh lf tp mk w h l kb) else O
  | .group nm m s sh ns=>if m.s=o.s then Z (.group nm n s sh ns) else O
  | _=>O)
 | .plc _ a b c d=>(match x with
  | .layer nm m s sh lf tp mk w h l kb=>if lf=a/\tp=b then Z (.layer nm m s sh c d mk w h l kb) else O
  | _=>O)
 | .spt _ x' y o n=>(match x with
  | .layer nm m s sh lf tp mk w h l kb=>if x' < w/\y < h/\neB (l.getD (y*w+x') q0) o=false then Z (.layer nm m s sh lf tp mk w h (l.set (y*w+x') n) 32) else O
  | _=>O)
 | _=>O
def aC2:Option Nd->D
 | none=>.none
 | some n=>n.d
def aC9{a b:List D}(h:a.length+b.length<=1000):B0 (.tuple a) (.tuple b)=Z (.tuple<|a++b):=by
 show(if a.length+b.length<=16777216 then _ else O)=_;rw[if_pos (by grind)]
def ag0{x y:D}{b:Bool}(h:eqD x y=Z (.bool b)):neD x y=Z (.bool (!b)):=by
 unfold eqD at h;unfold neD;split at h
 .rename_i c;rw[if_pos c];simp only[bf.injEq,PyData.bool.injEq]at h;rw[h]
 .cases h
def aw6(r s:Rat):neD (fr r) (fr s)=Z (.bool (!decide (r=s))):=ag0<|bT9 r s
def aw7(a b:Bool):neD (.bool a) (.bool b)=Z (.bool (!decide (a=b))):=by cases a<;>cases b<;>rfl
def bN1(m:Man):fH (.str m.s)=true:=by cases m<;>decide +kernel
def br2(m o:Man):neD (.str m.s) (.str o.s)=Z (.bool (!decide (m.s=o.s))):=by
 refine cg3 (bN1 m) (bN1 o) ?_;by_cases e:m.s=o.s
 .rw[e];simp
 .simp[e]
def bM2(a b c d:Int):neD (.tuple [.int a,.int b]) (.tuple [.int c,.int d])=Z (.bool (!decide (a=c/\b=d))):=by
 unfold neD;rw[if_pos ⟨rfl,rfl⟩];by_cases h1:a=c<;>by_cases h2:b=d<;>simp[fD,PyData.eqvAll,h1,h2]
def cv1{x y:Str}(hx:fH (.str x)=true)(hy:fH (.str y)=true)(h:(x==y)=false):eqD (.str x) (.str y)=Z (.bool false):=Q0 hx hy h
def cv1z{x y:Str}(hx:fH (.str x)=true:=by decide +kernel)(hy:fH (.str y)=true:=by decide +kernel)(h:(x==y)=false:=by decide +kernel):eqD (.str x) (.str y)=Z (.bool false):=cv1 hx hy h
def cv2{x:Str}(hx:fH (.str x)=true):eqD (.str x) (.str x)=Z (.bool true):=Q0 hx hx (by simp)
abbrev kT:List (D×D):=mgD [("manner", .int 2),("strength", .int 3),("shown", .int 4)]
def k_s:(U5 kT "strength").getD (.int 5)=.int 3:=by kernel_rfl
def k_p:(U5 kT "place").getD (.int 5)=.int 5:=by kernel_rfl
def k_t:(U5 kT "spot").getD (.int 5)=.int 5:=by kernel_rfl
abbrev c12(a b:D)(i:Option B):Rho:=[‹a›,‹b›,i,O,O,O,O,O,O,O,O,O]
def bX5{a:D}{w:Str}{xs:List D}{i:D}(hk:(U5 kT w).getD (.int 5)=i):i7 (c12 a (.tuple (.str w::xs)) O)=Z (.nx<|c12 a (.tuple (.str w::xs)) (‹i›)):=by
 have h0:atI (.str w::xs) 0=Z (.str w):=Q1 (j:=0) rfl
 exists evD,i7,c12,bu4,h0,hk
def cs8(a b c d:D):L2.atI [a,b,c,d] 0=Z a:=rfl
def bv3(a b c d:D):L2.atI [a,b,c,d] 2=Z c:=rfl
def cY6(a b c d:D):L2.atI [a,b,c,d] 3=Z d:=rfl
def aq6{a b d:D}(h:u6 (c12 a b O)=Z (.rt d)):T5 [a,b]=Z d:=B2 (g:=u6) (n:=12) (ρ:=c12 a b O) rfl h
def aD5(p:Prop)[Decidable p](a b:D):(if(!decide p)=true then a else b)=if p then b else a:=by by_cases h:p<;>simp[h]
def S5(p:Prop)[Decidable p](n:Nd):aC2 (if p then Z n else O)=if p then n.d else .none:=by by_cases h:p<;>simp[h,aC2]
def dd6:eqD (.str "place") (.str "place")=Z (.bool true):=cv2 (by decide +kernel)
def cl5:eqD (.str "spot") (.str "place")=Z (.bool false):=cv1z
def dc1:neD (.str "layer") (.str "layer")=Z (.bool false):=ag0 cX3
def cs2(a b:D):N3 (c12 a b<|‹.int 5›)=Z (.nx<|c12 a b (‹.int 5›)):=by
 have q:decide ((5:Int) < 5)=false:=by decide
 exists evD,N3,c12,q
def cs1(xs:List D)(b:D)(i:Option B):i6 (c12 (.tuple (.str "layer" :: xs)) b i)=Z (.nx<|c12 (.tuple (.str "layer" :: xs)) b i):=by
 have h0:atI (.str "layer" :: xs) 0=Z (.str "layer"):=Q1 (j:=0) rfl
 exists evD,i6,c12,h0,dc1
def cX9(a:D)(xs:List D)(i:Option B):T8 (c12 a (.tuple (.str "spot" :: xs)) i)=Z (.nx<|c12 a (.tuple (.str "spot" :: xs)) i):=by
 have h0:atI (.str "spot" :: xs) 0=Z (.str "spot"):=Q1 (j:=0) rfl
 exists evD,T8,c12,h0,cl5
def aM2{xs:List D}{i:Nat}(h:i<=xs.length):R1 xs O (Z (i:Int))=xs.take i/\R1 xs (Z (i:Int)) O=xs.drop i:=by
 unfold R1 HT.sIx;simp only;constructor
 .rw[if_neg (by grind)];simp only[bp,List.drop_zero,Nat.sub_zero];rw[bE h]
 .rw[if_neg (by grind)];simp only[bp];rw[bE h,bu (by rw[aY];grind)]
def bX4{nm':D}{m:Man}{s:Rat}{sh:Bool}{lf tp:Int}{mk:Option (List Rat)}{w h kb:Nat}{l:List Q4}(S:ShOk kb w h l)(nm:D)(x y:Nat)(o n:Q4)(hx:x<=1000)(hy:y<=1000):
  T5 [fQ (.layer nm' m s sh lf tp mk w h l kb),(De.spt nm x y o n).d]=Z (aC2<|(De.spt nm x y o n).on (.layer nm' m s sh lf tp mk w h l kb)):=by
 rw[fQ,De.d,De.on,S5,fQ];refine aq6 ?_;have l6:∀a b c d e f:D,([a,b,c,d,e,f]:List D).length=6:=λ_ _ _ _ _ _=>rfl
 have l3:∀a b c:D,([a,b,c]:List D).length=3:=λ_ _ _=>rfl
 unfold u6;rw[A6 (bX5 k_t),A6 (cs2 _ _),A6 (cs1 _ _ _),A6 (cX9 _ _ _)];refine(A6 (by exists evD,af4,c12,l6;rfl)).trans ?_;refine(A6 (by exists evD,af3,cs4,shD,l3;rfl)).trans ?_
 have ge:∀a b:Nat,geI (.int a) (.int b)=Z (.bool<|decide (b<=a)):=λa b=>by
  show Z (fF<|decide ((b:Int)<=a))=_;rw[decide_eq_decide.mpr (Int.ofNat_le)]
 have em:E9 (.int y) (.int w)=Z (.int ((y*w:Nat):Int)):=N4 (by have:=S.w8;grind) (by have:=S.w8;grind);have ei:((y*w:Nat):Int)+(x:Int)=((y*w+x:Nat):Int):=by grind
 by_cases c1:x < w
 .by_cases c2:y < h
  .have bw:y*w+x < l.length:=by
    rw[S.len];have:(y+1)*w<=h*w:=cD _ (by grind);rw[dq]at this;rw[cz w h];grind
   have ea:atI (l.map fP) ((y*w+x:Nat):Int)=Z (l.getD (y*w+x) q0).d:=Q1 (by rw[aF,am bw,bh,am bw];rfl);have nb:=bj0 (l.getD (y*w+x) q0) o;have d1:decide (w<=x)=false:=decide_eq_false (by grind);have d2:decide (h<=y)=false:=decide_eq_false (by grind);cases q:neB (l.getD (y*w+x) q0) o with
   | true =>
    rw[q]at nb;rw[if_neg (by rintro⟨_,_,z⟩;cases z)];exact G2 (by exists evD,Q8,ge,d1,d2,em,ei,ea,nb)
   | false =>
    rw[q]at nb;rw[if_pos ⟨c1,c2,rfl⟩];refine(A6 (by exists evD,Q8,ge,d1,d2,em,ei,ea,nb;rfl)).trans ?_;have hl:(l.map fP).length=w*h:=by rw[ag,S.len]
    have wh:w*h<=64:=bQ S.w8 S.h8;have bl:y*w+x < (l.map fP).length:=by rw[ag];exact bw
    have c3:=(aM2<|bT bl).1;have c4:=(aM2<|Nat.succ_le_of_lt bl).2;have i1:((y*w+x:Nat):Int)+1=((y*w+x+1:Nat):Int):=by grind
    have k1:=aC9 (a:=(l.map fP).take<|y*w+x) (b:=[n.d]) (by rw[aA,aN];grind);have k2:=aC9 (a:=(l.map fP).take (y*w+x)++[n.d]) (b:=(l.map fP).drop<|y*w+x+1) (by rw[ae,aA,aN,aY];grind);have st:(l.map fP).take (y*w+x)++[n.d]++(l.map fP).drop (y*w+x+1)=(l.set (y*w+x) n).map fP:=by rw[cP,if_pos bw,bj,cH,xmc,cG,av];rfl
    rw[st]at k2;refine(A6 (by exists evD,af2,D6,em,ei,i1,c3,c4,k1,k2;rfl)).trans ?_
    kernel_rfl
  .have d1:decide (w<=x)=false:=decide_eq_false (by grind);have d2:decide (h<=y)=true:=decide_eq_true (by grind);rw[if_neg (by rintro⟨_,z,_⟩;exact c2 z)];exact G2 (by exists evD,Q8,ge,d1,d2)
 .have d1:decide (w<=x)=true:=decide_eq_true (by grind);rw[if_neg (by rintro⟨z,_,_⟩;exact c1 z)];exact G2 (by exists evD,Q8,ge,d1)
def De.sz:De->Prop
 | .spt _ x y _ _=>x<=1000/\y<=1000
 | _=>True
def cm8(e:De)(n:Nd)(hv:e.isV=true)(ok:n.Ok)(hz:e.sz):T5 [n.d,e.d]=Z (aC2<|e.on n):=by
 cases e with
 | put=>cases hv
 | out=>cases hv
 | str nm o v =>
  cases n with
  | layer nm' m s sh lf tp mk w h l kb =>
   have nb:=aw6 s o;rw[De.d,De.on,S5,← aD5,fQ,fQ];refine aq6 ((A6<|bX5 k_s).trans<|G2 ?_);generalize (!decide (s=o))=b at nb ⊢
   exists evD,N3,c12,cs5,bv3,nb
   cases b<;>kernel_rfl
  | tone nm' r s sh =>
   have nb:=aw6 s o;rw[De.d,De.on,S5,← aD5,fQ,fQ];refine aq6 ((A6<|bX5 k_s).trans<|G2 ?_);generalize (!decide (s=o))=b at nb ⊢
   exists evD,N3,c12,cY5,bv3,nb
   cases b<;>kernel_rfl
  | group nm' m s sh ns =>
   have nb:=aw6 s o;rw[De.d,De.on,S5,← aD5,fQ,fQ];refine aq6 ((A6<|bX5 k_s).trans<|G2 ?_);generalize (!decide (s=o))=b at nb ⊢
   exists evD,N3,c12,cs6,bv3,nb
   cases b<;>kernel_rfl
 | shw nm o v =>
  cases n with
  | layer nm' m s sh lf tp mk w h l kb =>rw[De.d,De.on,S5,fQ,fQ];cases o<;>cases sh<;>kernel_rfl
  | tone nm' r s sh =>rw[De.d,De.on,S5,fQ,fQ];cases o<;>cases sh<;>kernel_rfl
  | group nm' m s sh ns =>rw[De.d,De.on,S5,fQ,fQ];cases o<;>cases sh<;>kernel_rfl
 | man nm o v =>
  cases n with
  | layer nm' m s sh lf tp mk w h l kb =>rw[De.d,De.on,S5,fQ,fQ];cases o<;>cases m<;>kernel_rfl
  | tone nm' r s sh =>
   rw[show De.on (.man nm o v) (.tone nm' r s sh)=O from rfl,De.d,aC2,fQ];cases r<;>cases o<;>kernel_rfl
  | group nm' m s sh ns =>rw[De.d,De.on,S5,fQ,fQ];cases o<;>cases m<;>kernel_rfl
 | plc nm a b c d =>
  cases n with
  | layer nm' m s sh lf tp mk w h l kb =>
   have nb:=bM2 lf tp a b;rw[De.d,De.on,S5,← aD5,fQ,fQ];have c1:R1 [.str "layer", nm',.str m.s,fr s,.bool sh,.int lf,.int tp,mkD mk,shD w h l] (Z 5) (Z 7)=[.int lf,.int tp]:=rfl;refine aq6 ((A6<|bX5 k_p).trans<|(A6<|cs2 _ _).trans ((A6<|cs1 _ _ _).trans<|G2 ?_));generalize (!decide (lf=a/\tp=b))=z at nb ⊢
   exists evD,T8,c12,D6,cs8,bv3,dd6,c1,nb
   cases z<;>kernel_rfl
  | tone nm' r s sh=>rw[show De.on (.plc nm a b c d) (.tone nm' r s sh)=O from rfl,De.d,aC2,fQ];kernel_rfl
  | group nm' m s sh ns=>rw[show De.on (.plc nm a b c d) (.group nm' m s sh ns)=O from rfl,De.d,aC2,fQ];kernel_rfl
 | spt nm x y o v =>
  cases n with
  | layer nm' m s sh lf tp mk w h l kb =>
   rw[fS]at ok;exact bX4 ok.2.1 nm x y o v hz.1 hz.2
  | tone nm' r s sh=>rw[show De.on (.spt nm x y o v) (.tone nm' r s sh)=O from rfl,De.d,aC2,fQ];kernel_rfl
  | group nm' m s sh ns=>rw[show De.on (.spt nm x y o v) (.group nm' m s sh ns)=O from rfl,De.d,aC2,fQ];kernel_rfl
def De.ls:De->List Nd->Option (List Nd)
 | .put _ k x,ns=>if k<=ns.length then Z (ns.take k++x::ns.drop k) else O
 | .out _ k x,ns=>if(ns[k]?).any (λy=>fD y.d x.d)=true then Z (ns.take k++ns.drop (k+1)) else O
 | _,_=>O
def fnd(l:List Nd)(nm:D):Option Nd:=(gk l).find? λn=>same n.nm nm
def grp(e:De):Nd->Option Nd
 | .group nm m s sh ns=>(e.ls ns).map λns'=>.group nm m s sh ns'
 | _=>O
def De.pre(e:De)(l:List Nd):Option (List Nd) :=
 if same e.nm (.str "")=true then e.ls l else(fnd l e.nm).bind λn=>(grp e n).map λn'=>gi e.nm [n'] l
def X3(l:List Nd):De->Bool
 | .put _ _ x=>x.nms.any λd=>(gc l).any λc=>same c d
 | _=>false
def dn(l:List Nd)(e:De):Option (List Nd) :=
 if e.isV=true then(fnd l e.nm).bind λn=>(e.on n).map λn'=>gi e.nm [n'] l
 else if X3 l e=true then O
 else(e.pre l).bind λl'=>if fW l'<=3 then Z l' else O
def an2:Option (List Nd)->D
 | none=>.none
 | some l=>.tuple<|fR l
def ae2(w h:Nat):Option (List Nd)->D
 | none=>.none
 | some l=>B5 w h l
def as6(l:List Nd)(k:Nat):(fR l).take k=fR (l.take k):=by rw[D8,D8,cH]
def as7(l:List Nd)(k:Nat):(fR l).drop k=fR (l.drop k):=by rw[D8,D8,cG]
def as8(a b:List Nd):fR (a++b)=fR a++fR b:=by rw[D8,D8,D8,bj]
def aw9(n:Nd):fR [n]=[n.d]:=by rw[D8];rfl
def N7(l:List Nd):(fR l).length=l.length:=by rw[D8,ag]
def cO9:eqD (.str "put") (.str "put")=Z (.bool true):=cv2 (by decide +kernel)
def ca0:eqD (.str "out") (.str "put")=Z (.bool false):=cv1z
def bt2(a b:Nat):gtI (.int a) (.int b)=Z (.bool<|decide (b < a)):=by
 show Z (fF<|decide ((b:Int) < a))=_;rw[decide_eq_decide.mpr (Int.ofNat_lt)]
def neN{x y:Nd}{k:Nat}(hx:Ly k x.d)(hy:Ly k y.d)(hk:k<=64):neD x.d y.d=Z (.bool (!PyData.eqv x.d y.d)):=by
 unfold neD;rw[if_pos ⟨hx.shaped hk,hy.shaped hk⟩]
def bD8{a b:List Nd}(h:a.length+b.length<=1000):B0 ↥a ↥b=Z ↥(a++b):=by rw[as8];exact aC9 (by rw[N7,N7];exact h)
def De.isP:De->Bool
 | .put ..=>true
 | _=>false
def aO1(e:De)(ns:List Nd)(hv:e.isV=false)(hl:ns.length<=900)(hy:∀y∈ns,Ly 60 y.d)(hx:∀pa k x,e=.put pa k x\/e=.out pa k x->Ly 60 x.d):T2 [↥ns,e.d]=Z (an2<|e.ls ns):=by
 have l4:∀a b c d:D,([a,b,c,d]:List D).length=4:=λ_ _ _ _=>rfl
 have run:∀(a b d:D),O5 [‹a›,‹b›,O,O,O,O]=Z (.rt d)->T2 [a,b]=Z d:=λa b d h=>B2 (g:=O5) (ρ:=[‹a›,‹b›,O,O,O,O]) rfl h
 have gn:=bt2;cases e with
 | put pa k x =>
  rw[De.d,De.ls];refine run _ _ _ ?_;have g1:=bt2 k (fR ns).length;rw[N7]at g1;have c:=aM2 (xs:=fR ns) (i:=k);by_cases h:k<=ns.length
  .rw[if_pos h,an2];rw[decide_eq_false (by grind)]at g1;have c:=c (by rw[N7];exact h);rw[as6,as7]at c;have k1:=bD8 (a:=ns.take k) (b:=[x]) (by rw[aA,aN];grind);have k2:=bD8 (a:=ns.take k++[x]) (b:=ns.drop k) (by rw[ae,aA,aN,aY];grind);rw[aw9]at k1;rw[av,aZ]at k2;have lt:decide ((ns.length:Int) < k)=false:=decide_eq_false (by grind)
   exists evD,O5,D6,l4,N7,lt,cO9,c.1,c.2,k1,k2
  .rw[if_neg h,an2];have lt:decide ((ns.length:Int) < k)=true:=decide_eq_true (by grind)
   exists evD,O5,l4,N7,lt
 | out pa k x =>
  rw[De.d,De.ls];refine run _ _ _ ?_;have xl:=hx pa k x (.inr rfl);rcases Nat.lt_trichotomy k ns.length with h|h|h
  .have lt:decide ((ns.length:Int) < k)=false:=decide_eq_false (by grind);have eq:((k:Int)==(ns.length:Int))=false:=by simp;grind
   have at1:atI (fR ns) (k:Int)=Z (ns[k]).d:=Q1 (by rw[ag7,am h];rfl);have nb:=neN (hy _<|aS h) xl (by decide);rw[am h,eB];cases q:fD (ns[k]).d x.d with
   | false =>
    rw[q]at nb;rw[if_neg (by simp),an2]
    exists evD,O5,l4,N7,lt,ca0,eq,at1,nb
   | true =>
    rw[q]at nb;rw[if_pos rfl,an2];have c1:=(aM2 (xs:=fR ns) (i:=k) (by rw[N7];grind)).1;have c2:=(aM2 (xs:=fR ns) (i:=k+1) (by rw[N7];grind)).2;rw[as6]at c1;rw[as7]at c2;have k1:=bD8 (a:=ns.take k) (b:=ns.drop<|k+1) (by rw[aA,aY];grind);have i1:(k:Int)+1=((k+1:Nat):Int):=by grind
    exists evD,O5,D6,l4,N7,lt,ca0,eq,at1,nb,i1,c1,c2,k1
  .have lt:decide ((ns.length:Int) < k)=false:=decide_eq_false (by grind);have eq:((k:Int)==(ns.length:Int))=true:=by simp;grind
   rw[bg (by grind),Option.any_none,if_neg (by simp),an2]
   exists evD,O5,l4,N7,lt,ca0,eq
  .have lt:decide ((ns.length:Int) < k)=true:=decide_eq_true (by grind);rw[bg (by grind),Option.any_none,if_neg (by simp),an2]
   exists evD,O5,l4,N7,lt
 | _=>cases hv
theorem aW1{α:Type}{c:Rho->Option Bool}{e:DE}{r:Rho}{h f:α->D}{p:α->Bool}:∀(l:List α) (x:Option B),(∀a∈l,c (‹h a›::r)=Z (p a))->(∀a∈l,p a=true->e (‹h a›::r)=Z (f a))->U8 (B9 0) c e (l.map h) (x::r)=Z ((l.filter p).map f)
 | [],_,_,_=>rfl
 | a::l,x,C,H=>by
  have ih:=aW1 l (‹h a›) (λb hb=>C b<|xmm _ hb) (λb hb=>H b<|xmm _ hb);cases q:p a with
  | true =>simp only[xmc,U8,B9,xw0,xbs,C a (ah ..),q,if_true,H a (ah ..) q,ih,xms,dN q]
  | false =>
   have q':¬p a=true:=by rw[q];exact aE
   simp only[xmc,U8,B9,xw0,xbs,C a (ah ..),q,xft,if_false,ih,dO q']
def isG:Nd->Bool
 | .group ..=>true
 | _=>false
def cq8(n:Nd)(r:Rho):tB2 eqD (dIx (A8 0) ⇑0) (dC<|.str "group") (‹n.d›::r)=Z (isG n):=by
 cases n with
 | layer=>rw[fQ];exists evD,aB3,bA8,isG
 | tone=>rw[fQ];exists evD,bf1,e_tg,isG
 | group=>rw[fQ];exists evD,aJ0,bA9,isG
theorem bt1:∀(l:List Nat),aH9 (l.map λk:Nat=>fE (k:Int))=Z (l.map λk:Nat=>(k:Int))
 | []=>rfl
 | k::l=>by
  have:=bt1 l;simp only[xmc,aH9,this,xms]
def cD0(l:List Nd):mxL (0::(l.filter isG).map λn=>(n.dp:Int))=(fW l:Int):=by
 obtain⟨h1,h2⟩:=aH0 (l:=0::(l.filter isG).map λn=>(n.dp:Int)) (by simp)
 have up:mxL (0::(l.filter isG).map λn=>(n.dp:Int))<=(fW l:Int):=by
  rcases ao.mp h1 with e|e
  .rw[e];grind
  .obtain⟨n,hn,e⟩:=aP.mp e;rw[← e];have:=J0 (bR.mp hn).1
   grind
 have z:=h2 0<|ah ..
 have lo:fW l<=(mxL (0::(l.filter isG).map λn=>(n.dp:Int))).toNat:=aV3 l λn hn=>by
  cases q:isG n with
  | true =>
   have:=h2 n.dp<|xmm _ (aP.mpr ⟨n,bR.mpr ⟨hn,q⟩,rfl⟩)
   grind
  | false =>
   have:n.dp=0:=by cases n<;>simp[isG]at q<;>rw[fV]
   grind
 grind
def aP3{l:List Nd}{f:Nat}(hl:l.length<=1000)(H:∀nm m s sh ns,Nd.group nm m s sh ns∈l->S9 f [↥ns]=Z (.int<|fW ns)):S9 (f+1) [↥l]=Z (.int<|fW l):=by
 refine B2 (g:=aK1<|S9 f) (ρ:=[‹↥l›]) rfl ?_
 have c:D1 1 [] (K1<|A1 0) (B9 0) (tB2 eqD (dIx (A8 0) ⇑0)<|dC (.str "group")) (A5 B0 ⇑1<|A3 (S9 f) (A0 (dIx (A8 0) ⇑5) A2)) [‹↥l›]=Z ((l.filter isG).map λn=>fE (n.dp:Int)):=by
  unfold D1;have e:K1 (A1 0) [‹↥l›]=Z (l.map fQ):=by rw[← D8];rfl
  rw[e,xbs,if_pos (by rw[ag];grind),show ag9 1 [] [Z (B.val ↥l)]=[O] from rfl];refine aW1 (h:=fQ) (p:=isG) l O (λn _=>cq8 n []) λn hn hp=>?_
  cases n with
  | layer=>cases hp
  | tone=>cases hp
  | group nm m s sh ns =>
   have e:=H nm m s sh ns hn;have i1:(1:Int)+(fW ns:Int)=((1+fW ns:Nat):Int):=by grind
   rw[fQ]
   exists evD,bf0,e,i1,fV
 have k:=aE4 (xs:=[.int 0]) (ys:=(l.filter isG).map λn=>fE (n.dp:Int)) (by have:=dh isG l;rw[ag,aN];grind);have i:=bt1 (0::(l.filter isG).map fV);rw[xmc,xmc,bH,bH]at i;have i:aH9 ([.int 0]++(l.filter isG).map λn=>fE (n.dp:Int))=Z (0::(l.filter isG).map λn=>(n.dp:Int)):=i;have x:A5 B0 (L6<|A0 ⇑0 A2) (L6<|D1 1 [] (K1<|A1 0) (B9 0) (tB2 eqD (dIx (A8 0) ⇑0)<|dC (.str "group")) (A5 B0 ⇑1<|A3 (S9 f) (A0 (dIx (A8 0) ⇑5) A2))) [‹↥l›]=Z (.list<|[.int 0]++(l.filter isG).map λn=>fE (n.dp:Int)):=by simp only[A5,L6,A0,A2,dC,xbs,xms,c,k]
 simp only[aK1,B1,bu2,qE,x,xbs,av4,i];rw[if_neg (by simp),cD0];rfl
def cl9:∀(k:Nat) (l:List Nd) (f:Nat),fW l<=k->k+1<=f->l.length<=1000->gh l->S9 f [↥l]=Z (.int<|fW l):=by
 intro k
 induction k with
 | zero =>
  intro l f hd hf hl ht;obtain⟨f,rfl⟩:∃g,f=g+1:=⟨f - 1,by grind⟩;refine aP3 hl λnm m s sh ns hn=>?_
  have:=J0 hn;rw[fV]at this;grind
 | succ k ih =>
  intro l f hd hf hl ht;obtain⟨f,rfl⟩:∃g,f=g+1:=⟨f - 1,by grind⟩;refine aP3 hl λnm m s sh ns hn=>?_
  have h1:=J0 hn;have h2:=(P4 l).mp ht _ hn;rw[fV]at h1;rw[gf]at h2;exact ih ns f (by grind) (by grind) h2.1 h2.2
def az0:D->Str
 | .str s=>s
 | _ => ""
def F9.is{d:D}(h:F9 d):d=.str (az0 d):=by obtain⟨s,rfl,_⟩:=h;rfl
theorem br8:∀(ps:List (Str×D)) (a:List (Str×D)),((a++ps).map Prod.fst).Nodup->ps.foldl (λa p=>bi0 a p.1 p.2) (a.map λp=>(fG p.1,p.2))=(a++ps).map λp=>(fG p.1,p.2)
 | [],a,_=>by simp
 | p::ps,a,h=>by
  have no:(a.map λp=>(fG p.1,p.2)).any (U6 p.1)=false:=by
   rw[cy];intro x hx;obtain⟨q,hq,rfl⟩:=aP.mp hx
   have:q.1≠p.1:=λe=>by
    rw[bj,aJ]at h;exact h.2.2 _ (bL hq) _ (ah ..) e
   simp[U6,this]
  have e1:bi0 (a.map λp=>(fG p.1,p.2)) p.1 p.2=(a++[p]).map λp=>(fG p.1,p.2):=by
   unfold bi0;rw[no,if_neg (by decide),bj];rfl
  rw[bA,e1,br8 ps (a++[p]) (by rw[av];exact h),av];rfl
def bz1(ps:List (Str×D))(h:(ps.map Prod.fst).Nodup):mgD ps=ps.map λp=>(fG p.1,p.2):=br8 ps [] h
def knw(l:List Nd):D:=.dict<|(gk l).map λn=>(n.nm,n.d)
def aH2{l:List Nd}(hs:∀d∈gc l,F9 d)(x:Str):U5 ((gk l).map λn=>(n.nm,n.d)) x=(fnd l<|.str x).map fQ:=by
 unfold U5 fnd
 have:∀L:List Nd,(∀n∈L,F9 n.nm)->((L.map λn=>(n.nm,n.d)).find?<|U6 x).map Prod.snd=(L.find? λn=>same n.nm<|.str x).map fQ:=by
  intro L
  induction L with
  | nil=>intro _;rfl
  | cons n L ih =>
   intro h;obtain⟨s,e,_⟩:=h n (ah ..);rw[xmc,bS,bS,e];by_cases q:s=x
   .subst q;rw[show U6 s (.str s,n.d)=true by simp[U6],M4];rfl
   .rw[show U6 x (.str s,n.d)=false by simp[U6,q],W1 (λz=>q (by cases z;rfl))];exact ih λm hm=>h m<|xmm _ hm
 refine this _ λn hn=>hs _ ?_
 rw[← als_nms];exact bL hn
def cE4{l:List Nd}(hs:∀d∈gc l,F9 d)(nd:(gc l).Nodup)(hl:(gk l).length<=900){src:Rho->Option (List D)}{ρ:Rho}(e:src ρ=Z ((gk l).map fQ)):
  be4 (qN<|D1 1 [] src (B9 0) F6 (B4<|A0 (dIx (A8 0) ⇑1) (A0 (A1 0) A2))) ρ=Z (knw l):=by
 have c:D1 1 [] src (B9 0) F6 (B4<|A0 (dIx (A8 0) ⇑1) (A0 (A1 0) A2)) ρ=Z ((gk l).map λn=>.tuple [n.nm,n.d]) :=
  V2 (l:=gk l) (h:=fQ) (r:=[]) rfl e (by grind) λn _=>by
   have:=cq1 n [];simp only[B4,A0,A2,this,A1,xg0,xbs,xms]
 have nms:∀n∈gk l,n.nm=.str (az0 n.nm):=λn hn=>(hs _ (by rw[← als_nms];exact bL hn)).is
 have p:∀L:List Nd,(∀n∈L,n.nm=.str (az0 n.nm))->aG5 (L.map λn=>.tuple [n.nm,n.d])=Z (L.map λn=>(az0 n.nm,n.d)):=by
  intro L
  induction L with
  | nil=>intro _;rfl
  | cons n L ih =>
   intro h;rw[xmc,aG5,ih λm hm=>h m (xmm _ hm)];have:=h n (ah ..);rw[xmc,show bL0 (.tuple [n.nm,n.d])=Z (az0 n.nm,n.d) by rw[this];rfl];rfl
 have nd2:(((gk l).map λn=>(az0 n.nm,n.d)).map Prod.fst).Nodup:=by
  rw[bH];rw[← als_nms]at nd;rw[List.Nodup,dz]at nd ⊢;refine cU.imp_of_mem (λ{a b} ha hb h e=>h ?_) nd;rw[nms a ha,nms b hb];exact congrArg fG e
 unfold be4;have q:qN (D1 1 [] src (B9 0) F6<|B4 (A0 (dIx (A8 0) ⇑1)<|A0 (A1 0) A2)) ρ=Z (false,(gk l).map λn=>.tuple [n.nm,n.d]):=by unfold qN;rw[c];rfl
 rw[q,xbs,if_pos ⟨rfl,by rw[ag];grind⟩,p _ nms,xms,bz1 _ nd2,bH];unfold knw
 congr 2
 exact List.map_congr_left λn hn=>by
  show(fG (az0 n.nm),n.d)=_;rw[← nms n hn]
def cr4(ha:aM6 a)(hb:aM6 b):eqD a b=Z (.bool<|same a b):=by
 obtain⟨x,rfl,hx⟩:=ha;obtain⟨y,rfl,hy⟩:=hb;by_cases e:x=y
 .subst e;rw[M4];exact cv2 hx
 .rw[W1 (by intro z;cases z;exact e rfl)];exact cv1 hx hy (by simpa using e)
def af5:same a b=true↔a=b:=by
 constructor
 .intro h;exact dA λz=>by rw[W1 z]at h;cases h
 .intro h;rw[h];exact M4 b
def N5(h:fnd l nm=Z n):n∈gk l/\n.nm=nm:=by
 unfold fnd at h;have q:=List.find?_some (p:=λn:Nd=>same n.nm nm) h;exact⟨dB h,af5.mp q⟩
def bT1(h:fnd l nm=O):nm∉gc l:=by
 unfold fnd at h;rw[List.find?_eq_none]at h;rw[← als_nms];intro z;obtain⟨n,hn,e⟩:=aP.mp z;exact h n hn<|af5.mpr e
def bk5(nd:(gc l).Nodup)(h:n∈gk l):fnd l n.nm=Z n:=by
 cases e:fnd l n.nm with
 | none=>exact absurd (by rw[← als_nms];exact bL h)<|bT1 e
 | some m =>
  obtain⟨h1,h2⟩:=N5 e;rw[← als_nms]at nd;rw[aT3 h2 nd h1 h]
def aU9(l:List Nd)(nm:D):(fnd l nm).isSome=(gc l).any λc=>same c nm:=by
 unfold fnd;rw[← als_nms,dH];cases e:(gk l).find? (λn=>same n.nm nm) with
 | none =>
  rw[List.find?_eq_none]at e
  symm
  rw[dv,cy];exact e
 | some n =>
  symm
  rw[cL,bv];exact⟨n,dB e,List.find?_some (p:=λn:Nd=>same n.nm nm) e⟩
def aU4(hs:∀d∈gc l,F9 d)(x:Str)(neg:Bool):G.inK neg (.str x) (knw l)=Z (.bool (if neg then !(fnd l<|.str x).isSome else(fnd l<|.str x).isSome)):=by
 show Z (fF (if neg then !(U5 _ x).isSome else(U5 _ x).isSome))=_;rw[aH2 hs,dy]
structure Pl (l:List Nd):Prop where
 wl:Wl l
 ok:fT l
 len:(gc l).length<=500
def Pl.al(g:Pl l):(gk l).length<=500:=by
 have:=congrArg cT (als_nms l);rw[ag]at this;have:=g.len
 grind
structure Dee (e:De):Prop where
 nmo:Nm e.nm\/(e.isV=false/\e.nm=.str "")
 sz:e.sz
 nd:∀pa k x,e=.put pa k x\/e=.out pa k x->(∀d∈x.nms,F9 d)/\x.dp<=4/\x.nms.length<=100
theorem Dee.nm(g:Dee e):aM6 e.nm:=by
 rcases g.nmo with h|⟨_,h⟩
 .exact(N0 h).l
 .rw[h];exact⟨"", rfl,by decide +kernel⟩
def Dee.ly(g:Dee e):∀pa k x,e=.put pa k x\/e=.out pa k x->Ly 60 x.d:=λpa k x h=>by
 obtain⟨h1,h2,_⟩:=g.nd pa k x h;exact(aA3 x h1).mono (by grind)
def ap1:∀(k:Nat) (l:List Nd),fW l<=k->fT l->∀n∈gk l,n.Ok/\n.dp<=k/\(∀d∈n.nms,d∈gc l)/\n.nms.length<=(gc l).length:=by
 intro k
 induction k with
 | zero =>
  intro l hd ok n hn
  induction l with
  | nil=>rw[gk]at hn;cases hn
  | cons y l ih =>
   rw[gk]at hn;rw[fT]at ok;rw[fW]at hd;rcases az.mp hn with h|h
   .cases y with
    | group=>rw[fV]at hd;grind
    | layer=>rw[gj]at h;rw[aw.mp h];exact⟨ok.1,by rw[fV];exact aj _,λd hd'=>by rw[gc];exact ar _ hd',by rw[gc,ae];grind⟩
    | tone=>rw[gj]at h;rw[aw.mp h];exact⟨ok.1,by rw[fV];exact aj _,λd hd'=>by rw[gc];exact ar _ hd',by rw[gc,ae];grind⟩
   .obtain⟨q1,q2,q3,q4⟩:=ih (by grind) ok.2 h;exact⟨q1,q2,λd hd'=>by rw[gc];exact au _<|q3 d hd',by rw[gc,ae];grind⟩
 | succ k ih =>
  intro l hd ok n hn
  induction l with
  | nil=>rw[gk]at hn;cases hn
  | cons y l ihl =>
   rw[gk]at hn;rw[fT]at ok;rw[fW]at hd;rcases az.mp hn with h|h
   .have own:n=y->n.Ok/\n.dp<=k+1/\(∀d∈n.nms,d∈gc (y::l))/\n.nms.length<=(gc (y::l)).length:=λe=>by
     subst e;exact⟨ok.1,by grind,λd hd'=>by rw[gc];exact ar _ hd',by rw[gc,ae];grind⟩
    cases y with
    | layer=>rw[gj]at h;exact own<|aw.mp h
    | tone=>rw[gj]at h;exact own<|aw.mp h
    | group nm m s sh ns =>
     rw[gj]at h;rcases ao.mp h with h|h
     .exact own h
     .have o:=ok.1;rw[fS]at o;rw[fV]at hd;obtain⟨q1,q2,q3,q4⟩:=ih ns (by grind) o.2 n h;refine⟨q1,by grind,λd hd'=>?_,?_⟩
      .rw[gc,gb];exact ar _<|xmm _ (q3 d hd')
      .rw[gc,gb,ae,aD];grind
   .obtain⟨q1,q2,q3,q4⟩:=ihl (by grind) ok.2 h;exact⟨q1,q2,λd hd'=>by rw[gc];exact au _<|q3 d hd',by rw[gc,ae];grind⟩
def cg2(h:∀x∈X,Ly 60 x):neD (.list X) (.list [])=Z (.bool (!X.isEmpty)):=by
 unfold neD;rw[if_pos ⟨(Ly.lst h).shaped (by decide),rfl⟩];cases X<;>rfl
def cq9(h:(["put", "out"]:List Str).any (λy=>y==w)=b):inD true (.str w) (.tuple [.str "put", .str "out"])=Z (.bool (!b)):=by
 have:=ck5 true w ["put", "out"];rw[h]at this;exact this
def P6(h:c ρ=Z true):sIf c f g ρ=f ρ:=by unfold sIf;rw[h];rfl
def D7(h:c ρ=Z false):sIf c f g ρ=g ρ:=by unfold sIf;rw[h];rfl
abbrev r9(w h:Nat)(l:List Nd)(e:D)(a6 a7 a8:Option B):Rho:=[‹B5 w h l›,‹e›,‹.int w›,‹.int h›,‹↥l›,‹knw l›,a6,a7,a8]
def bc5(g:Pl l):∀z,(A7 ae9<|A7 Q6 (A7 o0<|A7 n9 ae8)) (r9 w h l e O O O)=Z (.rt z)->k8 [B5 w h l,e]=Z z:=λz hz=>by
 have l3:∀a b c:D,([a,b,c]:List D).length=3:=λ_ _ _=>rfl
 refine B2 (g:=aK0) (ρ:=[‹B5 w h l›,‹e›,O,O,O,O,O,O,O]) rfl ?_;unfold aK0;rw[A6 (ρ':=[‹B5 w h l›,‹e›,‹.int w›,‹.int h›,‹↥l›,O,O,O,O]) (by exists evD,az8,B5,l3)];have al:=g.al;have eA:=aJ3 3 l 12 g.wl.dp (by decide) (by grind);have k:=cE4 g.wl.hs g.wl.nd (by grind) (src:=K1<|A3 (G6 12) (A0 (A1 4) A2)) (ρ:=[‹B5 w h l›,‹e›,‹.int w›,‹.int h›,‹↥l›,O,O,O,O]) (by simp only[K1,A3,A0,A2,A1,xg0,xg1,xbs,xms,eA]);rw[A6 (ρ':=r9 w h l e O O O) (by simp only[az7,B3,k,xbs,xms,xw0,xw1])];exact hz
def De.w:De->Str
 | .str .. => "strength"
 | .shw .. => "shown"
 | .man .. => "manner"
 | .plc .. => "place"
 | .spt .. => "spot"
 | .put .. => "put"
 | .out .. => "out"
def De.parts(e:De):∃r,e.d=.tuple (.str e.w::e.nm::r):=by cases e<;>(rw[De.d];exact⟨_,rfl⟩)
def cn3(a:D)(r:List D):L2.atI (a::r) 0=Z a:=Q1 (j:=0) rfl
def aW6(a b:D)(r:List D):L2.atI (a::b::r) 1=Z b:=Q1 (j:=1) rfl
def v2a:DS:=(sIf (tB2 (G.inK true) (dIx (A8 1) ⇑1)<|A1 5) (B1<|dC .none) C2)
def v2b:DS:=(B3 6<|A3 T5 (A0 (ao6 (A1 5)<|dIx (A8 1) ⇑1)<|A0 (A1 1) A2))
def v2c:DS:=(sIf (tB2 isB (A1 6)<|dC .none) (B1<|dC .none) C2)
def v2d:DS:=(B1<|B4 (A0 (A1 2)<|A0 (A1 3) (A0 (A3 (O0 12)<|A0 (A1 4) (A0 (dIx (A8 1) ⇑1)<|A0 (B4<|A0 (A1 6) A2) A2)) A2)))
def co3:ae9=sIf (tB2 (inD true) (dIx (A8 1) ⇑0)<|B4 (A0 (dC<|.str "put")<|A0 (dC<|.str "out") A2)) (A7 v2a<|A7 v2b (A7 v2c v2d)) C2:=rfl
def cI8(n:Nd):isB n.d .none=Z (.bool false):=by cases n<;>(rw[fQ];rfl)
def bz5(e:De)(hv:e.isV=true)(g:Pl l)(de:Dee e):k8 [B5 w h l,e.d]=Z (ae2 w h<|dn l e):=by
 obtain⟨r,er⟩:=e.parts;obtain⟨x,ex,hx⟩:=de.nm;have ip:inD true (.str e.w) (.tuple [.str "put", .str "out"])=Z (.bool true):=cq9 (b:=false) (by cases e<;>first|(cases hv;done)|(rw[De.w];decide +kernel));refine bc5 g _ ?_;have ik:=aU4 g.wl.hs x true;have lk:=aH2 g.wl.hs x;unfold dn;rw[if_pos hv,ex];rw[ex]at er;rw[er];have t2:(tB2 (inD true) (dIx (A8 1) ⇑0)<|B4 (A0 (dC<|.str "put")<|A0 (dC<|.str "out") A2)) (r9 w h l (.tuple (.str e.w :: .str x::r)) O O O)=Z true:=by exists evD,r9,cn3,ip
 refine G2 ?_;rw[co3];refine Eq.trans (P6 t2) ?_;cases q:fnd l (.str x) with
 | none =>
  rw[q]at ik;refine G2 ?_
  exists evD,v2a,r9,aW6,ik,dv
  rfl
 | some n =>
  rw[q]at ik lk;obtain⟨n1,n2⟩:=N5 q;have hc:=cm8 e n hv (ap1 3 l g.wl.dp g.ok n n1).1 de.sz;rw[er]at hc;refine(A6 (by exists evD,v2a,r9,aW6,ik,cL;rfl)).trans ?_
  have ixk:ao6 (A1 5) (dIx (A8 1) ⇑1) (r9 w h l (.tuple (.str e.w :: .str x::r)) O O O)=Z n.d:=by
   have k:knw l=.dict ((gk l).map λn=>(n.nm,n.d)):=rfl
   exists evD,ao6,r9,aW6,k,lk
  have v1:A1 1 (r9 w h l (.tuple (.str e.w :: .str x::r)) O O O)=Z (.tuple (.str e.w :: .str x::r)):=rfl
  rw[A6 (ρ':=r9 w h l (.tuple (.str e.w :: .str x::r)) (‹aC2 (e.on n)›) O O) (by
   simp only[v2b,B3,A3,A0,A2,ixk,v1,xbs,xms,hc,r9,xw0,xw1])]
  rw[xbs];cases p:e.on n with
  | none =>
   refine G2 ?_
   exists evD,v2c,r9,aC2,bR4
   rfl
  | some n' =>
   rw[aC2];refine(A6 (by exists evD,v2c,r9,cI8;rfl)).trans ?_;have sx:F9 (.str x):=by rw[← n2];exact g.wl.hs _ (by rw[← als_nms];exact bL n1)
   have wt:=g.wl.wt sx (oth:=[n']) (by show 1<=1000;decide);rw[aw9]at wt
   exists evD,v2d,r9,aW6,wt,ae2,B5
def ct0{x:Nd}(hx:∀d∈x.nms,F9 d)(hd:x.dp<=4):∀n∈gj x,Ly 60 n.d/\F9 n.nm:=by
 have key:∀(k:Nat) (l:List Nd),fW l<=k->∀n∈gk l,n.dp<=k/\∀d∈n.nms,d∈gc l:=by
  intro k
  induction k with
  | zero =>
   intro l hd n hn
   induction l with
   | nil=>rw[gk]at hn;cases hn
   | cons y l ih =>
    rw[gk]at hn;rw[fW]at hd;rcases az.mp hn with h|h
    .cases y with
     | group=>rw[fV]at hd;grind
     | layer=>rw[gj]at h;rw[aw.mp h];exact⟨by rw[fV];exact aj _,λd hd'=>by rw[gc];exact ar _ hd'⟩
     | tone=>rw[gj]at h;rw[aw.mp h];exact⟨by rw[fV];exact aj _,λd hd'=>by rw[gc];exact ar _ hd'⟩
    .obtain⟨q2,q3⟩:=ih (by grind) h;exact⟨q2,λd hd'=>by rw[gc];exact au _<|q3 d hd'⟩
  | succ k ih =>
   intro l hd n hn
   induction l with
   | nil=>rw[gk]at hn;cases hn
   | cons y l ihl =>
    rw[gk]at hn;rw[fW]at hd;rcases az.mp hn with h|h
    .have own:n=y->n.dp<=k+1/\∀d∈n.nms,d∈gc (y::l):=λe=>by
      subst e;exact⟨by grind,λd hd'=>by rw[gc];exact ar _ hd'⟩
     cases y with
     | layer=>rw[gj]at h;exact own<|aw.mp h
     | tone=>rw[gj]at h;exact own<|aw.mp h
     | group nm m s sh ns =>
      rw[gj]at h;rcases ao.mp h with h|h
      .exact own h
      .rw[fV]at hd;obtain⟨q2,q3⟩:=ih ns (by grind) n h;exact⟨by grind,λd hd'=>by rw[gc,gb];exact ar _<|xmm _ (q3 d hd')⟩
    .obtain⟨q2,q3⟩:=ihl (by grind) h;exact⟨q2,λd hd'=>by rw[gc];exact au _<|q3 d hd'⟩
 intro n hn;have e1:gk [x]=gj x:=by rw[gk,gk,ba]
 have e2:gc [x]=x.nms:=by rw[gc,gc,ba]
 obtain⟨q1,q2⟩:=key 4 [x] (by rw[fW,fW];grind) n (by rw[e1];exact hn);rw[e2]at q2;exact⟨(aA3 n λd hd'=>hx d<|q2 d hd').mono (by grind),hx _<|q2 _ (M3 n)⟩
def bm9{l:List Nd}{x:Nd}(hx:∀d∈x.nms,F9 d)(hd:x.dp<=4):neD (.list<|((gj x).filter λn=>(fnd l n.nm).isSome).map fQ) (.list [])=Z (.bool<|x.nms.any λd=>(gc l).any λc=>same c d):=by
 have h:=ct0 hx hd
 rw[cg2 λd hd'=>by
  obtain⟨n,hn,rfl⟩:=aP.mp hd'
  exact(h n (bR.mp hn).1).1]
 congr 2
 rw[← aW9,dH,bX];simp only[bC,List.isEmpty_eq_false_iff,ne_eq,List.map_eq_nil_iff,eD,bv];constructor
 .intro z;exact dA λq=>z λn hn hs=>q ⟨n,hn,by show((gc l).any λc=>same c n.nm)=true;rw[← aU9];exact hs⟩
 .rintro⟨n,hn,hs⟩ z
  exact z n hn (by rw[aU9];exact hs)
def aT4{l:List Nd}(g:Pl l){x:Nd}(hx:∀d∈x.nms,F9 d)(hd:x.dp<=4)(hn:x.nms.length<=100){src:Rho->Option (List D)}{ρ:Rho}(hs:src ρ=Z ((gj x).map fQ))(hc:ag9 1 [5] ρ=[O,‹knw l›]):
  D1 1 [5] src (B9 0) (tB2 (G.inK false) (dIx (A8 0) ⇑1)<|A1 1) (A1 0) ρ=Z (((gj x).filter λn=>(fnd l n.nm).isSome).map fQ):=by
 have len:=congrArg cT (aW9 x);rw[ag]at len;unfold D1;rw[hs,xbs,if_pos (by rw[ag];grind),hc];refine aW1 (h:=fQ) (f:=fQ) (p:=λn=>(fnd l n.nm).isSome) (gj x) O (λn hn=>?_) λn _ _=>rfl
 have q:=((ct0 hx hd) n hn).2;have ik:=aU4 g.wl.hs (az0 n.nm) false;rw[← q.is]at ik;have a1:=cq1 n [‹knw l›];have v1:A1 1 [‹n.d›,‹knw l›]=Z (knw l):=rfl;unfold tB2 A5;rw[a1,v1,xbs,xbs,ik];rfl
def p4a:DS:=(B3 7<|A3 T2 (A0 (A1 4)<|A0 (A1 1) A2))
def p4b:DS:=(B3 8<|ao6 (A1 5) (dIx (A8 1) ⇑1))
def p4c:DS:=(B3 7<|A3 T2 (A0 (dIx (A8 8) ⇑5)<|A0 (A1 1) A2))
def p4d:DS:=(sIf (tB2 aw2 (A1 7)<|dC .none) (B3 7<|A3 (O0 12) (A0 (A1 4)<|A0 (dIx (A8 1) ⇑1) (A0 (B4<|A0 (A5 B0 (D6 (A1 8) C7<|B6 ⇑5)<|B4 (A0 (A1 7) A2)) A2) A2))) C2)
def cS2:o0=sIf (tB2 eqD (dIx (A8 1) ⇑1)<|dC (.str "")) p4a (sIf (P8 (tB2 (G.inK true) (dIx (A8 1) ⇑1)<|A1 5)<|tB2 neD (dIx (qE<|ao6 (A1 5) (dIx (A8 1) ⇑1)) ⇑0) (dC<|.str "group")) (B3 7<|dC .none)<|A7 p4b (A7 p4c p4d)):=rfl
def cW1{f:DE}{ρ:Rho}{d:D}(h:f ρ=Z d)(i:Int):dIx (qE f) (dC<|.int i) ρ=(av4 d).bind λq=>atI q.2 i:=by unfold dIx qE;rw[h];rfl
def bj3:aM6 (.str ""):=⟨"", rfl,by decide +kernel⟩
def cD9{e:De}{ns ns':List Nd}(h:e.ls ns=Z ns'):ns'.length<=ns.length+1:=by
 cases e with
 | put pa k x =>
  rw[De.ls]at h;split at h
  .cases h;rw[ae,aD,aA,aY];grind
  .cases h
 | out pa k x =>
  rw[De.ls]at h;split at h
  .cases h;rw[ae,aA,aY];grind
  .cases h
 | _=>cases h
def dc3:neD (.str "group") (.str "group")=Z (.bool false):=ag0 bA9
def dc2:neD (.str "layer") (.str "group")=Z (.bool true):=ag0 bA8
def dc0:neD (.str "tone") (.str "group")=Z (.bool true):=ag0 e_tg
def cz3(e:De)(hv:e.isV=false){w h:Nat}{l:List Nd}(g:Pl l)(de:Dee e){r:List D}(er:e.d=.tuple (.str e.w::e.nm::r)):∃a8,o0 (r9 w h l (.tuple (.str e.w::e.nm::r)) O O O)=Z (.nx<|r9 w h l (.tuple (.str e.w::e.nm::r)) O (‹an2 (e.pre l)›) a8):=by
 have al:=g.al
 have t0:(tB2 eqD (dIx (A8 1) ⇑1)<|dC (.str "")) (r9 w h l (.tuple (.str e.w::e.nm::r)) O O O)=Z (same e.nm<|.str ""):=by
  have q:=cr4 de.nm bj3
  exists evD,r9,aW6,q
 have lyl:∀y∈l,Ly 60 y.d:=λy hy=>(aA3 y λd hd=>g.wl.hs d<|K8 hy hd).mono (by have:=J0 hy;have:=g.wl.dp;grind)
 have th:=thins_of l g.wl.nl;have v1:∀a6 a7 a8,A1 1 (r9 w h l (.tuple (.str e.w::e.nm::r)) a6 a7 a8)=Z (.tuple (.str e.w::e.nm::r)):=λ_ _ _=>rfl
 rw[cS2];unfold De.pre;cases s0:same e.nm (.str "") with
 | true =>
  rw[s0]at t0;rw[if_pos rfl,P6 t0];have q:=aO1 e l hv (by have:=g.len;grind) lyl de.ly;rw[er]at q;exact⟨O,by exists evD,p4a,r9,q⟩
 | false =>
  rw[s0]at t0;rw[if_neg (by decide),D7 t0];obtain⟨x,ex,hx⟩:=de.nm;have ik:=aU4 g.wl.hs x true;have lk:=aH2 g.wl.hs x;rw[← ex]at ik lk;have k:knw l=.dict ((gk l).map λn=>(n.nm,n.d)):=rfl;have tk:(tB2 (G.inK true) (dIx (A8 1) ⇑1)<|A1 5) (r9 w h l (.tuple (.str e.w::e.nm::r)) O O O)=Z (!(fnd l e.nm).isSome):=by exists evD,r9,aW6,ik
  cases q:fnd l e.nm with
  | none =>
   rw[q]at tk;have tt:(P8 (tB2 (G.inK true) (dIx (A8 1) ⇑1)<|A1 5)<|tB2 neD (dIx (qE<|ao6 (A1 5) (dIx (A8 1) ⇑1)) ⇑0) (dC<|.str "group")) (r9 w h l (.tuple (.str e.w::e.nm::r)) O O O)=Z true:=by unfold P8;rw[tk];rfl
   rw[P6 tt];exact⟨O,rfl⟩
  | some n =>
   rw[q]at tk lk;obtain⟨n1,n2⟩:=N5 q
   have ixk:∀a6 a7 a8,ao6 (A1 5) (dIx (A8 1) ⇑1) (r9 w h l (.tuple (.str e.w::e.nm::r)) a6 a7 a8)=Z n.d:=λa6 a7 a8=>by
    rw[ex]
    exists evD,ao6,r9,aW6,k,lk
   have tg:(tB2 neD (dIx (qE<|ao6 (A1 5) (dIx (A8 1) ⇑1)) ⇑0)<|dC (.str "group")) (r9 w h l (.tuple (.str e.w::e.nm::r)) O O O)=Z (!isG n):=by
    unfold tB2 A5;rw[cW1 (ixk O O O)];cases n with
    | layer=>rw[fQ];simp only[dC,xbs,av4,aB3,dc2,M8];rfl
    | tone=>rw[fQ];simp only[dC,xbs,av4,bf1,dc0,M8];rfl
    | group=>rw[fQ];simp only[dC,xbs,av4,aJ0,dc3,M8];rfl
   have tt:(P8 (tB2 (G.inK true) (dIx (A8 1) ⇑1)<|A1 5)<|tB2 neD (dIx (qE<|ao6 (A1 5) (dIx (A8 1) ⇑1)) ⇑0) (dC<|.str "group")) (r9 w h l (.tuple (.str e.w::e.nm::r)) O O O)=Z (!isG n):=by unfold P8;rw[tk];simp only[cL,xnt,xbs,xft,if_false];exact tg
   rw[xbs];cases n with
   | layer=>rw[P6 tt];exact⟨O,rfl⟩
   | tone=>rw[P6 tt];exact⟨O,rfl⟩
   | group nm m s sh ns =>
    rw[D7 tt,grp];obtain⟨o1,o2,o3,o4⟩:=ap1 3 l g.wl.dp g.ok _ n1;rw[fV]at o2;rw[gb,aD]at o4
    have nl:ns.length<=500:=by
     have:=(thins_of ns (by have:=g.len;grind)).2;have:=g.len
     grind
    have lyn:∀y∈ns,Ly 60 y.d:=λy hy=>(aA3 y λd hd=>g.wl.hs d<|o3 d (by rw[gb];exact xmm _<|K8 hy hd)).mono (by have:=J0 hy;grind)
    have ql:=aO1 e ns hv (by grind) lyn de.ly;rw[er]at ql;rw[A6 (ρ':=r9 w h l (.tuple (.str e.w::e.nm::r)) O O<|‹fQ (.group nm m s sh ns)›) (by simp only[p4b,B3,ixk,xbs,xms,r9,xw0,xw1])];have i5:dIx (A8 8) ⇑5 (r9 w h l (.tuple (.str e.w::e.nm::r)) O O<|‹fQ (.group nm m s sh ns)›)=Z ↥ns:=by rw[fQ];exists evD,r9,bf0
    rw[A6 (ρ':=r9 w h l (.tuple (.str e.w::e.nm::r)) O (‹an2 (e.ls ns)›)<|‹fQ (.group nm m s sh ns)›) (by simp only[p4c,B3,A3,A0,A2,i5,v1,xbs,xms,ql,r9,xw0,xw1])];refine⟨‹fQ (.group nm m s sh ns)›,?_⟩;cases p:e.ls ns with
    | none =>
     rw[an2]
     exists evD,p4d,r9,aG9,Option.map_none,an2
    | some ns' =>
     have ln:=cD9 p;have sx:F9 e.nm:=by rw[← n2];exact g.wl.hs _ (by rw[← als_nms];exact bL n1)
     have wt:=g.wl.wt sx (oth:=[.group nm m s sh ns']) (by show 1<=1000;decide);rw[aw9,fQ]at wt;have c5:R1 [.str "group", nm,.str m.s,fr s,.bool sh,↥ns] O (Z 5)=[.str "group", nm,.str m.s,fr s,.bool sh]:=rfl;have k5:=aC9 (a:=[.str "group", nm,.str m.s,fr s,.bool sh]) (b:=[↥ns']) (by show 6<=1000;decide);have k5:B0 (.tuple [.str "group", nm,.str m.s,fr s,.bool sh]) (.tuple [↥ns'])=Z (.tuple [.str "group", nm,.str m.s,fr s,.bool sh,↥ns']):=k5;rw[an2,fQ]
     exists evD,p4d,r9,D6,cT9,c5,k5,aW6,wt,xms,an2
def Stands.rp(h:Stands a n b l)(o':List Nd):∃l',Rp (a++n::b) o' l l':=by
 induction h with
 | top=>exact⟨_,.top⟩
 | deep _ ih=>obtain⟨l',r⟩:=ih;exact⟨_,.deep r⟩
def aw8(nd:(gc l).Nodup)(h:fnd l nm=Z n):∃a b,Stands a n b l/\∀n',Rp (a++n::b) (a++[n']++b) l (gi nm [n'] l):=by
 obtain⟨h1,h2⟩:=N5 h;obtain⟨a,b,St⟩:=V5 nd h1;refine⟨a,b,St,λn'=>?_⟩;obtain⟨l',r⟩:=St.rp (a++[n']++b);rw[← h2,aN0 r nd];exact r
def bM1(g:Wl l)(St:Stands a n b l):U3 [B5 w h l,n.nm]=Z n.d:=by
 obtain⟨e1,_,e2,_⟩:=aQ1 (w:=w) (h:=h) St g.dp g.hs g.nd g.nl;have i2:atI (fR (a++n::b)) (a.length:Int)=Z n.d:=cY0 (by rw[aM (aj _),bW];rfl);refine B2 (ρ:=[‹B5 w h l›,‹n.nm›,O]) rfl ?_
 exists evD,au4,e1,e2,i2
def aY0(g:Wl l)(St:Stands a n b l)(o:Nd):X6 [B5 w h l,n.nm,o.d]=Z (B5 w h<|gi n.nm [o] l):=by
 obtain⟨e1,e0,e2,put⟩:=aQ1 (w:=w) (h:=h) St g.dp g.hs g.nd g.nl;obtain⟨l',r,ep⟩:=put (a++[o]++b);have P:=St.props
 have hz:(a++n::b).length<=1000:=by
  have h0:(gc (a++n::b)).length<=1000:=aO (List.Nodup.length_le_of_subset (P.nd g.nd) P.sub) g.nl;exact aO (thins_of _ h0).2 h0
 rw[ae,aD]at hz;have c1:=(bW9 (a++n::b) (i:=(a.length:Int)) rfl).1;have c2':=(bW9 (a++n::b) (i:=(a.length:Int)+1) (k:=a.length+1)<|by grind).2;rw[List.take_left]at c1;rw[show(a++n::b).drop (a.length+1)=b by rw[show a++n::b=(a++[n])++b by simp,List.drop_left' (by simp)]]at c2';have k1:=bX6 a [o] (by simp;grind);have k2:=bX6 (a++[o]) b (by rw[ae];simp;grind);have d1:fR [o]=[o.d]:=by rw[fR,fR]
 rw[d1]at k1;rw[aN0 r g.nd];refine B2 (ρ:=[‹B5 w h l›,‹n.nm›,‹o.d›,O,O]) rfl ?_
 exists evD,aB5,e1,e2,D6,c1,c2',k1,k2,ep
def bR7(hs:∀d∈gc l,F9 d)(hn:F9 nm):inD true nm (.list<|gc l)=Z (.bool (!(fnd l nm).isSome)):=by
 have fl:(gc l).all M1=true:=by
  rw[aK];intro d hd;obtain⟨s,rfl,_⟩:=hs d hd;rfl
 have f1:M1 nm=true:=by obtain⟨s,rfl,_⟩:=hn;rfl
 show(if M1 nm=true/\(gc l).all M1=true then Z (fF (if true=true then !inV (toV nm) ((gc l).map toV) else inV (toV nm) ((gc l).map toV))) else O)=_;rw[if_pos ⟨f1,fl⟩,aU9]
 have:inV (toV nm) ((gc l).map toV)=(gc l).any λc=>same c nm:=by
  unfold inV;rw[dH,bX,bv,bv];obtain⟨x,rfl,_⟩:=hn;constructor
  .rintro⟨d,hd,q⟩
   obtain⟨s,rfl,_⟩:=hs d hd;refine⟨_,hd,?_⟩;have q:(s==x)=true:=q;simp only[beq_iff_eq]at q;rw[q];exact M4 _
  .rintro⟨d,hd,q⟩
   refine⟨d,hd,?_⟩;have:=af5.mp q;subst this;show(x==x)=true;simp
 rw[this];rfl
def cC4(g:Wl l):V8 [B5 w h l]=Z (.list<|gc l):=by
 have e:=names_among 3 l 12 g.dp (by decide) g.nl;refine rX1 ?_
 exists evD,aJ6,B5,e
def cP4(g:Wl l)(hn:Nm nm):(tB2 (inD true) (A1 1)<|A3 V8 (A0 (A1 0) A2)) [‹B5 w h l›,‹nm›]=Z (!(fnd l nm).isSome):=by
 have e1:=cC4 (w:=w) (h:=h) g;have e2:=bR7 g.hs<|N0 hn
 exists evD,e1,e2
def ah6(g:Wl l)(hn:Nm nm)(hf:fnd l nm=Z n):J4 [B5 w h l,nm]=Z n.d:=by
 have t:=cP4 (w:=w) (h:=h) g hn;rw[hf]at t;obtain⟨h1,h2⟩:=N5 hf;obtain⟨a,b,St⟩:=V5 g.nd h1;have f1:=bM1 (w:=w) (h:=h) g St;rw[h2]at f1;refine rX2<|(A6<|(D7 t).trans rfl).trans ?_
 exists evD,f1
def bo9(e:De):V7 [e.d]=Z (.str e.w):=by
 obtain⟨r,er⟩:=e.parts;rw[er];refine rX1 ?_
 exists evD,aQ4,cn3
def Z5(e:De):G8 [e.d]=Z e.nm:=by
 obtain⟨r,er⟩:=e.parts;rw[er];refine rX1 ?_
 exists evD,aB6,aW6
def De.old:De->D
 | .str _ o _=>fr o
 | .shw _ o _=>.bool o
 | .man _ o _=>.str o.s
 | .plc _ a b _ _=>.tuple [.int a,.int b]
 | .spt _ _ _ o _=>o.d
 | .put _ k _=>.int k
 | .out _ k _=>.int k
def De.new:De->D
 | .str _ _ n=>fr n
 | .shw _ _ n=>.bool n
 | .man _ _ n=>.str n.s
 | .plc _ _ _ c d=>.tuple [.int c,.int d]
 | .spt _ _ _ _ n=>n.d
 | .put _ _ x=>x.d
 | .out _ _ x=>x.d
def bL4(e:De):aa2 [e.d]=Z e.old:=by cases e<;>(rw[De.d,De.old];rfl)
def cC5(e:De):av0 [e.d]=Z e.new:=by cases e<;>(rw[De.d,De.new];rfl)
def ew(hx:fH (.str x)=true)(hy:fH (.str y)=true)(h:(x==y)=b):eqD (.str x) (.str y)=Z (.bool b):=Q0 hx hy h
def de7:eqD (.str "strength") (.str "strength")=Z (.bool true):=ew (by decide +kernel) (by decide +kernel) (by decide +kernel)
def de6:eqD (.str "strength") (.str "spot")=Z (.bool false):=ew (by decide +kernel) (by decide +kernel) (by decide +kernel)
def de9:eqD (.str "shown") (.str "strength")=Z (.bool false):=ew (by decide +kernel) (by decide +kernel) (by decide +kernel)
def de8:eqD (.str "manner") (.str "strength")=Z (.bool false):=ew (by decide +kernel) (by decide +kernel) (by decide +kernel)
def cr2:eqD (.str "spot") (.str "strength")=Z (.bool false):=ew (by decide +kernel) (by decide +kernel) (by decide +kernel)
def cr3:eqD (.str "spot") (.str "shown")=Z (.bool false):=ew (by decide +kernel) (by decide +kernel) (by decide +kernel)
def bT4:eqD (.str "spot") (.str "manner")=Z (.bool false):=ew (by decide +kernel) (by decide +kernel) (by decide +kernel)
def cX0:eqD (.str "spot") (.str "spot")=Z (.bool true):=ew (by decide +kernel) (by decide +kernel) (by decide +kernel)
def De.has:De->Nd->Bool
 | .man ..,.tone ..=>false
 | .plc ..,.tone ..=>false
 | .plc ..,.group ..=>false
 | .spt ..,.tone ..=>false
 | .spt ..,.group ..=>false
 | .spt _ x y _ _,.layer _ _ _ _ _ _ _ w h _ _=>decide (x < w/\y < h)
 | _,_=>true
def cx5(h:ah2 [‹a›,‹b›,O]=Z (.rt d)):T6 [a,b]=Z d:=B2 (g:=ah2) (ρ:=[‹a›,‹b›,O]) rfl h
def cO1(nm:D)(x y:Nat)(o n:Q4):aK6 [(De.spt nm x y o n).d]=Z (.int x)/\aK5 [(De.spt nm x y o n).d]=Z (.int y):=by rw[De.d];exact⟨rfl,rfl⟩
def bS4(e:De)(hv:e.isV=true)(n:Nd):T6 [n.d,e.d]=Z (.bool<|e.has n):=by
 cases e with
 | put=>cases hv
 | out=>cases hv
 | spt nm x y o v =>
  cases n with
  | layer nm' m s sh lf tp mk w h l kb =>
   obtain⟨x1,x2⟩:=cO1 nm x y o v;have w0:=bo9<|.spt nm x y o v
   have hp:X8 [shD w h l,.int x,.int y]=Z (.bool<|decide (x < w/\y < h)):=by
    rw[show shD w h l=.tuple [.int w,.int h,.tuple (l.map fP)] from rfl,as0 w h (.tuple<|l.map fP) x y]
    congr 2
    exact decide_eq_decide.mpr ⟨λz=>⟨by grind,by grind⟩,λz=>⟨by grind,by grind,by grind,by grind⟩⟩
   refine cx5 ((A6 (by exists evD,w0;rfl)).trans ?_)
   exists evD,De.w,bT4,cl5,cX0,bs3,aU2,x1,x2,hp;rfl
  | _=>rw[fQ,De.d];kernel_rfl
 | _=>cases n<;>(rw[fQ,De.d];kernel_rfl)
def cJ2{e:De}(hv:e.isV=true){n:Nd}(h:e.has n=false):e.on n=O:=by
 cases e with
 | put=>cases hv
 | out=>cases hv
 | str=>cases n<;>cases h
 | shw=>cases n<;>cases h
 | man=>cases n<;>first|rfl|cases h
 | plc=>cases n<;>first|rfl|cases h
 | spt nm x y o v =>
  cases n with
  | layer nm' m s sh lf tp mk w h' l kb =>
   have h:decide (x < w/\y < h')=false:=h;have h:=of_decide_eq_false h;show(if x < w/\y < h'/\_ then _ else O)=_;rw[if_neg λz=>h ⟨z.1,z.2.1⟩]
  | tone=>rfl
  | group=>rfl
abbrev v3(a b:D)(w:Str):Rho:=[‹a›,‹b›,‹.str w›]
def cx3(h:ac9 [‹a›,‹b›,O]=Z (.rt d)):R3 [a,b]=Z d:=B2 (g:=ac9) (ρ:=[‹a›,‹b›,O]) rfl h
def cx4(h:R9 [‹a›,‹b›,O,O]=Z (.rt d)):J2 [a,b]=Z d:=B2 (g:=R9) (ρ:=[‹a›,‹b›,O,O]) rfl h
def sk(hρ:A1 i ρ=Z (.str w))(h:eqD (.str w) (.str W)=Z (.bool false)):A7 (sIf (tB2 eqD (A1 i)<|dC (.str W)) f C2) g ρ=g ρ:=by
 refine A6 ?_;unfold sIf tB2 A5;rw[hρ,xbs];show((eqD (.str w)<|.str W).bind M8).bind _=_;rw[h];rfl
abbrev yL(nm':D)(m:Man)(s:Rat)(sh:Bool)(lf tp:Int)(mk:Option (List Rat))(w h:Nat)(l:List Q4):List D:=[.str "layer", nm',.str m.s,fr s,.bool sh,.int lf,.int tp,mkD mk,shD w h l]
def VO(e:De)(n:Nd):Prop:=∃v b,R3 [n.d,e.d]=Z v/\neD v e.old=Z (.bool b)/\(b=true->e.on n=O)/\(b=false->∃n',e.on n=Z n'/\J2 [n.d,e.d]=Z n'.d)
def bG7(e:De)(hv:e.isV=true)(n:Nd)(ok:n.Ok)(hz:e.sz)(hh:e.has n=true):VO e n:=by
 have w:=bo9 e;have nw:=cC5 e
 have fin:∀(p:Prop) [Decidable p] (m:Nd) (v:D),e.on n=(if p then Z m else O)->R3 [n.d,e.d]=Z v->neD v e.old=Z (.bool (!decide p))->J2 [n.d,e.d]=Z m.d->VO e n:=λp _ m v h1 h2 h3 h4=>by
  refine⟨v,!decide p,h2,h3,λhb=>?_,λhb=>⟨m,?_,h4⟩⟩
  .rw[h1,if_neg (by simpa using hb)]
  .rw[h1,if_pos (by simpa using hb)]
 have s0:∀z,(A7 ak1 (A7 ak0 (A7 aj9 (A7 aj8 u9)))) (v3 n.d e.d e.w)=Z (.rt z)->R3 [n.d,e.d]=Z z:=λz hz=>cx3 (by
  unfold ac9
  refine(A6 (by exists evD,ak2,De.w,v3,w;rfl)).trans ?_;exact hz)
 have s1:∀z,(A7 Y4 (A7 Y3 (A7 Y2 (A7 Y1 S1)))) [‹n.d›,‹e.d›,‹.str e.w›,‹e.new›]=Z (.rt z)->J2 [n.d,e.d]=Z z:=λz hz=>cx4 (by
  unfold R9;refine(A6 (by exists evD,Y6,w;rfl)).trans ?_
  refine(A6 (by exists evD,Y5,nw;rfl)).trans ?_;exact hz)
 cases e with
 | put=>cases hv
 | out=>cases hv
 | str nm o v =>
  cases n with
  | layer nm' m s sh lf tp mk w' h l kb=>exact fin (s=o) _ (fr s) (by rw[De.on]) (by rw[fQ,De.d];kernel_rfl) (aw6 s o) (by rw[fQ,fQ,De.d];kernel_rfl)
  | tone nm' r s sh=>exact fin (s=o) _ (fr s) (by rw[De.on]) (by rw[fQ,De.d];kernel_rfl) (aw6 s o) (by rw[fQ,fQ,De.d];kernel_rfl)
  | group nm' m s sh ns=>exact fin (s=o) _ (fr s) (by rw[De.on]) (by rw[fQ,De.d];kernel_rfl) (aw6 s o) (by rw[fQ,fQ,De.d];kernel_rfl)
 | shw nm o v =>
  cases n with
  | layer nm' m s sh lf tp mk w' h l kb=>exact fin (sh=o) _ (.bool sh) (by rw[De.on]) (by rw[fQ,De.d];kernel_rfl) (aw7 sh o) (by rw[fQ,fQ,De.d];kernel_rfl)
  | tone nm' r s sh=>exact fin (sh=o) _ (.bool sh) (by rw[De.on]) (by rw[fQ,De.d];kernel_rfl) (aw7 sh o) (by rw[fQ,fQ,De.d];kernel_rfl)
  | group nm' m s sh ns=>exact fin (sh=o) _ (.bool sh) (by rw[De.on]) (by rw[fQ,De.d];kernel_rfl) (aw7 sh o) (by rw[fQ,fQ,De.d];kernel_rfl)
 | man nm o v =>
  cases n with
  | tone=>cases hh
  | layer nm' m s sh lf tp mk w' h l kb=>exact fin (m.s=o.s) _ (.str m.s) (by rw[De.on]) (by rw[fQ,De.d];kernel_rfl) (br2 m o) (by rw[fQ,fQ,De.d];kernel_rfl)
  | group nm' m s sh ns=>exact fin (m.s=o.s) _ (.str m.s) (by rw[De.on]) (by rw[fQ,De.d];kernel_rfl) (br2 m o) (by rw[fQ,fQ,De.d];kernel_rfl)
 | plc nm a b c d =>
  cases n with
  | tone=>cases hh
  | group=>cases hh
  | layer nm' m s sh lf tp mk w' h l kb=>exact fin (lf=a/\tp=b) _ (.tuple [.int lf,.int tp]) (by rw[De.on]) (by rw[fQ,De.d];kernel_rfl) (bM2 lf tp a b) (by rw[fQ,fQ,De.d];kernel_rfl)
 | spt nm x y o v =>
  obtain⟨x1,x2⟩:=cO1 nm x y o v;cases n with
  | tone=>cases hh
  | group=>cases hh
  | layer nm' m s sh lf tp mk w' h l kb =>
   have hh:=of_decide_eq_true (show decide (x < w'/\y < h)=true from hh);rw[fS]at ok;have S:=ok.2.1;have sa:=bh3 S x y
   have aq:atQ w' h l x y=l.getD (y*w'+x) q0:=by
    unfold atQ;rw[if_pos ⟨by grind,by grind,by grind,by grind⟩];have:(y:Int)*w'+x=((y*w'+x:Nat):Int):=by rw[eE,bD]
    rw[this,bp]
   rw[aq]at sa;have nb:=bj0 (l.getD (y*w'+x) q0) o
   have nb:neD (l.getD (y*w'+x) q0).d o.d=Z (.bool (!decide (x < w'/\y < h/\neB (l.getD (y*w'+x) q0) o=false))):=by
    rw[nb]
    congr 2
    cases neB (l.getD (y*w'+x) q0) o<;>simp[hh]
   refine fin (x < w'/\y < h/\neB (l.getD (y*w'+x) q0) o=false) _ (l.getD (y*w'+x) q0).d (by rw[De.on]) (s0 _<|(sk rfl cr2).trans ((sk rfl cr3).trans<|(sk rfl bT4).trans ((sk rfl cl5).trans (by exists evD,u9,De.w,v3,aU2,x1,x2,sa)))) nb<|s1 _ ((sk rfl cr2).trans<|(sk rfl cr3).trans ((sk rfl bT4).trans<|(sk rfl cl5).trans ?_))
   have bw:y*w'+x < l.length:=by
    rw[S.len];have:(y+1)*w'<=h*w':=cD _ (by grind);rw[dq]at this;rw[cz w' h];grind
   have nu:=aN7 (w:=w') (h:=h) (x:=x) (y:=y) (.tuple<|l.map fP) S.w8 S.h8 ⟨by grind,by grind,by grind,by grind⟩;have ei:(y:Int)*w'+x=((y*w'+x:Nat):Int):=by rw[eE,bD]
   rw[ei]at nu;have wh:w'*h<=64:=bQ S.w8 S.h8;have hl:(l.map fP).length=w'*h:=by rw[ag,S.len]
   have bl:y*w'+x < (l.map fP).length:=by rw[ag];exact bw
   have c3:=(aM2<|bT bl).1;have c4:=(aM2<|Nat.succ_le_of_lt bl).2;have i1:((y*w'+x:Nat):Int)+1=((y*w'+x+1:Nat):Int):=by grind
   have k1:=aC9 (a:=(l.map fP).take<|y*w'+x) (b:=[v.d]) (by rw[aA,aN];grind);have k2:=aC9 (a:=(l.map fP).take (y*w'+x)++[v.d]) (b:=(l.map fP).drop<|y*w'+x+1) (by rw[ae,aA,aN,aY];grind);have st:(l.map fP).take (y*w'+x)++[v.d]++(l.map fP).drop (y*w'+x+1)=(l.set (y*w'+x) v).map fP:=by rw[cP,if_pos bw,bj,cH,xmc,cG,av];rfl
   rw[st]at k2
   have sp:ah3 [shD w' h l,.int x,.int y,v.d]=Z (shD w' h<|l.set (y*w'+x) v):=by
    refine B2 (ρ:=[‹shD w' h l›,‹.int x›,‹.int y›,‹v.d›,O]) rfl ?_
    exists evD,aB4,shD,D6,nu,i1,c3,c4,k1,k2
   have c5:R1 (yL nm' m s sh lf tp mk w' h l) O (Z 8)=[.str "layer", nm',.str m.s,fr s,.bool sh,.int lf,.int tp,mkD mk]:=rfl;have k3:=aC9 (a:=[.str "layer", nm',.str m.s,fr s,.bool sh,.int lf,.int tp,mkD mk]) (b:=[shD w' h (l.set (y*w'+x) v)]) (by show 9<=1000;decide)
   have ws:ad2 [fQ (.layer nm' m s sh lf tp mk w' h l kb),shD w' h (l.set (y*w'+x) v)]=Z (fQ<|.layer nm' m s sh lf tp mk w' h (l.set (y*w'+x) v) 32):=by
    rw[fQ,fQ];refine rX2 ?_;simp only[au2,D6,B1,A5,B4,A0,A2,A1,C7,B6,dC,aI0,xbs,xms,xg0,xg1,c5,k3];rfl
   exists evD,S1,De.w,De.new,aU2,x1,x2,sp,ws
end Sh
open Sh.De renaming d→gm,on→gp
namespace Sh
open PySem G L2
def cM6(l:List Nd)(dd:Nat):(l.all λn=>decide (n.dp<=dd))=decide (fW l<=dd):=by
 rw[bX,aK,decide_eq_true_iff];constructor
 .intro h;exact aV3 l λn hn=>of_decide_eq_true<|h n hn
 .intro h n hn;exact decide_eq_true<|aO (J0 hn) h
def cs9{l:List Nd}{f dd:Nat}(hl:l.length<=1000)(H:∀n∈l,P3 f [n.d,.int dd]=Z (.bool<|decide (n.dp<=dd))):R7 (f+1) [↥l,.int dd]=Z (.bool<|decide (fW l<=dd)):=by
 refine B2 (g:=X5<|A4 f) (ρ:=[‹↥l›,‹.int dd›]) rfl ?_
 have al:D1 1 [1] (K1<|A1 0) (B9 0) F6 (A3 (A4 f 1)<|A0 (A1 0) (A0 (A1 1) A2)) [‹↥l›,‹.int dd›]=Z (l.map λn=>.bool<|decide (n.dp<=dd)):=by
  refine V2 (l:=l) (h:=fQ) (r:=[‹.int dd›]) rfl (by rw[D8];rfl) hl λx hx=>?_
  exact H x hx
 have aa:=at9 (λn:Nd=>decide (n.dp<=dd)) l;rw[cM6]at aa
 exists evD,X5,al,aa
def cW5:∀(dd:Nat) (n:Nd) (f:Nat),3*dd+2<=f->n.Ok->n.off->(∀d∈n.nms,Nm d)->P3 f [n.d,.int dd]=Z (.bool<|decide (n.dp<=dd)):=by
 intro dd
 induction dd with
 | zero =>
  intro n f hf o of hn;obtain⟨f,rfl⟩:∃g,f=g+2:=⟨f - 2,by grind⟩;cases n with
  | group nm m s sh ns =>
   rw[fV,decide_eq_false (by grind)];refine B2 (g:=K3<|A4 (f+1)) (ρ:=[‹fQ (.group nm m s sh ns)›,‹.int 0›]) rfl<|aD9 _ (f+1) _ o (hn _<|M3 _) ?_
   have eg:A4 (f+1) 0 [fQ (.group nm m s sh ns),.int 0]=Z (.bool false):=by
    rw[fQ];refine B2 (g:=E8<|A4 f) (ρ:=[‹.tuple [.str "group", nm,.str m.s,fr s,.bool sh,↥ns]›,‹.int 0›]) rfl ?_;have e1:∀a b c d e f:D,O3 [.tuple [a,b,c,d,e,f]]=Z c:=λ_ _ _ _ _ _=>rfl
    have e3:∀a b c d e f:D,((([a,b,c,d,e,f]:List D).length:Nat):Int)=6:=λ_ _ _ _ _ _=>rfl
    exists evD,E8,e1,e3,beq_self_eq_true,aT5
   have e2:=D3 (.group nm m s sh ns);have eg:A4 (f+1) 0 [fQ (.group nm m s sh ns),.int 0]=Z (.bool false):=eg
   exists evD,aU7,e2,eg
  | _=>rw[fV];exact bS2 0 _ (f+2) 0 (by rw[fV];exact aj _) (aj _) (by grind) o of hn
 | succ dd ih =>
  intro n f hf o of hn;obtain⟨f,rfl⟩:∃g,f=g+3:=⟨f - 3,by grind⟩;cases n with
  | group nm m s sh ns =>
   refine B2 (g:=K3<|A4 (f+2)) (ρ:=[‹fQ (.group nm m s sh ns)›,‹.int ((dd+1:Nat):Int)›]) rfl (aD9 _ (f+2) _ o (hn _<|M3 _) ?_);rw[fS]at o;rw[Nd.off]at of;have oks:=(R8 ns).mp o.2;have ofs:=(ar3 ns).mp of.2;have ea:R7 (f+1) [↥ns,.int dd]=Z (.bool<|decide (fW ns<=dd)):=cs9 of.1 λn' h'=>ih n' f (by grind) (oks n' h') (ofs n' h') λd hd'=>hn d (by rw[gb];exact xmm _<|K8 h' hd')
   have eg:A4 (f+2) 0 [fQ (.group nm m s sh ns),.int ((dd+1:Nat):Int)]=Z (.bool<|decide (fW ns<=dd)):=by
    rw[fQ];refine B2 (g:=E8<|A4 (f+1)) (ρ:=[‹.tuple [.str "group", nm,.str m.s,fr s,.bool sh,↥ns]›,‹.int ((dd+1:Nat):Int)›]) rfl ?_;have e1:∀a b c d e f:D,O3 [.tuple [a,b,c,d,e,f]]=Z c:=λ_ _ _ _ _ _=>rfl
    have e2:∀a b c d e f:D,E6 [.tuple [a,b,c,d,e,f]]=Z f:=λ_ _ _ _ _ _=>rfl
    have e3:∀a b c d e f:D,((([a,b,c,d,e,f]:List D).length:Nat):Int)=6:=λ_ _ _ _ _ _=>rfl
    have e4:(((dd+1:Nat):Int)==0)=false:=by simp;grind
    have e5:((dd+1:Nat):Int) - 1=(dd:Int):=by grind
    have ea':A4 (f+1) 2 [↥ns,.int dd]=Z (.bool<|decide (fW ns<=dd)):=ea
    exists evD,E8,e1,e2,e3,e4,e5,beq_self_eq_true,aT5,ea'
   have e2:=D3 (.group nm m s sh ns);have ed:decide (fV (.group nm m s sh ns)<=dd+1)=decide (fW ns<=dd):=by rw[fV];exact decide_eq_decide.mpr ⟨λh=>by grind,λh=>by grind⟩
   rw[ed]
   exists evD,aU7,e2,eg
  | _=>rw[fV,decide_eq_true (aQ _)];exact bS2 0 _ (f+3) (dd+1) (by rw[fV];exact aj _) (aQ _) (by grind) o of hn
theorem cr6:∀(l a:List Str),(l.foldl ao1 a).length<=a.length+l.length/\((l.foldl ao1 a).length=a.length+l.length->a.Nodup->(a++l).Nodup)
 | [],a=>⟨aj _,λ_ h=>by simpa using h⟩
 | x::l,a=>by
  rw[bA,aD];obtain⟨h1,h2⟩:=cr6 l (ao1 a x);have hl:=bU9 a x;cases q:a.any (· == x) with
  | true =>
   rw[q,if_pos rfl]at hl;exact⟨by grind,λe=>by grind⟩
  | false =>
   rw[q,if_neg (by simp)]at hl;have ed:ao1 a x=a++[x]:=by unfold ao1;rw[q];rfl
   refine⟨by grind,λe na=>?_⟩
   have:=h2 (by grind) (by
    rw[ed,aJ];refine⟨na,by simp,λy hy z hz e=>?_⟩;rw[aw.mp hz]at e;rw[cy]at q
    exact q y hy (by simp[e]))
   rw[ed,av]at this;exact this
open Classical in
def bG8{l:List Nd}(hd:fW l<=3)(hw:(gc l).length<=1000)(hn:∀d∈gc l,Nm d):O7 [↥l]=Z (.bool<|decide (gc l).Nodup):=by
 by_cases nd:(gc l).Nodup
 .rw[decide_eq_true nd];exact aY3 hd hw hn nd
 .rw[decide_eq_false nd];have e:=names_among 3 l 12 hd (by decide) hw;obtain⟨ys,e1,e2⟩:=ah7 _ hn;have ly:(gc l).length=ys.length:=by rw[e1,ag]
  have l4:ys.length<=4000:=by grind
  have es:∀q:Option B,at3 (A8 1) [q,‹.list (gc l)›]=Z (.int (ddS ys).length):=λq=>by
   show((ay9<|gc l).bind λys=>if ys.length<=4000 then Z (fE (ddS ys).length) else O)=_;rw[e2,xbs,if_pos l4]
  have lt:(((ddS ys).length:Int)==(ys.length:Int))=false:=by
   obtain⟨h1,h2⟩:=cr6 ys []
   have:¬(ddS ys).length=ys.length:=λz=>nd (by
    rw[e1];have:=h2 (by show(ddS ys).length=0+ys.length;grind) eJ;rw[xna]at this
    exact cU.map _ (λa b h e=>h (by cases e;rfl)) this)
   simp;grind
  refine B2 (ρ:=[‹↥l›,O]) rfl ?_
  exists evD,T1,e,es,ly,lt
structure Pc (w h:Nat) (l:List Nd):Prop where
 w1:1<=w
 w8:w<=8
 h1:1<=h
 h8:h<=8
 ok:fT l
 off:Nd.offs l
 nm:∀d∈gc l,Nm d
 nl:(gc l).length<=1000
open Classical in
def bx4{w h:Nat}{l:List Nd}(g:Pc w h l):S0 [B5 w h l]=Z (.bool<|decide (fW l<=3)&&decide (gc l).Nodup):=by
 have e1:=bh4 l g.w1 g.w8 g.h1 g.h8;have oks:=(R8 l).mp g.ok;have ofs:=(ar3 l).mp g.off;have hl:=(thins_of l g.nl).2;have nl:=g.nl;have e2:R7 12 [↥l,.int 3]=Z (.bool<|decide (fW l<=3)):=cs9 (f:=11) (dd:=3) (by grind) λn hn'=>cW5 3 n 11 (by decide) (oks n hn') (ofs n hn') λd hd'=>g.nm d<|K8 hn' hd'
 refine rX1 ?_;unfold B5 at e1 ⊢;by_cases hd:fW l<=3
 .have e3:=bG8 hd g.nl g.nm;rw[decide_eq_true hd]at e2 ⊢
  exists evD,ad0,e1,e2,e3,Bool.true_and
 .rw[decide_eq_false hd]at e2 ⊢
  exists evD,ad0,e1,e2,Bool.false_and
end Sh
namespace Sh
open PySem G L2
structure Gp (N:Nat) (l:List Nd):Prop where
 ok:fT l
 nr:fZ l
 dp:fW l<=3
 nm:∀d∈gc l,Nm d
 nd:(gc l).Nodup
 len:(gc l).length<=N
def Gp.wl(g:Gp N l)(hN:N<=400):Wl l:=⟨g.dp,λd hd=>N0<|g.nm d hd,g.nd,by have:=g.len;omega⟩
def Gp.pl(g:Gp N l)(hN:N<=400):Pl l:=⟨g.wl hN,g.ok,by have:=g.len;omega⟩
def De.gv:De->Prop
 | .str _ _ n=>Sr 4 n
 | .plc _ _ _ c d=>(-2<=c/\c<=2)/\-2<=d/\d<=2
 | .spt _ _ _ _ n=>n.ok 8
 | .put _ _ x=>x.Ok/\x.near/\x.nms.Nodup
 | _=>True
structure Dg (e:De):Prop where
 de:Dee e
 gv:e.gv
 nd:∀pa k x,e=.put pa k x\/e=.out pa k x->(∀d∈x.nms,Nm d)/\x.nms.length<=100
def cp9{e:De}(g:e.gv){n n':Nd}(h:e.on n=Z n')(ok:n.Ok)(nr:n.near):n'.Ok/\n'.near/\n'.nms=n.nms/\n'.dp=n.dp/\n'.nm=n.nm:=by
  cases e with
  | plc nm a b c d =>
    cases n with
    | layer nm' m s sh lf tp mk w h' l kb =>
      rw[gp]at h;split at h
      . cases h;rw[fS]at ok ⊢;rw[fY]at nr ⊢;exact⟨ok,⟨g.1.1,g.1.2,g.2.1,g.2.2,nr.2.2.2.2⟩,by rw[gb,gb],by rw[fV,fV],by rw[fX,fX]⟩
      . cases h
    | tone=>cases h
    | group=>cases h
  | spt nm x y o v =>
    cases n with
    | layer nm' m s sh lf tp mk w h' l kb =>
      rw[gp]at h;split at h
      . cases h
        rw[fS]at ok ⊢;rw[fY]at nr ⊢
        have o8:∀q∈l.set (y*w+x) v,q.ok 8:=λq hq=>by
          rcases List.mem_or_eq_of_mem_set hq with z|z
          . exact nr.2.2.2.2.2.2.2 q z
          . rw[z];exact g
        obtain⟨k1,S,k3,k4,k5⟩:=ok;refine⟨⟨k1,⟨S.w1,S.w8,S.h1,S.h8,by rw[dX,S.len],λq hq=>Spot.mono (o8 q hq)<|by decide⟩,λq hq=>cr5<|o8 q hq,k4,by decide⟩,⟨nr.1,nr.2.1,nr.2.2.1,nr.2.2.2.1,by decide,nr.2.2.2.2.2.1,nr.2.2.2.2.2.2.1,o8⟩,by rw[gb,gb],by rw[fV,fV],by rw[fX,fX]⟩
      . cases h
    | tone=>cases h
    | group=>cases h
  | _ =>
    cases n<;>first
      | (cases h;done)
      | (rw[gp]at h;split at h
         . cases h;rw[fS]at ok ⊢;rw[fY]at nr ⊢;exact⟨by first|exact ok|exact⟨g,ok.2⟩|exact g,by first|exact nr|trivial,by rw[gb,gb],by rw[fV,fV],by rw[fX,fX]⟩
         . cases h)
def x8(n:Nd)(l:List Nd):fT (n::l)↔n.Ok/\fT l:=by rw[fT]
def P5(a b:List Nd):fZ (a++b)↔fZ a/\fZ b:=by
 rw[T3,T3,T3];constructor
 .exact λh=>⟨λn hn=>h n<|ar _ hn,λn hn=>h n<|au _ hn⟩
 .intro h n hn;rcases az.mp hn with q|q
  .exact h.1 n q
  .exact h.2 n q
def Rp.oks(r:Rp o o' l l')(h:fT o->fT o'):fT l->fT l':=by
 induction r with
 | top=>exact h
 | deep _ ih =>
  intro k;rw[r6,x8,fS]at k ⊢;exact⟨k.1,⟨k.2.1.1,ih k.2.1.2⟩,k.2.2⟩
def Rp.nears(r:Rp o o' l l')(h:fZ o->fZ o'):fZ l->fZ l':=by
 induction r with
 | top=>exact h
 | deep _ ih =>
  intro k;rw[P5,fZ,fY]at k ⊢;exact⟨k.1,ih k.2.1,k.2.2⟩
def Rp.oksO(r:Rp o o' l l'):fT l->fT o:=by
 induction r with
 | top=>exact id
 | deep _ ih=>intro k;rw[r6,x8,fS]at k;exact ih k.2.1.2
def Rp.nearsO(r:Rp o o' l l'):fZ l->fZ o:=by
 induction r with
 | top=>exact id
 | deep _ ih=>intro k;rw[P5,fZ,fY]at k;exact ih k.2.1
def Rp.symm(r:Rp o o' l l'):Rp o' o l' l:=by
 induction r with
 | top=>exact .top
 | deep _ ih=>exact .deep ih
def Rp.perm(r:Rp o o' l l')(h:(gc o').Perm (X++gc o)):(gc l').Perm (X++gc l):=by
 induction r with
 | top=>exact h
 | @deep c e nm m s sh ns ns' _ ih =>
  rw[C0,C0,gc,gc,gb,gb];have h1:(nm::gc ns').Perm (X++nm::gc ns):=(List.Perm.cons nm ih).trans List.perm_middle.symm;have h2:(nm::gc ns'++gc e).Perm (X++(nm::gc ns++gc e)):=by rw[← av];exact h1.append_right _
  refine(List.Perm.append_left _ h2).trans ?_;exact bI ..
def Rp.same(r:Rp o o' l l')(h:gc o'=gc o):gc l'=gc l:=by
 induction r with
 | top=>exact h
 | deep _ ih=>rw[C0,C0,gc,gc,gb,gb,ih]
def Rp.dpsEq(r:Rp o o' l l')(h:fW o'=fW o):fW l'=fW l:=by
 induction r with
 | top=>exact h
 | deep _ ih=>rw[J6,J6,fW,fW,fV,fV,ih]
def Rp.dpsLe(r:Rp o o' l l'):fW l'<=fW l+fW o':=by
 induction r with
 | top=>omega
 | deep _ ih=>rw[J6,J6,fW,fW,fV,fV];omega
def cW7{N:Nat}{l:List Nd}(g:Gp N l){e:De}(ge:e.gv){nm:D}{n n':Nd}(hf:fnd l nm=Z n)(ho:e.on n=Z n'):Gp N (gi nm [n'] l):=by
 obtain⟨a,b,St,R⟩:=aw8 g.nd hf;have r:=R n';have h1:=r.oksO g.ok;have h2:=r.nearsO g.nr;rw[r6,x8]at h1;rw[P5,fZ]at h2;obtain⟨q1,q2,q3,q4,q5⟩:=cp9 ge ho h1.2.1 h2.2.1;have e1:gc (a++[n']++b)=gc (a++n::b):=by rw[av,aZ,C0,C0,gc,gc,q3]
 have e2:fW (a++[n']++b)=fW (a++n::b):=by rw[av,aZ,J6,J6,fW,fW,q4]
 have e3:=r.same e1;refine⟨r.oks (λ_=>?_) g.ok,r.nears (λ_=>?_) g.nr,by rw[r.dpsEq e2];exact g.dp,by rw[e3];exact g.nm,by rw[e3];exact g.nd,by rw[e3];exact g.len⟩
 .rw[av,aZ,r6,x8];exact⟨h1.1,q1,h1.2.2⟩
 .rw[av,aZ,P5,fZ];exact⟨h2.1,q2,h2.2.2⟩
def cq3:Nd->Option (List Nd)
 | .group _ _ _ _ ns=>Z ns
 | _=>O
def inn(ns':List Nd):Nd->Nd
 | .group nm m s sh _=>.group nm m s sh ns'
 | n=>n
def kd(l:List Nd)(pa:D):Option (List Nd):=if same pa (.str "")=true then Z l else(fnd l pa).bind cq3
def wk(l:List Nd)(pa:D)(ns':List Nd):List Nd:=if same pa (.str "")=true then ns' else match fnd l pa with
 | some n=>gi pa [inn ns' n] l
 | none=>l
def av8(e:De)(l:List Nd):e.pre l=(kd l e.nm).bind λns=>(e.ls ns).map (wk l e.nm):=by
 unfold De.pre kd;cases s0:same e.nm (.str "") with
 | true =>
  rw[if_pos rfl,if_pos rfl,xbs];have:wk l e.nm=id:=by funext ns';unfold wk;rw[s0,if_pos rfl];rfl
  rw[this,Option.map_id];rfl
 | false =>
  rw[if_neg (by simp),if_neg (by simp)];cases q:fnd l e.nm with
  | none=>rfl
  | some n =>
   rw[xbs,xbs];cases n with
   | layer=>rfl
   | tone=>rfl
   | group nm m s sh ns =>
    rw[grp,cq3,xbs,Option.map_map]
    congr 1
    funext ns'
    unfold wk;rw[s0,if_neg (by simp),q];rfl
def Rp.into{a b l l':List Nd}{nm:D}{m:Man}{s:Rat}{sh:Bool}{ns ns':List Nd}(r:Rp (a ++ .group nm m s sh ns::b) (a++[.group nm m s sh ns']++b) l l'):Rp ns ns' l l':=by
 rw[av,aZ]at r;generalize ho:a++Nd.group nm m s sh ns::b=o at r;generalize ho':a++Nd.group nm m s sh ns'::b=o' at r
 induction r with
 | top=>subst ho ho';exact .deep .top
 | deep _ ih=>exact .deep ih
def aA5(nd:(gc l).Nodup)(h:kd l pa=Z ns)(ns':List Nd):Rp ns ns' l (wk l pa ns'):=by
 unfold kd at h;unfold wk;cases s0:same pa (.str "") with
 | true=>rw[s0,if_pos rfl]at h;cases h;rw[if_pos rfl];exact .top
 | false =>
  rw[s0,if_neg (by simp)]at h;rw[if_neg (by simp)];obtain⟨n,q,hn⟩:=xbo h;rw[q];cases n with
  | layer=>cases hn
  | tone=>cases hn
  | group nm m s sh ms =>
   cases hn;obtain⟨a,b,St,R⟩:=aw8 nd q;exact(R<|.group nm m s sh ns').into
def cU5(hp:Nm pa\/pa=.str ""):aM6 pa:=by
 rcases hp with h|h
 .exact(N0 h).l
 .rw[h];exact bj3
def cq0(hp:Nm pa\/pa=.str "")(s0:same pa (.str "")=false):Nm pa:=by
 rcases hp with h|h
 .exact h
 .rw[h,M4]at s0;cases s0
def cA6(hp:Nm pa\/pa=.str ""):(tB2 eqD (A1 1)<|dC (.str "")) (‹a›::‹pa›::r)=Z (same pa<|.str ""):=by
 have q:=cr4 (cU5 hp) bj3
 exists evD,q
def ai1(g:Wl l)(hp:Nm pa\/pa=.str "")(hk:kd l pa=Z ns):G5 [B5 w h l,pa]=Z ↥ns:=by
 refine B2 (ρ:=[‹B5 w h l›,‹pa›,O]) rfl ?_;have t0:=cA6 (a:=B5 w h l) (r:=[O]) hp;unfold kd at hk;cases s0:same pa (.str "") with
 | true =>
  rw[s0]at t0 hk;rw[if_pos rfl]at hk;cases hk;refine G2<|(P6 t0).trans ?_
  exists evD,B5
 | false =>
  rw[s0]at t0 hk;rw[if_neg (by simp)]at hk;obtain⟨n,q,hn⟩:=xbo hk;have f1:=ah6 (w:=w) (h:=h) g (cq0 hp s0) q;have ig:=D3 n;cases n with
  | layer=>cases hn
  | tone=>cases hn
  | group nm m s sh ms =>
   cases hn;refine(A6<|(D7 t0).trans rfl).trans ((A6 (by exists evD,f1;rfl)).trans<|(A6 (by exists evD,ig;rfl)).trans ?_)
   exists evD,as3
def am7(g:Wl l)(hp:Nm pa\/pa=.str "")(hk:kd l pa=Z ns)(ns':List Nd):E7 [B5 w h l,pa,↥ns']=Z (B5 w h<|wk l pa ns'):=by
 refine B2 (ρ:=[‹B5 w h l›,‹pa›,‹↥ns'›]) rfl ?_;have t0:=cA6 (a:=B5 w h l) (r:=[‹↥ns'›]) hp;unfold kd at hk;unfold wk;cases s0:same pa (.str "") with
 | true =>
  rw[s0]at t0;rw[if_pos rfl];refine G2<|(P6 t0).trans ?_
  exists evD,B5
 | false =>
  rw[s0]at t0 hk;rw[if_neg (by simp)]at hk ⊢;obtain⟨n,q,hn⟩:=xbo hk;rw[q];obtain⟨h1,h2⟩:=N5 q;obtain⟨a,b,St⟩:=V5 g.nd h1;cases n with
  | layer=>cases hn
  | tone=>cases hn
  | group nm m s sh ms =>
   cases hn;have f1:=bM1 (w:=w) (h:=h) g St;have f2:=aY0 (w:=w) (h:=h) g St (.group nm m s sh ns');rw[h2]at f1 f2;have wi:=aE8 (nm:=nm) (m:=m) (s:=s) (sh:=sh) (ns:=ns) (ns':=ns');refine(A6<|(D7 t0).trans rfl).trans ?_
   exists evD,f1,wi,f2,inn
def nmV(d:Dg e)(hv:e.isV=true):Nm e.nm:=by
 rcases d.de.nmo with h|⟨h,_⟩
 .exact h
 .rw[hv]at h;cases h
def cK6(g:Gp N l)(hN:N<=400)(d:Dg e)(hv:e.isV=true)(hk:dn l e=Z l'):M6 [B5 w h l,e.d]=Z (B5 w h l'):=by
 have W:=g.wl hN;have tg:=Z5 e;unfold dn at hk;rw[if_pos hv]at hk;obtain⟨n,q,hk⟩:=xbo hk;have f1:=ah6 (w:=w) (h:=h) W (nmV d hv) q;obtain⟨n1,n2⟩:=N5 q;have ok:=(ap1 3 l g.dp g.ok n n1).1;have hh:=bS4 e hv n;cases qh:e.has n with
 | false=>rw[cJ2 hv qh]at hk;cases hk
 | true =>
  rw[qh]at hh;obtain⟨v,b,v1,v2,v3,v4⟩:=bG7 e hv n ok d.de.sz qh;have ol:=bL4 e;cases b with
  | true=>rw[v3 rfl]at hk;cases hk
  | false =>
   obtain⟨n',o1,o2⟩:=v4 rfl;rw[o1]at hk;cases hk;obtain⟨a,b,St⟩:=V5 g.nd n1;have k1:=aY0 (w:=w) (h:=h) W St n';rw[n2]at k1;refine B2 (ρ:=[‹B5 w h l›,‹e.d›,O,O]) rfl ?_;refine(A6 (by exists evD,tg;rfl)).trans ((A6 (by exists evD,f1;rfl)).trans<|(A6 (by exists evD,hh;rfl)).trans ((A6 (by exists evD,v1,ol,v2;rfl)).trans ?_))
   exists evD,o2,k1
def Rp.sub(r:Rp o o' l l'):(∀d∈gc o,d∈gc l)/\(gc o).length<=(gc l).length/\fW o<=fW l:=by
 induction r with
 | top=>exact⟨λ_ h=>h,aj _,aj _⟩
 | deep _ ih =>
  rw[C0,gc,gb,J6,fW,fV];refine⟨λd hd=>au _<|ar _ (xmm _<|ih.1 d hd),?_,by grind⟩;rw[ae,ae,aD];grind
def Z7(g:Gp N l)(hN:N<=400)(h:kd l pa=Z ns):ns.length<=400/\(∀d∈gc ns,d∈gc l)/\fW ns<=3/\fT ns/\fZ ns:=by
 have r:=aA5 g.nd h ns;obtain⟨s1,s2,s3⟩:=r.sub;have:=g.len;have t:=thins_of ns (by grind);have:=g.dp;exact⟨by grind,s1,by grind,r.oksO g.ok,r.nearsO g.nr⟩
def av9(h:ns[k]? = Z y):ns=ns.take k++y::ns.drop (k+1):=by
 obtain⟨hk,e⟩:=ak.mp h;rw[← e,List.getElem_cons_drop,bP]
def av7(g:Gp N l)(hN:N<=400)(d:Dg (.put pa k x))(hk:kd l pa=Z ns)(hl:k<=ns.length):
  fT (wk l pa (ns.take k++x::ns.drop k))/\fZ (wk l pa (ns.take k++x::ns.drop k))/\(gc<|wk l pa (ns.take k++x::ns.drop k)).Perm (x.nms++gc l)/\fW (wk l pa (ns.take k++x::ns.drop k))<=7:=by
 have r:=aA5 g.nd hk (ns.take k++x::ns.drop k);obtain⟨f1,f2,f3,f4,f5⟩:=Z7 g hN hk;obtain⟨o1,o2,o3⟩:=d.gv;have e:ns=ns.take k++ns.drop k:=(bP k ns).symm;have h4:fT (ns.take k)/\fT (ns.drop k):=(r6 _ _).mp (by rw[← e];exact f4);have h5:fZ (ns.take k)/\fZ (ns.drop k):=(P5 _ _).mp (by rw[← e];exact f5);have h3:fW (ns.take k)<=3/\fW (ns.drop k)<=3:=by rw[e,J6]at f3;grind
 refine⟨r.oks (λ_=>?_) g.ok,r.nears (λ_=>?_) g.nr,r.perm ?_,?_⟩
 .rw[r6,x8];exact⟨h4.1,o1,h4.2⟩
 .rw[P5,fZ];exact⟨h5.1,o2,h5.2⟩
 .conv=>rhs;rw[e]
  rw[C0,C0,gc];exact bI ..
 .have:=r.dpsLe;have:=(d.de.nd pa k x<|.inl rfl).2.1;have:=g.dp;rw[J6,fW]at *
  grind
def af9{l:List Nd}{x:Nd}(n1:x.nms.Nodup)(n2:(gc l).Nodup):(x.nms++gc l).Nodup↔(x.nms.any λd=>(gc l).any λc=>same c d)=false:=by
 rw[aJ,cy];constructor
 .rintro⟨_,_,h⟩ d hd z
  obtain⟨c,hc,e⟩:=bv.mp z;exact h d hd c hc (af5.mp e).symm
 .intro h;refine⟨n1,n2,λa ha b hb e=>h a ha<|bv.mpr ⟨b,hb,af5.mpr e.symm⟩⟩
def cJ3(g:Gp N l)(hN:N<=400)(d:Dg (.put pa k x))(h:dn l (.put pa k x)=Z l'):Gp (N+x.nms.length) l':=by
 unfold dn at h;rw[if_neg (by intro z;cases z)]at h;split at h
 .cases h
 .rename_i c;obtain⟨l1,h1,h2⟩:=xbo h;rw[av8]at h1;obtain⟨ns,k1,k2⟩:=xbo h1;obtain⟨ns',k3,k4⟩:=xmo k2;rw[De.ls]at k3;split at k3
  .rename_i hl;cases k3;split at h2
   .rename_i dp;cases h2;obtain⟨f1,f2,f3,f4⟩:=av7 g hN d k1 hl;have k4:wk l pa (ns.take k++x::ns.drop k)=l':=k4;rw[k4]at f1 f2 f3
    have c:(x.nms.any λd=>(gc l).any λc=>same c d)=false:=by
     cases q:(x.nms.any λd=>(gc l).any λc=>same c d) with
     | false=>rfl
     | true=>exact absurd q c
    refine⟨f1,f2,dp,λy hy=>?_,f3.symm.nodup<|(af9 d.gv.2.2 g.nd).mpr c,?_⟩
    .rcases az.mp (f3.mem_iff.mp hy) with z|z
     .exact(d.nd pa k x<|.inl rfl).1 y z
     .exact g.nm y z
    .have:=f3.length_eq;rw[ae]at this;have:=g.len
     grind
   .cases h2
  .cases k3
def cJ4(g:Gp N l)(hN:N<=400)(h:dn l (.out pa k x)=Z l'):Gp N l':=by
 unfold dn at h;rw[if_neg (by intro z;cases z),if_neg (by simp[X3])]at h;obtain⟨l1,h1,h2⟩:=xbo h;rw[av8]at h1;obtain⟨ns,k1,k2⟩:=xbo h1;obtain⟨ns',k3,k4⟩:=xmo k2;rw[De.ls]at k3;split at k3
 .rename_i hy;cases k3;split at h2
  .rename_i dp;cases h2;have k4:wk l pa (ns.take k++ns.drop (k+1))=l':=k4
   obtain⟨y,ey,_⟩:∃y,ns[k]? = Z y/\True:=by
    cases q:ns[k]? with
    | none=>rw[q]at hy;cases hy
    | some y=>exact⟨y,rfl,trivial⟩
   have es:=av9 ey;have r:=aA5 g.nd (show kd l pa=Z ns from k1) (ns.take k++ns.drop (k+1));rw[k4]at r;obtain⟨f1,f2,f3,f4,f5⟩:=Z7 g hN k1;rw[es,r6,x8]at f4;rw[es,P5,fZ]at f5
   have P:=r.symm.perm (X:=y.nms) (by
    conv=>lhs;rw[es]
    rw[C0,C0,gc]
    exact bI ..)
   have nd:=P.nodup g.nd;refine⟨r.oks (λ_=>?_) g.ok,r.nears (λ_=>?_) g.nr,dp,λz hz=>g.nm z<|P.mem_iff.mpr (au _ hz),(aJ.mp nd).2.1,?_⟩
   .rw[r6];exact⟨f4.1,f4.2.2⟩
   .rw[P5];exact⟨f5.1,f5.2.2⟩
   .have:=P.length_eq;rw[ae]at this;have:=g.len
    grind
  .cases h2
 .cases k3
def De.pn:De->Nat
 | .put _ _ x=>x.nms.length
 | _=>0
def bU6(g:Gp N l)(hN:N<=400)(d:Dg e)(h:dn l e=Z l'):Gp (N+e.pn) l':=by
 have up:∀{M:Nat},Gp M l'->M<=N+e.pn->Gp (N+e.pn) l':=λq hm=>⟨q.ok,q.nr,q.dp,q.nm,q.nd,aO q.len hm⟩
 cases hv:e.isV with
 | true =>
  unfold dn at h;rw[if_pos hv]at h;obtain⟨n,h1,h2⟩:=xbo h;obtain⟨n',h3,h4⟩:=xmo h2;rw[← h4];rw[← h4]at up;exact up (cW7 g d.gv h1 h3) (by grind)
 | false =>
  cases e with
  | put pa k x=>exact up (cJ3 g hN d h)<|aj _
  | out pa k x=>exact up (cJ4 g hN h) (by grind)
  | _=>cases hv
def De.isO:De->Bool
 | .out ..=>true
 | _=>false
def aO8(e:De):m7 [e.d]=Z (.bool e.isP)/\m8 [e.d]=Z (.bool e.isO):=by cases e<;>(rw[gm];exact⟨by kernel_rfl,by kernel_rfl⟩)
abbrev s6(w h:Nat)(l:List Nd)(e:De)(a b c d:Option B):Rho:=[‹B5 w h l›,‹e.d›,a,b,c,d]
structure Sz (w h:Nat):Prop where
 w1:1<=w
 w8:w<=8
 h1:1<=h
 h8:h<=8
def bq7(d:Dg e):Nm e.nm\/e.nm=.str "" := by
 rcases d.de.nmo with h|⟨_,h⟩
 .exact .inl h
 .exact .inr h
def bU3:dn l (.put pa k x)=if X3 l (.put pa k x)=true then O else((kd l pa).bind λns=>((De.put pa k x).ls ns).map<|wk l pa).bind λl'=>if fW l'<=3 then Z l' else O:=by
 unfold dn;rw[if_neg (by intro z;cases z),av8];rfl
def bU5:dn l (.out pa k x)=((kd l pa).bind λns=>((De.out pa k x).ls ns).map<|wk l pa).bind λl'=>if fW l'<=3 then Z l' else O:=by
 unfold dn;rw[if_neg (by intro z;cases z),if_neg (by simp[X3]),av8];rfl
def cp2(S:Sz w h)(g:Gp N l)(hN:N<=400)(d:Dg (.put pa k x))(q:kd l pa=Z ns)(hl:k<=ns.length):
  S0 [B5 w h (wk l pa (ns.take k++x::ns.drop k))]=Z (.bool (dn l<|.put pa k x).isSome)/\∀l',dn l (.put pa k x)=Z l'->l'=wk l pa (ns.take k++x::ns.drop k):=by
 obtain⟨u1,u2,u3,u4⟩:=av7 g hN d q hl;have dnE:dn l (.put pa k x)=if X3 l (.put pa k x)=true then O else if fW (wk l pa (ns.take k++x::ns.drop k))<=3 then Z (wk l pa (ns.take k++x::ns.drop k)) else O:=by rw[bU3,q,xbs,De.ls,if_pos hl,xms,xbs]
 generalize wk l pa (ns.take k++x::ns.drop k)=l1 at u1 u2 u3 u4 dnE ⊢;have len:=u3.length_eq;rw[ae]at len;have xl:=(d.nd pa k x<|.inl rfl).2;have gl:=g.len;have nl:(gc l1).length<=1000:=by grind
 have pb:=bx4 (w:=w) (h:=h) (l:=l1) ⟨S.w1,S.w8,S.h1,S.h8,u1,nears_off' l1 u2 (thins_of l1 nl).1,λy hy=>by
  rcases az.mp (u3.mem_iff.mp hy) with z|z
  .exact(d.nd pa k x<|.inl rfl).1 y z
  .exact g.nm y z,nl⟩
 have nc:=(af9 (x:=x) d.gv.2.2 g.nd);have ci:X3 l (.put pa k x)=(x.nms.any λd=>(gc l).any λc=>same c d):=rfl;rw[pb,dnE,ci];cases qc:(x.nms.any λd=>(gc l).any λc=>same c d) with
 | true =>
  have:¬(gc l1).Nodup:=λz=>by
   have:=nc.mp (u3.nodup z);rw[qc]at this;cases this
  rw[if_pos rfl];exact⟨by simp[this],λl' z=>nomatch z⟩
 | false =>
  have:(gc l1).Nodup:=u3.symm.nodup (nc.mpr qc);rw[if_neg (by simp)];by_cases hd:fW l1<=3
  .rw[if_pos hd];exact⟨by simp[this,hd],λl' z=>by cases z;rfl⟩
  .rw[if_neg hd];exact⟨by simp[hd],λl' z=>nomatch z⟩
def aY9(g:Gp N l)(hN:N<=400)(q:kd l pa=Z ns)(hl:k<=ns.length):(A0 (A1 0)<|A0 (A1 2) (A0 (A5 B0 (A5 B0 (D6 (A1 4) C7<|B6 (A1 3))<|B4 (A0 (A3 N9<|A0 (A1 1) A2) A2))<|D6 (A1 4) (B6<|A1 3) C7) A2)) (s6 w h l (.put pa k x) (‹pa›) (‹.int k›) (‹↥ns›) O)=Z [B5 w h l,pa,↥(ns.take k++x::ns.drop k)]:=by
 have no:N9 [(De.put pa k x).d]=Z x.d:=by rw[gm];rfl
 obtain⟨m1,_⟩:=Z7 g hN q;have c:=aM2 (xs:=fR ns) (i:=k) (by rw[N7];exact hl);rw[as6,as7]at c;have k1:=bD8 (a:=ns.take k) (b:=[x]) (by rw[aA,aN];grind);have k2:=bD8 (a:=ns.take k++[x]) (b:=ns.drop k) (by rw[ae,aA,aN,aY];grind);rw[aw9]at k1;rw[av,aZ]at k2
 exists evD,s6,D6,no,c.1,c.2,k1,k2
def bJ2:(tB2 gtI (A1 3)<|S2 (A8 4)) (s6 w h l e a (‹.int k›) (‹↥ns›) O)=Z (decide (ns.length < k)):=by
 have e:decide ((ns.length:Int) < (k:Int))=decide (ns.length < k):=decide_eq_decide.mpr (by grind)
 exists evD,s6,N7,e
def bU1(S:Sz w h)(g:Gp N l)(hN:N<=400)(d:Dg (.put pa k x))(hk:dn l (.put pa k x)=Z l'):P1 [B5 w h l,(De.put pa k x).d]=Z (B5 w h l'):=by
 have W:=g.wl hN;have hp:Nm pa\/pa=.str "" := bq7 d;have tg:G8 [(De.put pa k x).d]=Z pa:=Z5 (.put pa k x);have nu:M7 [(De.put pa k x).d]=Z (.int k):=by rw[gm];rfl
 have hk0:=hk;rw[bU3]at hk;split at hk
 .cases hk
 obtain⟨z1,e1,_⟩:=xbo hk;obtain⟨ns,q,e2⟩:=xbo e1
 have hl:k<=ns.length:=by
  rw[De.ls]at e2;split at e2
  .assumption
  .cases e2
 have f1:=ai1 (w:=w) (h:=h) W hp q;have t3:=bJ2 (w:=w) (h:=h) (l:=l) (e:=.put pa k x) (a:=‹pa›) (k:=k) (ns:=ns);rw[decide_eq_false (by grind)]at t3;have w1:=am7 (w:=w) (h:=h) W hp q (ns.take k++x::ns.drop k);obtain⟨b1,b2⟩:=cp2 S g hN d q hl;rw[hk0]at b1;rw[b2 l' hk0];refine B2 (ρ:=s6 w h l (.put pa k x) O O O O) rfl ?_;refine(A6 (by exists evD,i4,s6,tg;rfl)).trans ((A6 (by exists evD,h9,nu;rfl)).trans<|(A6 (by exists evD,g8,f1)).trans ((A6<|(D7 t3).trans rfl).trans ?_));refine(A6 (ρ':=s6 w h l (.put pa k x) (‹pa›) (‹.int k›) (‹↥ns›)<|‹B5 w h (wk l pa (ns.take k++x::ns.drop k))›) ?_).trans ((A6 (by exists evD,c7,s6,b1,cL;rfl)).trans rfl);simp only[g7,B3,A3,aY9 g hN q hl,xbs,w1,xms,s6,xw0,xw1]
abbrev s5(w h:Nat)(l:List Nd)(e:De)(a b c:Option B):Rho:=[‹B5 w h l›,‹e.d›,a,b,c]
def cp8(g:Gp N l)(hN:N<=400)(d:Dg (.out pa k x))(q:kd l pa=Z ns):(tB2 neD (D6 (A1 4) (B6<|A1 3)<|B6 (A5 B0 (A1 3) ⇑1))<|B4 (A0 (A3 N9<|A0 (A1 1) A2) A2)) (s5 w h l (.out pa k x) (‹pa›) (‹.int k›)<|‹↥ns›)=Z (!(ns[k]?).any λy=>fD y.d x.d):=by
 have no:N9 [(De.out pa k x).d]=Z x.d:=by rw[gm];rfl
 obtain⟨m1,m2,m3,m4,m5⟩:=Z7 g hN q;have i1:(k:Int)+1=((k+1:Nat):Int):=by grind
 have lyx:=d.de.ly pa k x (.inr rfl);have lyn:∀y∈ns,Ly 60 y.d:=λy hy=>(aA3 y λz hz=>N0<|g.nm z (m2 z<|K8 hy hz)).mono (by have:=J0 hy;grind)
 have cs:R1 (fR ns) (Z (k:Int)) (Z ((k+1:Nat):Int))=fR ((ns.drop k).take 1):=by
  unfold R1;rw[HT.sIx_nat,HT.sIx_nat,N7];rcases bG k ns.length with z|z
  .rw[bE (by grind),bE (by grind),show k+1 - k=1 by grind,as7,as6]
  .rw[cZ (by grind),cZ (by grind),bW,List.take_zero,cq z];rfl
 have nb:neD ↥((ns.drop k).take 1) (.tuple [x.d])=Z (.bool (!(ns[k]?).any λy=>fD y.d x.d)):=by
  cases e:ns[k]? with
  | none =>
   have:ns.drop k=[]:=cq (List.getElem?_eq_none_iff.mp e);rw[this];unfold neD;rw[if_pos ⟨rfl,(Ly.tup (n:=60) λz hz=>by rw[aw.mp hz];exact lyx).shaped<|by decide⟩];rfl
  | some y =>
   obtain⟨hk,ey⟩:=ak.mp e;have:(ns.drop k).take 1=[y]:=by rw[bB hk,ey];rfl
   rw[this,aw9];unfold neD;have ly:=lyn y (by rw[← ey];exact aS hk);rw[if_pos ⟨(Ly.tup (n:=60) λz hz=>by rw[aw.mp hz];exact ly).shaped (by decide),(Ly.tup (n:=60) λz hz=>by rw[aw.mp hz];exact lyx).shaped<|by decide⟩]
   congr 2
   simp[fD,PyData.eqvAll]
 exists evD,s5,D6,no,i1,cs,nb
def bU2(g:Gp N l)(hN:N<=400)(d:Dg (.out pa k x))(hk:dn l (.out pa k x)=Z l'):P2 [B5 w h l,(De.out pa k x).d]=Z (B5 w h l'):=by
 have W:=g.wl hN;have hp:Nm pa\/pa=.str "" := bq7 d;have tg:G8 [(De.out pa k x).d]=Z pa:=Z5 (.out pa k x);have nu:M7 [(De.out pa k x).d]=Z (.int k):=by rw[gm];rfl
 rw[bU5]at hk;obtain⟨z1,e1,e3⟩:=xbo hk;obtain⟨ns,q,e2⟩:=xbo e1
 have e3:l'=z1:=by
  split at e3
  .cases e3;rfl
  .cases e3
 subst e3;have f1:=ai1 (w:=w) (h:=h) W hp q;have t3:=cp8 (w:=w) (h:=h) g hN d q;rw[De.ls]at e2;cases qa:(ns[k]?).any λy=>fD y.d x.d with
 | false=>rw[qa]at e2;cases e2
 | true =>
  rw[qa,if_pos rfl]at e2;cases e2;rw[qa]at t3
  obtain⟨y,ey⟩:∃y,ns[k]? = Z y:=by
   cases e:ns[k]? with
   | none=>rw[e]at qa;cases qa
   | some y=>exact⟨y,rfl⟩
  have hk:k < ns.length:=(ak.mp ey).1;obtain⟨m1,_⟩:=Z7 g hN q;have i1:(k:Int)+1=((k+1:Nat):Int):=by grind
  have ca:=(aM2 (xs:=fR ns) (i:=k) (by rw[N7];grind)).1;have cb:=(aM2 (xs:=fR ns) (i:=k+1) (by rw[N7];grind)).2;rw[as6]at ca;rw[as7]at cb;have k1:=bD8 (a:=ns.take k) (b:=ns.drop<|k+1) (by rw[aA,aY];grind);have w1:=am7 (w:=w) (h:=h) W hp q (ns.take k++ns.drop (k+1));refine B2 (ρ:=s5 w h l (.out pa k x) O O O) rfl ?_;refine(A6 (by exists evD,s5,tg;rfl)).trans ((A6 (by exists evD,nu;rfl)).trans<|(A6 (by exists evD,f1)).trans ((A6<|(D7 t3).trans rfl).trans ?_))
  exists evD,s5,D6,i1,ca,cb,k1,w1
def cl6(S:Sz w h)(g:Gp N l)(hN:N<=400)(d:Dg e)(hl:dn l e=Z l'):aX6 [B5 w h l,e.d]=Z (B5 w h l'):=by
 obtain⟨i1,i2⟩:=aO8 e;refine rX2 ?_;cases hv:e.isV with
 | true =>
  have f1:=cK6 (w:=w) (h:=h) g hN d hv hl;have z1:e.isP=false:=by cases e<;>first|rfl|cases hv
  have z2:e.isO=false:=by cases e<;>first|rfl|cases hv
  rw[z1]at i1;rw[z2]at i2;refine(A6 (by exists evD,i1;rfl)).trans ((A6 (by exists evD,i2;rfl)).trans ?_)
  exists evD,f1
 | false =>
  cases e with
  | put pa k x =>
   have f1:=bU1 S g hN d hl;exact G2 (by exists evD,i1,De.isP,f1)
  | out pa k x =>
   have f1:=bU2 (w:=w) (h:=h) g hN d hl;exact(A6 (by exists evD,i1,De.isP;rfl)).trans (G2 (by exists evD,i2,De.isO,f1))
  | _=>cases hv
def bx1(g:Gp N l)(hN:N<=400)(d:Dg e)(hp:e.pre l=Z l'):fW l'<=10/\(gc l').length<=500:=by
 rw[av8]at hp;obtain⟨ns,k1,k2⟩:=xbo hp;obtain⟨ns',k3,k4⟩:=xmo k2;cases e with
 | put pa k x =>
  rw[De.ls]at k3;split at k3
  .rename_i hl;cases k3;obtain⟨f1,f2,f3,f4⟩:=av7 g hN d k1 hl;have k4:wk l pa (ns.take k++x::ns.drop k)=l':=k4;rw[k4]at f3 f4;have:=f3.length_eq;rw[ae]at this;have:=(d.nd pa k x<|.inl rfl).2;have:=g.len;exact⟨by grind,by grind⟩
  .cases k3
 | out pa k x =>
  rw[De.ls]at k3;split at k3
  .rename_i hy;cases k3;have k4:wk l pa (ns.take k++ns.drop (k+1))=l':=k4;have r:=aA5 g.nd (show kd l pa=Z ns from k1) (ns.take k++ns.drop (k+1));rw[k4]at r
   obtain⟨y,ey⟩:∃y,ns[k]? = Z y:=by
    cases q:ns[k]? with
    | none=>rw[q]at hy;cases hy
    | some y=>exact⟨y,rfl⟩
   have es:=av9 ey
   have P:=r.symm.perm (X:=y.nms) (by
    conv=>lhs;rw[es]
    rw[C0,C0,gc]
    exact bI ..)
   have:=P.length_eq;rw[ae]at this
   have dp:=r.dps (aV2 λn hn=>.inr (by
    rcases az.mp hn with z|z
    .exact bq z
    .exact br z))
   have:=g.len;have:=g.dp;exact⟨by grind,by grind⟩
  .cases k3
 | _=>cases k3
def aF2(hf:f ρ=Z x)(hg:g ρ=Z y)(h:p x y=Z (.bool b)):tB2 p f g ρ=Z b:=by unfold tB2 A5;rw[hf,hg,xbs,xbs,h];rfl
def bN4(h:a ρ=Z xs):L6 a ρ=Z (.list xs):=by unfold L6;rw[h];rfl
def bs1(g:Gp N l)(hN:N<=400)(d:Dg e):k8 [B5 w h l,e.d]=Z (ae2 w h<|dn l e):=by
 have G0:=g.pl hN;cases hv:e.isV with
 | true=>exact bz5 e hv G0 d.de
 | false =>
  obtain⟨r,er⟩:=e.parts;have wp:e.w = "put" \/ e.w = "out" := by cases e<;>first|(cases hv;done)|exact .inl rfl|exact .inr rfl
  have ip:inD true (.str e.w) (.tuple [.str "put", .str "out"])=Z (.bool false):=cq9 (b:=true) (by rcases wp with z|z<;>(rw[z];decide +kernel));refine bc5 G0 _ ?_;rw[er];have t2:(tB2 (inD true) (dIx (A8 1) ⇑0)<|B4 (A0 (dC<|.str "put")<|A0 (dC<|.str "out") A2)) (r9 w h l (.tuple (.str e.w::e.nm::r)) O O O)=Z false:=by exists evD,r9,cn3,ip
  rw[co3,A6 ((D7 t2).trans rfl)]
  have s3:Q6 (r9 w h l (.tuple (.str e.w::e.nm::r)) O O O)=if X3 l e=true then Z (.rt .none) else Z (.nx<|r9 w h l (.tuple (.str e.w::e.nm::r)) O O O):=by
   cases e with
   | put pa k x =>
    rw[gm]at er;injection er with er
    have er:r=[.int k,x.d]:=by
     injection er with _ er
     injection er with _ er
     exact er.symm
    subst er;obtain⟨x1,x2,x3⟩:=d.de.nd pa k x (.inl rfl);have t3:(tB2 eqD (dIx (A8 1) ⇑0)<|dC (.str "put")) (r9 w h l (.tuple [.str "put", pa,.int k,x.d]) O O O)=Z true:=by exists evD,r9,cs8,cO9
    have al:=congrArg cT (aW9 x);rw[ag]at al;have e1:gk [x]=gj x:=by rw[gk,gk,ba]
    have eA:=aJ3 4 [x] 12 (by rw[fW,fW];grind) (by decide) (by rw[e1];grind);rw[aw9,e1]at eA;have src:K1 (A3 (G6 12)<|A0 (B4<|A0 (dIx (A8 1) ⇑3) A2) A2) (r9 w h l (.tuple [.str "put", pa,.int k,x.d]) O O O)=Z ((gj x).map fQ):=by exists evD,r9,cY6,eA
    have cm:=aT4 G0 x1 x2 x3 src rfl;have ne:=bm9 (l:=l) x1 x2;have t4:(tB2 neD (L6<|D1 1 [5] (K1<|A3 (G6 12) (A0 (B4<|A0 (dIx (A8 1) ⇑3) A2) A2)) (B9 0) (tB2 (G.inK false) (dIx (A8 0) ⇑1)<|A1 1) (A1 0))<|L6 A2) (r9 w h l (.tuple [.str "put", pa,.int k,x.d]) O O O)=Z (X3 l<|.put pa k x):=by exact aF2 (bN4 cm) (bN4 rfl) ne
    have t5:(Z8 (tB2 eqD (dIx (A8 1) ⇑0)<|dC (.str "put"))<|tB2 neD (L6<|D1 1 [5] (K1<|A3 (G6 12) (A0 (B4<|A0 (dIx (A8 1) ⇑3) A2) A2)) (B9 0) (tB2 (G.inK false) (dIx (A8 0) ⇑1)<|A1 1) (A1 0)) (L6 A2)) (r9 w h l (.tuple [.str "put", pa,.int k,x.d]) O O O)=Z (X3 l<|.put pa k x):=by unfold Z8;rw[t3];exact t4
    show Q6 (r9 w h l (.tuple [.str "put", pa,.int k,x.d]) O O O)=_;unfold Q6;cases qc:X3 l (.put pa k x) with
    | true=>rw[qc]at t5;rw[P6 t5];rfl
    | false=>rw[qc]at t5;rw[D7 t5];rfl
   | out pa k x =>
    have t3:(tB2 eqD (dIx (A8 1) ⇑0)<|dC (.str "put")) (r9 w h l (.tuple (.str "out" :: pa::r)) O O O)=Z false:=by exists evD,r9,cn3,ca0
    have t5:∀T,(Z8 (tB2 eqD (dIx (A8 1) ⇑0)<|dC (.str "put")) T) (r9 w h l (.tuple (.str "out" :: pa::r)) O O O)=Z false:=λT=>by unfold Z8;rw[t3];rfl
    show Q6 (r9 w h l (.tuple (.str "out" :: pa::r)) O O O)=_;unfold Q6;rw[D7 (t5 _)];rfl
   | _=>cases hv
  unfold dn;rw[if_neg (by rw[hv];simp)];cases qc:X3 l e with
  | true=>rw[qc,if_pos rfl]at s3;rw[if_pos rfl];exact G2 s3
  | false =>
   rw[qc,if_neg (by simp)]at s3;rw[if_neg (by simp),A6 s3];obtain⟨a8,s4⟩:=cz3 (w:=w) (h:=h) e hv G0 d.de er;rw[A6 s4];cases qp:e.pre l with
   | none =>
    rw[an2,Option.bind_none];refine G2 ?_
    exists evD,n9,r9,bR4
    rfl
   | some l' =>
    obtain⟨b1,b2⟩:=bx1 g hN d qp;have th:=thins_of l' (by grind);have dp:=cl9 10 l' 12 b1 (by decide) (by grind) th.1
    have t6:(P8 (tB2 isB (A1 7)<|dC .none)<|tB2 gtI (A3 (S9 12)<|A0 (A1 7) A2) ⇑3) (r9 w h l (.tuple (.str e.w::e.nm::r)) O (‹↥l'›) a8)=Z (decide (3 < fW l')):=by
     have e3:decide ((3:Int) < (fW l':Int))=decide (3 < fW l'):=decide_eq_decide.mpr (by grind)
     exists evD,r9,bk0,dp,e3
    rw[an2,xbs];unfold n9;by_cases h3:fW l'<=3
    .rw[decide_eq_false (by grind)]at t6;rw[if_pos h3,A6 ((D7 t6).trans rfl)]
     exists evD,ae8,r9,ae2,B5
    .rw[decide_eq_true (by grind)]at t6;rw[if_neg h3];refine G2 ((P6 t6).trans ?_);rfl
def De.inv:De->De
 | .str nm o n=>.str nm n o
 | .shw nm o n=>.shw nm n o
 | .man nm o n=>.man nm n o
 | .plc nm a b c d=>.plc nm c d a b
 | .spt nm x y o n=>.spt nm x y n o
 | .put pa k x=>.out pa k x
 | .out pa k x=>.put pa k x
def aB2(e:De):n4 [e.d]=Z e.inv.d:=by cases e<;>(rw[De.inv,gm,gm];kernel_rfl)
def cD2{m o:Man}(h:m.s=o.s):m=o:=by cases m<;>cases o<;>first|rfl|(exact absurd h<|by decide +kernel)
def cC6(h:neB a b=false):a=b:=by
 have e:=bj0 a b;rw[h]at e;unfold neD at e;split at e
 .simp only[bf.injEq,PyData.bool.injEq,Bool.not_eq_false']at e;have e:PyData.eqvAll [fr a.c,fr a.x,fr a.y,fr a.z] [fr b.c,fr b.x,fr b.y,fr b.z]=true:=e;simp only[PyData.eqvAll,cl4]at e;cases a;cases b;simp only[Q4.mk.injEq];simp at e;exact⟨e.1,e.2.1,e.2.2.1,e.2.2.2⟩
 .cases e
def cf3{e:De}{n n':Nd}(h:e.on n=Z n')(ok:n.Ok):∃n2,e.inv.on n'=Z n2/\n2.d=n.d:=by
  cases e with
  | spt nm x y o v =>
    cases n with
    | layer nm' m s sh lf tp mk w h' l kb =>
      rw[gp]at h;split at h
      . rename_i q
        cases h;obtain⟨q1,q2,q3⟩:=q;have q3:=cC6 q3;rw[fS]at ok;have S:=ok.2.1
        have bw:y*w+x < l.length:=by
          rw[S.len];have:(y+1)*w<=h'*w:=cD _ (by omega);rw[dq]at this;rw[cz w h'];omega
        have nn:neB v v=false:=by
          cases z:neB v v with
          | false=>rfl
          | true=>exact absurd rfl<|bM4 z
        refine⟨.layer nm' m s sh lf tp mk w h' ((l.set (y*w+x) v).set (y*w+x) o) 32,?_,?_⟩
        . have c3:neB ((l.set (y*w+x) v).getD (y*w+x) q0) v=false:=by rw[bh,aI bw];exact nn
          rw[De.inv,gp,if_pos ⟨q1,q2,c3⟩]
        . have:(l.set (y*w+x) v).set (y*w+x) o=l:=by
            rw[List.set_set,← q3,bh,am bw,Option.getD_some,List.set_getElem_self bw]
          rw[this,fQ,fQ]
      . cases h
    | tone=>cases h
    | group=>cases h
  | _ =>
    cases n<;>first
      | (cases h;done)
      | (rw[gp]at h;split at h
         . rename_i q;cases h;first|subst q|(have:=cD2 q;subst this)|(obtain⟨q1,q2⟩:=q;subst q1 q2)
           exact⟨_,by rw[De.inv,gp];first|exact if_pos rfl|exact if_pos ⟨rfl,rfl⟩,by rw[fQ]⟩
         . cases h)
def Rp.refl'(h:Stands a n b l):Rp (a++n::b) (a++[n]++b) l l:=by
 rw[av,aZ]
 induction h with
 | top=>exact .top
 | deep _ ih=>exact .deep ih
def Rp.dsE(r:Rp o o' l l')(h:fR o=fR o'):fR l=fR l':=by
 induction r with
 | top=>exact h
 | deep _ ih=>rw[as8,as8,fR,fR,fQ,fQ,ih]
def Rp.alsO(r:Rp o o' l l')(h:x∈gk o'):x∈gk l':=by
 induction r with
 | top=>exact h
 | deep _ ih=>rw[ai2,gk,gj];exact au _<|ar _ (xmm _ ih)
def bv6(n:Nd):n∈gj n:=by cases n<;>simp[gj]
def aX9(nd:(gc l).Nodup)(h:fnd l nm=Z n):gi nm [n] l=l:=by
 obtain⟨h1,h2⟩:=N5 h;obtain⟨a,b,St⟩:=V5 nd h1;rw[← h2];exact aN0 (Rp.refl' St) nd
def bt7(nd:(gc l).Nodup)(h:fnd l nm=Z n)(e1:n1.nm=nm)(nd1:(gc<|gi nm [n1] l).Nodup):fnd (gi nm [n1] l) nm=Z n1:=by
 obtain⟨a,b,St,R⟩:=aw8 nd h;have m:n1∈gk (gi nm [n1] l):=(R n1).alsO (by rw[av,aZ,ai2,gk];exact au _<|ar _ (bv6 n1));have:=bk5 nd1 m;rw[e1]at this;exact this
def bo8(nd:(gc l).Nodup)(h:fnd l nm=Z n)(e1:n1.nm=nm)(nd1:(gc<|gi nm [n1] l).Nodup)(n2:Nd):gi nm [n2] (gi nm [n1] l)=gi nm [n2] l:=by
 obtain⟨a,b,St,R⟩:=aw8 nd h;obtain⟨h1,h2⟩:=N5 h;obtain⟨l2,r1,r2⟩:=(R n1).symm.two (a++[n2]++b);have r1':Rp (a++n1::b) (a++[n2]++b) (gi nm [n1] l) l2:=by rw[av,aZ]at r1;exact r1
 have w1:=aN0 r1' nd1;rw[e1]at w1;have w2:=aN0 r2.symm nd;rw[h2]at w2;rw[w1,w2]
def cv0(nd:(gc l).Nodup)(h:fnd l nm=Z n)(e:n1.d=n2.d):fR (gi nm [n1] l)=fR (gi nm [n2] l):=by
 obtain⟨a,b,St,R⟩:=aw8 nd h;obtain⟨h1,h2⟩:=N5 h;obtain⟨l2,r1,r2⟩:=(R n1).symm.two (a++[n2]++b);have w2:=aN0 r2.symm nd;rw[h2]at w2;rw[w2];refine r1.dsE ?_;rw[av,av,aZ,aZ,as8,as8,fR,fR,e]
def bR5(ns:List Nd)(n:Nd):(inn ns n).nm=n.nm:=by cases n<;>rfl
def ck4(ns ms:List Nd)(n:Nd):inn ms (inn ns n)=inn ms n:=by cases n<;>rfl
def cU8(nd:(gc l).Nodup)(h:kd l pa=Z ns)(nd1:(gc<|wk l pa ns').Nodup):kd (wk l pa ns') pa=Z ns'/\(∀ms,wk (wk l pa ns') pa ms=wk l pa ms):=by
 unfold kd at h ⊢;cases s0:same pa (.str "") with
 | true =>
  have:∀l ms,wk l pa ms=ms:=λl ms=>by unfold wk;rw[s0,if_pos rfl]
  rw[if_pos rfl,this];exact⟨rfl,λms=>by rw[this,this]⟩
 | false =>
  rw[s0,if_neg (by simp)]at h;obtain⟨n,q,hn⟩:=xbo h;have e:∀ms,wk l pa ms=gi pa [inn ms n] l:=λms=>by unfold wk;rw[s0,if_neg (by simp),q]
  rw[e]at nd1;have n0:=(N5 q).2;have f1:=bt7 nd q (by rw[bR5];exact n0) nd1;rw[if_neg (by simp),e,f1];constructor
  .cases n with
   | layer=>cases hn
   | tone=>cases hn
   | group=>rfl
  .intro ms;have:wk (gi pa [inn ns' n] l) pa ms=gi pa [inn ms (inn ns' n)] (gi pa [inn ns' n] l):=by unfold wk;rw[s0,if_neg (by simp),f1]
   rw[this,e,ck4,bo8 nd q (by rw[bR5];exact n0) nd1]
def bp0(nd:(gc l).Nodup)(h:kd l pa=Z ns):wk l pa ns=l:=by
 unfold kd at h;unfold wk;cases s0:same pa (.str "") with
 | true=>rw[s0,if_pos rfl]at h;cases h;rfl
 | false =>
  rw[s0,if_neg (by simp)]at h;rw[if_neg (by simp)];obtain⟨n,q,hn⟩:=xbo h;rw[q]
  have:inn ns n=n:=by
   cases n with
   | layer=>rfl
   | tone=>rfl
   | group=>cases hn;rfl
  show gi pa [inn ns n] l=l;rw[this];exact aX9 nd q
def bU4(hv:e.isV=false):dn l e=if X3 l e=true then O else(kd l e.nm).bind λns=>((e.ls ns).map<|wk l e.nm).bind λl'=>if fW l'<=3 then Z l' else O:=by
 unfold dn;rw[if_neg (by rw[hv];simp),av8];split
 .rfl
 .cases kd l e.nm<;>rfl
def cX4(hv:e.isV=false)(h:dn l e=Z l'):X3 l e=false/\∃ns ns',kd l e.nm=Z ns/\e.ls ns=Z ns'/\l'=wk l e.nm ns'/\fW l'<=3:=by
 rw[bU4 hv]at h;split at h
 .cases h
 .rename_i c;obtain⟨ns,h1,h2⟩:=xbo h;obtain⟨l1,h3,h4⟩:=xbo h2;obtain⟨ns',h5,h6⟩:=xmo h3;split at h4
  .rename_i dp;cases h4;exact⟨by simpa using c,ns,ns',h1,h5,h6.symm,dp⟩
  .cases h4
def bu0(hv:e.isV=false)(c:X3 l e=false)(h1:kd l e.nm=Z ns)(h2:e.ls ns=Z ns')(dp:fW (wk l e.nm ns')<=3):dn l e=Z (wk l e.nm ns'):=by rw[bU4 hv,c,if_neg (by simp),h1,xbs,h2,xms,xbs,if_pos dp]
def cl8{N:Nat}{l:List Nd}(g:Gp N l)(hN:N<=400){e:De}(d:Dg e){l':List Nd}(h:dn l e=Z l')(ho:∀pa k x,e=.out pa k x->∃ns,kd l pa=Z ns/\ns[k]? = Z x):∃l2,dn l' e.inv=Z l2/\fR l2=fR l:=by
 have g':=bU6 g hN d h;cases hv:e.isV with
 | true =>
  unfold dn at h;rw[if_pos hv]at h;obtain⟨n,h1,h2⟩:=xbo h;obtain⟨n',h3,h4⟩:=xmo h2;obtain⟨m1,m2⟩:=N5 h1;have ok:=(ap1 3 l g.dp g.ok n m1).1
  have nr:n.near:=by
   obtain⟨a,b,St,R⟩:=aw8 g.nd h1;have:=(R n).nearsO g.nr;rw[P5,fZ]at this;exact this.2.1
  obtain⟨_,_,_,_,q5⟩:=cp9 d.gv h3 ok nr;obtain⟨n2,h5,h6⟩:=cf3 h3 ok;have iv:e.inv.isV=true:=by cases e<;>first|rfl|cases hv
  have inm:e.inv.nm=e.nm:=by cases e<;>rfl
  rw[← h4]at g' ⊢;have f1:=bt7 g.nd h1 (q5.trans m2) g'.nd;refine⟨gi e.nm [n2]<|gi e.nm [n'] l,?_,?_⟩
  .unfold dn;rw[if_pos iv,inm,f1,xbs,h5];rfl
  .rw[bo8 g.nd h1 (q5.trans m2) g'.nd,cv0 g.nd h1 h6,aX9 g.nd h1]
 | false =>
  obtain⟨c,ns,ns',k1,k2,k3,k4⟩:=cX4 hv h;subst k3;obtain⟨w1,w2⟩:=cU8 g.nd k1 g'.nd;cases e with
  | put pa k x =>
   rw[De.ls]at k2;split at k2
   .rename_i hl;cases k2;have rf:fD x.d x.d=true:=SeqAt.eqv_refl x.d (d.de.ly pa k x<|.inl rfl).1
    have ls:(De.out pa k x).ls (ns.take k++x::ns.drop k)=Z ns:=by
     rw[De.ls];have e1:(ns.take k++x::ns.drop k)[k]? = Z x:=by rw[aM (by rw[aA];omega),aA,bE hl,bW];rfl
     have e2:(ns.take k++x::ns.drop k).take k=ns.take k:=by rw[dm (by rw[aA];omega),List.take_take,Nat.min_self]
     have e3:(ns.take k++x::ns.drop k).drop (k+1)=ns.drop k:=by rw[List.drop_append,aA,bE hl,cq (by rw[aA];omega),show k+1 - k=1 by omega];rfl
     rw[e1,eB,rf,if_pos rfl,e2,e3,bP]
    have sf:wk (wk l pa (ns.take k++x::ns.drop k)) pa ns=l:=(w2 ns).trans (bp0 g.nd k1);refine⟨l,?_,rfl⟩;have:=bu0 (l:=wk l pa (ns.take k++x::ns.drop k)) (e:=.out pa k x) rfl rfl w1 ls (by rw[show(De.out pa k x).nm=pa from rfl,sf];exact g.dp);rw[show(De.out pa k x).nm=pa from rfl,sf]at this;exact this
   .cases k2
  | out pa k x =>
   obtain⟨ms,o1,o2⟩:=ho pa k x rfl;have k1:kd l pa=Z ns:=k1;rw[k1]at o1;cases o1;have hk:k < ns.length:=(ak.mp o2).1;rw[De.ls]at k2;split at k2
   .cases k2;have es:=av9 o2
    have ls:(De.put pa k x).ls (ns.take k++ns.drop (k+1))=Z ns:=by
     rw[De.ls,if_pos (by rw[ae,aA];omega)];have e2:(ns.take k++ns.drop (k+1)).take k=ns.take k:=by rw[dm (by rw[aA];omega),List.take_take,Nat.min_self]
     have e3:(ns.take k++ns.drop (k+1)).drop k=ns.drop (k+1):=by rw[List.drop_append,aA,bE (by omega),cq (by rw[aA];omega),bW];rfl
     rw[e2,e3,← es]
    have sf:wk (wk l pa<|ns.take k++ns.drop (k+1)) pa ns=l:=(w2 ns).trans<|bp0 g.nd k1
    have cl:X3 (wk l pa<|ns.take k++ns.drop (k+1)) (.put pa k x)=false:=by
     have r:=aA5 g.nd k1<|ns.take k++ns.drop (k+1)
     have P:=r.symm.perm (X:=x.nms) (by
      conv=>lhs;rw[es]
      rw[C0,C0,gc]
      exact bI ..)
     have nd:=P.nodup g.nd;exact(af9 (aJ.mp nd).1 g'.nd).mp nd
    refine⟨l,?_,rfl⟩;have:=bu0 (l:=wk l pa<|ns.take k++ns.drop (k+1)) (e:=.put pa k x) rfl cl w1 ls (by rw[show(De.put pa k x).nm=pa from rfl,sf];exact g.dp);rw[show(De.put pa k x).nm=pa from rfl,sf]at this;exact this
   .cases k2
  | _=>cases hv
def bj4:Nd->List Nd
 | .group _ _ _ _ ns=>ns
 | _=>[]
def Y0(z:D×List Nd):D:=.tuple [z.1,↥z.2]
def par(l:List Nd):List (D×List Nd):=(.str "", l)::((gk l).filter isG).map λn=>(n.nm,bj4 n)
def aZ8(hs:src ρ=Z ((gk l).map fQ))(hl:(gk l).length<=500):
  D1 1 [] src (B9 0) (tB2 eqD (dIx (A8 0) ⇑0)<|dC (.str "group")) (B4<|A0 (dIx (A8 0) ⇑1) (A0 (dIx (A8 0) ⇑5) A2)) ρ=Z (((gk l).filter isG).map λn=>Y0 (n.nm,bj4 n)):=by
 unfold D1;rw[hs,xbs,if_pos (by rw[ag];grind),show ag9 1 [] ρ=[O] from rfl];refine aW1 (h:=fQ) (p:=isG) (gk l) O (λn _=>cq8 n []) λn _ hp=>?_
 cases n with
 | layer=>cases hp
 | tone=>cases hp
 | group nm m s sh ns=>rw[fQ];exists evD,bv2,bf0,Y0,bj4,fX
def bq6(l:List Nd)(hl:(gk l).length<=500):B0 (.list [Y0 (.str "", l)]) (.list<|((gk l).filter isG).map λn=>Y0 (n.nm,bj4 n))=Z (.list<|(par l).map Y0):=by
 have e:(par l).map Y0=[Y0 (.str "", l)]++(((gk l).filter isG).map λn=>Y0 (n.nm,bj4 n)):=by unfold par;rw[xmc,bH];rfl
 rw[e];have:=dh isG (gk l);exact aE4 (by rw[aN,ag];grind)
def ce3(h:z∈par l):(z=(.str "", l))\/∃nm m s sh ns,Nd.group nm m s sh ns∈gk l/\z=(nm,ns):=by
 unfold par at h;rcases ao.mp h with h|h
 .exact .inl h
 .obtain⟨n,hn,rfl⟩:=aP.mp h;obtain⟨h1,h2⟩:=bR.mp hn;cases n with
  | layer=>cases h2
  | tone=>cases h2
  | group nm m s sh ns=>exact .inr ⟨nm,m,s,sh,ns,h1,by rw[fX,bj4]⟩
def cA4(h:Nd.group nm m s sh ns∈gk l):(nm,ns)∈par l:=by
 unfold par;refine xmm _ (aP.mpr ⟨_,bR.mpr ⟨h,rfl⟩,?_⟩);rw[fX,bj4]
def cT8(h:Nm d):same d (.str "")=false:=by
 obtain⟨s,rfl,_,h1,_⟩:=h;refine W1 λz=>?_
 cases z;exact absurd h1 (by decide)
def bi5(g:Gp N l)(h:z∈par l):kd l z.1=Z z.2/\(Nm z.1\/z.1=.str ""):=by
 rcases ce3 h with rfl|⟨nm,m,s,sh,ns,h1,rfl⟩
 .unfold kd;rw[M4,if_pos rfl];exact⟨rfl,.inr rfl⟩
 .have f:=bk5 g.nd h1;rw[fX]at f;have n1:Nm nm:=g.nm _ (by rw[← als_nms];exact aP.mpr ⟨_,h1,by rw[fX]⟩);unfold kd;rw[cT8 n1,if_neg (by simp),f];exact⟨rfl,.inl n1⟩
def cM5:∀(k:Nat) (l:List Nd),fW l<=k->∀n∈gk l,n∈l\/∃nm m s sh ns,Nd.group nm m s sh ns∈gk l/\n∈ns:=by
 intro k
 induction k with
 | zero =>
  intro l hd n hn
  induction l with
  | nil=>rw[gk]at hn;cases hn
  | cons y l ih =>
   rw[gk]at hn ⊢;rw[fW]at hd;rcases az.mp hn with h|h
   .cases y with
    | group=>rw[fV]at hd;omega
    | layer=>rw[gj]at h;exact .inl (by rw[aw.mp h];exact ah ..)
    | tone=>rw[gj]at h;exact .inl (by rw[aw.mp h];exact ah ..)
   .rcases ih (by omega) h with z|⟨nm,m,s,sh,ns,z1,z2⟩
    .exact .inl (xmm _ z)
    .exact .inr ⟨nm,m,s,sh,ns,au _ z1,z2⟩
 | succ k ih =>
  intro l hd n hn
  induction l with
  | nil=>rw[gk]at hn;cases hn
  | cons y l ihl =>
   rw[gk]at hn ⊢;rw[fW]at hd;rcases az.mp hn with h|h
   .cases y with
    | layer=>rw[gj]at h;exact .inl (by rw[aw.mp h];exact ah ..)
    | tone=>rw[gj]at h;exact .inl (by rw[aw.mp h];exact ah ..)
    | group nm m s sh ns =>
     rw[gj]at h ⊢;rcases ao.mp h with h|h
     .exact .inl (by rw[h];exact ah ..)
     .rw[fV]at hd;rcases ih ns (by omega) n h with z|⟨nm',m',s',sh',ns',z1,z2⟩
      .exact .inr ⟨nm,m,s,sh,ns,ar _<|ah ..,z⟩
      .exact .inr ⟨nm',m',s',sh',ns',ar _<|xmm _ z1,z2⟩
   .rcases ihl (by omega) h with z|⟨nm',m,s,sh,ns,z1,z2⟩
    .exact .inl (xmm _ z)
    .exact .inr ⟨nm',m,s,sh,ns,au _ z1,z2⟩
def cA5(g:Gp N l)(h:n∈gk l):∃z∈par l,n∈z.2:=by
 rcases cM5 3 l g.dp n h with z|⟨nm,m,s,sh,ns,z1,z2⟩
 .exact⟨(.str "", l),by unfold par;exact ah ..,z⟩
 .exact⟨(nm,ns),cA4 z1,z2⟩
def bO0(nd:(gc l).Nodup)(h:kd l pa=Z ns)(hn:n∈ns):n∈gk l:=by
 have r:=(aA5 nd h ns).symm;refine Rp.alsO r ?_;obtain⟨a,b,rfl⟩:=ck hn;rw[ai2,gk];exact au _<|ar _ (bv6 n)
def Gp.ly(g:Gp N l)(h:n∈gk l):Ly 30 n.d:=by
 obtain⟨_,q2,q3,_⟩:=ap1 3 l g.dp g.ok n h;exact(aA3 n λd hd=>N0<|g.nm d (q3 d hd)).mono (by grind)
def Gp.nr1(g:Gp N l)(h:n∈gk l):n.Ok/\n.near/\n.dp<=3/\(∀d∈n.nms,Nm d)/\n.nms.length<=N/\n.nms.Nodup/\Nm n.nm:=by
 obtain⟨q1,q2,q3,q4⟩:=ap1 3 l g.dp g.ok n h;obtain⟨a,b,St⟩:=V5 g.nd h;have r:=Rp.refl' St;have nr:=r.nearsO g.nr;rw[P5,fZ]at nr;have nd:(gc (a++n::b)).Nodup:=St.props.nd g.nd;rw[C0,gc]at nd;exact⟨q1,nr.2.1,q2,λd hd=>g.nm d<|q3 d hd,aO q4 g.len,(aJ.mp (aJ.mp nd).2.1).1,g.nm _<|q3 _ (M3 n)⟩
def bT6{y n:Nd}(hy:F9 y.nm)(hn:F9 n.nm)(h:fD y.d n.d=true):y.nm=n.nm:=by
 have key:∀(a b:D) (r:List D) (a' b':D) (r':List D),fD (.tuple (a::b::r)) (.tuple (a'::b'::r'))=true->fD b b'=true:=λa b r a' b' r' h=>by
  simp only[fD,PyData.eqvAll,af]at h;revert h;cases fD a a'<;>cases fD b b'<;>simp
 have hb:fD y.nm n.nm=true:=by cases y<;>cases n<;>(rw[fQ,fQ]at h;exact key _ _ _ _ _ _ h)
 obtain⟨s,e1,_⟩:=hy;obtain⟨t,e2,_⟩:=hn;rw[e1,e2]at hb ⊢;have hb:(s==t)=true:=hb;simp only[beq_iff_eq]at hb;rw[hb]
def bR6(hd:Ly 30 d)(hk:∀x∈ks,Ly 30 x)(ht:∃xs,d=.tuple xs)(hks:∀x∈ks,∃xs,x=.tuple xs):inD false d (.tuple ks)=Z (.bool<|ks.any λy=>fD y d):=by
 obtain⟨xs,rfl⟩:=ht;have sx:=hd.shaped (by decide);have sd:ks.all fC=true:=by rw[aK];exact λx hx=>(hk x hx).shaped (by decide)
 show(if M1 (.tuple xs)=true/\ks.all M1=true then Z (fF (if false=true then !inV (toV<|.tuple xs) (ks.map toV) else inV (toV<|.tuple xs) (ks.map toV))) else if M1 (.tuple xs)=false/\fC (.tuple xs)=true/\ks.all isS=true then Z (fF false) else if fC (.tuple xs)=true/\(PyData.tuple xs).depth<=60/\ks.all fC=true then Z (fF (if false=true then !(ks.any λy=>fD y<|.tuple xs) else ks.any λy=>fD y<|.tuple xs)) else O)=_;rw[if_neg (by intro z;cases z.1)];cases ks with
 | nil=>rw[if_pos ⟨rfl,sx,rfl⟩];rfl
 | cons k ks =>
  obtain⟨ys,rfl⟩:=hks k (ah ..);rw[if_neg (by intro z;have:=z.2.2;rw[bz]at this;cases this),if_pos ⟨sx,aO hd.2 (by decide),sd⟩];rfl
def ixN(h:a ρ=Z xs)(i:Int):dIx (qN a) (dC<|.int i) ρ=atI xs i:=by unfold dIx qN;rw[h];rfl
def bM5(n:Nd):∃xs,n.d=.tuple xs:=by cases n<;>(rw[fQ];exact⟨_,rfl⟩)
structure Dw (l:List Nd) (nm:Str) (e:De):Prop where
 dg:Dg e
 di:Dg e.inv
 fit:e.isP=false->∃l',dn l e=Z l'
 out:∀pa k x,e=.out pa k x->∃ns,kd l pa=Z ns/\ns[k]? = Z x
 put:∀pa k x,e=.put pa k x->(x.nms=[.str nm]\/x.nms=[.str nm,.str (nm ++ "q")])/\x.dp<=1/\∃ns,kd l pa=Z ns/\k<=ns.length
abbrev en(ns:List Int)(at':Nat)(w h:Nat)(l:List Nd)(nm:Str)(a4 a5 a6 a7 a8 a9 a10 a12 a13 a14 a15 a16:Option B):Rho:=[‹scr ns›,‹.int at'›,‹B5 w h l›,‹.str nm›,a4,a5,a6,a7,a8,a9,a10,O,a12,a13,a14,a15,a16]
abbrev eN(ns:List Int)(at':Nat)(w h:Nat)(l:List Nd)(nm:Str)(x:D)(t:Nat):Rho:=en ns at' w h l nm (‹↥l›) (‹.list ((gk l).map fQ)›) (‹x›) (‹.int t›) O O O O O O O O
abbrev eP(ns:List Int)(at':Nat)(w h:Nat)(l:List Nd)(nm:Str)(x:D)(t:Nat):Rho:=en ns at' w h l nm (‹↥l›) (‹.list ((gk l).map fQ)›) (‹x›) (‹.int t›) (‹.list ((par l).map Y0)›) O O O O O O O
abbrev eZ(ns:List Int)(at':Nat)(w h:Nat)(l:List Nd)(nm:Str)(x:D)(t:Nat)(z:D×List Nd):Rho:=en ns at' w h l nm (‹↥l›) (‹.list ((gk l).map fQ)›) (‹x›) (‹.int t›) (‹.list ((par l).map Y0)›) (‹z.1›) (‹↥z.2›) O O O O O
def ag6(g:Gp N l)(hv:e.isV=true)(hn:n∈gk l)(he:e.nm=n.nm)(ho:e.on n=Z n')(g1:e.gv)(g2:e.inv.gv)(sz:e.sz):Dw l nm e:=by
 have nn:=(g.nr1 hn).2.2.2.2.2.2;have f:=bk5 g.nd hn;have noP:∀pa k x,¬(e=.put pa k x\/e=.out pa k x):=λpa k x z=>by rcases z with z|z<;>(rw[z]at hv;cases hv)
 have noP':∀pa k x,¬(e.inv=.put pa k x\/e.inv=.out pa k x):=λpa k x z=>by cases e<;>first|(cases hv;done)|(rcases z with z|z<;>cases z)
 refine⟨⟨⟨.inl<|he ▸ nn,sz,λpa k x z=>(noP pa k x z).elim⟩,g1,λpa k x z=>(noP pa k x z).elim⟩,⟨⟨.inl ?_,?_,λpa k x z=>(noP' pa k x z).elim⟩,g2,λpa k x z=>(noP' pa k x z).elim⟩,λ_=>?_,λpa k x z=>(noP pa k x<|.inr z).elim,λpa k x z=>(noP pa k x<|.inl z).elim⟩
 .have:e.inv.nm=e.nm:=by cases e<;>rfl
  rw[this,he];exact nn
 .cases e<;>first|exact trivial|exact sz
 .refine⟨gi e.nm [n'] l,?_⟩;unfold dn;rw[if_pos hv,he,f,xbs,ho];rfl
def da0(g:Gp N l)(hN:N<=60)(ns:List Int)(at':Nat)(w h:Nat)(nm:Str)(hn:n∈gk l)(t:Nat)(ht:((t:Int)==0)=true):∃e:De,W6 (eN ns at' w h l nm (n.d) t)=Z (.rt e.d)/\Dw l nm e:=by
 have l6:=(g.pl<|by grind).al;have src:K1 (A1 5) (eN ns at' w h l nm (n.d) t)=Z ((gk l).map fQ):=rfl;have pc:=aZ8 src (by grind);have cc:=bq6 l (by grind)
 have lyz:∀z∈par l,∀x∈fR z.2,Ly 30 x/\∃xs,x=.tuple xs:=λz hz x hx=>by
  rw[D8]at hx;obtain⟨m,hm,rfl⟩:=aP.mp hx;exact⟨g.ly<|bO0 g.nd (bi5 g hz).1 hm,bM5 m⟩
 have inn:∀z∈par l,inD false n.d ↥z.2=Z (.bool<|(fR z.2).any λy=>fD y n.d):=λz hz =>bR6 (g.ly hn) (λx hx=>(lyz z hz x hx).1) (bM5 n) λx hx=>(lyz z hz x hx).2
 have pl:(par l).length<=501:=by
  unfold par;rw[aD,ag];have:=dh isG<|gk l
  grind
 have cm:D1 1 [6] (K1<|A1 8) (B9 0) (tB2 (inD false) (A1 1)<|dIx (A8 0) ⇑1) (A1 0) (eP ns at' w h l nm (n.d) t)=Z (((par l).filter λz=>(fR z.2).any λy=>fD y n.d).map Y0):=by
  refine cg4 (h:=Y0) (p:=λz=>(fR z.2).any λy=>fD y n.d) (r:=[‹n.d›]) rfl rfl (by grind) (λz hz=>?_) λz hz=>rfl
  have i1:dIx (A8 0) ⇑1 [‹Y0 z›,‹n.d›]=Z ↥z.2:=rfl;simp only[tB2,A5,A1,i1,xg0,xg1,xbs,xms,inn z hz,M8]
 have mem:∃z∈par l,((fR z.2).any λy=>fD y n.d)=true:=by
  obtain⟨z,hz,hm⟩:=cA5 g hn;exact⟨z,hz,bv.mpr ⟨n.d,by rw[D8];exact bL hm,SeqAt.eqv_refl n.d (g.ly hn).1⟩⟩
 obtain⟨z,G9,hzr⟩:∃z G9,((par l).filter λz=>(fR z.2).any λy=>fD y n.d)=z::G9:=by
  cases e:(par l).filter λz=>(fR z.2).any λy=>fD y n.d with
  | nil =>
   obtain⟨z,h1,h2⟩:=mem;rw[eD]at e;exact absurd h2<|e z h1
  | cons z G9=>exact⟨z,G9,rfl⟩
 have hz:z∈par l/\((fR z.2).any λy=>fD y n.d)=true:=bR.mp (by rw[hzr];exact ah ..);rw[hzr]at cm;obtain⟨kz,nz⟩:=bi5 g hz.1
 obtain⟨j,jl,ej,yj,ey,eyn⟩:∃j,j < (fR z.2).length/\(fR z.2).findIdx? (λy=>fD y n.d)=Z j/\∃y,z.2[j]? = Z y/\fD y.d n.d=true:=by
  cases e:(fR z.2).findIdx? (λy=>fD y n.d) with
  | none =>
   rw[List.findIdx?_eq_none_iff]at e;obtain⟨x,hx,h⟩:=bv.mp hz.2;rw[e x hx]at h;cases h
  | some j =>
   obtain⟨h1,h2,_⟩:=bY.mp e;have h1':j < z.2.length:=by rw[← N7];exact h1
   refine⟨j,h1,rfl,z.2[j],am h1',?_⟩
   have:(fR z.2)[j]=(z.2[j]).d:=by
    have q:=ag7 z.2 j;rw[am h1,am h1']at q;exact bf.inj q
   rw[← this];exact h2
 have jl':j < z.2.length:=by rw[← N7];exact jl
 have yn:yj=n:=by
  have my:yj∈gk l:=bO0 g.nd kz (cA ey);have e:=bT6 (N0 (g.nr1 my).2.2.2.2.2.2) (N0 (g.nr1 hn).2.2.2.2.2.2) eyn;have nd:=g.nd;rw[← als_nms]at nd;exact aT3 e nd my hn
 subst yn
 have e3:at4 (A1 10) (A1 6) (eZ ns at' w h l nm yj.d t z)=Z (.int j):=by
  show(if fC yj.d=true/\yj.d.depth<=60/\(fR z.2).all fC=true then((fR z.2).findIdx? λy=>fD y yj.d).map (λ(j:Nat)=>fE (j:Int)) else O)=_
  have sh:(fR z.2).all fC=true:=by
   rw[aK];intro x hx;exact(lyz z hz.1 x hx).1.shaped (by decide)
  rw[if_pos ⟨(g.ly hn).shaped (by decide),aO (g.ly hn).2 (by decide),sh⟩,ej];rfl
 obtain⟨k1,k2,k3,k4,k5,k6,k7⟩:=g.nr1 hn;have nn:=g.len;refine⟨.out z.1 j yj,?_,?_⟩
 .have c0:(tB2 eqD (A1 7) ⇑0) (eN ns at' w h l nm (yj.d) t)=Z true:=by simp only[tB2,A5,A1,dC,xg0,xg1,xbs,xms,aV1,ht,M8]
  refine(P6 c0).trans ((A6 (ρ':=eP ns at' w h l nm yj.d t) ?_).trans<|(A6 (ρ':=eZ ns at' w h l nm yj.d t z) ?_).trans ?_)
  .simp only[B3,A5,L6,pc,A0,A2,B4,dC,A1,eN,en,xg0,xg1,xbs,xms];exact(congrArg (cr _) cc).trans rfl
  .unfold aq5;rw[ixN cm,show atI ((z::G9).map Y0) 0=Z (Y0 z) from Q1 (j:=0) rfl];rfl
  .rw[gm];simp only[B1,B4,A0,A2,e3,dC,A1,xg0,xg1,xbs,xms]
 .have nmo:∀e:De,e.isV=false->e.nm=z.1->Nm e.nm\/(e.isV=false/\e.nm=.str ""):=λe hv he=>by
   rw[he];rcases nz with q|q
   .exact .inl q
   .exact .inr ⟨hv,q⟩
  have dnd:∀e:De,(e=.out z.1 j yj\/e=.put z.1 j yj)->(∀pa k x,e=.put pa k x\/e=.out pa k x->x=yj):=λe he pa k x hx=>by rcases he with rfl|rfl<;>rcases hx with hx|hx<;>cases hx<;>rfl
  refine⟨⟨⟨nmo _ rfl rfl,trivial,λpa k x hx=>?_⟩,trivial,λpa k x hx=>?_⟩,⟨⟨nmo _ rfl rfl,trivial,λpa k x hx=>?_⟩,⟨k1,k2,k6⟩,λpa k x hx=>?_⟩,λ_=>?_,λpa k x hx=>?_,λpa k x hx=>by cases hx⟩
  .rw[dnd _ (.inl rfl) pa k x hx];exact⟨λd hd=>N0<|k4 d hd,by grind,by grind⟩
  .rw[dnd _ (.inl rfl) pa k x hx];exact⟨k4,by grind⟩
  .rw[dnd _ (.inr rfl) pa k x hx];exact⟨λd hd=>N0<|k4 d hd,by grind,by grind⟩
  .rw[dnd _ (.inr rfl) pa k x hx];exact⟨k4,by grind⟩
  .have ls:(De.out z.1 j yj).ls z.2=Z (z.2.take j++z.2.drop (j+1)):=by
    rw[De.ls,ey,eB,SeqAt.eqv_refl yj.d (g.ly hn).1,if_pos rfl]
   have dp:fW (wk l z.1<|z.2.take j++z.2.drop (j+1))<=3:=by
    have r:=aA5 g.nd kz (z.2.take j++z.2.drop (j+1));refine aO (r.dps<|aV2 λn hn=>.inr ?_) g.dp;rcases az.mp hn with q|q
    .exact bq q
    .exact br q
   exact⟨_,bu0 (e:=.out z.1 j yj) rfl rfl kz ls dp⟩
  .cases hx;exact⟨z.2,kz,ey⟩
def Nd.ren(d:D):Nd->Nd
 | .layer _ m s sh lf tp mk w h l kb=>.layer d m s sh lf tp mk w h l kb
 | .tone _ r s sh=>.tone d r s sh
 | .group _ m s sh ns=>.group d m s sh ns
def cx9(d:D){n:Nd}(h0:n.dp=0)(ok:n.Ok)(nr:n.near):(n.ren d).Ok/\(n.ren d).near/\(n.ren d).dp=0/\(n.ren d).nms=[d]:=by
 cases n with
 | group=>rw[fV]at h0;grind
 | layer=>rw[Nd.ren];rw[fS]at ok ⊢;rw[fY]at nr ⊢;exact⟨ok,nr,by rw[fV],by rw[gb]⟩
 | tone=>rw[Nd.ren];rw[fS]at ok ⊢;rw[fY];exact⟨ok,trivial,by rw[fV],by rw[gb]⟩
def aU6:Sr 4 j7:=aF5 (ck9.mono<|by decide)
def db9{nm:Str}(h:Nm (.str nm))(h5:nm.length<=5):Nm (.str<|nm ++ "q")/\B0 (.str nm) (.str "q")=Z (.str<|nm ++ "q")/\(.str nm:D)≠.str (nm ++ "q"):=by
 obtain⟨s,e,lo,l1,l6⟩:=h;cases e;have e0:(nm++("q" : Str)).cps=nm.cps++#[113]:=rfl;have ln:(nm++("q" : Str)).length=nm.length+1:=bx ..;refine⟨⟨_,rfl,λc hc=>?_,by grind,by grind⟩,?_,λz=>?_⟩
 .rw[e0,cF]at hc;rcases az.mp hc with q|q
  .exact lo c q
  .have:c=113:=by simpa using q
   grind
 .show(if nm.length+1<=16777216 then _ else O)=_;rw[if_pos (by grind)]
 .have z:nm=nm ++ "q" := by injection z
  have:=congrArg Str.length z
  grind
def bB1{N:Nat}{l:List Nd}(g:Gp N l)(hN:N<=60)(ns:List Int)(hn:ns.length<=63)(at':Nat)(ha:at' < 2 ^ 17){nm:Str}(hnm:Nm (.str nm))(h5:nm.length<=5):∃e:De,aE6 [scr ns,.int at',↥l,.str nm]=Z e.d/\Dw l nm e/\e.isP=true:=by
 have l6:=(g.pl<|by grind).al;have eA:=aJ3 3 l 12 g.dp (by decide) (by grind);have src:K1 (A3 (G6 12)<|A0 (A1 2) A2) [‹scr ns›,‹.int at'›,‹↥l›,‹.str nm›,O,O,O,O]=Z ((gk l).map fQ):=by simp only[K1,A3,A0,A2,A1,xg0,xg1,xbs,xms,eA]
 have pc:=aZ8 src (by grind);have cc:=bq6 l (by grind);have pl:((par l).map Y0).length=(par l).length:=ag ..;have ppos:0 < (par l).length:=by unfold par;simp
 obtain⟨t,et,lt⟩:=K9 ns hn (e:=(at':Int)) (m':=(((par l).map Y0).length:Nat)) at' (par l).length rfl (by rw[pl]) (by grind) ppos;obtain⟨z,hz,ez⟩:∃z∈par l,atI ((par l).map Y0) (t:Int)=Z (Y0 z):=⟨(par l)[t],aS lt,Q1 (by rw[aF,am lt];rfl)⟩;obtain⟨kz,nz⟩:=bi5 g hz;have zl4:z.2.length<=400:=(Z7 g (by grind) kz).1;have l2:∀a b:D,([a,b]:List D).length=2:=λ_ _=>rfl
 obtain⟨n,en,no,nd,_,nnm,nnr⟩:=aU0 ns hn (at'+10) (by grind) (.str nm) .over
 have en:S8 [scr ns,.int ((at':Int)+10),.str nm,.str "over"]=Z n.d:=by
  have:((at'+10:Nat):Int)=(at':Int)+10:=by grind
  rw[← this];exact en
 have nms:n.nms=[.str nm]:=by
  cases n with
  | group=>rw[fV]at nd;grind
  | layer=>rw[fX]at nnm;rw[gb,nnm]
  | tone=>rw[fX]at nnm;rw[gb,nnm]
 obtain⟨c,ec,_⟩:=drw ns hn at' 1 3 (by grind);obtain⟨q1,q2,q3⟩:=db9 hnm h5
 obtain⟨x,x1,x2,x3,x4,s3⟩:∃x:Nd,x.Ok/\x.near/\(x.nms=[.str nm]\/x.nms=[.str nm,.str (nm ++ "q")])/\x.dp<=1/\(sIf (tB2 eqD (A3 A9<|A0 (A1 0) (A0 (A5 B0 (A1 1) ⇑1)<|A0 ⇑3 A2)) ⇑0) (B3 7<|B4 (A0 (dC<|.str "group")<|A0 (A1 3) (A0 (dC<|.str "plus")<|A0 (B4<|A0 ⇑1 (A0 ⇑2 A2)) (A0 (dC<|.bool true)<|A0 (B4<|A0 (A5 B0 (A5 B0 (D6 (A1 7) C7<|B6 ⇑1)<|B4 (A0 (A5 B0 (A1 3)<|dC (.str "q")) A2))<|D6 (A1 7) (B6 ⇑2) C7) A2) A2)))) C2) [‹scr ns›,‹.int at'›,‹↥l›,‹.str nm›,‹.list ((par l).map Y0)›,‹z.1›,‹↥z.2›,‹n.d›]=Z (.nx [‹scr ns›,‹.int at'›,‹↥l›,‹.str nm›,‹.list ((par l).map Y0)›,‹z.1›,‹↥z.2›,‹x.d›]):=by
  cases q:((c:Int)==0) with
  | false =>
   refine⟨n,no,nnr,.inl nms,by grind,?_⟩
   exists evD,ec,q
  | true =>
   obtain⟨r1,r2,r3,r4⟩:=cx9 (.str<|nm ++ "q") nd no nnr
   obtain⟨r,G9,hr,hr2,hrl⟩:∃a r,n.d=.tuple (a :: .str nm::r)/\(n.ren<|.str (nm ++ "q")).d=.tuple (a :: .str (nm ++ "q")::r)/\r.length<=14:=by
    cases n with
    | group=>rw[fV]at nd;grind
    | layer nm'=>rw[fX]at nnm;subst nnm;rw[Nd.ren,fQ,fQ];exact⟨_,_,rfl,rfl,by show 7<=14;decide⟩
    | tone nm'=>rw[fX]at nnm;subst nnm;rw[Nd.ren,fQ,fQ];exact⟨_,_,rfl,rfl,by show 3<=14;decide⟩
   refine⟨.group (.str nm) .plus j7 true [n.ren (.str<|nm ++ "q")],?_,?_,.inr ?_,?_,?_⟩
   .rw[fS,fT,fT];exact⟨aU6,r1,trivial⟩
   .rw[fY,fZ,fZ];exact⟨r2,trivial⟩
   .rw[gb,gc,gc,r4];rfl
   .rw[fV,fW,fW,r3];decide
   .have c1:R1 (r :: .str nm::G9) O (Z 1)=[r]:=cL2 r _
    have c2:R1 (r :: .str nm::G9) (Z 2) O=G9:=by
     have:=be5 (xs:=r :: .str nm::G9) (i:=1) (by simp);exact this
    have k1:=aC9 (a:=[r]) (b:=[.str (nm ++ "q")]) (by show 2<=1000;decide);have k2:=aC9 (a:=[r]++[.str (nm ++ "q")]) (b:=G9) (by show 2+G9.length<=1000;grind);have k2:B0 (.tuple<|[r]++[.str (nm ++ "q")]) (.tuple G9)=Z (.tuple (r :: .str (nm ++ "q")::G9)):=k2;rw[fQ,fR,fR,hr,hr2,bt6];have a1:D6 (A1 7) C7 (B6 ⇑1) [‹scr ns›,‹.int at'›,‹↥l›,‹.str nm›,‹.list ((par l).map Y0)›,‹z.1›,‹↥z.2›,‹.tuple (r :: .str nm::G9)›]=Z (.tuple [r]):=congrArg (λq=>Z<|PyData.tuple q) c1;have a2:D6 (A1 7) (B6 ⇑2) C7 [‹scr ns›,‹.int at'›,‹↥l›,‹.str nm›,‹.list ((par l).map Y0)›,‹z.1›,‹↥z.2›,‹.tuple (r :: .str nm::G9)›]=Z (.tuple G9):=congrArg (λq=>Z<|PyData.tuple q) c2;simp only[sIf,tB2,A5,A3,A0,A2,A1,dC,xg0,xg1,xbs,xms,ac5,ec,aV1,q,M8,if_true,B3,B4,a1,a2,q2,k1,k2,xw0,xw1];rfl
 have zl:(fR z.2).length=z.2.length:=N7 z.2;obtain⟨u,eu,lu⟩:=K9 ns hn (e:=(at':Int)+2) (m':=((fR z.2).length:Nat)+1) (at'+2) (z.2.length+1) (by grind) (by rw[zl];grind) (by grind) (by grind)
 have xn:(∀d∈x.nms,Nm d)/\x.nms.length<=2/\x.nms.Nodup:=by
  rcases x3 with e|e<;>rw[e]
  .exact⟨λd hd=>by rw[aw.mp hd];exact hnm,by simp,by simp⟩
  .refine⟨λd hd=>?_,by simp,?_⟩
   .rcases ao.mp hd with hd|hd
    .rw[hd];exact hnm
    .rw[aw.mp hd];exact q1
   .rw[bn];exact⟨λz=>q3<|aw.mp z,by simp⟩
 have nmo:∀e:De,e.isV=false->e.nm=z.1->Nm e.nm\/(e.isV=false/\e.nm=.str ""):=λe hv he=>by
  rw[he];rcases nz with q|q
  .exact .inl q
  .exact .inr ⟨hv,q⟩
 have dnd:∀e:De,(e=.out z.1 u x\/e=.put z.1 u x)->(∀pa k y,e=.put pa k y\/e=.out pa k y->y=x):=λe he pa k y hy=>by rcases he with rfl|rfl<;>rcases hy with hy|hy<;>cases hy<;>rfl
 refine⟨.put z.1 u x,B2 (ρ:=[‹scr ns›,‹.int at'›,‹↥l›,‹.str nm›,O,O,O,O]) rfl ?_,⟨⟨⟨nmo _ rfl rfl,trivial,λpa k y hy=>?_⟩,⟨x1,x2,xn.2.2⟩,λpa k y hy=>?_⟩,⟨⟨nmo _ rfl rfl,trivial,λpa k y hy=>?_⟩,trivial,λpa k y hy=>?_⟩,λh=>(by cases h),λpa k y hy=>(by cases hy),λpa k y hy=>?_⟩,rfl⟩
 .refine(A6 (ρ':=[‹scr ns›,‹.int at'›,‹↥l›,‹.str nm›,‹.list ((par l).map Y0)›,O,O,O]) ?_).trans ?_
  .simp only[B3,A5,L6,pc,A0,A2,B4,dC,A1,xg0,xg1,xbs,xms];exact(congrArg (cr _) cc).trans rfl
  refine(A6 (by exists evD,et,ez,Y0,l2;rfl)).trans ?_;refine(A6 (by exists evD,en;rfl)).trans ?_;rw[A6 s3,gm]
  exists evD,eu
 .rw[dnd _ (.inr rfl) pa k y hy];exact⟨λd hd=>N0<|xn.1 d hd,by grind,by have:=xn.2.1;grind⟩
 .rw[dnd _ (.inr rfl) pa k y hy];exact⟨xn.1,by have:=xn.2.1;grind⟩
 .rw[dnd _ (.inl rfl) pa k y hy];exact⟨λd hd=>N0<|xn.1 d hd,by grind,by have:=xn.2.1;grind⟩
 .rw[dnd _ (.inl rfl) pa k y hy];exact⟨xn.1,by have:=xn.2.1;grind⟩
 .cases hy;exact⟨x3,x4,z.2,kz,by grind⟩
def cZ9{N:Nat}{l:List Nd}(g:Gp N l)(hN:N<=60)(ns:List Int)(hn:ns.length<=63)(at':Nat)(ha:at' < 2 ^ 17)(w h:Nat)(nm:Str){n:Nd}(hm:n∈gk l)(t:Nat)(ht:((t:Int)==0)=false):∃e:De,(A7 W6<|A7 Q7 (A7 W5<|A7 p7 (A7 o9<|A7 ab4 (A7 ab3<|A7 ab1 ab0)))) (eN ns at' w h l nm n.d t)=Z (.rt e.d)/\Dw l nm e/\e.isV=true:=by
 have s5:W6 (eN ns at' w h l nm n.d t)=Z (.nx<|eN ns at' w h l nm n.d t):=by
  have c0:(tB2 eqD (A1 7) ⇑0) (eN ns at' w h l nm n.d t)=Z false:=by simp only[tB2,A5,A1,dC,xg0,xg1,xbs,xms,aV1,ht,M8]
  unfold W6 sIf;rw[c0];rfl
 rw[A6 s5];obtain⟨o1,o2,o3,o4,o5,o6,o7⟩:=g.nr1 hm;obtain⟨x,ex,lx⟩:=drw ns hn at' 3 2 (by grind);obtain⟨r,er,hr⟩:=aG0 ns hn (e:=(at':Int)+4) (at'+4) (by grind) (by grind);obtain⟨y,ey,ly⟩:=drw ns hn at' 3 6 (by grind);obtain⟨m6,em6⟩:=cU1 y ly;obtain⟨u,eu,lu⟩:=drw ns hn at' 3 5 (by grind);obtain⟨v,ev,lv⟩:=drw ns hn at' 4 5 (by grind);obtain⟨q,eq,oq⟩:=aX4 ns (at'+7) hn (by grind)
 have eq:X7 [scr ns,.int ((at':Int)+7)]=Z q.d:=by
  have:((at'+7:Nat):Int)=(at':Int)+7:=by grind
  rw[← this];exact eq
 have hr:=aF5 hr;cases n with
 | tone nm' rr s sh =>
  refine⟨.shw nm' sh<|(x:Int)==0,G2 ?_,ag6 g rfl hm (by rw[fX];rfl) (by rw[gp,if_pos rfl]) trivial trivial trivial,rfl⟩;rw[fQ,gm];cases q1:((t:Int)==1)<;>exists evD,Q7,eN,en,q1,bf1,cs7,cY4,cX2,ex
 | group nm' m s sh ms =>
  rw[fS]at o1;cases q1:((t:Int)==1) with
  | true =>
   refine⟨.shw nm' sh<|(x:Int)==0,G2 ?_,ag6 g rfl hm (by rw[fX];rfl) (by rw[gp,if_pos rfl]) trivial trivial trivial,rfl⟩;rw[fQ,gm]
   exists evD,Q7,eN,en,q1,aJ0,bv2,cY3,ex
  | false =>
   refine⟨.str nm' s r,(A6 (ρ':=(eN ns at' w h l nm (.tuple [.str "group", nm',.str m.s,fr s,.bool sh,↥ms]) t)) ?_).trans<|G2 ?_,ag6 g rfl hm (by rw[fX];rfl) (by rw[gp,if_pos rfl]) hr o1.1 trivial,rfl⟩
   .rw[fQ];exists evD,Q7,eN,en,q1,aJ0,dd8
   .rw[gm];cases q2:((t:Int)==2)<;>exists evD,W5,eN,en,q2,aJ0,bv2,cs6,bA9,er
 | layer nm' m s sh lf tp mk w' h' l' kb =>
  rw[fS]at o1;rw[fY]at o2;obtain⟨p1,p2,_⟩:=o1;cases q1:((t:Int)==1) with
  | true =>
   refine⟨.shw nm' sh<|(x:Int)==0,G2 ?_,ag6 g rfl hm (by rw[fX];rfl) (by rw[gp,if_pos rfl]) trivial trivial trivial,rfl⟩;rw[fQ,gm]
   exists evD,Q7,eN,en,q1,aB3,aQ2,cY1,ex
  | false =>
   rw[A6 (ρ':=(eN ns at' w h l nm (.tuple<|yL nm' m s sh lf tp mk w' h' l') t)) (by rw[fQ];exists evD,Q7,eN,en,q1,aB3,dd7)];cases q2:((t:Int)==2) with
   | true =>
    refine⟨.str nm' s r,G2 ?_,ag6 g rfl hm (by rw[fX];rfl) (by rw[gp,if_pos rfl]) hr p1 trivial,rfl⟩;rw[gm]
    exists evD,W5,eN,en,q2,aB3,aQ2,cs5,er
   | false =>
    rw[A6 (ρ':=(eN ns at' w h l nm (.tuple<|yL nm' m s sh lf tp mk w' h' l') t)) (by exists evD,W5,eN,en,q2,aB3,bA8)];cases q3:((t:Int)==3) with
    | true =>
     refine⟨.man nm' m m6,G2 ?_,ag6 g rfl hm (by rw[fX];rfl) (by rw[gp,if_pos rfl]) trivial trivial trivial,rfl⟩;rw[gm]
     exists evD,p7,eN,en,q3,aQ2,cY2,ey,em6
    | false =>
     rw[A6 (ρ':=(eN ns at' w h l nm (.tuple<|yL nm' m s sh lf tp mk w' h' l') t)) (by exists evD,p7,eN,en,q3)];cases q4:((t:Int)==4) with
     | true =>
      refine⟨.plc nm' lf tp ((u:Int) - 2)<|(v:Int) - 2,G2 ?_,ag6 g rfl hm (by rw[fX];rfl) (by rw[gp,if_pos ⟨rfl,rfl⟩]) ⟨⟨by grind,by grind⟩,by grind,by grind⟩ ⟨⟨o2.1,o2.2.1⟩,o2.2.2.1,o2.2.2.2.1⟩ trivial,rfl⟩;have sl:D6 (A1 6) (B6 ⇑5) (B6 ⇑7) (eN ns at' w h l nm (.tuple<|yL nm' m s sh lf tp mk w' h' l') t)=Z (.tuple [.int lf,.int tp]):=rfl;rw[gm];simp only[o9,eN,en,sIf,B1,tB2,M8,B4,A0,A2,sl,A5,dC,A3,dIx,A8,aI0,A1,xg0,xg1,xbs,xms,aV1,ac5,q4,av4,aQ2,eu,ev,bH6,if_true]
     | false =>
      rw[A6 (ρ':=(eN ns at' w h l nm (.tuple<|yL nm' m s sh lf tp mk w' h' l') t)) (by exists evD,o9,eN,en,q4)];obtain⟨w1,w8,h1,h8,len,_⟩:=p2;obtain⟨b1,b2,b3,b4,b5,w3,h3,o8⟩:=o2;obtain⟨a,ea,la⟩:=K9 ns hn (e:=(at':Int)+3) (m':=(w':Int)) (at'+3) w' (by grind) rfl (by grind) (by grind);obtain⟨b,eb,lb⟩:=K9 ns hn (e:=(at':Int)+4) (m':=(h':Int)) (at'+4) h' (by grind) rfl (by grind) (by grind)
      have bw:b*w'+a < l'.length:=by
       rw[len];have:(b+1)*w'<=h'*w':=cD _ (by grind);rw[cz w' h'];rw[dq]at this
       grind
      have em:E9 (.int b) (.int w')=Z (.int ((b*w':Nat):Int)):=N4 (by grind) (by grind)
      have ei:atI (l'.map fP) (((b*w':Nat):Int)+(a:Int))=Z (l'[b*w'+a]).d:=by
       rw[← eE];exact Q1 (by rw[aF,am bw];rfl)
      have l3:∀a b c:D,([a,b,c]:List D).length=3:=λ_ _ _=>rfl
      refine⟨.spt nm' a b (l'[b*w'+a]) q,?_,ag6 g rfl hm (by rw[fX];rfl) (by rw[gp,if_pos ⟨la,lb,?_⟩]) oq (o8 _<|aS bw) ⟨by grind,by grind⟩,rfl⟩
      .rw[A6 (ρ':=(en ns at' w h l nm (‹↥l›) (‹.list ((gk l).map fQ)›) (‹.tuple (yL nm' m s sh lf tp mk w' h' l')›) (‹.int t›) O O O (‹.int w'›) (‹.int h'›) (‹.tuple (l'.map fP)›) O O)) (by exists evD,ab4,eN,en,cs4,shD,l3)];rw[A6 (ρ':=(en ns at' w h l nm (‹↥l›) (‹.list ((gk l).map fQ)›) (‹.tuple (yL nm' m s sh lf tp mk w' h' l')›) (‹.int t›) O O O (‹.int w'›) (‹.int h'›) (‹.tuple (l'.map fP)›) (‹.int a›) O)) (by exists evD,ab3,eN,en,ea)];rw[A6 (ρ':=(en ns at' w h l nm (‹↥l›) (‹.list ((gk l).map fQ)›) (‹.tuple (yL nm' m s sh lf tp mk w' h' l')›) (‹.int t›) O O O (‹.int w'›) (‹.int h'›) (‹.tuple (l'.map fP)›) (‹.int a›)<|‹.int b›)) (by exists evD,ab1,eN,en,eb)];rw[gm]
       exists evD,ab0,eN,en,em,ei,eq,aQ2
      .rw[bh,am bw];exact bM3 _
def bk6{N:Nat}{l:List Nd}(g:Gp N l)(hN:N<=60)(ns:List Int)(hn:ns.length<=63)(at':Nat)(ha:at' < 2 ^ 16)(w h:Nat){nm:Str}(hnm:Nm (.str nm))(h5:nm.length<=5):∃e:De,ah4 [scr ns,.int at',B5 w h l,.str nm]=Z e.d/\Dw l nm e:=by
 have l6:=(g.pl<|by grind).al;have eA:=aJ3 3 l 12 g.dp (by decide) (by grind);have fin:∀e:De,aa1 (en ns at' w h l nm O O O O O O O O O O O O)=Z (.rt e.d)->Dw l nm e->∃e:De,ah4 [scr ns,.int at',B5 w h l,.str nm]=Z e.d/\Dw l nm e:=λd h1 h2=>⟨d,B2 rfl h1,h2⟩
 have s0:az9 (en ns at' w h l nm O O O O O O O O O O O O)=Z (.nx<|en ns at' w h l nm (‹↥l›) O O O O O O O O O O O):=rfl
 have eX:eqD (.list<|(gk l).map fQ) (.list [])=Z (.bool ((gk l).map fQ).isEmpty):=by
  unfold eqD
  rw[if_pos ⟨(Ly.lst (n:=30) λx hx=>by
   obtain⟨n,hn',rfl⟩:=aP.mp hx
   exact g.ly hn').shaped (by decide),rfl⟩]
  cases(gk l).map fQ<;>rfl
 obtain⟨c,ec,lc⟩:=K9 ns hn (e:=(at':Int)) (m':=4) at' 4 rfl rfl (by grind) (by decide);obtain⟨dp,ep,hp,_⟩:=bB1 g hN ns hn (at'+20) (by grind) hnm h5
 have ep:aE6 [scr ns,.int ((at':Int)+20),↥l,.str nm]=Z dp.d:=by
  have:((at'+20:Nat):Int)=(at':Int)+20:=by grind
  rw[← this];exact ep
 cases q0:((gk l).map fQ).isEmpty with
 | true =>
  rw[q0]at eX;refine fin dp ?_ hp;unfold aa1;rw[A6 s0];refine(A6 (by exists evD,W8,eN,en,eA;rfl)).trans ?_;exact G2 (by exists evD,W7,eN,en,eX,ep)
 | false =>
  rw[q0]at eX;cases q1:((c:Int)==0) with
  | true =>
   refine fin dp ?_ hp;unfold aa1;rw[A6 s0];refine(A6 (by exists evD,W8,eN,en,eA;rfl)).trans ?_;exact G2 (by exists evD,W7,eN,en,eX,ec,q1,ep)
  | false =>
   have pos:0 < (gk l).length:=by
    cases e:gk l with
    | nil=>rw[e]at q0;cases q0
    | cons a b=>rw[aD];grind
   obtain⟨i,ei,li⟩:=K9 ns hn (e:=(at':Int)+1) (m':=(((gk l).map fQ).length:Nat)) (at'+1) (gk l).length (by grind) (by rw[ag]) (by grind) pos;have hm:(gk l)[i]∈gk l:=aS li;have ai:atI ((gk l).map fQ) (i:Int)=Z ((gk l)[i]).d:=Q1 (by rw[aF,am li];rfl);generalize (gk l)[i]=n at hm ai;obtain⟨t,et,lt⟩:=drw ns hn at' 2 6 (by grind);cases q2:((t:Int)==0) with
   | true =>
    obtain⟨d,e1,e2⟩:=da0 g hN ns at' w h nm hm t q2;refine fin d ?_ e2;unfold aa1;rw[A6 s0];refine(A6 (by exists evD,W8,eN,en,eA;rfl)).trans ?_;refine(A6 (by exists evD,W7,eN,en,eX,ec,q1;rfl)).trans ?_;refine(A6 (by exists evD,af1,eN,en,ei,ai;rfl)).trans ?_;refine(A6 (by exists evD,af0,eN,en,et;rfl)).trans ?_;exact G2 e1
   | false =>
    obtain⟨d,e1,e2,_⟩:=cZ9 g hN ns hn at' (by grind) w h nm hm t q2;refine fin d ?_ e2;unfold aa1;rw[A6 s0];refine(A6 (by exists evD,W8,eN,en,eA;rfl)).trans ?_;refine(A6 (by exists evD,W7,eN,en,eX,ec,q1;rfl)).trans ?_;refine(A6 (by exists evD,af1,eN,en,ei,ai;rfl)).trans ?_;refine(A6 (by exists evD,af0,eN,en,et;rfl)).trans ?_;exact e1
def cC2{N:List D}{many:Nat}{b:Bool}(hm:many<=14)(hP:∀i,i < many->∃y,N[i]? = Z (.str<|nmS b i y)/\SOk y/\y.length<=4):∀j,j < many->∃y:Str,N[j]? = Z (.str<|nmS b j y)/\Nm (.str<|nmS b j y)/\(nmS b j y).length<=5:=λj hj=>by
 obtain⟨y,e1,e2,e3⟩:=hP j hj
 have ln:(nmS b j y).length=y.length+1:=by
  have lc:(ltr j).cps.size=1:=rfl;cases b
  .show(y.cps++(ltr j).cps).size=_;rw[bx,lc];rfl
  .show((ltr j).cps++y.cps).size=_;rw[bx,lc,Nat.add_comm];rfl
 exact⟨y,e1,⟨_,rfl,cf9 b (by grind) e2,by grind,by grind⟩,by grind⟩
def cW8{N:List D}{b:Bool}{l:List Nd}(hl:NOk N 2 4 l)(hP:∀j,j < 6->∃y:Str,N[j]? = Z (.str<|nmS b j y)/\Nm (.str<|nmS b j y)/\(nmS b j y).length<=5):Gp 6 l/\∀d∈gc l,∃(j:Nat) (y:Str),j < 6/\d=.str (nmS b j y):=by
 obtain⟨is,q1,q2,q3⟩:=hl.ix
 have gd:∀j,j < 6->∃y:Str,N.getD j .none=.str (nmS b j y)/\Nm (.str<|nmS b j y):=λj hj=>by
  obtain⟨y,e1,e2,_⟩:=hP j hj;exact⟨y,by rw[bh,e1];rfl,e2⟩
 have nm6:∀d∈gc l,∃(j:Nat) (y:Str),j < 6/\d=.str (nmS b j y)/\Nm d:=λd hd=>by
  rw[q1]at hd;obtain⟨j,hj,rfl⟩:=aP.mp hd;have j6:j < 6:=by have:=q3 j hj;omega
  obtain⟨y,e1,e2⟩:=gd j j6;exact⟨j,y,j6,e1,by rw[e1];exact e2⟩
 refine⟨⟨hl.ok,hl.nr,by have:=hl.dp;omega,λd hd=>(nm6 d hd).choose_spec.choose_spec.2.2,?_,?_⟩,λd hd=>?_⟩
 .rw[q1];refine dz.mpr (cU.imp_of_mem (λ{i j} hi hj ne e=>?_) q2);obtain⟨y,e1,_⟩:=gd i (by have:=q3 i hi;omega);obtain⟨z,e2,_⟩:=gd j (by have:=q3 j hj;omega);rw[e1,e2]at e;exact ne (cg0 (b:=b)<|by injection e)
 .rw[q1,ag];have:=List.Nodup.length_le_of_subset (l₂:=ay 6) q2 λj hj=>aR.mpr (by have:=q3 j hj;omega)
  rw[aU]at this;omega
 .obtain⟨j,y,h1,h2,_⟩:=nm6 d hd;exact⟨j,y,h1,h2⟩
def aH1{s:Str}(h:(s.cps.toList.all λc=>decide (97<=c/\c<=122))=true):Low s:=λc hc=>of_decide_eq_true<|aK.mp h c hc
def aX7:Nm (.str "zzzzzz"):=⟨"zzzzzz", rfl,aH1 (by decide +kernel),by decide,by decide⟩
def De.rn(z:D):De->De
 | .str _ o n=>.str z o n
 | .shw _ o n=>.shw z o n
 | .man _ o n=>.man z o n
 | .plc _ a b c d=>.plc z a b c d
 | .spt _ x y o n=>.spt z x y o n
 | .put _ k x=>.put z k x
 | .out _ k x=>.out z k x
def cR1{e:De}(d:Dg e){z:D}(hz:Nm z):Dg (e.rn z):=by
 have nm:(e.rn z).nm=z:=by cases e<;>rfl
 cases e with
 | put pa k x=>exact⟨⟨.inl (by rw[nm];exact hz),trivial,λpa' k' x' h=>by rcases h with h|h<;>cases h;exact d.de.nd pa k x (.inl rfl)⟩,d.gv,λpa' k' x' h=>by rcases h with h|h<;>cases h;exact d.nd pa k x (.inl rfl)⟩
 | out pa k x=>exact⟨⟨.inl (by rw[nm];exact hz),trivial,λpa' k' x' h=>by rcases h with h|h<;>cases h;exact d.de.nd pa k x (.inr rfl)⟩,d.gv,λpa' k' x' h=>by rcases h with h|h<;>cases h;exact d.nd pa k x (.inr rfl)⟩
 | str=>exact⟨⟨.inl (by rw[nm];exact hz),d.de.sz,λpa' k' x' h=>by rcases h with h|h<;>cases h⟩,d.gv,λpa' k' x' h=>by rcases h with h|h<;>cases h⟩
 | shw=>exact⟨⟨.inl (by rw[nm];exact hz),d.de.sz,λpa' k' x' h=>by rcases h with h|h<;>cases h⟩,d.gv,λpa' k' x' h=>by rcases h with h|h<;>cases h⟩
 | man=>exact⟨⟨.inl (by rw[nm];exact hz),d.de.sz,λpa' k' x' h=>by rcases h with h|h<;>cases h⟩,d.gv,λpa' k' x' h=>by rcases h with h|h<;>cases h⟩
 | plc=>exact⟨⟨.inl (by rw[nm];exact hz),d.de.sz,λpa' k' x' h=>by rcases h with h|h<;>cases h⟩,d.gv,λpa' k' x' h=>by rcases h with h|h<;>cases h⟩
 | spt=>exact⟨⟨.inl (by rw[nm];exact hz),d.de.sz,λpa' k' x' h=>by rcases h with h|h<;>cases h⟩,d.gv,λpa' k' x' h=>by rcases h with h|h<;>cases h⟩
def cR0(e:De)(z:D){ρ:Rho}(h:A1 1 ρ=Z e.d){f:DE}(hf:f ρ=Z z):(A5 B0 (A5 B0 (D6 (A1 1) C7<|B6 ⇑1)<|B4 (A0 f A2))<|D6 (A1 1) (B6 ⇑2) C7) ρ=Z (e.rn z).d:=by
 obtain⟨r,er,er2,rl⟩:∃r,e.d=.tuple (.str e.w::e.nm::r)/\(e.rn z).d=.tuple (.str e.w::z::r)/\r.length<=10:=by cases e<;>(rw[De.rn,gm,gm];exact⟨_,rfl,rfl,by simp⟩)
 have c1:R1 (.str e.w::e.nm::r) O (Z 1)=[.str e.w]:=cL2 _ _
 have c2:R1 (.str e.w::e.nm::r) (Z 2) O=r:=by
  have:=be5 (xs:=.str e.w::e.nm::r) (i:=1) (by simp);exact this
 have k1:=aC9 (a:=[.str e.w]) (b:=[z]) (by show 2<=1000;decide);have k2:=aC9 (a:=[.str e.w]++[z]) (b:=r) (by show 2+r.length<=1000;omega);rw[er]at h;have a1:D6 (A1 1) C7 (B6 ⇑1) ρ=Z (.tuple [.str e.w]):=by unfold D6;rw[h];exact congrArg (λq=>Z<|PyData.tuple q) c1
 have a2:D6 (A1 1) (B6 ⇑2) C7 ρ=Z (.tuple r):=by unfold D6;rw[h];exact congrArg (λq=>Z<|PyData.tuple q) c2
 rw[er2];simp only[A5,B4,A0,A2,a1,a2,hf,xbs,xms,k1,k2];rfl
def cq2{w h:Nat}{N:Nat}{l:List Nd}(g:Gp N l):Ly 20 (B5 w h l):=(cD6 λd hd=>N0<|g.nm d hd).mono (by have:=g.dp;grind)
def cU3{e:De}(d:Dg e):Ly 30 e.d:=by
 have q:∀n,Ly n e.nm:=λn=>by obtain⟨s,e1,e2⟩:=d.de.nm;rw[e1];exact⟨e2,aQ _⟩
 have st:∀(x:Str) (n:Nat),fH (.str x)=true->Ly n (.str x):=λx n hx=>⟨hx,aQ _⟩
 have bl:∀(b:Bool) (n:Nat),Ly n (.bool b):=λb n=>⟨rfl,aQ _⟩
 have two:∀i j:Int,Ly 5 (.tuple [.int i,.int j]):=λi j=>(Ly.tup (n:=0) λy hy=>by
  simp only[ao,aB,or_false]at hy
  rcases hy with rfl|rfl<;>exact Ly.int _ _).mono (by decide)
 have lx:∀pa k x,e=.put pa k x\/e=.out pa k x->Ly 20 x.d:=λpa k x h=>(aA3 x (d.de.nd pa k x h).1).mono (by have:=(d.de.nd pa k x h).2.1;grind)
 cases e with
 | spt nm x y o n=>rw[gm];exact(Ly.tup (n:=5) λz hz=>by
   simp only[ao,aB,or_false]at hz
   rcases hz with rfl|rfl|rfl|rfl|rfl|rfl<;>first|exact st _ _ (by decide +kernel)|exact q _|exact Ly.int _ _|exact Ly.q4 _ 3).mono (by decide)
 | _=>rw[gm];exact(Ly.tup (n:=20) λz hz=>by
   simp only[ao,aB,or_false]at hz
   rcases hz with rfl|rfl|rfl|rfl<;>first|exact st _ _ (by decide +kernel)|exact q _|exact Ly.int _ _|exact bl _ _|exact bj2 _ _|exact(two _ _).mono (by decide)|exact(bb1 _).mono (by decide)|exact lx _ _ _ (.inl rfl)|exact lx _ _ _ (.inr rfl)).mono (by decide)
def co8(hd:Nm d)(e:f ρ=Z d):∃y:Str,dRp f ρ=Z (.str y)/\y.length<=10002:=by
 obtain⟨x,rfl,lo,_,l6⟩:=hd
 have ha:x.cps.all (· < 1114112)=true:=by
  rw[← dG,aK];intro c hc;have:=lo c hc;exact decide_eq_true (by grind)
 refine⟨reprText x,?_,?_⟩
 .unfold dRp;rw[e];show(if x.length<=1000/\x.cps.all (· < 1114112)=true then Z (fG<|reprText x) else O)=_;rw[if_pos ⟨by grind,ha⟩]
 .refine aO (PySem.StrLaws.reprText_len x λz hz=>?_) (by grind);rw[← dG,aK]at ha;have:=of_decide_eq_true (ha z hz)
  grind
def fs2(hf:f ρ=Z (.str x))(hg:g ρ=Z (.str y))(h:x.length+y.length<=16000000):∃z,ao7 fL [f,g] ρ=Z z:=by
 have a1:(fL++x).length=x.length:=by
  have:(fL++x).length=Str.empty.length+x.length:=bx ..;have k:Str.empty.length=0:=rfl
  grind
 have a2:((fL++x)++y).length=(fL++x).length+y.length:=bx ..;exact⟨.str<|(fL++x)++y,by simp only[ao7,hf,hg,xbs,if_pos (show(fL++x).length<=16777216 by grind),if_pos (show((fL++x)++y).length<=16777216 by grind)]⟩
def fsA(hd:Nm d)(T:Str)(hT:T.length<=1000)(e:A1 i ρ=Z d):∃z,ao7 fL [dRp (A1 i),dC (.str T)] ρ=Z z:=by
 obtain⟨y,e1,l1⟩:=co8 hd e;exact fs2 e1 rfl (by omega)
def fsB(hd:Nm d)(T:Str)(hT:T.length<=1000)(e:A1 i ρ=Z d):∃z,ao7 fL [dC (.str T),dRp (A1 i)] ρ=Z z:=by
 obtain⟨y,e1,l1⟩:=co8 hd e;exact fs2 rfl e1 (by grind)
def v5(h:r ρ=Z z):O8 r f r2 ρ=Z z:=by unfold O8;rw[h]
def cy2(h:r ρ=O)(hf:f ρ=Z (.nx ρ')):O8 r f r2 ρ=r2 ρ':=by unfold O8;rw[h,hf]
def aq9(h:t ρ=Z true):rIf t a b ρ=a ρ:=by unfold rIf;rw[h];rfl
def ab8(h:f ρ=Z z):T9 x f ρ=Z (x,ρ):=by unfold T9;rw[h];rfl
def av6(hg:g ρ=Z ds)(h:R ds=o):O2 R g ρ=o.map λx=>(x,ρ):=by unfold O2;rw[hg];subst h;rfl
def Co(r:RD)(f:DS):Prop:=∀ρ fl,f ρ=Z fl->r ρ=O
def CoF(R:List D->Option Str)(F:List D->Option D):Prop:=∀ds d,F ds=Z d->R ds=O
def G3:Co rNo f:=λ_ _ _=>rfl
def bX2:Co (T9 x e) B8:=λ_ _ h=>nomatch h
def am1(h1:Co a f)(h2:Co b g):Co (rIf t a b) (sIf t f g):=λρ fl h=>by
 obtain⟨c,e,h⟩:=xbo h;unfold rIf;rw[e,xbs];cases c with
 | true=>exact h1 ρ fl h
 | false=>exact h2 ρ fl h
def J9(h1:Co r f)(h2:Co r2 f2):Co (O8 r f r2) (A7 f f2):=λρ fl h=>by
 obtain⟨x,e,h⟩:=xbo h;unfold O8;rw[h1 ρ x e,e];cases x with
 | nx ρ'=>exact h2 ρ' fl h
 | _=>rfl
def cX8(h:CoF R F)(e:A3 F g ρ=Z d):O2 R g ρ=O:=by
 obtain⟨ds,e1,e2⟩:=xbo e;unfold O2;rw[e1,xbs,h ds d e2];rfl
def U2(h:CoF R F):Co (O2 R g) (B3 i<|A3 F g):=λ_ _ e=>by
 obtain⟨d,e,_⟩:=xmo e;exact cX8 h e
def v9(h:CoF R F):Co (O2 R g) (B1<|A3 F g):=λ_ _ e=>by
 obtain⟨d,e,_⟩:=xmo e;exact cX8 h e
def v8(h:Co r f):CoF (af6 r n) (C4 f n):=λds d e=>by
 obtain⟨fl,e,_⟩:=xbo e;unfold af6;rw[h _ fl e];rfl
def w4:Co (rIf t (T9 x e) rNo) (sIf t B8 C2):=am1 bX2 G3
def aP5:CoF L7 L9:=v8<|J9 G3 (J9 w4 G3)
def bu7:CoF X4 X6:=v8<|J9 (U2 aP5) (J9 G3 G3)
def y9:CoF L4 J4:=v8<|J9 w4 (v9<|v8 (J9 (U2 aP5) G3))
def bX1:CoF K0 M6:=v8<|J9 G3 (J9 (U2 y9)<|J9 w4 (J9 w4<|v9 bu7))
def y8:CoF K2 G5:=v8<|J9 (am1 G3 G3) (J9 (U2 y9)<|J9 w4 G3)
def ap0:CoF G4 E7:=v8<|J9 (am1 G3 G3) (v9 bu7)
def bm8:CoF O9 P1:=v8<|J9 G3 (J9 G3<|J9 (U2 y8) (J9 w4<|J9 (U2 ap0) (J9 w4 G3)))
def bX3:CoF P0 P2:=v8<|J9 G3 (J9 G3<|J9 (U2 y8) (J9 w4<|v9 ap0))
def cm6:CoF ap2 aX6:=v8<|J9 (am1 (v9 bm8) G3) (J9 (am1 (v9 bX3) G3)<|v9 bX1)
def p8(h:Z9 n ds=ρ)(e:r ρ=Z (x,ρ1)):af6 r n ds=Z x:=by
 unfold af6;rw[h,e];rfl
def V1(c:Co r f)(hf:f ρ=Z (.nx ρ')):O8 r f r2 ρ=r2 ρ':=cy2 (c ρ _ hf) hf
def bp9(hg:g ρ=Z ds)(h:R ds=Z ("NotSo" : Str)):O8 (O2 R g) f r2 ρ=Z (("NotSo" : Str),ρ):=v5<|(av6 hg h).trans rfl
def aP6(g:Wl l)(hn:Nm nm)(hf:fnd l nm=O):L4 [B5 w h l,nm]=Z ("NotSo" : Str):=by
 have t:=cP4 (w:=w) (h:=h) g hn;rw[hf]at t;obtain⟨z,hz⟩:=fsB hn "no node has the name " (by decide) (i:=1) (ρ:=[‹B5 w h l›,‹nm›]) rfl;exact p8 rfl<|v5 ((aq9 t).trans<|ab8 hz)
def aN6(g:Wl l)(hp:Nm pa\/pa=.str "")(hk:kd l pa=O):K2 [B5 w h l,pa]=Z ("NotSo" : Str):=by
 have t0:=cA6 (a:=B5 w h l) (r:=[O]) hp;unfold kd at hk;cases s0:same pa (.str "") with
 | true=>rw[s0,if_pos rfl]at hk;cases hk
 | false =>
  rw[s0]at t0 hk;rw[if_neg (by simp)]at hk;have np:=cq0 hp s0;cases q:fnd l pa with
  | none=>exact p8 rfl<|(V1 (am1 G3 G3)<|(D7 t0).trans rfl).trans (bp9 (ds:=[B5 w h l,pa]) rfl<|aP6 g np q)
  | some n =>
   rw[q,xbs]at hk;have f1:=ah6 (w:=w) (h:=h) g np q;have ig:=D3 n;obtain⟨z,hz⟩:=fsA np " is no group" (by decide) (i:=1) (ρ:=[‹B5 w h l›,‹pa›,‹n.d›]) rfl;refine p8 rfl<|(V1 (am1 G3 G3)<|(D7 t0).trans rfl).trans ((V1 (U2 y9) ?_).trans<|v5 ((aq9 ?_).trans<|ab8 hz))
   .exists evD,f1
   .cases n with
    | group=>cases hk
    | layer=>exists evD,ig
    | tone=>exists evD,ig
def bG6(g:Gp N l)(hN:N<=400)(d:Dg e)(hv:e.isV=true)(hk:dn l e=O):K0 [B5 w h l,e.d]=Z ("NotSo" : Str):=by
 have W:=g.wl hN;have np:=nmV d hv;have tg:=Z5 e;unfold dn at hk;rw[if_pos hv]at hk;cases q:fnd l e.nm with
 | none=>exact p8 rfl ((V1 G3 (by exists evD,Z9,tg;rfl)).trans<|bp9 (ds:=[B5 w h l,e.nm]) rfl (aP6 W np q))
 | some n =>
  rw[q,xbs]at hk;have f1:=ah6 (w:=w) (h:=h) W np q;obtain⟨n1,n2⟩:=N5 q;have ok:=(ap1 3 l g.dp g.ok n n1).1;have hh:=bS4 e hv n;have z0:∀T:Str,T.length<=1000->∃z,ao7 fL [dRp (A1 2),dC (.str T)] [‹B5 w h l›,‹e.d›,‹e.nm›,‹n.d›]=Z z:=λT hT=>fsA np T hT rfl
  cases qh:e.has n with
  | false =>
   rw[qh]at hh;obtain⟨z,hz⟩:=z0 " has not what the deed changes" (by decide);refine p8 (ρ:=[‹B5 w h l›,‹e.d›,O,O]) rfl<|(V1 (ρ':=[‹B5 w h l›,‹e.d›,‹e.nm›,O]) G3 ?_).trans ((V1 (U2 y9) ?_).trans<|v5 ((aq9 ?_).trans<|ab8 hz))
   .exists evD,tg
   .exists evD,f1
   .exists evD,hh
  | true =>
   rw[qh]at hh;obtain⟨v,b,v1,v2,v3,v4⟩:=bG7 e hv n ok d.de.sz qh;have ol:=bL4 e;cases b with
   | false=>obtain⟨n',o1,_⟩:=v4 rfl;rw[o1]at hk;cases hk
   | true =>
    obtain⟨z,hz⟩:=z0 " has something else than what the deed tells as old" (by decide);refine p8 (ρ:=[‹B5 w h l›,‹e.d›,O,O]) rfl<|(V1 (ρ':=[‹B5 w h l›,‹e.d›,‹e.nm›,O]) G3 ?_).trans ((V1 (ρ':=[‹B5 w h l›,‹e.d›,‹e.nm›,‹n.d›]) (U2 y9) ?_).trans<|(V1 w4 ?_).trans (v5<|(aq9 ?_).trans (ab8 hz)))
    .exists evD,tg
    .exists evD,f1
    .exists evD,hh
    .exists evD,v1,ol,v2
def cy6(S:Sz w h)(g:Gp N l)(hN:N<=400)(d:Dg (.put pa k x))(hk:dn l (.put pa k x)=O):O9 [B5 w h l,(De.put pa k x).d]=Z ("NotSo" : Str):=by
 have W:=g.wl hN;have hp:Nm pa\/pa=.str "" := bq7 d;have tg:G8 [(De.put pa k x).d]=Z pa:=Z5 (.put pa k x);have nu:M7 [(De.put pa k x).d]=Z (.int k):=by rw[gm];rfl
 cases q:kd l pa with
 | none=>exact p8 (ρ:=s6 w h l (.put pa k x) O O O O) rfl ((V1 G3 (by exists evD,s6,tg;rfl)).trans<|(V1 G3 (by exists evD,nu;rfl)).trans (bp9 (ds:=[B5 w h l,pa]) (by rfl)<|aN6 W hp q))
 | some ns =>
  have f1:=ai1 (w:=w) (h:=h) W hp q;have t3:=bJ2 (w:=w) (h:=h) (l:=l) (e:=.put pa k x) (a:=‹pa›) (k:=k) (ns:=ns);by_cases hl:k<=ns.length
  .rw[decide_eq_false (by grind)]at t3;have w1:=am7 (w:=w) (h:=h) W hp q (ns.take k++x::ns.drop k);obtain⟨b1,_⟩:=cp2 S g hN d q hl;rw[hk]at b1;refine p8 (ρ:=s6 w h l (.put pa k x) O O O O) rfl ((V1 G3 (by exists evD,s6,tg;rfl)).trans<|(V1 G3 (by exists evD,nu;rfl)).trans ((V1 (U2 y8) (by exists evD,s6,f1)).trans<|(V1 w4<|(D7 t3).trans rfl).trans ((V1 (ρ':=s6 w h l (.put pa k x) (‹pa›) (‹.int k›) (‹↥ns›)<|‹B5 w h (wk l pa (ns.take k++x::ns.drop k))›) (U2 ap0) ?_).trans<|v5 ((aq9 ?_).trans<|ab8 (z:=.str "with the node put there it is no picture") rfl))))
   .simp only[B3,A3,aY9 g hN q hl,xbs,w1,xms,s6,xw0,xw1]
   .exists evD,s6,b1,dv
  .rw[decide_eq_true (by grind)]at t3;exact p8 (ρ:=s6 w h l (.put pa k x) O O O O) rfl ((V1 G3 (by exists evD,s6,tg;rfl)).trans<|(V1 G3 (by exists evD,nu;rfl)).trans ((V1 (U2 y8) (by exists evD,s6,f1)).trans<|v5 ((aq9 t3).trans<|ab8 (z:=.str "the number is greater than there are nodes") rfl)))
def cA7(g:Gp N l)(hN:N<=400)(d:Dg (.out pa k x))(hk:dn l (.out pa k x)=O):P0 [B5 w h l,(De.out pa k x).d]=Z ("NotSo" : Str):=by
 have W:=g.wl hN;have hp:Nm pa\/pa=.str "" := bq7 d;have tg:G8 [(De.out pa k x).d]=Z pa:=Z5 (.out pa k x);have nu:M7 [(De.out pa k x).d]=Z (.int k):=by rw[gm];rfl
 cases q:kd l pa with
 | none=>exact p8 (ρ:=s5 w h l (.out pa k x) O O O) rfl ((V1 G3 (by exists evD,s5,tg;rfl)).trans<|(V1 G3 (by exists evD,nu;rfl)).trans (bp9 (ds:=[B5 w h l,pa]) (by rfl)<|aN6 W hp q))
 | some ns =>
  have f1:=ai1 (w:=w) (h:=h) W hp q;have t3:=cp8 (w:=w) (h:=h) g hN d q;cases qa:(ns[k]?).any λy=>fD y.d x.d with
  | false =>
   rw[qa]at t3;refine p8 (ρ:=s5 w h l (.out pa k x) O O O) rfl ((V1 G3 (by exists evD,s5,tg;rfl)).trans<|(V1 G3 (by exists evD,nu;rfl)).trans ((V1 (U2 y8) ?_).trans<|v5 ((aq9 t3).trans<|ab8 (z:=.str "the node does not stand at the number") rfl)))
   exists evD,s5,f1
  | true =>
   have dp:fW (wk l pa<|ns.take k++ns.drop (k+1))<=3:=by
    have r:=aA5 g.nd q (ns.take k++ns.drop (k+1));refine aO (r.dps<|aV2 λn hn=>.inr ?_) g.dp;rcases az.mp hn with z|z
    .exact bq z
    .exact br z
   rw[bU5,q,xbs,De.ls,qa,if_pos rfl,xms,xbs,if_pos dp]at hk;cases hk
def cl7(S:Sz w h)(g:Gp N l)(hN:N<=400)(d:Dg e)(hk:dn l e=O):ap2 [B5 w h l,e.d]=Z ("NotSo" : Str):=by
 obtain⟨i1,i2⟩:=aO8 e;have t1:(J5<|A3 m7 (A0 (A1 1) A2)) [‹B5 w h l›,‹e.d›]=Z e.isP:=by exists evD,i1
 have t2:(J5<|A3 m8 (A0 (A1 1) A2)) [‹B5 w h l›,‹e.d›]=Z e.isO:=by exists evD,i2
 cases hv:e.isV with
 | true =>
  have z1:e.isP=false:=by cases e<;>first|rfl|cases hv
  have z2:e.isO=false:=by cases e<;>first|rfl|cases hv
  rw[z1]at t1;rw[z2]at t2;exact p8 rfl<|(V1 (am1 (v9 bm8) G3)<|(D7 t1).trans rfl).trans ((V1 (am1 (v9 bX3) G3)<|(D7 t2).trans rfl).trans<|(av6 (ds:=[B5 w h l,e.d]) rfl<|bG6 g hN d hv hk).trans rfl)
 | false =>
  cases e with
  | put pa k x=>exact p8 rfl<|v5 ((aq9 t1).trans<|(av6 (ds:=[B5 w h l,(De.put pa k x).d]) rfl<|cy6 S g hN d hk).trans rfl)
  | out pa k x=>exact p8 rfl<|(V1 (am1 (v9 bm8) G3)<|(D7 t1).trans rfl).trans (v5<|(aq9 t2).trans ((av6 (ds:=[B5 w h l,(De.out pa k x).d]) rfl<|cA7 g hN d hk).trans rfl))
  | _=>cases hv
end Sh
namespace Lk80
open PySem PySem.Spec PyProof.Rows L2 G Sh
def top(i:Nat):Stmt:=PySem.Challenge.pw_glazework_k80_deeds.main.body.getD i<|.Pass ⟨0,0,0,0⟩
def P7:Str->Option D:=cx6 (A7 (B3 1<|L6 (A0 (bm5 0 λx=>([("NoName", false),("NotSo", true)]:List (Str×Bool)).lookup x)<|A0 (bm5 0 λx=>([("NoName", true),("NotSo", false)]:List (Str×Bool)).lookup x) (A0 (bm5 0 λx=>([("NoName", false),("NotSo", false)]:List (Str×Bool)).lookup x) A2)))<|A7 (sIf (P8 (tB2 neD (bm6 (A1 1)<|dC (.bool true)) ⇑1)<|K5 (J5<|bm5 0 λx=>([("NoName", true),("NotSo", true)]:List (Str×Bool)).lookup x)) (B1<|B4 (A0 (dC<|.str "refused")<|A0 (ax2 ⇑1) A2)) C2) (B1<|B4 (A0 (dC<|.str "refused")<|A0 (aE1 (A1 1)<|dC (.bool true)) A2))) 2
def aJ7:DS:=(aY6 (al6 ["NoName", "NotSo"]<|O2 ap2 (A0 (A1 0)<|A0 (A1 1) A2)) (B1<|A3 aX6 (A0 (A1 0)<|A0 (A1 1) A2)) 2<|B1 (ao8 2 P7))
def R5:List D->Option D:=C4 aJ7 3
def am3:DS:=(A7 (B3 0<|B4 (A0 ⇑1<|A0 ⇑1 (A0 (B4<|A0 (B4<|A0 (dC<|.str "tone") (A0 (dC<|.str "a")<|A0 (dC<|.str "grey") (A0 (B4<|A0 ⇑1 (A0 ⇑1 A2))<|A0 (dC<|.bool true) A2))) A2) A2)))<|A7 (aq4 1<|D1 1 [0] (K1<|B4 (A0 (dC<|.str "a")<|A0 (dC<|.str "b") A2)) (B9 0) F6 (A3 R5<|A0 (A1 1) (A0 (B4<|A0 (dC<|.str "put") (A0 (dC<|.str "")<|A0 ⇑1 (A0 (B4<|A0 (dC<|.str "tone") (A0 (A1 0)<|A0 (dC<|.str "grey") (A0 (B4<|A0 ⇑1 (A0 ⇑2 A2))<|A0 (dC<|.bool true) A2))) A2))) A2))) (B1<|A5 eqD (A1 1) (L6<|A0 (B4<|A0 (dC<|.str "refused") (A0 ⇑0 A2)) (A0 (B4<|A0 ⇑1 (A0 ⇑1<|A0 (A5 B0 (dIx (A8 0) ⇑2)<|B4 (A0 (B4<|A0 (dC<|.str "tone") (A0 (dC<|.str "b")<|A0 (dC<|.str "grey") (A0 (B4<|A0 ⇑1 (A0 ⇑2 A2))<|A0 (dC<|.bool true) A2))) A2)) A2)) A2))))
def w6:List D->Option D:=C4 am3 2
def al1:DS:=(B3 1<|A3 ai7 (A0 (A1 0)<|A0 ⇑0 (A0 ⇑7 A2)))
def al0:DS:=(B3 2<|A3 u7 (A0 (A1 0)<|A0 ⇑30 (A0 ⇑4<|A0 (A1 1) A2)))
def ak9:DS:=(B3 3<|A3 ah4 (A0 (A1 0)<|A0 ⇑800 (A0 (A1 2)<|A0 (dIx (A8 1) ⇑6) A2)))
def ak8:DS:=(B3 4<|A3 k8 (A0 (A1 2)<|A0 (A1 3) A2))
def ak7:DS:=(sIf (Z8 (tB2 isB (A1 4)<|dC .none)<|tB2 neD (dIx (A8 3) ⇑0) (dC<|.str "put")) (B1<|dC (.bool false)) C2)
def ak6:DS:=(B3 5<|A5 B0 (D6 (A1 3) C7<|B6 (ax2 ⇑2)) (B4<|A0 (dIx (A8 3)<|ax2 ⇑1) (A0 (dIx (A8 3)<|ax2 ⇑2) A2)))
def ak5:DS:=(sIf (tB2 (inD false) (dIx (A8 3) ⇑0)<|B4 (A0 (dC<|.str "put")<|A0 (dC<|.str "out") A2)) (B3 5<|A5 B0 (B4<|A0 (dIx (qN<|A0 (dC<|.str "put") (A0 (dC<|.str "out") A2))<|be3 (A5 eqD (dIx (A8 3) ⇑0)<|dC (.str "put"))) A2) (D6 (A1 3) (B6 ⇑1) C7)) C2)
def ak4:DS:=(sIf (P8 (tB2 neD (A3 n4<|A0 (A1 3) A2)<|A1 5)<|Z8 (tB2 aw2 (A1 4)<|dC .none) (tB2 neD (A3 R5<|A0 (A1 4) (A0 (A1 5) A2))<|A1 2)) (B1<|dC (.bool false)) C2)
def sb:DS:=(A7 (B3 4<|A3 k8 (A0 (A1 2)<|A0 (A1 6) A2))<|A7 (sIf (tB2 isB (A1 4)<|dC .none) (B3 4<|B4 (A0 (dC<|.str "refused")<|A0 ⇑0 A2)) C2) (sIf (tB2 neD (A3 R5<|A0 (A1 2) (A0 (A1 6) A2))<|A1 4) (B1<|dC (.bool false)) C2))
def ak3:DS:=(W9 (K1<|A5 B0 (L6<|A0 (A1 3) A2) (A3 j9<|A0 (A1 0) (A0 (A1 3)<|A0 (A1 2) A2))) (B9 6) sb)
def aK9:DS:=(B1<|dC (.bool true))
def ap6:DS:=(A7 al1<|A7 al0 (A7 ak9<|A7 ak8 (A7 ak7<|A7 ak6 (A7 ak5<|A7 ak4 (A7 ak3 aK9)))))
def ad3:List D->Option D:=C4 ap6 7
def bY5:DS:=(B1<|T7 (A3 w6 A2) (A3 ad3<|A0 (A1 0) A2))
def bv8:List D->Option D:=C4 bY5 1
end Lk80
namespace Lk80
open PySem G L2 Sh
abbrev rf:D:=.tuple [.str "refused", .int 0]
def cy0:P7 ("NotSo" : Str)=Z rf:=by kernel_rfl
def aj7(w h:Nat):Option (List Nd)->D
 | some l=>B5 w h l
 | none=>rf
def aD4{w h N:Nat}(S:Sz w h){l:List Nd}(g:Gp N l)(hN:N<=400){e:De}(d:Dg e):R5 [B5 w h l,e.d]=Z (aj7 w h<|dn l e):=by
 refine B2 (g:=aJ7) (ρ:=[‹B5 w h l›,‹e.d›,O]) rfl ?_;unfold aJ7 aY6;cases q:dn l e with
 | some l' =>
  have f1:=cl6 S g hN d q;have f2:=cm6 _ _ f1
  have r0:al6 ["NoName", "NotSo"] (O2 ap2<|A0 (A1 0) (A0 (A1 1) A2)) [‹B5 w h l›,‹e.d›,O]=O:=by
   unfold al6;rw[av6 (ds:=[B5 w h l,e.d]) rfl f2];rfl
  rw[r0]
  exists evD,f1
  rfl
 | none =>
  have r0:al6 ["NoName", "NotSo"] (O2 ap2<|A0 (A1 0) (A0 (A1 1) A2)) [‹B5 w h l›,‹e.d›,O]=Z (("NotSo" : Str),[‹B5 w h l›,‹e.d›,O]):=by
   unfold al6;rw[av6 (ds:=[B5 w h l,e.d]) rfl (cl7 S g hN d q)];show(if(["NoName", "NotSo"]:List Str).contains "NotSo" then _ else _)=_;rw[if_pos (by decide +kernel)]
  rw[r0];have hx:(B1<|ao8 2 P7) ([‹B5 w h l›,‹e.d›,O].set 2<|Z (.exc "NotSo"))=Z (.rt rf):=by simp only[xw0,xw1,B1,ao8,xg0,xg1,cy0,xms]
  show(match (B1<|ao8 2 P7) ([‹B5 w h l›,‹e.d›,O].set 2<|Z (.exc "NotSo")) with|some (.rt d)=>Z (Fl.rt d)|_=>O)=_;rw[hx];rfl
abbrev tg(x:Str)(i:Int):D:=.tuple [.str "tone", .str x,.str "grey", .tuple [.int 1,.int i],.bool true]
abbrev nt(x:Str)(s:Rat):Nd:=.tone (.str x) .grey s true
def bN7:w6 []=Z (.bool true):=by
 have half2:fr j7=.tuple [.int 1,.int 2]:=bt6;have one2:fr 1=.tuple [.int 1,.int 1]:=rfl;have na:Nm (.str "a"):=⟨"a", rfl,aH1 (by decide +kernel),by decide,by decide⟩;have nb:Nm (.str "b"):=⟨"b", rfl,aH1 (by decide +kernel),by decide,by decide⟩
 have g:Gp 6 [nt "a" 1]:=by
  refine⟨?_,?_,?_,?_,?_,?_⟩
  .rw[fT,fT,fS];exact⟨bi7,trivial⟩
  .rw[fZ,fZ,fY];exact⟨trivial,trivial⟩
  .rw[fW,fW,fV];decide
  .rw[gc,gc,gb];intro d hd;rw[ba,aw]at hd;rw[hd];exact na
  .rw[gc,gc,gb];simp
  .rw[gc,gc,gb];simp
 have dg:∀x:Str,Nm (.str x)->Dg (.put (.str "") 1<|nt x j7):=λx hx=>by
  refine⟨⟨.inr ⟨rfl,rfl⟩,trivial,λpa k y h=>?_⟩,⟨?_,?_,?_⟩,λpa k y h=>?_⟩
  .rcases h with h|h<;>cases h
   rw[gb,fV];exact⟨λd hd=>by rw[aw.mp hd];exact N0 hx,by decide,by simp⟩
  .rw[fS];exact aU6
  .rw[fY];trivial
  .rw[gb];simp
  .rcases h with h|h<;>cases h
   rw[gb];exact⟨λd hd=>by rw[aw.mp hd];exact hx,by simp⟩
 have S:Sz 1 1:=⟨by decide,by decide,by decide,by decide⟩;have k0:kd [nt "a" 1] (.str "")=Z [nt "a" 1]:=by unfold kd;rw[M4,if_pos rfl]
 have da:dn [nt "a" 1] (.put (.str "") 1<|nt "a" j7)=O:=by
  rw[bU4 rfl]
  have:X3 [nt "a" 1] (.put (.str "") 1<|nt "a" j7)=true:=by
   show((gb<|nt "a" j7).any λd=>(gc [nt "a" 1]).any λc=>same c d)=true;rw[gb,gc,gc,gb];simp[M4]
  rw[this,if_pos rfl]
 have db:dn [nt "a" 1] (.put (.str "") 1<|nt "b" j7)=Z [nt "a" 1,nt "b" j7]:=by
  have c:X3 [nt "a" 1] (.put (.str "") 1<|nt "b" j7)=false:=by
   show((gb<|nt "b" j7).any λd=>(gc [nt "a" 1]).any λc=>same c d)=false;rw[gb,gc,gc,gb];have:same (.str "a") (.str "b")=false:=W1 (by intro z;injection z with z;exact absurd z<|by decide +kernel);simp[this]
  have ls:(De.put (.str "") 1<|nt "b" j7).ls [nt "a" 1]=Z [nt "a" 1,nt "b" j7]:=by rw[De.ls,if_pos (by simp)];rfl
  have w0:wk [nt "a" 1] (.str "") [nt "a" 1,nt "b" j7]=[nt "a" 1,nt "b" j7]:=by unfold wk;rw[M4,if_pos rfl]
  have:=bu0 (l:=[nt "a" 1]) (e:=.put (.str "") 1 (nt "b" j7)) rfl c k0 ls (by
   rw[show(De.put (.str "") 1 (nt "b" j7)).nm=.str "" from rfl,w0,fW,fW,fW,fV,fV];decide)
  rw[show(De.put (.str "") 1<|nt "b" j7).nm=.str "" from rfl,w0]at this;exact this
 have ta:=aD4 S g (by decide) (dg "a" na);have tb:=aD4 S g (by decide) (dg "b" nb);rw[da,gm]at ta;rw[db,gm]at tb;simp only[B5,aj7,fR,fQ,Rul.s,half2,one2]at ta tb;have ta:R5 [.tuple [.int 1,.int 1,.tuple [tg "a" 1]],.tuple [.str "put", .str "", .int 1,tg "a" 2]]=Z rf:=ta;have tb:R5 [.tuple [.int 1,.int 1,.tuple [tg "a" 1]],.tuple [.str "put", .str "", .int 1,tg "b" 2]]=Z (.tuple [.int 1,.int 1,.tuple [tg "a" 1,tg "b" 2]]):=tb;refine B2 (g:=am3) (ρ:=[O,O]) rfl ?_
 have cp:D1 1 [0] (K1<|B4 (A0 (dC<|.str "a")<|A0 (dC<|.str "b") A2)) (B9 0) F6 (A3 R5<|A0 (A1 1) (A0 (B4<|A0 (dC<|.str "put") (A0 (dC<|.str "")<|A0 ⇑1 (A0 (B4<|A0 (dC<|.str "tone") (A0 (A1 0)<|A0 (dC<|.str "grey") (A0 (B4<|A0 ⇑1 (A0 ⇑2 A2))<|A0 (dC<|.bool true) A2))) A2))) A2)) [‹.tuple [.int 1,.int 1,.tuple [tg "a" 1]]›,O]=Z [rf,.tuple [.int 1,.int 1,.tuple [tg "a" 1,tg "b" 2]]]:=by
  refine V2 (l:=[(("a" : Str),rf),("b", .tuple [.int 1,.int 1,.tuple [tg "a" 1,tg "b" 2]])]) (h:=λz=>.str z.1) (f:=λz=>z.2) (r:=[‹.tuple [.int 1,.int 1,.tuple [tg "a" 1]]›]) rfl rfl (by show 2<=1000;decide) λz hz=>?_
  simp only[ao,aB,or_false]at hz;rcases hz with rfl|rfl
  .exists evD,ta
  .exists evD,tb
 refine(A6 (ρ':=[‹.tuple [.int 1,.int 1,.tuple [tg "a" 1]]›,O]) rfl).trans ?_
 rw[A6 (ρ':=[‹.tuple [.int 1,.int 1,.tuple [tg "a" 1]]›,‹.list [rf,.tuple [.int 1,.int 1,.tuple [tg "a" 1,tg "b" 2]]]›]) (by
  simp only[aq4,cp,xms,xw0,xw1])]
 have k1:=aC9 (a:=[tg "a" 1]) (b:=[tg "b" 2]) (by show 2<=1000;decide);have eq:eqD (.list [rf,.tuple [.int 1,.int 1,.tuple [tg "a" 1,tg "b" 2]]]) (.list [rf,.tuple [.int 1,.int 1,.tuple ([tg "a" 1]++[tg "b" 2])]])=Z (.bool true):=by kernel_rfl
 simp only[B1,A5,L6,B4,A0,A2,dC,A1,dIx,A8,av4,aI0,cM0,cL9,cL8,xg0,xg1,xbs,xms,k1,eq]
def bk7{pa:D}(hp:Nm pa\/pa=.str "")(k:Nat){x:Nd}(ok:x.Ok)(nr:x.near)(nd:x.nms.Nodup)(nm:∀d∈x.nms,Nm d)(dp:x.dp<=4)(len:x.nms.length<=100):Dg (.put pa k x)/\Dg (.out pa k x):=by
 have nmo:∀e:De,e.isV=false->e.nm=pa->Nm e.nm\/(e.isV=false/\e.nm=.str ""):=λe hv he=>by
  rw[he];rcases hp with q|q
  .exact .inl q
  .exact .inr ⟨hv,q⟩
 constructor
 .exact⟨⟨nmo _ rfl rfl,trivial,λpa' k' x' h=>by rcases h with h|h<;>cases h;exact⟨λd hd=>N0<|nm d hd,dp,len⟩⟩,⟨ok,nr,nd⟩,λpa' k' x' h=>by rcases h with h|h<;>cases h;exact⟨nm,len⟩⟩
 .exact⟨⟨nmo _ rfl rfl,trivial,λpa' k' x' h=>by rcases h with h|h<;>cases h;exact⟨λd hd=>N0<|nm d hd,dp,len⟩⟩,trivial,λpa' k' x' h=>by rcases h with h|h<;>cases h;exact⟨nm,len⟩⟩
def aI4{e:De}(hv:e.isV=true)(nm:Nm e.nm)(sz:e.sz)(gv:e.gv):Dg e:=by
 have no:∀pa k x,¬(e=.put pa k x\/e=.out pa k x):=λpa k x z=>by rcases z with z|z<;>(rw[z]at hv;cases hv)
 exact⟨⟨.inl nm,sz,λpa k x z=>(no pa k x z).elim⟩,gv,λpa k x z=>(no pa k x z).elim⟩
def an3(n nest y:Nd):List De:=[.put y.nm 0 n,.put (.str "") 0 y,.man y.nm .cut .over,.plc y.nm 0 0 1 1,.spt y.nm 1 1 q0 q0,.put y.nm 0 nest,.str y.nm 1 j7,.out (.str "") 0 y]
def ob:DS:=(A7 (B3 8<|dIx (A8 7) ⇑1)<|A7 (B3 4<|A5 B0 (A1 4) (L6<|A0 (B4<|A0 (dC<|.str "put") (A0 (A1 8)<|A0 ⇑0 (A0 (A1 5) A2))) (A0 (B4<|A0 (dC<|.str "put") (A0 (dC<|.str "")<|A0 ⇑0 (A0 (A1 7) A2)))<|A0 (B4<|A0 (dC<|.str "manner") (A0 (A1 8)<|A0 (dC<|.str "cut") (A0 (dC<|.str "over") A2))) A2))) (A7 (B3 4<|A5 B0 (A1 4) (L6<|A0 (B4<|A0 (dC<|.str "place") (A0 (A1 8)<|A0 (B4<|A0 ⇑0 (A0 ⇑0 A2)) (A0 (B4<|A0 ⇑1 (A0 ⇑1 A2)) A2))) (A0 (B4<|A0 (dC<|.str "spot") (A0 (A1 8)<|A0 ⇑1 (A0 ⇑1<|A0 (A1 3) (A0 (A1 3) A2)))) A2)))<|B3 4 (A5 B0 (A1 4)<|L6 (A0 (B4<|A0 (dC<|.str "put") (A0 (A1 8)<|A0 ⇑0 (A0 (A1 6) A2)))<|A0 (B4<|A0 (dC<|.str "strength") (A0 (A1 8)<|A0 (B4<|A0 ⇑1 (A0 ⇑1 A2)) (A0 (B4<|A0 ⇑1 (A0 ⇑2 A2)) A2))) (A0 (B4<|A0 (dC<|.str "out") (A0 (dC<|.str "")<|A0 ⇑0 (A0 (A1 7) A2))) A2)))))
def aW2{ρ:Rho}{i:Nat}{F:DE}{X Y:List D}(h1:A1 i ρ=Z (.list X))(h2:F ρ=Z (.list Y))(hl:X.length+Y.length<=16777216):B3 i (A5 B0 (A1 i) F) ρ=Z (.nx<|ρ.set i (‹.list (X++Y)›)):=by
 unfold B3 A5;rw[h1,h2,xbs,xbs,aE4 hl];rfl
abbrev ob9(a0 a1 a2:Option B)(L:List D)(n nest:Nd)(a7 a8:Option B):Rho:=[a0,a1,a2,‹q0.d›,‹.list L›,‹n.d›,‹nest.d›,a7,a8]
def cT7(n nest y:Nd)(L:List De)(hl:L.length<=10000)(a0 a1 a2 a8:Option B):ob (ob9 a0 a1 a2 (L.map gm) n nest (‹y.d›) a8)=Z (.nx<|ob9 a0 a1 a2 ((L++an3 n nest y).map gm) n nest (‹y.d›) (‹y.nm›)):=by
 have i1:dIx (A8 7) ⇑1 (ob9 a0 a1 a2 (L.map gm) n nest (‹y.d›) a8)=Z y.nm:=by cases y<;>(rw[fQ];rfl)
 have e:(L++an3 n nest y).map gm=L.map gm++[(De.put y.nm 0 n).d,(De.put (.str "") 0 y).d,(De.man y.nm .cut .over).d]++[(De.plc y.nm 0 0 1 1).d,(De.spt y.nm 1 1 q0 q0).d]++[(De.put y.nm 0 nest).d,(De.str y.nm 1 j7).d,(De.out (.str "") 0 y).d]:=by rw[bj,av,av];rfl
 rw[e];have ll:(L.map gm).length=L.length:=ag ..;refine(A6 (ρ':=ob9 a0 a1 a2 (L.map gm) n nest (‹y.d›)<|‹y.nm›)<|by simp only[B3,i1,xms,ob9,xw0,xw1]).trans ?_;refine(A6<|aW2 (i:=4) (X:=L.map gm) (Y:=[(De.put y.nm 0 n).d,(De.put (.str "") 0 y).d,(De.man y.nm .cut .over).d]) rfl (by rw[gm,gm,gm];rfl) (by rw[ll];simp;grind)).trans ?_;refine(A6<|aW2 (i:=4) (Y:=[(De.plc y.nm 0 0 1 1).d,(De.spt y.nm 1 1 q0 q0).d]) rfl (by rw[gm,gm];rfl) (by rw[ae,ll];simp;grind)).trans ?_;exact(aW2 (i:=4) (Y:=[(De.put y.nm 0 nest).d,(De.str y.nm 1 j7).d,(De.out (.str "") 0 y).d]) rfl (by rw[gm,gm,gm];rfl) (by rw[ae,ae,ll];simp;grind)).trans rfl
def oA(e:De):List De:=[e.rn (.str "zzzzzz"),e.inv,.shw (.str "zzzzzz") true false]
def oB(n:Nd):List De:=[.put (.str "") 9 n,.out (.str "") 0 n,.put (.str "zzzzzz") 0 n]
def others(e:De)(l:List Nd)(n nest:Nd):List De:=oA e++oB n++((gk l).map<|an3 n nest).flatten
theorem br1(n nest:Nd)(a0 a1 a2:Option B):∀(Y:List Nd) (L:List De) (a7 a8:Option B),L.length+8*Y.length<=9000->∃b7 b8,j8 (B9 7) ob (Y.map fQ) (ob9 a0 a1 a2 (L.map gm) n nest a7 a8)=Z (.nx<|ob9 a0 a1 a2 ((L++(Y.map<|an3 n nest).flatten).map gm) n nest b7 b8)
 | [],L,a7,a8,_=>⟨a7,a8,by simp[j8]⟩
 | y::Y,L,a7,a8,hl=>by
  rw[aD]at hl;obtain⟨b7,b8,e⟩:=br1 n nest a0 a1 a2 Y (L++an3 n nest y) (‹y.d›) (‹y.nm›) (by rw[ae];show _+8+_<=_;grind);refine⟨b7,b8,?_⟩;rw[xmc,j8];show(ob<|ob9 a0 a1 a2 (L.map gm) n nest (‹y.d›) a8).bind _=_;rw[cT7 n nest y L (by grind)];simp only[xbs];rw[e,xmc,bJ,av]
def cy4:q0.ok 8:=⟨⟨Bd.zero.mono (by decide),by decide⟩,Bd.zero.mono (by decide),Bd.zero.mono (by decide),Bd.zero.mono (by decide),Rat.le_refl,Rat.le_refl,Rat.le_refl⟩
def ba1(n:Nd):Nd:=.group (.str "qqqqqr") .over 1 true [n]
def U4(n:Nd):Nd:=.group (.str "qqqqqq") .over 1 true [ba1 n]
def bx6{w h N:Nat}{l:List Nd}(g:Gp N l)(hN:N<=60)(ns:List Int)(hn:ns.length<=63){e:De}(d:Dg e)(di:Dg e.inv):∃L:List De,j9 [scr ns,e.d,B5 w h l]=Z (.list<|L.map gm)/\(∀x∈L,Dg x)/\L.length<=5000:=by
 obtain⟨n,en,no,nd,_,nnm,nnr⟩:=aU0 ns hn 1010 (by decide) (.str "zzzzzz") .cut;have en:S8 [scr ns,.int 1010,.str "zzzzzz", .str "cut"]=Z n.d:=en
 have nms:n.nms=[.str "zzzzzz"]:=by
  cases n with
  | group=>rw[fV]at nd;grind
  | layer=>rw[fX]at nnm;rw[gb,nnm]
  | tone=>rw[fX]at nnm;rw[gb,nnm]
 have qr:Nm (.str "qqqqqr"):=⟨"qqqqqr", rfl,aH1 (by decide +kernel),by decide,by decide⟩;have qq:Nm (.str "qqqqqq"):=⟨"qqqqqq", rfl,aH1 (by decide +kernel),by decide,by decide⟩
 have n1:(U4 n).nms=[.str "qqqqqq", .str "qqqqqr", .str "zzzzzz"]:=by
  unfold U4 ba1;rw[gb,gc,gc,gb,gc,gc,nms];rfl
 have n2:(U4 n).Ok/\(U4 n).near/\(U4 n).dp<=4:=by
  unfold U4 ba1;refine⟨?_,?_,?_⟩
  .rw[fS,fT,fT,fS,fT,fT];exact⟨bi7,⟨bi7,no,trivial⟩,trivial⟩
  .rw[fY,fZ,fZ,fY,fZ,fZ];exact⟨⟨nnr,trivial⟩,trivial⟩
  .rw[fV,fW,fW,fV,fW,fW,nd];decide
 have sne:∀{x y:Str},(x==y)=false->(.str x:D)≠.str y:=λ{x y} h z=>by
  injection z with z
  rw[z]at h;simp at h
 have n3:(U4 n).nms.Nodup/\∀d∈(U4 n).nms,Nm d:=by
  rw[n1];constructor
  .have a1:=sne (x := "qqqqqq") (y := "qqqqqr") (by decide +kernel);have a2:=sne (x := "qqqqqq") (y := "zzzzzz") (by decide +kernel);have a3:=sne (x := "qqqqqr") (y := "zzzzzz") (by decide +kernel);simp only[bn,ao,aB,or_false,not_or,not_false_eq_true,eJ,and_true];exact⟨⟨a1,a2⟩,a3⟩
  .intro d hd;simp only[ao,aB,or_false]at hd;rcases hd with rfl|rfl|rfl
   .exact qq
   .exact qr
   .exact aX7
 have leafD:∀(pa:D) (k:Nat),(Nm pa\/pa=.str "")->Dg (.put pa k n)/\Dg (.out pa k n):=λpa k hp=>bk7 hp k no nnr (by rw[nms];simp) (λd hd=>by rw[nms,aw]at hd;rw[hd];exact aX7) (by grind) (by rw[nms];simp)
 have al:=(g.pl<|by grind).al;refine⟨others e l n<|U4 n,?_,λx hx=>?_,?_⟩
 .have eA:=aJ3 3 l 12 g.dp (by decide) (by grind);have m4:E9 (.tuple [.tuple [.int 0,.int 1]]) (.int 4)=Z q0.d:=rfl;have ct:=aB2 e;have r0:=cR0 e (.str "zzzzzz") (ρ:=[‹scr ns›,‹e.d›,‹B5 w h l›,‹q0.d›,O,O,O,O,O]) rfl (f:=dC<|.str "zzzzzz") rfl;refine B2 (g:=aJ8) (ρ:=[‹scr ns›,‹e.d›,‹B5 w h l›,O,O,O,O,O,O]) rfl ?_;refine(A6 (by exists evD,al5,m4;rfl)).trans ?_
  refine(A6 (ρ':=[‹scr ns›,‹e.d›,‹B5 w h l›,‹q0.d›,‹.list ((oA e).map gm)›,O,O,O,O]) (by
   unfold oA;simp only[al4,B3,L6,A0,A2,r0,A3,A1,xg0,xg1,xbs,xms,ct,xmc,xmn]
   conv=>rhs;rw[De.d.eq_def (.shw ..)]
   rfl)).trans ?_
  refine(A6 (by exists evD,al3,en;rfl)).trans ?_
  refine(A6 (ρ':=[‹scr ns›,‹e.d›,‹B5 w h l›,‹q0.d›,‹.list ((oA e).map gm)›,‹n.d›,Z (.val (ba1 n).d),O,O]) (by
   unfold ba1
   rw[fQ,fR,fR];rfl)).trans ?_
  refine(A6 (ρ':=ob9 (‹scr ns›) (‹e.d›) (‹B5 w h l›) ((oA e).map gm) n (U4 n) O O) (by
   unfold ob9 U4
   rw[fQ,fR,fR];rfl)).trans ?_
  refine(A6 (aW2 (i:=4) (X:=(oA e).map gm) (Y:=(oB n).map gm) rfl (by
   unfold oB
   simp only[xmc,xmn,gm];rfl) (by simp[oA,oB]))).trans ?_
  obtain⟨b7,b8,lp⟩:=br1 n (U4 n) (‹scr ns›) (‹e.d›) (‹B5 w h l›) (gk l) (oA e++oB n) O O (by simp[oA,oB];grind);rw[bj]at lp;refine(A6 (f:=al2) (ρ':=ob9 (‹scr ns›) (‹e.d›) (‹B5 w h l›) ((others e l n<|U4 n).map gm) n (U4 n) b7 b8) ?_).trans rfl;show((K1<|A3 (G6 12) (A0 (dIx (A8 2) ⇑2) A2))<|ob9 (‹scr ns›) (‹e.d›) (‹B5 w h l›) ((oA e).map gm++(oB n).map gm) n (U4 n) O O).bind _=_
  have src:(K1<|A3 (G6 12) (A0 (dIx (A8 2) ⇑2) A2)) (ob9 (‹scr ns›) (‹e.d›) (‹B5 w h l›) ((oA e).map gm++(oB n).map gm) n (U4 n) O O)=Z ((gk l).map fQ):=by
   have p2:(dIx (A8 2) ⇑2) (ob9 (‹scr ns›) (‹e.d›) (‹B5 w h l›) ((oA e).map gm++(oB n).map gm) n (U4 n) O O)=Z ↥l:=rfl;simp only[K1,A3,A0,A2,p2,xbs,xms,eA]
  rw[src];exact lp
 .unfold others at hx;rcases az.mp hx with hx|hx
  .rcases az.mp hx with hx|hx
   .simp only[oA,ao,aB,or_false]at hx;rcases hx with rfl|rfl|rfl
    .exact cR1 d aX7
    .exact di
    .exact aI4 rfl aX7 trivial trivial
   .simp only[oB,ao,aB,or_false]at hx;rcases hx with rfl|rfl|rfl
    .exact(leafD _ _<|.inr rfl).1
    .exact(leafD _ _<|.inr rfl).2
    .exact(leafD _ _<|.inl aX7).1
  .obtain⟨M,hM,hx⟩:=List.mem_flatten.mp hx;obtain⟨y,hy,rfl⟩:=aP.mp hM;obtain⟨k1,k2,k3,k4,k5,k6,k7⟩:=g.nr1 hy;have nodeD:=bk7 (pa:=.str "") (.inr rfl) 0 k1 k2 k6 k4 (by grind) (by grind);unfold an3 at hx;simp only[ao,aB,or_false]at hx;rcases hx with rfl|rfl|rfl|rfl|rfl|rfl|rfl|rfl
   .exact(leafD _ _<|.inl k7).1
   .exact nodeD.1
   .exact aI4 rfl k7 trivial trivial
   .exact aI4 rfl k7 trivial ⟨⟨by decide,by decide⟩,by decide,by decide⟩
   .exact aI4 rfl k7 ⟨by decide,by decide⟩ (cy4)
   .exact(bk7 (.inl k7) 0 n2.1 n2.2.1 n3.1 n3.2 n2.2.2 (by rw[n1];simp)).1
   .exact aI4 rfl k7 trivial aU6
   .exact nodeD.2
 .unfold others
  have:∀Y:List Nd,((Y.map<|an3 n (U4 n)).flatten).length=8*Y.length:=λY=>by
   induction Y with
   | nil=>rfl
   | cons y Y ih=>rw[xmc,bJ,ae,ih,aD];show 8+_=_;grind
  rw[ae,this];simp[oA,oB]
  grind
def r7(a0 a1 a2:D)(e:De)(c:D)(b5 b6:Option B):Rho:=[‹a0›,‹a1›,‹a2›,‹e.d›,‹c›,b5,b6]
def cn2(a0 a1 a2 c:D)(e:De):∃z,ak6 (r7 a0 a1 a2 e c O O)=Z (.nx<|r7 a0 a1 a2 e c (‹z›) O)/\ak5 (r7 a0 a1 a2 e c (‹z›) O)=Z (.nx<|r7 a0 a1 a2 e c (‹e.inv.d›) O):=by
 cases e with
 | put pa k x=>refine⟨(.tuple [.str "put", pa,x.d,.int k]),?_,?_⟩<;>(simp only[r7,De.inv,gm];kernel_rfl)
 | out pa k x=>refine⟨(.tuple [.str "out", pa,x.d,.int k]),?_,?_⟩<;>(simp only[r7,De.inv,gm];kernel_rfl)
 | str nm o n=>refine⟨(De.str nm n o).d,?_,?_⟩<;>(simp only[r7,De.inv,gm];kernel_rfl)
 | shw nm o n=>refine⟨(De.shw nm n o).d,?_,?_⟩<;>(simp only[r7,De.inv,gm];kernel_rfl)
 | man nm o n=>refine⟨(De.man nm n o).d,?_,?_⟩<;>(simp only[r7,De.inv,gm];kernel_rfl)
 | plc nm a b x y=>refine⟨(De.plc nm x y a b).d,?_,?_⟩<;>(simp only[r7,De.inv,gm];kernel_rfl)
 | spt nm x y o n=>refine⟨(De.spt nm x y n o).d,?_,?_⟩<;>(simp only[r7,De.inv,gm];kernel_rfl)
def cm0(e:De):∃xs,e.d=.tuple (.str e.w::xs):=by cases e<;>(rw[gm];exact⟨_,rfl⟩)
def cO8{e:De}(h:e.isP=true):e.w = "put" := by cases e<;>first|rfl|cases h
def cR8{e:De}(d:Dg e):e.pn<=100:=by
 cases e with
 | put pa k x=>exact(d.3 pa k x<|.inl rfl).2
 | _=>show 0<=100;decide
def cR2:neD rf rf=Z (.bool false):=by kernel_rfl
def ca6{w h N:Nat}{l:List Nd}(g:Gp N l)(hN:N<=200){e:De}(d:Dg e):neD (aj7 w h<|dn l e) (aj7 w h<|dn l e)=Z (.bool false):=by
 cases q:dn l e with
 | none=>exact cR2
 | some l'=>exact aD6 (cq2<|bU6 g (by grind) d q) (by decide)
def cQ9{w h N:Nat}(S:Sz w h){l:List Nd}(g:Gp N l)(hN:N<=200){x:De}(d:Dg x)(a0 a1 a3 a4 a5:Option B):sb [a0,a1,‹B5 w h l›,a3,a4,a5,‹x.d›]=Z (.nx [a0,a1,‹B5 w h l›,a3,‹aj7 w h (dn l x)›,a5,‹x.d›]):=by
 have e1:=bs1 (w:=w) (h:=h) g (by omega) d;have e2:=aD4 S g (by omega) d;have e3:=ca6 (w:=w) (h:=h) g hN d;unfold sb;refine(A6 (by exists evD,e1;rfl)).trans ?_;rw[A6 (ρ':=[a0,a1,‹B5 w h l›,a3,‹aj7 w h (dn l x)›,a5,‹x.d›]) (by cases dn l x<;>rfl)];exact(D7<|aF2 (x:=aj7 w h<|dn l x) (y:=aj7 w h<|dn l x) (by exists evD,e2) rfl e3).trans rfl
theorem bp6{w h N:Nat}(S:Sz w h){l:List Nd}(g:Gp N l)(hN:N<=200)(a0 a1 a3 a5:Option B):∀(L:List De),(∀x∈L,Dg x)->∀a4 a6,∃b4 b6,j8 (B9 6) sb (L.map gm) [a0,a1,‹B5 w h l›,a3,a4,a5,a6]=Z (.nx [a0,a1,‹B5 w h l›,a3,b4,a5,b6])
 | [],_,a4,a6=>⟨a4,a6,by simp[j8]⟩
 | x::L,hL,a4,a6=>by
  obtain⟨b4,b6,e⟩:=bp6 S g hN a0 a1 a3 a5 L (λy hy=>hL y<|xmm _ hy) (‹aj7 w h (dn l x)›) (‹x.d›);refine⟨b4,b6,?_⟩;rw[xmc,j8];have g1:B9 6 x.d [a0,a1,‹B5 w h l›,a3,a4,a5,a6]=Z [a0,a1,‹B5 w h l›,a3,a4,a5,‹x.d›]:=rfl;show(B9 6 x.d _).bind _=_;rw[g1,xbs,cQ9 S g hN (hL x ah)];simp only[xbs];rw[e]
def bw7(ns:List Int)(hn:ns.length<=63):ad3 [scr ns]=Z (.bool true):=by
 obtain⟨N,eN,hN,b,hP⟩:=bM6 ns hn 0 7 (by decide) (by decide);have eN:ai7 [scr ns,.int 0,.int 7]=Z (.list N):=eN;obtain⟨w,h,l,ep,hl,hw,hh⟩:=bi3 ns hn 30 4 (by decide) (by decide) N (by grind);have ep:u7 [scr ns,.int 30,.int 4,.list N]=Z (B5 w h l):=ep;have nv:=cC2 (by decide) hP;obtain⟨g,_⟩:=cW8 hl (λj hj=>nv j<|by grind);obtain⟨y,en6,hnm,h5⟩:=nv 6 (by decide);generalize hnn:nmS b 6 y=nm at en6 hnm h5;have N6:atI N 6=Z (.str nm):=Q1 (j:=6) en6;have S:Sz w h:=⟨by grind,by grind,by grind,by grind⟩;obtain⟨e,ee,D⟩:=bk6 g (by decide) ns hn 800 (by decide) w h hnm h5;have ee:ah4 [scr ns,.int 800,B5 w h l,.str nm]=Z e.d:=ee;have e3:=bs1 (w:=w) (h:=h) g (by decide) D.dg;obtain⟨L,eL,dL,lL⟩:=bx6 (w:=w) (h:=h) g (by decide) ns hn D.dg D.di;have ct:=aB2 e;obtain⟨z,b5,b6⟩:=cn2 (scr ns) (.list N) (B5 w h l) (ae2 w h<|dn l e) e;refine B2 (g:=ap6) (ρ:=[‹scr ns›,O,O,O,O,O,O]) rfl ?_;unfold ap6;refine(A6 (by exists evD,al1,eN;rfl)).trans ?_;refine(A6 (by exists evD,al0,ep;rfl)).trans ?_;refine(A6 (by exists evD,ak9,N6,ee;rfl)).trans ?_;rw[A6 (ρ':=r7 (scr ns) (.list N) (B5 w h l) e (ae2 w h<|dn l e) O O) (by unfold r7;exists evD,ak8,e3)]
 have s4:ak7 (r7 (scr ns) (.list N) (B5 w h l) e (ae2 w h<|dn l e) O O)=Z (.nx<|r7 (scr ns) (.list N) (B5 w h l) e (ae2 w h<|dn l e) O O):=by
  refine(D7 ?_).trans rfl;cases q:dn l e with
  | some l'=>rfl
  | none =>
   have p:e.isP=true:=by
    cases hp:e.isP with
    | true=>rfl
    | false =>
     obtain⟨l',hl'⟩:=D.fit hp;rw[q]at hl';cases hl'
   obtain⟨xs,hx⟩:=cm0 e;have i0:(dIx (A8 3) ⇑0) (r7 (scr ns) (.list N) (B5 w h l) e (ae2 w h O) O O)=Z (.str "put"):=by unfold r7;rw[hx,cO8 p];exact Q1 (j:=0) (xs:=.str "put" :: xs) rfl
   have t:=aF2 i0 (g:=dC<|.str "put") rfl (p:=neD) (b:=false) (by kernel_rfl);unfold Z8;rw[t];rfl
 rw[A6 s4,A6 b5,A6 b6]
 have s7:ak4 (r7 (scr ns) (.list N) (B5 w h l) e (ae2 w h<|dn l e) (‹e.inv.d›) O)=Z (.nx<|r7 (scr ns) (.list N) (B5 w h l) e (ae2 w h<|dn l e) (‹e.inv.d›) O):=by
  refine(D7 ?_).trans rfl;have t1:(tB2 neD (A3 n4<|A0 (A1 3) A2)<|A1 5) (r7 (scr ns) (.list N) (B5 w h l) e (ae2 w h<|dn l e) (‹e.inv.d›) O)=Z false:=aF2 (x:=e.inv.d) (y:=e.inv.d) (by unfold r7;exists evD,ct) rfl (aD6 (cU3 D.di)<|by decide)
  have t2:(Z8 (tB2 aw2 (A1 4)<|dC .none)<|tB2 neD (A3 R5<|A0 (A1 4) (A0 (A1 5) A2)) (A1 2)) (r7 (scr ns) (.list N) (B5 w h l) e (ae2 w h<|dn l e) (‹e.inv.d›) O)=Z false:=by
   cases q:dn l e with
   | none=>rfl
   | some l' =>
    have g':=bU6 g (by decide) D.dg q;have pn:=cR8 D.dg;have tl:=aD4 S g' (by grind) D.di;obtain⟨l2,q2,ds⟩:=cl8 g (by decide) D.dg q D.out;have pd:B5 w h l2=B5 w h l:=by unfold B5;rw[ds]
    rw[q2,aj7,pd]at tl;have t:=aF2 (p:=neD) (f:=A3 R5<|A0 (A1 4) (A0 (A1 5) A2)) (g:=A1 2) (ρ:=r7 (scr ns) (.list N) (B5 w h l) e (ae2 w h<|Z l') (‹e.inv.d›) O) (x:=B5 w h l) (y:=B5 w h l) (by unfold r7 ae2;exists evD,tl) rfl (aD6 (cq2 g)<|by decide);unfold Z8;rw[t];rfl
  unfold P8;rw[t1,t2];rfl
 rw[A6 s7]
 obtain⟨b4,b6',lp⟩:=bp6 S g (by decide) (‹scr ns›) (‹.list N›) (‹e.d›) (‹e.inv.d›) (e::L) (λx hx=>by
  rcases ao.mp hx with rfl|hx
  .exact D.dg
  .exact dL x hx) (‹ae2 w h (dn l e)›) O
 have s8:ak3 (r7 (scr ns) (.list N) (B5 w h l) e (ae2 w h<|dn l e) (‹e.inv.d›) O)=Z (.nx [‹scr ns›,‹.list N›,‹B5 w h l›,‹e.d›,b4,‹e.inv.d›,b6']):=by
  have k:=aE4 (xs:=[e.d]) (ys:=L.map gm) (by rw[ag];simp;grind)
  have src:(K1<|A5 B0 (L6<|A0 (A1 3) A2) (A3 j9<|A0 (A1 0) (A0 (A1 3)<|A0 (A1 2) A2))) (r7 (scr ns) (.list N) (B5 w h l) e (ae2 w h<|dn l e) (‹e.inv.d›) O)=Z ((e::L).map gm):=by
   unfold r7;simp only[K1,A5,L6,A3,A0,A2,A1,xg0,xg1,xbs,xms,eL,k];rfl
  show(W9 (K1<|A5 B0 (L6<|A0 (A1 3) A2) (A3 j9<|A0 (A1 0) (A0 (A1 3)<|A0 (A1 2) A2))) (B9 6) sb) _=_;unfold W9;rw[src,xbs];exact lp
 rw[A6 s8];rfl
def main:∀ns:List Int,ns.length<=63->bv8 [.list (ns.map fE)]=Z (.bool true):=by
 intro ns hn;have e1:=bN7;have e2:ad3 [.list (ns.map fE)]=Z (.bool true):=bw7 ns hn;refine B2 (g:=bY5) (ρ:=[‹.list (ns.map fE)›]) rfl ?_;unfold bY5
 exists evD,e1,e2
end Lk80
namespace Lk80
open PySem PySem.Spec PyProof.Rows L2 G Sh
def S6{K:ad}(x:Str)(t:Tok):bf5 K (.str x) (.str x t):=⟨.str x,⟨t,rfl⟩,λ_=>rfl⟩
def zcs:List (Str×D):=[("MANNERS", (.tuple [(.str "over"),(.str "multiply"),(.str "screen"),(.str "plus"),(.str "atop"),(.str "cut")])),("RULES", (.tuple [(.str "turn"),(.str "grey"),(.str "round")])),("CLEAR", (.tuple [(.tuple [(.int 0),(.int 1)]),(.tuple [(.int 0),(.int 1)]),(.tuple [(.int 0),(.int 1)]),(.tuple [(.int 0),(.int 1)])])),("GREATEST", (.int 8)),("LETTERS", (.str "abcdefghijklmnopqrstuvwxyz")),("DEEPEST", (.int 3)),("FARTHEST", (.int 9))]
def zbl:List Str:=["ValueError", "all", "bool", "dict", "enumerate", "int", "isinstance", "len", "max", "range", "set", "str", "tuple"]
def tb0:Tab:=[]
def zcl:List Str:=["NoName", "NotSo"]
def ztb:List (Str×List (Str×Bool)):=[("NoMerge", [("NoName", false),("NotSo", false)]),("NoName", [("NoName", true),("NotSo", false)]),("NotSo", [("NoName", false),("NotSo", true)]),("ValueError", [("NoName", true),("NotSo", true)])]
def zsb:List (Str×List Str):=[("GlazeError", ["NoName", "NotSo"])]
def znb:List (Str×List Str):=[("GlazeError", [])]
def zT(rt:ap3)(xt:bE9):Rg:=⟨rt,zcl,ztb,zsb,znb,xt⟩
def rt0:ap3:=[]
def xt0:bE9:=[]
def bC8:Fd:={ fdm "is_spot" (top 36) 1 ["thing"] true with hc:=[((81,15),[0])] }
def bD0:Fd:={ fdm "is_name" (top 50) 1 ["thing"] with tx:=[0] }
def be0:Fd:={ fdm "are_nodes" (top 57) 2 ["thing", "deepest"] with hc:=[((141,44),[1])] }
def aL8:Fd:={ fdm "names_among" (top 58) 1 ["nodes", "names", "node"] with own:=[1],fz:=[(148,[1])] }
def ag8:Fd:=fdm "nodes_beside" (top 64) 2 ["picture", "name", "nodes"]
def rt1:ap3:=("nodes_beside", L7,2)::rt0
def aj3:Fd:={ fdm "nodes_with_others" (top 65) 3 ["nodes", "name", "others"] with hc:=[((178,17),[1,2])] }
def at2:Fd:=fdm "node_named" (top 68) 2 ["picture", "name", "nodes"]
def rt2:ap3:=("node_named", ac7,2)::rt1
def aB0:Fd:=fdm "with_node" (top 69) 3 ["picture", "name", "node", "nodes", "number"]
def rt3:ap3:=("with_node", X4,3)::rt2
def y6:Fd:=fdm "node_to_change" (top 81) 2 ["picture", "name"]
def rt4:ap3:=("node_to_change", L4,2)::rt3
def X2:Fd:=fdm "with_value_changed" (top 85) 2 ["picture", "deed", "name", "node"]
def rt5:ap3:=("with_value_changed", K0,2)::rt4
def t8:Fd:=fdm "nodes_of_parent" (top 86) 2 ["picture", "parent", "node"]
def rt6:ap3:=("nodes_of_parent", K2,2)::rt5
def U1:Fd:=fdm "with_nodes_of_parent" (top 87) 3 ["picture", "parent", "nodes"]
def rt7:ap3:=("with_nodes_of_parent", G4,3)::rt6
def ad8:Fd:=fdm "with_node_put" (top 88) 2 ["picture", "deed", "parent", "number", "nodes", "told"]
def rt8:ap3:=("with_node_put", O9,2)::rt7
def ad9:Fd:=fdm "with_node_out" (top 89) 2 ["picture", "deed", "parent", "number", "nodes"]
def rt9:ap3:=("with_node_out", P0,2)::rt8
def bW5:Fd:=fdm "done" (top 90) 2 ["picture", "deed"]
def cx8:ap3:=("done", ap2,2)::rt9
def bV6:Fd:={ fdm "_law_spot" (top 100) 2 ["_law_script", "_law_at", "_law_cover"] true with hc:=[((324,33),[2,0,1])] }
def bC1:Fd:={ fdm "_law_sheet" (top 101) 4 ["_law_script", "_law_at", "_law_wide", "_law_high", "_law_spots"] with hc:=[((326,17),[0,1])] }
def bC4:Fd:={ fdm "_law_names" (top 102) 3 ["_law_script", "_law_at", "_law_many", "_law_is_first", "_law_found", "_law_k", "_law_word"] with own:=[4],tx:=[6],fz:=[(337,[4])],hc:=[((334,28),[0,1,5])] }
def bV8:Fd:={ fdm "_law_leaf" (top 103) 4 ["_law_script", "_law_at", "_law_name", "_law_main", "_law_strength", "_law_is_shown", "_law_manner", "_law_wide", "_law_high", "_law_mask", "_law_left", "_law_top", "_law_sheet_here"] with hc:=[((350,26),[0,1])] }
def bC3:Fd:={ fdm "_law_nodes" (top 104) 4 ["_law_script", "_law_at", "_law_most", "_law_names_here", "_law_main", "_law_many", "_law_found", "_law_k", "_law_first", "_law_last", "_law_strength", "_law_manner", "_law_group"] with own:=[6],hc:=[((360,17),[0,4,3,1])] }
def cm4:Fd:={ fdm "_law_all" (top 106) 1 ["_law_nodes_here", "_law_found", "_law_node"] with own:=[1],fz:=[(379,[1])] }
def bV4:Fd:={ fdm "_law_with" (top 107) 3 ["_law_nodes_here", "_law_name", "_law_others_here", "_law_found", "_law_node"] with own:=[3] }
def bV9:Fd:={ fdm "_law_done" (top 111) 2 ["_law_picture_here", "_law_deed_here", "_law_wide", "_law_high", "_law_nodes_here", "_law_known", "_law_other", "_law_found", "_law_parent"] with dx:=[5],hc:=[((429,38),[5])] }
def bW1:Fd:={ fdm "_law_deed" (top 113) 4 ["_law_script", "_law_at", "_law_picture_here", "_law_name", "_law_nodes_here", "_law_known", "_law_node", "_law_way", "_law_parents", "_law_parent", "_law_some", "_law_manners", "_law_wide", "_law_high", "_law_spots", "_law_x", "_law_y"] with hc:=[((459,33),[6])] }
def xt1:bE9:=("_law_refused", P7)::xt0
def aL9:Fd:={ fdm "_law_known_one" (top 117) 0 ["_law_known", "_law_told_here"] with hc:=[((499,21),[0])] }
def cr7:Fd:=fdm "law" (top 119) 1 ["_law_script"]
structure Qs (K:ad):Prop where
 aa:KF K "is_whole" (top 6)
 ab:KF K "common_divisor" (top 7)
 ac:KF K "is_share" (top 8)
 ad:KF K "is_at_most" (top 9)
 ae:KF K "kind_of" (top 11)
 af:KF K "is_layer" (top 12)
 ag:KF K "is_group" (top 13)
 ah:KF K "is_tone" (top 14)
 ai:KF K "name_of" (top 15)
 aj:KF K "manner_of" (top 16)
 ak:KF K "rule_of" (top 17)
 al:KF K "strength_of" (top 18)
 am:KF K "is_shown" (top 19)
 an:KF K "left_of" (top 20)
 ao:KF K "top_of" (top 21)
 ap:KF K "mask_of" (top 22)
 aq:KF K "sheet_of" (top 23)
 ar:KF K "inner_nodes" (top 24)
 au:KF K "place_of" (top 25)
 av:KF K "with_manner" (top 26)
 aw:KF K "with_strength" (top 27)
 ax:KF K "with_shown" (top 28)
 ay:KF K "with_place" (top 29)
 az:KF K "with_sheet" (top 30)
 a0:KF K "with_inner_nodes" (top 31)
 a1:KF K "is_spot" (top 36)
 a2:KF K "is_size" (top 39)
 a3:KF K "is_sized" (top 40)
 a4:KF K "is_sheet" (top 41)
 a5:KF K "has_place" (top 42)
 a6:KF K "number_of_place" (top 43)
 a7:KF K "spot_at" (top 44)
 a8:KF K "with_spot" (top 45)
 a9:KF K "is_name" (top 50)
 ba:KF K "is_truth" (top 51)
 bb:KF K "is_offset" (top 52)
 bc:KF K "is_mask" (top 53)
 bd:KF K "is_layer_of_parts" (top 54)
 be:KF K "is_group_of_nodes" (top 55)
 bf:KF K "has_node_form" (top 56)
 bg:KF K "are_nodes" (top 57)
 bh:KF K "names_among" (top 58)
 bi:KF K "are_names_unlike" (top 59)
 bj:KF K "is_picture" (top 60)
 bk:KF K "names_in" (top 61)
 bl:KF K "number_among" (top 62)
 bm:KF K "tuple_with" (top 63)
 bn:KF K "nodes_beside" (top 64)
 bo:KF K "nodes_with_others" (top 65)
 bp:KF K "node_with_others" (top 66)
 bq:KF K "with_nodes_beside" (top 67)
 br:KF K "node_named" (top 68)
 bs:KF K "with_node" (top 69)
 bt:KF K "word_of" (top 71)
 bu:KF K "target_of" (top 72)
 bv:KF K "number_of" (top 73)
 bw:KF K "node_of" (top 74)
 bx:KF K "x_of" (top 75)
 bz:KF K "y_of" (top 76)
 b0:KF K "old_of" (top 77)
 b1:KF K "new_of" (top 78)
 b2:KF K "is_put" (top 79)
 b3:KF K "is_out" (top 80)
 b4:KF K "node_to_change" (top 81)
 b5:KF K "has_value" (top 82)
 b6:KF K "value_in" (top 83)
 b7:KF K "with_new_value" (top 84)
 b8:KF K "with_value_changed" (top 85)
 b9:KF K "nodes_of_parent" (top 86)
 ca:KF K "with_nodes_of_parent" (top 87)
 cb:KF K "with_node_put" (top 88)
 cc:KF K "with_node_out" (top 89)
 cd:KF K "done" (top 90)
 ce:KF K "contrary" (top 91)
 cf:KF K "_law_cell" (top 93)
 cg:KF K "_law_drawn" (top 94)
 ch:KF K "_law_made" (top 95)
 ci:KF K "_law_times" (top 97)
 cj:KF K "_law_share" (top 99)
 ck:KF K "_law_spot" (top 100)
 cl:KF K "_law_sheet" (top 101)
 cm:KF K "_law_names" (top 102)
 cn:KF K "_law_leaf" (top 103)
 co:KF K "_law_nodes" (top 104)
 cp:KF K "_law_picture" (top 105)
 cq:KF K "_law_all" (top 106)
 cr:KF K "_law_with" (top 107)
 cs:KF K "_law_deep" (top 108)
 ct:KF K "_law_listed" (top 109)
 cu:KF K "_law_changed" (top 110)
 cv:KF K "_law_done" (top 111)
 cw:KF K "_law_put" (top 112)
 cx:KF K "_law_deed" (top 113)
 cy:KF K "_law_refused" (top 114)
 cz:KF K "_law_told" (top 115)
 c0:KF K "_law_others" (top 116)
 c1:KF K "_law_known_one" (top 117)
 c2:KF K "_law_stands" (top 118)
 c3:KF K "law" (top 119)
def cZ6{P:fb}{w:World}{K:ad}{mg:Str->Option fM}(M:Md K mg zcs zbl)(C:∀rt xt,Cl K mg<|zT rt xt)(q:Qs K):∃tab,rd tab zcs zbl cr7=bv8/\∀base:Heap,TOk P w K mg base 171 tab:=by
 refine⟨?tab,?e,λbase=>?t⟩
 case t =>
  have t:TOk P w K mg base 0 tb0:=TOk.nil;have r:TRk P w K mg base 0 rt0:=TRk.nil;have x:TXk P w K mg base 0 xt0:=TXk.nil;have t:=t.add M (fdm "is_whole" (top 6) 1 ["thing"] true) q.aa O6;have t:=t.add M (fdm "common_divisor" (top 7) 2 ["one", "other", "left_over"] true) q.ab O1;have t:=t.add M (fdm "is_share" (top 8) 1 ["thing", "top", "under"] true) q.ac W0;have t:=t.add M (fdm "is_at_most" (top 9) 2 ["one", "other"] true) q.ad ad6;have t:=t.add M (fdm "kind_of" (top 11) 1 ["node"]) q.ae ai8;have t:=t.add M (fdm "is_layer" (top 12) 1 ["node"]) q.af R6;have t:=t.add M (fdm "is_group" (top 13) 1 ["node"]) q.ag K4;have t:=t.add M (fdm "is_tone" (top 14) 1 ["node"]) q.ah aa4;have t:=t.add M (fdm "name_of" (top 15) 1 ["node"]) q.ai V9;have t:=t.add M (fdm "manner_of" (top 16) 1 ["node"]) q.aj O3;have t:=t.add M (fdm "rule_of" (top 17) 1 ["tone"]) q.ak ai4;have t:=t.add M (fdm "strength_of" (top 18) 1 ["node"]) q.al W2;have t:=t.add M (fdm "is_shown" (top 19) 1 ["node"]) q.am ad5;have t:=t.add M (fdm "left_of" (top 20) 1 ["layer"]) q.an ai5;have t:=t.add M (fdm "top_of" (top 21) 1 ["layer"]) q.ao au9;have t:=t.add M (fdm "mask_of" (top 22) 1 ["layer"]) q.ap ay2;have t:=t.add M (fdm "sheet_of" (top 23) 1 ["layer"]) q.aq R4;have t:=t.add M (fdm "inner_nodes" (top 24) 1 ["group"]) q.ar E6;have t:=t.add M (fdm "place_of" (top 25) 1 ["layer"]) q.au aK7;have t:=t.add M (fdm "with_manner" (top 26) 2 ["node", "manner"]) q.av am4;have t:=t.add M (fdm "with_strength" (top 27) 2 ["node", "strength"]) q.aw ae0;have t:=t.add M (fdm "with_shown" (top 28) 2 ["node", "shown"]) q.ax au7;have t:=t.add M (fdm "with_place" (top 29) 2 ["layer", "place"]) q.ay au8;have t:=t.add M (fdm "with_sheet" (top 30) 2 ["layer", "sheet"]) q.az ad2;have t:=t.add M (fdm "with_inner_nodes" (top 31) 2 ["group", "nodes"]) q.a0 L8;have t:=t.add M bC8 q.a1 ai9;have t:=t.add M (fdm "is_size" (top 39) 1 ["thing"]) q.a2 aa5;have t:=t.add M (fdm "is_sized" (top 40) 1 ["thing"]) q.a3 k9;have t:=t.add M (fdm "is_sheet" (top 41) 1 ["thing", "spots"]) q.a4 ap9;have t:=t.add M (fdm "has_place" (top 42) 3 ["sheet", "x", "y"]) q.a5 X8;have t:=t.add M (fdm "number_of_place" (top 43) 3 ["sheet", "x", "y"]) q.a6 Q2;have t:=t.add M (fdm "spot_at" (top 44) 3 ["sheet", "x", "y"]) q.a7 ay1;have t:=t.add M (fdm "with_spot" (top 45) 4 ["sheet", "x", "y", "spot", "number"]) q.a8 ah3;have t:=t.add M bD0 q.a9 ay5;have t:=t.add M (fdm "is_truth" (top 51) 1 ["thing"]) q.ba ap8;have t:=t.add M (fdm "is_offset" (top 52) 1 ["thing"]) q.bb u8;have t:=t.add M (fdm "is_mask" (top 53) 2 ["thing", "sheet"]) q.bc ay6;have t:=t.add M (fdm "is_layer_of_parts" (top 54) 1 ["thing"]) q.bd N1;have t:=TOk.rec3 t M (fdm "is_group_of_nodes" (top 55) 2 ["thing", "deepest"]) (fdm "has_node_form" (top 56) 2 ["thing", "deepest"]) be0 q.be q.bf q.bg aj6 P3 R7 12;have t:=TOk.rec t M aL8 q.bh G1 12;have t:=t.add M (fdm "are_names_unlike" (top 59) 1 ["nodes", "names"]) q.bi O7;have t:=t.add M (fdm "is_picture" (top 60) 1 ["thing"]) q.bj S0;have t:=t.add M (fdm "names_in" (top 61) 1 ["picture"]) q.bk V8;have t:=t.add M (fdm "number_among" (top 62) 2 ["nodes", "name", "number", "node"]) q.bl E5;have t:=TOk.rec t M (fdm "tuple_with" (top 63) 2 ["nodes", "name", "node", "told"]) q.bm F5 12;have t:TOk P w K mg base 78 _:=t;have r:TRk P w K mg base 79 rt1:=TRk.add (T:=zT rt0 xt0) (r.mono<|by decide) t (x.mono<|by decide) M (C _ _) ag8 q.bn L7;have t:=t.add M ag8 q.bn L9;have t:=TOk.rec2 t M aj3 (fdm "node_with_others" (top 66) 3 ["node", "name", "others"]) q.bo q.bp G7 J3 12;have t:=t.add M (fdm "with_nodes_beside" (top 67) 3 ["picture", "name", "others"]) q.bq S4;have t:TOk P w K mg base 92 _:=t;have r:TRk P w K mg base 93 rt2:=TRk.add (T:=zT rt1 xt0) (r.mono<|by decide) t (x.mono<|by decide) M (C _ _) at2 q.br ac7;have t:=t.add M at2 q.br U3;have t:TOk P w K mg base 93 _:=t;have r:TRk P w K mg base 94 rt3:=TRk.add (T:=zT rt2 xt0) r t (x.mono<|by decide) M (C _ _) aB0 q.bs X4;have t:=t.add M aB0 q.bs X6;have t:=t.add M (fdm "word_of" (top 71) 1 ["deed"]) q.bt V7;have t:=t.add M (fdm "target_of" (top 72) 1 ["deed"]) q.bu G8;have t:=t.add M (fdm "number_of" (top 73) 1 ["deed"]) q.bv M7;have t:=t.add M (fdm "node_of" (top 74) 1 ["deed"]) q.bw N9;have t:=t.add M (fdm "x_of" (top 75) 1 ["deed"]) q.bx aK6;have t:=t.add M (fdm "y_of" (top 76) 1 ["deed"]) q.bz aK5;have t:=t.add M (fdm "old_of" (top 77) 1 ["deed"]) q.b0 aa2;have t:=t.add M (fdm "new_of" (top 78) 1 ["deed"]) q.b1 av0;have t:=t.add M (fdm "is_put" (top 79) 1 ["deed"]) q.b2 m7;have t:=t.add M (fdm "is_out" (top 80) 1 ["deed"]) q.b3 m8;have t:TOk P w K mg base 104 _:=t;have r:TRk P w K mg base 105 rt4:=TRk.add (T:=zT rt3 xt0) (r.mono<|by decide) t (x.mono<|by decide) M (C _ _) y6 q.b4 L4;have t:=t.add M y6 q.b4 J4;have t:=t.add M (fdm "has_value" (top 82) 2 ["node", "deed", "word"]) q.b5 T6;have t:=t.add M (fdm "value_in" (top 83) 2 ["node", "deed", "word"]) q.b6 R3;have t:=t.add M (fdm "with_new_value" (top 84) 2 ["node", "deed", "word", "new"]) q.b7 J2;have t:TOk P w K mg base 108 _:=t;have r:TRk P w K mg base 109 rt5:=TRk.add (T:=zT rt4 xt0) (r.mono<|by decide) t (x.mono<|by decide) M (C _ _) X2 q.b8 K0;have t:=t.add M X2 q.b8 M6;have t:TOk P w K mg base 109 _:=t;have r:TRk P w K mg base 110 rt6:=TRk.add (T:=zT rt5 xt0) r t (x.mono<|by decide) M (C _ _) t8 q.b9 K2;have t:=t.add M t8 q.b9 G5;have t:TOk P w K mg base 110 _:=t;have r:TRk P w K mg base 111 rt7:=TRk.add (T:=zT rt6 xt0) r t (x.mono<|by decide) M (C _ _) U1 q.ca G4;have t:=t.add M U1 q.ca E7;have t:TOk P w K mg base 111 _:=t;have r:TRk P w K mg base 112 rt8:=TRk.add (T:=zT rt7 xt0) r t (x.mono<|by decide) M (C _ _) ad8 q.cb O9;have t:=t.add M ad8 q.cb P1;have t:TOk P w K mg base 112 _:=t;have r:TRk P w K mg base 113 rt9:=TRk.add (T:=zT rt8 xt0) r t (x.mono<|by decide) M (C _ _) ad9 q.cc P0;have t:=t.add M ad9 q.cc P2;have t:TOk P w K mg base 113 _:=t;have r:TRk P w K mg base 114 cx8:=TRk.add (T:=zT rt9 xt0) r t (x.mono<|by decide) M (C _ _) bW5 q.cd ap2;have t:=t.add M bW5 q.cd aX6;have t:=t.add M (fdm "contrary" (top 91) 1 ["deed"]) q.ce n4;have t:=t.add M (fdm "_law_cell" (top 93) 2 ["_law_script", "_law_k"] true) q.cf aK8;have t:=t.add M (fdm "_law_drawn" (top 94) 3 ["_law_script", "_law_k", "_law_many", "_law_cell_here"] true) q.cg A9;have t:=t.add M (fdm "_law_made" (top 95) 2 ["_law_top", "_law_under", "_law_one", "_law_by"] true) q.ch aa3;have t:=t.add M (fdm "_law_times" (top 97) 2 ["_law_one", "_law_other"] true) q.ci ay3;have t:=t.add M (fdm "_law_share" (top 99) 2 ["_law_script", "_law_at", "_law_under", "_law_drawn_here"] true) q.cj L5;have t:=t.add M bV6 q.ck X7;have t:=t.add M bC1 q.cl ai6;have t:=t.add M bC4 q.cm ai7;have t:=t.add M bV8 q.cn S8;have t:=t.add M bC3 q.co ay4;have t:=t.add M (fdm "_law_picture" (top 105) 4 ["_law_script", "_law_at", "_law_most", "_law_names_here", "_law_wide", "_law_high"]) q.cp u7;have t:=TOk.rec t M cm4 q.cq G6 12;have t:=TOk.rec t M bV4 q.cr O0 12;have t:=TOk.rec t M (fdm "_law_deep" (top 108) 1 ["_law_nodes_here"]) q.cs S9 12;have t:=t.add M (fdm "_law_listed" (top 109) 2 ["_law_nodes_here", "_law_deed_here", "_law_word", "_law_parent", "_law_number", "_law_node"]) q.ct T2;have t:=t.add M (fdm "_law_changed" (top 110) 2 ["_law_node", "_law_deed_here", "_law_at", "_law_word", "_law_name", "_law_x", "_law_y", "_law_old", "_law_new", "_law_wide", "_law_high", "_law_spots"]) q.cu T5;have t:=t.add M bV9 q.cv k8;have t:=t.add M (fdm "_law_put" (top 112) 4 ["_law_script", "_law_at", "_law_nodes_here", "_law_name", "_law_parents", "_law_parent", "_law_some", "_law_leaf_here"]) q.cw aE6;have t:=t.add M bW1 q.cx ah4;have x:TXk P w K mg base 1 xt1:=x.add (T:=zT cx8 xt0) M (C _ _) (fdm "_law_refused" (top 114) 1 ["_law_e", "_law_flags"]) q.cy P7;have t:TOk P w K mg base 167 _:=t;have t:=t.addT (T:=zT cx8 xt1) (r.mono<|by decide) (x.mono<|by decide) M (C _ _) (fdm "_law_told" (top 115) 2 ["_law_picture_here", "_law_deed_here", "_law_e"]) q.cz R5;have t:=t.add M (fdm "_law_others" (top 116) 3 ["_law_script", "_law_deed_here", "_law_picture_here", "_law_clear", "_law_some", "_law_leaf_here", "_law_nested", "_law_node", "_law_name"]) q.c0 j9;have t:=t.add M aL9 q.c1 w6;have t:=t.add M (fdm "_law_stands" (top 118) 1 ["_law_script", "_law_names_here", "_law_picture_here", "_law_deed_here", "_law_due", "_law_back", "_law_other"]) q.c2 ad3;exact t
 case e=>kernel_rfl
def zmd{K:ad}{h:Heap}{mg:Str->Option fM}{q0 q1 q2t0 q2t1 q2t2 q2t3 q2:fO}{y0 y1 y2t0 y2t1 y2t2 y2t3 y2:Array (Option fM)}{g0t0 g0t1 g0t2 g0t3 g0t4 g0t5 g1t0 g1t1 g1t2 g2t0t0 g2t0t1 g2t1t0 g2t1t1 g2t2t0 g2t2t1 g2t3t0 g2t3t1 g3 g4 g5 g6:Tok}{n0 n1 n2t0 n2t1 n2t2 n2t3 n2:Nat}(X:K.In h)(G:h.Ns eY mg)(p0:aT K eY "MANNERS" = Z (Z<|.ref q0))(r0:K.lookup q0=Z ⟨.type "tuple", O,.seq #[.str "over" g0t0,.str "multiply" g0t1,.str "screen" g0t2,.str "plus" g0t3,.str "atop" g0t4,.str "cut" g0t5] n0,y0⟩)(p1:aT K eY "RULES" = Z (Z<|.ref q1))(r1:K.lookup q1=Z ⟨.type "tuple", O,.seq #[.str "turn" g1t0,.str "grey" g1t1,.str "round" g1t2] n1,y1⟩)(p2:aT K eY "CLEAR" = Z (Z<|.ref q2))(r2:K.lookup q2=Z ⟨.type "tuple", O,.seq #[.ref q2t0,.ref q2t1,.ref q2t2,.ref q2t3] n2,y2⟩)(r2t3:K.lookup q2t3=Z ⟨.type "tuple", O,.seq #[.int 0 g2t3t0,.int 1 g2t3t1] n2t3,y2t3⟩)(r2t2:K.lookup q2t2=Z ⟨.type "tuple", O,.seq #[.int 0 g2t2t0,.int 1 g2t2t1] n2t2,y2t2⟩)(r2t1:K.lookup q2t1=Z ⟨.type "tuple", O,.seq #[.int 0 g2t1t0,.int 1 g2t1t1] n2t1,y2t1⟩)(r2t0:K.lookup q2t0=Z ⟨.type "tuple", O,.seq #[.int 0 g2t0t0,.int 1 g2t0t1] n2t0,y2t0⟩)(p3:aT K eY "GREATEST" = Z (Z<|.int 8 g3))(p4:aT K eY "LETTERS" = Z (Z<|.str "abcdefghijklmnopqrstuvwxyz" g4))(p5:aT K eY "DEEPEST" = Z (Z<|.int 3 g5))(p6:aT K eY "FARTHEST" = Z (Z<|.int 9 g6))(z0:aT K eY "ValueError" = Z O)(z1:aT K eY "all" = Z O)(z2:aT K eY "bool" = Z O)(z3:aT K eY "dict" = Z O)(z4:aT K eY "enumerate" = Z O)(z5:aT K eY "int" = Z O)(z6:aT K eY "isinstance" = Z O)(z7:aT K eY "len" = Z O)(z8:aT K eY "max" = Z O)(z9:aT K eY "range" = Z O)(z10:aT K eY "set" = Z O)(z11:aT K eY "str" = Z O)(z12:aT K eY "tuple" = Z O):Md K mg zcs zbl:=by
 refine⟨λx v e=>bZ X G e,λx d e=>?_,λx e=>?_⟩
 .unfold zcs at e;rw[aL]at e;split at e
  .rename_i q;cases e;simp only[beq_iff_eq]at q;subst q;exact⟨_,(i9 r0 rfl rfl rfl (by show 6<=1000;decide)<|D4 (S6 "over" g0t0) (D4 (S6 "multiply" g0t1)<|D4 (S6 "screen" g0t2) (D4 (S6 "plus" g0t3)<|D4 (S6 "atop" g0t4) (D4 (S6 "cut" g0t5) V3)))),bZ X G p0⟩
  rw[aL]at e;split at e
  .rename_i q;cases e;simp only[beq_iff_eq]at q;subst q;exact⟨_,(i9 r1 rfl rfl rfl (by show 3<=1000;decide)<|D4 (S6 "turn" g1t0) (D4 (S6 "grey" g1t1)<|D4 (S6 "round" g1t2) V3)),bZ X G p1⟩
  rw[aL]at e;split at e
  .rename_i q;cases e;simp only[beq_iff_eq]at q;subst q;exact⟨_,(i9 r2 rfl rfl rfl (by show 4<=1000;decide)<|D4 (i9 r2t0 rfl rfl rfl (by show 2<=1000;decide)<|D4 (R0 0 g2t0t0) (D4 (R0 1 g2t0t1) V3)) (D4 (i9 r2t1 rfl rfl rfl (by show 2<=1000;decide)<|D4 (R0 0 g2t1t0) (D4 (R0 1 g2t1t1) V3))<|D4 (i9 r2t2 rfl rfl rfl (by show 2<=1000;decide)<|D4 (R0 0 g2t2t0) (D4 (R0 1 g2t2t1) V3)) (D4 (i9 r2t3 rfl rfl rfl (by show 2<=1000;decide)<|D4 (R0 0 g2t3t0) (D4 (R0 1 g2t3t1) V3)) V3))),bZ X G p2⟩
  rw[aL]at e;split at e
  .rename_i q;cases e;simp only[beq_iff_eq]at q;subst q;exact⟨_,(R0 8 g3),bZ X G p3⟩
  rw[aL]at e;split at e
  .rename_i q;cases e;simp only[beq_iff_eq]at q;subst q;exact⟨_,(S6 "abcdefghijklmnopqrstuvwxyz" g4),bZ X G p4⟩
  rw[aL]at e;split at e
  .rename_i q;cases e;simp only[beq_iff_eq]at q;subst q;exact⟨_,(R0 3 g5),bZ X G p5⟩
  rw[aL]at e;split at e
  .rename_i q;cases e;simp only[beq_iff_eq]at q;subst q;exact⟨_,(R0 9 g6),bZ X G p6⟩
  cases e
 .unfold zbl at e;simp only[List.contains_cons,List.contains_nil,Bool.or_false,Bool.or_eq_true,beq_iff_eq]at e;rcases e with e|e|e|e|e|e|e|e|e|e|e|e|e
  .subst e;exact bc X G z0
  .subst e;exact bc X G z1
  .subst e;exact bc X G z2
  .subst e;exact bc X G z3
  .subst e;exact bc X G z4
  .subst e;exact bc X G z5
  .subst e;exact bc X G z6
  .subst e;exact bc X G z7
  .subst e;exact bc X G z8
  .subst e;exact bc X G z9
  .subst e;exact bc X G z10
  .subst e;exact bc X G z11
  .subst e;exact bc X G z12
def cN9{l:PySem.W.OpenLaw}{q:fb}{loose:List Str}{XP:(Str->Option fM)->Heap->Prop}{YP:World->Heap->Prop}{d:DefRec}{K:Params->ad}(hn:l.most=Z 63)(hdf:d.params.defaults=[])
  (hY:∀(w:World) (h:Heap),YP w h->(K w.params).In h) (hd:d.name = "law")
  (F:∀(w:World) (mg:Str->Option fM) (h:Heap),(K w.params).In h->h.Ns eY mg->Md (K w.params) mg zcs zbl)
  (Q:∀w:World,Qs<|K w.params) (B:∀w:World,clB (K w.params) zcl ztb zsb znb=true)
  (M:∀ns:List Int,ns.length<=63->bv8 [.list (ns.map fE)]=Z (.bool true)) :
  PySem.W.WalkO q loose XP YP l.row.toRowW d [] (λf vs=>PySem.call f vs) :=
 L2.bZ9 (n:=63) (k:=172) (x := "_law_script") (CX:=λ_=>CX0) (sp:=λw=>spF (K w.params) 1 bv8) hn (by decide) hdf ⟨rfl,by decide,by decide⟩ hY
  (λw mg fa h hk hg hm=>by
   have N:=F w mg h hk hg;have q:=Q w;rw[hd]at hm;obtain⟨_,e,t⟩:=cZ6 N (λrt xt=>Cl.of N (by decide +kernel)<|B w) q;obtain⟨fd,b1,b2⟩:=cg7 N t cr7 q.c3 e hm
   exact⟨fd,b1,λbase _ _=>b2 base⟩)
  (λw H a ns hl _ hS=>⟨rfl,H,[.list (ns.map fE)],.bool true,E2.refl _,⟨.ref a,[],rfl,⟨a,_,rfl,hS,Reps.ints ns⟩,rfl⟩,M ns hl,λv H' Hf' g r=>r⟩) λ_ _ _ _ _ z=>z
end Lk80
namespace PySem.W.Fast
def tw15546655397260955729:=()
def tw4531131052866494094:=()
def tw1429697962073284867:=()
def tw6050517981670179465:=()
def tw3861982584317404137:=()
def tw7799544153350151948:=()
def tw8385231281919829826:=()
def tw15147947949352325272:=()
def tw543812020236335872:=()
def tw16102023382262051688:=()
def tw13402956832547806669:=()
def tw13848724145646525692:=()
def tw8285198940291460336:=()
def tw2866168877940965368:=()
def tw1851500349664399571:=()
def tw11117735508443899945:=()
def tw13634989159914241540:=()
def tw13503780198503679677:=()
def tw15837641152631295338:=()
def tw16062487494498482213:=()
def tw15150520881803473011:=()
def tw16232218038271476201:=()
def tw14893709184936802952:=()
def tw8761624737997070536:=()
def tw11412307389710928531:=()
def tw12177114006785454770:=()
def tw4221327849970933738:=()
def tw7830750964917364897:=()
def tw8773683523885443167:=()
def tw15437090743969449400:=()
def tw11585680950060860115:=()
def tw15835219024905332221:=()
def tw7047090793003023213:=()
def tw6612004405696067045:=()
def tw13727035361443814810:=()
def tw295024476563806152:=()
def tw11563664968974249200:=()
def tw9308013969735082499:=()
def tw16913708125680162828:=()
def tw8987081094234507961:=()
def tw6771965833840001183:=()
def tw10441547244877913383:=()
def tw7050877159390401105:=()
def tw3629522364788482062:=()
def tw3149600861065948872:=()
def tw10335318278818745489:=()
def tw16418911296568882423:=()
def tw1420980745504757339:=()
def tw7905760146177297790:=()
def tw13380371061014460430:=()
def tw7634173102322062203:=()
def tw13257772052261481344:=()
def tw3858144238395969405:=()
def tw14855148529457111103:=()
def tw16246640617248444271:=()
def tw12749905712317800731:=()
def tw16578540375021027002:=()
def tw14160232116385525863:=()
def tw3152868760444243220:=()
def tw9571483053653576790:=()
def tw3978198789793897462:=()
def tw10307483741355507353:=()
def tw17184641022514087242:=()
def tw11438802590791511056:=()
def tw5500128882858002363:=()
def tw11495052769628939876:=()
def tw18012467871063900626:=()
def tw16621149076139436494:=()
def tw4053612557831734938:=()
def tw1600712945795217635:=()
def tw15410384581605585896:=()
def tw4445913627634550603:=()
def tw2574229545574056507:=()
def tw7904669585697612037:=()
def tw1070319550854993191:=()
def tw5249893236296416294:=()
def tw3409563382541223793:=()
def tw138693690261014132:=()
def tw18195927314131005862:=()
def tw6031726746088865746:=()
def tw4470172379688344950:=()
def tw11430926783127491317:=()
def tw9037760590731501508:=()
def tw1795570552498617441:=()
def tw3163922892978568578:=()
def tw10239838526284466702:=()
def tw9850889297244734591:=()
def tw7412635729600749230:=()
def tw8464800451899598687:=()
def tw18002657715372936439:=()
def tw5728381401041658678:=()
def tw6638441483025118241:=()
def tw674708030962387973:=()
def tw7530734025352099677:=()
def tw925058803063397259:=()
def tw14480530028371055334:=()
def tw12962086612587359257:=()
def tw3735587978708144589:=()
def tw7232723710358473846:=()
def tw16235848776443640066:=()
def tw2406860842972897268:=()
def tw11065294321254929484:=()
def tw8386005216325965729:=()
def tw14212858095542549469:=()
def tw3573890056323930813:=()
def tw6111409269367994836:=()
def tw11083085402413707052:=()
def tw17728667701405893356:=()
def tw10680773174086200649:=()
def tw4826314548867427447:=()
def tw16366237877195275977:=()
def tw7116667133657892505:=()
def tw12253866158607871650:=()
def tw6912463854804060410:=()
def tw2705097008599083060:=()
def tw5366217675929314196:=()
def tw15897227794842478109:=()
def tw1729655160933755587:=()
def tw10728204752188397227:=()
def tw2597595525148717299:=()
def tw13288425235744605557:=()
def tw15688378895377329667:=()
def tw11672108420800365924:=()
def tw12046766229138295834:=()
def tw12247963343277150779:=()
def tw8256233396567180797:=()
def tw12075666883746617731:=()
def tw6893121484419391407:=()
def tw16912467016015659178:=()
def tw4236840178132414789:=()
def tw18236780493064624739:=()
def tw9959698210955609553:=()
def tw7444052516917710581:=()
def tw18061889690915148668:=()
def tw8738060563813560996:=()
def tw5636928567747275921:=()
def tw15517637645596448709:=()
def tw12811343009619104695:=()
def tw8122883799401852721:=()
def tw15649623787281347565:=()
def tw11413210566104185515:=()
def tw15338935160383624367:=()
def tw1608369588538897238:=()
def tw5664050335349222743:=()
def tw3812046569276773952:=()
def tw14195689748272699621:=()
def tw2486695093569331302:=()
def tw16805918488903828489:=()
def tw12595367986235047336:=()
def tw11945879537475120367:=()
def tw3711490391840412484:=()
def tw7038290350138289273:=()
def tw3463531051715416511:=()
def tw16535520167219555379:=()
def tw12270872231194699327:=()
def tw14870067035445594674:=()
def tw11520647543451294383:=()
def tw6523750780433539517:=()
def tw5796847776534329281:=()
def tw11915223721992686807:=()
def tw15215771210183430222:=()
def tw13383637672189076175:=()
def tw13561586429266107854:=()
def tw9665505705708625467:=()
def tw4805662279209537261:=()
def tw4780039986196800542:=()
def tw13277152606985858253:=()
def tw7246106584214246648:=()
def tw2534682067688258077:=()
def tw3866580791188245478:=()
def tw7806825437227468946:=()
def tw5708120729977795345:=()
def tw1471790526018317908:=()
def tw16315947187781293721:=()
def tw17195402622430795691:=()
def tw5742376414144961152:=()
def tw3699944592926429058:=()
def tw16287930533611744154:=()
def tw2863521568862111451:=()
def tw11441358557128963216:=()
def tw2059450226855402328:=()
def tw15714371895039110683:=()
def tw3175477255553583628:=()
def tw2782661452748731839:=()
def tw8242335943392920848:=()
def tw3867926255795608202:=()
def tw9882017525881980625:=()
def tw13080280618540835709:=()
def tw1932478311616326783:=()
def tw16963397908638861609:=()
def tw15225416074146370129:=()
def tw7334232285108779976:=()
def tw14535802812482548818:=()
def tw5798100535107037476:=()
def tw15773481406540723955:=()
def tw5471957524931765340:=()
def tw15551544140233457805:=()
def tw14475405094626018068:=()
def tw6304038847735148469:=()
def tw14917604176310978989:=()
def tw6740877772046039870:=()
def tw11562142572726813430:=()
def tw2918413185703156108:=()
def tw13017084573150880624:=()
def tw2410979214831144020:=()
def tw8241586593983079479:=()
def tw3203789247707554851:=()
def tw11674302031927167932:=()
def tw12715003316338661320:=()
def tw7821735270196362551:=()
def tw7736809483344176789:=()
def tw18174616216319655029:=()
def tw3933232808411066747:=()
def tw5688953346553482388:=()
def tw4251159288818666705:=()
end PySem.W.Fast
namespace Lk80
open PySem PySem.W PyProof.Rows
set_option maxHeartbeats 0 in
open_top head for PySem.Challenge.rw_glazework_k80_deeds
end Lk80
open PySem PySem.W PyProof.Rows
set_option maxRecDepth 100000 in
set_option maxHeartbeats 0 in
theorem PySem.Challenge.cw_glazework_k80_deeds_holds : PySem.Challenge.rw_glazework_k80_deeds.Holds := by
 refine Lk80.head ?_
 k_fill
 refine Lk80.cN9 (l:=PySem.Challenge.rw_glazework_k80_deeds) rfl rfl (λw h Y=>PySem.W.kIn_of Y) rfl ?F ?Q ?B Lk80.main
 case F =>
  intro w mg h KX G
  refine' Lk80.zmd KX G ?p0 ?r0 ?p1 ?r1 ?p2 ?r2 ?r2t3 ?r2t2 ?r2t1 ?r2t0 ?p3 ?p4 ?p5 ?p6 ?z0 ?z1 ?z2 ?z3 ?z4 ?z5 ?z6 ?z7 ?z8 ?z9 ?z10 ?z11 ?z12
  (case p0=>k_is);(case r0=>k_is);(case p1=>k_is);(case r1=>k_is);(case p2=>k_is);(case r2=>k_is);(case r2t3=>k_is);(case r2t2=>k_is);(case r2t1=>k_is);(case r2t0=>k_is);(case p3=>k_is);(case p4=>k_is);(case p5=>k_is);(case p6=>k_is);(case z0=>k_is);(case z1=>k_is);(case z2=>k_is);(case z3=>k_is);(case z4=>k_is);(case z5=>k_is);(case z6=>k_is);(case z7=>k_is);(case z8=>k_is);(case z9=>k_is);(case z10=>k_is);(case z11=>k_is);(case z12=>k_is)
 case Q =>
  intro w;constructor
  all_goals (refine' G.cU7 ?a ?l ?c ?k;(case a=>k_is);(case l=>k_is);(case c=>k_is);(case k=>k_is))
 case B=>intro w;kernel_rfl
