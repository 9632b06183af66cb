import PyProof.Rows.All
import Wide.All
import OpenK.AllK
import Wide.FinOn
import Lean
import PyProof.EqAt
import PyProof.EqKinds
import PyProof.TupleCall
import PySem.Challenge.RW_glazework_k82_whole_exchanged
open Option renaming none→O,some→Z
open PySem.W renaming Frag→ad,nsIn→aP,mg_none_of→aX,keepIn→bH,fnOf→bT,mg_of→cw,codeIn→cR
open List renaming mem_cons_self→ae,mem_append_left→af,mem_append_right→ag,length_append→ah,length_map→aj,mem_cons→am,getElem?_eq_some_iff→ao,mem_singleton→au,getElem?_eq_getElem→av,size_toArray→aw,append_assoc→ax,mem_append→ay,range→az,length_take→aA,replicate→aB,not_mem_nil→aC,nodup_append→aD,getElem?_set_ne→aG,length_cons→aH,getElem?_map→aI,getElem?_set_self→aJ,getElem?_append_right→aK,mem_map→aM,length_singleton→aN,mem_range→aR,length_drop→aS,getElem_mem→aT,lookup_cons→aU,getElem?_append_left→aV,length_range→aW,getD_eq_getElem?_getD→aZ,singleton_append→ba,any_eq_true→bc,nodup_cons→be,map_append→bf,getElem?_eq_none→bj,take_append_drop→bn,append_nil→br,all_eq_true→bt,take_of_length_le→bx,foldl_cons→bA,find?_cons→bB,mem_of_mem_take→bC,mem_of_mem_drop→bD,all_cons→bE,any_cons→bF,drop_eq_getElem_cons→bG,map_cons→bK,map_map→bM,perm_append_comm_assoc→bN,any_eq_false→bP,filterMap_cons→bQ,replicate_succ→bR,mem_map_of_mem→bS,mem_filter→bV,ext_getElem?→bW,getElem?_replicate→bX,flatten_cons→ce,findIdx?_eq_some_iff_getElem→cj,map_drop→ck,map_take→cq,append_of_mem→cD,drop_eq_nil_of_le→cF,length_replicate→cH,getElem_append_right→cO,reverse_cons→cT,set_eq_take_append_cons_drop→cU,foldl→cV,drop_of_length_le→cW,take_succ_eq_append_getElem→cX,Pairwise→cY,length_filter_le→dk,mem_of_getElem?→dl,length_nil→dq,take_append_of_le_length→dr,length_reverse→dv,getElem?_range→dw,mem_filterMap→dA,getElem?_take→dB,pairwise_map→dG,mem_of_find?_eq_some→dI,getElem_append_left→dJ,range'_succ→dO,getElem?_cons_zero→dP,any_map→dQ,length_eq_zero_iff→dS,filter_cons_of_pos→dU,filter_cons_of_neg→dW,of_mem_zip→dZ,range_succ_eq_map→eD,map_eq_append_iff→eI,find?_some→eK,filter_eq_nil_iff→eL,length→eO
open Nat renaming le_refl→ak,ne_of_lt→aE,lt_of_lt_of_le→aL,zero_le→aO,le_trans→aQ,lt_irrefl→bz,min_eq_left→bJ,lt_or_ge→bL,mul_le_mul→bU,sub_self→bY,mul_comm→bZ,le_add_right→cx,le_of_lt→cy,lt_of_le_of_lt→cz,gcd→cE,lt_succ_of_lt→cI,mul_le_mul_right→cL,pos_of_ne_zero→cP,lt_succ_self→cZ,mul_pos→dh,min_eq_right→dj,pow_le_pow_right→dm,succ_mul→dt,zero_add→du,le_succ→dD,min_le_right→dL,lt_trans→dR,not_lt_zero→eE,div_le_self→eG
open Bool renaming and_eq_true→ar,false_ne_true→aF,false_eq_true→bh,eq_iff_iff→bo,not_eq_true'→bp,false_or→cr,true_or→cJ,or_eq_false_iff→cM,and_false→cS,false_and→dy,true_and→dF
open Array renaming length_toList→aY,size_append→bO,mem_toList_iff→cK,toList_append→cN,getElem?_toList→eQ
open Option renaming some→bq,map→cG,isSome_some→cQ,none_or→dz,isSome_map→dE,getD_some→dM,bind_some→dN,map_eq_some_iff→dY,map_some→eB,any_some→eJ
open Int renaming toNat_natCast→bu,natCast_mul→bI,natAbs_natCast→cB,le_trans→dX,le_antisymm→eF,natCast_add→eM
open Classical renaming propDecidable→bv,byContradiction→dH,choose_spec→eR
open PySem renaming wpAny_bind→eS,wpAny_pure→eT,wpAny_mono→eU,wpAny_newObj_type→eV,wpAny_truthy_bool→eW,wpAny_field→eY,starEach→fb,sizeLine→fc,sizeLine_eq→fe,compareOp→ff,mainGlobals→fg,Program→fh,Around→fi,FuncData→fj,bootBuiltins→fk,binaryOp→fo,Keyword→fq,assignEach→ft,foldedSetIterable→fu,call_meets→fw,attributeBase→fB,wpAny→fD,model→fE
open PySem.Heap renaming get?_push_of_some→fF,lt_size→fG,get?_push_size→fH
open PySem.SeqAt renaming shaped→fI
open PySem.PyData renaming eqv→fJ,int→fK,bool→fL,str→fM,canLay0→fN
open PySem.Value renaming ref→fO,none→fP
open PySem.NameKind renaming free→fQ
open PySem renaming Value→fR
open PySem renaming Shared→fS
open PySem renaming Addr→fT
set_option compiler.extract_closed false
noncomputable section
set_option autoImplicit true
set_option Elab.async false
set_option linter.all false
set_option maxRecDepth 100000
def xbo{α β:Type}{o:Option α}{f:α->Option β}{b:β}(h:o.bind f=Z b):∃a,o=Z a/\f a=Z b:=Option.bind_eq_some_iff.mp h
def xmo{α β:Type}{o:Option α}{f:α->β}{b:β}(h:o.map f=Z b):∃a,o=Z a/\f a=b:=dY.mp h
def xmm{α:Type}{a:α}{l:List α}(b:α)(h:a∈l):a∈b::l:=List.mem_cons_of_mem b h
namespace L2
open PySem PySem.Spec PyProof.Rows
noncomputable abbrev Key:=Sum Int Str
noncomputable def aN4:Key->fR->Bool
 | .inl k,v=>Value.isInt k v
 | .inr x,v=>Value.isStrOf x v
noncomputable def db5(w:World):Key->Int
 | .inl k=>hashInt k
 | .inr x=>hashStr w x
def M8:∀{k:Key}{v:fR},aN4 k v=true->(∃i t,k=Sum.inl i/\v=Value.int i t)\/(∃x t,k=Sum.inr x/\v=Value.str x t)
 | .inl i,v,h=>by
  obtain⟨t,e⟩:=Value.isInt_shape (k:=i) (v:=v) h;exact .inl ⟨i,t,rfl,e⟩
 | .inr x,v,h=>by
  obtain⟨t,e⟩:=Value.isStrOf_shape (x:=x) (v:=v) h;exact .inr ⟨x,t,rfl,e⟩
def by7(i:Int)(t:Tok):aN4 (.inl i) (.int i t)=true:=by simp[aN4,Value.isInt]
def by6(x:Str)(t:Tok):aN4 (.inr x) (.str x t)=true:=by simp[aN4,Value.isStrOf]
def cC4(a b:Int):decide ((Sum.inl a:Key)=Sum.inl b)=(a==b):=by
 by_cases e:a=b
 .subst e;simp
 .have h:¬(Sum.inl a:Key)=Sum.inl b:=λq=>e (Sum.inl.inj q)
  rw[decide_eq_false h];exact(beq_eq_false_iff_ne.mpr e).symm
def bN3(a b:Str):decide ((Sum.inr a:Key)=Sum.inr b)=decide (a=b):=by
 by_cases e:a=b
 .subst e;simp
 .have h:¬(Sum.inr a:Key)=Sum.inr b:=λq=>e (Sum.inr.inj q)
  rw[decide_eq_false h,decide_eq_false e]
def cC3(a:Int)(b:Str):decide ((Sum.inl a:Key)=Sum.inr b)=false:=decide_eq_false λq=>nomatch q
def cC2(a:Str)(b:Int):decide ((Sum.inr a:Key)=Sum.inl b)=false:=decide_eq_false λq=>nomatch q
noncomputable def G2(prog:fh)(w:World):PySem.KeyKind prog w Key where
 is:=aN4
 hash:=db5 w
 inj:=λv a b ha hb=>by
  rcases M8 ha with⟨i,t,rfl,rfl⟩|⟨x,t,rfl,rfl⟩
  .rcases M8 hb with⟨j,u,rfl,e⟩|⟨y,u,rfl,e⟩
   .injection e with e1 _;rw[e1]
   .exact nomatch e
  .rcases M8 hb with⟨j,u,rfl,e⟩|⟨y,u,rfl,e⟩
   .exact nomatch e
   .injection e with e1 _;rw[e1]
 byValue:=λk v h=>by rcases M8 h with⟨i,t,rfl,rfl⟩|⟨x,t,rfl,rfl⟩<;>rfl
 pyHash:=λhv h=>by
  rcases M8 hv with⟨i,t,rfl,rfl⟩|⟨x,t,rfl,rfl⟩
  .exact wpAny_pyHash_int h
  .exact wpAny_pyHash_str h
 eqBool:=λhu hv h=>by
  rcases M8 hu with⟨i,t,rfl,rfl⟩|⟨x,t,rfl,rfl⟩
  .rcases M8 hv with⟨j,u,rfl,rfl⟩|⟨y,u,rfl,rfl⟩
   .rw[cC4]at h;exact wpAny_eqBool_int h
   .rw[cC3]at h;exact SeqAt.EqAt.int_str i t y u _ _ _ _ h
  .rcases M8 hv with⟨j,u,rfl,rfl⟩|⟨y,u,rfl,rfl⟩
   .rw[cC2]at h;exact SeqAt.EqAt.str_int x t j u _ _ _ _ h
   .rw[bN3]at h;exact wpAny_eqBool_str h
 «strs»:=λk x t v h=>by
  rcases M8 h with⟨i,u,rfl,e⟩|⟨y,u,rfl,e⟩
  .exact nomatch e
  .injection e with e1 _
   subst e1;cases v<;>rfl
def ba3(prog:fh)(w:World)(i:Int)(t:Tok):(G2 prog w).is (.inl i) (.int i t)=true:=by7 i t
def ay4(prog:fh)(w:World)(x:Str)(t:Tok):(G2 prog w).is (.inr x) (.str x t)=true:=by6 x t
inductive V where
 | non|bl (b:Bool)|int (i:Int)|str (x:Str)|byt (b:Array UInt8)|flt (b:UInt64)|ref (a:fT)|ty (n:String)
 deriving DecidableEq
noncomputable def E4:V->fR->Prop
 | .non,u=>u=fP
 | .bl b,u=>u=Value.bool b
 | .int i,u=>∃t,u=Value.int i t
 | .str x,u=>∃t,u=Value.str x t
 | .byt b,u=>∃t,u=Value.bytes b t
 | .flt b,u=>∃t,u=Value.float b t
 | .ref a,u=>u=fO a
 | .ty n,u=>u=Value.type n
noncomputable abbrev D8:List V->List fR->Prop:=Paired E4
theorem D8.length(r:D8 xs us):xs.length=us.length:=Paired.length r
theorem D8.get:∀{xs:List V}{us:List fR}{i:Nat}{x:V},D8 xs us->xs[i]? = Z x->∃u,us[i]? = Z u/\E4 x u
 | _,_,_,_,.nil,e=>by simp at e
 | _,_,0,_,.cons r _,e=>by simp at e;subst e;exact⟨_,rfl,r⟩
 | _,_,i+1,x,.cons _ t,e=>by
  obtain⟨u,h1,h2⟩:=D8.get (i:=i) (x:=x) t (by simpa using e);exact⟨u,by simpa using h1,h2⟩
theorem D8.append:∀{xs ys:List V}{us ws:List fR},D8 xs us->D8 ys ws->D8 (xs++ys) (us++ws)
 | _,_,_,_,.nil,s=>s
 | _,_,_,_,.cons r t,s=>.cons r<|D8.append t s
theorem D8.take:∀{xs:List V}{us:List fR}(n:Nat),D8 xs us->D8 (xs.take n) (us.take n)
 | _,_,0,_=>.nil
 | _,_,_+1,.nil=>.nil
 | _,_,n+1,.cons r t=>.cons r<|D8.take n t
theorem D8.drop:∀{xs:List V}{us:List fR}(n:Nat),D8 xs us->D8 (xs.drop n) (us.drop n)
 | _,_,0,r=>r
 | _,_,_+1,.nil=>.nil
 | _,_,n+1,.cons _ t=>D8.drop n t
noncomputable def av6:Option V->Option fR->Prop
 | some v,Z u=>E4 v u
 | none,O=>True
 | _,_=>False
noncomputable def KV{κ:Type}:List (κ×V)->List (κ×fR)->Prop:=Paired λ(p:κ×V) (q:κ×fR)=>p.1=q.1/\E4 p.2 q.2
noncomputable def kV:Key->V
 | .inl i=>.int i
 | .inr x=>.str x
inductive HO where
 /-- a list -/
 | lst (xs:List V)
 /-- a tuple (never changes) -/
 | tup (xs:List V)
 /-- a dict whose keys are ints and texts;one whose keys are tuples of ints and texts (the empty one is both) -/
 | dK (kvs:List (Key×V))|dT (kvs:List (List Key×V))
 /-- a set of ints: its members,its size -/
 | set (S:Int->Bool) (n:Nat)
 /-- an instance of the class at C,its dict at dx,its attributes -/
 | ins (C dx:fT) (fs:List (Str×V))
 /-- the dict of the instance at x -/
 | own (x:fT)
 /-- the dict of an exception -/
 | xd (fs:List (Str×V))
 /-- a bound method,f of x -/
 | met (f x:fT)
 /-- a range object lo,lo+1,.. below hi -/
 | rng (lo hi:Int)
 /-- a thing that is known to the object (the script;a dict while a loop walks it): read,never written while it is so -/
 | frz (o:Obj) (u:HO)
 /-- a code object's table -/
 | tbl (ps:Array fR)
 /-- any other thing,by what is true of its one object (a def of one's own: SetO a S n:=HO.ext λh=>..) -/
 | ext (φ:Heap->Prop)
noncomputable abbrev Hp:=fT->Option HO
noncomputable def upd(H:Hp)(a:fT)(o:HO):Hp:=λb=>if b=a then Z o else H b
def C2:upd H a o a=Z o:=by unfold upd;rw[if_pos rfl]
def C8(h:b≠a):upd H a o b=H b:=by unfold upd;rw[if_neg h]
def bY4:upd (upd H a o) a u=upd H a u:=by funext b;unfold upd;split<;>rfl
def C9{H:Hp}{a b:fT}{o:HO}(h:H a=Z o)(h':H b=O):a≠b:=by intro e;subst e;rw[h]at h';cases h'
noncomputable def aJ2(h:Heap)(a:fT)(items:Array fR):Prop:=∃o,h.get? a=Z o/\o.cls=.type "tuple" /\ (∃n,o.data=.seq items n)/\o.dict=O
def aJ2.tup{h:Heap}{a:fT}{items:Array fR}(p:aJ2 h a items):IsTup h a items:=let⟨o,e,c,d,_⟩:=p;⟨o,e,c,d⟩
def aJ2.new(h:Heap)(items:Array fR)(n:Nat:=0):aJ2 (h.push { cls:=.type "tuple", data:=.seq items n }) h.objs.size items:=⟨_,fH _ rfl,rfl,⟨_,rfl⟩,rfl⟩
section
variable (P:Program) (w:World)
noncomputable def P9(H:Hp)(h:Heap)(a:fT):HO->Prop
 | .lst xs=>xs.length<=fc/\∃(its:List fR) (n:Nat),D8 xs its/\h.get? a=Z { cls:=.type "list", data:=.seq its.toArray n }
 | .tup xs=>xs.length<=fc/\∃its:List fR,D8 xs its/\aJ2 h a its.toArray
 | .dK kvs=>kvs.length<=fc/\(a==sysModules)=false/\∃vs,KV kvs vs/\h.DictOf (G2 P w) a vs
 | .dT kvs=>kvs.length<=fc/\(a==sysModules)=false/\∃xs:List (List Key×fT×fR),
   Paired (λ(p:List Key×V) (q:List Key×fT×fR)=>p.1=q.1/\H q.2.1=Z (.tup<|p.1.map kV)/\E4 p.2 q.2.2) kvs xs /\
   ∃o es ep,h.get? a=Z o/\o.ExactDict/\o.data=.dict es ep/\es.toList=xs.map (entryOfKey<|tupleKind (G2 P w))/\(xs.map (·.1)).Nodup
 | .set S n=>h.SetOf (intKind P w) a S n
 | .ins C dx fs=>H dx=Z (.own a)/\fs.length<=1000/\dx≠a/\h.get? a=Z (PySem.W.instObj C dx) /\
   ∃mA,h.Ns1 dx mA/\(∀f,av6 (fs.lookup f)<|mA f)/\PySem.Within mA (fs.map (·.1))
 | .own _=>∃o,h.get? a=Z o
 | .xd fs=>∃mA,h.Ns1 a mA/\∀f,av6 (fs.lookup f)<|mA f
 | .rng lo hi=>∃t u v,h.get? a=Z { cls:=.type "range", data:=.fields #[.int lo t,.int hi u,.int 1 v] }
 | .frz o u=>h.get? a=Z o/\P9 H h a u
 | .tbl ps=>h.get? a=Z { cls:=.none,data:=.fields ps }
 | .met f x=>h.get? a=Z (PySem.W.methodObj (.ref f)<|.ref x)
 | .ext φ=>φ h/\(∃o,h.get? a=Z o)/\∀h1 h2:Heap,φ h1->(∀o,h1.get? a=Z o->h2.get? a=Z o)->φ h2
noncomputable def HOk(H:Hp)(h:Heap):Prop:=∀a o,H a=Z o->P9 P w H h a o
end
section
variable {P:Program}{w:World}{H H':Hp}{h h':Heap}{a:Addr}{o:HO}
theorem P9.lt(x:P9 P w H h a o):a < h.objs.size:=by
 cases o with
 | lst xs=>obtain⟨_,_,_,_,e⟩:=x;exact fG e
 | tup xs=>obtain⟨_,_,_,p⟩:=x;exact p.tup.lt
 | dK kvs=>obtain⟨_,_,_,_,o,_,_,e,_⟩:=x;exact fG e
 | dT kvs=>obtain⟨_,_,_,_,o,_,_,e,_⟩:=x;exact fG e
 | set S n=>obtain⟨o,_,_,_,e,_⟩:=x;exact fG e
 | ins C dx fs=>obtain⟨_,_,_,e,_⟩:=x;exact fG e
 | own y=>obtain⟨_,e⟩:=x;exact fG e
 | xd fs=>obtain⟨_,⟨_,_,_,e,_⟩,_⟩:=x;exact fG e
 | rng lo hi=>obtain⟨_,_,_,e⟩:=x;exact fG e
 | frz ob u=>obtain⟨e,_⟩:=x;exact fG e
 | tbl ps=>exact fG (show h.get? a=Z _ from x)
 | met f y=>exact fG (show h.get? a=Z _ from x)
 | ext φ=>obtain⟨_,⟨_,e⟩,_⟩:=x;exact fG e
theorem Paired.mapP{α β:Type}{F G:α->β->Prop}:∀{l₁:List α}{l₂:List β},Paired F l₁ l₂->(∀a b,F a b->G a b)->Paired G l₁ l₂
 | _,_,.nil,_=>.nil
 | _,_,.cons r t,f=>.cons (f _ _ r)<|Paired.mapP t f
def P9.stay(x:P9 P w H h a o)(k:∀b u,(b=a\/H b=Z (.own a))->h.get? b=Z u->h'.get? b=Z u)
  (ho:∀b,H b=Z (.own a)->H' b=Z (.own a)) (ht:∀b xs,H b=Z (.tup xs)->H' b=Z (.tup xs)):P9 P w H' h' a o:=by
 induction o with
 | lst xs=>obtain⟨z,its,n,r,e⟩:=x;exact⟨z,its,n,r,k _ _ (.inl rfl) e⟩
 | tup xs=>obtain⟨z,its,r,ob,e,c⟩:=x;exact⟨z,its,r,ob,k _ _ (.inl rfl) e,c⟩
 | dK kvs=>obtain⟨z,y,vs,r,ob,es,ep,e,c⟩:=x;exact⟨z,y,vs,r,ob,es,ep,k _ _ (.inl rfl) e,c⟩
 | dT kvs =>
  obtain⟨z,y,xs,r,ob,es,ep,e,c⟩:=x;exact⟨z,y,xs,Paired.mapP r λp q z=>⟨z.1,ht _ _ z.2.1,z.2.2⟩,ob,es,ep,k _ _ (.inl rfl) e,c⟩
 | set S n=>obtain⟨ob,es,ep,t,e,c⟩:=x;exact⟨ob,es,ep,t,k _ _ (.inl rfl) e,c⟩
 | ins C dx fs =>
  obtain⟨d,z,ne,e,mA,⟨od,es,ep,e2,c⟩,r⟩:=x;exact⟨ho _ d,z,ne,k _ _ (.inl rfl) e,mA,⟨od,es,ep,k _ _ (.inr d) e2,c⟩,r⟩
 | own y=>obtain⟨ob,e⟩:=x;exact⟨ob,k _ _ (.inl rfl) e⟩
 | xd fs=>obtain⟨mA,⟨od,es,ep,e,c⟩,r⟩:=x;exact⟨mA,⟨od,es,ep,k _ _ (.inl rfl) e,c⟩,r⟩
 | rng lo hi=>obtain⟨t,u,v,e⟩:=x;exact⟨t,u,v,k _ _ (.inl rfl) e⟩
 | frz ob u ih=>obtain⟨e,q⟩:=x;exact⟨k _ _ (.inl rfl) e,ih q⟩
 | tbl ps =>
  have e:h.get? a=Z { cls:=.none,data:=.fields ps }:=x;show h'.get? a=Z { cls:=.none,data:=.fields ps };exact k a _ (.inl rfl) e
 | met f y =>
  have e:h.get? a=Z (PySem.W.methodObj (.ref f)<|.ref y):=x;show h'.get? a=Z (PySem.W.methodObj (.ref f)<|.ref y);exact k a _ (.inl rfl) e
 | ext φ=>obtain⟨p,⟨o,e⟩,st⟩:=x;exact⟨st _ _ p λo q=>k _ _ (.inl rfl) q,⟨o,k _ _ (.inl rfl) e⟩,st⟩
theorem HOk.lt(x:HOk P w H h)(e:H a=Z o):a < h.objs.size:=(x a o e).lt
def HOk.fresh(x:HOk P w H h)(e:h.objs.size<=a):H a=O:=by
 cases q:H a with
 | none=>rfl
 | some u=>exact absurd (aL (x.lt q) e)<|bz _
def HOk.kept(x:HOk P w H h)(k:∀b u,h.get? b=Z u->h'.get? b=Z u):HOk P w H h':=λa o e =>(x a o e).stay (λb u _ q=>k b u q) (λ_ q=>q) λ_ _ q=>q
def HOk.laid(x:HOk P w H h)(k:∀b u,h.get? b=Z u->h'.get? b=Z u)(hp:h.objs.size<=a)(new:P9 P w (upd H a o) h' a o):HOk P w (upd H a o) h':=λb u e=>by
 have hn:=x.fresh hp;by_cases hb:b=a
 .subst hb;rw[C2]at e;cases e;exact new
 .rw[C8 hb]at e;exact(x b u e).stay (λc v _ q=>k c v q) (λc q=>by rw[C8 (C9 q hn)];exact q) λc xs q=>by rw[C8 (C9 q hn)];exact q
end
noncomputable def Rd(H:Hp)(a:fT)(u:HO):Prop:=H a=Z u\/∃o,H a=Z (.frz o u)
def Rd.ok(r:Rd H a u)(x:HOk P w H h):P9 P w H h a u:=by
 rcases r with r|⟨o,r⟩
 .exact x a u r
 .obtain⟨_,q⟩:=x a _ r;exact q
noncomputable def Mut:Option HO->Prop
 | some (.lst _)=>True
 | some (.dK _)=>True
 | some (.dT _)=>True
 | some (.set _ _)=>True
 | some (.ins _ _ _)=>True
 | some (.ext _)=>True
 | _=>False
section
variable {P:Program}{w:World}{H:Hp}{h h':Heap}{x e:Addr}{o':HO}
def HOk.write(ok:HOk P w H h)(mu:Mut (H x))(he:e=x\/H e=Z (.own x))(k:∀b u,b≠e->h.get? b=Z u->h'.get? b=Z u)(heo:∃u,h'.get? e=Z u)
  (new:P9 P w (upd H x o') h' x o'):HOk P w (upd H x o') h':=λb u q=>by
 have nown:∀c y,H c=Z (.own y)->c≠x:=λc y r z=>by subst z;rw[r]at mu;exact mu
 have ntup:∀c xs,H c=Z (.tup xs)->c≠x:=λc xs r z=>by subst z;rw[r]at mu;exact mu
 by_cases hb:b=x
 .subst hb;rw[C2]at q;cases q;exact new
 .rw[C8 hb]at q;by_cases hbe:b=e
  .have q':H b=Z (.own x):=by
    rcases he with z|z
    .exact absurd (hbe.trans z) hb
    .rw[hbe];exact z
   rw[q]at q';cases q';obtain⟨v,hv⟩:=heo;exact⟨v,by rw[hbe];exact hv⟩
  .refine(ok b u q).stay (λc v hc r=>k c v ?_ r) (λc r=>by rw[C8 (nown c b r)];exact r) λc xs r=>by rw[C8 (ntup c xs r)];exact r
   rcases hc with rfl|hc
   .exact hbe
   .rintro rfl
    rcases he with z|z
    .exact nown c b hc z
    .rw[hc]at z;cases z;exact hb rfl
end
structure Un (fs ex:List fT) (H H':Hp) (h h':Heap):Prop where
 keep:∀b o,h.get? b=Z o->H b=O->b∉fs->b∉ex->h'.get? b=Z o
 slot:∀b o,h.get? b=Z o->H b=O->b∈fs->b∉ex->∃sl,h'.get? b=Z { o with slots:=sl }
 free:∀b o,h.get? b=Z o->H b=O->b∉ex->H' b=O
 there:∀b o,h.get? b=Z o->b∉ex->∃o',h'.get? b=Z o'
 tups:∀b xs,H b=Z (.tup xs)->H' b=Z (.tup xs)
 frzs:∀b o u,H b=Z (.frz o u)->H' b=Z (.frz o u)
 tbls:∀b ps,H b=Z (.tbl ps)->∃more,H' b=Z (.tbl<|ps++more)
section
variable {fs fs' ex ex':List Addr}{H H1 H2:Hp}{h h1 h2 h':Heap}{a x e:Addr}{o:HO}
def Un.any(u:Un fs ex H H1 h h1)(q:h.get? b=Z ob)(n:H b=O)(hx:b∉ex):∃sl,h1.get? b=Z { ob with slots:=sl }:=by
 by_cases hb:b∈fs
 .exact u.slot b ob q n hb hx
 .exact⟨ob.slots,u.keep b ob q n hb hx⟩
def Un.kept(k:∀b u,h.get? b=Z u->h'.get? b=Z u):Un fs ex H H h h' :=
 ⟨λb ob q _ _ _=>k b ob q,λb ob q _ _ _=>⟨ob.slots,k b ob q⟩,λ_ _ _ n _=>n,λb ob q _=>⟨ob,k b ob q⟩,λ_ _ q=>q,λ_ _ _ q=>q,λ_ ps q=>⟨#[],by rw[q];simp⟩⟩
def Un.refl:Un fs ex H H h h:=Un.kept λ_ _ q=>q
def Un.laid(k:∀b u,h.get? b=Z u->h'.get? b=Z u)(hp:h.objs.size<=a)(hn:H a=O):Un fs ex H (upd H a o) h h' where
 keep:=λb u q _ _ _=>k b u q
 slot:=λb u q _ _ _=>⟨u.slots,k b u q⟩
 free:=λb u q n _=>by rw[C8 (aE<|aL (fG q) hp)];exact n
 there:=λb u q _=>⟨u,k b u q⟩
 tups:=λb xs q=>by rw[C8 (C9 q hn)];exact q
 frzs:=λb u xs q=>by rw[C8 (C9 q hn)];exact q
 tbls:=λb ps q=>⟨#[],by rw[C8 (C9 q hn),q];simp⟩
def Un.write(mu:Mut (H x))(he:e=x\/H e=Z (.own x))(k:∀b u,b≠e->h.get? b=Z u->h'.get? b=Z u)(heo:∃u,h'.get? e=Z u):Un fs ex H (upd H x o) h h':=by
 have hx:∀b,H b=O->b≠x:=λb n z=>by subst z;rw[n]at mu;exact mu
 have hb:∀b,H b=O->b≠e:=λb n z=>by
  subst z;rcases he with r|r
  .exact hx b n r
  .rw[n]at r;cases r
 have hm:∀b u,H b=Z u->¬Mut (Z u)->b≠x:=λb u q nm z=>by subst z;rw[q]at mu;exact nm mu
 refine⟨λb u q n _ _=>k b u (hb b n) q,λb u q n _ _=>⟨u.slots,k b u (hb b n) q⟩,λb u q n _=>by rw[C8 (hx b n)];exact n,λb u q _=>?_,
  λb xs q=>by rw[C8 (hm b _ q λz=>z)];exact q,λb u xs q=>by rw[C8 (hm b _ q λz=>z)];exact q,λb ps q=>⟨#[],by rw[C8 (hm b _ q λz=>z),q];simp⟩⟩
 by_cases hbe:b=e
 .subst hbe;exact heo
 .exact⟨u,k b u hbe q⟩
end
noncomputable def trk(h:Heap)(H:Hp):List fT:=(az h.objs.size).filter λa=>(H a).isSome
noncomputable def aT8(h:Heap)(H:Hp):Heap:=PySem.W.hideAll h<|trk h H
def bz3(h:Heap)(H:Hp):(aT8 h H).objs.size=h.objs.size:=PySem.W.hideAll_size _ _
def bQ8(e:h.get? b=Z o)(n:H b=O):(aT8 h H).get? b=Z o :=
 PySem.W.hideAll_get _ e λhm=>by
  have q:(H b).isSome=true:=(bV.mp hm).2;rw[n]at q;simp at q
def cd3(e:(aT8 h H).get? b=Z o):h.get? b=Z o/\H b=O:=by
 have e':h.get? b=Z o:=PySem.W.of_hideAll (trk h H) e;refine⟨e',?_⟩;cases q:H b with
 | none=>rfl
 | some x =>
  have hm:b∈trk h H:=bV.mpr ⟨aR.mpr<|fG e',by simp[q]⟩;have z:(aT8 h H).get? b=O:=PySem.W.hideAll_none (trk h H) hm;rw[z]at e;cases e
noncomputable def cm0(g h:Heap)(L:fT):List (fT×Obj):=(az h.objs.size).filterMap λa=>if a=L\/(g.get? a).isSome=true then O else(h.get? a).map λo=>(a,o)
noncomputable def G9(g h:Heap)(L d:fT):List (fT×Obj):=(cm0 g h L).filter λp=>decide (p.1≠d)
structure Mod (K:ad) (mg:Str->Option fR) (base:Heap):Prop where
 kin:K.In base
 glob:base.Ns fg mg
 blt:∃mb,base.Ns builtinsNs mb/\∀x:Str,x ≠ "__name__" -> mb x=fk x
 nolimit:base.NoLimit
structure Cx where
 prog:fh
 w:World
 K:ad
 mg:Str->Option fR
 base:Heap
 A:fi
 N:List Str
 s₀:fS
 H₀:Hp
 env:Env
 outer:List Env
 stack:List Env
 ex:List fT
 fn:Str->Bool
 calm:Bool
 pn:List (fT×Obj)
 xe:fR->fS->Prop
noncomputable def frs(l:List Env):List fT:=l.filterMap (·.frame)
noncomputable abbrev Cx.fs(X:Cx):List fT:=frs X.outer
noncomputable def Vis(sc:Scope)(x:Str):Prop:=sc.names.lookup x=Z .local\/sc.names.lookup x=Z .cell\/sc.names.lookup x=Z .free
noncomputable def Loc(sc:Scope)(x:Str):Prop:=sc.names.lookup x=Z .local\/sc.names.lookup x=Z .cell
noncomputable def dd3(env:Env)(h:Heap)(m:Str->Option fR)(x:Str)(u:fR):Prop :=
 (env.kindOf x=Z .local/\m x=Z u)\/((env.kindOf x=Z .cell\/env.kindOf x=Z .free)/\∃c,env.cells.lookup x=Z c/\h.IsCell c (Z u))
structure Cx.Ok (X:Cx):Prop where
 mod:Mod X.K X.mg X.base
 kind:X.env.scope.kind=.function
 glob:X.env.globals=fg
 blt:X.env.builtins=builtinsNs
 above:X.s₀.heap.objs.size<=X.env.locals
 inj:∀x y c,X.env.cells.lookup x=Z c->X.env.cells.lookup y=Z c->x=y
 has:∀x,(X.env.kindOf x=Z .cell\/X.env.kindOf x=Z .free)->∃c,X.env.cells.lookup x=Z c
 cab:∀x c,X.fn x=true->X.env.cells.lookup x=Z c->X.s₀.heap.objs.size<=c
 hd:X.calm=true->X.A.handled=O
 frames:X.A.frames=Z X.stack
 stk:X.stack=X.outer\/(X.stack=X.env::X.outer/\X.env.frame=Z X.env.locals)
 exf:∀b∈X.ex,b≠X.env.locals/\∀x c,X.env.cells.lookup x=Z c->c≠b
 bs:∀b o,X.base.get? b=Z o->X.s₀.heap.get? b=Z o/\X.H₀ b=O
 bsz:X.base.objs.size<=X.s₀.heap.objs.size
 noex:∀b o,X.base.get? b=Z o->b∉X.ex
 exfs:∀b∈X.ex,b∉X.fs
 funs:X.s₀.heap.FunFrames X.base X.outer
 frf:∀b∈X.fs,X.H₀ b=O
structure Inv (X:Cx) (pins:List (fT×Obj)) (σ:List (Option V)) (H:Hp) (s:fS):Prop where
 ok:X.Ok
 os:s.os=X.s₀.os
 bare:AllBare s.gens
 base:Un X.fs X.ex X.H₀ H X.s₀.heap s.heap
 loc:∃m,s.heap.Ns X.env.locals m/\∀(i:Nat) (x:Str) (v:V),X.N[i]? = Z x->σ[i]? = Z (Z v)->Vis X.env.scope x->∃u,E4 v u/\dd3 X.env s.heap m x u
 cell:∀x c,X.env.cells.lookup x=Z c->∃v,s.heap.IsCell c v
 free:H X.env.locals=O
 freeC:∀x c,X.env.cells.lookup x=Z c->H c=O
 pin:∀p∈X.pn++pins,s.heap.get? p.1=Z p.2/\H p.1=O/\p.1≠X.env.locals/\p.1∉X.fs/\∀v,p.2.data≠.cell v
 hok:HOk X.prog X.w H s.heap
 len:σ.length=X.N.length
section
variable {X:Cx}{pins:List (Addr×Obj)}{σ:List (Option V)}{H H':Hp}{s:Shared}{h':Heap}
def Cx.Ok.nofr(ok:X.Ok)(e:X.base.get? b=Z o):b∉X.fs:=λhb=>by
 have:=(ok.funs.mem hb).1;rw[e]at this;cases this
theorem Inv.bs(I:Inv X pins σ H s):∀b o,X.base.get? b=Z o->s.heap.get? b=Z o/\H b=O:=λb o e =>⟨I.base.keep b o (I.ok.bs b o e).1 (I.ok.bs b o e).2 (I.ok.nofr e)<|I.ok.noex b o e,I.base.free b o (I.ok.bs b o e).1 (I.ok.bs b o e).2<|I.ok.noex b o e⟩
def Inv.bk(I:Inv X pins σ H s):∀b o,X.base.get? b=Z o->s.heap.get? b=Z o:=λb o e=>(I.bs b o e).1
theorem Inv.mod(I:Inv X pins σ H s):Mod X.K X.mg X.base:=I.ok.mod
def Inv.kIn(I:Inv X pins σ H s):X.K.In s.heap:=I.ok.mod.kin.keeps I.bk
theorem Inv.lt(I:Inv X pins σ H s):X.env.locals < s.heap.objs.size:=let⟨_,hn,_⟩:=I.loc;hn.lt
def Inv.sz(I:Inv X pins σ H s):X.s₀.heap.objs.size<=s.heap.objs.size:=aQ I.ok.above<|cy I.lt
def Inv.nofs(I:Inv X pins σ H s)(h:s.heap.objs.size<=a):a∉X.fs:=λhb=>by
 obtain⟨_,o,ho,_⟩:=I.ok.funs.mem hb;exact absurd (aL (fG ho)<|aQ I.sz h)<|bz _
def Inv.cne(I:Inv X pins σ H s):∀x c,X.env.cells.lookup x=Z c->c≠X.env.locals:=λx c e z=>by
 obtain⟨v,o,ho,hd⟩:=I.cell x c e;obtain⟨m,⟨o',es,ep,ho',hd',_⟩,_⟩:=I.loc;rw[z,ho']at ho;cases ho;rw[hd']at hd;cases hd
theorem Inv.funs(I:Inv X pins σ H s):s.heap.FunFrames X.base X.outer:=by
 have all:∀(l:List Env),(∀b∈frs l,b∈X.fs)->X.s₀.heap.FunFrames X.base l->s.heap.FunFrames X.base l:=by
  intro l
  induction l with
  | nil=>intro _ _;trivial
  | cons env r ih =>
   intro hs hl;obtain⟨hk,⟨L,o,hf,hn,ho,hd⟩,hr⟩:=hl;have hL:L∈X.fs:=hs L (by unfold frs;rw[bQ,hf];exact ae);obtain⟨sl,e⟩:=I.base.slot L o ho (I.ok.frf L hL) hL λz=>I.ok.exfs L z hL
   exact⟨hk,⟨L,_,hf,hn,e,hd⟩,ih (λb hb=>hs b (by unfold frs;rw[bQ,hf];exact xmm _ hb)) hr⟩
 exact all X.outer (λ_ hb=>hb) I.ok.funs
theorem Inv.stack(I:Inv X pins σ H s):s.heap.FunFrames X.base X.stack:=by
 rcases I.ok.stk with e|⟨e,hf⟩
 .rw[e];exact I.funs
 .rw[e];obtain⟨m,hn,_⟩:=I.loc;refine .cons (by rw[I.ok.kind];decide) hf hn ?_ I.funs;exact Heap.get?_none_of_le<|aQ I.ok.bsz I.ok.above
def Inv.stkSub(I:Inv X pins σ H s):∀b∈frs X.stack,b∈X.env.locals::X.fs:=λb hb=>by
 rcases I.ok.stk with e|⟨e,hf⟩
 .rw[e]at hb;exact xmm _ hb
 .rw[e]at hb;unfold frs at hb;rw[bQ,hf]at hb;exact hb
def Inv.stkFree(I:Inv X pins σ H s):∀b∈frs X.stack,H b=O:=λb hb=>by
 rcases am.mp (I.stkSub b hb) with e|hb
 .rw[e];exact I.free
 .obtain⟨_,o,ho,_⟩:=I.ok.funs.mem hb;exact I.base.free b o ho (I.ok.frf b hb) λz=>I.ok.exfs b z hb
def Inv.step{g':Array GenState}{t':Nat}{d':Drawn}{ch:List fT}(I:Inv X pins σ H s)
  (hch:∀b∈ch,(b∈X.ex\/X.s₀.heap.objs.size<=b)/\b≠X.env.locals/\(∀x c,X.env.cells.lookup x=Z c->c≠b)/\∀p∈X.pn++pins,p.1≠b)
  (keep:∀b o,b≠X.env.locals->b∉X.fs->b∉ch->s.heap.get? b=Z o->H b=O->h'.get? b=Z o)
  (slot:∀b o,b≠X.env.locals->b∈X.fs->b∉ch->s.heap.get? b=Z o->H b=O->∃sl,h'.get? b=Z { o with slots:=sl }) (free:∀b o,b∉ch->s.heap.get? b=Z o->H b=O->H' b=O)
  (there:∀b o,b∉ch->s.heap.get? b=Z o->∃o',h'.get? b=Z o')
  (tups:∀b xs,H b=Z (.tup xs)->H' b=Z (.tup xs)) (frzs:∀b o u,H b=Z (.frz o u)->H' b=Z (.frz o u)) (tbls:∀b ps,H b=Z (.tbl ps)->∃more,H' b=Z (.tbl<|ps++more))
  (ns:∀m,s.heap.Ns X.env.locals m->h'.Ns X.env.locals m) (hok:HOk X.prog X.w H' h') (hg:AllBare g') :
  Inv X pins σ H' { s with heap:=h',gens:=g',drawn:=d',toks:=t' }:=by
 have neL:∀b o,X.s₀.heap.get? b=Z o->b≠X.env.locals:=λb o e=>aE<|aL (fG e) I.ok.above
 have neC:∀b o,X.s₀.heap.get? b=Z o->b∉X.ex->b∉ch:=λb o e hx hb=>by
  rcases(hch b hb).1 with z|z
  .exact hx z
  .exact absurd (aL (fG e) z) (bz _)
 have cellK:∀x c,X.env.cells.lookup x=Z c->∀v,s.heap.IsCell c v->h'.IsCell c v:=λx c e v ⟨o,ho,hd⟩=>by
  have nch:c∉ch:=λz=>(hch c z).2.2.1 x c e rfl
  by_cases hc:c∈X.fs
  .obtain⟨sl,q⟩:=slot c o (I.cne x c e) hc nch ho (I.freeC x c e);exact⟨_,q,hd⟩
  .exact⟨o,keep c o (I.cne x c e) hc nch ho<|I.freeC x c e,hd⟩
 refine⟨I.ok,I.os,hg,⟨λb o e n hb hx=>?_,λb o e n hb hx=>?_,λb o e n hx=>?_,λb o e hx=>?_,λb xs e=>tups b xs<|I.base.tups b xs e,λb o xs e=>frzs b o xs<|I.base.frzs b o xs e,λb ps e=>?_⟩,?_,λx c e=>?_,?_,λx c e=>?_,λp hp=>?_,hok,I.len⟩
 .exact keep b o (neL b o e) hb (neC b o e hx) (I.base.keep b o e n hb hx) (I.base.free b o e n hx)
 .obtain⟨sl,e1⟩:=I.base.slot b o e n hb hx;obtain⟨sl',e2⟩:=slot b _ (neL b o e) hb (neC b o e hx) e1 (I.base.free b o e n hx);exact⟨sl',e2⟩
 .obtain⟨o',e1⟩:=I.base.there b o e hx;exact free b o' (neC b o e hx) e1<|I.base.free b o e n hx
 .obtain⟨o',e1⟩:=I.base.there b o e hx;exact there b o' (neC b o e hx) e1
 .obtain⟨m1,e1⟩:=I.base.tbls b ps e;obtain⟨m2,e2⟩:=tbls b _ e1;exact⟨m1++m2,by rw[e2,Array.append_assoc]⟩
 .obtain⟨m,hn,hl⟩:=I.loc;refine⟨m,ns m hn,λi x v e1 e2 e3=>?_⟩;obtain⟨u,r,l⟩:=hl i x v e1 e2 e3;refine⟨u,r,?_⟩;rcases l with l|⟨k,c,e,z⟩
  .exact .inl l
  .exact .inr ⟨k,c,e,cellK x c e _ z⟩
 .obtain⟨v,z⟩:=I.cell x c e;exact⟨v,cellK x c e v z⟩
 .obtain⟨m,⟨o,_,_,ho,_⟩,_⟩:=I.loc;exact free _ o (λz=>(hch _ z).2.1 rfl) ho I.free
 .obtain⟨v,o,ho,hd⟩:=I.cell x c e;exact free c o (λz=>(hch c z).2.2.1 x c e rfl) ho<|I.freeC x c e
 .obtain⟨e,n,ne,nf,d⟩:=I.pin p hp;have nch:p.1∉ch:=λz=>(hch p.1 z).2.2.2 p hp rfl
  exact⟨keep p.1 p.2 ne nf nch e n,free p.1 p.2 nch e n,ne,nf,d⟩
def Inv.un{t':Nat}(I:Inv X pins σ H s)(u:Un X.fs [] H H' s.heap h')(hok:HOk X.prog X.w H' h'):Inv X pins σ H' { s with heap:=h',toks:=t' }:=by
 obtain⟨m,⟨o,es,ep,ho,r⟩,_⟩:=id I.loc;obtain⟨sl,hL⟩:=u.any ho I.free (by simp)
 exact I.step (g':=s.gens) (d':=s.drawn) (ch:=[]) (λ_ z=>nomatch z) (λb o _ hb _ e n=>u.keep b o e n hb (by simp)) (λb o _ hb _ e n=>u.slot b o e n hb (by simp)) (λb o _ e n=>u.free b o e n (by simp)) (λb o _ e=>u.there b o e (by simp)) u.tups u.frzs u.tbls (λm' hm=>by
  obtain⟨o',es',ep',ho',r'⟩:=hm;rw[ho]at ho';cases ho'
  exact⟨_,es',ep',hL,r'⟩) hok I.bare
def Inv.call{g':Array GenState}{t':Nat}{d':Drawn}{ch:List fT}(I:Inv X pins σ H s)(u:Un (frs X.stack) ch H H' s.heap h')(hok:HOk X.prog X.w H' h')(hg:AllBare g')
  (hch:∀b∈ch,(b∈X.ex\/X.s₀.heap.objs.size<=b)/\b≠X.env.locals/\(∀x c,X.env.cells.lookup x=Z c->c≠b)/\∀p∈X.pn++pins,p.1≠b) :
  Inv X pins σ H' { s with heap:=h',gens:=g',drawn:=d',toks:=t' }:=by
 obtain⟨m,⟨o,es,ep,ho,r⟩,_⟩:=id I.loc;obtain⟨sl,hL⟩:=u.any ho I.free λz=>(hch _ z).2.1 rfl
 exact I.step (ch:=ch) hch (λb o hL hb hc e n=>u.keep b o e n (λz=>(am.mp (I.stkSub b z)).elim hL hb) hc) (λb o _ _ hc e n=>u.any e n hc) (λb o hc e n=>u.free b o e n hc) (λb o hc e=>u.there b o e hc) u.tups u.frzs u.tbls (λm' hm=>by
  obtain⟨o',es',ep',ho',r'⟩:=hm;rw[ho]at ho';cases ho'
  exact⟨_,es',ep',hL,r'⟩) hok hg
def Inv.turned{t':Nat}{it:fT}(I:Inv X pins σ H s)(k:∀b o,b≠it->s.heap.get? b=Z o->h'.get? b=Z o)(hn:H it=O)(hL:it≠X.env.locals)
  (h1:it∈X.ex\/X.s₀.heap.objs.size<=it) (h2:∀x c,X.env.cells.lookup x=Z c->c≠it) (h3:∀p∈X.pn++pins,p.1≠it):Inv X pins σ H { s with heap:=h',toks:=t' }:=by
 have nit:∀b u,H b=Z u->b≠it:=λb u e z=>by rw[z,hn]at e;cases e
 refine I.step (g':=s.gens) (d':=s.drawn) (ch:=[it]) (λb hb=>?_) (λb o _ _ hc e _=>k b o (λz=>hc<|by simp[z]) e) (λb o _ _ hc e _=>⟨o.slots,k b o (λz=>hc<|by simp[z]) e⟩) (λ_ _ _ _ n=>n)
  (λb o hc e=>⟨o,k b o (λz=>hc<|by simp[z]) e⟩) (λ_ _ e=>e) (λ_ _ _ e=>e) (λb ps e=>⟨#[],by rw[e];simp⟩) (λm hm=>?_) (λb u e=>?_) I.bare
 .have e:b=it:=by simpa using hb
  subst e;exact⟨h1,hL,h2,h3⟩
 .obtain⟨o,es,ep,ho,r⟩:=hm;exact⟨o,es,ep,k _ o (Ne.symm hL) ho,r⟩
 .refine(I.hok b u e).stay (λc v hc q=>k c v ?_ q) (λ_ q=>q) λ_ _ q=>q
  rcases hc with z|z
  .rw[z];exact nit b u e
  .exact nit c _ z
def Inv.tok(I:Inv X pins σ H s)(t:Nat):Inv X pins σ H { s with toks:=t }:=I.un (h':=s.heap) (t':=t) Un.refl I.hok
theorem Inv.kept(I:Inv X pins σ H s)(k:∀b u,s.heap.get? b=Z u->h'.get? b=Z u):Inv X pins σ H { s with heap:=h',toks:=t' }:=I.un (Un.kept k)<|I.hok.kept k
theorem Inv.laid(I:Inv X pins σ H s)(k:∀b u,s.heap.get? b=Z u->h'.get? b=Z u)(hp:s.heap.objs.size<=a)(new:P9 X.prog X.w (upd H a o) h' a o):
  Inv X pins σ (upd H a o) { s with heap:=h',toks:=t' }:=I.un (Un.laid k hp<|I.hok.fresh hp)<|I.hok.laid k hp new
theorem Inv.write(I:Inv X pins σ H s)(mu:Mut (H x))(he:e=x\/H e=Z (.own x))(k:∀b u,b≠e->s.heap.get? b=Z u->h'.get? b=Z u)(heo:∃u,h'.get? e=Z u)
  (new:P9 X.prog X.w (upd H x o) h' x o):Inv X pins σ (upd H x o) { s with heap:=h',toks:=t' }:=I.un (Un.write mu he k heo)<|I.hok.write mu he k heo new
def Inv.pins_of(I:Inv X pins σ H s)(h:∀p∈pins',s.heap.get? p.1=Z p.2/\H p.1=O/\p.1≠X.env.locals/\p.1∉X.fs/\∀v,p.2.data≠.cell v):Inv X pins' σ H s :=
 ⟨I.ok,I.os,I.bare,I.base,I.loc,I.cell,I.free,I.freeC,λp hp=>(ay.mp hp).elim (λz=>I.pin p<|af _ z)<|h p,I.hok,I.len⟩
def aZ5{N:List Str}(hN:N.Nodup){i j:Nat}{x:Str}(a:N[i]? = Z x)(b:N[j]? = Z x):i=j:=by
 obtain⟨h1,e1⟩:=ao.mp a;obtain⟨h2,e2⟩:=ao.mp b;exact(List.getElem_inj hN).mp (e1.trans e2.symm)
def aM2(I:Inv X pins σ H s)(hN:X.N.Nodup)(hi:X.N[i]? = Z x)(hx:Loc X.env.scope x)(r:E4 v u)
  (h:∀s',Inv X pins (σ.set i<|Z v) H s'->(∃a,Heap.SameBut a s.heap s'.heap/\(a=X.env.locals\/X.env.cells.lookup x=Z a))->Q () s') (hf:X.fn x=true\/X.env.scope.names.lookup x=Z .local:=by first|exact .inl rfl|exact .inr rfl|assumption):fD M A (storeName X.env x u) Q E s:=by
 obtain⟨m,hn,hl⟩:=id I.loc;have hcls:(X.env.scope.kind == .class || (X.env.scope.kind == .module&&X.env.locals != X.env.globals))=false:=by rw[I.ok.kind];rfl
 have hiσ:i < σ.length:=by rw[I.len];exact(ao.mp hi).1
 have cne:=I.cne
 have tracked:∀{a:fT}{h':Heap},(∃o,s.heap.get? a=Z o/\H a=O)->Heap.SameBut a s.heap h'->HOk X.prog X.w H h':=λ{a h'} ha hs b ob e=>by
  obtain⟨_,_,hfree⟩:=ha;refine(I.hok b ob e).stay (λc w' hc q=>(hs.2 c ?_).trans q) (λ_ q=>q) λ_ _ q=>q
  rintro rfl
  rcases hc with rfl|hc
  .rw[hfree]at e;cases e
  .rw[hfree]at hc;cases hc
 rcases hx with hk|hk
 .refine wpAny_storeName_local hk hn (λh' hn' hs=>?_) hcls;obtain⟨oL,_,_,hoL,_⟩:=id hn;refine h _ ⟨I.ok,I.os,I.bare,⟨λb o e n hb hx=>?_,λb o e n hb hx=>?_,I.base.free,λb o e hx=>?_,I.base.tups,I.base.frzs,I.base.tbls⟩,⟨_,hn',λj y v' e1 e2 e3=>?_⟩,λy c e=>?_,I.free,I.freeC,λp hp=>?_,tracked ⟨oL,hoL,I.free⟩ hs,by simpa using I.len⟩ ⟨_,hs,.inl rfl⟩
  .exact(hs.2 b<|aE (aL (fG e) I.ok.above)).trans (I.base.keep b o e n hb hx)
  .obtain⟨sl,e1⟩:=I.base.slot b o e n hb hx;exact⟨sl,(hs.2 b<|aE (aL (fG e) I.ok.above)).trans e1⟩
  .obtain⟨o',e1⟩:=I.base.there b o e hx;exact⟨o',(hs.2 b<|aE (aL (fG e) I.ok.above)).trans e1⟩
  .by_cases hj:j=i
   .subst hj;rw[hi]at e1;cases e1;rw[aJ hiσ]at e2;cases e2;exact⟨u,r,.inl ⟨hk,by simp⟩⟩
   .rw[aG (Ne.symm hj)]at e2;obtain⟨u',r',q⟩:=hl j y v' e1 e2 e3;refine⟨u',r',?_⟩;rcases q with⟨k,e⟩|⟨k,c,e,z⟩
    .refine .inl ⟨k,?_⟩;have:y≠x:=λe=>hj (aZ5 hN e1<|e ▸ hi)
     simp[this,e]
    .exact .inr ⟨k,c,e,z.sameBut hs<|cne y c e⟩
  .obtain⟨w',z⟩:=I.cell y c e;exact⟨w',z.sameBut hs<|cne y c e⟩
  .obtain⟨e,n,ne,nf,d⟩:=I.pin p hp;exact⟨(hs.2 p.1 ne).trans e,n,ne,nf,d⟩
 .have hfn:X.fn x=true:=by
   rcases hf with z|z
   .exact z
   .rw[z]at hk;cases hk
  obtain⟨c,hc⟩:=I.ok.has x (.inl hk);obtain⟨w',z⟩:=I.cell x c hc;refine wpAny_storeName_cell I.ok.kind hk hc z (λh' hc' hs=>?_);obtain⟨oc,hoc,hocd⟩:=id z;refine h { s with heap:=h' } ⟨I.ok,I.os,I.bare,⟨λb o e n hb hx=>?_,λb o e n hb hx=>?_,I.base.free,λb o e hx=>?_,I.base.tups,I.base.frzs,I.base.tbls⟩,⟨m,hn.sameBut hs<|Ne.symm (cne x c hc),λj y v' e1 e2 e3=>?_⟩,λy c' e=>?_,I.free,I.freeC,λp hp=>?_,tracked ⟨oc,hoc,I.freeC x c hc⟩ hs,by simpa using I.len⟩ ⟨c,hs,.inr hc⟩
  .exact(hs.2 b<|aE (aL (fG e)<|I.ok.cab x c hfn hc)).trans (I.base.keep b o e n hb hx)
  .obtain⟨sl,e1⟩:=I.base.slot b o e n hb hx;exact⟨sl,(hs.2 b<|aE (aL (fG e)<|I.ok.cab x c hfn hc)).trans e1⟩
  .obtain⟨o',e1⟩:=I.base.there b o e hx;exact⟨o',(hs.2 b<|aE (aL (fG e)<|I.ok.cab x c hfn hc)).trans e1⟩
  .by_cases hj:j=i
   .subst hj;rw[hi]at e1;cases e1;rw[aJ hiσ]at e2;cases e2;exact⟨u,r,.inr ⟨.inl hk,c,hc,hc'⟩⟩
   .rw[aG (Ne.symm hj)]at e2;obtain⟨u',r',q⟩:=hl j y v' e1 e2 e3;refine⟨u',r',?_⟩;rcases q with q|⟨k,c',e,z'⟩
    .exact .inl q
    .refine .inr ⟨k,c',e,z'.sameBut hs ?_⟩
     rintro rfl
     exact hj<|aZ5 hN e1 (I.ok.inj _ _ _ e hc ▸ hi)
  .by_cases hcc:c'=c
   .subst hcc;exact⟨_,hc'⟩
   .obtain⟨w2,z2⟩:=I.cell y c' e;exact⟨w2,z2.sameBut hs hcc⟩
  .obtain⟨e,n,ne,nf,d⟩:=I.pin p hp;refine⟨(hs.2 p.1 ?_).trans e,n,ne,nf,d⟩;intro q;rw[q,hoc]at e;have q':oc=p.2:=bq.inj e;exact d w' (by rw[← q'];exact hocd)
def ao3(I:Inv X pins σ H s)(hN:X.N.Nodup)(hi:X.N[i]? = Z x)(hx:Loc X.env.scope x)(r:E4 v u)
  (h:∀s',Inv X pins (σ.set i<|Z v) H s'->Q () s') (hf:X.fn x=true\/X.env.scope.names.lookup x=Z .local:=by first|exact .inl rfl|exact .inr rfl|assumption):fD M A (storeName X.env x u) Q E s :=
 aM2 I hN hi hx r (λs' I' _=>h s' I') hf
def Inv.call'(I:Inv X pins σ H s)(ho:s'.os=s.os)(u:Un (frs X.stack) ch H H' s.heap s'.heap)(hok:HOk X.prog X.w H' s'.heap)(hg:AllBare s'.gens)
  (hch:∀b∈ch,(b∈X.ex\/X.s₀.heap.objs.size<=b)/\b≠X.env.locals/\(∀x c,X.env.cells.lookup x=Z c->c≠b)/\∀p∈X.pn++pins,p.1≠b):Inv X pins σ H' s':=by
 obtain⟨h',g',d',t',o'⟩:=s';have e:o'=s.os:=ho;subst e;exact I.call (g':=g') (t':=t') (d':=d') u hok hg hch
end
noncomputable abbrev XK:=fR->Option fT->Hp->Prop
noncomputable abbrev St:=List<|Option V
noncomputable abbrev VK:=V->Hp->Prop
noncomputable abbrev TE:=St->Hp->VK->Prop
noncomputable abbrev TT:=St->Hp->(Bool->Hp->Prop)->Prop
noncomputable abbrev TA:=St->Hp->(List V->Hp->Prop)->Prop
structure Ends where
 nx:St->Hp->Prop
 rt:VK
 bk:St->Hp->Prop:=λ_ _=>False
 ct:St->Hp->Prop:=λ_ _=>False
noncomputable abbrev TS:=Ends->St->Hp->Prop
noncomputable def EP(X:Cx)(pins:List (fT×Obj))(σ:St)(Q:VK)(u:fR)(s':fS):Prop:=∃v H',Inv X pins σ H' s'/\E4 v u/\Q v H'
noncomputable def TP(X:Cx)(pins:List (fT×Obj))(σ:St)(Q:Bool->Hp->Prop)(b:Bool)(s':fS):Prop:=∃H',Inv X pins σ H' s'/\Q b H'
noncomputable def AP(X:Cx)(pins:List (fT×Obj))(σ:St)(Q:List V->Hp->Prop)(us:List fR)(s':fS):Prop:=∃vs H',Inv X pins σ H' s'/\D8 vs us/\Q vs H'
noncomputable def SP(X:Cx)(pins:List (fT×Obj))(D:Ends)(f:Flow)(s':fS):Prop :=
 match f with
 | .next=>∃σ' H',Inv X pins σ' H' s'/\D.nx σ' H'
 | .brk=>∃σ' H',Inv X pins σ' H' s'/\D.bk σ' H'
 | .cont=>∃σ' H',Inv X pins σ' H' s'/\D.ct σ' H'
 | .ret u=>∃v σ' H',Inv X pins σ' H' s'/\E4 v u/\D.rt v H'
noncomputable def PE(X:Cx)(e:Expr)(t:TE):Prop :=
 ∀(pins:List (fT×Obj)) (s:fS) (σ:St) (H:Hp) (Q:VK),Inv X pins σ H s->t σ H Q->fD (fE X.prog X.w) X.A (eval e X.env) (EP X pins σ Q) X.xe s
noncomputable def PT(X:Cx)(e:Expr)(t:TT):Prop :=
 ∀(pins:List (fT×Obj)) (s:fS) (σ:St) (H:Hp) (Q:Bool->Hp->Prop),Inv X pins σ H s->t σ H Q->fD (fE X.prog X.w) X.A (isTrue e X.env<|eval e X.env) (TP X pins σ Q) X.xe s
noncomputable def PW(X:Cx)(e:Expr)(t:TT):Prop :=
 ∀(whole:Sem fR) (pins:List (fT×Obj)) (s:fS) (σ:St) (H:Hp) (Q:Bool->Hp->Prop),Inv X pins σ H s->t σ H Q->fD (fE X.prog X.w) X.A (isTrue e X.env whole) (TP X pins σ Q) X.xe s
def PW.pt(h:PW X e t):PT X e t:=h _
noncomputable def PA(X:Cx)(es:List Expr)(t:TA):Prop :=
 ∀(pos:Pos) (pins:List (fT×Obj)) (s:fS) (σ:St) (H:Hp) (Q:List V->Hp->Prop),Inv X pins σ H s->t σ H Q->fD (fE X.prog X.w) X.A (spliced<|backTo pos (fb es X.env)) (AP X pins σ Q) X.xe s
noncomputable def PS(X:Cx)(st:Stmt)(t:TS):Prop :=
 ∀(pins:List (fT×Obj)) (s:fS) (σ:St) (H:Hp) (D:Ends),Inv X pins σ H s->t D σ H->fD (fE X.prog X.w) X.A (exec st X.env) (SP X pins D) X.xe s
noncomputable def PSs(X:Cx)(st:List Stmt)(t:TS):Prop :=
 ∀(pins:List (fT×Obj)) (s:fS) (σ:St) (H:Hp) (D:Ends),Inv X pins σ H s->t D σ H->fD (fE X.prog X.w) X.A (execs st X.env) (SP X pins D) X.xe s
def thn{α:Type}{t:Sem α}{Q Q':α->fS->Prop}{M:Model}{A:fi}{E:fR->fS->Prop}{s:fS}(h:fD M A t Q E s)(hQ:∀a s,Q a s->Q' a s):fD M A t Q' E s:=eU h hQ λ_ _ x=>x
section
variable {X:Cx}
def bin{a b:Expr}{ta tb:TE}(ha:PE X a ta)(hb:PE X b tb){pins:List (fT×Obj)}{s:fS}{σ:St}{H:Hp}{R:V->V->Hp->Prop}(I:Inv X pins σ H s)(h:ta σ H λx H1=>tb σ H1 λy H2=>R x y H2)
  {α:Type}{Q:α->fS->Prop}{f:fR->fR->Sem α}
  (hf:∀v u s2 x y H2,Inv X pins σ H2 s2->E4 x v->E4 y u->R x y H2->fD (fE X.prog X.w) X.A (f v u) Q X.xe s2) :
  fD (fE X.prog X.w) X.A (eval a X.env) (λv s₁=>fD (fE X.prog X.w) X.A (eval b X.env) (λu s₂=>fD (fE X.prog X.w) X.A (f v u) Q X.xe s₂) X.xe s₁) X.xe s:=by
 refine thn (ha pins s σ H _ I h) λv s1 ⟨x,H1,I1,r1,q1⟩=>?_
 refine thn (hb pins s1 σ H1 _ I1 q1) λu s2 ⟨y,H2,I2,r2,q2⟩=>?_
 exact hf v u s2 x y H2 I2 r1 r2 q2
noncomputable def cN4(i:Nat):TE:=λσ H Q=>∃v,σ[i]? = Z (Z v)/\Q v H
noncomputable def tC(v:V):TE:=λ_ H Q=>Q v H
def al6(hN:X.N[i]? = Z x)(hv:Vis X.env.scope x)(hd:(x==("__debug__" : Str))=false:=by decide)(hcd:(x==("__classdict__" : Str))=false:=by decide):PE X (.Name x pos) (cN4 i):=by
 intro pins s σ H Q I h;obtain⟨v,e,h⟩:=h;obtain⟨m,hn,hl⟩:=I.loc;obtain⟨u,r,l⟩:=hl i x v hN e hv;have fin:EP X pins σ Q u s:=⟨v,H,I,r,h⟩;rcases l with⟨hk,hm⟩|⟨hk,c,hc,hcell⟩
 .exact wpAny_Name (wpAny_loadName_local I.ok.kind hk hn hm fin) hd
 .rcases hk with hk|hk
  .exact wpAny_Name (wpAny_loadName_cell I.ok.kind hk hc hcell fin) hd
  .exact wpAny_Name (wpAny_loadName_free I.ok.kind hk hc hcell fin hcd) hd
def bJ1{i j pos}:PE X (.Constant (.int i) j pos) (tC<|.int i):=λ_ _ _ H _ I h=>wpAny_Constant_int ⟨.int i,H,I.tok _,⟨_,rfl⟩,h⟩
def cP7{b j pos}:PE X (.Constant (.bool b) j pos) (tC<|.bl b):=λ_ _ _ H _ I h=>Constant_bool ⟨.bl b,H,I,rfl,h⟩
def cx6{j pos}:PE X (.Constant .none j pos) (tC .non):=λ_ _ _ H _ I h=>Constant_none ⟨.non,H,I,rfl,h⟩
def bI9{x j pos}:PE X (.Constant (.str x) j pos) (tC<|.str x):=λ_ _ _ H _ I h=>Calls.Constant_str ⟨.str x,H,I.tok _,⟨_,rfl⟩,h⟩
noncomputable def Gl(X:Cx)(x:Str):Prop:=X.env.kindOf x=Z .globalImplicit
def aT2(I:Inv X pins σ H s)(hg:Gl X x)(hm:X.mg x=Z u)(h:Q u s)
  (hd:(x==("__debug__" : Str))=false:=by decide):fD (fE X.prog X.w) X.A (eval (.Name x pos) X.env) Q E s :=
 Calls.Name_function_global I.ok.kind hg (Calls.loadGlobal_global (by rw[I.ok.glob];exact I.mod.glob.keeps I.bk) hm h) hd
def aF6(I:Inv X pins σ H s)(hg:Gl X x)(hm:X.mg x=O)(hv:fk x=Z u)(h:Q u s)
  (hn:x ≠ "__name__" := by decide) (hd:(x==("__debug__" : Str))=false:=by decide):fD (fE X.prog X.w) X.A (eval (.Name x pos) X.env) Q E s:=by
 obtain⟨mb,h1,h2⟩:=I.mod.blt;exact Calls.Name_function_global I.ok.kind hg (Calls.loadGlobal_builtin (by rw[I.ok.glob];exact I.mod.glob.keeps I.bk) hm (by rw[I.ok.blt];exact h1.keeps I.bk) ((h2 x hn).trans hv) h) hd
def cb7(hg:Gl X x)(hm:X.mg x=Z u)(r:E4 v u)(hd:(x==("__debug__" : Str))=false:=by decide):PE X (.Name x pos) (tC v) :=
 λ_ _ _ H _ I h=>aT2 I hg hm ⟨v,H,I,r,h⟩ hd
def cc2(hg:Gl X x)(hm:X.mg x=O)(hv:fk x=Z u)(r:E4 v u)(hn:x ≠ "__name__" := by decide)(hd:(x==("__debug__" : Str))=false:=by decide):PE X (.Name x pos) (tC v) :=
 λ_ _ _ H _ I h=>aF6 I hg hm hv ⟨v,H,I,r,h⟩ hn hd
variable {a b:Expr}{ta tb:TE}{pos:Pos}
variable {tA tB':TT}{G9:List Expr}
noncomputable def cZ6(t u:TT):TT:=λσ H Q=>t σ H λc H1=>if c=true then u σ H1 Q else Q false H1
noncomputable def tOr(t u:TT):TT:=λσ H Q=>t σ H λc H1=>if c=true then Q true H1 else u σ H1 Q
noncomputable def cZ2(t:TT):TT:=λσ H Q=>t σ H λc H1=>Q (!c) H1
def ca2(ha:PT X a tA):PW X (.BoolOp .And [a] pos) tA:=by
 intro wh pins s σ H Q I h;refine isTrue_and (thn (ha pins s σ H Q I h) λc s1 e=>?_);cases c with
 | true=>exact isTrue_and_nil e
 | false=>exact e
def cw1(ha:PT X a tA):PW X (.BoolOp .Or [a] pos) tA:=by
 intro wh pins s σ H Q I h;refine isTrue_or (thn (ha pins s σ H Q I h) λc s1 e=>?_);cases c with
 | false=>exact isTrue_or_nil e
 | true=>exact e
def bH4(ha:PT X a tA)(hb:PW X (.BoolOp .And (b::G9) pos) tB'):PW X (.BoolOp .And (a::b::G9) pos) (cZ6 tA tB'):=by
 intro wh pins s σ H Q I h;refine isTrue_and (thn (ha pins s σ H _ I h) λc s1 ⟨H1,I1,q1⟩=>?_);cases c with
 | true=>exact hb wh pins s1 σ H1 Q I1 q1
 | false=>exact⟨H1,I1,q1⟩
def cn7(ha:PT X a tA)(hb:PW X (.BoolOp .Or (b::G9) pos) tB'):PW X (.BoolOp .Or (a::b::G9) pos) (tOr tA tB'):=by
 intro wh pins s σ H Q I h;refine isTrue_or (thn (ha pins s σ H _ I h) λc s1 ⟨H1,I1,q1⟩=>?_);cases c with
 | true=>exact⟨H1,I1,q1⟩
 | false=>exact hb wh pins s1 σ H1 Q I1 q1
def cw3(ha:PT X a tA):PT X (.UnaryOp .Not a pos) (cZ2 tA):=by
 intro pins s σ H Q I h;exact isTrue_not<|ha pins s σ H (λc H1=>Q (!c) H1) I h
noncomputable def cO4(ta tb:TE):TE:=λσ H Q=>ta σ H λx H1=>∃c,x=.bl c/\if c=true then tb σ H1 Q else Q (.bl false) H1
noncomputable def cZ1(ta tb:TE):TE:=λσ H Q=>ta σ H λx H1=>∃c,x=.bl c/\if c=true then Q (.bl true) H1 else tb σ H1 Q
noncomputable def cN6(ta:TE):TE:=λσ H Q=>ta σ H λx H1=>∃c,x=.bl c/\Q (.bl (!c)) H1
def cx4{op}(h:PE X a t):PE X (.BoolOp op [a] pos) t:=λpins s σ H Q I hw=>BoolOp_one<|h pins s σ H Q I hw
def bJ4(ha:PE X a ta)(hb:PE X (.BoolOp .And (b::G9) pos) tb):PE X (.BoolOp .And (a::b::G9) pos) (cO4 ta tb):=by
 intro pins s σ H Q I h;refine BoolOp_and (thn (ha pins s σ H _ I h) λv s1 ⟨x,H1,I1,r1,q1⟩=>?_);obtain⟨c,rfl,q1⟩:=q1;cases r1;refine eW ?_;cases c with
 | true=>exact hb pins s1 σ H1 Q I1 q1
 | false=>exact⟨.bl false,H1,I1,rfl,q1⟩
def cn9(ha:PE X a ta)(hb:PE X (.BoolOp .Or (b::G9) pos) tb):PE X (.BoolOp .Or (a::b::G9) pos) (cZ1 ta tb):=by
 intro pins s σ H Q I h;refine BoolOp_or (thn (ha pins s σ H _ I h) λv s1 ⟨x,H1,I1,r1,q1⟩=>?_);obtain⟨c,rfl,q1⟩:=q1;cases r1;refine eW ?_;cases c with
 | false=>exact hb pins s1 σ H1 Q I1 q1
 | true=>exact⟨.bl true,H1,I1,rfl,q1⟩
def cx5(ha:PE X a ta):PE X (.UnaryOp .Not a pos) (cN6 ta):=by
 intro pins s σ H Q I h;refine UnaryOp_ (thn (ha pins s σ H _ I h) λv s1 ⟨x,H1,I1,r1,q1⟩=>?_);obtain⟨c,rfl,q1⟩:=q1;cases r1;exact not_of<|eW ⟨.bl (!c),H1,I1,rfl,q1⟩
noncomputable def tIf(t:TT)(ta tb:TE):TE:=λσ H Q=>t σ H λc H1=>if c=true then ta σ H1 Q else tb σ H1 Q
def aZ0(hc:PT X c tA)(ha:PE X a ta)(hb:PE X b tb):PE X (.IfExp c a b pos) (tIf tA ta tb):=by
 intro pins s σ H Q I h;refine wpAny_IfExp (thn (hc pins s σ H _ I h) λd s1 ⟨H1,I1,q1⟩=>?_);cases d with
 | true=>exact ha pins s1 σ H1 Q I1 q1
 | false=>exact hb pins s1 σ H1 Q I1 q1
end
noncomputable def SqL(K:ad)(H:Hp)(a:fT)(xs:List V):Prop :=
 Rd H a (.lst xs) \/
  ∃(o:Obj) (its:Array fR) (n:Nat),K.lookup a=Z o/\o.cls=.type "list" /\ o.dict=O/\o.data=.seq its n/\its.size<=fc/\D8 xs its.toList
noncomputable def SqT(K:ad)(H:Hp)(a:fT)(xs:List V):Prop :=
 Rd H a (.tup xs) \/
  ∃(o:Obj) (its:Array fR) (n:Nat),K.lookup a=Z o/\o.cls=.type "tuple" /\ o.dict=O/\o.data=.seq its n/\its.size<=fc/\D8 xs its.toList
noncomputable def dc8:fR->Option V
 | .none=>Z .non
 | .bool b=>Z<|.bl b
 | .int i _=>Z<|.int i
 | .str x _=>Z<|.str x
 | .bytes b _=>Z<|.byt b
 | .float b _=>Z<|.flt b
 | .ref a=>Z<|.ref a
 | .type n=>Z<|.ty n
 | _=>O
def E4.abs(r:E4 x u):dc8 u=Z x:=by
 cases x with
 | non=>cases r;rfl
 | bl _=>cases r;rfl
 | int _=>obtain⟨t,rfl⟩:=r;rfl
 | str _=>obtain⟨t,rfl⟩:=r;rfl
 | byt _=>obtain⟨t,rfl⟩:=r;rfl
 | flt _=>obtain⟨t,rfl⟩:=r;rfl
 | ref _=>cases r;rfl
 | ty _=>cases r;rfl
theorem E4.inj(r:E4 x u)(q:E4 y u):x=y:=bq.inj<|r.abs.symm.trans q.abs
theorem D8.inj:∀{xs ys:List V}{us:List fR},D8 xs us->D8 ys us->xs=ys
 | _,_,_,.nil,.nil=>rfl
 | _,_,_,.cons r t,.cons r' t'=>by rw[r.inj r',D8.inj t t']
section
variable {X:Cx}{pins:List (Addr×Obj)}{σ:St}{H:Hp}{s:Shared}{a:Addr}{xs ys:List V}
def SqL.of{K:ad}(h:H a=Z (.lst xs)):SqL K H a xs:=.inl<|.inl h
def SqT.of{K:ad}(h:H a=Z (.tup xs)):SqT K H a xs:=.inl<|.inl h
def Inv.list(I:Inv X pins σ H s)(h:SqL X.K H a xs):∃its:List fR,D8 xs its/\PlainL s.heap a its.toArray/\xs.length<=fc:=by
 rcases h with h|⟨o,its,n,hk,hc,hd,hs,hz,r⟩
 .obtain⟨z,its,n,r,e⟩:=h.ok I.hok;exact⟨its,r,⟨_,n,e,rfl,rfl,rfl⟩,z⟩
 .refine⟨its.toList,r,⟨o,n,I.kIn a o hk,hc,hd,by simpa using hs⟩,?_⟩;have e:=r.length;simp only[aY]at e;omega
def Inv.tupN(I:Inv X pins σ H s)(h:SqT X.K H a xs):∃its:List fR,D8 xs its/\aJ2 s.heap a its.toArray/\xs.length<=fc:=by
 rcases h with h|⟨o,its,n,hk,hc,hd,hs,hz,r⟩
 .obtain⟨z,its,r,p⟩:=h.ok I.hok;exact⟨its,r,p,z⟩
 .refine⟨its.toList,r,⟨o,I.kIn a o hk,hc,⟨n,by simpa using hs⟩,hd⟩,?_⟩;have e:=r.length;simp only[aY]at e;omega
def Inv.tuple(I:Inv X pins σ H s)(h:SqT X.K H a xs):∃its:List fR,D8 xs its/\IsTup s.heap a its.toArray/\xs.length<=fc :=
 let⟨its,r,p,z⟩:=I.tupN h;⟨its,r,p.tup,z⟩
def Inv.list_inj(I:Inv X pins σ H s)(h:SqL X.K H a xs)(h':SqL X.K H a ys):xs=ys:=by
 obtain⟨its,r,⟨o,n,e,_,_,d⟩,_⟩:=I.list h;obtain⟨its',r',⟨o',n',e',_,_,d'⟩,_⟩:=I.list h';rw[e]at e';cases e';rw[d]at d';injection d' with d1 _
 have:its=its':=by simpa using congrArg Array.toList d1
 subst this;exact r.inj r'
def Inv.tuple_inj(I:Inv X pins σ H s)(h:SqT X.K H a xs)(h':SqT X.K H a ys):xs=ys:=by
 obtain⟨its,r,⟨o,e,_,n,d⟩,_⟩:=I.tuple h;obtain⟨its',r',⟨o',e',_,n',d'⟩,_⟩:=I.tuple h';rw[e]at e';cases e';rw[d]at d';injection d' with d1 _
 have:its=its':=by simpa using congrArg Array.toList d1
 subst this;exact r.inj r'
end
noncomputable abbrev Cx.wish(X:Cx)(E:fR->fS->Prop):Cx:={ X with xe:=E }
noncomputable abbrev Cx.nox(X:Cx):Cx:=X.wish λ_ _=>False
theorem Cx.Ok.wish{X:Cx}(ok:X.Ok)(E:fR->fS->Prop):(X.wish E).Ok :=
 ⟨ok.mod,ok.kind,ok.glob,ok.blt,ok.above,ok.inj,ok.has,ok.cab,ok.hd,ok.frames,ok.stk,ok.exf,ok.bs,ok.bsz,ok.noex,ok.exfs,ok.funs,ok.frf⟩
def Cx.Ok.unwish{X:Cx}{E:fR->fS->Prop}(ok:(X.wish E).Ok):X.Ok :=
 ⟨ok.mod,ok.kind,ok.glob,ok.blt,ok.above,ok.inj,ok.has,ok.cab,ok.hd,ok.frames,ok.stk,ok.exf,ok.bs,ok.bsz,ok.noex,ok.exfs,ok.funs,ok.frf⟩
section
variable {X:Cx}{pins:List (Addr×Obj)}{σ:St}{H:Hp}{s:Shared}{E:Value->Shared->Prop}
theorem Inv.wish(I:Inv X pins σ H s)(E:fR->fS->Prop):Inv (X.wish E) pins σ H s:=⟨I.ok.wish E,I.os,I.bare,I.base,I.loc,I.cell,I.free,I.freeC,I.pin,I.hok,I.len⟩
theorem Inv.unwish(I:Inv (X.wish E) pins σ H s):Inv X pins σ H s:=⟨I.ok.unwish,I.os,I.bare,I.base,I.loc,I.cell,I.free,I.freeC,I.pin,I.hok,I.len⟩
theorem SP.unwish(h:SP (X.wish E) pins D f s'):SP X pins D f s':=by
 cases f with
 | next=>obtain⟨σ',H',I,q⟩:=h;exact⟨σ',H',I.unwish,q⟩
 | brk=>obtain⟨σ',H',I,q⟩:=h;exact⟨σ',H',I.unwish,q⟩
 | cont=>obtain⟨σ',H',I,q⟩:=h;exact⟨σ',H',I.unwish,q⟩
 | ret u=>obtain⟨v,σ',H',I,r,q⟩:=h;exact⟨v,σ',H',I.unwish,r,q⟩
theorem PSs.nox{st:List Stmt}{t:TS}(h:PSs X.nox st t):PSs X st t:=λpins s σ H D I hw =>eU (h pins s σ H D (I.wish _) hw) (λ_ _ q=>q.unwish) λ_ _ z=>False.elim z
end
section
variable {X:Cx}{st:Stmt}{G9:List Stmt}{t u:TS}{e:Expr}{te:TE}{pos:Pos}
noncomputable def cn2:TS:=λD σ H=>D.nx σ H
noncomputable def cY8(t u:TS):TS:=λD σ H=>t { D with nx:=u D } σ H
def ca7:PSs X [] cn2:=λ_ _ σ H _ I h=>wpAny_execs_nil ⟨σ,H,I,h⟩
def ap2(h1:PS X st t)(h2:PSs X G9 u):PSs X (st::G9) (cY8 t u):=by
 intro pins s σ H D I h;refine wpAny_execs_cons (thn (h1 pins s σ H { D with nx:=u D } I h) λf s1 q=>?_);cases f with
 | next =>
  obtain⟨σ',H',I',q⟩:=q;exact h2 pins s1 σ' H' D I' q
 | ret v=>exact q
 | brk=>exact q
 | cont=>exact q
def ca6(h1:PS X st t):PSs X [st] t:=by
 intro pins s σ H D I h;refine wpAny_execs_cons (thn (h1 pins s σ H D I h) λf s1 q=>?_);cases f with
 | next=>exact wpAny_execs_nil q
 | ret v=>exact q
 | brk=>exact q
 | cont=>exact q
noncomputable def cu8:TS:=λD σ H=>D.bk σ H
noncomputable def cO1:TS:=λD σ H=>D.ct σ H
def ca8:PS X (.Pass pos) cn2:=λ_ _ σ H _ I h=>wpAny_Pass ⟨σ,H,I,h⟩
def bH9:PS X (.Break pos) cu8:=λ_ _ σ H _ I h=>wpAny_Break ⟨σ,H,I,h⟩
def aY5:PS X (.Continue pos) cO1:=λ_ _ σ H _ I h=>wpAny_Continue ⟨σ,H,I,h⟩
def Inv.quiet(I:Inv X pins σ H s):interactive X.env=false:=by simp[interactive,I.ok.kind]
noncomputable def cN8(te:TE):TS:=λD σ H=>te σ H λ_ H1=>D.nx σ H1
def aR7(he:PE X e te)(hs:swapsWith e O pos.line X.env=pure false:=by rfl):PS X (.Expr e pos) (cN8 te):=by
 intro pins s σ H D I h;exact wpAny_Expr_any (thn (he pins s σ H _ I h) λv s1 ⟨x,H1,I1,r1,q1⟩=>⟨σ,H1,I1,q1⟩) I.quiet hs
noncomputable def cY9(te:TE):TS:=λD σ H=>te σ H D.rt
def cw5(he:PE X e te):PS X (.Return (Z e) pos) (cY9 te):=by
 intro pins s σ H D I h;exact wpAny_Return_some<|thn (he pins s σ H _ I h) λv s1 ⟨x,H1,I1,r1,q1⟩=>⟨x,σ,H1,I1,r1,q1⟩
noncomputable def cZ4(c:TT)(t u:TS):TS:=λD σ H=>c σ H λb H1=>if b=true then t D σ H1 else u D σ H1
def cn8(hc:PT X c tc)(ha:PSs X a t)(hb:PSs X b u):PS X (.If c a b pos) (cZ4 tc t u):=by
 intro pins s σ H D I h;refine wpAny_If (thn (hc pins s σ H _ I h) λd s1 ⟨H1,I1,q1⟩=>?_);cases d with
 | true=>exact ha pins s1 σ H1 D I1 q1
 | false=>exact hb pins s1 σ H1 D I1 q1
noncomputable def cu6:TS:=λ_ _ _=>False
def y9:PSs X sts cu6:=λ_ _ _ _ _ _ h=>h.elim
end
noncomputable abbrev TG:=V->St->Hp->(St->Hp->Prop)->Prop
noncomputable abbrev TGs:=List V->St->Hp->(St->Hp->Prop)->Prop
noncomputable def PG(X:Cx)(target:Expr)(t:TG):Prop :=
 ∀(pins:List (fT×Obj)) (s:fS) (σ:St) (H:Hp) (v:V) (u:fR) (Q:St->Hp->Prop),Inv X pins σ H s->E4 v u->t v σ H Q ->
  fD (fE X.prog X.w) X.A (assign target X.env u) (λ_ s'=>∃σ' H',Inv X pins σ' H' s'/\Q σ' H') X.xe s
noncomputable def PGs(X:Cx)(ts:List Expr)(t:TGs):Prop :=
 ∀(pins:List (fT×Obj)) (s:fS) (σ:St) (H:Hp) (vs:List V) (us:List fR) (Q:St->Hp->Prop),Inv X pins σ H s->D8 vs us->t vs σ H Q ->
  fD (fE X.prog X.w) X.A (assignInOrder ((ft ts X.env).map (·.2)) us) (λ_ s'=>∃σ' H',Inv X pins σ' H' s'/\Q σ' H') X.xe s
section
variable {X:Cx}{pos:Pos}
noncomputable def cp6(i:Nat):TG:=λv σ H Q=>Q (σ.set i<|Z v) H
def cb6(hN:X.N.Nodup)(hi:X.N[i]? = Z x)(hx:Loc X.env.scope x)(hf:X.fn x=true\/X.env.scope.names.lookup x=Z .local:=by first|exact .inl rfl|exact .inr rfl|assumption):PG X (.Name x pos) (cp6 i):=by
 intro pins s σ H v u Q I r h;exact wpAny_assign_Name<|ao3 I hN hi hx r (λs' I'=>⟨_,H,I',h⟩) hf
noncomputable def dc1:TGs:=λvs σ H Q=>vs=[]/\Q σ H
noncomputable def cU7(t:TG)(u:TGs):TGs:=λvs σ H Q=>∃v r,vs=v::r/\t v σ H λσ' H'=>u r σ' H' Q
def cb5:PGs X [] dc1:=by
 intro pins s σ H vs us Q I r h;obtain⟨e,h⟩:=h;subst e;cases r;exact assignInOrder_nil ⟨σ,H,I,h⟩
def bI8(h1:PG X e t)(h2:PGs X es u)
  (hs:(ft (e::es) X.env).map (·.2)=assign e X.env::(ft es X.env).map (·.2):=by rfl):PGs X (e::es) (cU7 t u):=by
 intro pins s σ H vs us Q I r h;obtain⟨v,vr,e1,h⟩:=h;subst e1;cases r with
 | cons r rr =>
  rw[hs];refine assignInOrder_cons (thn (h1 pins s σ H _ _ _ I r h) λ_ s1 ⟨σ1,H1,I1,q1⟩=>?_);exact h2 pins s1 σ1 H1 _ _ Q I1 rr q1
noncomputable def dc0(K:ad)(n:Nat)(t:TGs):TG:=λv σ H Q=>∃a xs,v=.ref a/\SqT K H a xs/\xs.length=n/\t xs σ H Q
def cx1(hc:X.calm=true)(h:PGs X es t)
  (hn:(ft es X.env).length=n:=by rfl) (hst:(ft es X.env).findIdx? (·.1)=O:=by rfl):PG X (.Tuple es k pos) (dc0 X.K n t):=by
 intro pins s σ H v u Q I r hw;obtain⟨a,xs,e1,hq,hl,hw⟩:=hw;subst e1;cases r;obtain⟨its,rv,ht,hz⟩:=I.tuple hq;refine assign_Tuple_tuple (I.ok.hd hc) ht (by simp[hn,← hl,rv.length]) hst λh' hx=>?_
 have I1:Inv X pins σ H { s with heap:=h' }:=I.kept (t':=s.toks) λb o e=>hx b o (aE<|fG e) e
 exact h pins _ σ H xs _ Q I1 (by simpa using rv) hw
noncomputable def cO3(te:TE)(g:TG):TS:=λD σ H=>te σ H λx H1=>g x σ H1 D.nx
def cw8(he:PE X e te)(hg:PG X tg g)(hs:swapsWithSole [tg] e pos.line X.env=pure false:=by rfl)(hw:swappedStores [tg] e X.env=pure O:=by rfl)
  (h1:(ft [tg] X.env).map (·.2)=[assign tg X.env]:=by rfl):PS X (.Assign [tg] e pos) (cO3 te g):=by
 intro pins s σ H D I h;refine wpAny_Assign_stores (thn (he pins s σ H _ I h) λv s1 ⟨x,H1,I1,r1,q1⟩=>?_) hs hw;rw[h1];exact thn (hg pins s1 σ H1 x v _ I1 r1 q1) λ_ s2 q=>q
def bH8(hN:X.N.Nodup)(hi:X.N[i]? = Z x)(hx:Loc X.env.scope x)(he:PE X e te)(hs:swapsWith e (Z<|.Name x pos') pos.line X.env=pure false:=by rfl)(hf:X.fn x=true\/X.env.scope.names.lookup x=Z .local:=by first|exact .inl rfl|exact .inr rfl|assumption):
  PS X (.Assign [.Name x pos'] e pos) (cO3 te<|cp6 i):=by
 intro pins s σ H D I h;refine wpAny_Assign_Name (thn (he pins s σ H _ I h) λv s1 ⟨y,H1,I1,r1,q1⟩=>?_) hs;exact ao3 I1 hN hi hx r1 (λs2 I2=>⟨_,H1,I2,q1⟩) hf
noncomputable def cZ0(i j:Nat)(ta:TA):TS:=λD σ H=>ta σ H λvs H1=>∃v w,vs=[v,w]/\D.nx ((σ.set i<|Z v).set j<|Z w) H1
def cw6{kt k2 pt2}(hc:X.calm=true)(hN:X.N.Nodup)(hi:X.N[i]? = Z x)(hj:X.N[j]? = Z y)(hij:i≠j)
  (hx:X.env.scope.names.lookup x=Z .local) (hy:X.env.scope.names.lookup y=Z .local) (ha:PA X [a,b] ta)
  (hw:swappedStores [.Tuple [.Name x px,.Name y py] kt pt] (.Tuple [a,b] k2 pt2) X.env=pure (Z [x,y]))
  (hs:swapsWithSole [.Tuple [.Name x px,.Name y py] kt pt] (.Tuple [a,b] k2 pt2) pos.line X.env=pure false:=by rfl) :
  PS X (.Assign [.Tuple [.Name x px,.Name y py] kt pt] (.Tuple [a,b] k2 pt2) pos) (cZ0 i j ta):=by
 intro pins s σ H D I h;rw[exec_Assign_arm];refine eS (wpAny_standAt ?_);rw[hs];refine eS (eT ?_);rw[if_neg (by decide)];refine eS (Tuple_<|thn (ha _ pins s σ H _ I h) λus s1 ⟨vs,H1,I1,r1,q1⟩=>?_);obtain⟨v,w,e1,q1⟩:=q1;subst e1
 obtain⟨u1,u2,rfl,rv,rw'⟩:∃u1 u2,us=[u1,u2]/\E4 v u1/\E4 w u2:=by
  cases r1 with
  | cons p q =>
   cases q with
   | cons p' q' =>
    cases q';exact⟨_,_,rfl,p,p'⟩
 refine eV ?_ (by show 2<=fc;decide);have I2:Inv X pins σ H1 { s1 with heap:=s1.heap.push { cls:=.type "tuple", data:=.seq [u1,u2].toArray } }:=I1.kept (t':=s1.toks) λb o e=>fF _ e
 rw[hw];refine eS (eT ?_);show fD (fE X.prog X.w) X.A (do rule "assign.swapped-stores";let items ← unpackItems (.ref s1.heap.objs.size) 2 O;assignInOrder [λv=>bindName X.env y v,λv=>bindName X.env x v] items.reverse;pure Flow.next) _ _ _;refine eS (wpAny_rule<|eS (unpackItems_tuple (items:=#[u1,u2]) (I.ok.hd hc) (IsTup.new s1.heap _) λh' hx'=>?_));have I3:=I2.kept (h':=h') (t':=s1.toks) λb o e=>hx' b o (aE<|fG e) e
 show fD _ _ (assignInOrder [λv=>bindName X.env y v,λv=>bindName X.env x v] [u2,u1] >>= λ_=>pure Flow.next) _ _ _;refine eS (assignInOrder_cons<|wpAny_bindName (ao3 I3 hN hj (.inl hy) rw' (λs2 I4=>?_)<|.inr hy));refine assignInOrder_cons (wpAny_bindName<|ao3 I4 hN hi (.inl hx) rv (λs3 I5=>assignInOrder_nil<|eT ?_) (.inr hx));rw[List.set_comm _ _ (Ne.symm hij)]at I5;exact⟨_,H1,I5,q1⟩
end
section
variable {X:Cx}{pos:Pos}
noncomputable def cu5(c:TT)(tb:TS):TS:=λD σ H=>∃W:Nat->St->Hp->Prop,(∃m,W m σ H)/\∀m σ H,W m σ H ->
 c σ H λb H1=>if b=true then ∃N:St->Hp->Prop,(∀σ' H',N σ' H'->∃m',m' < m/\W m' σ' H')/\tb { D with nx:=N,ct:=N,bk:=D.nx } σ H1 else D.nx σ H1
def bH7(hp:PassesOwn (fE X.prog X.w) X.A X.env X.xe)(hc:PT X c tc)(hb:PSs X body tb):PS X (.While c body [] pos) (cu5 tc tb):=by
 intro pins s σ H D I h;obtain⟨W,⟨m0,w0⟩,turn⟩:=h;refine wpAny_While<|codeAny_whileLoop (λn s'=>∃σ' H',Inv X pins σ' H' s'/\W n σ' H') ?_ m0 ⟨σ,H,I,w0⟩
 rintro n s1 ⟨σ1,H1,I1,w1⟩
 refine wpAny_passesOwn hp (thn (hc pins s1 σ1 H1 _ I1<|turn n σ1 H1 w1) λb s2 ⟨H2,I2,q2⟩=>?_);cases b with
 | true =>
  obtain⟨N,hN,q2⟩:=q2;rw[if_pos rfl];refine wpAny_passesOwn hp (thn (hb pins s2 σ1 H2 _ I2 q2) λf s3 q3=>?_);cases f with
  | next =>
   obtain⟨σ3,H3,I3,n3⟩:=q3;obtain⟨m',hm,w3⟩:=hN σ3 H3 n3;exact⟨m',hm,σ3,H3,I3,w3⟩
  | cont =>
   obtain⟨σ3,H3,I3,n3⟩:=q3;obtain⟨m',hm,w3⟩:=hN σ3 H3 n3;exact⟨m',hm,σ3,H3,I3,w3⟩
  | brk=>exact q3
  | ret v=>exact q3
 | false =>
  rw[if_neg aF];exact wpAny_execs_nil ⟨σ1,H2,I2,q2⟩
end
structure It where
 go:Nat->Hp->Prop
 yld:Nat->Hp->V->Hp->Prop
 stop:Nat->Hp->Prop
noncomputable def aw2(X:Cx)(pins:List (fT×Obj))(H:Hp)(b:fT):Prop :=
 H b=O/\b≠X.env.locals/\b∉X.fs/\(b∈X.ex\/X.s₀.heap.objs.size<=b)/\(∀x c,X.env.cells.lookup x=Z c->c≠b)/\∀p∈X.pn++pins,p.1≠b
def Inv.fpOk(I:Inv X pins σ H s)(hb:s.heap.objs.size<=b)(hn:H' b=O):aw2 X pins H' b:=by
 refine⟨hn,Nat.ne_of_gt<|aL I.lt hb,I.nofs hb,.inr<|aQ I.sz hb,λx c e z=>?_,λp hp z=>?_⟩
 .obtain⟨v,q⟩:=I.cell x c e;exact absurd (aL q.lt (by rw[z];exact hb))<|bz _
 .exact absurd (aL (fG (I.pin p hp).1) (by rw[z];exact hb)) (bz _)
structure Turn (P:fh) (w:World) (K:ad) (tg:Expr) (J:It) (fp:List fT) (it:fT) (tn:Nat->Heap->Prop):Prop where
 mem:it∈fp
 obj:∀i h,tn i h->∀b∈fp,∃o,h.get? b=Z o/\∀v,o.data≠.cell v
 keep:∀i h h',tn i h->(∀b∈fp,∀o,h.get? b=Z o->h'.get? b=Z o)->tn i h'
 item:∀(X:Cx),X.prog=P->X.w=w->X.K=K->X.calm=true->∀(i:Nat) (pins:List (fT×Obj)) (s:fS) (σ:St) (H:Hp) (E:fR->fS->Prop),Inv X pins σ H s->(∀b∈fp,aw2 X pins H b)->tn i s.heap->J.go i H ->
  fD (fE P w) X.A (pyNext (.ref it)) (λr s1=>∃u,r=Z u /\
   fD (fE P w) X.A (letOwnedTupleGo tg (.ref it) u) (λ_ s2=>∃x H',Inv X pins σ H' s2/\E4 x u/\J.yld i H x H'/\tn (i+1) s2.heap/\∀b∈fp,H' b=O) E s1) E s
 done:∀(X:Cx),X.prog=P->X.w=w->X.K=K->X.calm=true->∀(i:Nat) (pins:List (fT×Obj)) (s:fS) (σ:St) (H:Hp) (E:fR->fS->Prop),Inv X pins σ H s->(∀b∈fp,aw2 X pins H b)->tn i s.heap->J.stop i H ->
  fD (fE P w) X.A (pyNext<|.ref it) (λr s1=>r=O/\Inv X pins σ H s1) E s
 self:∀(A:fi) (i:Nat) (s:fS) (Q:fR->fS->Prop) (E:fR->fS->Prop),tn i s.heap->Q (.ref it) s->fD (fE P w) A (pyIter<|.ref it) Q E s
noncomputable abbrev TI:=St->Hp->(It->Hp->Prop)->Prop
noncomputable def PIE(X:Cx)(pins:List (fT×Obj))(σ:St)(tg:Expr)(R:It->Hp->Prop)(itv:fR)(s2:fS):Prop :=
 ∃(it:fT) (fp:List fT) (tn:Nat->Heap->Prop) (J:It) (H':Hp),itv=.ref it/\Inv X pins σ H' s2/\Turn X.prog X.w X.K tg J fp it tn/\tn 0 s2.heap/\(∀b∈fp,aw2 X pins H' b)/\R J H'
noncomputable def PI(X:Cx)(tg iter:Expr)(wi:TI):Prop :=
 ∀(pins:List (fT×Obj)) (s:fS) (σ:St) (H:Hp) (R:It->Hp->Prop),Inv X pins σ H s->wi σ H R ->
  fD (fE X.prog X.w) X.A (eval iter X.env) (λv s1=>fD (fE X.prog X.w) X.A (pyIter v) (PIE X pins σ tg R) X.xe s1) X.xe s
def bs0(ho:s.heap.get? it=Z o)(hc:o.cls=.type n)(hd:o.data=.fields vs)
    (hn:["enumerate", "zip", "dict_itemiterator", "dict_reverseitemiterator", "odict_iterator", "itertools.zip_longest", "itertools.pairwise"].contains n=false) (hQ:Q () s):fD M A (letOwnedTupleGo tg (.ref it) u) Q E s:=by
  unfold letOwnedTupleGo
  cases tg<;>first
    | exact eT hQ
    | (cases u<;>first
        | exact eT hQ
        | (refine eS (wpAny_load ho ?_)
           rw[hc,hd];show fD M A (if(["enumerate", "zip", "dict_itemiterator", "dict_reverseitemiterator", "odict_iterator", "itertools.zip_longest", "itertools.pairwise"].contains n&&vs[0]? == Z (rawInt _))=true then _ else _) Q E s;rw[if_neg (by intro h;rw[hn,dy]at h;cases h)]
           exact eT hQ))
noncomputable def Itl(K:ad)(a:fT):It :=
 ⟨λi H=>∃xs x,SqL K H a xs/\xs[i]? = Z x,λi H x H'=>H'=H/\∀xs,SqL K H a xs->xs[i]? = Z x,λi H=>∃xs,SqL K H a xs/\xs.length<=i⟩
noncomputable def Itt(K:ad)(a:fT):It :=
 ⟨λi H=>∃xs x,SqT K H a xs/\xs[i]? = Z x,λi H x H'=>H'=H/\∀xs,SqT K H a xs->xs[i]? = Z x,λi H=>∃xs,SqT K H a xs/\xs.length<=i⟩
noncomputable def Itr(lo:Int)(n:Nat):It:=⟨λi _=>i < n,λi H x H'=>H'=H/\x=.int (lo+i),λi _=>n<=i⟩
def bv6{P:fh}{w:World}{K:ad}{tg:Expr}(a it:fT):Turn P w K tg (Itl K a) [it] it (λi h=>h.IsListIter it a i) where
 mem:=by simp
 obj:=λi h st b hb=>by
  have e:b=it:=by simpa using hb
  subst e;obtain⟨o,e,c,d⟩:=st;exact⟨o,e,λv z=>by rw[d]at z;cases z⟩
 keep:=λi h h' st k=>st.at λo e=>k it (by simp) o e
 item:=by
  intro X hP hw hK hc i pins s σ H E I hf st hg;subst hP hw hK;obtain⟨xs,x,hq,hx⟩:=hg;obtain⟨its,rv,p,hz⟩:=I.list hq;obtain⟨u,hu,ru⟩:=rv.get hx;obtain⟨f0,f1,f2,f3,f4,f5⟩:=hf it (by simp);refine wpAny_pyNext_list_item st p.isList (x:=u) (by simpa using hu) λh' st' sb=>?_
  have I1:Inv X pins σ H { s with heap:=h' }:=I.turned (t':=s.toks) (λb o hb e=>(sb.2 b hb).trans e) f0 f1 f3 f4 f5;obtain⟨o,e,c,d⟩:=id st';exact⟨u,rfl,bs0 (s:={ s with heap:=h' }) e c d (by decide) ⟨x,H,I1,ru,⟨rfl,λys hy=>by rw[I.list_inj hy hq];exact hx⟩,st',λb hb=>(hf b hb).1⟩⟩
 done:=by
  intro X hP hw hK hc i pins s σ H E I hf st hg;subst hP hw hK;obtain⟨xs,hq,hx⟩:=hg;obtain⟨its,rv,p,hz⟩:=I.list hq;obtain⟨f0,f1,f2,f3,f4,f5⟩:=hf it (by simp);have hl:=rv.length;exact wpAny_pyNext_list_end (I.ok.hd hc) st p.isList (by simp;omega) λh' eb=>⟨rfl,I.turned (t':=s.toks) (λb o hb e=>eb b o hb e) f0 f1 f3 f4 f5⟩
 self:=λ_ _ _ _ _ st h=>wpAny_pyIter_listiter st h
def bg1{P:fh}{w:World}{K:ad}{tg:Expr}(a it:fT):Turn P w K tg (Itt K a) [it] it (λi h=>h.IsTupleIter it a i) where
 mem:=by simp
 obj:=λi h st b hb=>by
  have e:b=it:=by simpa using hb
  subst e;obtain⟨o,e,c,d⟩:=st;exact⟨o,e,λv z=>by rw[d]at z;cases z⟩
 keep:=λi h h' st k=>st.at λo e=>k it (by simp) o e
 item:=by
  intro X hP hw hK hc i pins s σ H E I hf st hg;subst hP hw hK;obtain⟨xs,x,hq,hx⟩:=hg;obtain⟨its,rv,p,hz⟩:=I.tuple hq;obtain⟨u,hu,ru⟩:=rv.get hx;obtain⟨f0,f1,f2,f3,f4,f5⟩:=hf it (by simp);refine wpAny_pyNext_tuple_item st (show s.heap.IsTuple a its.toArray from p) (x:=u) (by simpa using hu) λh' st' sb=>?_
  have I1:Inv X pins σ H { s with heap:=h' }:=I.turned (t':=s.toks) (λb o hb e=>(sb.2 b hb).trans e) f0 f1 f3 f4 f5;obtain⟨o,e,c,d⟩:=id st';exact⟨u,rfl,bs0 (s:={ s with heap:=h' }) e c d (by decide) ⟨x,H,I1,ru,⟨rfl,λys hy=>by rw[I.tuple_inj hy hq];exact hx⟩,st',λb hb=>(hf b hb).1⟩⟩
 done:=by
  intro X hP hw hK hc i pins s σ H E I hf st hg;subst hP hw hK;obtain⟨xs,hq,hx⟩:=hg;obtain⟨its,rv,p,hz⟩:=I.tuple hq;obtain⟨f0,f1,f2,f3,f4,f5⟩:=hf it (by simp);have hl:=rv.length;exact wpAny_pyNext_tuple_end (I.ok.hd hc) st (show s.heap.IsTuple a its.toArray from p) (by simp;omega) λh' eb=>⟨rfl,I.turned (t':=s.toks) (λb o hb e=>eb b o hb e) f0 f1 f3 f4 f5⟩
 self:=λ_ _ _ _ _ st h=>wpAny_pyIter_tupleiter st h
def bg2{P:fh}{w:World}{K:ad}{tg:Expr}(it:fT)(lo:Int)(n:Nat):Turn P w K tg (Itr lo n) [it] it (λi h=>IsRangeIter h it (lo+(i:Nat)*1) ((n:Int) - (i:Nat)) 1) where
 mem:=by simp
 obj:=λi h st b hb=>by
  have e:b=it:=by simpa using hb
  subst e
  exact⟨_,st,λv z=>by
   have z':Data.fields _=Data.cell v:=z
   cases z'⟩
 keep:=λi h h' st k=>k it (by simp) _ st
 item:=by
  intro X hP hw hK hc i pins s σ H E I hf st hg;subst hP hw hK;obtain⟨f0,f1,f2,f3,f4,f5⟩:=hf it (by simp);have W:=Walks.range (prog:=X.prog) (w:=X.w) (I.ok.hd hc) it lo 1 n;refine W.item i s _ _ hg st λv h' tk hv st' kk=>?_
  obtain⟨t,rfl⟩:=hv;have I1:Inv X pins σ H { s with heap:=h',toks:=tk }:=I.turned (λb o hb e=>kk b o (by simpa using hb) e) f0 f1 f3 f4 f5;refine⟨_,rfl,bs0 (s:={ s with heap:=h',toks:=tk }) (n := "range_iterator") st' rfl rfl (by decide) ⟨.int<|lo+i,H,I1,⟨t,?_⟩,⟨rfl,rfl⟩,st',λb hb=>(hf b hb).1⟩⟩;rw[Int.mul_one]
 done:=by
  intro X hP hw hK hc i pins s σ H E I hf st hg;subst hP hw hK;obtain⟨f0,f1,f2,f3,f4,f5⟩:=hf it (by simp);exact wpAny_pyNext_range_end (I.ok.hd hc) st (by have:n<=i:=hg;omega) λh' eb=>⟨rfl,I.turned (t':=s.toks) (λb o hb e=>eb b o hb e) f0 f1 f3 f4 f5⟩
 self:=λ_ _ _ _ _ st h=>wpAny_pyIter_rangeiter st h
section
variable {X:Cx}{tg:Expr}
noncomputable def cU2(K:ad)(tl:TE):TI:=λσ H R=>tl σ H λx H1=>∃a,x=.ref a/\(∃xs,SqL K H1 a xs)/\R (Itl K a) H1
noncomputable def db9(K:ad)(tl:TE):TI:=λσ H R=>tl σ H λx H1=>∃a,x=.ref a/\(∃xs,SqT K H1 a xs)/\R (Itt K a) H1
def cb4{l:Expr}{tl:TE}(hl:PE X l tl):PI X tg l (cU2 X.K tl):=by
 intro pins s σ H R I h;refine thn (hl pins s σ H _ I h) λv s1 ⟨x,H1,I1,r1,q1⟩=>?_
 obtain⟨a,e,⟨xs,hq⟩,q⟩:=q1;subst e;cases r1;obtain⟨its,rv,p,hz⟩:=I1.list hq;refine wpAny_pyIter_list p.isList ?_;refine⟨s1.heap.objs.size,[s1.heap.objs.size],_,_,H1,rfl,I1.kept (t':=s1.toks) λb o e=>fF _ e,bv6 a _,⟨_,fH _ rfl,rfl,rfl⟩,λb hb=>?_,q⟩;have e:b=s1.heap.objs.size:=by simpa using hb
 subst e;exact I1.fpOk (ak _)<|I1.hok.fresh (ak _)
def cx0{l:Expr}{tl:TE}(hl:PE X l tl):PI X tg l (db9 X.K tl):=by
 intro pins s σ H R I h;refine thn (hl pins s σ H _ I h) λv s1 ⟨x,H1,I1,r1,q1⟩=>?_
 obtain⟨a,e,⟨xs,hq⟩,q⟩:=q1;subst e;cases r1;obtain⟨its,rv,p,hz⟩:=I1.tuple hq;refine wpAny_pyIter_tuple (show s1.heap.IsTuple a its.toArray from p) ?_;refine⟨s1.heap.objs.size,[s1.heap.objs.size],_,_,H1,rfl,I1.kept (t':=s1.toks) λb o e=>fF _ e,bg1 a _,⟨_,fH _ rfl,rfl,rfl⟩,λb hb=>?_,q⟩;have e:b=s1.heap.objs.size:=by simpa using hb
 subst e;exact I1.fpOk (ak _)<|I1.hok.fresh (ak _)
def bH3{pins:List (fT×Obj)}{σ:St}{H:Hp}{s:fS}{R:It->Hp->Prop}{E:fR->fS->Prop}{lo hi:Int}{t u v:Tok}{tk:Nat}(I:Inv X pins σ H s)(h1:-(2 ^ 62)<=lo)(h2:lo < 2 ^ 62)(h3:-(2 ^ 62)<=hi)(h4:hi < 2 ^ 62)
  (q:R (Itr lo (hi - lo).toNat) H):fD (fE X.prog X.w) X.A (pyIter<|.ref s.heap.objs.size) (PIE X pins σ tg R) E { s with heap:=s.heap.push { cls:=.type "range", data:=.fields #[.int lo t,.int hi u,.int 1 v] },toks:=tk }:=by
 refine wpAny_pyIter_range (IsRange.new ..) (small_one h1 h2 h3 h4) ?_;have I1:Inv X pins σ H { s with heap:=s.heap.push { cls:=.type "range", data:=.fields #[.int lo t,.int hi u,.int 1 v] },toks:=tk }:=I.kept λb o e=>fF _ e
 refine⟨(s.heap.push { cls:=.type "range", data:=.fields #[.int lo t,.int hi u,.int 1 v] }).objs.size,[(s.heap.push { cls:=.type "range", data:=.fields #[.int lo t,.int hi u,.int 1 v] }).objs.size],_,_,H,rfl,
  I1.kept (t':=tk) λb o e=>fF _ e,bg2 _ lo (hi - lo).toNat,?_,λb hb=>?_,q⟩
 .have e1:lo+((0:Nat):Int)*1=lo:=by simp
  have e2:(((hi - lo).toNat:Nat):Int) - ((0:Nat):Int)=Builtin.Range.rangeSize lo hi 1:=by rw[rangeSize_one];split<;>omega
  show IsRangeIter _ _ (lo+((0:Nat):Int)*1) ((((hi - lo).toNat:Nat):Int) - ((0:Nat):Int)) 1;rw[e1,e2];exact fH _ rfl
 .have e:b=(s.heap.push { cls:=.type "range", data:=.fields #[.int lo t,.int hi u,.int 1 v] }).objs.size:=by simpa using hb
  subst e;exact I1.fpOk (ak _)<|I1.hok.fresh (ak _)
noncomputable def cU1(ta:TA):TI:=λσ H R=>ta σ H λvs H1=>∃j:Int,vs=[.int j]/\-(2 ^ 62)<=j/\j < 2 ^ 62/\R (Itr 0 j.toNat) H1
def bw6{a:Expr}{ta:TA}{p pos:Pos}(hg:Gl X "range")(hm:X.mg "range" = O)(ha:PA X [a] ta)(hs:fb [a] X.env=[(false,eval a X.env)]:=by rfl):PI X tg (.Call (.Name "range" p) [a] [] pos) (cU1 ta):=by
 intro pins s σ H R I h;refine Call_ (aF6 I hg hm boot_range<|PyProof.Rows.callWith_type1 (thn (ha pos pins s σ H _ I h) λus s1 ⟨vs,H1,I1,r1,q1⟩=>?_) hs rfl);obtain⟨j,e,q1,q2,q⟩:=q1;subst e;cases r1 with
 | cons r rr =>
  cases rr;obtain⟨t,rfl⟩:=r;exact call_range_1 (bH3 I1 (by omega) (by omega) q1 q2<|by simpa using q)
noncomputable def cZ5(wi:TI)(g:TG)(tb:TS):TS:=λD σ H=>wi σ H λJ H1=>∃W:Nat->Nat->St->Hp->Prop,(∃m,W 0 m σ H1)/\∀i m σ H,W i m σ H ->
 (J.stop i H/\D.nx σ H)\/(J.go i H/\∃N:St->Hp->Prop,(∀σ' H',N σ' H'->∃m',m' < m/\W (i+1) m' σ' H')/\∀x H',J.yld i H x H'->g x σ H' λσ2 H2=>tb { D with nx:=N,ct:=N,bk:=D.nx } σ2 H2)
noncomputable def aE5(fp:List fT)(h:Heap):List (fT×Obj):=fp.filterMap λb=>(h.get? b).map λo=>(b,o)
def ac2(hb:b∈fp)(e:h.get? b=Z o):(b,o)∈aE5 fp h:=dA.mpr ⟨b,hb,by rw[e];rfl⟩
def bx1(hp:p∈aE5 fp h):p.1∈fp/\h.get? p.1=Z p.2:=by
 obtain⟨b,hb,e⟩:=dA.mp hp;cases q:h.get? b with
 | none=>rw[q]at e;cases e
 | some o =>
  rw[q]at e;have e':(b,o)=p:=bq.inj e;subst e';exact⟨hb,q⟩
def Inv.pinned(I:Inv X pins σ H s)(hf:∀b∈fp,aw2 X pins H b)(ho:∀b∈fp,∃o,s.heap.get? b=Z o/\∀v,o.data≠.cell v):Inv X (pins++aE5 fp s.heap) σ H s :=
 I.pins_of λp hp=>(ay.mp hp).elim (λz=>I.pin p<|ag _ z) λz=>by
  obtain⟨hb,e⟩:=bx1 z;obtain⟨f0,f1,f2,_⟩:=hf p.1 hb;obtain⟨o,e',d⟩:=ho p.1 hb;rw[e]at e';cases e';exact⟨e,f0,f1,f2,d⟩
def Inv.unpinned(I:Inv X (pins++pl) σ H s):Inv X pins σ H s:=I.pins_of λp hp=>I.pin p<|ag _ (af _ hp)
def cw7(hp:PassesOwn (fE X.prog X.w) X.A X.env X.xe)(hc:X.calm=true)(hi:PI X tg iter wi)(hg:PG X tg g)(hb:PSs X body tb)
  (hs:∀x,fu iter X.env x=pure x:=by intro _;rfl):PS X (.For tg iter body [] pos) (cZ5 wi g tb):=by
 intro pins s σ H D I h;refine wpAny_For (thn (hi pins s σ H _ I h) λv s1 h1=>thn h1 λitv s2 h2=>?_) hs;obtain⟨it,fp,tn,J,H2,e,I2,T,st2,f2,W,⟨m0,w0⟩,turn⟩:=h2;subst e;have stat:∀{H':Hp},(∀b∈fp,H' b=O)->∀b∈fp,aw2 X pins H' b:=λhn b hb=>⟨hn b hb,(f2 b hb).2⟩
 refine codeAny_forLoop_any (λn s'=>∃i σ' H',Inv X pins σ' H' s'/\tn i s'.heap/\(∀b∈fp,H' b=O)/\W i n σ' H') ?_ m0 ⟨0,σ,H2,I2,st2,λb hb=>(f2 b hb).1,w0⟩
 rintro n s3 ⟨i,σ3,H3,I3,st3,fr3,w3⟩
 rcases turn i n σ3 H3 w3 with⟨stop,qn⟩|⟨go,N,hN,step⟩
 .refine wpAny_passesOwn hp (thn (T.done X rfl rfl rfl hc i pins s3 σ3 H3 X.xe I3 (stat fr3) st3 stop) λr s4 ⟨hr,I4⟩=>?_);subst hr;exact wpAny_execs_nil ⟨σ3,H3,I4,qn⟩
 .refine wpAny_passesOwn hp (thn (T.item X rfl rfl rfl hc i pins s3 σ3 H3 X.xe I3 (stat fr3) st3 go) λr s4 ⟨u,hr,h4⟩=>?_);subst hr;refine wpAny_passesOwn hp (thn h4 λ_ s5 ⟨x,H5,I5,r5,y5,st5,fr5⟩=>?_);have I5':=I5.pinned (stat fr5) (T.obj _ _ st5);refine wpAny_passesOwn hp (thn (hg _ s5 σ3 H5 x u _ I5' r5<|step x H5 y5) λ_ s6 ⟨σ6,H6,I6,q6⟩=>?_);refine wpAny_passesOwn hp (thn (hb _ s6 σ6 H6 _ I6 q6) λf s7 q7=>?_)
  have again:∀{σ7:St}{H7:Hp},Inv X (pins++aE5 fp s5.heap) σ7 H7 s7->N σ7 H7->∃m,m < n/\∃i σ' H',Inv X pins σ' H' s7/\tn i s7.heap/\(∀b∈fp,H' b=O)/\W i m σ' H':=λ{σ7 H7} I7 n7=>by
   obtain⟨m',hm,w7⟩:=hN σ7 H7 n7;refine⟨m',hm,i+1,σ7,H7,I7.unpinned,T.keep _ _ _ st5 λb hb o e=>(I7.pin (b,o)<|ag _ (ag _<|ac2 hb e)).1,λb hb=>?_,w7⟩;obtain⟨o,e,d⟩:=T.obj _ _ st5 b hb;exact(I7.pin (b,o)<|ag _ (ag _<|ac2 hb e)).2.1
  cases f with
  | next=>obtain⟨σ7,H7,I7,n7⟩:=q7;exact again I7 n7
  | cont=>obtain⟨σ7,H7,I7,n7⟩:=q7;exact again I7 n7
  | brk=>obtain⟨σ7,H7,I7,q7⟩:=q7;exact⟨σ7,H7,I7.unpinned,q7⟩
  | ret v=>obtain⟨x7,σ7,H7,I7,r7,q7⟩:=q7;exact⟨x7,σ7,H7,I7.unpinned,r7,q7⟩
end
noncomputable abbrev R2:=V->V->Hp->VK->Prop
noncomputable def OpR(X:Cx)(f:fR->fR->Sem fR)(r:R2):Prop :=
 ∀(pins:List (fT×Obj)) (s:fS) (σ:St) (H:Hp) (x y:V) (v u:fR) (Q:VK),Inv X pins σ H s->E4 x v->E4 y u->r x y H Q ->
  fD (fE X.prog X.w) X.A (f v u) (EP X pins σ Q) X.xe s
noncomputable def UnR(X:Cx)(f:fR->Sem fR)(r:V->Hp->VK->Prop):Prop :=
 ∀(pins:List (fT×Obj)) (s:fS) (σ:St) (H:Hp) (x:V) (v:fR) (Q:VK),Inv X pins σ H s->E4 x v->r x H Q ->
  fD (fE X.prog X.w) X.A (f v) (EP X pins σ Q) X.xe s
noncomputable def U2(X:Cx)(f:fR)(r:List V->Hp->VK->Prop):Prop :=
 ∀(pins:List (fT×Obj)) (s:fS) (σ:St) (H:Hp) (xs:List V) (us:List fR) (Q:VK),Inv X pins σ H s->D8 xs us->r xs H Q ->
  fD (fE X.prog X.w) X.A (call f us) (EP X pins σ Q) X.xe s
noncomputable def dd0(X:Cx)(r:V->Hp->(Bool->Hp->Prop)->Prop):Prop :=
 ∀(pins:List (fT×Obj)) (s:fS) (σ:St) (H:Hp) (x:V) (v:fR) (Q:Bool->Hp->Prop),Inv X pins σ H s->E4 x v->r x H Q ->
  fD (fE X.prog X.w) X.A (truthy v) (TP X pins σ Q) X.xe s
noncomputable def tOp(r:R2)(ta tb:TE):TE:=λσ H Q=>ta σ H λx H1=>tb σ H1 λy H2=>r x y H2 Q
noncomputable def tUn(r:V->Hp->VK->Prop)(ta:TE):TE:=λσ H Q=>ta σ H λx H1=>r x H1 Q
noncomputable def rI(C:Int->Int->Prop)(g:Int->Int->V):R2:=λx y H Q=>∃i j,x=.int i/\y=.int j/\C i j/\Q (g i j) H
noncomputable def rI0(g:Int->Int->V):R2:=λx y H Q=>∃i j,x=.int i/\y=.int j/\Q (g i j) H
noncomputable def rU(g:Int->V):V->Hp->VK->Prop:=λx H Q=>∃i,x=.int i/\Q (g i) H
section
variable {X:Cx}{a b c:Expr}{ta tb tc:TE}{pos:Pos}
def cJ6(ha:PE X a ta)(hb:PE X b tb){pins:List (fT×Obj)}{s:fS}{σ:St}{H:Hp}{R:V->V->Hp->Prop}(I:Inv X pins σ H s)
  (h:ta σ H λx H1=>tb σ H1 λy H2=>R x y H2) {Q:fR->fS->Prop}{f:fR->fR->Sem fR}
  (hf:∀v u s2 x y H2,Inv X pins σ H2 s2->E4 x v->E4 y u->R x y H2->fD (fE X.prog X.w) X.A (f v u) Q X.xe s2) :
  fD (fE X.prog X.w) X.A (eval a X.env) (λv s₁=>fD (fE X.prog X.w) X.A (eval b X.env) (λu s₂=>fD (fE X.prog X.w) X.A (f v u) Q X.xe s₂) X.xe s₁) X.xe s:=by
 refine thn (ha pins s σ H _ I h) λv s1 ⟨x,H1,I1,r1,q1⟩=>?_
 refine thn (hb pins s1 σ H1 _ I1 q1) λu s2 ⟨y,H2,I2,r2,q2⟩=>?_
 exact hf v u s2 x y H2 I2 r1 r2 q2
def co0(ho:OpR X (fo op) r)(ha:PE X a ta)(hb:PE X b tb):PE X (.BinOp a op b pos) (tOp r ta tb):=by
 intro pins s σ H Q I h;exact wpAny_BinOp<|cJ6 ha hb I h λv u s2 x y H2 I2 rx ry q=>ho pins s2 σ H2 x y v u Q I2 rx ry q
def cP6(ho:UnR X (unaryOp op) r)(ha:PE X a ta):PE X (.UnaryOp op a pos) (tUn r ta):=by
 intro pins s σ H Q I h;exact UnaryOp_<|thn (ha pins s σ H _ I h) λv s1 ⟨x,H1,I1,r1,q1⟩=>ho pins s1 σ H1 x v Q I1 r1 q1
def opI{f:fR->fR->Sem fR}{C:Int->Int->Prop}{g:Int->Int->Int}
  (rule:∀(i j:Int) (t u:Tok) (s:fS) (Q:fR->fS->Prop) (E:fR->fS->Prop),C i j->Q (.int (g i j) s.toks) { s with toks:=s.toks+1 }->fD (fE X.prog X.w) X.A (f (.int i t)<|.int j u) Q E s) :
  OpR X f (rI C λi j=>.int<|g i j):=by
 intro pins s σ H x y v u Q I rx ry h;obtain⟨i,j,rfl,rfl,hc,q⟩:=h;obtain⟨t,rfl⟩:=rx;obtain⟨t',rfl⟩:=ry;exact rule i j t t' s _ _ hc ⟨.int<|g i j,H,I.tok _,⟨_,rfl⟩,q⟩
def cQ6{f:fR->fR->Sem fR}{g:Int->Int->Int}
  (rule:∀(i j:Int) (t u:Tok) (s:fS) (Q:fR->fS->Prop) (E:fR->fS->Prop),Q (.int (g i j) s.toks) { s with toks:=s.toks+1 }->fD (fE X.prog X.w) X.A (f (.int i t)<|.int j u) Q E s) :
  OpR X f (rI0 λi j=>.int<|g i j):=by
 intro pins s σ H x y v u Q I rx ry h;obtain⟨i,j,rfl,rfl,q⟩:=h;obtain⟨t,rfl⟩:=rx;obtain⟨t',rfl⟩:=ry;exact rule i j t t' s _ _ ⟨.int<|g i j,H,I.tok _,⟨_,rfl⟩,q⟩
def cd0{f:fR->fR->Sem fR}{g:Int->Int->Bool}
  (rule:∀(i j:Int) (t u:Tok) (s:fS) (Q:fR->fS->Prop) (E:fR->fS->Prop),Q (.bool<|g i j) s->fD (fE X.prog X.w) X.A (f (.int i t)<|.int j u) Q E s) :
  OpR X f (rI0 λi j=>.bl<|g i j):=by
 intro pins s σ H x y v u Q I rx ry h;obtain⟨i,j,rfl,rfl,q⟩:=h;obtain⟨t,rfl⟩:=rx;obtain⟨t',rfl⟩:=ry;exact rule i j t t' s _ _ ⟨.bl<|g i j,H,I,rfl,q⟩
def bK0:OpR X (fo .Add) (rI0 λi j=>.int<|i+j):=cQ6 λ_ _ _ _ _ _ _ q=>add_int q
def cy3:OpR X (fo .Sub) (rI0 λi j=>.int<|i - j):=cQ6 λ_ _ _ _ _ _ _ q=>sub_int q
def cy4:OpR X (fo .Mod) (rI (λ_ j=>0 < j) λi j=>.int<|i % j):=opI λi j _ _ _ _ _ hc q=>by
 have h1:(0:Int) < j:=hc;exact mod_int' (by omega) (by rw[Int.fmod_eq_emod_of_nonneg i (by omega)];exact q)
def unI{f:fR->Sem fR}{g:Int->Int}
  (rule:∀(i:Int) (t:Tok) (s:fS) (Q:fR->fS->Prop) (E:fR->fS->Prop),Q (.int (g i) s.toks) { s with toks:=s.toks+1 }->fD (fE X.prog X.w) X.A (f<|.int i t) Q E s) :
  UnR X f (rU λi=>.int<|g i):=by
 intro pins s σ H x v Q I rx h;obtain⟨i,rfl,q⟩:=h;obtain⟨t,rfl⟩:=rx;exact rule i t s _ _ ⟨.int<|g i,H,I.tok _,⟨_,rfl⟩,q⟩
def cu0:UnR X (unaryOp .USub) (rU λi=>.int (-i)):=unI λ_ _ _ _ _ q=>neg_int q
end
section
variable {X:Cx}{a b c:Expr}{ta tb tc:TE}{pos:Pos}
def aU3(I:Inv X pins σ H s)(q:Q (.bl k) H)(e:k=k'):EP X pins σ Q (.bool k') s:=by
 subst e;exact⟨.bl k,H,I,rfl,q⟩
def cQ2:OpR X (ff .Lt) (rI0 λi j=>.bl<|decide (i < j)):=cd0 λ_ _ _ _ _ _ _ q=>lt_int q
def cQ3:OpR X (ff .LtE) (rI0 λi j=>.bl<|decide (i<=j)):=cd0 λ_ _ _ _ _ _ _ q=>le_int q
def cQ4:OpR X (ff .Gt) (rI0 λi j=>.bl<|decide (j < i)):=cd0 λ_ _ _ _ _ _ _ q=>gt_int q
def cQ5:OpR X (ff .GtE) (rI0 λi j=>.bl<|decide (j<=i)):=cd0 λ_ _ _ _ _ _ _ q=>ge_int q
def bw7:OpR X (ff .In) (λx y H Q=>∃i j,x=.str i/\y=.str j/\Q (.bl (!(Builtin.Str.occurrences j i 0 j.length 1).isEmpty)) H):=by
 intro pins s σ H x y v u Q I rx ry h;obtain⟨i,j,rfl,rfl,q⟩:=h;obtain⟨t,rfl⟩:=rx;obtain⟨t',rfl⟩:=ry;exact in_str<|aU3 I q rfl
def cy5:OpR X (ff .Is) (λx y H Q=>y=.non/\Q (.bl<|decide (x=.non)) H):=by
 intro pins s σ H x y v u Q I rx ry h;obtain⟨rfl,q⟩:=h;cases ry;refine is_none_gen<|aU3 I q ?_
 cases x<;>first
  | (cases rx;rfl)
  | (obtain⟨t,rfl⟩:=rx;rfl)
def cc7:OpR X (ff .IsNot) (λx y H Q=>y=.non/\Q (.bl (!decide (x=.non))) H):=by
 intro pins s σ H x y v u Q I rx ry h;obtain⟨rfl,q⟩:=h;cases ry;refine isnot_none_gen<|aU3 I q ?_
 cases x<;>first
  | (cases rx;rfl)
  | (obtain⟨t,rfl⟩:=rx;rfl)
def aR8:OpR X (ff .NotIn) (λx y H Q=>∃i j,x=.str i/\y=.str j/\Q (.bl (!(!(Builtin.Str.occurrences j i 0 j.length 1).isEmpty))) H):=by
 intro pins s σ H x y v u Q I rx ry h;obtain⟨i,j,rfl,rfl,q⟩:=h;obtain⟨t,rfl⟩:=rx;obtain⟨t',rfl⟩:=ry;exact notIn_str<|aU3 I q rfl
def bK7(b:Expr)(h:op≠.In:=by decide)(h2:op≠.NotIn:=by decide):behindInMarks op b=false:=by
 have e1:(op==CmpOp.In)=false:=by cases op<;>first|rfl|exact absurd rfl h
 have e2:(op==CmpOp.NotIn)=false:=by cases op<;>first|rfl|exact absurd rfl h2
 cases b<;>simp[behindInMarks,e1,e2]
def cc0(ho:OpR X (ff op) r)(ha:PE X a ta)(hb:PE X b tb)(hm:behindInMarks op b=false):PE X (.Compare a [op] [b] pos) (tOp r ta tb):=by
 intro pins s σ H Q I h;exact wpAny_Compare1 (cJ6 ha hb I h λv u s2 x y H2 I2 rx ry q=>ho pins s2 σ H2 x y v u Q I2 rx ry q) hm
noncomputable def cn1(t:TE):TT:=λσ H Q=>t σ H λx H'=>∃k,x=.bl k/\Q k H'
def ca5(ho:OpR X (ff op) r)(ha:PE X a ta)(hb:PE X b tb)(hm:behindInMarks op b=false):PT X (.Compare a [op] [b] pos) (cn1<|tOp r ta tb):=by
 intro pins s σ H Q I h;refine wpAny_isTrue_Compare1 (thn (ha pins s σ H _ I h) λv s1 ⟨x,H1,I1,r1,q1⟩=>thn (hb pins s1 σ H1 _ I1 q1) λu s2 ⟨y,H2,I2,r2,q2⟩ =>thn (ho pins s2 σ H2 x y v u _ I2 r1 r2 q2) λc s3 ⟨z,H3,I3,r3,k,e,q3⟩=>?_) hm;subst e;cases r3;exact eW ⟨H3,I3,q3⟩
noncomputable def bG0(r r':R2)(ta tb tc:TE):TE:=λσ H Q=>ta σ H λx H1=>tb σ H1 λy H2=>r x y H2 λz H3=>∃k,z=.bl k /\
 (if k=true then tc σ H3 λw' H4=>r' y w' H4 Q else Q (.bl false) H3)
def aZ1(ho:OpR X (ff op) r)(ho':OpR X (ff op') r')(ha:PE X a ta)(hb:PE X b tb)(hc:PE X c tc)
  (hm:lastMarks [op,op'] [b,c]=false:=by with_unfolding_all rfl):PE X (.Compare a [op,op'] [b,c] pos) (bG0 r r' ta tb tc):=by
 intro pins s σ H Q I h;refine Compare_chain (thn (ha pins s σ H _ I h) λv s1 ⟨x,H1,I1,r1,q1⟩=>chain_link<|thn (hb pins s1 σ H1 _ I1 q1) λu s2 ⟨y,H2,I2,r2,q2⟩ =>thn (ho pins s2 σ H2 x y v u _ I2 r1 r2 q2) λd s3 ⟨z,H3,I3,r3,k,e,q3⟩=>?_) hm;subst e;cases r3;refine eW ?_;cases k with
 | false=>exact ite_ff ⟨.bl false,H3,I3,rfl,q3⟩
 | true=>exact ite_tt<|chain_last (thn (hc pins s3 σ H3 _ I3 q3) λw' s4 ⟨z',H4,I4,r4,q4⟩=>ho' pins s4 σ H4 y z' u w' Q I4 r2 r4 q4)
def aY4(ho:OpR X (ff op) r)(ho':OpR X (ff op') r')(ha:PE X a ta)(hb:PE X b tb)(hc:PE X c tc)
  (hm:lastMarks [op,op'] [b,c]=false:=by with_unfolding_all rfl):PT X (.Compare a [op,op'] [b,c] pos) (cn1<|bG0 r r' ta tb tc):=by
 intro pins s σ H Q I h;refine isTrue_chain (thn (ha pins s σ H _ I h) λv s1 ⟨x,H1,I1,r1,q1⟩=>test_link<|thn (hb pins s1 σ H1 _ I1 q1) λu s2 ⟨y,H2,I2,r2,q2⟩ =>thn (ho pins s2 σ H2 x y v u _ I2 r1 r2 q2) λd s3 ⟨z,H3,I3,r3,k,e,q3⟩=>?_) hm;subst e;cases r3;refine eW ?_;cases k with
 | false =>
  obtain⟨k',e',q'⟩:=q3;cases e';exact ite_ff ⟨H3,I3,q'⟩
 | true =>
  refine ite_tt (test_last<|thn (hc pins s3 σ H3 _ I3 q3) λw' s4 ⟨z',H4,I4,r4,q4⟩=>thn (ho' pins s4 σ H4 y z' u w' _ I4 r2 r4 q4) λd' s5 ⟨z2,H5,I5,r5,k2,e2,q5⟩=>?_);subst e2;cases r5;exact eW ⟨H5,I5,q5⟩
noncomputable def cK9(K:ad)(x:V)(H:Hp)(k:Bool):Prop :=
 match x with
 | .non=>k=false
 | .bl b=>k=b
 | .int i=>k=(i != 0)
 | .str y=>y.length<=fc/\k=((y.length:Int) != 0)
 | .byt y=>y.size<=fc/\k=((y.size:Int) != 0)
 | .ref p=>(∃xs,SqL K H p xs/\k = !xs.isEmpty)\/(∃xs,SqT K H p xs/\k = !xs.isEmpty)\/∃kvs,H p=Z (.dK kvs)/\k = !kvs.isEmpty
 | _=>False
def bj4{κ:Type}{kvs:List (κ×V)}{vs:List (κ×fR)}(r:KV kvs vs):(!vs.isEmpty) = !kvs.isEmpty:=by cases r<;>rfl
def aG4(r:D8 xs its):(!its.toArray.isEmpty) = !xs.isEmpty:=by cases r<;>simp
def am2:(fc:Nat) < 2 ^ 63:=by rw[fe];decide
def bF7:dd0 X (λx H Q=>∃k,cK9 X.K x H k/\Q k H):=by
 intro pins s σ H x v Q I rx h;obtain⟨k,e,q⟩:=h;have hl:=am2;have hs:fc=16777216:=fe;cases x with
 | non =>
  cases rx;have e':k=false:=e;subst e';exact truthy_none ⟨H,I,q⟩
 | bl b =>
  cases rx;have e':k=b:=e;subst e';exact eW ⟨H,I,q⟩
 | int i =>
  obtain⟨t,rfl⟩:=rx;have e':k=(i != 0):=e;subst e';exact PySem.P.truthy_int ⟨H,I,q⟩
 | str y =>
  obtain⟨t,rfl⟩:=rx;obtain⟨hy,e'⟩:y.length<=fc/\k=((y.length:Int) != 0):=e;subst e';exact PySem.P.truthy_str (by omega) ⟨H,I.tok _,q⟩
 | byt y =>
  obtain⟨t,rfl⟩:=rx;obtain⟨hy,e'⟩:y.size<=fc/\k=((y.size:Int) != 0):=e;subst e';exact PySem.W.truthy_bytes (by omega) ⟨H,I.tok _,q⟩
 | ref p =>
  cases rx;have e':(∃xs,SqL X.K H p xs/\k = !xs.isEmpty)\/(∃xs,SqT X.K H p xs/\k = !xs.isEmpty)\/∃kvs,H p=Z (.dK kvs)/\k = !kvs.isEmpty:=e;rcases e' with⟨xs,hx,e'⟩|⟨xs,hx,e'⟩|⟨kvs,hx,e'⟩
  .subst e';obtain⟨its,r,pl,hz⟩:=I.list hx;have hlen:=r.length;exact wpAny_truthy_list pl.isList (by simp only[aw];omega) ⟨H,I.tok _,by rw[aG4 r];exact q⟩
  .subst e';obtain⟨its,r,pl,hz⟩:=I.tuple hx;have hlen:=r.length;exact truthy_tuple pl (by simp only[aw];omega) ⟨H,I.tok _,by rw[aG4 r];exact q⟩
  .subst e';obtain⟨hz,hS,vs,r,m⟩:kvs.length<=fc/\(p==sysModules)=false/\∃vs,KV kvs vs/\s.heap.DictOf (G2 X.prog X.w) p vs:=I.hok p _ hx;have hlen:kvs.length=vs.length:=Paired.length r;exact wpAny_truthy_dict hS m (by omega) ⟨H,I.tok _,by rw[bj4 r];exact q⟩
 | _=>exact(show False from e).elim
def bH6(ha:PE X a ta)(he:∀whole,isTrue a X.env whole=(do let v ← whole;standAt a.pos;holding [v] (truthy v))):
  PT X a (λσ H Q=>ta σ H λx H'=>∃k,cK9 X.K x H' k/\Q k H'):=by
 intro pins s σ H Q I h;exact isTrue_plain (thn (ha pins s σ H _ I h) λv s1 ⟨x,H1,I1,r1,q1⟩=>bF7 pins s1 σ H1 x v Q I1 r1 q1)<|he _
def bi2:OpR X (fo .Add) (λx y H Q=>∃i j,x=.str i/\y=.str j/\i.length+j.length<=fc/\Q (.str<|i++j) H):=by
 intro pins s σ H x y v u Q I rx ry h;obtain⟨i,j,rfl,rfl,hz,q⟩:=h;obtain⟨t,rfl⟩:=rx;obtain⟨t',rfl⟩:=ry;exact add_str (λt' tk=>⟨.str<|i++j,H,I.tok _,⟨_,rfl⟩,q⟩) hz
def X2(r:D8 [x] us):∃u,us=[u]/\E4 x u:=by
 cases r with
 | cons r1 r2=>cases r2;exact⟨_,rfl,r1⟩
def bF2(r:D8 [x,y] us):∃u w',us=[u,w']/\E4 x u/\E4 y w':=by
 cases r with
 | cons r1 r2 =>
  cases r2 with
  | cons r3 r4=>cases r4;exact⟨_,_,rfl,r1,r3⟩
def bW4:U2 X (.builtin "abs") (λxs H Q=>∃i,xs=[.int i]/\Q (.int (if i < 0 then -i else i)) H):=by
 intro pins s σ H xs us Q I r h;obtain⟨i,rfl,q⟩:=h;obtain⟨u,rfl,t,rfl⟩:=X2 r;exact call_abs_int λu tk=>⟨.int (if i < 0 then -i else i),H,I.tok _,⟨_,rfl⟩,q⟩
def bD0(hc:X.calm=true):U2 X (.builtin "max") (λxs H Q=>∃i j,xs=[.int i,.int j]/\Q (.int (if j > i then j else i)) H):=by
 intro pins s σ H xs us Q I r h;obtain⟨i,j,rfl,q⟩:=h;obtain⟨u,w',rfl,⟨t,rfl⟩,⟨t',rfl⟩⟩:=bF2 r;refine max_two_ints (I.ok.hd hc) λh' tk k=>⟨_,H,I.kept k,?_,q⟩
 by_cases hj:j > i
 .rw[if_pos hj,if_pos hj];exact⟨_,rfl⟩
 .rw[if_neg hj,if_neg hj];exact⟨_,rfl⟩
def bC7(hc:X.calm=true):U2 X (.builtin "min") (λxs H Q=>∃i j,xs=[.int i,.int j]/\Q (.int (if j < i then j else i)) H):=by
 intro pins s σ H xs us Q I r h;obtain⟨i,j,rfl,q⟩:=h;obtain⟨u,w',rfl,⟨t,rfl⟩,⟨t',rfl⟩⟩:=bF2 r;refine min_two_ints (I.ok.hd hc) λh' tk k=>⟨_,H,I.kept k,?_,q⟩
 by_cases hj:j < i
 .rw[if_pos hj,if_pos hj];exact⟨_,rfl⟩
 .rw[if_neg hj,if_neg hj];exact⟨_,rfl⟩
def aO7:U2 X (.type "int") (λxs H Q=>(∃i,xs=[.int i]/\Q (.int i) H)\/∃k,xs=[.bl k]/\Q (.int (if k then 1 else 0)) H):=by
 intro pins s σ H xs us Q I r h;rcases h with⟨i,rfl,q⟩|⟨k,rfl,q⟩
 .obtain⟨u,rfl,t,rfl⟩:=X2 r;exact call_int_int ⟨.int i,H,I,⟨_,rfl⟩,q⟩
 .obtain⟨u,rfl,r1⟩:=X2 r;cases r1;exact call_int_bool ⟨.int (if k then 1 else 0),H,I.tok _,⟨_,rfl⟩,q⟩
end
structure ObjM (h:Heap) (x dx C:fT) (mA:Str->Option fR):Prop where
 obj:h.get? x=Z (PySem.W.instObj C dx)
 ns:h.Ns1 dx mA
 ne:dx≠x
def av6.some_of(r:av6 (Z v) o):∃u,o=Z u/\E4 v u:=by
 cases o with
 | none=>exact(show False from r).elim
 | some u=>exact⟨u,rfl,r⟩
section
variable {P:Program}{w:World}{H H':Hp}{h h':Heap}{a C dx:Addr}{fs fs':List (Str×V)}
def T4(hok:HOk P w H h)(e:H a=Z (.ins C dx fs)):∃mA,ObjM h a dx C mA/\(∀f,av6 (fs.lookup f)<|mA f)/\PySem.Within mA (fs.map (·.1))/\fs.length<=1000/\H dx=Z (.own a):=by
 obtain⟨d,z,ne,ob,mA,n,r,q⟩:=(show P9 P w H h a (.ins C dx fs) from hok a _ e);exact⟨mA,⟨ob,n,ne⟩,r,q,z,d⟩
end
structure Room (k:Nat) (A:fi):Prop where
 hd:A.handled=O
 dp:A.depth+3*k+5 < recursionLimit
 un:A.units+16*k+200 < cLine
def Room.mono(r:Room k A)(h:j<=k):Room j A:=⟨r.hd,by have:=r.dp;omega,by have:=r.un;omega⟩
theorem Room.deeper(r:Room (k+1) A)(env:Env):Room k (A.deeper env) :=
 ⟨r.hd,by have:=r.dp;show A.depth+1+3*k+5 < _;omega,by have:=r.un;show A.units+3+16*k+200 < _;omega⟩
theorem Room.depth(r:Room k A):A.depth < recursionLimit:=by have:=r.dp;omega
theorem Room.units(r:Room k A):A.units+64 < cLine:=by have:=r.un;omega
noncomputable def cN7:TA:=λ_ H Q=>Q [] H
noncomputable def cO2(ta:TE)(tr:TA):TA:=λσ H Q=>ta σ H λx H1=>tr σ H1 λxs H2=>Q (x::xs) H2
section
variable {X:Cx}{e:Expr}{es:List Expr}{te:TE}{t:TA}{pos:Pos}
def J2:PA X [] cN7:=λ_ _ _ _ H Q I h=>Calls.spliced_nil ⟨[],H,I,.nil,h⟩
def D7(ha:PE X e te)(hr:PA X es t)(hs:fb (e::es) X.env=(false,eval e X.env)::fb es X.env:=by rfl):PA X (e::es) (cO2 te t):=by
 intro pos pins s σ H Q I h;rw[hs];show fD _ _ (spliced ((false,eval e X.env)::backTo pos (fb es X.env))) _ _ s;refine Calls.spliced_cons (thn (ha pins s σ H _ I h) λu s1 ⟨x,H1,I1,r1,q1⟩=>?_);exact thn (hr pos pins s1 σ H1 _ I1 q1) λus s2 ⟨xs,H2,I2,r2,q2⟩=>⟨x::xs,H2,I2,.cons r1 r2,q2⟩
noncomputable def cY7(t:TA):TE:=λσ H Q=>t σ H λxs H1=>xs.length<=fc/\∀p,H1 p=O->Q (.ref p) (upd H1 p<|.tup xs)
noncomputable def cZ3(t:TA):TE:=λσ H Q=>t σ H λxs H1=>xs.length<=fc/\∀p,H1 p=O->Q (.ref p) (upd H1 p<|.lst xs)
def cx2{x1}(h:PA X es t):PE X (.Tuple es x1 pos) (cY7 t):=by
 intro pins s σ H Q I hq;refine wpAny_Tuple_spliced (thn (h pos pins s σ H _ I hq) λus s1 ⟨xs,H1,I1,r,z,q⟩=>⟨by rw[← r.length];exact z,?_⟩);have hf:H1 s1.heap.objs.size=O:=I1.hok.fresh (ak _);refine⟨.ref s1.heap.objs.size,upd H1 s1.heap.objs.size<|.tup xs,I1.laid (t':=s1.toks) (λb u e=>fF _ e) (ak _) ?_,rfl,q _ hf⟩;exact⟨z,us,r,⟨_,fH _ rfl,rfl,⟨_,rfl⟩,rfl⟩⟩
def cx7(h:PA X es t):PE X (.List es pos) (cZ3 t):=by
 intro pins s σ H Q I hq;refine wpAny_List_spliced (thn (h pos pins s σ H _ I hq) λus s1 ⟨xs,H1,I1,r,z,q⟩=>⟨by rw[← r.length];exact z,?_⟩);have hf:H1 s1.heap.objs.size=O:=I1.hok.fresh (ak _);refine⟨.ref s1.heap.objs.size,upd H1 s1.heap.objs.size<|.lst xs,I1.laid (t':=s1.toks) (λb u e=>fF _ e) (ak _) ?_,rfl,q _ hf⟩;exact⟨z,us,0,r,fH _ rfl⟩
end
noncomputable abbrev Sp:=List V->Hp->VK->XK->Prop
noncomputable abbrev CXT:=List Env->Hp->fS->XK->fR->fS->Prop
structure Env0 (P:fh) (w:World) (K:ad) (mg:Str->Option fR) (base:Heap) (A:fi) (outer:List Env) (s:fS) (H:Hp):Prop where
 frames:A.frames=Z outer
 mod:Mod K mg base
 bs:∀b o,base.get? b=Z o->s.heap.get? b=Z o/\H b=O
 bsz:base.objs.size<=s.heap.objs.size
 funs:s.heap.FunFrames base outer
 frf:∀b∈frs outer,H b=O
 hok:HOk P w H s.heap
 bare:AllBare s.gens
noncomputable def CE(outer:List Env)(P:fh)(w:World)(H:Hp)(s:fS)(Q:VK)(u:fR)(s':fS):Prop :=
 ∃v H',s'.os=s.os/\AllBare s'.gens/\Un (frs outer) [] H H' s.heap s'.heap/\HOk P w H' s'.heap/\E4 v u/\Q v H'
noncomputable def CR(CX:CXT)(outer:List Env)(P:fh)(w:World)(H:Hp)(s:fS)(Q:VK)(E:XK)(r:Result)(s':fS):Prop :=
 match r with
 | .ok (.ret u)=>CE outer P w H s Q u s'
 | .ok _=>False
 | .error e=>CX outer H s E e s'
structure FnOk (P:fh) (w:World) (K:ad) (mg:Str->Option fR) (base:Heap) (CX:CXT) (k:Nat) (f:fT) (fd:fj) (ps:List Str) (sp:Sp):Prop where
 len:∀vs H Q E,sp vs H Q E->vs.length=ps.length
 run:∀(A:fi) (outer:List Env) (s:fS) (H:Hp) (args:Args) (us:List fR) (vs:List V) (Q:VK) (E:XK),Room k A->Env0 P w K mg base A outer s H->BindsTo s fd args (ps.zip us)->D8 vs us->sp vs H Q E ->
  codeAny (fE P w) A (.call (.ref f) args) (CR CX outer P w H s Q E) s
theorem FnOk.mono{P:fh}{w:World}{K:ad}{mg:Str->Option fR}{base:Heap}{CX:CXT}{j k:Nat}{f:fT}{fd:fj}{ps:List Str}{sp:Sp}(F:FnOk P w K mg base CX j f fd ps sp)(h:j<=k):
  FnOk P w K mg base CX k f fd ps sp:=⟨F.len,λA outer s H args us vs Q E hr=>F.run A outer s H args us vs Q E<|hr.mono h⟩
section
variable {X:Cx}{pins:List (Addr×Obj)}{σ:St}{H:Hp}{s s':Shared}
def Inv.env0(I:Inv X pins σ H s):Env0 X.prog X.w X.K X.mg X.base X.A X.stack s H :=
 ⟨I.ok.frames,I.ok.mod,I.bs,aQ I.ok.bsz I.sz,I.stack,I.stkFree,I.hok,I.bare⟩
def Inv.after(I:Inv X pins σ H s)(h:CE X.stack X.prog X.w H s Q u s'):EP X pins σ Q u s':=by
 obtain⟨v,H',os,bare,un,hok,r,q⟩:=h;obtain⟨hh,g,d,t,os'⟩:=s';obtain rfl:os'=s.os:=os;exact⟨v,H',I.call (h':=hh) (g':=g) (d':=d) (t':=t) (ch:=[]) un hok bare (λb z=>absurd z<|by simp),r,q⟩
end
noncomputable def cn3(sp:Sp)(dvs:List V)(E:XK)(t:TA):TE:=λσ H Q=>t σ H λvs H1=>sp (vs++dvs) H1 Q E
noncomputable def f9(K:ad)(fd:fj)(ps:List Str)(ds:List fR):Prop :=
 ∀(s:fS) (us:List fR),K.In s.heap->(us++ds).length=ps.length->BindsTo s fd ⟨us,[]⟩ (ps.zip<|us++ds)
def f9.all{K:ad}{fd:fj}{ps:List Str}(h:∀us:List fR,us.length=ps.length->bindArgs fd ⟨us,[]⟩=pure (ps.zip us)):f9 K fd ps []:=λs us _ hl=>by
 rw[br]at hl ⊢;exact .of_eq<|h us hl
noncomputable def aW5(CX:CXT)(X:Cx)(E:XK):Prop:=∀(pins:List (fT×Obj)) (σ:St) (H:Hp) (s:fS) (e:fR) (s':fS),Inv X pins σ H s->CX X.stack H s E e s'->X.xe e s'
section
variable {X:Cx}{CX:CXT}{k:Nat}{f C:Addr}{fd:FuncData}{ps:List Str}{sp:Sp}{dvs:List V}{ds:List Value}{E:XK}{x m:Str}{p pos apos:Pos}{e o:Expr}{es:List Expr}{ta:TE}{t:TA}
def bG9(F:FnOk X.prog X.w X.K X.mg X.base CX k f fd ps sp)(hr:Room k X.A)(hb:f9 X.K fd ps ds)(hd:D8 dvs ds)(hx:aW5 CX X E)
  (I:Inv X pins σ H s) (r:D8 vs us) (h:sp (vs++dvs) H Q E):fD (fE X.prog X.w) X.A (call (.ref f) us) (EP X pins σ Q) X.xe s:=by
 have r2:D8 (vs++dvs) (us++ds):=r.append hd;have hl:(us++ds).length=ps.length:=by rw[← r2.length];exact F.len _ _ _ _ h
 refine wpAny_call (codeAny_mono (F.run X.A X.stack s H ⟨us,[]⟩ (us++ds) (vs++dvs) Q E hr I.env0 (hb s us I.kIn hl) r2 h) λr s' hq=>?_);cases r with
 | error e=>exact hx pins σ H s e s' I hq
 | ok fl =>
  cases fl with
  | ret u=>exact I.after hq
  | next=>exact False.elim hq
  | brk=>exact False.elim hq
  | cont=>exact False.elim hq
def cc1(F:FnOk X.prog X.w X.K X.mg X.base CX k f fd ps sp)(hr:Room k X.A)(hg:Gl X x)(hm:X.mg x=Z (.ref f))(hk:bH X.K (.ref f)=true)(hb:f9 X.K fd ps ds)(hd:D8 dvs ds)(hx:aW5 CX X E)
  (ha:PA X (e::es) t) (hdb:(x==("__debug__" : Str))=false:=by decide) (he:fb (e::es) X.env=(false,eval e X.env)::fb es X.env:=by rfl) (hpl:(backTo pos<|fb es X.env).any (·.1)=false:=by rfl) :
  PE X (.Call (.Name x p) (e::es) [] pos) (cn3 sp dvs E t):=by
 intro pins s σ H Q I h;refine wpAny_Call_Name_kw (aT2 I hg hm ?_ hdb);refine PySem.W.callWith_K (h₀:=X.base) I.ok.mod.kin hk (thn (ha pos pins s σ H _ I h) λus s1 ⟨vs,H1,I1,r,q⟩=>⟨I1.kIn,?_⟩) he hpl;exact bG9 F hr hb hd hx I1 r q
def bJ3(F:FnOk X.prog X.w X.K X.mg X.base CX k f fd ps sp)(hr:Room k X.A)(hg:Gl X x)(hm:X.mg x=Z (.ref f))(hk:bH X.K (.ref f)=true)(hb:f9 X.K fd ps ds)(hd:D8 dvs ds)(hx:aW5 CX X E)
  (hdb:(x==("__debug__" : Str))=false:=by decide):PE X (.Call (.Name x p) [] [] pos) (cn3 sp dvs E cN7):=by
 intro pins s σ H Q I h;refine wpAny_Call_Name_kw (aT2 I hg hm ?_ hdb);exact PySem.W.callWith_K0 I.kIn hk<|bG9 (us:=[]) F hr hb hd hx I .nil h
end
structure FnScope (N P:List Str) (sc:Scope):Prop where
 kind:sc.kind=.function
 co:sc.isCoroutine=false
 gen:sc.isGenerator=false
 nd:N.Nodup
 pre:N.take P.length=P
 par:∀x∈P,sc.names.lookup x=Z .local\/sc.names.lookup x=Z .cell
 nofree:∀y∈sc.names,y.2≠.free
theorem aO8{kindOf:Str->Option NameKind}{x:Str}:∀{binds:List (Str×fR)}{m:Str->Option fR},(∀v,(x,v)∉binds)->bindL kindOf binds m x=m x
 | [],_,_=>rfl
 | (n,v)::r,m,h=>by
  unfold bindL;rw[aO8 λw hw=>h w (xmm _ hw)];split
  .have:x≠n:=by rintro rfl;exact h v ae
   simp[this]
  .rfl
theorem aP0{kindOf:Str->Option NameKind}{x:Str}:∀{binds:List (Str×fR)}{m:Str->Option fR},(∀v,(x,v)∉binds)->bindC kindOf binds m x=m x
 | [],_,_=>rfl
 | (n,v)::r,m,h=>by
  unfold bindC;rw[aP0 λw hw=>h w (xmm _ hw)];split
  .rfl
  .have:x≠n:=by rintro rfl;exact h v ae
   simp[this]
theorem aO9{kindOf:Str->Option NameKind}{x:Str}{v:fR}:∀{P:List Str}{vs:List fR}{i:Nat}{m:Str->Option fR},P.Nodup->P[i]? = Z x->vs[i]? = Z v->kindOf x=Z .local ->
  bindL kindOf (P.zip vs) m x=Z v
 | [],_,_,_,_,h,_,_=>by simp at h
 | _::_,[],_,_,_,_,h,_=>by simp at h
 | p::P,w::vs,0,m,nd,h1,h2,hk=>by
  simp at h1 h2;subst h1;subst h2;show bindL kindOf ((p,w)::P.zip vs) m p=_;unfold bindL;rw[aO8 λv hv=>(be.mp nd).1 (dZ hv).1,if_pos hk];simp
 | p::P,w::vs,i+1,m,nd,h1,h2,hk=>by
  show bindL kindOf ((p,w)::P.zip vs) m x=_;unfold bindL;exact aO9 (i:=i) (be.mp nd).2 (by simpa using h1) (by simpa using h2) hk
theorem aP1{kindOf:Str->Option NameKind}{x:Str}{v:fR}:∀{P:List Str}{vs:List fR}{i:Nat}{m:Str->Option fR},P.Nodup->P[i]? = Z x->vs[i]? = Z v->kindOf x≠Z .local ->
  bindC kindOf (P.zip vs) m x=Z v
 | [],_,_,_,_,h,_,_=>by simp at h
 | _::_,[],_,_,_,_,h,_=>by simp at h
 | p::P,w::vs,0,m,nd,h1,h2,hk=>by
  simp at h1 h2;subst h1;subst h2;show bindC kindOf ((p,w)::P.zip vs) m p=_;unfold bindC;rw[aP0 λv hv=>(be.mp nd).1 (dZ hv).1,if_neg hk];simp
 | p::P,w::vs,i+1,m,nd,h1,h2,hk=>by
  show bindC kindOf ((p,w)::P.zip vs) m x=_;unfold bindC;exact aP1 (i:=i) (be.mp nd).2 (by simpa using h1) (by simpa using h2) hk
noncomputable def x6(N:List Str)(vs:List V):St:=vs.map Z++aB (N.length - vs.length) O
noncomputable def bl7(CX:CXT)(P:fh)(w:World)(K:ad)(mg:Str->Option fR)(base:Heap)(N:List Str)(qual:Str)(scope:Scope)(f:fT)(cd:fR)(A:fi)(outer:List Env)(s:fS)(H:Hp)(E:XK):Cx where
 prog:=P
 w:=w
 K:=K
 mg:=mg
 base:=base
 A:=A.deeper<|envOfC qual scope s.heap.objs.size f cd
 N:=N
 s₀:=s
 H₀:=H
 env:=envOfC qual scope s.heap.objs.size f cd
 outer:=outer
 stack:=envOfC qual scope s.heap.objs.size f cd::outer
 ex:=[]
 calm:=true
 fn:=λ_=>true
 pn:=[]
 xe:=λe s'=>fD (fE P w) (A.deeper<|envOfC qual scope s.heap.objs.size f cd) (leaving (envOfC qual scope s.heap.objs.size f cd) e) (λ_ s''=>CX outer H s E e s'') (λe' s''=>CX outer H s E e' s'') s'
def be3{sc:Scope}{n:Nat}{x:Str}(h:sc.names.lookup x=Z .cell):∃c,(cellsFrom n sc.names []).lookup x=Z c:=by
 have q:=PySem.W.cellsFrom_some sc.names n [] (.inl h);exact Option.isSome_iff_exists.mp q
def bz2{CX:CXT}{P:fh}{w:World}{K:ad}{mg:Str->Option fR}{base:Heap}{N ps:List Str}{qual:Str}{scope:Scope}{f:fT}{cd:fR}{A:fi}{outer:List Env}{s s1:fS}{H:Hp}{E:XK}{us:List fR}{vs:List V}
  (S:FnScope N ps scope) (hd:A.handled=O) (e0:Env0 P w K mg base A outer s H) (hl:vs.length=ps.length) (r:D8 vs us)
  (x:InCallC s s.heap.objs.size (bindL (envOfC qual scope s.heap.objs.size f cd).kindOf (ps.zip us) λ_=>O) (cellsFrom (s.heap.objs.size+1) scope.names []) (bindC (envOfC qual scope s.heap.objs.size f cd).kindOf (ps.zip us) λ_=>O) s1) :
  Inv (bl7 CX P w K mg base N qual scope f cd A outer s H E) [] (x6 N vs) H s1:=by
 have hpl:ps.length<=N.length:=by have:=congrArg eO S.pre;rw[aA]at this;omega
 obtain⟨h1,tk,rfl,hk⟩:=x.done;have noA:∀b:fT,b∉(bl7 CX P w K mg base N qual scope f cd A outer s H E).ex:=λb z=>absurd (show b∈([]:List fT) from z) (by simp)
 refine⟨⟨e0.mod,S.kind,rfl,rfl,ak _,λy z c h1 h2=>?_,λy hy=>?_,λy c _ h=>?_,λ_=>hd,Around.frames_deeper e0.frames,.inr ⟨rfl,rfl⟩,λb z=>absurd z (noA b),e0.bs,e0.bsz,λb _ _=>noA b,λb z=>absurd z (noA b),e0.funs,e0.frf⟩,
  rfl,e0.bare,Un.kept hk,⟨_,x.toInCall.ns,λi y v h1 h2 h3=>?_⟩,λy c h=>⟨_,x.cell y c h⟩,e0.hok.fresh (ak _),λy c h=>?_,λp hp=>absurd (show p∈([]:List (fT×Obj)) from hp) (by simp),e0.hok.kept hk,?_⟩
 .exact name_of_addr x.apart (PySem.mem_of_lookup h1) (PySem.mem_of_lookup h2)
 .have hy:scope.names.lookup y=Z .cell\/scope.names.lookup y=Z .free:=hy;rcases hy with hy|hy
  .exact be3 hy
  .exact absurd rfl (S.nofree _<|PySem.mem_of_lookup hy)
 .exact cy (x.above y c<|PySem.mem_of_lookup h)
 .have hi:i < vs.length:=by
   unfold x6 at h2;by_cases hi:i < vs.length
   .exact hi
   .rw[aK (by simpa using hi)]at h2;rw[bX]at h2;split at h2<;>cases h2
  have ha:vs[i]? = Z v:=by
   unfold x6 at h2;rw[aV (by simpa using hi),aI]at h2;cases e:vs[i]? with
   | none=>rw[e]at h2;cases h2
   | some a=>rw[e]at h2;cases h2;rfl
  obtain⟨u,hu,rv⟩:=r.get ha;have hp:ps[i]? = Z y:=by rw[← S.pre,List.getElem?_take_of_lt (by omega)];exact h1
  have ndP:ps.Nodup:=by rw[← S.pre];exact S.nd.sublist<|List.take_sublist _ _
  refine⟨u,rv,?_⟩;rcases S.par y (dl hp) with k|k
  .exact .inl ⟨k,aO9 ndP hp hu k⟩
  .obtain⟨c,e⟩:=be3 (n:=s.heap.objs.size+1) k;refine .inr ⟨.inl k,c,e,?_⟩;have q:=x.cell y c e;rw[aP1 ndP hp hu (by show scope.names.lookup y≠_;rw[k];decide)]at q;exact q
 .exact e0.hok.fresh (cy<|x.above y c (PySem.mem_of_lookup h))
 .unfold x6;show _=N.length;rw[ah,aj,cH];omega
def bb3{CX:CXT}{P:fh}{w:World}{K:ad}{mg:Str->Option fR}{base:Heap}{k:Nat}{f:fT}{name qual:Str}{params:Arguments}{body:List Stmt}{scope:Scope}{dV kV doc pm cdv ct oc:fR}{an od:Option fT}
  {osl:Array (Option fR)}{N ps:List Str}{sp:Sp}(lk:K.lookup f=Z ⟨oc,od,.func<|bT name qual params body scope dV kV doc pm an cdv ct,osl⟩) (hcd:cR K cdv qual=true) (S:FnScope N ps scope)
  (len:∀vs H Q E,sp vs H Q E->vs.length=ps.length)
  (hbody:∀(A:fi) (outer:List Env) (s:fS) (H:Hp) (vs:List V) (Q:VK) (E:XK),Room k (A.deeper (envOfC qual scope s.heap.objs.size f cdv))->sp vs H Q E ->
   ∃t,PSs (bl7 CX P w K mg base N qual scope f cdv A outer s H E) body t/\t { nx:=λ_ H'=>Q .non H',rt:=Q } (x6 N vs) H) :
  FnOk P w K mg base CX (k+1) f (bT name qual params body scope dV kV doc pm an cdv ct) ps sp:=by
 refine⟨len,λA outer s H args us vs Q E hr e0 hb r hsp=>?_⟩;have hl:=len _ _ _ _ hsp;have KX:K.In s.heap:=e0.mod.kin.keeps λb o e=>(e0.bs b o e).1
 have lim:s.heap.NoLimit:=e0.mod.nolimit.keeps λb o e=>(e0.bs b o e).1
 have hkind:∀y∈ps.zip us,scope.names.lookup y.1=Z .local\/(scope.names.lookup y.1=Z .cell/\((cellsFrom (s.heap.objs.size+1) scope.names []).lookup y.1).isSome=true):=λ⟨n,v⟩ hy=>by
  rcases S.par n (dZ hy).1 with q|q
  .exact .inl q
  .exact .inr ⟨q,PySem.W.cellsFrom_some _ _ _<|.inl q⟩
 refine codeAny_call_function hr.depth (KX _ _ lk) rfl S.co S.gen rfl (PySem.W.codeRec_of KX hcd) (hb _ _ _ _ ?_);refine wpAny_newFunctionEnv_cells S.kind hkind λenv he s1 x=>?_
 subst he;refine⟨lim.keeps x.toInCall.keep,codeAny_func ?_⟩;obtain⟨t,ht,hq⟩:=hbody A outer s H vs Q E (hr.deeper _) hsp;have I:Inv (bl7 CX P w K mg base N qual scope f cdv A outer s H E) [] (x6 N vs) H s1:=bz2 S hr.hd e0 hl r x;refine eU (ht [] s1 (x6 N vs) H _ I hq) (λfl s' hs=>?_) λe s' hs=>hs
 have fin:∀{σ':St}{H':Hp}{v:V}{u:fR},Inv (bl7 CX P w K mg base N qual scope f cdv A outer s H E) [] σ' H' s'->E4 v u->Q v H'->CE outer P w H s Q u s' :=
  λ{σ' H' v u} J rv q=>⟨v,H',J.os,J.bare,J.base,J.hok,rv,q⟩
 cases fl with
 | ret u =>
  obtain⟨v,σ',H',J,rv,q⟩:=hs;exact fin J rv q
 | next =>
  obtain⟨σ',H',J,q⟩:=hs;exact fin (v:=V.non) (u:=fP) J rfl q
 | brk =>
  obtain⟨_,_,_,q⟩:=hs;exact False.elim q
 | cont =>
  obtain⟨_,_,_,q⟩:=hs;exact False.elim q
section
variable {X:Cx}{x:Str}{p pos:Pos}{e:Expr}{es:List Expr}{t:TA}{id T:String}{r:List V->Hp->VK->Prop}
noncomputable def tCB(r:List V->Hp->VK->Prop)(t:TA):TE:=λσ H Q=>t σ H λvs H1=>r vs H1 Q
def N7(hc:U2 X (.builtin id) r)(hg:Gl X x)(hm:X.mg x=O)(hv:fk x=Z (.builtin id))(ha:PA X (e::es) t)(hn:x ≠ "__name__" := by decide)(hdb:(x==("__debug__" : Str))=false:=by decide)
  (he:fb (e::es) X.env=(false,eval e X.env)::fb es X.env:=by rfl) (hpl:(backTo pos<|fb es X.env).any (·.1)=false:=by rfl):PE X (.Call (.Name x p) (e::es) [] pos) (tCB r t):=by
 intro pins s σ H Q I h;refine wpAny_Call_Name_kw (aF6 I hg hm hv ?_ hn hdb);exact PyProof.Rows.callWith_builtin1 (thn (ha pos pins s σ H _ I h) λus s1 ⟨vs,H1,I1,r1,q1⟩=>hc pins s1 σ H1 vs us Q I1 r1 q1) he hpl
def j4(hc:U2 X (.type T) r)(hg:Gl X x)(hm:X.mg x=O)(hv:fk x=Z (.type T))(ha:PA X (e::es) t)(hn:x ≠ "__name__" := by decide)(hdb:(x==("__debug__" : Str))=false:=by decide)
  (he:fb (e::es) X.env=(false,eval e X.env)::fb es X.env:=by rfl) (hpl:(backTo pos<|fb es X.env).any (·.1)=false:=by rfl):PE X (.Call (.Name x p) (e::es) [] pos) (tCB r t):=by
 intro pins s σ H Q I h;refine wpAny_Call_Name_kw (aF6 I hg hm hv ?_ hn hdb);exact PyProof.Rows.callWith_type1 (thn (ha pos pins s σ H _ I h) λus s1 ⟨vs,H1,I1,r1,q1⟩=>hc pins s1 σ H1 vs us Q I1 r1 q1) he hpl
end
end L2
namespace HT
open PySem PyProof.Rows
section
variable {prog:Program}{w:World}{A:Around}{E:Value->Shared->Prop}{s:Shared}
def cat_tup(ht:IsTup s.heap t vs.toArray)(hb:IsTup s.heap b ws.toArray)(hv:vs≠[])
  (h1:ws=[]->Q (.ref t) s) (h2:ws≠[]->Q (.ref s.heap.objs.size) { s with heap:=s.heap.push { cls:=.type "tuple", data:=.seq (vs++ws).toArray } })
  (hsz:vs.length+ws.length<=fc):fD (fE prog w) A (fo .Add (.ref t)<|.ref b) Q E s:=by
 obtain⟨⟨cls,dd,data,sl⟩,ho,hc,n,hd⟩:=id ht;obtain⟨⟨cls2,dd2,data2,sl2⟩,ho2,hc2,n2,hd2⟩:=id hb;simp only at hc hd hc2 hd2;subst hc hd hc2 hd2;have e:vs.toArray++ws.toArray=(vs++ws).toArray:=by simp
 by_cases hw:ws=[]
 .exact concat_meets ⟨_,ho,rfl⟩ ⟨_,ho2,rfl⟩ noFill_tuple_add seq_tuple_add PySem.F.slot_tuple_add PySem.F.entry_tuple_add (PySem.F.args_tuple_add_2 _ _)
   (tuple_addW1 t b vs.toArray ws.toArray n n2 dd dd2 sl sl2 (by simpa using hv)<|by simp[hw]) ⟨ho,ho2,h1 hw⟩
 .refine concat_meets ⟨_,ho,rfl⟩ ⟨_,ho2,rfl⟩ noFill_tuple_add seq_tuple_add PySem.F.slot_tuple_add PySem.F.entry_tuple_add (PySem.F.args_tuple_add_2 _ _)
   (tuple_addW2 t b vs.toArray ws.toArray n n2 dd dd2 sl sl2 (by simpa using hv) (by simpa using hw) (by rw[aw,aw];exact hsz)) ⟨ho,ho2,?_⟩
  rw[e];exact h2 hw
noncomputable def sIx(n d:Nat):Option Int->Nat
 | none=>d
 | some v=>if v < 0 then(v+(n:Int)).toNat else min v.toNat n
def sIx_none(n d:Nat):sIx n d O=d:=rfl
def sIx_nat(n d k:Nat):sIx n d (Z (k:Int))=min k n:=by
 show(if(k:Int) < 0 then((k:Int)+(n:Int)).toNat else min (k:Int).toNat n)=min k n;rw[if_neg (by omega),bu]
def cv2(n d:Nat)(hd:d<=n)(o:Option Int):sIx n d o<=n:=by
 cases o with
 | none=>exact hd
 | some v =>
  show(if v < 0 then(v+(n:Int)).toNat else min v.toNat n)<=n;by_cases hv:v < 0
  .rw[if_pos hv];omega
  .rw[if_neg hv];exact dL _ _
def bt9(v:Int)(n d:Nat):(if v < 0 then max (v+(n:Int)) 0 else min v (n:Int))=((sIx n d (Z v):Nat):Int):=by
 show(if v < 0 then max (v+(n:Int)) 0 else min v (n:Int))=(((if v < 0 then(v+(n:Int)).toNat else min v.toNat n):Nat):Int);by_cases hv:v < 0
 .simp only[if_pos hv];omega
 .simp only[if_neg hv];omega
def bm7(lo hi:Option Int)(n:Nat):Builtin.Slice.sliceAdjust lo hi 1 (n:Int)=(((sIx n 0 lo:Nat):Int),((sIx n n hi:Nat):Int)):=by
 have h1:¬((1:Int) < 0):=by omega
 unfold Builtin.Slice.sliceAdjust;simp only[h1,if_false];refine Prod.ext ?_ ?_
 .cases lo with
  | none=>rfl
  | some v=>exact bt9 v n 0
 .cases hi with
  | none=>rfl
  | some v=>exact bt9 v n n
def bh8(i j:Nat):Builtin.Slice.slicePlaces (i:Int) (j:Int) 1=j - i:=by
 unfold Builtin.Slice.slicePlaces;have h1:(1:Int) > 0:=by omega
 simp only[h1,if_true,Int.ediv_one];split<;>omega
def aD8(p:IsPart v o)(h:Q o s):fD (fE prog w) A (Builtin.Slice.slicePartIndex v) Q E s:=by
 cases p with
 | none=>exact slicePart_none h
 | int i t=>exact slicePart_int h
def sliceApplied_gen{sl:fT}{vl vu:fR}{lo hi:Option Int}{n:Nat}{Q:Int×Int×Nat->fS->Prop}(hs:s.heap.IsSliceOf sl vl vu .none)(pl:IsPart vl lo)(pu:IsPart vu hi)
  (h:Q (((sIx n 0 lo:Nat):Int),1,sIx n n hi - sIx n 0 lo) s):fD (fE prog w) A (Builtin.Slice.sliceApplied (.ref sl)<|pure (n:Int)) Q E s:=by
 obtain⟨os,hos,hcs,hds⟩:=id hs;unfold Builtin.Slice.sliceApplied Builtin.Slice.sliceFields;refine eS (eS<|eY hos hds (x:=vl) rfl (eS<|eY hos hds (x:=vu) rfl (eS<|eY hos hds (x:=.none) rfl (eT ?_))));refine eS (slicePart_none ?_);show fD _ _ (if((1:Int)==0)=true then _ else _) _ _ s;rw[if_neg (by decide)];refine eS (aD8 pl<|eS (aD8 pu<|eS (eT ?_)));show fD _ _ (match Builtin.Slice.sliceAdjust lo hi 1 (n:Int) with|(lo,hi)=>pure (lo,(1:Int),Builtin.Slice.slicePlaces lo hi 1)) _ _ s;rw[bm7 lo hi n];show fD _ _ (pure (((sIx n 0 lo:Nat):Int),(1:Int),Builtin.Slice.slicePlaces ((sIx n 0 lo:Nat):Int) ((sIx n n hi:Nat):Int) 1)) _ _ s;rw[bh8];exact eT h
def bI6(xs:Array fR)(i k:Nat):((az k).filterMap λ(m:Nat)=>xs[((i:Int)+(m:Int)*1).toNat]?).toArray=((xs.toList.drop i).take k).toArray:=by
 have e:(λ(m:Nat)=>xs[((i:Int)+(m:Int)*1).toNat]?)=λm=>xs[i+m]?:=by
  funext m
  have:((i:Int)+(m:Int)*1).toNat=i+m:=by omega
  rw[this]
 rw[e];have:=pick_run xs i k;rw[List.filterMap_map]at this;have e2:((λx=>xs[x]?) ∘ λx=>i+x)=λm=>xs[i+m]?:=rfl
 rw[e2]at this;rw[this]
def getItem_tuple_cut{t sl:fT}{items:Array fR}{vl vu:fR}{lo hi:Option Int}{Q:fR->fS->Prop}(ht:IsTup s.heap t items)(hs:s.heap.IsSliceOf sl vl vu .none)(pl:IsPart vl lo)(pu:IsPart vu hi)
  (hw:¬(sIx items.size 0 lo=0/\sIx items.size items.size hi=items.size))
  (h:Q (.ref s.heap.objs.size) { s with heap:=s.heap.push { cls:=.type "tuple", data:=.seq ((items.toList.drop<|sIx items.size 0 lo).take<|sIx items.size items.size hi - sIx items.size 0 lo).toArray } })
  (hsz:items.size<=fc):fD (fE prog w) A (getItem (.ref t)<|.ref sl) Q E s:=by
 have htake:sizeOk (.seq ((items.toList.drop<|sIx items.size 0 lo).take<|sIx items.size items.size hi - sIx items.size 0 lo).toArray):=by
  show((items.toList.drop<|sIx items.size 0 lo).take<|sIx items.size items.size hi - sIx items.size 0 lo).toArray.size<=fc;rw[aw,aA,aS,aY];omega
 have hj:sIx items.size items.size hi<=items.size:=cv2 _ _ (ak _) hi;obtain⟨os,hos,hcs,hds⟩:=id hs;have hTs:s.TypeIs (.ref sl) "slice" := ⟨os,hos,hcs⟩;unfold getItem
 try with_reducible refine wpAny_holding ?_
 first|refine eS (eT ?_)|skip
 refine eS (wpAny_sequenceKey ht.typeIs (by decide) ?_)
 refine eS (wpAny_callSpecial?_slot (name:=Str.ofString "__getitem__") ht.typeIs PyProof.Rows.slot_tuple_getitem
  (wpAny_call_entry PyProof.Rows.slot_tuple_getitem ht.typeIs entry_tuple_getitem ?_ (args_tuple_getitem _ _)))
 show fD _ _ (Builtin.Tuple.tupleItemsOf (.ref t) >>= _) _ _ s;refine eS (tupleItemsOf_ ht ?_);refine eS (wpAny_typeOf hTs ?_);rw[if_pos (by decide)];refine eS<|sliceApplied_gen hs pl pu ?_
 have hno:¬((((sIx items.size 0 lo:Nat):Int)==0&&(1:Int)==1&&(sIx items.size items.size hi - sIx items.size 0 lo)==items.size)=true):=by
  intro q;rw[ar,ar]at q;have q1:((sIx items.size 0 lo:Nat):Int)=0:=eq_of_beq q.1.1;have q2:sIx items.size items.size hi - sIx items.size 0 lo=items.size:=eq_of_beq q.2;exact hw ⟨by omega,by omega⟩
 show fD _ _ (if(((sIx items.size 0 lo:Nat):Int)==0&&(1:Int)==1&&(sIx items.size items.size hi - sIx items.size 0 lo)==items.size)=true then _ else _) _ _ s;rw[if_neg hno,bI6]
 first
  | exact eS (m:=Builtin.Tuple.tupleExact _)<|eV (eT ⟨_,rfl,eT h⟩) htake
  | exact eS (m:=Builtin.Tuple.tupleExact _)<|eV (eS<|eT (eT ⟨_,rfl,eT h⟩)) htake
  | exact eS<|eS (m:=Builtin.Tuple.tupleExact _) (eV (eT<|eT ⟨_,rfl,eT h⟩) htake)
  | exact eS<|eS (m:=Builtin.Tuple.tupleExact _) (eV (eT ⟨_,rfl,eT h⟩) htake)
end
end HT
namespace L2
open PySem PySem.Spec PyProof.Rows
noncomputable abbrev TO:=St->Hp->(Option Int->Hp->Prop)->Prop
noncomputable def PO(X:Cx)(e:Option Expr)(t:TO):Prop :=
 ∀(pins:List (fT×Obj)) (s:fS) (σ:St) (H:Hp) (Q:Option Int->Hp->Prop),Inv X pins σ H s->t σ H Q ->
  fD (fE X.prog X.w) X.A (evalPart e X.env) (λu s'=>∃o H',Inv X pins σ H' s'/\IsPart u o/\Q o H') X.xe s
noncomputable def bY9:TO:=λ_ H Q=>Q O H
noncomputable def cN5(t:TE):TO:=λσ H Q=>t σ H λx H1=>∃i,x=.int i/\Q (Z i) H1
section
variable {X:Cx}{e:Expr}{te:TE}{lo hi:Option Expr}{tl th:TO}{pos p2:Pos}
def cb2:PO X O bY9:=by
 intro pins s σ H Q I h;rw[evalPart_none];exact eT ⟨O,H,I,.none,h⟩
def cb1(h:PE X e te):PO X (Z e) (cN5 te):=by
 intro pins s σ H Q I hw;rw[evalPart_some];refine thn (h pins s σ H _ I hw) λu s1 ⟨x,H1,I1,r1,q1⟩=>?_
 obtain⟨i,rfl,q⟩:=q1;obtain⟨t,rfl⟩:=r1;exact⟨Z i,H1,I1,.int i t,q⟩
noncomputable def SlR(X:Cx)(r:V->Option Int->Option Int->Hp->VK->Prop):Prop :=
 ∀(pins:List (fT×Obj)) (s:fS) (σ:St) (H:Hp) (x:V) (v vl vu:fR) (lo hi:Option Int) (sl:fT) (Q:VK),Inv X pins σ H s->E4 x v->s.heap.IsSliceOf sl vl vu .none->IsPart vl lo->IsPart vu hi->r x lo hi H Q ->
  ∃T id,typeLookup (.type T) "__getitem__" = pure (Z<|.builtin id)/\s.TypeIs v T/\fD (fE X.prog X.w) X.A (getItem v<|.ref sl) (EP X pins σ Q) X.xe s
def SlR.or(h:SlR X r)(h':SlR X r'):SlR X (λx lo hi H Q=>r x lo hi H Q\/r' x lo hi H Q):=by
 intro pins s σ H x v vl vu lo hi sl Q I rx hs pl pu q;rcases q with q|q
 .exact h pins s σ H x v vl vu lo hi sl Q I rx hs pl pu q
 .exact h' pins s σ H x v vl vu lo hi sl Q I rx hs pl pu q
noncomputable def tSl(r:V->Option Int->Option Int->Hp->VK->Prop)(te:TE)(tl th:TO):TE:=λσ H Q=>te σ H λx H1=>tl σ H1 λl H2=>th σ H2 λu H3=>r x l u H3 Q
def ap3(hr:SlR X r)(he:PE X e te)(hl:PO X lo tl)(hu:PO X hi th):PE X (.Subscript e (.Slice lo hi O p2) pos) (tSl r te tl th):=by
 intro pins s σ H Q I h;refine Subscript_ (thn (he pins s σ H _ I h) λv s1 ⟨x,H1,I1,r1,q1⟩=>?_);refine wpAny_Slice (thn (hl pins s1 σ H1 _ I1 q1) λvl s2 ⟨l,H2,I2,pl,q2⟩=>thn (hu pins s2 σ H2 _ I2 q2) λvu s3 ⟨u,H3,I3,pu,q3⟩=>?_);rw[evalPart_none];refine eT ?_;have I4:Inv X pins σ H3 { s3 with heap:=s3.heap.push { cls:=.type "slice", data:=.fields #[vl,vu,.none] } }:=I3.kept (t':=s3.toks) λb ob q=>fF _ q
 obtain⟨T,id,hT,ht,hg⟩:=hr pins { s3 with heap:=s3.heap.push { cls:=.type "slice", data:=.fields #[vl,vu,.none] } } σ H3 x v vl vu l u s3.heap.objs.size Q I4 r1 (Heap.IsSliceOf.new ..) pl pu q3;show fD (fE X.prog X.w) X.A (subscriptTail e (.Slice lo hi O p2) v<|.ref s3.heap.objs.size) (EP X pins σ Q) X.xe { s3 with heap:=s3.heap.push { cls:=.type "slice", data:=.fields #[vl,vu,.none] } };exact tail_any (ops:=[.ref s3.heap.objs.size,v]) ht hT hg (by with_unfolding_all rfl)
noncomputable def be0(xs:List V)(lo hi:Option Int):List V:=(xs.drop<|HT.sIx xs.length 0 lo).take<|HT.sIx xs.length xs.length hi - HT.sIx xs.length 0 lo
def az0(xs:List V)(lo hi:Option Int):(be0 xs lo hi).length<=xs.length:=by
 unfold be0;rw[aA,aS];omega
noncomputable def cZ9(K:ad):V->Option Int->Option Int->Hp->VK->Prop:=λx lo hi H Q=>∃a xs,x=.ref a/\SqT K H a xs /\
 ¬(HT.sIx xs.length 0 lo=0/\HT.sIx xs.length xs.length hi=xs.length)/\∀p,H p=O->Q (.ref p) (upd H p<|.tup (be0 xs lo hi))
def cv1:SlR X (cZ9 X.K):=by
 intro pins s σ H x v vl vu lo hi sl Q I rx hs pl pu h;obtain⟨a,xs,rfl,hx,hw,q⟩:=h;cases rx;obtain⟨its,r,ht,hz⟩:=I.tuple hx;have hlen:its.toArray.size=xs.length:=by rw[aw];exact r.length.symm
 refine⟨"tuple", _,PyProof.Rows.slot_tuple_getitem.lookup,ht.typeIs,?_⟩;refine HT.getItem_tuple_cut ht hs pl pu (by rw[hlen];exact hw) ?_ (by rw[hlen];exact hz);rw[hlen];refine⟨.ref s.heap.objs.size,_,I.laid (t':=s.toks) (o:=.tup<|be0 xs lo hi) (λb ob q=>fF _ q) (ak _) ?_,rfl,q _<|I.hok.fresh (ak _)⟩;exact⟨aQ (az0 xs lo hi) hz,_,(r.drop<|HT.sIx xs.length 0 lo).take<|HT.sIx xs.length xs.length hi - HT.sIx xs.length 0 lo,aJ2.new _ _⟩
noncomputable def cP4(K:ad):R2:=λx y H Q=>∃a b xs ys,x=.ref a/\y=.ref b/\SqT K H a xs/\SqT K H b ys/\xs≠[]/\xs.length+ys.length<=fc /\
 (ys=[]->Q (.ref a) H)/\(ys≠[]->∀p,H p=O->Q (.ref p) (upd H p<|.tup (xs++ys)))
def D8.nil_iff(r:D8 xs us):us=[]↔xs=[]:=by
 cases r with
 | nil=>simp
 | cons _ _=>simp
def cc9:OpR X (fo .Add) (cP4 X.K):=by
 intro pins s σ H x y v u Q I rx ry h;obtain⟨a,b,xs,ys,rfl,rfl,ha,hb,hx,hz,q1,q2⟩:=h;cases rx;cases ry;obtain⟨its,r1,p1,_⟩:=I.tuple ha;obtain⟨its2,r2,p2,_⟩:=I.tuple hb;refine HT.cat_tup p1 p2 (λz=>hx<|r1.nil_iff.mp z) (λz=>⟨.ref a,H,I,rfl,q1<|r2.nil_iff.mp z⟩) (λz=>?_) (by rw[← r1.length,← r2.length];exact hz);refine⟨.ref s.heap.objs.size,_,I.laid (t':=s.toks) (o:=.tup<|xs++ys) (λb ob q=>fF _ q) (ak _) ?_,rfl,q2 (λw=>z<|r2.nil_iff.mpr w) _<|I.hok.fresh (ak _)⟩;exact⟨by rw[ah];exact hz,_,r1.append r2,aJ2.new _ _⟩
end
noncomputable def ixN(n:Nat)(i:Int):Option Nat:=if 0<=i then(if i < n then Z i.toNat else O) else if -(n:Int)<=i then Z (i+n).toNat else O
noncomputable def atI{α:Type}(xs:List α)(i:Int):Option α:=(ixN xs.length i).bind λj=>xs[j]?
def ci3(h:ixN n i=Z j):seqIndex? i n=Z j/\j < n/\-(n:Int)<=i/\i < n:=by
 unfold ixN at h;by_cases h0:0<=i
 .rw[if_pos h0]at h;by_cases h1:i < n
  .rw[if_pos h1]at h;have e:i.toNat=j:=bq.inj h;exact⟨by rw[seqIndex_of h0 h1,e],by omega,by omega,h1⟩
  .rw[if_neg h1]at h;cases h
 .rw[if_neg h0]at h;by_cases h1:-(n:Int)<=i
  .rw[if_pos h1]at h;have e:(i+n).toNat=j:=bq.inj h;exact⟨by rw[seqIndex_neg (by omega) h1,e],by omega,h1,by omega⟩
  .rw[if_neg h1]at h;cases h
def aV9{α:Type}{xs:List α}{i:Int}{v:α}(h:atI xs i=Z v):∃j,seqIndex? i xs.length=Z j/\xs[j]? = Z v/\j < xs.length/\-(xs.length:Int)<=i/\i < xs.length:=by
 unfold atI at h;cases e:ixN xs.length i with
 | none=>rw[e]at h;cases h
 | some j =>
  rw[e]at h;obtain⟨h1,h2,h3,h4⟩:=ci3 e;exact⟨j,h1,h,h2,h3,h4⟩
def P8{α:Type}{xs:List α}{j:Nat}{v:α}(h:xs[j]? = Z v):atI xs (j:Int)=Z v:=by
 have hj:j < xs.length:=(ao.mp h).1
 have e:ixN xs.length (j:Int)=Z j:=by
  unfold ixN;rw[if_pos (by omega),if_pos (by omega)];simp
 unfold atI;rw[e];exact h
noncomputable def as3(b:Expr):Prop:=∀o i,subscripted b false o i=operate [o,i] (getItem o i)
noncomputable def IxR(X:Cx)(r:R2):Prop :=
 ∀(value slice:Expr) (pins:List (fT×Obj)) (s:fS) (σ:St) (H:Hp) (x y:V) (v u:fR) (Q:VK),Inv X pins σ H s->E4 x v->E4 y u->r x y H Q ->
  subscripted slice false v u=operate [v,u] (getItem v u)->fD (fE X.prog X.w) X.A (subscriptTail value slice v u) (EP X pins σ Q) X.xe s
noncomputable def MtR(X:Cx)(id:String)(r:V->List V->Hp->VK->Prop):Prop :=
 ∀(pins:List (fT×Obj)) (s:fS) (σ:St) (H:Hp) (x:V) (xs:List V) (v:fR) (us:List fR) (Q:VK),Inv X pins σ H s->E4 x v->D8 xs us->r x xs H Q ->
  fD (fE X.prog X.w) X.A (call (.builtin id) (v::us)) (EP X pins σ Q) X.xe s
section
variable {X:Cx}{a b:Expr}{ta tb:TE}{pos:Pos}
def IxR.or(h:IxR X r)(h':IxR X r'):IxR X (λx y H Q=>r x y H Q\/r' x y H Q):=by
 intro value slice pins s σ H x y v u Q I rx ry q hs;rcases q with q|q
 .exact h value slice pins s σ H x y v u Q I rx ry q hs
 .exact h' value slice pins s σ H x y v u Q I rx ry q hs
def co1(hr:IxR X r)(ha:PE X a ta)(hb:PE X b tb)(hs:as3 b):PE X (.Subscript a b pos) (tOp r ta tb):=by
 intro pins s σ H Q I h;exact Subscript_<|cJ6 ha hb I h λv u s2 x y H2 I2 rx ry q=>hr a b pins s2 σ H2 x y v u Q I2 rx ry q<|hs _ _
noncomputable def cP3(K:ad):R2:=λx y H Q=>∃p xs i v,x=.ref p/\y=.int i/\SqL K H p xs/\atI xs i=Z v/\Q v H
noncomputable def cP1(K:ad):R2:=λx y H Q=>∃p xs i v,x=.ref p/\y=.int i/\SqT K H p xs/\atI xs i=Z v/\Q v H
noncomputable def cP2:R2:=λx y H Q=>∃z i c,x=.str z/\y=.int i/\z.length<=fc/\atI z.cps.toList i=Z c/\Q (.str ⟨#[c]⟩) H
def ci2:IxR X (cP3 X.K):=by
 intro value slice pins s σ H x y v u Q I rx ry h hs;obtain⟨p,xs,i,z,rfl,rfl,hq,he,q⟩:=h;cases rx;obtain⟨t,rfl⟩:=ry;obtain⟨its,r,pl,hz⟩:=I.list hq;obtain⟨j,h1,h2,h3,h4,h5⟩:=aV9 he;obtain⟨w,ew,rw'⟩:=r.get h2;have hl:=r.length;have hn:=am2;have fin:EP X pins σ Q w s:=⟨z,H,I,rw',q⟩;by_cases h0:0<=i
 .have hj:i.toNat=j:=by
   rw[seqIndex_of h0 h5]at h1;exact bq.inj h1
  exact item_listR pl.isList h0 (by omega) (by rw[hj];simpa using ew) fin hs
 .have hj:(i+(its.toArray.size:Int)).toNat=j:=by
   rw[seqIndex_neg (by omega) h4]at h1;rw[aw,← hl];exact bq.inj h1
  exact subscriptTail_builtinR (x:=w) pl.isList.typeIs slot_list_getitem.lookup
   (wpAny_getItem_list_neg (Q:=λr s'=>r=w/\EP X pins σ Q r s') pl.isList (by omega) (by rw[aw]<;>omega) (by omega) (by rw[hj];simpa using ew) ⟨rfl,fin⟩) hs
def cG8:IxR X (cP1 X.K):=by
 intro value slice pins s σ H x y v u Q I rx ry h hs;obtain⟨p,xs,i,z,rfl,rfl,hq,he,q⟩:=h;cases rx;obtain⟨t,rfl⟩:=ry;obtain⟨its,r,pl,hz⟩:=I.tuple hq;obtain⟨j,h1,h2,h3,h4,h5⟩:=aV9 he;obtain⟨w,ew,rw'⟩:=r.get h2;have hl:=r.length;have hn:=am2;have fin:EP X pins σ Q w s:=⟨z,H,I,rw',q⟩
 exact subscriptTail_builtinR (x:=w) pl.typeIs slot_tuple_getitem.lookup
  (getItem_tuple (j:=j) (Q:=λr s'=>r=w/\EP X pins σ Q r s') pl (by omega) (by omega) (by rw[aw,← hl];exact h1) (by simpa using ew) ⟨rfl,fin⟩) hs
def cG9:IxR X cP2:=by
 intro value slice pins s σ H x y v u Q I rx ry h hs;obtain⟨z,i,c,rfl,rfl,hz,he,q⟩:=h;obtain⟨t,rfl⟩:=rx;obtain⟨t',rfl⟩:=ry;obtain⟨j,h1,h2,h3,h4,h5⟩:=aV9 he;have hl:z.cps.toList.length=z.length:=by simp[Str.length]
 rw[hl]at h1 h4 h5;have hn:=am2
 exact tail_any (typeIs_str s z t) slot_str_getitem.lookup (getItem_str (c:=c) (by
  have e1:decide (i < -(2 ^ 63:Int))=false:=decide_eq_false (by omega);have e2:decide (i ≥ 2 ^ 63)=false:=decide_eq_false (by omega)
  rw[e1,e2,Bool.or_false]) (by rw[h1];simpa using h2) ⟨.str ⟨#[c]⟩,H,I.tok _,⟨_,rfl⟩,q⟩) hs
noncomputable def rIx(K:ad):R2:=λx y H Q=>cP3 K x y H Q\/cP1 K x y H Q\/cP2 x y H Q
def bP6:IxR X (rIx X.K):=ci2.or<|cG8.or cG9
def ao6(lo hi:Option Int)(n:Nat):(sliceBounds lo hi O n).1=((HT.sIx n 0 lo:Nat):Int)/\(sliceBounds lo hi O n).2.1=((HT.sIx n n hi:Nat):Int)/\(sliceBounds lo hi O n).2.2=1:=by
 refine⟨?_,?_,rfl⟩
 .cases lo with
  | none=>simp[sliceBounds,HT.sIx]
  | some i =>
   simp only[sliceBounds,HT.sIx,Option.getD_none,show(1:Int) > 0 by decide,if_true];by_cases h:i < 0
   .simp only[h,if_true]<;>omega
   .simp only[h,if_false]<;>omega
 .cases hi with
  | none=>simp[sliceBounds,HT.sIx]
  | some i =>
   simp only[sliceBounds,HT.sIx,Option.getD_none,show(1:Int) > 0 by decide,if_true];by_cases h:i < 0
   .simp only[h,if_true]<;>omega
   .simp only[h,if_false]<;>omega
def aK5(its:List fR)(lo hi:Option Int):slicePick its.toArray lo hi O=((its.drop<|HT.sIx its.length 0 lo).take<|HT.sIx its.length its.length hi - HT.sIx its.length 0 lo).toArray:=by
 obtain⟨h1,h2,h3⟩:=ao6 lo hi its.toArray.size;unfold slicePick;rw[h1,h2,h3];simp only[sliceRange_one,pick_run,aw]<;>rfl
noncomputable def da0(K:ad):V->Option Int->Option Int->Hp->VK->Prop:=λx lo hi H Q=>∃a xs,x=.ref a/\SqL K H a xs/\∀p,H p=O->Q (.ref p) (upd H p<|.lst (be0 xs lo hi))
def bo4:SlR X (da0 X.K):=by
 intro pins s σ H x v vl vu lo hi sl Q I rx hs pl pu h;obtain⟨a,xs,rfl,hx,q⟩:=h;cases rx;obtain⟨its,r,ht,hz⟩:=I.list hx;have hlen:=r.length;refine⟨"list", _,slot_list_getitem.lookup,ht.isList.typeIs,?_⟩;refine wpAny_getItem_list_slice ht.isList hs pl pu .none (by simp) ?_ (by rw[aw]<;>omega);rw[aK5,← hlen];refine⟨.ref s.heap.objs.size,_,I.laid (t':=s.toks) (o:=.lst<|be0 xs lo hi) (λb ob q=>fF _ q) (ak _) ?_,rfl,q _<|I.hok.fresh (ak _)⟩;exact⟨aQ (az0 xs lo hi) hz,_,0,(r.drop<|HT.sIx xs.length 0 lo).take<|HT.sIx xs.length xs.length hi - HT.sIx xs.length 0 lo,fH _ rfl⟩
noncomputable def ak7:V->Bool
 | .non=>true
 | .bl _=>true
 | .int _=>true
 | .str _=>true
 | _=>false
noncomputable def eqV:V->V->Bool
 | .non,.non=>true
 | .bl a,.bl b=>a==b
 | .bl a,.int b=>(if a then 1 else 0)==b
 | .int a,.bl b=>a==(if b then 1 else 0)
 | .int a,.int b=>a==b
 | .str a,.str b=>a==b
 | _,_=>false
def cI5(ry:E4 y u)(rx:E4 x v)(fy:ak7 y=true)(fx:ak7 x=true):SeqAt.EqAt A s u v (eqV y x):=by
 cases y with
 | non =>
  cases ry;cases x with
  | non=>cases rx;exact SeqAt.EqAt.same _
  | bl b=>cases rx;exact SeqAt.EqAt.none_bool b
  | int b=>obtain⟨t,rfl⟩:=rx;exact SeqAt.EqAt.none_int b t
  | str b=>obtain⟨t,rfl⟩:=rx;exact SeqAt.EqAt.none_str b t
  | _=>exact absurd (show false=true from fx) aF
 | bl a =>
  cases ry;cases x with
  | non=>cases rx;exact SeqAt.EqAt.bool_none a
  | bl b=>cases rx;exact SeqAt.EqAt.bool_bool a b
  | int b=>obtain⟨t,rfl⟩:=rx;exact SeqAt.EqAt.bool_int a b t
  | str b=>obtain⟨t,rfl⟩:=rx;exact SeqAt.EqAt.bool_str a b t
  | _=>exact absurd (show false=true from fx) aF
 | int a =>
  obtain⟨t',rfl⟩:=ry;cases x with
  | non=>cases rx;exact SeqAt.EqAt.int_none a t'
  | bl b=>cases rx;exact SeqAt.EqAt.int_bool a t' b
  | int b=>obtain⟨t,rfl⟩:=rx;exact SeqAt.EqAt.int_int a t' b t
  | str b=>obtain⟨t,rfl⟩:=rx;exact SeqAt.EqAt.int_str a t' b t
  | _=>exact absurd (show false=true from fx) aF
 | str a =>
  obtain⟨t',rfl⟩:=ry;cases x with
  | non=>cases rx;exact SeqAt.EqAt.str_none a t'
  | bl b=>cases rx;exact SeqAt.EqAt.str_bool a t' b
  | int b=>obtain⟨t,rfl⟩:=rx;exact SeqAt.EqAt.str_int a t' b t
  | str b=>obtain⟨t,rfl⟩:=rx;exact SeqAt.EqAt.str_str a t' b t
  | _=>exact absurd (show false=true from fx) aF
 | _=>exact absurd (show false=true from fy) aF
noncomputable def eqU(x:V)(u:fR):Bool:=match u with
 | .none=>eqV .non x
 | .bool b=>eqV (.bl b) x
 | .int i _=>eqV (.int i) x
 | .str z _=>eqV (.str z) x
 | _=>false
def bT0(r:E4 y u)(f:ak7 y=true):eqU x u=eqV y x:=by
 cases y with
 | non=>cases r;rfl
 | bl b=>cases r;rfl
 | int i=>obtain⟨t,rfl⟩:=r;rfl
 | str z=>obtain⟨t,rfl⟩:=r;rfl
 | _=>exact absurd (show false=true from f) aF
theorem ar9:∀{xs:List V}{us:List fR},D8 xs us->xs.all ak7=true->us.any (eqU x)=xs.any λy=>eqV y x
 | _,_,.nil,_=>rfl
 | y::xs,u::us,.cons r t,f=>by
  rw[bE,ar]at f;rw[bF,bF,bT0 r f.1,ar9 t f.2]
theorem ag1(rx:E4 x v)(fx:ak7 x=true):∀{xs:List V}{us:List fR},D8 xs us->xs.all ak7=true->∀u∈us,SeqAt.EqAt A s u v (eqU x u)
 | _,_,.nil,_=>λu hu=>by cases hu
 | y::xs,u::us,.cons r t,f=>λu' hu=>by
  rw[bE,ar]at f;rcases am.mp hu with rfl|hu
  .rw[bT0 r f.1];exact cI5 r rx f.1 fx
  .exact ag1 rx fx t f.2 u' hu
noncomputable def inV(x:V)(xs:List V):Bool:=xs.any λy=>eqV y x
noncomputable def rIn(K:ad)(neg:Bool):R2:=λx y H Q=>∃p xs,y=.ref p/\(SqL K H p xs\/SqT K H p xs)/\ak7 x=true/\xs.all ak7=true/\Q (.bl (if neg then !inV x xs else inV x xs)) H
def bw8:OpR X (ff .In) (rIn X.K false):=by
 intro pins s σ H x y v u Q I rx ry h;obtain⟨p,xs,rfl,hq,fx,fs,q⟩:=h;cases ry;rcases hq with hq|hq
 .obtain⟨its,r,pl,hz⟩:=I.list hq;refine SeqAt.in_listAt (eqU x) pl.isList (λw hw=>ag1 rx fx r fs w<|by simpa using hw) ⟨.bl _,H,I,rfl,?_⟩;rw[show its.toArray.any (eqU x)=its.any (eqU x) by simp,ar9 r fs];exact q
 .obtain⟨its,r,pl,hz⟩:=I.tuple hq;refine SeqAt.in_tupleAt (eqU x) pl (λw hw=>ag1 rx fx r fs w<|by simpa using hw) ⟨.bl _,H,I,rfl,?_⟩;rw[show its.toArray.any (eqU x)=its.any (eqU x) by simp,ar9 r fs];exact q
def aR9:OpR X (ff .NotIn) (rIn X.K true):=by
 intro pins s σ H x y v u Q I rx ry h;obtain⟨p,xs,rfl,hq,fx,fs,q⟩:=h;cases ry;rcases hq with hq|hq
 .obtain⟨its,r,pl,hz⟩:=I.list hq;refine SeqAt.notIn_listAt (eqU x) pl.isList (λw hw=>ag1 rx fx r fs w<|by simpa using hw) ⟨.bl _,H,I,rfl,?_⟩;rw[show its.toArray.any (eqU x)=its.any (eqU x) by simp,ar9 r fs];exact q
 .obtain⟨its,r,pl,hz⟩:=I.tuple hq;refine SeqAt.notIn_tupleAt (eqU x) pl (λw hw=>ag1 rx fx r fs w<|by simpa using hw) ⟨.bl _,H,I,rfl,?_⟩;rw[show its.toArray.any (eqU x)=its.any (eqU x) by simp,ar9 r fs];exact q
def aV7:U2 X (.builtin "len") (λxs H Q=>∃p ys,xs=[.ref p]/\(SqL X.K H p ys\/SqT X.K H p ys)/\Q (.int ys.length) H):=by
 intro pins s σ H xs us Q I r h;obtain⟨p,ys,rfl,hq,q⟩:=h;obtain⟨u,rfl,rx⟩:=X2 r;cases rx;have hn:=am2;rcases hq with hq|hq
 .obtain⟨its,r',pl,hz⟩:=I.list hq;have hlen:=r'.length;exact Calls.call_len_list pl.isList (by simp only[aw]<;>omega) ⟨.int ys.length,H,I.tok _,⟨s.toks+1,by rw[aw,hlen]⟩,q⟩
 .obtain⟨its,r',pl,hz⟩:=I.tuple hq;have hlen:=r'.length;exact len_tuple pl (by simp only[aw]<;>omega) ⟨.int ys.length,H,I.tok _,⟨s.toks+1,by rw[aw,hlen]⟩,q⟩
def aV6:U2 X (.builtin "len") (λxs H Q=>∃z,xs=[.str z]/\z.length<=fc/\Q (.int z.length) H):=by
 intro pins s σ H xs us Q I r h;obtain⟨z,rfl,hz,q⟩:=h;obtain⟨u,rfl,t,rfl⟩:=X2 r;have hn:=am2;exact len_str (by omega) ⟨.int z.length,H,I.tok _,⟨_,rfl⟩,q⟩
def aV5:U2 X (.type "list") (λxs H Q=>∃p ys,xs=[.ref p]/\(SqL X.K H p ys\/SqT X.K H p ys)/\∀l,H l=O->Q (.ref l) (upd H l<|.lst ys)):=by
 intro pins s σ H xs us Q I r h;obtain⟨p,ys,rfl,hq,q⟩:=h;obtain⟨u,rfl,rx⟩:=X2 r;cases rx
 have fin:∀(its:List fR),D8 ys its->ys.length<=fc->∀(h':Heap) (c':Nat),(∀b o',s.heap.get? b=Z o'->h'.get? b=Z o') ->
   h'.get? s.heap.objs.size=Z { cls:=.type "list", dict:=O,data:=.seq its.toArray c',slots:=#[] }->EP X pins σ Q (.ref s.heap.objs.size) { s with heap:=h' }:=λits r' hz h' c' kp e =>
  ⟨.ref s.heap.objs.size,_,I.laid (t':=s.toks) kp (ak _) (show P9 X.prog X.w _ h' _ (.lst ys) from⟨hz,its,c',r',e⟩),rfl,q _<|I.hok.fresh (ak _)⟩
 rcases hq with hq|hq
 .obtain⟨its,r',pl,hz⟩:=I.list hq;have hlen:=r'.length;obtain⟨o,ho,hc,n,hd⟩:=pl.isList;exact call_list_seq p (.inl rfl) ho hc hd (λh' c' kp e=>fin its r' hz h' c' kp e) (by simp only[aw]<;>omega)
 .obtain⟨its,r',pl,hz⟩:=I.tuple hq;have hlen:=r'.length;obtain⟨o,ho,hc,n,hd⟩:=pl;exact call_list_seq p (.inr rfl) ho hc hd (λh' c' kp e=>fin its r' hz h' c' kp e) (by simp only[aw]<;>omega)
def aL4:U2 X (.type "tuple") (λxs H Q=>∃p ys,xs=[.ref p]/\((SqL X.K H p ys/\∀l,H l=O->Q (.ref l) (upd H l<|.tup ys))\/(SqT X.K H p ys/\Q (.ref p) H))):=by
 intro pins s σ H xs us Q I r h;obtain⟨p,ys,rfl,h⟩:=h;obtain⟨u,rfl,rx⟩:=X2 r;cases rx;rcases h with⟨hq,q⟩|⟨hq,q⟩
 .obtain⟨its,r',pl,hz⟩:=I.list hq;have hlen:=r'.length;refine call_tuple_list pl.isList (λh' kp=>?_) (by simp only[aw]<;>omega);have I1:Inv X pins σ H { s with heap:=h' }:=I.kept (t':=s.toks) kp
  have I2:Inv X pins σ (upd H h'.objs.size<|.tup ys) { s with heap:=h'.push { cls:=.type "tuple", data:=.seq its.toArray } } :=
   I1.laid (t':=s.toks) (λb o e=>fF _ e) (ak _) (show P9 X.prog X.w _ _ _ (.tup ys) from⟨hz,its,r',aJ2.new _ _⟩)
  exact⟨.ref h'.objs.size,_,I2,rfl,q _<|I1.hok.fresh (ak _)⟩
 .obtain⟨its,r',pl,hz⟩:=I.tuple hq;exact call_tuple_same pl ⟨.ref p,H,I,rfl,q⟩
noncomputable def tyV(K:ad)(T:String)(x:V)(H:Hp):Prop:=match x with
 | .str _=>T = "str"
 | .int _=>T = "int"
 | .ref p=>(T = "list" /\ ∃xs,SqL K H p xs)\/(T = "tuple" /\ ∃o,K.lookup p=Z o/\o.cls=.type "tuple" /\ o.dict=O) \/
   (T = "dict" /\ ((∃kvs,H p=Z (.dK kvs))\/∃kvs,H p=Z (.dT kvs)))\/(T = "set" /\ ∃S n,H p=Z (.set S n))
 | _=>False
def cu1(I:Inv X pins σ H s)(r:E4 x v)(ty:tyV X.K T x H):
  s.TypeIs v T/\∀a,v=.ref a->∃ob,s.heap.get? a=Z ob/\ob.dict=O:=by
 cases x with
 | str z =>
  obtain⟨t,rfl⟩:=r;cases(show T = "str" from ty);exact⟨typeIs_str s z t,λ_ e=>nomatch e⟩
 | int i =>
  obtain⟨t,rfl⟩:=r;cases(show T = "int" from ty);exact⟨typeIs_int s i t,λ_ e=>nomatch e⟩
 | ref p =>
  cases r;rcases ty with⟨rfl,xs,hq⟩|⟨rfl,o,hk,hc,hd⟩|⟨rfl,hk⟩|⟨rfl,S,n,hk⟩
  .obtain⟨its,_,pl,_⟩:=I.list hq;refine⟨pl.isList.typeIs,λa e=>?_⟩;cases e;obtain⟨o,n,e,c,hd,_⟩:=pl;exact⟨o,e,hd⟩
  .refine⟨⟨o,I.kIn p o hk,hc⟩,λa e=>?_⟩;cases e;exact⟨o,I.kIn _ o hk,hd⟩
  .have z:∃o,s.heap.get? p=Z o/\o.ExactDict:=by
    rcases hk with⟨kvs,hk⟩|⟨kvs,hk⟩
    .obtain⟨_,_,_,_,o,_,_,e,ex,_⟩:=I.hok p _ hk;exact⟨o,e,ex⟩
    .obtain⟨_,_,_,_,o,_,_,e,ex,_⟩:=I.hok p _ hk;exact⟨o,e,ex⟩
   obtain⟨o,e,ex⟩:=z;refine⟨⟨o,e,ex.1⟩,λa e2=>?_⟩;cases e2;exact⟨o,e,ex.2.1⟩
  .obtain⟨o,_,_,_,e,ex,_⟩:=I.hok p _ hk;refine⟨⟨o,e,ex.1⟩,λa e2=>?_⟩;cases e2;exact⟨o,e,ex.2.1⟩
 | _=>exact False.elim ty
noncomputable def tBM(K:ad)(T:String)(r:V->List V->Hp->VK->Prop)(to:TE)(t:TA):TE:=λσ H Q=>to σ H λx H1=>tyV K T x H1/\t σ H1 λxs H2=>r x xs H2 Q
variable {o e:Expr}{es:List Expr}{to:TE}{t:TA}{name:Str}{apos cpos:Pos}{T id:String}{r:V->List V->Hp->VK->Prop}
def bp1(pa:PlainAttrs T)(slot:Slot T name id)(hty:typeOf (.builtin id)=pure (.type "method_descriptor"))(hm:MtR X id r)(ho:PE X o to)(ha:PA X (e::es) t)
  (hbase:fB o name X.env (eval o X.env)=eval o X.env:=by rfl)
  (hfew:((backTo cpos (fb (e::es) X.env)).all (λx=>!x.1)&&(backToKw cpos (keywordEach [] X.env)).all (λx=>x.1.isSome)
   && decide ((e::es).length+([]:List fq).length+(if([]:List fq).isEmpty then 0 else 1) < 30))=true:=by rfl)
  (hline:(apos.endLine==cpos.line)=true:=by rfl) (hs:fb (e::es) X.env=(false,eval e X.env)::fb es X.env:=by rfl) (hplain:(backTo cpos<|fb es X.env).any (·.1)=false:=by rfl) :
  PE X (.Call (.Attribute o name apos) (e::es) [] cpos) (tBM X.K T r to t):=by
 intro pins s σ H Q I h;refine wpAny_Call_method_late hbase hfew hline rfl (thn (ho pins s σ H _ I h) λv s1 ⟨x,H1,I1,r1,ty,q1⟩=>?_);obtain⟨h1,h2⟩:=cu1 I1 r1 ty;refine⟨T,id,pa,slot,hty,h1,h2,?_⟩;have hA:=ha cpos pins s1 σ H1 _ I1 q1;rw[hs]at hA ⊢;refine Calls.callWith_builtin (by show(false || (backTo cpos<|fb es X.env).any (·.1))=false;rw[hplain]<;>rfl) (Calls.evalArgs_plain ?_);exact thn hA λus s2 ⟨vs,H2,I2,r2,q2⟩=>hm pins s2 σ H2 x vs v us Q I2 r1 r2 q2
end
noncomputable def MtM(X:Cx)(id:String)(r:V->List V->Hp->VK->Prop):Prop :=
 ∀(pins:List (fT×Obj)) (s:fS) (σ:St) (H:Hp) (x:V) (xs:List V) (v:fR) (us:List fR) (Q:VK),Inv X pins σ H s->E4 x v->D8 xs us->r x xs H Q ->
  fD (fE X.prog X.w) X.A (call (.builtin id) (v::us)) (EP X pins σ Q) X.xe s
def D8.one:∀{x:V}{us:List fR},D8 [x] us->∃u,us=[u]/\E4 x u
 | _,_,.cons r .nil=>⟨_,rfl,r⟩
theorem D8.rep(h:D8 xs us):∀k:Nat,D8 (aB k xs).flatten (aB k us).flatten
 | 0=>.nil
 | k+1=>by
  rw[bR,bR,ce,ce];exact D8.append h<|D8.rep h k
theorem aO2(its:List fR):∀(k:Nat) (acc:List fR),
  cV (λx1 x2=>x1++x2) acc.toArray (aB k its.toArray)=(acc++(aB k its).flatten).toArray
 | 0,acc=>by simp
 | k+1,acc=>by
  have e:acc.toArray++its.toArray=(acc++its).toArray:=by simp
  have e2:(acc++its)++(aB k its).flatten=acc++(aB (k+1) its).flatten:=by rw[bR,ce,ax]
  rw[← e2,← aO2 its k (acc++its),← e,bR,bA]
section
variable {X:Cx}{pins:List (Addr×Obj)}{σ:St}{H:Hp}{s:Shared}{l b:Addr}{xs ys zs:List V}
def Inv.lset{its its':List fR}{n:Nat}{f:Array fR->Array fR}{t':Nat}(I:Inv X pins σ H s)(hH:H l=Z (.lst xs))
  (e:s.heap.get? l=Z { cls:=.type "list", data:=.seq its.toArray n }) (hf:f its.toArray=its'.toArray) (hv:D8 ys its') (hz:ys.length<=fc) :
  Inv X pins σ (upd H l<|.lst ys) { s with heap:=s.heap.update l (Obj.mapSeq f),toks:=t' }:=by
 have q:=PySem.IsL.update e f;rw[hf]at q;refine I.write (x:=l) (e:=l) (by rw[hH];exact trivial) (.inl rfl) (λb' u hb hu=>(Heap.get?_update_other s.heap (Obj.mapSeq f)<|Ne.symm hb).trans hu) ⟨_,q⟩ ?_;exact⟨hz,its',_,hv,q⟩
def Inv.lnew(I:Inv X pins σ H s)(hv:D8 ys its)(hz:ys.length<=fc):
  Inv X pins σ (upd H s.heap.objs.size<|.lst ys) { s with heap:=s.heap.push { cls:=.type "list", data:=.seq its.toArray },toks:=t' } :=
 I.laid (λ_ _ q=>fF _ q) (ak _) ⟨hz,its,0,hv,fH _ rfl⟩
theorem Inv.fresh(I:Inv X pins σ H s):H s.heap.objs.size=O:=I.hok.fresh<|ak _
def Inv.lstM(I:Inv X pins σ H s)(hH:H l=Z (.lst xs)):xs.length<=fc/\∃(its:List fR) (n:Nat),D8 xs its/\xs.length=its.length/\s.heap.get? l=Z { cls:=.type "list", data:=.seq its.toArray n }:=by
 obtain⟨z,its,n,r,e⟩:=I.hok l _ hH;exact⟨z,its,n,r,r.length,e⟩
def af5(h:n<=fc):Builtin.List.listTooLong n=false:=by
 unfold Builtin.List.listTooLong;exact decide_eq_false (by omega)
end
section
variable {X:Cx}
noncomputable def ca1:V->List V->Hp->VK->Prop:=λx vs H Q=>∃l xs y,x=.ref l/\vs=[y]/\H l=Z (.lst xs)/\xs.length < fc/\Q .non (upd H l<|.lst (xs++[y]))
def aN0:MtM X "list.append" ca1:=by
 intro pins s σ H x vs v us Q I rx rv h;obtain⟨l,xs,y,rfl,rfl,hH,hz,q⟩:=h;cases rx;obtain⟨u,rfl,ru⟩:=rv.one;obtain⟨z,its,n,r,hl,e⟩:=I.lstM hH;refine fw F.slot_list_append ⟨_,e,rfl⟩ F.entry_list_append (F.args_list_append_2 _ _) (PySem.list_append l its.toArray n u (by rw[aw];omega)) ⟨e,?_⟩;refine⟨.non,_,I.lset (its':=its++[u]) hH e (by simp) (r.append<|.cons ru .nil) ?_,rfl,q⟩;rw[ah,aN];omega
def aT1{α:Type}(xs:List α)(k:Nat):(aB k xs).flatten.length=k*xs.length:=by
 induction k with
 | zero=>simp
 | succ k ih=>rw[bR,ce,ah,ih,dt,Nat.add_comm]
end
section
variable {prog:Program}{w:World}{A:Around}{E:Value->Shared->Prop}{s:Shared}
def bw0(its its2:List fR)(a c:Nat):its.toArray.extract 0 a++its2.toArray++its.toArray.extract c its.toArray.size=(its.take a++its2++its.drop c).toArray:=by
  apply Array.toList_inj.mp
  first
    | (simp
       exact bx (by simp))
    | simp[bx]
    | simp
set_option maxRecDepth 100000 in
end
end L2
namespace Att
open PySem PySem.W PySem.Calls PyProof.Rows
def aA3:∀(ns:List Int) (vs:List fR),WellAll P h vs (ns.map WData.int)->IntsAre vs ns:=by
 intro ns
 induction ns with
 | nil =>
  intro vs w;rw[List.map_nil]at w;cases w;exact .nil
 | cons n ns ih =>
  intro vs w;rw[bK]at w;cases w with
  | cons a b =>
   cases a;exact .cons _ _<|ih _ b
def bw2{l:OpenLaw}{n:Nat}(hn:l.most=Z n){P:Params}{h:Heap}{args:List WData}{vals:List fR}
  (hpre:l.row.toRowW.claim.pre args=true) (hwl:WellAll P h vals args) :
  ∃a vs ns,vals=[fO a]/\args=[WData.list (ns.map WData.int)]/\h.get? a=Z { cls:=.type "list", data:=.seq vs.toArray }/\IntsAre vs ns/\ns.length<=n:=by
 have hsh:WShape.hasAll [] args [.list .int]=true:=(pre_splitW hpre).1;have hc:l.pre.holds [] { args:=args }=true:=(pre_splitW hpre).2;obtain⟨d,r,rfl,h1,h2⟩:=hasAllW_cons hsh;obtain rfl:=hasAllW_nil h2;obtain⟨xs,rfl,h3⟩:=hasW_list h1;obtain⟨ns,rfl⟩:=items_int h3
 have hlen:ns.length<=n:=by
  unfold OpenLaw.pre at hc
  have h4:(WTm.not<|.lt (.lit<|.int (n:Int)) (.len<|.arg 0)).holds [] { args:=[.list (ns.map .int)] }=true:=by
   have h4:=(holds_andW hc).1;rw[hn]at h4;exact h4
  have h5:=condW_of h4 (w_not<|w_lt w_lit (w_len_list<|w_arg rfl));rw[aj]at h5;refine Nat.le_of_not_lt λq=>?_
  have q':(n:Int) < ((ns.length:Nat):Int):=by omega
  first
   | (rw[decide_eq_true q']at h5;exact absurd h5<|by decide)
   | (simp at h5;omega)
 cases hwl with
 | cons w1 w2 =>
  cases w2;cases w1 with
  | list ho hall=>exact⟨_,_,ns,rfl,rfl,ho,aA3 ns _ hall,hlen⟩
def bw4(l:OpenLaw)(args:List WData):l.row.toRowW.claim.post args (.bool true) args=true :=
 postW_of (r:=l.row.toRowW) (X:=(true==true))
  (show WShape.has [] (.bool true) .bool=true by first|rfl|decide|simp[WShape.has,WShape.arms,WShape.armsAll])
  (show(WTm.eq .res<|.lit (.bool true)).value [] { args:=args,res:=Z (.bool true),after:=args }=Z (.bool<|true==true) from w_eq_bool (w_res rfl) w_lit) rfl
def attach_call{l:OpenLaw}{n:Nat}{q:fh}{loose:List Str}{XP:(Str->Option fR)->Heap->Prop}{YP:World->Heap->Prop}{d:DefRec}
  (hn:l.most=Z n) (hdf:d.params.defaults=[])
  (call:∀(w:World) (s₀ s₁:fS) (mg mb:Str->Option fR) (fa:fT) (o:Obj) (pm cd doc:fR) (a:fT) (vs:List fR) (ns:List Int),
   Ground q loose [] XP w s₀ mg mb s₁.heap->YP w s₁.heap ->
   s₁.heap.get? fa=Z o->o.data=.func (docDef d.name d.params d.body d.scope pm cd doc)->s₁.heap.CodeRec cd d.name->mg d.name=Z (.ref fa) ->
   s₁.heap.get? a=Z { cls:=.type "list", data:=.seq vs.toArray }->IntsAre vs ns->ns.length<=n->s₁.gens = #[] ->
   codeAny (fE l.prog w) callerA (.call (.ref fa) ⟨[.ref a],[]⟩) (λr s'=>r=.ok (.ret (.bool true))/\OldK s₁.heap s'.heap/\s'.os=s₁.os/\AllBare s'.gens) s₁) :
  WalkO q loose XP YP l.row.toRowW d [] (λf vs=>PySem.call f vs):=by
 intro w s₀ s₁ mg mb G Y fa o pm cd doc dV kV ho hd hcd hD hmg hg args vals as hpre hlay hrd hwl hlo;obtain rfl:dV=.none:=Dflts.none hD hdf;obtain rfl:kV=.none:=Dflts.noKw hD;obtain⟨a,vs,ns,rfl,rfl,hobj,hints,hlen⟩:=bw2 hn hpre hwl;refine enter_call (codeAny_mono (call w s₀ s₁ mg mb fa o pm cd doc a vs ns G Y ho (fd_plain hd) hcd hmg hobj hints hlen hg) λr s' hq=>?_);obtain⟨rfl,h2,h3,h4⟩:=hq;exact⟨.inl ⟨.bool true,.bool true,[],rfl,λ_=>rfl,.bool true,bw4 l _,λ_=>⟨cY.nil,λ_ hm=>(nomatch hm)⟩⟩,h2,h3,h4⟩
end Att
namespace L2
open PySem PySem.Spec PyProof.Rows
theorem V3:∀{vs:List fR}{ns:List Int},IntsAre vs ns->D8 (ns.map V.int) vs
 | _,_,.nil=>.nil
 | _,_,.cons n t h=>.cons ⟨t,rfl⟩<|V3 h
noncomputable def cL0(H:Hp):Prop:=∀b,H b=O\/∃o xs,H b=Z (.frz o<|.lst xs)
def bN0{P:fh}{w:World}{K:ad}{mg mb:Str->Option fR}{CX:CXT}{k:Nat}{fa a:fT}{fd:fj}{x:Str}{sp:Sp}{s₁:fS}{vs:List fR}{ns:List Int}
  (KX:K.In s₁.heap) (hns:s₁.heap.Ns fg mg) (hb:s₁.heap.Ns builtinsNs mb) (hbb:∀x:Str,x ≠ "__name__" -> mb x=fk x) (hlim:s₁.heap.NoLimit) (hg:s₁.gens = #[])
  (ha:s₁.heap.get? a=Z { cls:=.type "list", data:=.seq vs.toArray }) (hi:IntsAre vs ns) (hl:ns.length<=fc) (hr:Room k callerA)
  (F:∀base:Heap,K.In base->base.Ns fg mg->FnOk P w K mg base CX k fa fd [x] sp) (hbind:∀(s:fS) (u:fR),BindsTo s fd ⟨[u],[]⟩ [(x,u)])
  (hsp:∀H:Hp,cL0 H->SqL K H a (ns.map V.int)->sp [.ref a] H (λv _=>v=.bl true) λ_ _ _=>False)
  (hCX:∀H e s',CX [] H s₁ (λ_ _ _=>False) e s'->False) :
  codeAny (fE P w) callerA (.call (.ref fa) ⟨[.ref a],[]⟩) (λr s'=>r=.ok (.ret<|.bool true)/\OldK s₁.heap s'.heap/\s'.os=s₁.os/\AllBare s'.gens) s₁:=by
 have rv:=V3 hi;have lenV:=hi.length
 have core:∀H:Hp,cL0 H->SqL K H a (ns.map V.int)->HOk P w H s₁.heap->(∀b,H b≠O->b=a)->(H a≠O->K.lookup a=O) ->
   codeAny (fE P w) callerA (.call (.ref fa) ⟨[.ref a],[]⟩) (λr s'=>r=.ok (.ret<|.bool true)/\OldK s₁.heap s'.heap/\s'.os=s₁.os/\AllBare s'.gens) s₁:=by
  intro H hO hS hok hA hK;have base_of:∀{b:fT}{o:Obj},s₁.heap.get? b=Z o->H b=O->(aT8 s₁.heap H).get? b=Z o:=λe n=>bQ8 e n
  have noA:∀{b:fT}{o:Obj}{es:Array DictEntry}{ep:Nat},s₁.heap.get? b=Z o->o.data=.dict es ep->H b=O:=λ{b o es ep} e d=>by
   cases q:H b with
   | none=>rfl
   | some u =>
    have e':b=a:=hA b (by rw[q];simp);subst e';rw[ha]at e;cases e;have d':Data.seq vs.toArray _=Data.dict es ep:=d;cases d'
  have nsK:∀{b:fT}{m:Str->Option fR},s₁.heap.Ns b m->(aT8 s₁.heap H).Ns b m:=λ{b m} ⟨o,es,ep,e,d,r⟩=>⟨o,es,ep,base_of e<|noA e d,d,r⟩
  have hKb:K.In (aT8 s₁.heap H):=λb o e=>base_of (KX b o e) (by
   cases q:H b with
   | none=>rfl
   | some u =>
    have e':b=a:=hA b (by rw[q];simp);subst e'
    rw[hK (by rw[q];simp)]at e;cases e)
  have hM:Mod K mg (aT8 s₁.heap H):=⟨hKb,nsK hns,⟨mb,nsK hb,hbb⟩,let⟨mc,h1,h2⟩:=hlim;⟨mc,nsK h1,h2⟩⟩;have e0:Env0 P w K mg (aT8 s₁.heap H) callerA [] s₁ H:=⟨rfl,hM,λb o e=>cd3 e,Nat.le_of_eq<|bz3 _ _,trivial,λb hb=>absurd (show b∈([]:List fT) from hb) (by simp),hok,.of_eq hg⟩;refine codeAny_mono ((F _ hKb<|nsK hns).run callerA [] s₁ H ⟨[.ref a],[]⟩ [.ref a] [.ref a] _ _ hr e0 (hbind s₁<|.ref a) (.cons rfl .nil)<|hsp H hO hS) λr s' h=>?_
  cases r with
  | error e=>exact(hCX H e s' h).elim
  | ok fl =>
   cases fl with
   | next=>exact False.elim h
   | brk=>exact False.elim h
   | cont=>exact False.elim h
   | ret u =>
    obtain⟨v,H',os,bare,un,hok',r',q⟩:=h;have q':v=.bl true:=q;subst q';obtain rfl:u=Value.bool true:=r';refine⟨rfl,OldK.of_keep λb o e=>?_,os,bare⟩;cases q:H b with
    | none=>exact un.keep b o e q (by intro z;exact absurd (show b∈([]:List fT) from z)<|by simp) (by simp)
    | some u =>
     rcases hO b with z|⟨ob,xs,z⟩
     .rw[q]at z;cases z
     .have z2:=un.frzs b ob _ z;obtain⟨e1,_⟩:=hok b _ z;obtain⟨e2,_⟩:=hok' b _ z2;rw[e]at e1;cases e1;exact e2
 cases hk:K.lookup a with
 | some o =>
  have e:=KX a o hk;rw[ha]at e;cases e;refine core (λ_=>O) (λ_=>.inl rfl) (.inr ⟨_,vs.toArray,_,hk,rfl,rfl,rfl,by rw[aw,lenV];exact hl,by simpa using rv⟩) (λb u z=>by have z':(O:Option HO)=Z u:=z;cases z') (λb z=>absurd rfl z) λz=>absurd rfl z
 | none =>
  refine core (λb=>if b=a then Z (.frz { cls:=.type "list", data:=.seq vs.toArray } (.lst<|ns.map V.int)) else O) (λb=>?_) (.inl<|.inr ⟨{ cls:=.type "list", data:=.seq vs.toArray },if_pos rfl⟩) (λb u z=>?_) (λb z=>?_) λ_=>hk
  .by_cases hb:b=a
   .exact .inr ⟨_,_,if_pos hb⟩
   .exact .inl (if_neg hb)
  .by_cases hb:b=a
   .have z':=(if_pos hb).symm.trans z;cases z';subst hb;exact⟨ha,by rw[aj];exact hl,vs,_,rv,ha⟩
   .have z':=(if_neg hb).symm.trans z;cases z'
  .by_cases hb:b=a
   .exact hb
   .exact absurd (if_neg hb) z
def bY1{l:PySem.W.OpenLaw}{n k:Nat}{q:fh}{loose:List Str}{XP:(Str->Option fR)->Heap->Prop}{YP:World->Heap->Prop}{d:DefRec}{K:Params->ad}{CX:World->CXT}{sp:World->Sp}{x:Str}
  (hn:l.most=Z n) (hn2:n<=fc) (hdf:d.params.defaults=[]) (hr:Room k callerA)
  (hY:∀(w:World) (h:Heap),YP w h->(K w.params).In h)
  (F:∀(w:World) (mg:Str->Option fR) (fa:fT) (h:Heap),(K w.params).In h->h.Ns fg mg->mg d.name=Z (.ref fa) ->
   ∃fd:fj,(∀(s:fS) (u:fR),BindsTo s fd ⟨[u],[]⟩ [(x,u)]) /\
    ∀base:Heap,(K w.params).In base->base.Ns fg mg->FnOk l.prog w (K w.params) mg base (CX w) k fa fd [x] (sp w))
  (hsp:∀(w:World) (H:Hp) (a:fT) (ns:List Int),ns.length<=n->cL0 H->SqL (K w.params) H a (ns.map V.int)->sp w [.ref a] H (λv _=>v=.bl true) λ_ _ _=>False)
  (hCX:∀(w:World) (H:Hp) (s:fS) (e:fR) (s':fS),CX w [] H s (λ_ _ _=>False) e s'->False) :
  PySem.W.WalkO q loose XP YP l.row.toRowW d [] (λf vs=>PySem.call f vs):=by
 refine Att.attach_call hn hdf λw s₀ s₁ mg mb fa o pm cd doc a vs ns G Y ho hd hcd hmg hobj hints hlen hg=>?_
 have KX:=hY w _ Y;obtain⟨fd,hb,hF⟩:=F w mg fa _ KX G.T.g hmg;exact bN0 KX G.T.g G.T.b G.T.builtins G.T.nolimit hg hobj hints (aQ hlen hn2) hr hF hb (λH hO hS=>hsp w H a ns hlen hO hS) λH e s'=>hCX w H s₁ e s'
noncomputable def g8(s:Stmt):Arguments:=match s with
 | .FunctionDef _ a _ _ _ _ _ _ _ _=>a
 | _=>{ posonlyargs:=[],args:=[],vararg:=O,kwonlyargs:=[],kw_defaults:=[],kwarg:=O,defaults:=[] }
noncomputable def T5(s:Stmt):List Stmt:=match s with
 | .FunctionDef _ _ b _ _ _ _ _ _ _=>b
 | _=>[]
noncomputable def J1(s:Stmt):Scope:=match s with
 | .FunctionDef _ _ _ _ _ _ sc _ _ _=>sc
 | _=>{ kind:=.function,names:=[],isGenerator:=false,isCoroutine:=false }
noncomputable abbrev CX0:CXT:=λ_ _ _ _ _ _=>False
noncomputable abbrev E0:XK:=λ_ _ _=>False
def co2:aW5 CX0 X E0:=λ_ _ _ _ _ _ _ h=>h.elim
structure Fun (K:ad) (x qual:Str) (st:Stmt) (f:fT) (fd:fj):Prop where
 ex:∃(oc:fR) (od:Option fT) (kV doc pm:fR) (an:Option fT) (cdv ct:fR) (osl:Array (Option fR)),
  fd=bT x qual (g8 st) (T5 st) (J1 st) .none kV doc pm an cdv ct/\K.lookup f=Z ⟨oc,od,.func fd,osl⟩/\cR K cdv qual=true
 kp:bH K (.ref f)=true
section
variable {P:Program}{w:World}{K:PySem.W.Frag}{mg:Str->Option Value}{base:Heap}
def Fun.ok{x qual:Str}{st:Stmt}{f:fT}{fd:fj}{N ps:List Str}{k:Nat}{sp:Sp}(F:Fun K x qual st f fd)(S:FnScope N ps (J1 st))(len:∀vs H Q E,sp vs H Q E->vs.length=ps.length)
  (hbody:∀(cdv:fR) (A:fi) (outer:List Env) (s:fS) (H:Hp) (vs:List V) (Q:VK) (E:XK),Room k (A.deeper (envOfC qual (J1 st) s.heap.objs.size f cdv))->sp vs H Q E ->
   ∃t,PSs (bl7 CX0 P w K mg base N qual (J1 st) f cdv A outer s H E).nox (T5 st) t/\t { nx:=λ_ H'=>Q .non H',rt:=Q } (x6 N vs) H):FnOk P w K mg base CX0 (k+1) f fd ps sp:=by
 obtain⟨oc,od,kV,doc,pm,an,cdv,ct,osl,rfl,lk,hcd⟩:=F.ex;refine bb3 lk hcd S len λA outer s H vs Q E hr hsp=>?_
 obtain⟨t,h,q⟩:=hbody cdv A outer s H vs Q E hr hsp;exact⟨t,h.nox,q⟩
def cH9{x qual:Str}{st:Stmt}{f:fT}{oc:fR}{od an:Option fT}{osl:Array (Option fR)}{kV doc pm cdv ct:fR}(l:K.lookup f=Z ⟨oc,od,.func<|bT x qual (g8 st) (T5 st) (J1 st) .none kV doc pm an cdv ct,osl⟩)
  (c:cR K cdv qual=true) (k:bH K (.ref f)=true):Fun K x qual st f (bT x qual (g8 st) (T5 st) (J1 st) .none kV doc pm an cdv ct):=⟨⟨oc,od,kV,doc,pm,an,cdv,ct,osl,rfl,l,c⟩,k⟩
end
def at7(h:n<=1000):n < fc:=cz h (by decide)
section
variable {X:Cx}
def pv(i:Nat)(hN:X.N[i]? = Z x:=by rfl)(hv:Vis X.env.scope x:=by first|exact Or.inl rfl|exact Or.inr (Or.inl rfl)|exact Or.inr<|Or.inr rfl)(hd:(x==("__debug__" : Str))=false:=by decide)
  (hcd:(x==("__classdict__" : Str))=false:=by decide):PE X (.Name x pos) (cN4 i):=al6 hN hv hd hcd
end
def aG3{A B:Prop}(h:B):if false=true then A else B:=by
 rw[if_neg aF];exact h
def aG2{A B:Prop}(h:A):if true=true then A else B:=by
 rw[if_pos rfl];exact h
noncomputable def E8(H H':Hp):Prop:=∀b o,H b=Z o->H' b=Z o
def E8.refl(H:Hp):E8 H H:=λ_ _ h=>h
def E8.trans(a:E8 H H1)(b:E8 H1 H2):E8 H H2:=λc o h=>b c o<|a c o h
def E8.free(e:E8 H H')(h:H' l=Option.none):H l=Option.none:=by
 cases q:H l with
 | none=>rfl
 | some o =>
  rw[e l o q]at h;cases h
end L2
set_option maxHeartbeats 4000000
namespace G
def xbm{α β:Type}{o:Option α}{f:α->Option β}{b:β}(h:o.bind f=Z b):∃a,o=Z a/\f a=Z b:=xbo h
open PySem PySem.Spec PyProof.Rows L2
noncomputable abbrev D:=PyData
mutual
noncomputable def Rep(K:ad) (H:Hp):D->V->Prop
 | .none,v=>v=.non
 | .bool b,v=>v=.bl b
 | .int i,v=>v=.int i
 | .str x,v=>v=.str x
 | .tuple ds,v=>∃a vs,v=.ref a/\SqT K H a vs/\Reps K H ds vs
 | .list ds,v=>∃a vs,v=.ref a/\SqL K H a vs/\Reps K H ds vs
 | .dict kvs,v=>∃a m,v=.ref a/\H a=Z (.dK m)/\RepKs K H kvs m
noncomputable def Reps(K:ad) (H:Hp):List D->List V->Prop
 | [],vs=>vs=[]
 | d::ds,vs=>∃v r,vs=v::r/\Rep K H d v/\Reps K H ds r
/-- a dict by texts -/
noncomputable def RepKs(K:ad) (H:Hp):List (D×D)->List (Key×V)->Prop
 | [],m=>m=[]
 | (k,d)::r,m=>∃x v t,k=.str x/\m=(.inr x,v)::t/\Rep K H d v/\RepKs K H r t
end
section
variable {K:PySem.W.Frag}{H H' H0 H1 H2 Hf Hf' Hf1 Hf2:Hp}
def bo6(e:E8 H H')(h:Rd H a u):Rd H' a u:=by
 rcases h with h|⟨o,h⟩
 .exact .inl (e _ _ h)
 .exact .inr ⟨o,e _ _ h⟩
def D1(e:E8 H H')(h:SqT K H a xs):SqT K H' a xs:=h.imp (bo6 e) id
def G1(e:E8 H H')(h:SqL K H a xs):SqL K H' a xs:=h.imp (bo6 e) id
mutual
theorem Rep.mono(e:E8 H H'):∀{d:D}{v:V},Rep K H d v->Rep K H' d v
 | .none,_,h=>h
 | .bool _,_,h=>h
 | .int _,_,h=>h
 | .str _,_,h=>h
 | .tuple _,_,⟨a,vs,h1,h2,h3⟩=>⟨a,vs,h1,D1 e h2,Reps.mono e h3⟩
 | .list _,_,⟨a,vs,h1,h2,h3⟩=>⟨a,vs,h1,G1 e h2,Reps.mono e h3⟩
 | .dict _,_,⟨a,m,h1,h2,h3⟩=>⟨a,m,h1,e _ _ h2,RepKs.mono e h3⟩
theorem Reps.mono(e:E8 H H'):∀{ds:List D}{vs:List V},Reps K H ds vs->Reps K H' ds vs
 | [],_,h=>h
 | _::_,_,⟨v,r,h1,h2,h3⟩=>⟨v,r,h1,Rep.mono e h2,Reps.mono e h3⟩
theorem RepKs.mono(e:E8 H H'):∀{ds:List (D×D)}{vs:List (Key×V)},RepKs K H ds vs->RepKs K H' ds vs
 | [],_,h=>h
 | (_,_)::_,_,⟨x,v,t,h1,h2,h3,h4⟩=>⟨x,v,t,h1,h2,Rep.mono e h3,RepKs.mono e h4⟩
end
theorem Reps.length:∀{ds:List D}{vs:List V},Reps K H ds vs->vs.length=ds.length
 | [],_,h=>by cases h;rfl
 | _::_,_,⟨v,r,h1,h2,h3⟩=>by subst h1;simp[Reps.length h3]
theorem Reps.get:∀{ds:List D}{vs:List V}{i:Nat}{d:D},Reps K H ds vs->ds[i]? = Z d->∃v,vs[i]? = Z v/\Rep K H d v
 | [],_,_,_,_,e=>by simp at e
 | x::_,_,0,_,⟨v,r,h1,h2,h3⟩,e=>by subst h1;simp at e;subst e;exact⟨v,rfl,h2⟩
 | x::_,_,i+1,_,⟨v,r,h1,h2,h3⟩,e=>by
  subst h1;obtain⟨u,q1,q2⟩:=Reps.get (i:=i) h3 (by simpa using e);exact⟨u,by simpa using q1,q2⟩
theorem Reps.append:∀{ds es:List D}{vs us:List V},Reps K H ds vs->Reps K H es us->Reps K H (ds++es) (vs++us)
 | [],_,_,_,h,q=>by cases h;exact q
 | _::_,_,_,_,⟨v,r,h1,h2,h3⟩,q=>by subst h1;exact⟨v,r++_,rfl,h2,Reps.append h3 q⟩
theorem Reps.take:∀{ds:List D}{vs:List V}(n:Nat),Reps K H ds vs->Reps K H (ds.take n) (vs.take n)
 | [],_,n,h=>by cases h;simp[Reps]
 | _::_,_,0,h=>by simp[Reps]
 | _::_,_,n+1,⟨v,r,h1,h2,h3⟩=>by subst h1;exact⟨v,r.take n,rfl,h2,Reps.take n h3⟩
theorem Reps.drop:∀{ds:List D}{vs:List V}(n:Nat),Reps K H ds vs->Reps K H (ds.drop n) (vs.drop n)
 | [],_,n,h=>by cases h;simp[Reps]
 | _::_,_,0,h=>h
 | _::_,_,n+1,⟨v,r,h1,h2,h3⟩=>by subst h1;exact Reps.drop n h3
theorem Reps.ints:∀(ns:List Int),Reps K H (ns.map fK) (ns.map V.int)
 | []=>rfl
 | n::r=>⟨.int n,r.map V.int,rfl,rfl,Reps.ints r⟩
theorem Reps.flatten(h:Reps K H ds vs):∀k:Nat,Reps K H (aB k ds).flatten (aB k vs).flatten
 | 0=>rfl
 | k+1=>by simp only[bR,ce];exact h.append<|Reps.flatten h k
structure Grow (H Hf H' Hf':Hp):Prop where
 big:E8 H H'
 sub:E8 Hf' H'
 ext:E8 Hf Hf'
 new:∀b,Hf' b≠O->Hf b≠O\/H b=O
theorem Grow.refl(h:E8 Hf H):Grow H Hf H Hf:=⟨E8.refl _,h,E8.refl _,λ_ h=>.inl h⟩
theorem Grow.trans(a:Grow H Hf H1 Hf1)(b:Grow H1 Hf1 H2 Hf2):Grow H Hf H2 Hf2 :=
 ⟨a.big.trans b.big,b.sub,a.ext.trans b.ext,λx h=>(b.new x h).elim (a.new x) λz=>.inr<|a.big.free z⟩
def E5(h:H p=O):E8 H (upd H p o):=λb u e=>by rw[C8 (C9 e h)];exact e
def Grow.laid(s:E8 Hf H)(h:H p=O):Grow H Hf (upd H p o) (upd Hf p o):=by
 refine⟨E5 h,λb u e=>?_,E5<|s.free h,λb e=>?_⟩
 .by_cases q:b=p
  .subst q;rw[C2]at e;rw[C2];exact e
  .rw[C8 q]at e;rw[C8 q];exact s b u e
 .by_cases q:b=p
  .subst q;exact .inr h
  .rw[C8 q]at e;exact .inl e
def Grow.made(s:E8 Hf H)(h:H p=O):Grow H Hf (upd H p o) Hf :=
 ⟨E5 h,s.trans<|E5 h,E8.refl _,λ_ e=>.inl e⟩
def Grow.freeze(g:Grow H Hf H1 Hf1)(h:H1 p=Z o)(n:Hf1 p=O)(f:H p=O):Grow H Hf H1 (upd Hf1 p o):=by
 refine⟨g.big,λb u e=>?_,g.ext.trans<|E5 n,λb e=>?_⟩
 .by_cases q:b=p
  .subst q;rw[C2]at e;rw[h];exact e
  .rw[C8 q]at e;exact g.sub b u e
 .by_cases q:b=p
  .subst q;exact .inr f
  .rw[C8 q]at e;exact g.new b e
end
inductive B where
 | val (d:D)
 | own (ds:List D)
 | exc (x:Str)
noncomputable abbrev Rho:=List<|Option B
noncomputable def clA(K:ad)(x:Str):Option fT:=match aP K fg x with
 | some (Z (.ref C))=>Z C
 | _=>O
noncomputable def SB(K:ad)(H0 H Hf:Hp):B->V->Prop
 | .val d,v=>Rep K Hf d v
 | .own ds,v=>∃a vs,v=.ref a/\H a=Z (.lst vs)/\Hf a=O/\H0 a=O/\Reps K Hf ds vs
 | .exc x,v=>∃a o C,v=.ref a/\Hf a=Z (.frz o<|.own a)/\clA K x=Z C/\o.cls=.ref C
structure Slots (K:ad) (H0:Hp) (ρ:Rho) (σ:L2.St) (H Hf:Hp):Prop where
 len:ρ.length=σ.length
 is:∀(i:Nat) (b:B),ρ[i]? = Z (Z b)->∃v,σ[i]? = Z (Z v)/\SB K H0 H Hf b v
 apart:∀(i j:Nat) (ds es:List D) (a:fT),ρ[i]? = Z (Z<|.own ds)->ρ[j]? = Z (Z<|.own es)->σ[i]? = Z (Z<|V.ref a)->σ[j]? = Z (Z<|V.ref a)->i=j
section
variable {K:PySem.W.Frag}{H H' H0 H1 H2 Hf Hf' Hf1 Hf2:Hp}{ρ:Rho}{σ:L2.St}
def SB.grow(h:SB K H0 H Hf b v)(g:Grow H Hf H' Hf'):SB K H0 H' Hf' b v:=by
 cases b with
 | val d=>exact Rep.mono g.ext h
 | exc C =>
  obtain⟨a,o,C,e,h1,h2⟩:=h;exact⟨a,o,C,e,g.ext _ _ h1,h2⟩
 | own ds =>
  obtain⟨a,vs,e,h1,h2,h3,h4⟩:=h;refine⟨a,vs,e,g.big _ _ h1,?_,h3,h4.mono g.ext⟩;cases q:Hf' a with
  | none=>rfl
  | some u =>
   rcases g.new a (by rw[q];simp) with z|z
   .exact absurd h2 z
   .rw[h1]at z;cases z
theorem Slots.grow(s:Slots K H0 ρ σ H Hf)(g:Grow H Hf H' Hf'):Slots K H0 ρ σ H' Hf' :=
 ⟨s.len,λi b e=>let⟨v,h1,h2⟩:=s.is i b e;⟨v,h1,h2.grow g⟩,s.apart⟩
end
noncomputable abbrev DE:=Rho->Option D
noncomputable def tJ(K:ad)(ρ:Rho)(R:Hp->V->Hp->Hp->Prop):TE:=λσ H Q=>∃H0 Hf,E8 Hf H/\Slots K H0 ρ σ H Hf/\∀v H' Hf',Grow H Hf H' Hf'->R H v H' Hf'->Q v H'
noncomputable def JE(X:Cx)(e:Expr)(f:DE):Prop:=∀ρ d,f ρ=Z d->PE X e (tJ X.K ρ λ_ v _ Hf=>Rep X.K Hf d v)
noncomputable def Sq(K:ad):Bool->Hp->fT->List V->Prop
 | true=>SqT K
 | false=>SqL K
noncomputable def RQ(K:ad)(t:Bool)(ds:List D)(v:V)(H Hf:Hp):Prop:=∃a vs,v=.ref a/\Sq K t H a vs/\Reps K Hf ds vs
noncomputable def JQ(X:Cx)(e:Expr)(f:Rho->Option (Bool×List D)):Prop:=∀ρ t ds,f ρ=Z (t,ds)->PE X e (tJ X.K ρ λ_ v H Hf=>RQ X.K t ds v H Hf)
noncomputable def JN(X:Cx)(e:Expr)(f:Rho->Option (List D)):Prop:=∀ρ ds,f ρ=Z ds->PE X e (tJ X.K ρ λH v H' Hf'=>∃a vs,v=.ref a/\H a=O/\H' a=Z (.lst vs)/\Hf' a=O/\Reps X.K Hf' ds vs)
noncomputable def tJA(K:ad)(ρ:Rho)(ds:List D):TA:=λσ H Q=>∃H0 Hf,E8 Hf H/\Slots K H0 ρ σ H Hf/\∀vs H' Hf',Grow H Hf H' Hf'->Reps K Hf' ds vs->Q vs H'
structure JA (X:Cx) (es:List Expr) (f:Rho->Option (List D)):Prop where
 len:∀ρ ds,f ρ=Z ds->ds.length=es.length
 run:∀ρ ds,f ρ=Z ds->PA X es (tJA X.K ρ ds)
noncomputable def JT(X:Cx)(e:Expr)(f:Rho->Option Bool):Prop:=∀ρ c,f ρ=Z c->PT X e (λσ H Q=>∃H0 Hf,E8 Hf H/\Slots X.K H0 ρ σ H Hf/\∀H' Hf',Grow H Hf H' Hf'->Q c H')
noncomputable def JW(X:Cx)(e:Expr)(f:Rho->Option Bool):Prop:=∀ρ c,f ρ=Z c->PW X e (λσ H Q=>∃H0 Hf,E8 Hf H/\Slots X.K H0 ρ σ H Hf/\∀H' Hf',Grow H Hf H' Hf'->Q c H')
section
variable {X:Cx}
def B9(h:PE X e t)(i:∀σ H Q,t' σ H Q->t σ H Q):PE X e t':=λpins s σ H Q I q=>h pins s σ H Q I<|i σ H Q q
def aR6(h:PT X e t)(i:∀σ H Q,t' σ H Q->t σ H Q):PT X e t':=λpins s σ H Q I q=>h pins s σ H Q I<|i σ H Q q
noncomputable def dC(d:D):DE:=λ_=>Z d
noncomputable def A1(i:Nat):DE:=λρ=>match ρ[i]? with
 | some (Z (.val d))=>Z d
 | _=>O
noncomputable def A8(i:Nat):Rho->Option (Bool×List D):=λρ=>match ρ[i]? with
 | some (Z (.own ds))=>Z (false,ds)
 | some (Z (.val (.list ds)))=>Z (false,ds)
 | some (Z (.val (.tuple ds)))=>Z (true,ds)
 | _=>O
noncomputable def az9:D->Option (Bool×List D)
 | .list ds=>Z (false,ds)
 | .tuple ds=>Z (true,ds)
 | _=>O
def bP2:JE X (.Constant (.int i) j pos) (dC<|.int i):=λρ d h=>by
 cases h;exact B9 bJ1 λσ H Q ⟨H0,Hf,s,sl,k⟩=>k _ H Hf (Grow.refl s) rfl
def cT5:JE X (.Constant (.bool b) j pos) (dC<|.bool b):=λρ d h=>by
 cases h;exact B9 cP7 λσ H Q ⟨H0,Hf,s,sl,k⟩=>k _ H Hf (Grow.refl s) rfl
def cF6:JE X (.Constant .none j pos) (dC .none):=λρ d h=>by
 cases h;exact B9 cx6 λσ H Q ⟨H0,Hf,s,sl,k⟩=>k _ H Hf (Grow.refl s) rfl
def cF0:JE X (.Constant (.str x) j pos) (dC<|.str x):=λρ d h=>by
 cases h;exact B9 bI9 λσ H Q ⟨H0,Hf,s,sl,k⟩=>k _ H Hf (Grow.refl s) rfl
def cE8(i:Nat)(hN:X.N[i]? = Z x:=by rfl)(hv:Vis X.env.scope x:=by first|exact Or.inl rfl|exact Or.inr (Or.inl rfl)|exact Or.inr<|Or.inr rfl)(hd:(x==("__debug__" : Str))=false:=by decide)
  (hcd:(x==("__classdict__" : Str))=false:=by decide):JE X (.Name x pos) (A1 i):=λρ d h=>by
 refine B9 (al6 hN hv hd hcd) λσ H Q ⟨H0,Hf,s,sl,k⟩=>?_
 unfold A1 at h;split at h
 .rename_i d' e;cases h;obtain⟨v,h1,h2⟩:=sl.is i _ e;exact⟨v,h1,k v H Hf (Grow.refl s) h2⟩
 .cases h
def cE1(i:Nat)(hN:X.N[i]? = Z x:=by rfl)(hv:Vis X.env.scope x:=by first|exact Or.inl rfl|exact Or.inr (Or.inl rfl)|exact Or.inr<|Or.inr rfl)(hd:(x==("__debug__" : Str))=false:=by decide)
  (hcd:(x==("__classdict__" : Str))=false:=by decide):JQ X (.Name x pos) (A8 i):=λρ t ds h=>by
 refine B9 (al6 hN hv hd hcd) λσ H Q ⟨H0,Hf,s,sl,k⟩=>?_
 unfold A8 at h;split at h
 .rename_i d' e;cases h;obtain⟨v,h1,a,vs,rfl,h2,h3,h4,h5⟩:=sl.is i _ e;exact⟨_,h1,k _ H Hf (Grow.refl s) ⟨a,vs,rfl,SqL.of h2,h5⟩⟩
 .rename_i d' e;cases h;obtain⟨v,h1,a,vs,rfl,h2,h3⟩:=sl.is i _ e;exact⟨_,h1,k _ H Hf (Grow.refl s) ⟨a,vs,rfl,G1 s h2,h3⟩⟩
 .rename_i d' e;cases h;obtain⟨v,h1,a,vs,rfl,h2,h3⟩:=sl.is i _ e;exact⟨_,h1,k _ H Hf (Grow.refl s) ⟨a,vs,rfl,D1 s h2,h3⟩⟩
 .cases h
def Rep.seq{K:ad}{H Hf:Hp}{d:D}{v:V}{t:Bool}{ds:List D}(h:Rep K Hf d v)(s:E8 Hf H)(e:az9 d=Z (t,ds)):RQ K t ds v H Hf:=by
 cases d with
 | list xs=>cases e;obtain⟨a,vs,e1,e2,e3⟩:=h;exact⟨a,vs,e1,G1 s e2,e3⟩
 | tuple xs=>cases e;obtain⟨a,vs,e1,e2,e3⟩:=h;exact⟨a,vs,e1,D1 s e2,e3⟩
 | _=>cases e
noncomputable def qE(f:DE):Rho->Option (Bool×List D):=λρ=>(f ρ).bind az9
def bO4(h:JE X e f):JQ X e (qE f):=λρ t ds q=>by
 obtain⟨d,h1,h2⟩:=xbm q;exact B9 (h ρ d h1) λσ H Q ⟨H0,Hf,s,sl,k⟩=>⟨H0,Hf,s,sl,λv H' Hf' g r=>k v H' Hf' g<|r.seq g.sub h2⟩
noncomputable def A3:Rho->Option (List D):=λ_=>Z []
noncomputable def A0(f:DE)(g:Rho->Option (List D)):Rho->Option (List D):=λρ=>(f ρ).bind λd=>(g ρ).map λds=>d::ds
def cG7:JA X [] A3:=⟨λρ ds h=>by cases h;rfl,λρ ds h pos pins s σ H Q I ⟨H0,Hf,ss,sl,k⟩=>by
 cases h
 exact J2 pos pins s σ H Q I (k [] H Hf (Grow.refl ss) rfl)⟩
def ci1(h:JE X e f)(r:JA X es g)(hs:fb (e::es) X.env=(false,eval e X.env)::fb es X.env:=by rfl):JA X (e::es) (A0 f g):=by
 refine⟨λρ ds q=>?_,λρ ds q=>?_⟩
 .obtain⟨d,h1,h2⟩:=xbm q;obtain⟨es',h3,h4⟩:=xmo h2;subst h4;simp[r.len ρ es' h3]
 .obtain⟨d,h1,h2⟩:=xbm q;obtain⟨es',h3,h4⟩:=xmo h2;subst h4;intro pos pins s σ H Q I ⟨H0,Hf,ss,sl,k⟩;refine D7 (h ρ d h1) (r.run ρ es' h3) hs pos pins s σ H Q I ⟨H0,Hf,ss,sl,λv H1 Hf1 g1 r1=>⟨H0,Hf1,g1.sub,sl.grow g1,λvs H2 Hf2 g2 r2=>?_⟩⟩;exact k (v::vs) H2 Hf2 (g1.trans g2) ⟨v,vs,rfl,r1.mono g2.ext,r2⟩
noncomputable def B6(f:Rho->Option (List D)):DE:=λρ=>(f ρ).map PyData.tuple
def cE9(h:JA X es f)(hn:es.length<=1000:=by decide):JE X (.Tuple es k pos) (B6 f):=λρ d q=>by
 obtain⟨ds,h1,h2⟩:=xmo q;subst h2;refine B9 (cx2 λpos pins s σ H Q I t=>h.run ρ ds h1 pos pins s σ H Q I t) λσ H Q ⟨H0,Hf,s,sl,k⟩=>?_
 refine⟨H0,Hf,s,sl,λvs H1 Hf1 g r=>⟨?_,λp hp=>?_⟩⟩
 .rw[r.length,h.len ρ ds h1];exact cy<|at7 hn
 .exact k _ _ _ (g.trans<|Grow.laid g.sub hp) ⟨p,vs,rfl,SqT.of C2,r.mono (Grow.laid (o:=.tup vs) g.sub hp).ext⟩
def cE3(h:JA X es f)(hn:es.length<=1000:=by decide):JN X (.List es pos) f:=λρ ds h1=>by
 refine B9 (cx7 λpos pins s σ H Q I t=>h.run ρ ds h1 pos pins s σ H Q I t) λσ H Q ⟨H0,Hf,s,sl,k⟩=>?_
 refine⟨H0,Hf,s,sl,λvs H1 Hf1 g r=>⟨?_,λp hp=>?_⟩⟩
 .rw[r.length,h.len ρ ds h1];exact cy<|at7 hn
 .exact k _ _ _ (g.trans<|Grow.made g.sub hp) ⟨p,vs,rfl,g.big.free hp,C2,g.sub.free hp,r⟩
noncomputable def S8(f:Rho->Option (List D)):DE:=λρ=>(f ρ).map PyData.list
def aG0(h:JN X e f):JE X e (S8 f):=λρ d q=>by
 obtain⟨ds,h1,h2⟩:=xmo q;subst h2;refine B9 (h ρ ds h1) λσ H Q ⟨H0,Hf,s,sl,k⟩=>⟨H0,Hf,s,sl,λv H' Hf' g ⟨a,vs,e1,e2,e3,e4,e5⟩=>?_⟩
 subst e1;exact k _ _ _ (g.freeze e3 e4 e2) ⟨a,vs,rfl,SqL.of C2,e5.mono<|E5 e4⟩
def bO3(h:JN X e f):JQ X e (λρ=>(f ρ).map λds=>(false,ds)):=λρ t ds q=>by
 obtain⟨ds',h1,h2⟩:=xmo q;cases h2;refine B9 (h ρ ds h1) λσ H Q ⟨H0,Hf,s,sl,k⟩=>⟨H0,Hf,s,sl,λv H' Hf' g ⟨a,vs,e1,e2,e3,e4,e5⟩=>?_⟩
 subst e1;exact k _ _ _ g ⟨a,vs,rfl,SqL.of e3,e5⟩
noncomputable def OpD(X:Cx)(F:fR->fR->Sem fR)(h:D->D->Option D):Prop:=∀x y z,h x y=Z z ->
 OpR X F λvx vy H Q=>∃Hf,E8 Hf H/\Rep X.K Hf x vx/\Rep X.K Hf y vy/\∀v H' Hf',Grow H Hf H' Hf'->Rep X.K Hf' z v->Q v H'
noncomputable def A5(h:D->D->Option D)(f g:DE):DE:=λρ=>(f ρ).bind λx=>(g ρ).bind λy=>h x y
def ac3(o:OpD X (fo op) h)(ha:JE X a f)(hb:JE X b g):JE X (.BinOp a op b pos) (A5 h f g):=λρ d q=>by
 obtain⟨x,h1,q⟩:=xbm q;obtain⟨y,h2,h3⟩:=xbm q;refine B9 (co0 (o x y d h3) (ha ρ x h1)<|hb ρ y h2) λσ H Q ⟨H0,Hf,s,sl,k⟩=>?_
 refine⟨H0,Hf,s,sl,λv H1 Hf1 g1 r1=>⟨H0,Hf1,g1.sub,sl.grow g1,λu H2 Hf2 g2 r2=>?_⟩⟩;exact⟨Hf2,g2.sub,r1.mono g2.ext,r2,λw H3 Hf3 g3 r3=>k w H3 Hf3 ((g1.trans g2).trans g3) r3⟩
def cG2(o:OpD X (ff op) h)(ha:JE X a f)(hb:JE X b g)(hm:behindInMarks op b=false:=by first|exact bK7 _|rfl):JE X (.Compare a [op] [b] pos) (A5 h f g):=λρ d q=>by
 obtain⟨x,h1,q⟩:=xbm q;obtain⟨y,h2,h3⟩:=xbm q;refine B9 (cc0 (o x y d h3) (ha ρ x h1) (hb ρ y h2) hm) λσ H Q ⟨H0,Hf,s,sl,k⟩=>?_
 refine⟨H0,Hf,s,sl,λv H1 Hf1 g1 r1=>⟨H0,Hf1,g1.sub,sl.grow g1,λu H2 Hf2 g2 r2=>?_⟩⟩;exact⟨Hf2,g2.sub,r1.mono g2.ext,r2,λw H3 Hf3 g3 r3=>k w H3 Hf3 ((g1.trans g2).trans g3) r3⟩
def OpR.imp(h:OpR X F r)(i:∀x y H Q,r' x y H Q->r x y H Q):OpR X F r':=λpins s σ H x y v u Q I rx ry q=>h pins s σ H x y v u Q I rx ry<|i x y H Q q
end
section
variable {X:Cx}
noncomputable def F5(i:Int):Prop:=i.natAbs < 2 ^ 8000
instance:DecidablePred F5:=λi=>inferInstanceAs<|Decidable (i.natAbs < 2 ^ 8000)
def F5.log(h:F5 i)(h0:i.natAbs≠0):i.natAbs.log2 < 8000:=(Nat.log2_lt h0).mpr h
def F5.bits(h:F5 i):Builtin.Int.intBits i<=2 ^ 20:=by
 unfold Builtin.Int.intBits;split
 .exact aO _
 .rename_i h0;have:=h.log (by simpa using h0)
  grind
def cc8:OpR X (fo .Mult) (rI (λi j=>F5 i/\F5 j) λi j=>.int<|i*j):=opI λ_ _ _ _ _ _ _ hc q=>mul_int q<|PySem.IntMulOk.of_bits hc.1.bits hc.2.bits
noncomputable def cX6(x y:D):Option D:=match x,y with
 | .int i,.int j=>Z<|.int (i+j)
 | _,_=>O
noncomputable def ao2(x y:D):Option D:=match x,y with
 | .int i,.int j=>Z<|.int (i - j)
 | .int i,.bool b=>Z<|.int (i - if b=true then 1 else 0)
 | .bool a,.int j=>Z<|.int ((if a=true then 1 else 0) - j)
 | _,_=>O
noncomputable def cA9(x y:D):Option D:=match x,y with
 | .int i,.int j=>if F5 i/\F5 j then Z (.int<|i*j) else O
 | _,_=>O
noncomputable def am7(x y:D):Option D:=match x,y with
 | .int i,.int j=>if 0 < j/\F5 j then Z (.int<|i / j) else O
 | _,_=>O
noncomputable def p7(x y:D):Option D:=match x,y with
 | .int i,.int j=>if 0 < j then Z (.int<|i % j) else O
 | _,_=>O
def da4:OpD X (fo .Add) cX6:=λx y z h=>by
 unfold cX6 at h;split at h
 .cases h;exact OpR.imp bK0 λvx vy H Q ⟨Hf,s,r1,r2,k⟩=>⟨_,_,r1,r2,k _ H Hf (Grow.refl s) rfl⟩
 .cases h
def cy8:OpD X (fo .Sub) ao2:=λx y z h=>by
 unfold ao2 at h;split at h
 .cases h;exact OpR.imp cy3 λvx vy H Q ⟨Hf,s,r1,r2,k⟩=>⟨_,_,r1,r2,k _ H Hf (Grow.refl s) rfl⟩
 .cases h;intro pins s σ H vx vy v u Q I rx ry ⟨Hf,ss,r1,r2,k⟩;cases r1;cases r2;obtain⟨t,rfl⟩:=rx;obtain rfl:u=Value.bool _:=ry;exact PySem.IntBool.sub_int_bool ⟨.int _,H,I.tok _,⟨_,rfl⟩,k _ H Hf (Grow.refl ss) rfl⟩
 .cases h;intro pins s σ H vx vy v u Q I rx ry ⟨Hf,ss,r1,r2,k⟩;cases r1;cases r2;obtain⟨t,rfl⟩:=ry;obtain rfl:v=Value.bool _:=rx;exact PySem.IntBool.sub_bool_int ⟨.int _,H,I.tok _,⟨_,rfl⟩,k _ H Hf (Grow.refl ss) rfl⟩
 .cases h
def cy9:OpD X (fo .Mult) cA9:=λx y z h=>by
 unfold cA9 at h;split at h
 .split at h
  .rename_i c;cases h;exact OpR.imp cc8 λvx vy H Q ⟨Hf,s,r1,r2,k⟩=>⟨_,_,r1,r2,c,k _ H Hf (Grow.refl s) rfl⟩
  .cases h
 .cases h
def bw9:OpR X (fo .FloorDiv) (rI (λ_ j=>0 < j/\F5 j) λi j=>.int<|i / j):=opI λi j _ _ s Q E hc q=>by
 have e:i.fdiv j=i / j:=Int.fdiv_eq_ediv_of_nonneg i (Int.le_of_lt hc.1);refine floordiv_int (by grind) (by rw[e];exact q) (.inl<|PyProof.noPylong_of_log2 ?_);have h2:=hc.2.log (by grind)
 grind
def cz4:OpD X (fo .FloorDiv) am7:=λx y z h=>by
 unfold am7 at h;split at h
 .split at h
  .rename_i c;cases h;exact OpR.imp bw9 λvx vy H Q ⟨Hf,s,r1,r2,k⟩=>⟨_,_,r1,r2,c,k _ H Hf (Grow.refl s) rfl⟩
  .cases h
 .cases h
def cz0:OpD X (fo .Mod) p7:=λx y z h=>by
 unfold p7 at h;split at h
 .split at h
  .rename_i c;cases h;exact OpR.imp cy4 λvx vy H Q ⟨Hf,s,r1,r2,k⟩=>⟨_,_,r1,r2,c,k _ H Hf (Grow.refl s) rfl⟩
  .cases h
 .cases h
def bJ9:OpR X (fo .Add) (λx y H Q=>∃a b ys,x=.ref a/\y=.ref b/\SqT X.K H a []/\SqT X.K H b ys/\Q (.ref b) H):=by
 intro pins s σ H x y v u Q I rx ry h;obtain⟨a,b,ys,rfl,rfl,ha,hb,q⟩:=h;cases rx;cases ry;obtain⟨its,r1,p1,_⟩:=I.tuple ha;obtain⟨its2,r2,p2,_⟩:=I.tuple hb;cases r1;obtain⟨⟨cls,dd,data,sl⟩,ho,hc,n,hd⟩:=id p1;obtain⟨⟨cls2,dd2,data2,sl2⟩,ho2,hc2,n2,hd2⟩:=id p2;simp only at hc hd hc2 hd2;subst hc hd hc2 hd2
 exact concat_meets ⟨_,ho,rfl⟩ ⟨_,ho2,rfl⟩ noFill_tuple_add seq_tuple_add PySem.F.slot_tuple_add PySem.F.entry_tuple_add (PySem.F.args_tuple_add_2 _ _)
   (tuple_addW0 a b _ its2.toArray n n2 dd dd2 sl sl2<|by rfl) ⟨ho,ho2,⟨.ref b,H,I,rfl,q⟩⟩
noncomputable def ac8(x y:D):Option D:=match x,y with
 | .tuple xs,.tuple ys=>if xs.length+ys.length<=16777216 then Z (.tuple<|xs++ys) else O
 | .str a,.str b=>if a.length+b.length<=16777216 then Z (.str<|a++b) else O
 | .int i,.int j=>Z<|.int (i+j)
 | .bool a,.int j=>Z<|.int ((if a=true then 1 else 0)+j)
 | _,_=>O
def bK6:OpD X (fo .Add) ac8:=λx y z h=>by
 unfold ac8 at h;split at h
 .split at h
  .rename_i xs ys c;cases h;cases xs with
   | nil =>
    refine OpR.imp bJ9 λvx vy H Q ⟨Hf,s,r1,r2,k⟩=>?_
    obtain⟨a,vs,rfl,h2,h3⟩:=r1;obtain⟨b,us,rfl,h5,h6⟩:=r2;cases h3;exact⟨a,b,us,rfl,rfl,D1 s h2,D1 s h5,k _ H Hf (Grow.refl s) ⟨b,us,rfl,h5,h6⟩⟩
   | cons d0 ds0 =>
    refine OpR.imp cc9 λvx vy H Q ⟨Hf,s,r1,r2,k⟩=>?_
    obtain⟨a,vs,rfl,h2,h3⟩:=r1;obtain⟨b,us,rfl,h5,h6⟩:=r2;have l1:=h3.length;have l2:=h6.length;refine⟨a,b,vs,us,rfl,rfl,D1 s h2,D1 s h5,?_,by rw[fe];grind,λe=>?_,λe p hp=>?_⟩
    .intro e;subst e;simp at l1
    .subst e;have:ys=[]:=by cases ys<;>simp_all
     subst this;exact k _ H Hf (Grow.refl s) ⟨a,vs,rfl,h2,by rw[br];exact h3⟩
    .exact k _ _ _ (Grow.laid s hp) ⟨p,vs++us,rfl,SqT.of C2,(h3.append h6).mono<|E5 (s.free hp)⟩
  .cases h
 .split at h
  .rename_i c;cases h;exact OpR.imp bi2 λvx vy H Q ⟨Hf,s,r1,r2,k⟩=>⟨_,_,r1,r2,by rw[fe];exact c,k _ H Hf (Grow.refl s) rfl⟩
  .cases h
 .cases h;exact OpR.imp bK0 λvx vy H Q ⟨Hf,s,r1,r2,k⟩=>⟨_,_,r1,r2,k _ H Hf (Grow.refl s) rfl⟩
 .cases h;intro pins s σ H vx vy v u Q I rx ry ⟨Hf,ss,r1,r2,k⟩;cases r1;cases r2;obtain⟨t,rfl⟩:=ry;obtain rfl:v=Value.bool _:=rx;exact PySem.IntBool.add_bool_int ⟨.int _,H,I.tok _,⟨_,rfl⟩,k _ H Hf (Grow.refl ss) rfl⟩
 .cases h
noncomputable def ltI(x y:D):Option D:=match x,y with
 | .int i,.int j=>Z<|.bool (decide (i < j))
 | _,_=>O
noncomputable def leI(x y:D):Option D:=match x,y with
 | .int i,.int j=>Z<|.bool (decide (i<=j))
 | _,_=>O
noncomputable def gtI(x y:D):Option D:=match x,y with
 | .int i,.int j=>Z<|.bool (decide (j < i))
 | _,_=>O
noncomputable def geI(x y:D):Option D:=match x,y with
 | .int i,.int j=>Z<|.bool (decide (j<=i))
 | _,_=>O
def cQ9:OpD X (ff .Lt) ltI:=λx y z h=>by
 unfold ltI at h;split at h
 .cases h;exact OpR.imp cQ2 λvx vy H Q ⟨Hf,s,r1,r2,k⟩=>⟨_,_,r1,r2,k _ H Hf (Grow.refl s) rfl⟩
 .cases h
def cR0:OpD X (ff .LtE) leI:=λx y z h=>by
 unfold leI at h;split at h
 .cases h;exact OpR.imp cQ3 λvx vy H Q ⟨Hf,s,r1,r2,k⟩=>⟨_,_,r1,r2,k _ H Hf (Grow.refl s) rfl⟩
 .cases h
def cR3:OpD X (ff .Gt) gtI:=λx y z h=>by
 unfold gtI at h;split at h
 .cases h;exact OpR.imp cQ4 λvx vy H Q ⟨Hf,s,r1,r2,k⟩=>⟨_,_,r1,r2,k _ H Hf (Grow.refl s) rfl⟩
 .cases h
def cR4:OpD X (ff .GtE) geI:=λx y z h=>by
 unfold geI at h;split at h
 .cases h;exact OpR.imp cQ5 λvx vy H Q ⟨Hf,s,r1,r2,k⟩=>⟨_,_,r1,r2,k _ H Hf (Grow.refl s) rfl⟩
 .cases h
mutual
theorem Rep.reads(I:Inv X pins σ H s):∀{d:D}{v:V}{u:fR},Rep X.K H d v->E4 v u->∃as,Reads s.heap u d as
 | .none,_,_,h,r=>by cases h;cases r;exact⟨_,.none⟩
 | .bool b,_,_,h,r=>by cases h;cases r;exact⟨_,.bool b⟩
 | .int i,_,_,h,r=>by cases h;obtain⟨t,rfl⟩:=r;exact⟨_,.int i t⟩
 | .str x,_,_,h,r=>by cases h;obtain⟨t,rfl⟩:=r;exact⟨_,.str x t⟩
 | .tuple ds,_,_,⟨a,vs,h1,h2,h3⟩,r=>by
  subst h1;cases r;obtain⟨its,rv,⟨o,ho,hc,n,hd⟩,_⟩:=I.tuple h2;obtain⟨as,q⟩:=Reps.reads I h3 rv;exact⟨_,.tuple ho hc hd<|by simpa using q⟩
 | .list ds,_,_,⟨a,vs,h1,h2,h3⟩,r=>by
  subst h1;cases r;obtain⟨its,rv,pl,_⟩:=I.list h2;obtain⟨o,ho,hc,n,hd⟩:=pl.isList;obtain⟨as,q⟩:=Reps.reads I h3 rv;exact⟨_,.list ho hc hd<|by simpa using q⟩
 | .dict kvs,_,_,⟨a,m,h1,h2,h3⟩,r=>by
  subst h1;cases r;obtain⟨_,_,vs,rk,o,es,ep,ho,hx,hd,_,hp,_⟩:=(show P9 X.prog X.w H s.heap a (.dK m) from I.hok a _ h2);obtain⟨as,bs,q1,q2⟩:=RepKs.reads I h3 rk hp;exact⟨_,.dict ho hx.1 hd q1 q2⟩
theorem RepKs.reads(I:Inv X pins σ H s):∀{kvs:List (D×D)}{m:List (Key×V)}{vs:List (Key×fR)}{es:List DictEntry},RepKs X.K H kvs m->KV m vs->Pairs (G2 X.prog X.w) es vs ->
  ∃as bs,ReadsAll s.heap (es.map (·.key)) (kvs.map (·.1)) as/\ReadsAll s.heap (es.map (·.val)) (kvs.map (·.2)) bs
 | [],_,_,_,h,r,p=>by cases h;cases r;cases p;exact⟨_,_,.nil,.nil⟩
 | (k,d)::kvs,_,_,_,⟨x,v,t,h1,h2,h3,h4⟩,r,p=>by
  subst h1 h2;cases r with
  | @cons _ b _ bs r1 r2 =>
   cases p with
   | @cons e kv es _ p1 p2 p3 =>
    obtain⟨as,cs,q1,q2⟩:=RepKs.reads I h4 r2 p3;obtain⟨r1,r3⟩:=r1;rw[← p2]at r3;obtain⟨ds,q3⟩:=Rep.reads I h3 r3;rw[← r1]at p1;have hk:∃t,e.key=.str x t:=Value.isStrOf_shape (x:=x) (v:=e.key) p1;obtain⟨t,hk⟩:=hk;refine⟨_,_,.cons (as:=[]) ?_ q1,.cons q3 q2⟩;show Reads s.heap e.key (.str x) [];rw[hk];exact .str x t
theorem Reps.reads(I:Inv X pins σ H s):∀{ds:List D}{vs:List V}{us:List fR},Reps X.K H ds vs->D8 vs us->∃as,ReadsAll s.heap us ds as
 | [],_,_,h,r=>by cases h;cases r;exact⟨_,.nil⟩
 | d::ds,_,_,⟨v,vr,h1,h2,h3⟩,r=>by
  subst h1;cases r with
  | cons r1 r2 =>
   obtain⟨as,q1⟩:=Rep.reads I h2 r1;obtain⟨bs,q2⟩:=Reps.reads I h3 r2;exact⟨_,.cons q1 q2⟩
end
noncomputable def eqD(x y:D):Option D:=if fI x=true/\fI y=true then Z (.bool<|fJ x y) else O
noncomputable def neD(x y:D):Option D:=if fI x=true/\fI y=true then Z (.bool (!PyData.eqv x y)) else O
def cR5(hu:X.A.units+64 < cLine):OpD X (ff .Eq) eqD:=λx y z h=>by
 unfold eqD at h;split at h
 .rename_i c;cases h;intro pins s σ H vx vy v u Q I rx ry ⟨Hf,ss,r1,r2,k⟩;obtain⟨as,q1⟩:=Rep.reads I (r1.mono ss) rx;obtain⟨bs,q2⟩:=Rep.reads I (r2.mono ss) ry;exact eq_dataH q1 q2 c.1 c.2 hu ⟨.bl _,H,I,rfl,k _ H Hf (Grow.refl ss) rfl⟩
 .cases h
def cQ8(hu:X.A.units+64 < cLine):OpD X (ff .NotEq) neD:=λx y z h=>by
 unfold neD at h;split at h
 .rename_i c;cases h;intro pins s σ H vx vy v u Q I rx ry ⟨Hf,ss,r1,r2,k⟩;obtain⟨as,q1⟩:=Rep.reads I (r1.mono ss) rx;obtain⟨bs,q2⟩:=Rep.reads I (r2.mono ss) ry;exact ne_dataH q1 q2 c.1 c.2 hu ⟨.bl _,H,I,rfl,k _ H Hf (Grow.refl ss) rfl⟩
 .cases h
noncomputable def isN(x y:D):Option D:=match x,y with
 | .none,.none=>Z<|.bool true
 | .dict _,_=>O
 | _,.none=>Z<|.bool false
 | _,_=>O
def bo7{K:ad}{H:Hp}{d:D}{v:V}(h:Rep K H d v):(decide (v=.non))=(match d with | .none=>true|_=>false):=by
 cases d with
 | none=>cases h;rfl
 | bool b=>cases h;rfl
 | int b=>cases h;rfl
 | str b=>cases h;rfl
 | tuple ds=>obtain⟨a,vs,rfl,_⟩:=h;rfl
 | list ds=>obtain⟨a,vs,rfl,_⟩:=h;rfl
 | dict ds=>obtain⟨a,m,rfl,_⟩:=h;rfl
def cz1:OpD X (ff .Is) isN:=λx y z h=>by
 refine OpR.imp cy5 λvx vy H Q ⟨Hf,s,r1,r2,k⟩=>?_
 have e:=bo7 r1
 cases y<;>cases x<;>simp only[isN,bq.injEq,reduceCtorEq]at h <;>
  (subst h;simp only at e;rw[e];exact⟨r2,k _ H Hf (Grow.refl s) rfl⟩)
noncomputable def cz7(x y:D):Option D:=match x,y with
 | .none,.none=>Z<|.bool false
 | .dict _,_=>O
 | _,.none=>Z<|.bool true
 | _,_=>O
def cd4:OpD X (ff .IsNot) cz7:=λx y z h=>by
 refine OpR.imp cc7 λvx vy H Q ⟨Hf,s,r1,r2,k⟩=>?_
 have e:=bo7 r1
 cases y<;>cases x<;>simp only[cz7,bq.injEq,reduceCtorEq]at h <;>
  (subst h;simp only at e;rw[e];exact⟨r2,k _ H Hf (Grow.refl s) rfl⟩)
noncomputable def W3(h1 h2:D->D->Option D)(f g k:DE):DE:=λρ=>(f ρ).bind λx=>(g ρ).bind λy=>(h1 x y).bind λz=>match z with
 | .bool true=>(k ρ).bind λw=>h2 y w
 | .bool false=>Z<|.bool false
 | _=>O
def bP4(o1:OpD X (ff op) h1)(o2:OpD X (ff op') h2)(ha:JE X a f)(hb:JE X b g)(hc:JE X c k)
  (hm:lastMarks [op,op'] [b,c]=false:=by with_unfolding_all rfl):JE X (.Compare a [op,op'] [b,c] pos) (W3 h1 h2 f g k):=λρ d q=>by
 obtain⟨x,e1,q⟩:=xbm q;obtain⟨y,e2,q⟩:=xbm q;obtain⟨z,e3,q⟩:=xbm q;split at q
 .obtain⟨w,e4,e5⟩:=xbm q;refine B9 (aZ1 (o1 x y _ e3) (o2 y w d e5) (ha ρ x e1) (hb ρ y e2) (hc ρ w e4) hm) λσ H Q ⟨H0,Hf,s,sl,kk⟩=>?_
  refine⟨H0,Hf,s,sl,λv H1 Hf1 g1 r1=>⟨H0,Hf1,g1.sub,sl.grow g1,λu H2 Hf2 g2 r2=>⟨Hf2,g2.sub,r1.mono g2.ext,r2,λz' H3 Hf3 g3 r3=>?_⟩⟩⟩;refine⟨true,r3,aG2 ⟨H0,Hf3,g3.sub,sl.grow<|(g1.trans g2).trans g3,λw' H4 Hf4 g4 r4=>⟨Hf4,g4.sub,r2.mono (g3.trans g4).ext,r4,λz2 H5 Hf5 g5 r5=>?_⟩⟩⟩;exact kk z2 H5 Hf5 ((((g1.trans g2).trans g3).trans g4).trans g5) r5
 .cases q;intro pins s σ H Q I ⟨H0,Hf,ss,sl,kk⟩;refine aZ1 (tc:=λ_ _ _=>False) (r':=λ_ _ _ _=>False) (o1 x y _ e3) (λ_ _ _ _ _ _ _ _ _ _ _ _ h=>h.elim) (ha ρ x e1) (hb ρ y e2) (λ_ _ _ _ _ _ h=>h.elim) hm pins s σ H Q I ?_;refine⟨H0,Hf,ss,sl,λv H1 Hf1 g1 r1=>⟨H0,Hf1,g1.sub,sl.grow g1,λu H2 Hf2 g2 r2=>⟨Hf2,g2.sub,r1.mono g2.ext,r2,λz' H3 Hf3 g3 r3=>?_⟩⟩⟩;exact⟨false,r3,aG3<|kk _ H3 Hf3 ((g1.trans g2).trans g3) rfl⟩
 .cases q
def cF4(h:JE X a f):JE X (.BoolOp op [a] pos) f:=λρ d q=>cx4<|h ρ d q
noncomputable def S9(f g:DE):DE:=λρ=>(f ρ).bind λx=>match x with
 | .bool true=>g ρ
 | .bool false=>Z<|.bool false
 | _=>O
noncomputable def dOr(f g:DE):DE:=λρ=>(f ρ).bind λx=>match x with
 | .bool true=>Z<|.bool true
 | .bool false=>g ρ
 | .none=>g ρ
 | .tuple (y::r)=>Z<|.tuple (y::r)
 | _=>O
def bJ0{a b:Expr}{G9:List Expr}{pos:Pos}{ta tb:TE}(ha:PE X a ta)(hb:PE X (.BoolOp .Or (b::G9) pos) tb):PE X (.BoolOp .Or (a::b::G9) pos) (λσ H Q=>ta σ H λx H1=>∃k,cK9 X.K x H1 k/\if k=true then Q x H1 else tb σ H1 Q):=by
 intro pins s σ H Q I h;refine BoolOp_or (thn (ha pins s σ H _ I h) λv s1 ⟨x,H1,I1,r1,k,tk,q1⟩=>?_);refine thn (bF7 pins s1 σ H1 x v (λc H2=>c=k/\H2=H1) I1 r1 ⟨k,tk,rfl,rfl⟩) λc s2 ⟨H2,I2,e1,e2⟩=>?_
 subst e1 e2;cases c with
 | false=>exact hb pins s2 σ _ Q I2 q1
 | true=>exact⟨x,_,I2,r1,q1⟩
noncomputable def bl5(f:DE):DE:=λρ=>(f ρ).bind λx=>match x with
 | .bool c=>Z<|.bool (!c)
 | _=>O
def cG4{a b:Expr}{G9:List Expr}{f g:DE}{pos:Pos}(ha:JE X a f)(hb:JE X (.BoolOp .And (b::G9) pos) g):JE X (.BoolOp .And (a::b::G9) pos) (S9 f g):=λρ d q=>by
 obtain⟨x,e1,q⟩:=xbm q;split at q
 .refine B9 (bJ4 (ha ρ _ e1)<|hb ρ d q) λσ H Q ⟨H0,Hf,s,sl,k⟩=>⟨H0,Hf,s,sl,λv H1 Hf1 g1 r1=>⟨true,r1,aG2 ⟨H0,Hf1,g1.sub,sl.grow g1,λu H2 Hf2 g2 r2=>k u H2 Hf2 (g1.trans g2) r2⟩⟩⟩
 .cases q;refine B9 (bJ4 (tb:=λ_ _ _=>False) (ha ρ _ e1) λ_ _ _ _ _ _ h=>h.elim) λσ H Q ⟨H0,Hf,s,sl,k⟩=>⟨H0,Hf,s,sl,λv H1 Hf1 g1 r1=>⟨false,r1,aG3<|k _ H1 Hf1 g1 rfl⟩⟩
 .cases q
def cT3{a b:Expr}{G9:List Expr}{f g:DE}{pos:Pos}(ha:JE X a f)(hb:JE X (.BoolOp .Or (b::G9) pos) g):JE X (.BoolOp .Or (a::b::G9) pos) (dOr f g):=λρ d q=>by
 obtain⟨x,e1,q⟩:=xbm q;split at q
 .cases q;refine B9 (cn9 (tb:=λ_ _ _=>False) (ha ρ _ e1) λ_ _ _ _ _ _ h=>h.elim) λσ H Q ⟨H0,Hf,s,sl,k⟩=>⟨H0,Hf,s,sl,λv H1 Hf1 g1 r1=>⟨true,r1,aG2<|k _ H1 Hf1 g1 rfl⟩⟩
 .refine B9 (cn9 (ha ρ _ e1)<|hb ρ d q) λσ H Q ⟨H0,Hf,s,sl,k⟩=>⟨H0,Hf,s,sl,λv H1 Hf1 g1 r1=>⟨false,r1,aG3 ⟨H0,Hf1,g1.sub,sl.grow g1,λu H2 Hf2 g2 r2=>k u H2 Hf2 (g1.trans g2) r2⟩⟩⟩
 .refine B9 (bJ0 (ha ρ _ e1)<|hb ρ d q) λσ H Q ⟨H0,Hf,s,sl,k⟩=>⟨H0,Hf,s,sl,λv H1 Hf1 g1 r1=>?_⟩
  cases r1;exact⟨false,rfl,aG3 ⟨H0,Hf1,g1.sub,sl.grow g1,λu H2 Hf2 g2 r2=>k u H2 Hf2 (g1.trans g2) r2⟩⟩
 .cases q;refine B9 (bJ0 (tb:=λ_ _ _=>False) (ha ρ _ e1) λ_ _ _ _ _ _ h=>h.elim) λσ H Q ⟨H0,Hf,s,sl,k⟩=>⟨H0,Hf,s,sl,λv H1 Hf1 g1 r1=>?_⟩
  obtain⟨p,vs,e,h2,h3⟩:=id r1;subst e;refine⟨true,.inr<|.inl ⟨vs,D1 g1.sub h2,?_⟩,aG2<|k _ H1 Hf1 g1 r1⟩;obtain⟨_,_,e,_⟩:=h3;subst e;rfl
 .cases q
def cF5(ha:JE X a f):JE X (.UnaryOp .Not a pos) (bl5 f):=λρ d q=>by
 obtain⟨x,e1,q⟩:=xbm q;split at q
 .cases q;exact B9 (cx5<|ha ρ _ e1) λσ H Q ⟨H0,Hf,s,sl,k⟩=>⟨H0,Hf,s,sl,λv H1 Hf1 g1 r1=>⟨_,r1,k _ H1 Hf1 g1 rfl⟩⟩
 .cases q
noncomputable def bg5:D->Option Bool
 | .none=>Z false
 | .bool b=>Z b
 | .int i=>Z<|i != 0
 | .str x=>if x.length<=16777216 then Z ((x.length:Int) != 0) else O
 | .list ds=>Z (!ds.isEmpty)
 | .tuple ds=>Z (!ds.isEmpty)
 | .dict _=>O
noncomputable def G7(f:DE):Rho->Option Bool:=λρ=>(f ρ).bind bg5
def cC9(ha:JE X a f)(he:∀whole,isTrue a X.env whole=(do let v ← whole;standAt a.pos;holding [v] (truthy v)):=by intro _;rfl):JT X a (G7 f):=λρ c q=>by
 obtain⟨d,e1,e2⟩:=xbm q;refine aR6 (bH6 (ha ρ d e1) he) λσ H Q ⟨H0,Hf,s,sl,k⟩=>⟨H0,Hf,s,sl,λv H1 Hf1 g1 r1=>⟨c,?_,k H1 Hf1 g1⟩⟩
 cases d with
 | none=>cases e2;cases r1;rfl
 | bool b=>cases e2;cases r1;rfl
 | int i=>cases e2;cases r1;rfl
 | str x =>
  simp only[bg5]at e2;split at e2
  .rename_i hx;cases e2;cases r1;exact⟨by rw[fe];exact hx,rfl⟩
  .cases e2
 | list ds =>
  cases e2;obtain⟨a,vs,rfl,h2,h3⟩:=r1;refine .inl ⟨vs,G1 g1.sub h2,?_⟩;have:=h3.length;cases ds<;>cases vs<;>simp_all
 | tuple ds =>
  cases e2;obtain⟨a,vs,rfl,h2,h3⟩:=r1;refine .inr (.inl ⟨vs,D1 g1.sub h2,?_⟩);have:=h3.length;cases ds<;>cases vs<;>simp_all
 | dict _=>cases e2
noncomputable def N0:D->Option Bool
 | .bool b=>Z b
 | _=>O
noncomputable def tB2(h:D->D->Option D)(f g:DE):Rho->Option Bool:=λρ=>(A5 h f g ρ).bind N0
def bu0(h:N0 d=Z c):d=.bool c:=by
 cases d<;>simp[N0]at h;subst h;rfl
def cD1(o:OpD X (ff op) h)(ha:JE X a f)(hb:JE X b g)(hm:behindInMarks op b=false:=by first|exact bK7 _|rfl):JT X (.Compare a [op] [b] pos) (tB2 h f g):=λρ c q=>by
 obtain⟨d,q,e⟩:=xbm q;obtain⟨x,h1,q⟩:=xbm q;obtain⟨y,h2,h3⟩:=xbm q;have:=bu0 e;subst this;refine aR6 (ca5 (o x y _ h3) (ha ρ x h1) (hb ρ y h2) hm) λσ H Q ⟨H0,Hf,s,sl,k⟩=>?_
 refine⟨H0,Hf,s,sl,λv H1 Hf1 g1 r1=>⟨H0,Hf1,g1.sub,sl.grow g1,λu H2 Hf2 g2 r2=>?_⟩⟩;exact⟨Hf2,g2.sub,r1.mono g2.ext,r2,λw H3 Hf3 g3 r3=>⟨c,r3,k H3 Hf3<|(g1.trans g2).trans g3⟩⟩
noncomputable def p9(f g:Rho->Option Bool):Rho->Option Bool:=λρ=>(f ρ).bind λc=>if c then g ρ else Z false
noncomputable def M6(f g:Rho->Option Bool):Rho->Option Bool:=λρ=>(f ρ).bind λc=>if c then Z true else g ρ
noncomputable def O9(f:Rho->Option Bool):Rho->Option Bool:=λρ=>(f ρ).map λc=>!c
def aR5(h:PW X e t)(i:∀σ H Q,t' σ H Q->t σ H Q):PW X e t':=λwhole pins s σ H Q I q=>h whole pins s σ H Q I<|i σ H Q q
def bN7(h:JW X e f):JT X e f:=λρ c q=>(h ρ c q).pt
def cf0(h:JT X a f):JW X (.BoolOp .And [a] pos) f:=λρ c q=>ca2<|h ρ c q
def cC5(h:JT X a f):JW X (.BoolOp .Or [a] pos) f:=λρ c q=>cw1<|h ρ c q
def cC6{a b:Expr}{G9:List Expr}{f g:Rho->Option Bool}{pos:Pos}(ha:JT X a f)(hb:JW X (.BoolOp .And (b::G9) pos) g):JW X (.BoolOp .And (a::b::G9) pos) (p9 f g):=λρ c q=>by
 obtain⟨x,e1,q⟩:=xbm q;cases x with
 | true=>exact aR5 (bH4 (ha ρ _ e1) (hb ρ c (by simpa using q))) λσ H Q ⟨H0,Hf,s,sl,k⟩=>⟨H0,Hf,s,sl,λH1 Hf1 g1=>aG2 ⟨H0,Hf1,g1.sub,sl.grow g1,λH2 Hf2 g2=>k H2 Hf2<|g1.trans g2⟩⟩
 | false =>
  have:c=false:=by simpa using q.symm
  subst this;exact aR5 (bH4 (tB':=λ_ _ _=>False) (ha ρ _ e1) λ_ _ _ _ _ _ _ h=>h.elim) λσ H Q ⟨H0,Hf,s,sl,k⟩=>⟨H0,Hf,s,sl,λH1 Hf1 g1=>aG3<|k H1 Hf1 g1⟩
def cS9{a b:Expr}{G9:List Expr}{f g:Rho->Option Bool}{pos:Pos}(ha:JT X a f)(hb:JW X (.BoolOp .Or (b::G9) pos) g):JW X (.BoolOp .Or (a::b::G9) pos) (M6 f g):=λρ c q=>by
 obtain⟨x,e1,q⟩:=xbm q;cases x with
 | false=>exact aR5 (cn7 (ha ρ _ e1) (hb ρ c (by simpa using q))) λσ H Q ⟨H0,Hf,s,sl,k⟩=>⟨H0,Hf,s,sl,λH1 Hf1 g1=>aG3 ⟨H0,Hf1,g1.sub,sl.grow g1,λH2 Hf2 g2=>k H2 Hf2<|g1.trans g2⟩⟩
 | true =>
  have:c=true:=by simpa using q.symm
  subst this;exact aR5 (cn7 (tB':=λ_ _ _=>False) (ha ρ _ e1) λ_ _ _ _ _ _ _ h=>h.elim) λσ H Q ⟨H0,Hf,s,sl,k⟩=>⟨H0,Hf,s,sl,λH1 Hf1 g1=>aG2<|k H1 Hf1 g1⟩
def cD0(ha:JT X a f):JT X (.UnaryOp .Not a pos) (O9 f):=λρ c q=>by
 obtain⟨x,e1,e2⟩:=xmo q;subst e2;exact aR6 (cw3<|ha ρ x e1) λσ H Q ⟨H0,Hf,s,sl,k⟩=>⟨H0,Hf,s,sl,λH1 Hf1 g1=>k H1 Hf1 g1⟩
noncomputable def aI2(t:Rho->Option Bool)(f g:DE):DE:=λρ=>(t ρ).bind λc=>if c then f ρ else g ρ
def cG0(hc:JT X c t)(ha:JE X a f)(hb:JE X b g):JE X (.IfExp c a b pos) (aI2 t f g):=λρ d q=>by
 obtain⟨x,e1,q⟩:=xbm q;cases x with
 | true=>exact B9 (aZ0 (tb:=λ_ _ _=>False) (hc ρ _ e1) (ha ρ d (by simpa using q)) (λ_ _ _ _ _ _ h=>h.elim)) λσ H Q ⟨H0,Hf,s,sl,k⟩=>⟨H0,Hf,s,sl,λH1 Hf1 g1=>aG2 ⟨H0,Hf1,g1.sub,sl.grow g1,λu H2 Hf2 g2 r2=>k u H2 Hf2 (g1.trans g2) r2⟩⟩
 | false=>exact B9 (aZ0 (ta:=λ_ _ _=>False) (hc ρ _ e1) (λ_ _ _ _ _ _ h=>h.elim) (hb ρ d (by simpa using q))) λσ H Q ⟨H0,Hf,s,sl,k⟩=>⟨H0,Hf,s,sl,λH1 Hf1 g1=>aG3 ⟨H0,Hf1,g1.sub,sl.grow g1,λu H2 Hf2 g2 r2=>k u H2 Hf2 (g1.trans g2) r2⟩⟩
noncomputable def dIx(f:Rho->Option (Bool×List D))(g:DE):DE:=λρ=>(f ρ).bind λq=>(g ρ).bind λi=>match i with
 | .int i=>atI q.2 i
 | _=>O
def bZ7{K:ad}{H:Hp}{ds:List D}{vs:List V}{i:Int}{d:D}(h:Reps K H ds vs)(e:atI ds i=Z d):∃v,atI vs i=Z v/\Rep K H d v:=by
 unfold atI at e ⊢;rw[h.length];obtain⟨j,h1,h2⟩:=xbm e;obtain⟨v,h3,h4⟩:=h.get h2;exact⟨v,by rw[h1];exact h3,h4⟩
def cT4{a b:Expr}{f:Rho->Option (Bool×List D)}{g:DE}{pos:Pos}(ha:JQ X a f)(hb:JE X b g)(hs:as3 b:=by intro _ _;rfl):JE X (.Subscript a b pos) (dIx f g):=λρ d q=>by
 obtain⟨⟨t,ds⟩,h1,q⟩:=xbm q;obtain⟨y,h2,h3⟩:=xbm q;split at h3
 .refine B9 (co1 bP6 (ha ρ t ds h1) (hb ρ _ h2) hs) λσ H Q ⟨H0,Hf,s,sl,k⟩=>?_
  refine⟨H0,Hf,s,sl,λv H1 Hf1 g1 ⟨p,vs,e1,e2,e3⟩=>⟨H0,Hf1,g1.sub,sl.grow g1,λu H2 Hf2 g2 r2=>?_⟩⟩;obtain⟨w,q1,q2⟩:=bZ7 (e3.mono g2.ext) h3;cases t with
  | true=>exact .inr<|.inl ⟨p,vs,_,w,e1,r2,D1 g2.big e2,q1,k w H2 Hf2 (g1.trans g2) q2⟩
  | false=>exact .inl ⟨p,vs,_,w,e1,r2,G1 g2.big e2,q1,k w H2 Hf2 (g1.trans g2) q2⟩
 .cases h3
noncomputable def R8(xs:List D)(lo hi:Option Int):List D:=(xs.drop<|HT.sIx xs.length 0 lo).take<|HT.sIx xs.length xs.length hi - HT.sIx xs.length 0 lo
def aE3{K:ad}{H:Hp}{ds:List D}{vs:List V}(h:Reps K H ds vs)(lo hi:Option Int):Reps K H (R8 ds lo hi) (be0 vs lo hi):=by
 unfold R8 be0;rw[h.length];exact(h.drop _).take _
noncomputable def JO(X:Cx)(e:Option Expr)(f:Rho->Option (Option Int)):Prop:=∀ρ o,f ρ=Z o->PO X e (λσ H Q=>∃H0 Hf,E8 Hf H/\Slots X.K H0 ρ σ H Hf/\∀H' Hf',Grow H Hf H' Hf'->Q o H')
noncomputable def C7:Rho->Option (Option Int):=λ_=>Z O
noncomputable def aO0:D->Option Int
 | .int i=>Z i
 | _=>O
noncomputable def B7(f:DE):Rho->Option (Option Int):=λρ=>(f ρ).bind λd=>(aO0 d).map Z
def cg1:JO X O C7:=λρ o q=>by
 cases q;intro pins s σ H Q I ⟨H0,Hf,ss,sl,k⟩;exact cb2 pins s σ H Q I<|k H Hf (Grow.refl ss)
def cg0(h:JE X e f):JO X (Z e) (B7 f):=λρ o q=>by
 obtain⟨d,e1,e2⟩:=xbm q;obtain⟨i,e3,e4⟩:=xmo e2;subst e4;cases d<;>simp[aO0]at e3;subst e3;intro pins s σ H Q I ⟨H0,Hf,ss,sl,k⟩;exact cb1 (h ρ _ e1) pins s σ H Q I ⟨H0,Hf,ss,sl,λv H1 Hf1 g1 r1=>⟨_,r1,k H1 Hf1 g1⟩⟩
noncomputable def bd8(f:DE)(lo hi:Rho->Option (Option Int)):DE:=λρ=>(f ρ).bind λd=>(lo ρ).bind λl=>(hi ρ).bind λh=>match d with
 | .tuple xs=>Z<|.tuple (R8 xs l h)
 | _=>O
def aj4{prog:fh}{w:World}{A:fi}{E:fR->fS->Prop}{s:fS}{t sl:fT}{items:Array fR}{vl vu:fR}{lo hi:Option Int}{Q:fR->fS->Prop}(ht:IsTup s.heap t items)(hs:s.heap.IsSliceOf sl vl vu .none)(pl:IsPart vl lo)(pu:IsPart vu hi)
  (hw:HT.sIx items.size 0 lo=0/\HT.sIx items.size items.size hi=items.size) (h:Q (.ref t) s):fD (fE prog w) A (getItem (.ref t)<|.ref sl) Q E s:=by
 obtain⟨os,hos,hcs,hds⟩:=id hs;have hTs:s.TypeIs (.ref sl) "slice" := ⟨os,hos,hcs⟩;unfold getItem
 try with_reducible refine wpAny_holding ?_
 first|refine eS (eT ?_)|skip
 refine eS (wpAny_sequenceKey ht.typeIs (by decide) ?_)
 refine eS (wpAny_callSpecial?_slot (name:=Str.ofString "__getitem__") ht.typeIs PyProof.Rows.slot_tuple_getitem
  (wpAny_call_entry PyProof.Rows.slot_tuple_getitem ht.typeIs entry_tuple_getitem ?_ (args_tuple_getitem _ _)))
 show fD _ _ (Builtin.Tuple.tupleItemsOf (.ref t) >>= _) _ _ s;refine eS (tupleItemsOf_ ht ?_);refine eS (wpAny_typeOf hTs ?_);rw[if_pos (by decide)];refine eS (HT.sliceApplied_gen hs pl pu ?_);have hyes:((((HT.sIx items.size 0 lo:Nat):Int)==0&&(1:Int)==1&&(HT.sIx items.size items.size hi - HT.sIx items.size 0 lo)==items.size)=true):=by rw[hw.1,hw.2];simp
 show fD _ _ (if(((HT.sIx items.size 0 lo:Nat):Int)==0&&(1:Int)==1&&(HT.sIx items.size items.size hi - HT.sIx items.size 0 lo)==items.size)=true then _ else _) _ _ s;rw[if_pos hyes];unfold Builtin.Tuple.tupleIsExact;refine eS (eS<|wpAny_typeOf ht.typeIs (eT ?_));rw[if_pos (by decide +kernel)];exact eS<|wpAny_rule (eT ⟨_,rfl,eT h⟩)
def aQ9:SlR X (λx lo hi H Q=>∃a xs,x=.ref a/\SqT X.K H a xs/\(HT.sIx xs.length 0 lo=0/\HT.sIx xs.length xs.length hi=xs.length)/\Q (.ref a) H):=by
 intro pins s σ H x v vl vu lo hi sl Q I rx hs pl pu h;obtain⟨a,xs,rfl,hx,hw,q⟩:=h;cases rx;obtain⟨its,r,ht,hz⟩:=I.tuple hx;have hlen:its.toArray.size=xs.length:=by rw[aw];exact r.length.symm
 refine⟨"tuple", _,PyProof.Rows.slot_tuple_getitem.lookup,ht.typeIs,?_⟩;exact aj4 ht hs pl pu (by rw[hlen];exact hw) ⟨.ref a,H,I,rfl,q⟩
def bO8{a:Expr}{lo hi:Option Expr}{f:DE}{l h:Rho->Option (Option Int)}{pos p2:Pos}(ha:JE X a f)(hl:JO X lo l)(hh:JO X hi h):JE X (.Subscript a (.Slice lo hi O p2) pos) (bd8 f l h):=λρ d q=>by
 obtain⟨x,e1,q⟩:=xbm q;obtain⟨y,e2,q⟩:=xbm q;obtain⟨z,e3,q⟩:=xbm q;cases x with
 | tuple xs =>
  cases q;refine B9 (ap3 (cv1.or aQ9) (ha ρ _ e1) (hl ρ y e2)<|hh ρ z e3) λσ H Q ⟨H0,Hf,s,sl,k⟩=>?_
  refine⟨H0,Hf,s,sl,λv H1 Hf1 g1 ⟨p,vs,q1,q2,q3⟩=>⟨H0,Hf1,g1.sub,sl.grow g1,λH2 Hf2 g2=>⟨H0,Hf2,g2.sub,sl.grow<|g1.trans g2,λH3 Hf3 g3=>?_⟩⟩⟩;subst q1;have q2':=D1 (g2.trans g3).ext q2;have q3':=q3.mono (g2.trans g3).ext;by_cases c:HT.sIx vs.length 0 y=0/\HT.sIx vs.length vs.length z=vs.length
  .refine .inr ⟨p,vs,rfl,D1 g3.sub q2',c,k _ H3 Hf3 ((g1.trans g2).trans g3) ⟨p,vs,rfl,q2',?_⟩⟩
   have:R8 xs y z=xs:=by
    unfold R8;rw[← q3.length,c.1,c.2];simp[q3.length]
   rw[this];exact q3'
  .refine .inl ⟨p,vs,rfl,D1 g3.sub q2',c,λp' hp=>?_⟩;exact k _ _ _ (((g1.trans g2).trans g3).trans<|Grow.laid g3.sub hp) ⟨p',_,rfl,SqT.of C2,(aE3 q3' y z).mono<|E5 (g3.sub.free hp)⟩
 | _=>cases q
end
section
variable {X:Cx}
def bm4:fk "len" = Z (.builtin "len"):=PySem.boot_len
def cK0:fk "all" = Z (.builtin "all"):=by decide +kernel
def cJ9:fk "isinstance" = Z (.builtin "isinstance"):=by decide +kernel
def bm5:fk "int" = Z (.type "int"):=by decide +kernel
def cl6:fk "bool" = Z (.type "bool"):=by decide +kernel
def cJ7:fk "str" = Z (.type "str"):=by decide +kernel
def bu1:fk "list" = Z (.type "list"):=by decide +kernel
def be5:fk "tuple" = Z (.type "tuple"):=by decide +kernel
noncomputable def Q5(f:Rho->Option (Bool×List D)):DE:=λρ=>(f ρ).map λq=>.int q.2.length
def bP0(hg:Gl X "len")(hm:X.mg "len" = O)(h:JQ X e f)(he:fb [e] X.env=[(false,eval e X.env)]:=by rfl):JE X (.Call (.Name "len" p) [e] [] pos) (Q5 f):=λρ d q=>by
 obtain⟨⟨t,ds⟩,h1,h2⟩:=xmo q;subst h2;refine B9 (N7 aV7 hg hm bm4 (D7 (h ρ t ds h1) J2 he) (he:=he)) λσ H Q ⟨H0,Hf,s,sl,k⟩=>?_
 refine⟨H0,Hf,s,sl,λv H1 Hf1 g1 ⟨a,vs,e1,e2,e3⟩=>⟨a,vs,by rw[e1],?_,?_⟩⟩
 .cases t with
  | true=>exact .inr e2
  | false=>exact .inl e2
 .exact k _ H1 Hf1 g1 (by rw[e3.length];rfl)
def bO7(hg:Gl X "tuple")(hm:X.mg "tuple" = O)(h:JQ X e f)(hz:∀ρ ds,f ρ≠Z (true,ds)\/True:=by intros;exact .inr trivial)(he:fb [e] X.env=[(false,eval e X.env)]:=by rfl):
  JE X (.Call (.Name "tuple" p) [e] [] pos) (λρ=>(f ρ).bind λq=>if q.1=true then O else Z (.tuple q.2)):=λρ d q=>by
 obtain⟨⟨t,ds⟩,h1,h2⟩:=xbm q;cases t with
 | true=>simp at h2
 | false =>
  simp only[bh,if_false,bq.injEq]at h2;subst h2;refine B9 (j4 aL4 hg hm be5 (D7 (h ρ false ds h1) J2 he) (he:=he)) λσ H Q ⟨H0,Hf,s,sl,k⟩=>?_
  refine⟨H0,Hf,s,sl,λv H1 Hf1 g1 ⟨a,vs,e1,e2,e3⟩=>⟨a,vs,by rw[e1],.inl ⟨e2,λl hl=>?_⟩⟩⟩;exact k _ _ _ (g1.trans<|Grow.laid g1.sub hl) ⟨l,vs,rfl,SqT.of C2,e3.mono<|E5 (g1.sub.free hl)⟩
def cg2(hg:Gl X "list")(hm:X.mg "list" = O)(h:JQ X e f)(he:fb [e] X.env=[(false,eval e X.env)]:=by rfl):JN X (.Call (.Name "list" p) [e] [] pos) (λρ=>(f ρ).map λq=>q.2):=λρ ds' q=>by
 obtain⟨⟨t,ds⟩,h1,h2⟩:=xmo q;subst h2;refine B9 (j4 aV5 hg hm bu1 (D7 (h ρ t ds h1) J2 he) (he:=he)) λσ H Q ⟨H0,Hf,s,sl,k⟩=>?_
 refine⟨H0,Hf,s,sl,λv H1 Hf1 g1 ⟨a,vs,e1,e2,e3⟩=>⟨a,vs,by rw[e1],?_,λl hl=>?_⟩⟩
 .cases t with
  | true=>exact .inr e2
  | false=>exact .inl e2
 .exact k _ _ _ (g1.trans<|Grow.made g1.sub hl) ⟨l,vs,rfl,g1.big.free hl,C2,g1.sub.free hl,e3⟩
noncomputable def bl6(f:DE):DE:=λρ=>(f ρ).bind λd=>match d with
 | .int i=>Z<|.int i
 | .bool b=>Z<|.int (if b then 1 else 0)
 | _=>O
def bP1(hg:Gl X "int")(hm:X.mg "int" = O)(h:JE X e f)(he:fb [e] X.env=[(false,eval e X.env)]:=by rfl):JE X (.Call (.Name "int" p) [e] [] pos) (bl6 f):=λρ d q=>by
 obtain⟨x,h1,h2⟩:=xbm q;split at h2
 .cases h2;exact B9 (j4 aO7 hg hm bm5 (D7 (h ρ _ h1) J2 he) (he:=he)) λσ H Q ⟨H0,Hf,s,sl,k⟩ =>⟨H0,Hf,s,sl,λv H1 Hf1 g1 r=>.inl ⟨_,by rw[show v=_ from r],k _ H1 Hf1 g1 rfl⟩⟩
 .cases h2;exact B9 (j4 aO7 hg hm bm5 (D7 (h ρ _ h1) J2 he) (he:=he)) λσ H Q ⟨H0,Hf,s,sl,k⟩ =>⟨H0,Hf,s,sl,λv H1 Hf1 g1 r=>.inr ⟨_,by rw[show v=_ from r],k _ H1 Hf1 g1 rfl⟩⟩
 .cases h2
noncomputable def aW3:List D->Option Bool
 | []=>Z true
 | .bool b::r=>(aW3 r).map λc=>b&&c
 | _::_=>O
theorem be9:∀{ds:List D}{c:Bool},aW3 ds=Z c->∃bs:List Bool,ds=bs.map fL/\c=bs.all id
 | [],c,h=>by cases h;exact⟨[],rfl,rfl⟩
 | .bool b::r,c,h=>by
  obtain⟨c',h1,h2⟩:=xmo h;obtain⟨bs,h3,h4⟩:=be9 h1;exact⟨b::bs,by simp[h3],by simp[← h2,h4]⟩
theorem al3{K:ad}{H:Hp}:∀{bs:List Bool}{vs:List V},Reps K H (bs.map fL) vs->vs=bs.map V.bl
 | [],_,h=>h
 | _::_,_,⟨v,r,h1,h2,h3⟩=>by subst h1;rw[show v=_ from h2,al3 h3];rfl
def bD3:U2 X (.builtin "all") (λxs H Q=>X.calm=true/\∃(p:fT) (bs:List Bool),xs=[.ref p]/\SqL X.K H p (bs.map V.bl)/\Q (.bl<|bs.all id) H):=by
 intro pins s σ H xs us Q I r h;obtain⟨hc,p,bs,rfl,hq,q⟩:=h;obtain⟨u,rfl,rx⟩:=X2 r;cases rx;obtain⟨its,rv,pl,hz⟩:=I.list hq;have hlen:=rv.length;have hh:X.A.in1.handled=O:=I.ok.hd hc;have hlt:p < s.heap.objs.size:=by obtain⟨_,e,_⟩:=pl.isList;exact fG e
 refine call_all_walk (wpAny_pyIter_list pl.isList ?_);refine⟨s.heap.objs.size,_,_,_,_,_,λi=>(bs[i]?).getD false,rfl,Walks.list hh _ p (aE hlt) its.toArray,⟨⟨_,fH _ rfl,rfl,rfl⟩,pl.isList.at λo e=>fF _ e⟩,?_,?_⟩
 .intro i v s' Q' E' hv hQ;have hv':its[i]? = Z v:=by simpa using hv
  have:∃b,bs[i]? = Z b:=by
   have:i < its.length:=(ao.mp hv').1;have:i < bs.length:=by simpa using (by grind:i < (bs.map V.bl).length)
   exact⟨bs[i],by simp[this]⟩
  obtain⟨b,hb⟩:=this;obtain⟨u,hu,ru⟩:=rv.get (i:=i) (x:=.bl b) (by simp[hb]);rw[hv']at hu;cases hu;cases ru;exact eW (by simpa [hb] using hQ)
 .intro h' tk hk
  have e:((az its.toArray.size).all λi=>(bs[i]?).getD false)=bs.all id:=by
   have hn:its.toArray.size=bs.length:=by simpa using hlen.symm
   rw[hn,bo];simp only[bt,aR,id];constructor
   .intro h x hx;obtain⟨i,hi,rfl⟩:=List.mem_iff_getElem.mp hx;simpa [hi] using h i hi
   .intro h i hi;simpa [hi] using h bs[i] (aT hi)
  rw[e]
  have I1:Inv X pins σ H { s with heap:=h',toks:=tk }:=by
   have I0:Inv X pins σ H { s with heap:=s.heap.push { cls:=.type "list_iterator", data:=.fields #[.ref p,rawInt 0] } }:=I.kept (t':=s.toks) λb o e=>fF _ e
   refine I.kept (t':=tk) λb o e=>hk b o ?_<|fF _ e
   intro hb;have:b=s.heap.objs.size:=by simpa using hb
   subst this;exact absurd (fG e)<|bz _
  exact⟨.bl<|bs.all id,H,I1,rfl,q⟩
noncomputable def aL2(f:Rho->Option (Bool×List D)):DE:=λρ=>(f ρ).bind λq=>if q.1=true then O else(aW3 q.2).map fL
def cG5(hg:Gl X "all")(hm:X.mg "all" = O)(h:JQ X e f)(hc:X.calm=true:=by rfl)(he:fb [e] X.env=[(false,eval e X.env)]:=by rfl):JE X (.Call (.Name "all" p) [e] [] pos) (aL2 f):=λρ d q=>by
 obtain⟨⟨t,ds⟩,h1,h2⟩:=xbm q;cases t with
 | true=>simp at h2
 | false =>
  simp only[bh,if_false]at h2;obtain⟨c,h3,h4⟩:=xmo h2;subst h4;obtain⟨bs,h5,h6⟩:=be9 h3;subst h5 h6;refine B9 (N7 bD3 hg hm cK0 (D7 (h ρ false _ h1) J2 he) (he:=he)) λσ H Q ⟨H0,Hf,s,sl,k⟩=>?_
  refine⟨H0,Hf,s,sl,λv H1 Hf1 g1 ⟨a,vs,e1,e2,e3⟩=>⟨hc,a,bs,by rw[e1],?_,k _ H1 Hf1 g1 rfl⟩⟩;rw[al3 e3]at e2;exact e2
noncomputable def bj2(T:String)(d:D):Option Bool:=match d with
 | .int _=>(match T with | "int" => Z true | "bool" => Z false | "str" => Z false | "tuple" => Z false | "list" => Z false|_=>O)
 | .bool _=>(match T with | "int" => Z true | "bool" => Z true | "str" => Z false | "tuple" => Z false | "list" => Z false|_=>O)
 | .none=>(match T with | "int" => Z false | "bool" => Z false | "str" => Z false | "tuple" => Z false | "list" => Z false|_=>O)
 | .str _=>(match T with | "int" => Z false | "bool" => Z false | "str" => Z true | "tuple" => Z false | "list" => Z false|_=>O)
 | .tuple _=>(match T with | "int" => Z false | "bool" => Z false | "str" => Z false | "tuple" => Z true | "list" => Z false|_=>O)
 | .list _=>(match T with | "int" => Z false | "bool" => Z false | "str" => Z false | "tuple" => Z false | "list" => Z true|_=>O)
 | _=>O
noncomputable def tyD:D->String
 | .int _ => "int"
 | .bool _ => "bool"
 | .none => "NoneType"
 | .str _ => "str"
 | .tuple _ => "tuple"
 | .list _ => "list"
 | .dict _ => "dict"
def ci5{K:ad}{T:String}{d:D}{b:Bool}(h:bj2 T d=Z b):PySem.W.kitOne K (.type<|tyD d) (.type T)=Z b:=by
 unfold bj2 at h
 cases d<;>first
  | (dsimp only at h;split at h<;>first
   | (cases h;rfl)
   | cases h)
  | cases h
def bW3{T:String}:U2 X (.builtin "isinstance") (λxs H Q=>∃d x b,xs=[x,.ty T]/\Rep X.K H d x/\bj2 T d=Z b/\Q (.bl b) H):=by
 intro pins s σ H xs us Q I r h;obtain⟨d,x,b,rfl,hd,hb,q⟩:=h;obtain⟨u,c,rfl,rx,rc⟩:=bF2 r;cases rc;have e:=ci5 (K:=X.K) hb;have fin:∀tk,EP X pins σ Q (.bool b) { s with toks:=tk }:=λtk=>⟨.bl b,H,I.tok tk,rfl,q⟩
 cases d with
 | none=>cases hd;cases rx;exact PySem.W.kia_one PySem.W.kitx_none I.kIn True.intro e (λz=>nomatch z) fin
 | bool y=>cases hd;cases rx;exact PySem.W.kia_one PySem.W.kitx_bool I.kIn True.intro e (λz=>nomatch z) fin
 | int i=>cases hd;obtain⟨t,rfl⟩:=rx;exact PySem.W.kia_one PySem.W.kitx_int I.kIn True.intro e (λz=>nomatch z) fin
 | str i=>cases hd;obtain⟨t,rfl⟩:=rx;exact PySem.W.kia_one PySem.W.kitx_str I.kIn True.intro e (λz=>nomatch z) fin
 | tuple ds =>
  obtain⟨a,vs,rfl,h2,h3⟩:=hd;cases rx;obtain⟨its,rv,⟨o,ho,hc,_⟩,_⟩:=I.tuple h2;exact PySem.W.kia_one PySem.W.kitx_tuple I.kIn ⟨o,ho,hc⟩ e (λz=>nomatch z) fin
 | list ds =>
  obtain⟨a,vs,rfl,h2,h3⟩:=hd;cases rx;obtain⟨its,rv,pl,_⟩:=I.list h2;obtain⟨o,ho,hc,_⟩:=pl.isList;exact PySem.W.kia_one PySem.W.kitx_list I.kIn ⟨o,ho,hc⟩ e (λz=>nomatch z) fin
 | dict ds=>simp[bj2]at hb
noncomputable def ae0(T:String)(f:DE):DE:=λρ=>(f ρ).bind λd=>(bj2 T d).map fL
def cF9(hg:Gl X "isinstance")(hm:X.mg "isinstance" = O)(hgT:Gl X x)(hmT:X.mg x=O)(hvT:fk x=Z (.type T))(h:JE X e f)
  (hn:x ≠ "__name__" := by decide) (hd:(x==("__debug__" : Str))=false:=by decide)
  (he:fb [e,.Name x p2] X.env=(false,eval e X.env)::fb [.Name x p2] X.env:=by rfl) (he2:fb [.Name x p2] X.env=[(false,eval (.Name x p2) X.env)]:=by rfl) (hpl:(backTo pos<|fb [.Name x p2] X.env).any (·.1)=false:=by rfl) :
  JE X (.Call (.Name "isinstance" p) [e,.Name x p2] [] pos) (ae0 T f):=λρ d q=>by
 obtain⟨y,h1,h2⟩:=xbm q;obtain⟨b,h3,h4⟩:=xmo h2;subst h4;refine B9 (N7 (bW3 (T:=T)) hg hm cJ9 (D7 (h ρ y h1) (D7 (cc2 (v:=.ty T) hgT hmT hvT rfl hn hd) J2 he2) he) (he:=he) (hpl:=hpl)) λσ H Q ⟨H0,Hf,s,sl,k⟩=>?_
 exact⟨H0,Hf,s,sl,λv H1 Hf1 g1 r=>⟨y,v,b,rfl,r.mono g1.sub,h3,k _ H1 Hf1 g1 rfl⟩⟩
noncomputable def spF(K:ad)(n:Nat)(F:List D->Option D):Sp:=λvs H Q _=>vs.length=n/\∃Hf ds d,E8 Hf H/\Reps K Hf ds vs/\F ds=Z d/\∀v H' Hf',Grow H Hf H' Hf'->Rep K Hf' d v->Q v H'
noncomputable def A2(F:List D->Option D)(f:Rho->Option (List D)):DE:=λρ=>(f ρ).bind F
def ci0(Fk:FnOk X.prog X.w X.K X.mg X.base CX0 k f fd ps (spF X.K n F))(hr:Room k X.A)(hg:Gl X x)(hm:X.mg x=Z (.ref f))(hk:bH X.K (.ref f)=true)(hb:f9 X.K fd ps [])
  (ha:JA X (e::es) g) (hn:(e::es).length=n:=by rfl) (hdb:(x==("__debug__" : Str))=false:=by decide) (he:fb (e::es) X.env=(false,eval e X.env)::fb es X.env:=by rfl) (hpl:(backTo pos<|fb es X.env).any (·.1)=false:=by rfl) :
  JE X (.Call (.Name x p) (e::es) [] pos) (A2 F g):=λρ d q=>by
 obtain⟨ds,h1,h2⟩:=xbm q;refine B9 (cc1 Fk hr hg hm hk hb .nil co2 (λpos pins s σ H Q I t=>ha.run ρ ds h1 pos pins s σ H Q I t) hdb he hpl) λσ H Q ⟨H0,Hf,s,sl,kk⟩=>?_
 refine⟨H0,Hf,s,sl,λvs H1 Hf1 g1 r1=>⟨?_,Hf1,ds,d,g1.sub,by rw[br];exact r1,h2,λv H2 Hf2 g2 r2=>kk v H2 Hf2 (g1.trans g2) r2⟩⟩;rw[br,r1.length,ha.len ρ ds h1,hn]
inductive Fl where
 | nx (ρ:Rho)
 | rt (d:D)
 | bk (ρ:Rho)
 | ct (ρ:Rho)
noncomputable abbrev DS:=Rho->Option Fl
structure At (K:ad) (H0 Hf0:Hp) (ρ:Rho) (σ:L2.St) (H Hf:Hp):Prop where
 gr:Grow H0 Hf0 H Hf
 sl:Slots K H0 ρ σ H Hf
noncomputable def Fl.ends(K:ad)(H0 Hf0 Hf:Hp)(En:Ends):Fl->Prop
 | .nx ρ=>∀σ' H' Hf',At K H0 Hf0 ρ σ' H' Hf'->E8 Hf Hf'->En.nx σ' H'
 | .bk ρ=>∀σ' H' Hf',At K H0 Hf0 ρ σ' H' Hf'->E8 Hf Hf'->En.bk σ' H'
 | .ct ρ=>∀σ' H' Hf',At K H0 Hf0 ρ σ' H' Hf'->E8 Hf Hf'->En.ct σ' H'
 | .rt d=>∀v H' Hf',Grow H0 Hf0 H' Hf'->Rep K Hf' d v->En.rt v H'
noncomputable def tJS(K:ad)(H0 Hf0:Hp)(ρ:Rho)(fl:Fl):TS:=λEn σ H=>∃Hf,At K H0 Hf0 ρ σ H Hf/\fl.ends K H0 Hf0 Hf En
noncomputable def JS(X:Cx)(st:Stmt)(f:DS):Prop:=∀ρ fl,f ρ=Z fl->∀H0 Hf0,PS X st<|tJS X.K H0 Hf0 ρ fl
noncomputable def JSs(X:Cx)(sts:List Stmt)(f:DS):Prop:=∀ρ fl,f ρ=Z fl->∀H0 Hf0,PSs X sts<|tJS X.K H0 Hf0 ρ fl
def P5{st:Stmt}{t t':TS}(h:PS X st t)(i:∀En σ H,t' En σ H->t En σ H):PS X st t':=λpins s σ H En I q=>h pins s σ H En I<|i En σ H q
def ap1{st:List Stmt}{t t':TS}(h:PSs X st t)(i:∀En σ H,t' En σ H->t En σ H):PSs X st t':=λpins s σ H En I q=>h pins s σ H En I<|i En σ H q
theorem At.grow{K:ad}{H0 Hf0 H Hf H' Hf':Hp}{ρ:Rho}{σ:L2.St}(a:At K H0 Hf0 ρ σ H Hf)(g:Grow H Hf H' Hf'):At K H0 Hf0 ρ σ H' Hf':=⟨a.gr.trans g,a.sl.grow g⟩
def Fl.ends_mono{K:ad}{H0 Hf0 Hf Hf':Hp}{En:Ends}{fl:Fl}(h:fl.ends K H0 Hf0 Hf En)(e:E8 Hf Hf'):fl.ends K H0 Hf0 Hf' En:=by
 cases fl with
 | nx ρ=>exact λσ' H' Hf'' a s=>h σ' H' Hf'' a<|e.trans s
 | bk ρ=>exact λσ' H' Hf'' a s=>h σ' H' Hf'' a<|e.trans s
 | ct ρ=>exact λσ' H' Hf'' a s=>h σ' H' Hf'' a<|e.trans s
 | rt d=>exact h
noncomputable def B8:DS:=λρ=>Z<|.nx ρ
noncomputable def A7(f g:DS):DS:=λρ=>(f ρ).bind λfl=>match fl with
 | .nx ρ'=>g ρ'
 | fl=>Z fl
def cf4:JSs X [] B8:=λρ fl q H0 Hf0=>by
 cases q;exact ap1 ca7 λEn σ H ⟨Hf,a,e⟩=>e σ H Hf a<|E8.refl _
def bN9{st:Stmt}{sts:List Stmt}{f g:DS}(h1:JS X st f)(h2:JSs X sts g):JSs X (st::sts) (A7 f g):=λρ fl q H0 Hf0=>by
 obtain⟨fl1,e1,q⟩:=xbm q;cases fl1 with
 | nx ρ' =>refine ap1 (ap2 (h1 ρ _ e1 H0 Hf0) (h2 ρ' fl q H0 Hf0)) λEn σ H ⟨Hf,a,e⟩=>⟨Hf,a,λσ' H' Hf' a' s'=>⟨Hf',a',Fl.ends_mono e s'⟩⟩
 | rt d=>cases q;exact ap1 (ap2 (h1 ρ _ e1 H0 Hf0) y9) λEn σ H ⟨Hf,a,e⟩=>⟨Hf,a,e⟩
 | bk ρ'=>cases q;exact ap1 (ap2 (h1 ρ _ e1 H0 Hf0) y9) λEn σ H ⟨Hf,a,e⟩=>⟨Hf,a,e⟩
 | ct ρ'=>cases q;exact ap1 (ap2 (h1 ρ _ e1 H0 Hf0) y9) λEn σ H ⟨Hf,a,e⟩=>⟨Hf,a,e⟩
def cf3{st:Stmt}{f:DS}(h1:JS X st f):JSs X [st] f:=λρ fl q H0 Hf0=>ca6<|h1 ρ fl q H0 Hf0
noncomputable def B0(f:DE):DS:=λρ=>(f ρ).map Fl.rt
def cD3{e:Expr}{f:DE}{pos:Pos}(h:JE X e f):JS X (.Return (Z e) pos) (B0 f):=λρ fl q H0 Hf0=>by
 obtain⟨d,e1,e2⟩:=xmo q;subst e2;exact P5 (cw5<|h ρ d e1) λEn σ H ⟨Hf,a,e⟩=>⟨H0,Hf,a.gr.sub,a.sl,λv H' Hf' g r=>e v H' Hf' (a.gr.trans g) r⟩
noncomputable def sIf(t:Rho->Option Bool)(f g:DS):DS:=λρ=>(t ρ).bind λc=>if c then f ρ else g ρ
def cT1{c:Expr}{a b:List Stmt}{t:Rho->Option Bool}{f g:DS}{pos:Pos}(hc:JT X c t)(ha:JSs X a f)(hb:JSs X b g):JS X (.If c a b pos) (sIf t f g):=λρ fl q H0 Hf0=>by
 obtain⟨x,e1,q⟩:=xbm q;cases x with
 | true =>refine P5 (cn8 (hc ρ _ e1) (ha ρ fl (by simpa using q) H0 Hf0) y9) λEn σ H ⟨Hf,a,e⟩=>⟨H0,Hf,a.gr.sub,a.sl,λH' Hf' g=>aG2 ⟨Hf',a.grow g,Fl.ends_mono e g.ext⟩⟩
 | false =>refine P5 (cn8 (hc ρ _ e1) y9 (hb ρ fl (by simpa using q) H0 Hf0)) λEn σ H ⟨Hf,a,e⟩=>⟨H0,Hf,a.gr.sub,a.sl,λH' Hf' g=>aG3 ⟨Hf',a.grow g,Fl.ends_mono e g.ext⟩⟩
theorem Slots.set{K:ad}{H0 H Hf:Hp}{ρ:Rho}{σ:L2.St}{i:Nat}{d:D}{v:V}(s:Slots K H0 ρ σ H Hf)(r:Rep K Hf d v):Slots K H0 (ρ.set i<|Z (.val d)) (σ.set i<|Z v) H Hf:=by
 refine⟨by simp[s.len],λj b e=>?_,λj k ds es a h1 h2 h3 h4=>?_⟩
 .by_cases q:i=j
  .subst q
   have hi:i < ρ.length:=by
    have:=(ao.mp e).1;simpa using this
   have hi':i < σ.length:=by rw[← s.len];exact hi
   rw[aJ hi]at e;cases e;exact⟨v,aJ hi',r⟩
  .rw[aG q]at e;obtain⟨u,h1,h2⟩:=s.is j b e;exact⟨u,by rw[aG q];exact h1,h2⟩
 .have hj:i≠j:=by
   intro q;subst q
   have hi:i < ρ.length:=by
    have:=(ao.mp h1).1;simpa using this
   rw[aJ hi]at h1;cases h1
  have hk:i≠k:=by
   intro q;subst q
   have hi:i < ρ.length:=by
    have:=(ao.mp h2).1;simpa using this
   rw[aJ hi]at h2;cases h2
  rw[aG hj]at h1 h3;rw[aG hk]at h2 h4;exact s.apart j k ds es a h1 h2 h3 h4
noncomputable def B4(i:Nat)(f:DE):DS:=λρ=>(f ρ).map λd=>.nx<|ρ.set i (Z<|.val d)
def bO1(i:Nat){x:Str}{e:Expr}{f:DE}{pos pos':Pos}(hN:X.N.Nodup)(h:JE X e f)(hi:X.N[i]? = Z x:=by rfl)(hx:Loc X.env.scope x:=by first|exact Or.inl rfl|exact Or.inr rfl)
  (hs:swapsWith e (Z<|.Name x pos') pos.line X.env=pure false:=by rfl) (hf:X.fn x=true\/X.env.scope.names.lookup x=Z .local:=by first|exact .inl rfl|exact .inr rfl):JS X (.Assign [.Name x pos'] e pos) (B4 i f):=λρ fl q H0 Hf0=>by
 obtain⟨d,e1,e2⟩:=xmo q;subst e2;exact P5 (bH8 hN hi hx (h ρ d e1) hs hf) λEn σ H ⟨Hf,a,e⟩=>⟨H0,Hf,a.gr.sub,a.sl,λv H' Hf' g r=>e _ H' Hf' ⟨a.gr.trans g,(a.sl.grow g).set r⟩ g.ext⟩
noncomputable def bG8(i j:Nat)(f:Rho->Option (List D)):DS:=λρ=>(f ρ).bind λds=>match ds with
 | [a,b]=>Z<|.nx ((ρ.set i<|Z (.val a)).set j<|Z (.val b))
 | _=>O
end
def bC2(I:Nat->fS->Prop)
  (turn:∀n s,I n s->fD (fE prog w) A (pyNext it) (λr s1=>match r with
   | none=>R (.ok .next) s1
   | some v=>fD (fE prog w) A (letOwnedTupleGo target it v) (λ_ s1'=>fD (fE prog w) A (assign target env v) (λ_ s2 =>
     fD (fE prog w) A (forIn ifs true λc r=>if r=true then do let ok ← isTrue c env (eval c env);pure (ForInStep.yield ok) else pure (ForInStep.yield r)) (λok s3 =>
      if ok=true then fD (fE prog w) A (eval elt env) (λx s4 =>fD (fE prog w) A (call (.builtin "list.append") [acc,x]) (λ_ s5=>∃m,m < n/\I m s5) (λ_ _=>False) s4) (λ_ _=>False) s3
      else ∃m,m < n/\I m s3) (λ_ _=>False) s2) (λ_ _=>False) s1') (λ_ _=>False) s1) (λ_ _=>False) s)
  (n:Nat) (h:I n s) :
  codeAny (fE prog w) A (.compLoop (.ListComp elt [⟨target,iter,ifs,0⟩] scope pos) 0 it acc env) R s:=by
 refine codeAny_loop rfl I (λn s hI=>?_) n h;show fD _ A ((compTurn (.ListComp elt [⟨target,iter,ifs,0⟩] scope pos) 0 it acc env).onRaise (λx=>do noteFrame x env;theTreesLotGoes x)) _ _ s;refine wpAny_noted ?_;rw[compTurn_list];refine eS (wpAny_standAt<|eS (eU (turn n s hI) (λr s1 h1=>?_) λ_ _ h'=>h'.elim));cases r with
 | none=>exact eT h1
 | some v =>
  refine eS (eU h1 (λ_ s1' h1'=>?_) λ_ _ h'=>h'.elim);refine eS (eU h1' (λ_ s2 h2=>eS<|eU h2 (λok s3 h3=>?_) λ_ _ h'=>h'.elim) λ_ _ h'=>h'.elim);cases ok with
  | false=>exact eT ⟨rfl,h3⟩
  | true =>exact eS<|eS (eU h3 (λx s4 h4=>eS (eU h4 (λ_ s5 h5=>eT (eT ⟨rfl,h5⟩)) λ_ _ h'=>h'.elim)) λ_ _ h'=>h'.elim)
noncomputable def S3(cells:List (Str×fT)):List (Str×NameKind)->List (Str×fT)->List (Str×fT)
 | [],cs=>cs
 | (n,k)::r,cs=>if(k==fQ)=true then S3 cells r ((n,(cells.lookup n).getD 0)::cs) else S3 cells r cs
theorem aI4:∀(names:List (Str×NameKind)) (cs:List (Str×fT)),(∀y∈names,y.2=.free->∃c,env.cells.lookup y.1=Z c) ->
  (forIn names cs λ(x:Str×NameKind) (r:List (Str×fT))=>if(x.2==fQ)=true then do let a ← cellOf env x.1;pure (ForInStep.yield ((x.1,a)::r)) else pure (ForInStep.yield r):Sem (List<|Str×fT))=pure (S3 env.cells names cs)
 | [],cs,_=>rfl
 | (n,k)::r,cs,h=>by
  rw[List.forIn_cons];have hr:∀y∈r,y.2=.free->∃c,env.cells.lookup y.1=Z c:=λy hy=>h y<|xmm _ hy
  by_cases hk:(k==fQ)=true
  .obtain⟨c,hc⟩:=h (n,k) ae (by simpa using hk);have hc':env.cells.lookup n=Z c:=hc;simp only[hk,if_true];have e:cellOf env n=pure c:=by unfold cellOf;rw[hc']
   rw[e];show(forIn r ((n,c)::cs) _:Sem _)=_;rw[aI4 r _ hr];simp only[S3,hk,if_true,hc',dM]
  .have hk':(k==fQ)=false:=by simpa using hk
   simp only[hk',bh,if_false];show(forIn r cs _:Sem _)=_;rw[aI4 r _ hr];simp only[S3,hk',bh,if_false]
def cl2(h:∀y∈scope.names,y.2=.free->∃c,env.cells.lookup y.1=Z c):closureFor scope env=pure (S3 env.cells scope.names []):=by
 have:=aI4 (env:=env) scope.names [] h;unfold closureFor;exact congrArg (λz=>z >>= λcs=>pure cs) this
theorem ar7:∀{names:List (Str×NameKind)}{cs:List (Str×fT)}{x:Str}{c:fT},(x,c)∈S3 cells names cs->(x,c)∈cs\/((x,fQ)∈names/\c=(cells.lookup x).getD 0)
 | [],cs,x,c,h=>.inl h
 | (n,k)::r,cs,x,c,h=>by
  unfold S3 at h;split at h
  .rename_i hk;rcases ar7 h with q|⟨q1,q2⟩
   .rcases am.mp q with q|q
    .cases q;have:k=.free:=by simpa using hk
     subst this;exact .inr ⟨ae,rfl⟩
    .exact .inl q
   .exact .inr ⟨xmm _ q1,q2⟩
  .rcases ar7 h with q|⟨q1,q2⟩
   .exact .inl q
   .exact .inr ⟨xmm _ q1,q2⟩
theorem aa4:∀{names:List (Str×NameKind)}{cs:List (Str×fT)}{x:Str},((x,fQ)∈names\/∃c,(x,c)∈cs)->∃c,(x,c)∈S3 cells names cs
 | [],cs,x,h=>by
  rcases h with h|h
  .cases h
  .exact h
 | (n,k)::r,cs,x,h=>by
  unfold S3;rcases h with h|⟨c,h⟩
  .rcases am.mp h with q|q
   .cases q;rw[if_pos (by rfl)];exact aa4<|.inr ⟨_,ae⟩
   .split
    .exact aa4 (.inl q)
    .exact aa4 (.inl q)
  .split
   .exact aa4 (.inr ⟨c,xmm _ h⟩)
   .exact aa4 (.inr ⟨c,h⟩)
def am1{l:List (Str×fT)}{x:Str}{c:fT}(h:(x,c)∈l):∃c',l.lookup x=Z c':=by
 induction l with
 | nil=>cases h
 | cons p r ih =>
  obtain⟨n,a⟩:=p;rw[aU];cases e:x==n with
  | true=>exact⟨a,rfl⟩
  | false =>
   rcases am.mp h with q|q
   .cases q;simp at e
   .exact ih q
def ap0:(relabel scope env).names.lookup x=Z k->∃k0,scope.names.lookup x=Z k0/\(k=k0\/k0=.free):=by
 unfold relabel;simp only;generalize scope.names=names
 induction names with
 | nil=>intro h;simp at h
 | cons p r ih =>
  obtain⟨n,k1⟩:=p;intro h;rw[bK]at h;by_cases hc:(k1==fQ&&env.scope.kind == .function&&env.kindOf n==Z .cell)=true
  .simp only[hc,if_true,aU]at h;rw[aU];cases e:x==n with
   | true =>
    rw[e]at h;rw[ar,ar]at hc;exact⟨k1,rfl,.inr<|by simpa using hc.1.1⟩
   | false=>rw[e]at h;exact ih h
  .have hc':(k1==fQ&&env.scope.kind == .function&&env.kindOf n==Z .cell)=false:=by simpa using hc
   simp only[hc',bh,if_false,aU]at h;rw[aU];cases e:x==n with
   | true=>rw[e]at h;cases h;exact⟨_,rfl,.inl rfl⟩
   | false=>rw[e]at h;exact ih h
def aR3:scope.names.lookup x=Z .free->(relabel scope env).names.lookup x=Z .cell\/(relabel scope env).names.lookup x=Z .free:=by
 unfold relabel;simp only;generalize scope.names=names
 induction names with
 | nil=>intro h;simp at h
 | cons p r ih =>
  obtain⟨n,k1⟩:=p;intro h;rw[aU]at h;rw[bK];cases e:x==n with
  | true =>
   rw[e]at h;cases h;have en:x=n:=by simpa using e
   subst en;by_cases hc:(fQ==fQ&&env.scope.kind == .function&&env.kindOf x==Z .cell)=true
   .simp only[hc,if_true,aU,e];exact .inl trivial
   .have hc':(fQ==fQ&&env.scope.kind == .function&&env.kindOf x==Z .cell)=false:=by simpa using hc
    simp only[hc',bh,if_false,aU,e];exact .inr trivial
  | false =>
   rw[e]at h;by_cases hc:(k1==fQ&&env.scope.kind == .function&&env.kindOf n==Z .cell)=true
   .simp only[hc,if_true,aU,e];exact ih h
   .have hc':(k1==fQ&&env.scope.kind == .function&&env.kindOf n==Z .cell)=false:=by simpa using hc
    simp only[hc',bh,if_false,aU,e];exact ih h
noncomputable def F4(X:Cx)(N':List Str)(scope:Scope)(C:fT)(s₀:fS)(H₀:Hp)(ex:List fT):Cx where
 prog:=X.prog
 w:=X.w
 K:=X.K
 mg:=X.mg
 base:=X.base
 A:=X.A
 N:=N'
 s₀:=s₀
 H₀:=H₀
 env:=compEnvC scope (S3 X.env.cells scope.names []) C X.env
 outer:=X.stack
 stack:=X.stack
 ex:=ex
 fn:=λ_=>false
 calm:=X.calm
 pn:=[]
 xe:=λ_ _=>False
structure CompSc (X:Cx) (N':List Str) (n:Nat) (caps:List Nat) (scope:Scope):Prop where
 kind:scope.kind=.function
 cell:∀y∈scope.names,y.2≠.cell
 loc:∀y∈scope.names,y.2=.local->scope.names.lookup y.1=Z .local
 free:∀y∈scope.names,y.2=.free->X.env.scope.names.lookup y.1=Z .cell\/X.env.scope.names.lookup y.1=Z .free
 len:N'.length=n+caps.length
 cap:∀(i j:Nat),caps[i]? = Z j->∃x,X.N[j]? = Z x/\N'[n+i]? = Z x/\scope.names.lookup x=Z .free
section
variable {X:Cx}{N':List Str}{n:Nat}{caps:List Nat}{scope:Scope}
def T6{l:List (Str×NameKind)}{x:Str}{k:NameKind}(h:l.lookup x=Z k):(x,k)∈l:=PySem.mem_of_lookup h
noncomputable def aL3(n:Nat)(caps:List Nat)(σ:L2.St):L2.St:=aB n O++caps.map λj=>(σ[j]?).join
def bl8(S:CompSc X N' n caps scope)(I:Inv X pins σ H s)(hf:∀b∈fp,aw2 X pins H b)(hlt:∀b∈fp,b < s.heap.objs.size)
  (hns:h1.Ns s.heap.objs.size m) (hk:∀b o,s.heap.get? b=Z o->h1.get? b=Z o) :
  Inv (F4 X N' scope s.heap.objs.size s H fp) [] (aL3 n caps σ) H { s with heap:=h1,toks:=tk }:=by
 have cl_of:∀x c,(S3 X.env.cells scope.names []).lookup x=Z c->X.env.cells.lookup x=Z c:=λx c h=>by
  have hm:=PySem.mem_of_lookup h;rcases ar7 hm with q|⟨q1,q2⟩
  .cases q
  .obtain⟨c',hc'⟩:=I.ok.has x (S.free _ q1 rfl);rw[hc']at q2;rw[hc',q2];rfl
 have cl_has:∀x,(x,fQ)∈scope.names->∃c,(S3 X.env.cells scope.names []).lookup x=Z c:=λx h=>by
  obtain⟨c,hc⟩:=aa4 (cells:=X.env.cells) (cs:=[]) (.inl h);exact am1 hc
 have kind_free:∀x,((relabel scope X.env).names.lookup x=Z .cell\/(relabel scope X.env).names.lookup x=Z .free)->(x,fQ)∈scope.names:=λx h=>by
  rcases h with h|h
  .obtain⟨k0,e1,e2⟩:=ap0 h;rcases e2 with e2|e2
   .subst e2;exact absurd rfl<|S.cell _ (T6 e1)
   .subst e2;exact T6 e1
  .obtain⟨k0,e1,e2⟩:=ap0 h;rcases e2 with e2|e2
   .subst e2;exact T6 e1
   .subst e2;exact T6 e1
 have cell_lt:∀x c,X.env.cells.lookup x=Z c->c < s.heap.objs.size:=λx c e=>by
  obtain⟨v,q⟩:=I.cell x c e;exact q.lt
 have ok:(F4 X N' scope s.heap.objs.size s H fp).Ok:=by
  refine⟨I.ok.mod,S.kind,I.ok.glob,I.ok.blt,ak _,λx y c e1 e2=>I.ok.inj x y c (cl_of x c e1) (cl_of y c e2),λx hx=>cl_has x (kind_free x hx),λx c e _=>(aF e).elim,I.ok.hd,I.ok.frames,.inl rfl,λb hb=>⟨aE (hlt b hb),λx c e=>(hf b hb).2.2.2.2.1 x c (cl_of x c e)⟩,
   I.bs,aQ I.ok.bsz I.sz,λb o e hb=>?_,λb hb hb2=>?_,I.stack,I.stkFree⟩
  .rcases(hf b hb).2.2.2.1 with z|z
   .exact I.ok.noex b o e z
   .exact absurd (aL (fG e)<|aQ I.ok.bsz z) (bz _)
  .rcases am.mp (I.stkSub b hb2) with z|z
   .exact(hf b hb).2.1 z
   .exact(hf b hb).2.2.1 z
 refine⟨ok,rfl,I.bare,Un.kept hk,⟨m,hns,λi x v e1 e2 e3=>?_⟩,λx c e=>?_,I.hok.fresh<|ak _,λx c e=>I.freeC x c<|cl_of x c e,λp hp=>absurd (show p∈([]:List (fT×Obj)) from hp) (by simp),I.hok.kept hk,?_⟩
 .have hi:n<=i:=by
   rcases bL i n with h|h
   .unfold aL3 at e2;rw[aV (by simpa using h),bX,if_pos h]at e2;cases e2
   .exact h
  unfold aL3 at e2;rw[aK (by simpa using hi),aI]at e2;simp only[cH]at e2;cases hj:caps[i - n]? with
  | none=>rw[hj]at e2;cases e2
  | some j =>
   rw[hj]at e2;have e2':(σ[j]?).join=Z v:=by simpa using e2
   have e2'':σ[j]? = Z (Z v):=by
    cases q:σ[j]? with
    | none=>rw[q]at e2';cases e2'
    | some o=>rw[q]at e2';simp at e2';rw[e2']
   obtain⟨y,q1,q2,q3⟩:=S.cap _ _ hj
   have:y=x:=by
    have e1':N'[i]? = Z x:=e1;rw[show n+(i - n)=i by grind,e1']at q2;cases q2;rfl
   subst this;obtain⟨m0,hn0,hl0⟩:=I.loc
   have hv:Vis X.env.scope y:=by
    rcases S.free _ (T6 q3) rfl with z|z
    .exact .inr (.inl z)
    .exact .inr (.inr z)
   obtain⟨u,ru,lk⟩:=hl0 j y v q1 e2'' hv;refine⟨u,ru,.inr ⟨aR3 q3,?_⟩⟩;rcases lk with⟨lk,_⟩|⟨_,c,hc,hcell⟩
   .rcases S.free _ (T6 q3) rfl with z|z
    .have:X.env.scope.names.lookup y=Z .local:=lk;rw[z]at this;cases this
    .have:X.env.scope.names.lookup y=Z .local:=lk;rw[z]at this;cases this
   .obtain⟨c',hc'⟩:=cl_has y (T6 q3);have:=cl_of y c' hc';rw[hc]at this;cases this;obtain⟨o,ho,hd⟩:=hcell;exact⟨c,hc',o,hk c o ho,hd⟩
 .obtain⟨v,o,ho,hd⟩:=I.cell x c (cl_of x c e);exact⟨v,o,hk c o ho,hd⟩
 .show(aL3 n caps σ).length=N'.length;unfold aL3;rw[S.len];simp
def aO5(I:Inv X pins σ H s)(hf:∀b∈fp,aw2 X pins H b)
  (I':Inv (F4 X N' scope s.heap.objs.size s H fp) [] σ' H' s') (sb:Heap.SameBut s.heap.objs.size s'.heap h'):Inv X pins σ H' { s' with heap:=h' }:=by
 have ne:∀b o,s.heap.get? b=Z o->b≠s.heap.objs.size:=λb o e=>aE<|fG e
 refine I.call' (s':={ s' with heap:=h' }) (ch:=fp) I'.os ?_ ?_ I'.bare λb hb=>⟨(hf b hb).2.2.2.1,(hf b hb).2.1,(hf b hb).2.2.2.2.1,(hf b hb).2.2.2.2.2⟩
 .refine⟨λb o e n hb hx=>sb.extBut b o (ne b o e)<|I'.base.keep b o e n hb hx,λb o e n hb hx=>?_,I'.base.free,λb o e hx=>?_,I'.base.tups,I'.base.frzs,I'.base.tbls⟩
  .obtain⟨sl,q⟩:=I'.base.slot b o e n hb hx;exact⟨sl,sb.extBut b _ (ne b o e) q⟩
  .obtain⟨o',q⟩:=I'.base.there b o e hx;exact⟨o',sb.extBut b _ (ne b o e) q⟩
 .intro b u e
  have nC:∀c v,H' c=Z v->c≠s.heap.objs.size:=λc v q z=>by
   have:=I'.free;have z':H' c=O:=by rw[z];exact this
   rw[z']at q;cases q
  refine(I'.hok b u e).stay (λc v hc q=>sb.extBut c v ?_ q) (λ_ q=>q) λ_ _ q=>q
  rcases hc with z|z
  .rw[z];exact nC b u e
  .exact nC c _ z
noncomputable def PTs(X:Cx)(ifs:List Expr)(t:TT):Prop :=
 ∀(pins:List (fT×Obj)) (s:fS) (σ:L2.St) (H:Hp) (Q:Bool->Hp->Prop),Inv X pins σ H s->t σ H Q ->
  fD (fE X.prog X.w) X.A (forIn ifs true λc r=>if r=true then do let ok ← isTrue c X.env (eval c X.env);pure (ForInStep.yield ok) else pure (ForInStep.yield r)) (TP X pins σ Q) X.xe s
def ca4:PTs X [] (λ_ H Q=>Q true H):=λpins s σ H Q I h=>wpAny_tests_nil ⟨H,I,h⟩
def ca3(h:PT X c t):PTs X [c] t:=λpins s σ H Q I q=>wpAny_tests_one<|h pins s σ H Q I q
noncomputable def bF9(n:Nat)(caps:List Nat)(wi:TI)(g:TG)(tc:TT)(te:TE):TE:=λσ H Q=>wi σ H λJ H1=>∀Dd,H1 Dd=O->∃W:Nat->Nat->List V->L2.St->Hp->Prop,
 (∃m,W 0 m [] (aL3 n caps σ)<|upd H1 Dd (.lst [])) /\
 ∀i m ys σ' H',W i m ys σ' H' ->
  (J.stop i H'/\Q (.ref Dd) H') \/
  (J.go i H'/\∀x H2,J.yld i H' x H2->g x σ' H2 λσ3 H3=>tc σ3 H3 λb H4 =>
   if b=true then te σ3 H4 λy H5=>H5 Dd=Z (.lst ys)/\ys.length < fc/\∃m',m' < m/\W (i+1) m' (ys++[y]) σ3 (upd H5 Dd<|.lst (ys++[y]))
   else ∃m',m' < m/\W (i+1) m' ys σ3 H4)
def be1{elt tgt iter:Expr}{ifs:List Expr}{pos:Pos}{wi:TI}{g:TG}{tc:TT}{te:TE}{RR:fR->fT->Result->fS->Prop}{E:fR->fS->Prop}(S:CompSc X N' n caps scope)(hx:∀e s,X.xe e s->False)(hc:X.calm=true)
  (hi:PI X tgt iter wi) (hg:∀C s0 H0 ex,PG (F4 X N' scope C s0 H0 ex) tgt g) (ht:∀C s0 H0 ex,PTs (F4 X N' scope C s0 H0 ex) ifs tc) (he:∀C s0 H0 ex,PE (F4 X N' scope C s0 H0 ex) elt te)
  {pins:List (fT×Obj)}{s:fS}{σ:L2.St}{H:Hp}{Q:VK}(I:Inv X pins σ H s) (h:bF9 n caps wi g tc te σ H Q)
  (hRR:∀D C r s',r=.ok .next->(∃m,s'.heap.Ns C m/\∀h',Heap.SameBut C s'.heap h'->∃H',Inv X pins σ H' { s' with heap:=h' }/\Q (.ref D) H') ->
   (∃s2 fp σ' H2 H',s2.heap.objs.size=C/\Inv X pins σ H2 s2/\(∀b∈fp,aw2 X pins H2 b)/\Inv (F4 X N' scope s2.heap.objs.size s2 H2 fp) [] σ' H' s'/\Q (.ref D) H')->RR (.ref D) C r s') :
  fD (fE X.prog X.w) X.A (eval iter X.env) (λx s₁=>fD (fE X.prog X.w) X.A (pyIter x) (λit s₂=>fD (fE X.prog X.w) X.A (newList []) (λacc s₃ =>
   fD (fE X.prog X.w) X.A (newFunctionEnv scope X.env.globals (S3 X.env.cells scope.names []) [] X.env.qual O .none (Z X.env)) (λcenv s₄ =>
    codeAny (fE X.prog X.w) X.A (.compStart (.ListComp elt [⟨tgt,iter,ifs,0⟩] scope pos) 0 it acc { cenv with scope:=relabel scope X.env }) (RR acc cenv.locals) s₄) E s₃) E s₂) E s₁) E s:=by
 refine eU (hi pins s σ H _ I h) (λv s1 h1=>eU h1 (λitv s2 h2=>?_) λ_ _ z=>(hx _ _ z).elim) λ_ _ z=>(hx _ _ z).elim
 obtain⟨it,fp,tn,J,H2,e,I2,T,st2,f2,R⟩:=h2;subst e;refine eV (wpAny_newFunctionEnv S.cell (by intro y hy;simp at hy) (λh₁ hns₁ hsb₁=>?_) S.kind);dsimp only at hns₁ hsb₁ ⊢;obtain⟨W,⟨m0,w0⟩,turn⟩:=R s2.heap.objs.size<|I2.hok.fresh (ak _)
 have lt2:∀b∈fp,b < s2.heap.objs.size:=λb hb=>by
  obtain⟨o,ho,_⟩:=T.obj _ _ st2 b hb;exact fG ho
 have I3:Inv X pins σ (upd H2 s2.heap.objs.size<|.lst []) { s2 with heap:=s2.heap.push { cls:=.type "list", dict:=O,data:=.seq ([]:List fR).toArray } } :=
  I2.laid (t':=s2.toks) (λb u e=>fF _ e) (ak _) ⟨aO _,[],0,.nil,fH _ rfl⟩
 generalize hs3:({ s2 with heap:=s2.heap.push { cls:=.type "list", dict:=O,data:=.seq ([]:List fR).toArray } }:fS)=s3 at I3;have es3:s3.heap=s2.heap.push { cls:=.type "list", dict:=O,data:=.seq ([]:List fR).toArray }:=by rw[← hs3]
 rw[← es3]at hns₁ hsb₁ ⊢;have keep3:∀b o,s3.heap.get? b=Z o->h₁.get? b=Z o:=λb o e=>hsb₁.extBut b o (aE<|fG e)<|fF _ e
 have lt3:∀b∈fp,b < s3.heap.objs.size:=λb hb=>by rw[es3,Heap.size_push];exact cI<|lt2 b hb
 have f3:∀b∈fp,aw2 X pins (upd H2 s2.heap.objs.size<|.lst []) b:=λb hb=>⟨by rw[C8 (aE<|lt2 b hb)];exact(f2 b hb).1,(f2 b hb).2⟩
 generalize hH3:upd H2 s2.heap.objs.size (HO.lst [])=H3 at I3 f3 w0
 have fin3:∀{σ':L2.St}{H':Hp}{pl:List (fT×Obj)},(∀b∈fp,H' b=O)->(∀p∈pl,False)->∀b∈fp,aw2 (F4 X N' scope s3.heap.objs.size s3 H3 fp) pl H' b:=λ{σ' H' pl} hn hp b hb=>by
  refine⟨hn b hb,aE<|lt3 b hb,λz=>?_,.inl hb,λx c e=>?_,λp hp'=>?_⟩
  .rcases am.mp (I3.stkSub b z) with z|z
   .exact(f3 b hb).2.1 z
   .exact(f3 b hb).2.2.1 z
  .have hm:=PySem.mem_of_lookup e;rcases ar7 hm with q|⟨q1,q2⟩
   .cases q
   .obtain⟨c',hc'⟩:=I3.ok.has x (S.free _ q1 rfl);rw[hc']at q2;have q2':c=c':=q2;subst q2';exact(f3 b hb).2.2.2.2.1 x c hc'
  .exact(hp p<|by simpa [F4] using hp').elim
 have toks:∃tk,({ s2 with heap:=h₁,toks:=s2.toks+([]:List (Str×fR)).length }:fS)={ s3 with heap:=h₁,toks:=tk }:=⟨s2.toks,by rw[← hs3];rfl⟩;obtain⟨tk,htk⟩:=toks;have st4:tn 0 h₁:=T.keep 0 s2.heap h₁ st2 λb hb o e=>keep3 b o (by rw[es3];exact fF _ e)
 have I4:Inv (F4 X N' scope s3.heap.objs.size s3 H3 fp) [] (aL3 n caps σ) H3 { s3 with heap:=h₁,toks:=tk }:=bl8 S I3 f3 lt3 hns₁ keep3
 have loop:codeAny (fE X.prog X.w) X.A (.compLoop (.ListComp elt [⟨tgt,iter,ifs,0⟩] scope pos) 0 (.ref it) (.ref s2.heap.objs.size)<|compEnvC scope (S3 X.env.cells scope.names []) s3.heap.objs.size X.env) (RR (.ref s2.heap.objs.size) s3.heap.objs.size) { s3 with heap:=h₁,toks:=tk }:=by
  refine bC2 (λk s'=>∃i ys σ' H',Inv (F4 X N' scope s3.heap.objs.size s3 H3 fp) [] σ' H' s'/\tn i s'.heap/\(∀b∈fp,H' b=O)/\W i k ys σ' H') ?_ m0 ⟨0,[],_,H3,I4,st4,λb hb=>(f3 b hb).1,w0⟩
  rintro k s5 ⟨i,ys,σ5,H5,I5,st5,fr5,w5⟩
  have pz:∀p∈([]:List (fT×Obj)),False:=λp hp=>by cases hp
  rcases turn i k ys σ5 H5 w5 with⟨stop,qn⟩|⟨go,step⟩
  .refine eU (T.done (F4 X N' scope s3.heap.objs.size s3 H3 fp) rfl rfl rfl hc i [] s5 σ5 H5 (λ_ _=>False) I5 (fin3 (σ':=σ5) fr5 pz) st5 stop) (λr s6 ⟨hr,I6⟩=>?_) λ_ _ z=>z
   subst hr;obtain⟨m6,hn6,_⟩:=I6.loc;refine hRR _ _ _ s6 rfl ⟨m6,hn6,λh' sb=>⟨H5,aO5 I3 f3 I6 sb,qn⟩⟩ ⟨s3,fp,σ5,H3,H5,rfl,I3,f3,I6,qn⟩
  .refine eU (T.item (F4 X N' scope s3.heap.objs.size s3 H3 fp) rfl rfl rfl hc i [] s5 σ5 H5 (λ_ _=>False) I5 (fin3 (σ':=σ5) fr5 pz) st5 go) (λr s6 ⟨u,hr,h6⟩=>?_) λ_ _ z=>z
   subst hr;refine eU h6 (λ_ s7 ⟨x,H7,I7,r7,y7,st7,fr7⟩=>?_) λ_ _ z=>z
   have I7':=I7.pinned (fin3 (σ':=σ5) fr7 pz) (T.obj _ _ st7);refine eU (hg _ _ _ _ _ s7 σ5 H7 x u _ I7' r7<|step x H7 y7) (λ_ s8 ⟨σ8,H8,I8,q8⟩=>?_) λ_ _ z=>z
   refine eU (ht _ _ _ _ _ s8 σ8 H8 _ I8 q8) (λok s9 ⟨H9,I9,q9⟩=>?_) λ_ _ z=>z
   have again:∀{σ':L2.St}{H':Hp}{s':fS},Inv (F4 X N' scope s3.heap.objs.size s3 H3 fp) ([]++aE5 fp s7.heap) σ' H' s'->Inv (F4 X N' scope s3.heap.objs.size s3 H3 fp) [] σ' H' s'/\tn (i+1) s'.heap/\∀b∈fp,H' b=O:=λ{σ' H' s'} I'=>by
    refine⟨I'.unpinned,T.keep _ _ _ st7 λb hb o e=>(I'.pin (b,o)<|ag _ (ag _<|ac2 hb e)).1,λb hb=>?_⟩;obtain⟨o,e,d⟩:=T.obj _ _ st7 b hb;exact(I'.pin (b,o)<|ag _ (ag _<|ac2 hb e)).2.1
   cases ok with
   | false =>
    rw[if_neg aF]at q9 ⊢;obtain⟨m',hm,w'⟩:=q9;obtain⟨a1,a2,a3⟩:=again I9;exact⟨m',hm,i+1,ys,σ8,H9,a1,a2,a3,w'⟩
   | true =>
    rw[if_pos rfl]at q9 ⊢;refine eU (he _ _ _ _ _ s9 σ8 H9 _ I9 q9) (λy s10 ⟨vy,H10,I10,r10,q10,z10,m',hm,w'⟩=>?_) λ_ _ z=>z
    refine eU (aN0 (X:=F4 X N' scope s3.heap.objs.size s3 H3 fp) _ s10 σ8 H10 (.ref s2.heap.objs.size) [vy] _ _ (λv H'=>v=.non/\H'=upd H10 s2.heap.objs.size (.lst<|ys++[vy])) I10 rfl (.cons r10 .nil) ⟨_,ys,vy,rfl,rfl,q10,z10,rfl,rfl⟩) (λ_ s11 ⟨v11,H11,I11,r11,e11,e12⟩=>?_) λ_ _ z=>z
    subst e12;obtain⟨a1,a2,a3⟩:=again I11;exact⟨m',hm,i+1,ys++[vy],σ8,_,a1,a2,a3,w'⟩
 show codeAny (fE X.prog X.w) X.A _ _ ({ s2 with heap:=h₁,toks:=s2.toks+([]:List (Str×fR)).length }:fS);rw[htk];exact codeAny_compStart_list loop<|T.self _ _ _ _ _ st4 loop
end
section
variable {X:Cx}
noncomputable def tgJ(K:ad)(f:D->Rho->Option Rho):TG:=λv σ H Q=>∃d ρ ρ' H0 Hf,f d ρ=Z ρ'/\E8 Hf H/\Slots K H0 ρ σ H Hf/\Rep K Hf d v/\∀σ',Slots K H0 ρ' σ' H Hf->Q σ' H
noncomputable def JG(X:Cx)(tg:Expr)(f:D->Rho->Option Rho):Prop:=PG X tg<|tgJ X.K f
noncomputable def cY5(K:ad)(f:List D->Rho->Option Rho):TGs:=λvs σ H Q=>∃ds ρ ρ' H0 Hf,f ds ρ=Z ρ'/\E8 Hf H/\Slots K H0 ρ σ H Hf/\Reps K Hf ds vs/\∀σ',Slots K H0 ρ' σ' H Hf->Q σ' H
noncomputable def JGs(X:Cx)(tg:List Expr)(f:List D->Rho->Option Rho):Prop:=PGs X tg<|cY5 X.K f
noncomputable def B5(i:Nat):D->Rho->Option Rho:=λd ρ=>Z<|ρ.set i (Z<|.val d)
def cg6(i:Nat)(hN:X.N.Nodup)(hi:X.N[i]? = Z x:=by rfl)(hx:Loc X.env.scope x:=by first|exact Or.inl rfl|exact Or.inr rfl)(hf:X.fn x=true\/X.env.scope.names.lookup x=Z .local:=by first|exact .inl rfl|exact .inr rfl):JG X (.Name x pos) (B5 i):=by
 intro pins s σ H v u Q I r ⟨d,ρ,ρ',H0,Hf,e,ss,sl,rp,k⟩;cases e;exact cb6 hN hi hx hf pins s σ H v u Q I r<|k _ (sl.set rp)
noncomputable def U0:List D->Rho->Option Rho:=λds ρ=>match ds with
 | []=>Z ρ
 | _=>O
noncomputable def C4(f:D->Rho->Option Rho)(g:List D->Rho->Option Rho):List D->Rho->Option Rho:=λds ρ=>match ds with
 | d::r=>(f d ρ).bind λρ'=>g r ρ'
 | []=>O
def cg5:JGs X [] U0:=by
 intro pins s σ H vs us Q I r ⟨ds,ρ,ρ',H0,Hf,e,ss,sl,rp,k⟩;cases ds with
 | nil=>cases e;exact cb5 pins s σ H vs us Q I r ⟨rp,k _ sl⟩
 | cons d ds=>cases e
def bO6(h1:JG X e f)(h2:JGs X es g)(hs:(ft (e::es) X.env).map (·.2)=assign e X.env::(ft es X.env).map (·.2):=by rfl):JGs X (e::es) (C4 f g):=by
 intro pins s σ H vs us Q I r ⟨ds,ρ,ρ',H0,Hf,e,ss,sl,rp,k⟩;cases ds with
 | nil=>cases e
 | cons d ds =>
  obtain⟨ρ1,e1,e2⟩:=xbm e;obtain⟨v,vr,rfl,q1,q2⟩:=rp;exact bI8 h1 h2 hs pins s σ H _ us Q I r ⟨v,vr,rfl,d,ρ,ρ1,H0,Hf,e1,ss,sl,q1,λσ' sl'=>⟨ds,ρ1,ρ',H0,Hf,e2,ss,sl',q2,k⟩⟩
noncomputable def S7(n:Nat)(g:List D->Rho->Option Rho):D->Rho->Option Rho:=λd ρ=>match d with
 | .tuple ds=>if ds.length=n then g ds ρ else O
 | _=>O
def cE7(h:JGs X es g)(hc:X.calm=true:=by rfl)(hn:(ft es X.env).length=n:=by rfl)(hst:(ft es X.env).findIdx? (·.1)=O:=by rfl):JG X (.Tuple es k pos) (S7 n g):=by
 intro pins s σ H v u Q I r ⟨d,ρ,ρ',H0,Hf,e,ss,sl,rp,kk⟩;cases d with
 | tuple ds =>
  simp only[S7]at e;split at e
  .rename_i hl;obtain⟨a,vs,rfl,q1,q2⟩:=rp;exact cx1 hc h hn hst pins s σ H _ u Q I r ⟨a,vs,rfl,D1 ss q1,by rw[q2.length,hl],ds,ρ,ρ',H0,Hf,e,ss,sl,q2,kk⟩
  .cases e
 | _=>cases e
noncomputable def bm8(K:ad)(J:It)(ds:List D)(Hf1:Hp):Prop:=∀(i:Nat) (H Hf:Hp),E8 Hf1 Hf->E8 Hf H->(ds.length<=i->J.stop i H)/\∀d,ds[i]? = Z d->J.go i H/\∀x H',J.yld i H x H'->∃Hf',Grow H Hf H' Hf'/\Rep K Hf' d x
noncomputable def tiJ(K:ad)(ρ:Rho)(ds:List D):TI:=λσ H R=>∃H0 Hf,E8 Hf H/\Slots K H0 ρ σ H Hf/\∀J H' Hf',Grow H Hf H' Hf'->bm8 K J ds Hf'->R J H'
noncomputable def JI(X:Cx)(tg iter:Expr)(f:Rho->Option (List D)):Prop:=∀ρ ds,f ρ=Z ds->PI X tg iter (tiJ X.K ρ ds)
def bi0(h:PI X tg iter t)(i:∀σ H R,t' σ H R->t σ H R):PI X tg iter t':=λpins s σ H R I q=>h pins s σ H R I<|i σ H R q
noncomputable def M9(f:DE):Rho->Option (List D):=λρ=>(f ρ).bind λd=>match d with
 | .list ds=>Z ds
 | .tuple ds=>Z ds
 | _=>O
def bj1(h:JE X e f):JI X tg e (M9 f):=λρ ds q=>by
 obtain⟨d,e1,e2⟩:=xbm q;cases d with
 | list xs =>
  cases e2;refine bi0 (cb4<|h ρ _ e1) λσ H R ⟨H0,Hf,s,sl,k⟩=>⟨H0,Hf,s,sl,λv H1 Hf1 g1 ⟨a,vs,h1,h2,h3⟩=>⟨a,h1,⟨vs,G1 g1.sub h2⟩,k _ H1 Hf1 g1 ?_⟩⟩
  intro i H' Hf' sa sb;have q':SqL X.K H' a vs:=G1 (sa.trans sb) h2;refine⟨λhi=>⟨vs,q',by rw[h3.length];exact hi⟩,λd hd=>?_⟩;obtain⟨v,w1,w2⟩:=h3.get hd;refine⟨⟨vs,v,q',w1⟩,λx H'' hy=>?_⟩;obtain⟨rfl,hy⟩:=hy;have:=hy vs q';rw[w1]at this;cases this;exact⟨Hf',Grow.refl sb,w2.mono sa⟩
 | tuple xs =>
  cases e2;refine bi0 (cx0<|h ρ _ e1) λσ H R ⟨H0,Hf,s,sl,k⟩=>⟨H0,Hf,s,sl,λv H1 Hf1 g1 ⟨a,vs,h1,h2,h3⟩=>⟨a,h1,⟨vs,D1 g1.sub h2⟩,k _ H1 Hf1 g1 ?_⟩⟩
  intro i H' Hf' sa sb;have q':SqT X.K H' a vs:=D1 (sa.trans sb) h2;refine⟨λhi=>⟨vs,q',by rw[h3.length];exact hi⟩,λd hd=>?_⟩;obtain⟨v,w1,w2⟩:=h3.get hd;refine⟨⟨vs,v,q',w1⟩,λx H'' hy=>?_⟩;obtain⟨rfl,hy⟩:=hy;have:=hy vs q';rw[w1]at this;cases this;exact⟨Hf',Grow.refl sb,w2.mono sa⟩
 | _=>cases e2
noncomputable def ab8(lo hi:Int):List D:=(az (hi - lo).toNat).map λ(i:Nat)=>fK<|lo+i
def aQ5{K:ad}{lo hi:Int}{Hf1:Hp}:bm8 K (Itr lo (hi - lo).toNat) (ab8 lo hi) Hf1:=by
 intro i H Hf sa sb;have hl:(ab8 lo hi).length=(hi - lo).toNat:=by simp[ab8]
 refine⟨λh=>by rw[hl]at h;exact h,λd hd=>?_⟩
 have hi':i < (hi - lo).toNat:=by
  have:=(ao.mp hd).1;rw[hl]at this;exact this
 refine⟨hi',λx H' hy=>?_⟩;obtain⟨e1,e2⟩:=hy;subst e1 e2
 have:d=.int (lo+i):=by
  have:(ab8 lo hi)[i]? = Z (.int<|lo+i):=by simp[ab8,hi']
  rw[hd]at this;cases this;rfl
 subst this;exact⟨Hf,Grow.refl sb,rfl⟩
noncomputable def L8(f:DE):Rho->Option (List D):=λρ=>(f ρ).bind λd=>match d with
 | .int j=>if -(2 ^ 62)<=j/\j < 2 ^ 62 then Z (ab8 0 j) else O
 | _=>O
def by8{tg e:Expr}{f:DE}{p pos:Pos}(hg:Gl X "range")(hm:X.mg "range" = O)(h:JE X e f)(hs:fb [e] X.env=[(false,eval e X.env)]:=by rfl):JI X tg (.Call (.Name "range" p) [e] [] pos) (L8 f):=λρ ds q=>by
 obtain⟨d,e1,e2⟩:=xbm q;split at e2
 .split at e2
  .rename_i j c;cases e2;refine bi0 (bw6 hg hm (D7 (h ρ _ e1) J2 hs) hs) λσ H R ⟨H0,Hf,s,sl,k⟩=>⟨H0,Hf,s,sl,λv H1 Hf1 g1 r=>⟨j,by rw[show v=_ from r],c.1,c.2,k _ H1 Hf1 g1 ?_⟩⟩
   have:=aQ5 (K:=X.K) (lo:=0) (hi:=j) (Hf1:=Hf1);rw[Int.sub_zero]at this;exact this
  .cases e2
 .cases e2
def Grow.nofr(g:Grow H Hf H' Hf')(h:H a=Z o)(n:Hf a=O):Hf' a=O:=by
 cases q:Hf' a with
 | none=>rfl
 | some u =>
  rcases g.new a (by rw[q];simp) with z|z
  .exact absurd n z
  .rw[h]at z;cases z
noncomputable def ag9(n:Nat)(caps:List Nat)(ρ:Rho):Rho:=aB n O++caps.map λj=>match ρ[j]? with
 | some (Z (.val d))=>Z<|.val d
 | _=>O
noncomputable def V2(g:D->Rho->Option Rho)(c:Rho->Option Bool)(e:DE):List D->Rho->Option (List D)
 | [],_=>Z []
 | d::ds,ρ=>(g d ρ).bind λρ1=>(c ρ1).bind λb=>if b then(e ρ1).bind λy=>(V2 g c e ds ρ1).map λr=>y::r else V2 g c e ds ρ1
noncomputable def C5(n:Nat)(caps:List Nat)(src:Rho->Option (List D))(g:D->Rho->Option Rho)(c:Rho->Option Bool)(e:DE):Rho->Option (List D):=λρ=>(src ρ).bind λds=>if ds.length<=16777216 then V2 g c e ds (ag9 n caps ρ) else O
noncomputable def aM0(K:ad)(c:Rho->Option Bool):TT:=λσ H Q=>∃ρ b,c ρ=Z b/\∃H0 Hf,E8 Hf H/\Slots K H0 ρ σ H Hf/\∀H' Hf',Grow H Hf H' Hf'->Q b H'
noncomputable def bo2(K:ad)(e:DE):TE:=λσ H Q=>∃ρ d,e ρ=Z d/\tJ K ρ (λ_ v _ Hf=>Rep K Hf d v) σ H Q
noncomputable def JTs(X:Cx)(ifs:List Expr)(c:Rho->Option Bool):Prop:=PTs X ifs<|aM0 X.K c
noncomputable def F9:Rho->Option Bool:=λ_=>Z true
def cf2:JTs X [] F9:=λpins s σ H Q I ⟨ρ,b,e,H0,Hf,ss,sl,k⟩=>by
 cases e;exact ca4 pins s σ H Q I<|k H Hf (Grow.refl ss)
def cf1(h:JT X e c):JTs X [e] c:=λpins s σ H Q I ⟨ρ,b,e,H0,Hf,ss,sl,k⟩=>ca3 (h ρ b e) pins s σ H Q I ⟨H0,Hf,ss,sl,k⟩
def bm0{K:ad}{n:Nat}{caps:List Nat}{H0 H H1 H' Hf:Hp}{ρ:Rho}{σ:L2.St}(sl:Slots K H0 ρ σ H Hf):Slots K H1 (ag9 n caps ρ) (aL3 n caps σ) H' Hf:=by
 have noown:∀(i:Nat) (ds:List D),(ag9 n caps ρ)[i]?≠Z (Z<|.own ds):=λi ds h=>by
  unfold ag9 at h;rcases bL i n with q|q
  .rw[aV (by simpa using q),bX,if_pos q]at h;cases h
  .rw[aK (by simpa using q),aI]at h;cases hj:caps[i - (aB n (O:Option B)).length]? with
   | none=>rw[hj]at h;cases h
   | some j =>
    rw[hj]at h;simp only[eB,bq.injEq]at h;split at h<;>cases h
 refine⟨by simp[ag9,aL3],λi b e=>?_,λi j ds es a h1=>(noown i ds h1).elim⟩;unfold ag9 at e;unfold aL3;rcases bL i n with q|q
 .rw[aV (by simpa using q),bX,if_pos q]at e;cases e
 .rw[aK (by simpa using q),aI]at e;rw[aK (by simpa using q),aI];simp only[cH]at e ⊢;cases hj:caps[i - n]? with
  | none=>rw[hj]at e;cases e
  | some j =>
   rw[hj]at e;simp only[eB,bq.injEq]at e ⊢;split at e
   .rename_i d hd;cases e;obtain⟨v,h1,h2⟩:=sl.is j _ hd;exact⟨v,by rw[h1];rfl,h2⟩
   .cases e
def an4{K:ad}{n:Nat}{caps:List Nat}{ρ:Rho}{src:Rho->Option (List D)}{g:D->Rho->Option Rho}{c:Rho->Option Bool}{e:DE}{out:List D}(h:C5 n caps src g c e ρ=Z out):
  ∃ds,src ρ=Z ds/\∀σ H Q,tJ K ρ (λH v H' Hf'=>∃a vs,v=.ref a/\H a=O/\H' a=Z (.lst vs)/\Hf' a=O/\Reps K Hf' out vs) σ H Q->bF9 n caps (tiJ K ρ ds) (tgJ K g) (aM0 K c) (bo2 K e) σ H Q:=by
 obtain⟨ds,e1,e2⟩:=xbm h;split at e2
 .rename_i hz;refine⟨ds,e1,λσ H Q ⟨H0,Hf,s,sl,k⟩=>⟨H0,Hf,s,sl,λJ H1 Hf1 g1 Y Dd hD=>?_⟩⟩
  refine⟨λi m ys σ' H'=>m=ds.length - i/\i<=ds.length/\∃Hf' ρ' o1 o2,Grow H1 Hf1 H' Hf'/\H' Dd=Z (.lst ys)/\Hf' Dd=O/\Slots K (upd H1 Dd (.lst [])) ρ' σ' H' Hf'/\Reps K Hf' o1 ys/\o1.length<=i/\V2 g c e (ds.drop i) ρ'=Z o2/\o1++o2=out,
   ⟨ds.length,by simp,aO _,Hf1,ag9 n caps ρ,[],out,Grow.made g1.sub hD,C2,g1.sub.free hD,bm0 (sl.grow g1),rfl,ak _,by simpa using e2,rfl⟩,?_⟩
  rintro i m ys σ' H' ⟨rfl,hi,Hf',ρ',o1,o2,gr,hd1,hd2,sl',rp,ho,ec,eo⟩
  obtain⟨Ys,Yg⟩:=Y i H' Hf' gr.ext gr.sub;rcases bL i ds.length with hlt|hge
  .right
   obtain⟨go,yl⟩:=Yg ds[i] (by simp[hlt]);refine⟨go,λx H2 hy=>?_⟩;obtain⟨Hf2,g2,r2⟩:=yl x H2 hy;rw[bG hlt]at ec;obtain⟨ρ1,c1,ec⟩:=xbm ec;obtain⟨b,c2,ec⟩:=xbm ec;refine⟨ds[i],ρ',ρ1,_,Hf2,c1,g2.sub,sl'.grow g2,r2,λσ3 sl3=>⟨ρ1,b,c2,_,Hf2,g2.sub,sl3,λH4 Hf4 g4=>?_⟩⟩;have gr4:=(gr.trans g2).trans g4;have hd4:H4 Dd=Z (.lst ys):=g4.big _ _ (g2.big _ _ hd1);have hf4:Hf4 Dd=O:=(g2.trans g4).nofr hd1 hd2;have rp4:=rp.mono (g2.trans g4).ext;cases b with
   | false =>
    rw[if_neg aF]at ec;refine aG3 ?_;exact⟨ds.length - (i+1),by grind,rfl,hlt,Hf4,ρ1,o1,o2,gr4,hd4,hf4,sl3.grow g4,rp4,by grind,ec,eo⟩
   | true =>
    rw[if_pos rfl]at ec;refine aG2 ?_;obtain⟨y,c3,ec⟩:=xbm ec;obtain⟨o3,c4,rfl⟩:=xmo ec;refine⟨ρ1,y,c3,_,Hf4,g4.sub,sl3.grow g4,λv H5 Hf5 g5 r5=>⟨g5.big _ _ hd4,?_,?_⟩⟩
    .rw[rp.length,fe];grind
    .have hf5:Hf5 Dd=O:=g5.nofr hd4 hf4;have gr5:=gr4.trans g5;refine⟨ds.length - (i+1),by grind,rfl,hlt,Hf5,ρ1,o1++[y],o3,⟨λb u q=>?_,λb u q=>?_,gr5.ext,gr5.new⟩,C2,hf5,?_,(rp4.mono g5.ext).append ⟨v,[],rfl,r5,rfl⟩,by simp;grind,c4,by simp[← eo]⟩
     .rw[C8 (C9 q hD)];exact gr5.big b u q
     .rw[C8 (C9 q hf5)];exact gr5.sub b u q
     .have sl5:=(sl3.grow g4).grow g5;refine⟨sl5.len,λj bb q=>?_,sl5.apart⟩;obtain⟨w,q1,q2⟩:=sl5.is j bb q;refine⟨w,q1,?_⟩;cases bb with
      | val d=>exact q2
      | exc C=>exact q2
      | own dd =>
       obtain⟨a,vs,z1,z2,z3,z4,z5⟩:=q2;have ne:a≠Dd:=λz=>by rw[z,C2]at z4;cases z4
       exact⟨a,vs,z1,by rw[C8 ne];exact z2,z3,z4,z5⟩
  .left
   have:i=ds.length:=by grind
   subst this;rw[List.drop_length]at ec;cases ec;rw[br]at eo;subst eo;exact⟨Ys (ak _),k _ H' Hf' (g1.trans gr) ⟨Dd,ys,rfl,g1.big.free hD,hd1,hd2,rp⟩⟩
 .cases e2
end
section
variable {X:Cx}
noncomputable def aC3(N N':List Str)(n:Nat)(caps:List Nat)(sc scope:Scope):Bool :=
 (match scope.kind with | .function=>true|_=>false) &&
 (scope.names.all λy=>(match y.2 with | .cell=>false | .local=>scope.names.lookup y.1==Z .local | .free=>sc.names.lookup y.1==Z .cell || sc.names.lookup y.1==Z .free|_=>true)) &&
 (N'.length==n+caps.length) &&
 ((az caps.length).all λi=>match caps[i]? with
  | some j=>(match N[j]? with|some x=>N'[n+i]? == Z x&&scope.names.lookup x==Z .free|none=>false)
  | none=>true)
def bC3(h:aC3 N N' n caps sc scope=true)(hN:X.N=N)(hS:X.env.scope=sc):CompSc X N' n caps scope:=by
 subst hN hS;unfold aC3 at h;simp only[ar,bt]at h;obtain⟨⟨⟨h1,h2⟩,h3⟩,h4⟩:=h;refine⟨?_,λy hy e=>?_,λy hy e=>?_,λy hy e=>?_,by simpa using h3,λi j e=>?_⟩
 .cases q:scope.kind<;>rw[q]at h1<;>first|rfl|cases h1
 .have:=h2 y hy;rw[e]at this;cases this
 .have:=h2 y hy;rw[e]at this;simpa using this
 .have:=h2 y hy;rw[e]at this;simpa using this
 .have hi:i < caps.length:=(ao.mp e).1;have:=h4 i (by simpa using hi);rw[e]at this;simp only at this;cases q:X.N[j]? with
  | none=>rw[q]at this;cases this
  | some x =>
   rw[q]at this;simp only[ar]at this;exact⟨x,rfl,by simpa using this.1,by simpa using this.2⟩
def bt8(S:CompSc X N' n caps scope)(I:Inv X pins σ H s):closureFor scope X.env=pure (S3 X.env.cells scope.names []) :=
 cl2 λy hy e=>I.ok.has y.1<|S.free y hy e
def cg3(S:CompSc X N' n caps scope)(hx:∀e s,X.xe e s->False)
  (hi:JI X tgt iter src) (hg:∀C s0 H0 ex,JG (F4 X N' scope C s0 H0 ex) tgt g) (ht:∀C s0 H0 ex,JTs (F4 X N' scope C s0 H0 ex) ifs c) (he:∀C s0 H0 ex,JE (F4 X N' scope C s0 H0 ex) elt e)
  (hc:X.calm=true:=by rfl) (hs:∀x,fu iter X.env x=pure x:=by intro _;rfl):JN X (.ListComp elt [⟨tgt,iter,ifs,0⟩] scope pos) (C5 n caps src g c e):=by
 intro ρ out h;obtain⟨ds,e1,k⟩:=an4 (K:=X.K) h;intro pins s σ H Q I t;rw[eval_ListComp];refine wpAny_comprehension_free (use:=O) rfl hs (bt8 S I) S.kind S.loc (be1 (RR:=λacc C=>compPost (fE X.prog X.w) X.A X.xe O (EP X pins σ Q) acc C) S hx hc (hi ρ ds e1) (g:=tgJ X.K g) (tc:=aM0 X.K c) (te:=bo2 X.K e) hg ht (λC s0 H0 ex pins s σ H Q I ⟨ρ,d,e,t⟩=>he C s0 H0 ex ρ d e pins s σ H Q I t) I (k σ H Q t) ?_);intro Dd C r s' hr ⟨m,hn,kk⟩ _;subst hr;exact⟨m,hn,λh' sb=>let⟨H',I',q⟩:=kk h' sb;⟨.ref Dd,H',I',rfl,q⟩⟩
def aE4(S:CompSc X N' n caps scope)(hx:∀e s,X.xe e s->False)(hc:X.calm=true)
  (hN:X.N.Nodup) (hi:X.N[i]? = Z x) (hl:X.env.scope.names.lookup x=Z .local) (hsrc:PI X tgt iter wi) (hg:∀C s0 H0 ex,PG (F4 X N' scope C s0 H0 ex) tgt g) (ht:∀C s0 H0 ex,PTs (F4 X N' scope C s0 H0 ex) ifs tc) (he:∀C s0 H0 ex,PE (F4 X N' scope C s0 H0 ex) elt te)
  (hsw:swapsWith (.ListComp elt [⟨tgt,iter,ifs,0⟩] scope pos) (Z<|.Name x pos') spos.line X.env=pure true) (hs:∀x,fu iter X.env x=pure x) :
  PS X (.Assign [.Name x pos'] (.ListComp elt [⟨tgt,iter,ifs,0⟩] scope pos) spos) (λEn σ H=>bF9 n caps wi g tc te σ H λv H'=>En.nx (σ.set i<|Z v) H'):=by
 intro pins s σ H En I h;rw[exec_Assign_Name_used _ _ _ _ hsw];refine eS (wpAny_standAt<|eS ?_);show fD _ X.A (do let _ ← comprehension (.ListComp elt [⟨tgt,iter,ifs,0⟩] scope pos) scope X.env _ (newList []) false (eval iter X.env) (Z<|assign (.Name x pos') X.env)) _ _ s
 refine eS (eU (wpAny_comprehension_free (use:=Z (assign (.Name x pos') X.env)) (Q:=λ_ s'=>SP X pins En .next s') rfl hs (bt8 S I) S.kind S.loc
  (be1 (RR:=λacc C=>compPost (fE X.prog X.w) X.A X.xe (Z (assign (.Name x pos') X.env)) (λ_ s'=>SP X pins En .next s') acc C) S hx hc hsrc hg ht he I h ?_)) (λ_ s' hq=>eT (eT hq)) λ_ _ z=>z)
 intro Dd C r s' hr _ ⟨s2,fp,σ',H2,H',eC,I2,f2,I',q⟩;subst hr eC;have IX:Inv X pins σ H' s':=aO5 (h':=s'.heap) I2 f2 I' (Heap.SameBut.refl ..);obtain⟨mC,hnC,_⟩:=I'.loc
 have hCL:s2.heap.objs.size≠X.env.locals:=λz=>by
  have:=I2.lt;rw[← z]at this;exact bz _ this
 show fD _ X.A (assign (.Name x pos') X.env<|.ref Dd) _ _ _;refine wpAny_assign_Name<|aM2 (v:=.ref Dd) IX hN hi (.inl hl) rfl (λs3 I3 ⟨a,sb,ha⟩=>?_) (.inr hl)
 have hCa:s2.heap.objs.size≠a:=λz=>by
  rcases ha with ha|ha
  .exact hCL (z.trans ha)
  .obtain⟨v,q'⟩:=I2.cell x a ha;have:=q'.lt;rw[← z]at this;exact bz _ this
 refine⟨mC,hnC.sameBut sb hCa,λh' sb'=>?_⟩;refine⟨_,H',I3.turned (t':=s3.toks) (it:=s2.heap.objs.size) (λb o hb e=>sb'.extBut b o hb e) I'.free hCL (.inr I2.sz) (λy c e z=>?_) λp hp z=>?_,q⟩
 .obtain⟨v,q'⟩:=I2.cell y c e;have:=q'.lt;rw[z]at this;exact bz _ this
 .have:=fG (I2.pin p hp).1;rw[z]at this;exact bz _ this
noncomputable def aE2(i:Nat)(f:Rho->Option (List D)):DS:=λρ=>(f ρ).map λds=>.nx<|ρ.set i (Z<|.val (.list ds))
def cf8(i:Nat)(hN:X.N.Nodup)(S:CompSc X N' n caps scope)(hx:∀e s,X.xe e s->False)
  (hi:JI X tgt iter src) (hg:∀C s0 H0 ex,JG (F4 X N' scope C s0 H0 ex) tgt g) (ht:∀C s0 H0 ex,JTs (F4 X N' scope C s0 H0 ex) ifs c) (he:∀C s0 H0 ex,JE (F4 X N' scope C s0 H0 ex) elt e)
  (hi2:X.N[i]? = Z x:=by rfl) (hl:X.env.scope.names.lookup x=Z .local:=by rfl) (hsw:swapsWith (.ListComp elt [⟨tgt,iter,ifs,0⟩] scope pos) (Z<|.Name x pos') spos.line X.env=pure true:=by rfl)
  (hc:X.calm=true:=by rfl) (hs:∀x,fu iter X.env x=pure x:=by intro _;rfl):JS X (.Assign [.Name x pos'] (.ListComp elt [⟨tgt,iter,ifs,0⟩] scope pos) spos) (aE2 i<|C5 n caps src g c e):=λρ fl q H0 Hf0=>by
 obtain⟨out,e1,e2⟩:=xmo q;subst e2;obtain⟨ds,e3,k⟩:=an4 (K:=X.K) e1;refine P5 (aE4 S hx hc hN hi2 hl (hi ρ ds e3) (g:=tgJ X.K g) (tc:=aM0 X.K c) (te:=bo2 X.K e) hg ht (λC s0 H0 ex pins s σ H Q I ⟨ρ,d,e,t⟩=>he C s0 H0 ex ρ d e pins s σ H Q I t) hsw hs) λEn σ H ⟨Hf,a,ee⟩=>k σ H _ ⟨H0,Hf,a.gr.sub,a.sl,λv H' Hf' gg ⟨p,vs,z1,z2,z3,z4,z5⟩=>?_⟩
 subst z1;have g2:=gg.freeze z3 z4 z2;exact ee _ H' _ ⟨a.gr.trans g2,(a.sl.grow g2).set ⟨p,vs,rfl,SqL.of C2,z5.mono<|E5 z4⟩⟩ g2.ext
def cD4{kt k2 pt2}(hN:X.N.Nodup)(ha:JA X [a,b] f)(hw:swappedStores [.Tuple [.Name x px,.Name y py] kt pt] (.Tuple [a,b] k2 pt2) X.env=pure (Z [x,y]))(hij:i≠j)
  (hi:X.N[i]? = Z x:=by rfl) (hj:X.N[j]? = Z y:=by rfl) (hx:X.env.scope.names.lookup x=Z .local:=by rfl) (hy:X.env.scope.names.lookup y=Z .local:=by rfl) (hc:X.calm=true:=by rfl)
  (hs:swapsWithSole [.Tuple [.Name x px,.Name y py] kt pt] (.Tuple [a,b] k2 pt2) pos.line X.env=pure false:=by rfl):JS X (.Assign [.Tuple [.Name x px,.Name y py] kt pt] (.Tuple [a,b] k2 pt2) pos) (bG8 i j f):=λρ fl q H0 Hf0=>by
 obtain⟨ds,e1,e2⟩:=xbm q;split at e2
 .cases e2;refine P5 (cw6 hc hN hi hj hij hx hy (λpos pins s σ H Q I t=>ha.run ρ _ e1 pos pins s σ H Q I t) hw hs) λEn σ H ⟨Hf,at',e⟩=>⟨H0,Hf,at'.gr.sub,at'.sl,λvs H' Hf' gg rp=>?_⟩
  obtain⟨v,r,rfl,r1,w,r',rfl,r2,r3⟩:=rp;cases r3;exact⟨v,w,rfl,e _ H' Hf' ⟨at'.gr.trans gg,((at'.sl.grow gg).set r1).set r2⟩ gg.ext⟩
 .cases e2
noncomputable def ao7(f:DE)(g:D->Rho->Option Rho):DS:=λρ=>(f ρ).bind λd=>(g d ρ).map Fl.nx
def bO2(he:JE X e f)(hg:JG X tg g)(hs:swapsWithSole [tg] e pos.line X.env=pure false:=by rfl)(hw:swappedStores [tg] e X.env=pure O:=by rfl)
  (h1:(ft [tg] X.env).map (·.2)=[assign tg X.env]:=by rfl):JS X (.Assign [tg] e pos) (ao7 f g):=λρ fl q H0 Hf0=>by
 obtain⟨d,e1,e2⟩:=xbm q;obtain⟨ρ',e3,e4⟩:=xmo e2;subst e4;exact P5 (cw8 (he ρ d e1) hg hs hw h1) λEn σ H ⟨Hf,a,ee⟩=>⟨H0,Hf,a.gr.sub,a.sl,λv H' Hf' gg r=>⟨d,ρ,ρ',H0,Hf',e3,gg.sub,a.sl.grow gg,r,λσ' sl'=>ee σ' H' Hf' ⟨a.gr.trans gg,sl'⟩ gg.ext⟩⟩
noncomputable def ad9(i:Nat)(f:Rho->Option (List D)):DS:=λρ=>(f ρ).map λds=>.nx<|ρ.set i (Z<|.own ds)
def Slots.setOwn{K:ad}{H0 H H' Hf Hf':Hp}{ρ:Rho}{σ:L2.St}{i:Nat}{ds:List D}{a:fT}{vs:List V}(s:Slots K H0 ρ σ H Hf)(g:Grow H Hf H' Hf')(n0:H0 a=O)(n:H a=O)(h:H' a=Z (.lst vs))(nf:Hf' a=O)(r:Reps K Hf' ds vs):
  Slots K H0 (ρ.set i<|Z (.own ds)) (σ.set i<|Z (.ref a)) H' Hf':=by
 have s':=s.grow g
 have old:∀(j:Nat) (es:List D),i≠j->ρ[j]? = Z (Z<|.own es)->σ[j]?≠Z (Z<|.ref a):=λj es hj e z=>by
  obtain⟨v,h1,b,us,e1,h2,_⟩:=s.is j _ e;rw[z]at h1;cases h1;cases e1;rw[n]at h2;cases h2
 refine⟨by simp[s.len],λj b e=>?_,λj k ds1 es b h1 h2 h3 h4=>?_⟩
 .by_cases q:i=j
  .subst q;have hi:i < ρ.length:=by simpa using (ao.mp e).1
   have hi':i < σ.length:=by rw[← s.len];exact hi
   rw[aJ hi]at e;cases e;exact⟨_,aJ hi',a,vs,rfl,h,nf,n0,r⟩
  .rw[aG q]at e;obtain⟨u,h1,h2⟩:=s'.is j b e;exact⟨u,by rw[aG q];exact h1,h2⟩
 .by_cases qj:i=j
  .by_cases qk:i=k
   .rw[← qj,← qk]
   .subst qj;have hi:i < ρ.length:=by simpa using (ao.mp h1).1
    rw[aJ (by rw[← s.len];exact hi)]at h3;rw[aG qk]at h2 h4;cases h3;exact(old k es qk h2 h4).elim
  .rw[aG qj]at h1 h3;by_cases qk:i=k
   .subst qk;have hi:i < ρ.length:=by simpa using (ao.mp h2).1
    rw[aJ (by rw[← s.len];exact hi)]at h4;cases h4;exact(old j ds1 qj h1 h3).elim
   .rw[aG qk]at h2 h4;exact s.apart j k ds1 es b h1 h2 h3 h4
def cD5(i:Nat)(hN:X.N.Nodup)(h:JN X e f)(hi:X.N[i]? = Z x:=by rfl)(hx:Loc X.env.scope x:=by first|exact Or.inl rfl|exact Or.inr rfl)
  (hs:swapsWith e (Z<|.Name x pos') pos.line X.env=pure false:=by rfl) (hf:X.fn x=true\/X.env.scope.names.lookup x=Z .local:=by first|exact .inl rfl|exact .inr rfl):JS X (.Assign [.Name x pos'] e pos) (ad9 i f):=λρ fl q H0 Hf0=>by
 obtain⟨ds,e1,e2⟩:=xmo q;subst e2;refine P5 (bH8 hN hi hx (h ρ ds e1) hs hf) λEn σ H ⟨Hf,a,e⟩=>⟨H0,Hf,a.gr.sub,a.sl,λv H' Hf' g ⟨p,vs,z1,z2,z3,z4,z5⟩=>?_⟩
 subst z1;exact e _ H' Hf' ⟨a.gr.trans g,a.sl.setOwn g (a.gr.big.free z2) z2 z3 z4 z5⟩ g.ext
noncomputable def x9(i:Nat)(f:DE):DS:=λρ=>match ρ[i]? with
 | some (Z (.own ds))=>if ds.length < 16777216 then(f ρ).map λd=>.nx (ρ.set i<|Z (.own<|ds++[d])) else O
 | _=>O
def cE0(i:Nat)(h:JE X e f)(hN:X.N[i]? = Z x:=by rfl)(hv:Vis X.env.scope x:=by first|exact Or.inl rfl|exact Or.inr (Or.inl rfl)|exact Or.inr<|Or.inr rfl)(hd:(x==("__debug__" : Str))=false:=by decide)
  (hcd:(x==("__classdict__" : Str))=false:=by decide) (hbase:fB (.Name x p) "append" X.env (eval (.Name x p) X.env)=eval (.Name x p) X.env:=by rfl)
  (hfew:((backTo cpos (fb [e] X.env)).all (λx=>!x.1)&&(backToKw cpos (keywordEach [] X.env)).all (λx=>x.1.isSome)
   && decide (([e]:List Expr).length+([]:List fq).length+(if([]:List fq).isEmpty then 0 else 1) < 30))=true:=by rfl)
  (hline:(apos.endLine==cpos.line)=true:=by rfl) (hs:fb [e] X.env=[(false,eval e X.env)]:=by rfl) (hsw:swapsWith (.Call (.Attribute (.Name x p) "append" apos) [e] [] cpos) O pos.line X.env=pure false:=by rfl) :
  JS X (.Expr (.Call (.Attribute (.Name x p) "append" apos) [e] [] cpos) pos) (x9 i f):=λρ fl q H0 Hf0=>by
 unfold x9 at q;split at q
 .rename_i ds eo;split at q
  .rename_i hz;obtain⟨d,e1,e2⟩:=xmo q;subst e2;refine P5 (aR7 (bp1 PySem.F.plainAttrs_list PySem.F.slot_list_append PySem.F.type_list_append aN0 (al6 hN hv hd hcd) (D7 (h ρ d e1) J2 hs) hbase hfew hline hs) hsw) λEn σ H ⟨Hf,a,ee⟩=>?_
   obtain⟨v,h1,b,vs,rfl,h2,h3,h4,h5⟩:=a.sl.is i _ eo;refine⟨_,h1,.inl ⟨rfl,vs,SqL.of h2⟩,H0,Hf,a.gr.sub,a.sl,λw H' Hf' gg r=>?_⟩;have hb:H' b=Z (.lst vs):=gg.big _ _ h2;have hfb:Hf' b=O:=gg.nofr h2 h3;have g2:=a.gr.trans gg;have sl2:=a.sl.grow gg;refine⟨b,vs,w,rfl,rfl,hb,by rw[h5.length,fe];exact hz,ee _ _ Hf' ⟨⟨λc u z=>?_,λc u z=>?_,g2.ext,g2.new⟩,?_⟩ gg.ext⟩
   .rw[C8 (C9 z h4)];exact g2.big c u z
   .rw[C8 (C9 z hfb)];exact g2.sub c u z
   .refine⟨by simpa using sl2.len,λj bb z=>?_,λj k ds1 es c q1 q2 q3 q4=>?_⟩
    .by_cases qj:i=j
     .subst qj;have hi:i < ρ.length:=(ao.mp eo).1;rw[aJ hi]at z;cases z;exact⟨_,h1,b,vs++[w],rfl,C2,hfb,h4,(h5.mono gg.ext).append ⟨w,[],rfl,r,rfl⟩⟩
     .rw[aG qj]at z;obtain⟨u,z1,z2⟩:=sl2.is j bb z;refine⟨u,z1,?_⟩;cases bb with
      | val d=>exact z2
      | exc C=>exact z2
      | own dd =>
       obtain⟨a',vs',y1,y2,y3,y4,y5⟩:=z2
       have ne:a'≠b:=λzz=>by
        subst zz y1;exact qj<|a.sl.apart i j ds dd a' eo z h1 z1
       exact⟨a',vs',y1,by rw[C8 ne];exact y2,y3,y4,y5⟩
    .have q1':∃dd,ρ[j]? = Z (Z<|.own dd):=by
      by_cases qj:i=j
      .subst qj;exact⟨ds,eo⟩
      .rw[aG qj]at q1;exact⟨_,q1⟩
     have q2':∃dd,ρ[k]? = Z (Z<|.own dd):=by
      by_cases qj:i=k
      .subst qj;exact⟨ds,eo⟩
      .rw[aG qj]at q2;exact⟨_,q2⟩
     obtain⟨d1,q1'⟩:=q1';obtain⟨d2,q2'⟩:=q2';exact a.sl.apart j k d1 d2 c q1' q2' q3 q4
  .cases q
 .cases q
noncomputable def frz(i:Nat)(ρ:Rho):Rho:=match ρ[i]? with
 | some (Z (.own ds))=>ρ.set i<|Z (.val<|.list ds)
 | _=>ρ
def cI0{K:ad}{H0 Hf0 H Hf:Hp}{ρ:Rho}{σ:L2.St}(i:Nat)(a:At K H0 Hf0 ρ σ H Hf):∃Hf',E8 Hf Hf'/\At K H0 Hf0 (frz i ρ) σ H Hf':=by
 unfold frz;split
 .rename_i ds eo;obtain⟨v,h1,b,vs,rfl,h2,h3,h4,h5⟩:=a.sl.is i _ eo;have g:Grow H0 Hf0 H (upd Hf b<|.lst vs):=a.gr.freeze h2 h3 h4;refine⟨upd Hf b<|.lst vs,E5 h3,g,⟨by simpa using a.sl.len,λj bb z=>?_,λj k ds1 es c q1 q2 q3 q4=>?_⟩⟩
  .have hi:i < ρ.length:=(ao.mp eo).1;by_cases qj:i=j
   .subst qj;rw[aJ hi]at z;cases z;exact⟨_,h1,b,vs,rfl,SqL.of C2,h5.mono (E5 h3)⟩
   .rw[aG qj]at z;obtain⟨u,z1,z2⟩:=a.sl.is j bb z;refine⟨u,z1,?_⟩;cases bb with
    | val d=>exact Rep.mono (E5 h3) z2
    | exc C =>
     obtain⟨a',o',C',y1,y2,y3⟩:=z2;exact⟨a',o',C',y1,E5 h3 _ _ y2,y3⟩
    | own dd =>
     obtain⟨a',vs',y1,y2,y3,y4,y5⟩:=z2
     have ne:a'≠b:=λzz=>by
      subst zz y1;exact qj<|a.sl.apart i j ds dd a' eo z h1 z1
     exact⟨a',vs',y1,y2,by rw[C8 ne];exact y3,y4,y5.mono<|E5 h3⟩
  .have hi:i < ρ.length:=(ao.mp eo).1;have qj:i≠j:=λz=>by subst z;rw[aJ hi]at q1;cases q1
   have qk:i≠k:=λz=>by subst z;rw[aJ hi]at q2;cases q2
   rw[aG qj]at q1;rw[aG qk]at q2;exact a.sl.apart j k ds1 es c q1 q2 q3 q4
 .exact⟨Hf,E8.refl _,a⟩
noncomputable def aR0(i:Nat)(f:DS):DS:=λρ=>f<|frz i ρ
def cD6(i:Nat){st:Stmt}{f:DS}(h:JS X st f):JS X st (aR0 i f):=λρ fl q H0 Hf0=>P5 (h (frz i ρ) fl q H0 Hf0) λEn σ H ⟨Hf,a,e⟩=>by
 obtain⟨Hf',s,a'⟩:=cI0 i a;exact⟨Hf',a',Fl.ends_mono e s⟩
noncomputable def cN2(K:ad)(H0 Hf0:Hp)(f:DS):TS:=λEn σ H=>∃ρ fl,f ρ=Z fl/\tJS K H0 Hf0 ρ fl En σ H
def bo8(h:JSs X sts f):PSs X sts (cN2 X.K H0 Hf0 f):=λpins s σ H En I ⟨ρ,fl,e,t⟩=>h ρ fl e H0 Hf0 pins s σ H En I t
def cw4(h:JT X e c):PT X e (aM0 X.K c):=λpins s σ H Q I ⟨ρ,b,e,t⟩=>h ρ b e pins s σ H Q I t
noncomputable def Y0(t:Rho->Option Bool)(f:DS):Nat->DS
 | 0=>λ_=>O
 | n+1=>λρ=>(t ρ).bind λc=>if c then(f ρ).bind λfl=>match fl with
   | .nx ρ'=>Y0 t f n ρ'
   | .ct ρ'=>Y0 t f n ρ'
   | .bk ρ'=>Z<|.nx ρ'
   | .rt d=>Z<|.rt d
  else Z (.nx ρ)
theorem am4:∀{n:Nat}{ρ:Rho}{fl:Fl},Y0 t f n ρ=Z fl->Y0 t f (n+1) ρ=Z fl
 | 0,_,_,h=>by cases h
 | n+1,ρ,fl,h=>by
  obtain⟨c,e1,h⟩:=xbm h;show(t ρ).bind _=_;rw[e1];cases c with
  | false=>exact h
  | true =>
   obtain⟨fl1,e2,h⟩:=xbm h;show(f ρ).bind _=_;rw[e2];cases fl1 with
   | nx ρ'=>exact am4 (n:=n) h
   | ct ρ'=>exact am4 (n:=n) h
   | bk ρ'=>exact h
   | rt d=>exact h
def ba8(h:Y0 t f n ρ=Z fl)(l:n<=m):Y0 t f m ρ=Z fl:=by
 induction l with
 | refl=>exact h
 | step _ ih=>exact am4 ih
open Classical in
noncomputable def ab6(t:Rho->Option Bool)(f:DS):DS:=λρ=>if h:∃fl n,Y0 t f n ρ=Z fl then Z h.choose else O
def aM5(h:Y0 t f n ρ=Z fl):ab6 t f ρ=Z fl:=by
 have hx:∃fl n,Y0 t f n ρ=Z fl:=⟨fl,n,h⟩;unfold ab6;rw[dif_pos hx];obtain⟨m,hm⟩:=hx.choose_spec;have h1:=ba8 h (Nat.le_max_left n m);have h2:=ba8 hm (Nat.le_max_right n m);rw[h1]at h2;exact h2.symm
def bx0(h:ab6 t f ρ=Z fl):∃n,Y0 t f n ρ=Z fl:=by
 unfold ab6 at h;split at h
 .rename_i hx;cases h;exact hx.choose_spec
 .cases h
def bO0(hc:JT X c t)(hb:JSs X body f)(hp:PassesOwn (fE X.prog X.w) X.A X.env X.xe:=by exact PassesOwn.never):JS X (.While c body [] pos) (ab6 t f):=λρ fl q H0 Hf0=>by
 obtain⟨n,hn⟩:=bx0 q;refine P5 (bH7 hp (cw4 hc)<|bo8 (H0:=H0) (Hf0:=Hf0) hb) λEn σ H ⟨Hf,a,e⟩=>?_
 refine⟨λm σ H=>∃Hf' ρ',At X.K H0 Hf0 ρ' σ H Hf'/\E8 Hf Hf'/\Y0 t f m ρ'=Z fl,⟨n,Hf,ρ,a,E8.refl _,hn⟩,?_⟩
 rintro m σ' H' ⟨Hf',ρ',a',s',hm⟩
 cases m with
 | zero=>cases hm
 | succ m =>
  obtain⟨b,e1,hm⟩:=xbm hm;refine⟨ρ',b,e1,H0,Hf',a'.gr.sub,a'.sl,λH2 Hf2 g2=>?_⟩;have a2:=a'.grow g2;have s2:=s'.trans g2.ext;cases b with
  | false =>
   have:fl=.nx ρ':=by simpa using hm.symm
   subst this;exact aG3<|e σ' H2 Hf2 a2 s2
  | true =>
   obtain⟨fl1,e2,hm⟩:=xbm (show(f ρ').bind _=Z fl from hm);refine aG2 ⟨λσ3 H3=>∃m',m' < m+1/\∃Hf' ρ',At X.K H0 Hf0 ρ' σ3 H3 Hf'/\E8 Hf Hf'/\Y0 t f m' ρ'=Z fl,λσ3 H3 z=>z,ρ',fl1,e2,Hf2,a2,?_⟩;cases fl1 with
   | nx ρ3=>exact λσ3 H3 Hf3 a3 s3=>⟨m,cZ _,Hf3,ρ3,a3,s2.trans s3,hm⟩
   | ct ρ3=>exact λσ3 H3 Hf3 a3 s3=>⟨m,cZ _,Hf3,ρ3,a3,s2.trans s3,hm⟩
   | bk ρ3 =>
    cases hm;exact λσ3 H3 Hf3 a3 s3=>e σ3 H3 Hf3 a3<|s2.trans s3
   | rt d =>
    cases hm;exact e
noncomputable def aa2(g:D->Rho->Option Rho)(f:DS):List D->DS
 | []=>λρ=>Z<|.nx ρ
 | d::ds=>λρ=>(g d ρ).bind λρ1=>(f ρ1).bind λfl=>match fl with
   | .nx ρ'=>aa2 g f ds ρ'
   | .ct ρ'=>aa2 g f ds ρ'
   | .bk ρ'=>Z<|.nx ρ'
   | .rt d=>Z<|.rt d
noncomputable def X8(src:Rho->Option (List D))(g:D->Rho->Option Rho)(f:DS):DS:=λρ=>(src ρ).bind λds=>aa2 g f ds ρ
def cD7(hi:JI X tg iter src)(hg:JG X tg g)(hb:JSs X body f)(hp:PassesOwn (fE X.prog X.w) X.A X.env X.xe:=by exact PassesOwn.never)(hc:X.calm=true:=by rfl)
  (hs:∀x,fu iter X.env x=pure x:=by intro _;rfl):JS X (.For tg iter body [] pos) (X8 src g f):=λρ fl q H0 Hf0=>by
 obtain⟨ds,e1,e2⟩:=xbm q;refine P5 (cw7 hp hc (hi ρ ds e1) hg (bo8 (H0:=H0) (Hf0:=Hf0) hb) hs) λEn σ H ⟨Hf,a,e⟩=>⟨H0,Hf,a.gr.sub,a.sl,λJ H1 Hf1 g1 Y=>?_⟩
 refine⟨λi m σ H=>m=ds.length - i/\i<=ds.length/\∃Hf' ρ',At X.K H0 Hf0 ρ' σ H Hf'/\E8 Hf1 Hf'/\aa2 g f (ds.drop i) ρ'=Z fl,⟨ds.length,by simp,aO _,Hf1,ρ,a.grow g1,E8.refl _,by simpa using e2⟩,?_⟩
 rintro i m σ' H' ⟨rfl,hi,Hf',ρ',a',s',hm⟩
 obtain⟨Ys,Yg⟩:=Y i H' Hf' s' a'.gr.sub;rcases bL i ds.length with hlt|hge
 .right
  obtain⟨go,yl⟩:=Yg ds[i] (by simp[hlt]);rw[bG hlt]at hm;obtain⟨ρ1,c1,hm⟩:=xbm hm;obtain⟨fl1,c2,hm⟩:=xbm hm;refine⟨go,λσ3 H3=>∃m',m' < ds.length - i/\m'=ds.length - (i+1)/\i+1<=ds.length/\∃Hf' ρ',At X.K H0 Hf0 ρ' σ3 H3 Hf'/\E8 Hf1 Hf'/\aa2 g f (ds.drop<|i+1) ρ'=Z fl,λσ3 H3 ⟨m',z1,z2⟩=>⟨m',z1,z2⟩,λx H2 hy=>?_⟩;obtain⟨Hf2,g2,r2⟩:=yl x H2 hy;have a2:=a'.grow g2;refine⟨ds[i],ρ',ρ1,H0,Hf2,c1,g2.sub,a2.sl,r2,λσ3 sl3=>⟨ρ1,fl1,c2,Hf2,⟨a2.gr,sl3⟩,?_⟩⟩;have s2:=s'.trans g2.ext;cases fl1 with
  | nx ρ3=>exact λσ3 H3 Hf3 a3 s3=>⟨_,by omega,rfl,hlt,Hf3,ρ3,a3,s2.trans s3,hm⟩
  | ct ρ3=>exact λσ3 H3 Hf3 a3 s3=>⟨_,by omega,rfl,hlt,Hf3,ρ3,a3,s2.trans s3,hm⟩
  | bk ρ3 =>
   cases hm;exact λσ3 H3 Hf3 a3 s3=>e σ3 H3 Hf3 a3<|g1.ext.trans (s2.trans s3)
  | rt d =>
   cases hm;exact e
 .left
  have:i=ds.length:=by omega
  subst this;rw[List.drop_length]at hm;cases hm;exact⟨Ys (ak _),e σ' H' Hf' a' (g1.ext.trans s')⟩
def cf5:JS X (.Pass pos) B8:=λρ fl q H0 Hf0=>by
 cases q;exact P5 ca8 λEn σ H ⟨Hf,a,e⟩=>e σ H Hf a<|E8.refl _
def cD9:JS X (.Break pos) (λρ=>Z<|.bk ρ):=λρ fl q H0 Hf0=>by
 cases q;exact P5 bH9 λEn σ H ⟨Hf,a,e⟩=>e σ H Hf a<|E8.refl _
end
noncomputable def ae3(n:Nat)(ds:List D):Rho:=ds.map (λd=>Z<|B.val d)++aB (n - ds.length) O
noncomputable def C0(g:DS)(n:Nat):List D->Option D:=λds=>(g<|ae3 n ds).bind λfl=>match fl with
 | .rt d=>Z d
 | .nx _=>Z .none
 | _=>O
def aY0{K:ad}{H0 H Hf:Hp}{N:List Str}{ds:List D}{vs:List V}(r:Reps K Hf ds vs):Slots K H0 (ae3 N.length ds) (L2.x6 N vs) H Hf:=by
 have hl:=r.length
 have noown:∀(i:Nat) (b:B),(ae3 N.length ds)[i]? = Z (Z b)->∃d,ds[i]? = Z d/\b=.val d:=λi b h=>by
  unfold ae3 at h;rcases bL i ds.length with q|q
  .rw[aV (by simpa using q),aI]at h;rw[av q]at h ⊢;simp only[eB,bq.injEq]at h;exact⟨ds[i],rfl,h.symm⟩
  .rw[aK (by simpa using q),bX]at h;split at h<;>cases h
 refine⟨by simp[ae3,L2.x6,hl],λi b e=>?_,λi j d1 d2 a e1 _ _ _=>?_⟩
 .obtain⟨d,h1,h2⟩:=noown i b e;subst h2;obtain⟨v,h3,h4⟩:=r.get h1;refine⟨v,?_,h4⟩;have hi:i < vs.length:=(ao.mp h3).1;unfold L2.x6;rw[aV (by simpa using hi),aI,h3];rfl
 .obtain⟨d,_,h2⟩:=noown i _ e1;cases h2
def cj4{P:fh}{w:World}{K:ad}{mg:Str->Option fR}{base:Heap}{x qual:Str}{st:Stmt}{f:fT}{fd:fj}{N ps:List Str}{k:Nat}{g:DS}(F:Fun K x qual st f fd)(S:FnScope N ps (J1 st))
  (hb:∀(cdv:fR) (A:fi) (outer:List Env) (s:fS) (H:Hp) (E:XK),Room k (A.deeper<|envOfC qual (J1 st) s.heap.objs.size f cdv)->JSs (bl7 CX0 P w K mg base N qual (J1 st) f cdv A outer s H E).nox (T5 st) g) :
  FnOk P w K mg base CX0 (k+1) f fd ps (spF K ps.length<|C0 g N.length):=by
 refine F.ok S (λvs H Q E h=>h.1) λcdv A outer s H vs Q E hr hsp=>?_
 obtain⟨hlen,Hf,ds,d,ss,rp,e,kk⟩:=hsp;obtain⟨fl,e1,e2⟩:=xbm e;refine⟨_,hb cdv A outer s H E hr _ fl e1 H Hf,Hf,⟨Grow.refl ss,aY0 rp⟩,?_⟩;cases fl with
 | rt d'=>cases e2;exact λv H' Hf' g r=>kk v H' Hf' g r
 | nx ρ=>cases e2;exact λσ' H' Hf' a _=>kk _ H' Hf' a.gr rfl
 | bk ρ=>cases e2
 | ct ρ=>cases e2
noncomputable def SIt:Bool->Heap->fT->fT->Nat->Prop
 | true=>Heap.IsTupleIter
 | false=>Heap.IsListIter
noncomputable def SSq:Bool->Heap->fT->Array fR->Prop
 | true=>Heap.IsTuple
 | false=>Heap.IsList
section
variable {prog:Program}{w:World}{A:Around}{E:Value->Shared->Prop}{s:Shared}{t t1 t2:Bool}
def SIt.ext(x:SIt t h it l k)(e:∀o,h.get? it=Z o->h'.get? it=Z o):SIt t h' it l k:=by
 cases t with
 | true=>obtain⟨o,ho,r⟩:=x;exact⟨o,e o ho,r⟩
 | false=>obtain⟨o,ho,r⟩:=x;exact⟨o,e o ho,r⟩
def SSq.ext(x:SSq t h l xs)(e:∀o,h.get? l=Z o->h'.get? l=Z o):SSq t h' l xs:=by
 cases t with
 | true=>obtain⟨o,ho,r⟩:=x;exact⟨o,e o ho,r⟩
 | false=>obtain⟨o,ho,r⟩:=x;exact⟨o,e o ho,r⟩
def SIt.lt(x:SIt t h it l k):it < h.objs.size:=by
 cases t with
 | true=>obtain⟨o,ho,_⟩:=x;exact fG ho
 | false=>obtain⟨o,ho,_⟩:=x;exact fG ho
def bg4(hit:s.heap.IsTupleIter it l k)(hl:s.heap.IsTuple l xs)(hx:xs[k]? = Z x)
  (hQ:∀h',h'.IsTupleIter it l (k+1)->Heap.SameBut it s.heap h'->Q x { s with heap:=h' }):fD (fE prog w) A (Builtin.SmallTypes.nextOf<|.ref it) Q E s:=by
 obtain⟨o,ho,hc,hd⟩:=id hit;obtain⟨ol,hol,_,nl,hdl⟩:=hl;unfold Builtin.SmallTypes.nextOf;refine eS (wpAny_callSpecial?_slot (name:=Str.ofString "__next__") hit.typeIs F.slot_tuple_iterator_next<|wpAny_call_entry F.slot_tuple_iterator_next hit.typeIs F.entry_tuple_iterator_next ?_ (F.args_tuple_iterator_next_1 _));show fD _ _ (field (.ref it) 0 >>= _) _ _ s;refine eS (eY ho hd (x:=.ref l) rfl ?_);show fD _ _ (if(fO l==fP)=true then _ else _) _ _ s;rw[if_neg (show ¬((fO l==fP)=true) from aF)];show fD _ _ (field (.ref it) 1 >>= _) _ _ s;refine eS (eY ho hd (x:=.int k 0) rfl ?_);show fD _ _ (seqItems? (.ref l) >>= _) _ _ s;refine eS (wpAny_seqItems hol hdl ?_);simp only[bu,hx];refine eS (wpAny_setField ho hd (by simp)<|eT ⟨x,rfl,eT<|hQ _ ⟨_,Heap.get?_update_self _ ho<|Obj.isFreed_of_fields (Obj.data_mapFields hd _),(Obj.cls_mapFields ..).trans hc,?_⟩ (Heap.SameBut.update ..)⟩);rw[Obj.data_mapFields hd];simp[rawInt]
def bv8(hh:A.handled=O)(hit:s.heap.IsTupleIter it l k)(hl:s.heap.IsTuple l xs)(hx:xs[k]? = O)
  (hE:∀h' e,Heap.ExtBut it s.heap h'->(∃o,h'.get? e=Z o/\o.cls=.type "StopIteration")->E (.ref e) { s with heap:=h' }):fD (fE prog w) A (Builtin.SmallTypes.nextOf<|.ref it) Q E s:=by
 obtain⟨o,ho,hc,hd⟩:=id hit;obtain⟨ol,hol,_,nl,hdl⟩:=hl;unfold Builtin.SmallTypes.nextOf;refine eS (wpAny_callSpecial?_slot (name:=Str.ofString "__next__") hit.typeIs F.slot_tuple_iterator_next<|wpAny_call_entry F.slot_tuple_iterator_next hit.typeIs F.entry_tuple_iterator_next ?_ (F.args_tuple_iterator_next_1 _));show fD _ _ (field (.ref it) 0 >>= _) _ _ s;refine eS (eY ho hd (x:=.ref l) rfl ?_);show fD _ _ (if(fO l==fP)=true then _ else _) _ _ s;rw[if_neg (show ¬((fO l==fP)=true) from aF)];show fD _ _ (field (.ref it) 1 >>= _) _ _ s;refine eS (eY ho hd (x:=.int k 0) rfl ?_);show fD _ _ (seqItems? (.ref l) >>= _) _ _ s;refine eS (wpAny_seqItems hol hdl ?_);simp only[bu,hx];refine eS (wpAny_rule<|eS (wpAny_setField ho hd (by simp) ?_));show fD _ _ (newExc (.type "StopIteration") [] >>= _) _ _ _;refine eS ?_;simp only[newExc,newTuple];refine eS (eV ?_<|by size_fits);refine eS (m:=firstArgMember _ _) (wpAny_of_eq (a:=fP) (by first|rfl|(simp only[firstArgMember];rfl)) ?_);refine eV ?_ (by size_fits);simp only[raiseNew];refine eS (wpAny_handled ?_);first|rw[show A.in1.handled=O from hh]|rw[hh]
 refine eS (eT<|wpAny_throw ?_);exact hE _ _ (((Heap.SameBut.update ..).extBut.push _).push _) ⟨_,fH _ rfl,rfl⟩
def bG3(hit:SIt t s.heap it l k)(hl:SSq t s.heap l xs)(hx:xs[k]? = Z x)
  (hQ:∀h',SIt t h' it l (k+1)->Heap.SameBut it s.heap h'->Q x { s with heap:=h' }):fD (fE prog w) A (Builtin.SmallTypes.nextOf<|.ref it) Q E s:=by
 cases t with
 | true=>exact bg4 hit hl hx hQ
 | false=>exact wpAny_nextOf_list_item hit hl hx hQ
def bo5(hh:A.handled=O)(hit:SIt t s.heap it l k)(hl:SSq t s.heap l xs)(hx:xs[k]? = O)
  (hE:∀h' e,Heap.ExtBut it s.heap h'->(∃o,h'.get? e=Z o/\o.cls=.type "StopIteration")->E (.ref e) { s with heap:=h' }):fD (fE prog w) A (Builtin.SmallTypes.nextOf<|.ref it) Q E s:=by
 cases t with
 | true=>exact bv8 hh hit hl hx hE
 | false=>exact wpAny_nextOf_list_end hh hit hl hx hE
noncomputable def aN9(t:Bool)(l:fT):Obj:={ cls:=.type (if t then "tuple_iterator" else "list_iterator"),data:=.fields #[.ref l,.int 0 0] }
def bZ6{h:Heap}{l:fT}(t:Bool):SIt t (h.push<|aN9 t l) h.objs.size l 0:=by
 cases t with
 | true=>exact⟨_,fH _ rfl,rfl,rfl⟩
 | false=>exact⟨_,fH _ rfl,rfl,rfl⟩
def aD9(hl:SSq t s.heap l xs)(hQ:Q (.ref s.heap.objs.size) { s with heap:=s.heap.push (aN9 t l) }):fD (fE prog w) A (pyIter<|.ref l) Q E s:=by
 cases t with
 | true=>exact wpAny_pyIter_tuple hl hQ
 | false=>exact wpAny_pyIter_list hl hQ
end
def cu9(I:Inv X pins σ H s)(h:Sq X.K t H a xs)(h':Sq X.K t H a ys):xs=ys:=by
 cases t with
 | true=>exact I.tuple_inj h h'
 | false=>exact I.list_inj h h'
def aQ8(I:Inv X pins σ H s)(h:Sq X.K t H a xs):∃its:List fR,D8 xs its/\SSq t s.heap a its.toArray/\a < s.heap.objs.size:=by
 cases t with
 | true =>
  obtain⟨its,r,p,_⟩:=I.tuple h;exact⟨its,r,p,by obtain⟨o,ho,_⟩:=p;exact fG ho⟩
 | false =>
  obtain⟨its,r,p,_⟩:=I.list h;exact⟨its,r,p.isList,by obtain⟨o,ho,_⟩:=p.isList;exact fG ho⟩
def aA2{X:Cx}{pins:List (fT×Obj)}{σ:L2.St}{H:Hp}{s:fS}{h':Heap}{t':Nat}{ch:List fT}{T:fT}{o:HO}(I:Inv X pins σ H s)(hf:∀b∈ch,aw2 X pins H b)(hT:s.heap.objs.size<=T)
  (k:∀b u,b∉ch->s.heap.get? b=Z u->h'.get? b=Z u) (new:P9 X.prog X.w (upd H T o) h' T o):Inv X pins σ (upd H T o) { s with heap:=h',toks:=t' }:=by
 have hn:H T=O:=I.hok.fresh hT;have neT:∀b u,s.heap.get? b=Z u->b≠T:=λb u e=>aE<|aL (fG e) hT
 have nch:∀b u,H b=Z u->b∉ch:=λb u e z=>by rw[(hf b z).1]at e;cases e
 refine I.step (g':=s.gens) (d':=s.drawn) (ch:=ch) (λb hb=>⟨(hf b hb).2.2.2.1,(hf b hb).2.1,(hf b hb).2.2.2.2.1,(hf b hb).2.2.2.2.2⟩) (λb u _ _ hc e _=>k b u hc e) (λb u _ _ hc e _=>⟨u.slots,k b u hc e⟩)
  (λb u _ e n=>by rw[C8 (neT b u e)];exact n) (λb u hc e=>⟨u,k b u hc e⟩) (λb xs e=>by rw[C8 (C9 e hn)];exact e) (λb ob u e=>by rw[C8 (C9 e hn)];exact e)
  (λb ps e=>⟨#[],by rw[C8 (C9 e hn),e];simp⟩) (λm hm=>?_) (λb u e=>?_) I.bare
 .obtain⟨ob,es,ep,ho,r⟩:=hm;exact⟨ob,es,ep,k _ ob (λz=>(hf _ z).2.1 rfl) ho,r⟩
 .by_cases hb:b=T
  .subst hb;rw[C2]at e;cases e;exact new
  .rw[C8 hb]at e;refine(I.hok b u e).stay (λc v hc q=>k c v ?_ q) (λc q=>by rw[C8 (C9 q hn)];exact q) λc xs q=>by rw[C8 (C9 q hn)];exact q
   rcases hc with z|z
   .rw[z];exact nch b u e
   .exact nch c _ z
def bj6{X:Cx}{pins:List (fT×Obj)}{σ:L2.St}{H:Hp}{s:fS}{h':Heap}{t':Nat}{ch:List fT}(I:Inv X pins σ H s)(hf:∀b∈ch,aw2 X pins H b)
  (k:∀b u,b∉ch->s.heap.get? b=Z u->h'.get? b=Z u):Inv X pins σ H { s with heap:=h',toks:=t' }:=by
 have nch:∀b u,H b=Z u->b∉ch:=λb u e z=>by rw[(hf b z).1]at e;cases e
 refine I.step (g':=s.gens) (d':=s.drawn) (ch:=ch) (λb hb=>⟨(hf b hb).2.2.2.1,(hf b hb).2.1,(hf b hb).2.2.2.2.1,(hf b hb).2.2.2.2.2⟩) (λb u _ _ hc e _=>k b u hc e) (λb u _ _ hc e _=>⟨u.slots,k b u hc e⟩)
  (λb u _ e n=>n) (λb u hc e=>⟨u,k b u hc e⟩) (λb xs e=>e) (λb ob u e=>e) (λb ps e=>⟨#[],by rw[e];simp⟩) (λm hm=>?_) (λb u e=>?_) I.bare
 .obtain⟨ob,es,ep,ho,r⟩:=hm;exact⟨ob,es,ep,k _ ob (λz=>(hf _ z).2.1 rfl) ho,r⟩
 .refine(I.hok b u e).stay (λc v hc q=>k c v ?_ q) (λc q=>q) λc xs q=>q
  rcases hc with z|z
  .rw[z];exact nch b u e
  .exact nch c _ z
section
variable {X:Cx}
noncomputable def cj0(f g:Rho->Option (Bool×List D)):Rho->Option (List D):=λρ=>(f ρ).bind λp=>(g ρ).bind λq=>Z<|(p.2.zip q.2).map λ(x,y)=>PyData.tuple [x,y]
end
def ay3:fillsNumberSlot (.type "tuple") "mul" = pure false:=PySem.fillsNumberSlot_seq (id := "tuple.__mul__") (r:=Z<|.builtin "tuple.__rmul__") F.slot_tuple_mul.lookup (by decide +kernel) F.slot_tuple_rmul.lookup (by decide +kernel)
def aM6:seqRepeat? (.type "tuple")=pure (Z<|.builtin "tuple.__mul__"):=by
 unfold seqRepeat?;rw[PySem.seqSlot_of (T := "tuple") (name := "__mul__") (id := "tuple.__mul__") F.slot_tuple_mul.lookup (by decide +kernel),PySem.seqSlot_of (T := "tuple") (name := "__rmul__") (id := "tuple.__rmul__") F.slot_tuple_rmul.lookup (by decide +kernel)];rfl
def ao9(a:Int)(t:Tok)(l:fT)(items:Array fR)(n:Nat)(dd:Option fT)(sl:Array (Option fR)):
  Meets (Builtin.«int.__rmul__» ⟨[.int a t,.ref l],[]⟩) (λ_ R s=>s.heap.get? l=Z ⟨.type "tuple", dd,.seq items n,sl⟩/\R (.ok<|.ret Value.notImplemented) s) :=
 .of_wp λprog w A R s h=>by obtain⟨hp,g,d,tk,os⟩:=s;obtain⟨hl,h⟩:=h;wp_walk;exact⟨_,rfl,h⟩
def bh4(items:Array fR)(k:Nat):cV (λx1 x2=>x1++x2) #[] (aB k items)=(aB k items.toList).flatten.toArray:=by
 have:=aO2 items.toList k [];rw[List.nil_append]at this;simpa using this
def aZ9(l:fT)(items:Array fR)(n:Nat)(dd:Option fT)(sl:Array (Option fR))(x:Int)(u:Tok)(h2:2<=x)(h3:x < 1000000)(he:items.isEmpty=false)(hz:items.size*x.toNat<=fc):
  Meets (Builtin.«tuple.__mul__» ⟨[.ref l,.int x u],[]⟩) (λ_ R s=>s.heap.get? l=Z ⟨.type "tuple", dd,.seq items n,sl⟩/\R (.ok<|.ret (fO s.heap.objs.size)) { s with heap:=s.heap.push { cls:=Value.type "tuple", data:=Data.seq (cV (λx1 x2=>x1++x2) #[] (aB x.toNat items)) } }) :=
 .of_wp λprog w A R s h=>by
  obtain⟨hp,g,d,tk,os⟩:=s;obtain⟨hl,h⟩:=h
  have hm:(items.size:Int)*x<=16777216:=by
   have e:((items.size*x.toNat:Nat):Int)=(items.size:Int)*x:=by rw[bI,Int.toNat_of_nonneg (by omega)]
   have:items.size*x.toNat<=16777216:=by rw[← fe];exact hz
   omega
  wp_walk
  refine wpAny_ite_false (by simp;omega) ?_;have ht:Heap.IsTuple (Shared.heap ⟨hp,g,d,tk,os⟩) l items:=⟨_,hl,rfl,n,rfl⟩;refine eS (tupleItemsOf_ ht ?_);refine wpAny_ite_false (by rw[he];simp;omega) ?_;show fD _ _ (if(decide (x<=0) || items.isEmpty)=true then _ else _) _ _ _;refine wpAny_ite_false (by rw[he];simp;omega) ?_;show fD _ _ (if(items.size:Int)*x > (2 ^ 63 - 1) / 8 then _ else _) _ _ _;rw[if_neg (by omega)];show fD _ _ (if Builtin.Tuple.tupleTooMany ((items.size:Int)*x)=true then _ else _) _ _ _;rw[if_neg (by unfold Builtin.Tuple.tupleTooMany;rw[fe];simp;omega)];refine eS (m:=Builtin.Tuple.tupleExact _) (eV (eT ⟨_,rfl,h⟩) ?_);show(cV (λx1 x2=>x1++x2) #[] (aB x.toNat items)).size<=fc;rw[bh4 items x.toNat,aw,aT1,aY,bZ];exact hz
section
variable {X:Cx}
def cc5:OpR X (fo .Mult) (λx y H Q=>∃l k xs,x=.ref l/\y=.int k/\SqT X.K H l xs/\xs≠[]/\2<=k/\k < 1000000/\xs.length*k.toNat<=fc/\∀p,H p=O->Q (.ref p) (upd H p<|.tup (aB k.toNat xs).flatten)):=by
 intro pins s σ H x y v u Q I rx ry h;obtain⟨l,k,xs,rfl,rfl,hq,hx,h2,h3,hz,q⟩:=h;cases rx;obtain⟨t,rfl⟩:=ry;obtain⟨its,r,p1,_⟩:=I.tuple hq;obtain⟨⟨cls,dd,data,sl⟩,ho,hc,n,hd⟩:=id p1;simp only at hc hd;subst hc hd;have hl:=r.length
 have he:its.toArray.isEmpty=false:=by
  cases its with
  | nil=>exact absurd (r.nil_iff.mp rfl) hx
  | cons a b=>rfl
 refine wpAny_binaryOp_repeat_ref (T := "tuple") (U := "int") (by decide) ⟨_,ho,rfl⟩ (λs'=>typeIs_int s' k t) ay3 F.fills_int_mul F.slot_int_rmul aM6 F.slot_int_index.lookup
  (fw F.slot_int_rmul (typeIs_int s k t) F.entry_int_rmul (F.args_int_rmul_2 _ _) (ao9 k t l its.toArray n dd sl) ⟨ho,rfl,⟨_,ho,rfl⟩,
   fw F.slot_tuple_mul ⟨_,ho,rfl⟩ F.entry_tuple_mul (F.args_tuple_mul_2 _ _) (aZ9 l its.toArray n dd sl k t h2 h3 he (by rw[aw,← hl];exact hz)) ⟨ho,?_⟩⟩)
 rw[bh4];refine⟨.ref _,_,I.laid (t':=s.toks) (o:=.tup (aB k.toNat xs).flatten) (λb ob q=>fF _ q) (ak _) ⟨?_,_,r.rep k.toNat,aJ2.new _ _⟩,rfl,q _<|I.hok.fresh (ak _)⟩;rw[aT1,bZ];exact hz
noncomputable def ac1(x y:D):Option D:=match x,y with
 | .int i,.int j=>if F5 i/\F5 j then Z (.int<|i*j) else O
 | .tuple xs,.int k=>if xs.isEmpty=false/\2<=k/\k < 1000000/\xs.length*k.toNat<=16777216 then Z (.tuple (aB k.toNat xs).flatten) else O
 | _,_=>O
def aS2:OpD X (fo .Mult) ac1:=λx y z h=>by
 unfold ac1 at h;split at h
 .exact cy9 _ _ z (by unfold cA9;exact h)
 .split at h
  .rename_i xs k c;cases h;refine OpR.imp cc5 λvx vy H Q ⟨Hf,s,r1,r2,kk⟩=>?_
   obtain⟨a,vs,rfl,h2,h3⟩:=r1;refine⟨a,k,vs,rfl,r2,D1 s h2,?_,c.2.1,c.2.2.1,by rw[h3.length,fe];exact c.2.2.2,λp hp=>?_⟩
   .intro e;subst e;have:=h3.length;cases xs with
    | nil=>exact absurd c.1 (by simp)
    | cons a b=>simp at this
   .exact kk _ _ _ (Grow.laid s hp) ⟨p,_,rfl,SqT.of C2,(h3.flatten k.toNat).mono<|E5 (s.free hp)⟩
  .cases h
 .cases h
noncomputable def aH8(f:DE):DE:=λρ=>(f ρ).bind λd=>match d with
 | .int i=>Z<|.int (-i)
 | _=>O
def bO9(h:JE X a f):JE X (.UnaryOp .USub a pos) (aH8 f):=λρ d q=>by
 obtain⟨x,e1,e2⟩:=xbm q;cases x with
 | int i =>
  cases e2;exact B9 (cP6 cu0<|h ρ _ e1) λσ H Q ⟨H0,Hf,s,sl,k⟩=>⟨H0,Hf,s,sl,λv H1 Hf1 g1 r1=>⟨_,r1,k _ H1 Hf1 g1 rfl⟩⟩
 | _=>cases e2
noncomputable def isB(x y:D):Option D:=match y with
 | .bool b=>(match x with
  | .bool c=>Z<|.bool (c==b)
  | .dict _=>O
  | _=>Z (.bool false))
 | .none=>isN x .none
 | _=>O
noncomputable def al8(x y:D):Option D:=match y with
 | .bool b=>(match x with
  | .bool c=>Z<|.bool (!(c==b))
  | .dict _=>O
  | _=>Z (.bool true))
 | .none=>cz7 x .none
 | _=>O
def cR1:OpD X (ff .Is) isB:=λx y z h=>by
 cases y with
 | none=>exact cz1 x .none z h
 | bool b =>
  intro pins s σ H vx vy v u Q I rx ry ⟨Hf,ss,r1,r2,k⟩;cases r2;cases ry;have fin:∀c,z=.bool c->(v==Value.bool b)=c->EP X pins σ Q (.bool<|v==Value.bool b) s:=λc e1 e2=>by rw[e2];subst e1;exact⟨.bl c,H,I,rfl,k _ H Hf (Grow.refl ss) rfl⟩
  cases x with
  | none=>cases r1;cases rx;cases h;exact wpAny_is_plain rfl<|fin _ rfl rfl
  | bool c=>cases r1;cases rx;cases h;exact wpAny_is_plain rfl (fin _ rfl (by cases c<;>cases b<;>rfl))
  | int i=>cases r1;obtain⟨t,rfl⟩:=rx;cases h;exact wpAny_is_plain rfl<|fin _ rfl rfl
  | str i=>cases r1;obtain⟨t,rfl⟩:=rx;cases h;exact wpAny_is_plain rfl<|fin _ rfl rfl
  | tuple ds=>obtain⟨a,vs,rfl,_⟩:=r1;cases rx;cases h;exact wpAny_is_plain rfl<|fin _ rfl rfl
  | list ds=>obtain⟨a,vs,rfl,_⟩:=r1;cases rx;cases h;exact wpAny_is_plain rfl<|fin _ rfl rfl
  | dict ds=>cases h
 | _=>cases h
def bK5:OpD X (ff .IsNot) al8:=λx y z h=>by
 cases y with
 | none=>exact cd4 x .none z h
 | bool b =>
  intro pins s σ H vx vy v u Q I rx ry ⟨Hf,ss,r1,r2,k⟩;cases r2;cases ry;have fin:∀c,z=.bool c->(!(v==Value.bool b))=c->EP X pins σ Q (.bool (!(v==Value.bool b))) s:=λc e1 e2=>by rw[e2];subst e1;exact⟨.bl c,H,I,rfl,k _ H Hf (Grow.refl ss) rfl⟩
  cases x with
  | none=>cases r1;cases rx;cases h;exact wpAny_isNot_plain rfl<|fin _ rfl rfl
  | bool c=>cases r1;cases rx;cases h;exact wpAny_isNot_plain rfl (fin _ rfl (by cases c<;>cases b<;>rfl))
  | int i=>cases r1;obtain⟨t,rfl⟩:=rx;cases h;exact wpAny_isNot_plain rfl<|fin _ rfl rfl
  | str i=>cases r1;obtain⟨t,rfl⟩:=rx;cases h;exact wpAny_isNot_plain rfl<|fin _ rfl rfl
  | tuple ds=>obtain⟨a,vs,rfl,_⟩:=r1;cases rx;cases h;exact wpAny_isNot_plain rfl<|fin _ rfl rfl
  | list ds=>obtain⟨a,vs,rfl,_⟩:=r1;cases rx;cases h;exact wpAny_isNot_plain rfl<|fin _ rfl rfl
  | dict ds=>cases h
 | _=>cases h
noncomputable def bf1(K:ad)(d:D)(u:fR):Prop:=∃v,E4 v u/\∀H:Hp,Rep K H d v
def cG1(r:bf1 X.K d u)(hg:Gl X x)(hm:X.mg x=Z u)(hd:(x==("__debug__" : Str))=false:=by decide):JE X (.Name x pos) (dC d):=λρ d' q=>by
 cases q;obtain⟨v,rv,rp⟩:=r;exact B9 (cb7 hg hm rv hd) λσ H Q ⟨H0,Hf,s,sl,k⟩=>k _ H Hf (Grow.refl s)<|rp Hf
noncomputable def qN(f:Rho->Option (List D)):Rho->Option (Bool×List D):=λρ=>(f ρ).map λds=>(false,ds)
def cE2(h:JN X e f):JQ X e (qN f):=bO3 h
noncomputable def V1(f:Rho->Option (Bool×List D)):DE:=λρ=>(f ρ).bind λq=>if q.1=true then O else Z (.tuple q.2)
def cg7(hg:Gl X "tuple")(hm:X.mg "tuple" = O)(h:JQ X e f)(he:fb [e] X.env=[(false,eval e X.env)]:=by rfl):JE X (.Call (.Name "tuple" p) [e] [] pos) (V1 f):=bO7 hg hm h (he:=he)
end
def bD6(l b:fT)(items items2:Array fR)(n n2:Nat)(dd dd2:Option fT)(sl sl2:Array (Option fR))(hz:items.size+items2.size<=fc):
  Meets (Builtin.«list.__add__» ⟨[.ref l,.ref b],[]⟩) (λ_ R s=>s.heap.get? l=Z ⟨.type "list", dd,.seq items n,sl⟩/\s.heap.get? b=Z ⟨.type "list", dd2,.seq items2 n2,sl2⟩/\R (.ok<|.ret (fO s.heap.objs.size)) { s with heap:=s.heap.push { cls:=Value.type "list", data:=Data.seq (items++items2) } }) :=
 .of_wp λprog w A R s h=>by
  obtain⟨hp,g,d,tk,os⟩:=s;obtain⟨hl,hb,h⟩:=h;have hsub:isSubtype (.type "list") (.type "list")=pure true:=by rw[isSubtype_type];kernel_rfl
  have hsz:=hz
  wp_walk
  exact⟨_,rfl,h⟩
section
variable {X:Cx}
def bp4:OpR X (fo .Add) (λx y H Q=>∃a b xs ys,x=.ref a/\y=.ref b/\SqL X.K H a xs/\SqL X.K H b ys/\xs.length+ys.length<=fc/\∀p,H p=O->Q (.ref p) (upd H p<|.lst (xs++ys))):=by
 intro pins s σ H x y v u Q I rx ry h;obtain⟨a,b,xs,ys,rfl,rfl,ha,hb,hz,q⟩:=h;cases rx;cases ry;obtain⟨its,r1,p1,_⟩:=I.list ha;obtain⟨its2,r2,p2,_⟩:=I.list hb;obtain⟨⟨cls,dd,data,sl⟩,ho,hc,n,hd⟩:=p1.isList;obtain⟨⟨cls2,dd2,data2,sl2⟩,ho2,hc2,n2,hd2⟩:=p2.isList;simp only at hc hd hc2 hd2;subst hc hd hc2 hd2;have l1:=r1.length;have l2:=r2.length;refine concat_meets ⟨_,ho,rfl⟩ ⟨_,ho2,rfl⟩ noFill_list_add seq_list_add PySem.F.slot_list_add PySem.F.entry_list_add (PySem.F.args_list_add_2 _ _) (bD6 a b its.toArray its2.toArray n n2 dd dd2 sl sl2 (by simp only[aw];grind)) ⟨ho,ho2,?_⟩;have ea:its.toArray++its2.toArray=(its++its2).toArray:=by simp
 rw[ea];exact⟨.ref _,_,I.lnew (t':=s.toks) (r1.append r2) (by rw[ah];grind),rfl,q _ I.fresh⟩
noncomputable def B1(x y:D):Option D:=match x,y with
 | .list xs,.list ys=>if xs.length+ys.length<=16777216 then Z (.list<|xs++ys) else O
 | x,y=>ac8 x y
def cd6:OpD X (fo .Add) B1:=λx y z h=>by
 unfold B1 at h;split at h
 .split at h
  .rename_i c;cases h;refine OpR.imp bp4 λvx vy H Q ⟨Hf,s,r1,r2,k⟩=>?_
   obtain⟨a,vs,rfl,h2,h3⟩:=r1;obtain⟨b,us,rfl,h5,h6⟩:=r2;refine⟨a,b,vs,us,rfl,rfl,G1 s h2,G1 s h5,by rw[h3.length,h6.length,fe];exact c,λp hp=>?_⟩;exact k _ _ _ (Grow.laid s hp) ⟨p,vs++us,rfl,SqL.of C2,(h3.append h6).mono<|E5 (s.free hp)⟩
  .cases h
 .exact bK6 _ _ z h
noncomputable def cq7(f:DE):DE:=λρ=>(f ρ).bind λd=>match d with
 | .tuple xs=>Z<|.tuple xs.reverse
 | _=>O
end
section
variable {prog:Program}{w:World}{A:Around}{E:Value->Shared->Prop}{s:Shared}
def bm6(n:Nat):Builtin.Slice.sliceAdjust O O (-1) (n:Int)=((n:Int) - 1,-1):=by
 unfold Builtin.Slice.sliceAdjust;have h1:(-1:Int) < 0:=by omega
 simp only[h1,if_true]
def bh7(n:Nat):Builtin.Slice.slicePlaces ((n:Int) - 1) (-1) (-1)=n:=by
 unfold Builtin.Slice.slicePlaces;have h1:¬(-1:Int) > 0:=by grind
 have h2:-(-1:Int)=1:=by grind
 simp only[h1,if_false,h2,Int.ediv_one];split<;>grind
def at8{sl:fT}{t:Tok}{n:Nat}{Q:Int×Int×Nat->fS->Prop}(hs:s.heap.IsSliceOf sl .none .none (.int (-1) t))
  (h:Q ((n:Int) - 1,-1,n) s):fD (fE prog w) A (Builtin.Slice.sliceApplied (.ref sl)<|pure (n:Int)) Q E s:=by
 obtain⟨os,hos,hcs,hds⟩:=id hs;unfold Builtin.Slice.sliceApplied Builtin.Slice.sliceFields;refine eS (eS<|eY hos hds (x:=.none) rfl (eS<|eY hos hds (x:=.none) rfl (eS<|eY hos hds (x:=.int (-1) t) rfl (eT ?_))));refine eS (slicePart_int ?_);show fD _ _ (if((-1:Int)==0)=true then _ else _) _ _ s;rw[if_neg (by decide)];refine eS (slicePart_none<|eS (slicePart_none<|eS (eT ?_)));show fD _ _ (match Builtin.Slice.sliceAdjust O O (-1) (n:Int) with|(lo,hi)=>pure (lo,(-1:Int),Builtin.Slice.slicePlaces lo hi (-1))) _ _ s;rw[bm6 n];show fD _ _ (pure ((n:Int) - 1,(-1:Int),Builtin.Slice.slicePlaces ((n:Int) - 1) (-1) (-1))) _ _ s;rw[bh7];exact eT h
theorem aY9{α:Type}:∀l:List α,(az l.length).filterMap (λk=>l[k]?)=l
 | []=>rfl
 | a::l=>by
  rw[aH,eD,bQ,List.filterMap_map];simp only[dP]
  congr 1
  exact aY9 l
theorem bb5{α β:Type}{f g:α->Option β}:∀{l:List α},(∀x∈l,f x=g x)->l.filterMap f=l.filterMap g
 | [],_=>rfl
 | a::l,h=>by rw[bQ,bQ,h a (ae ..),bb5 λx hx=>h x (xmm _ hx)]
def bI5(xs:Array fR):((az xs.size).filterMap λ(k:Nat)=>xs[(((xs.size:Int) - 1)+(k:Int) * -1).toNat]?).toArray=xs.toList.reverse.toArray:=by
 congr 1
 have e:∀k∈az xs.size,xs[(((xs.size:Int) - 1)+(k:Int) * -1).toNat]? = xs.toList.reverse[k]?:=by
  intro k hk;have hk:=aR.mp hk;have:(((xs.size:Int) - 1)+(k:Int) * -1).toNat=xs.size - 1 - k:=by grind
  rw[this,List.getElem?_reverse (by rw[aY];exact hk),aY,eQ]
 rw[bb5 e];have:=aY9 xs.toList.reverse;rw[dv,aY]at this;exact this
def aq1(ht:IsTup s.heap t items)(hs:s.heap.IsSliceOf sl .none .none (.int (-1) k))
  (h:Q (.ref s.heap.objs.size) { s with heap:=s.heap.push { cls:=.type "tuple", data:=.seq items.toList.reverse.toArray } })
  (hsz:items.size<=fc):fD (fE prog w) A (getItem (.ref t)<|.ref sl) Q E s:=by
 have htake:sizeOk (.seq items.toList.reverse.toArray):=by
  show items.toList.reverse.toArray.size<=fc;rw[aw,dv,aY];omega
 obtain⟨os,hos,hcs,hds⟩:=id hs;have hTs:s.TypeIs (.ref sl) "slice" := ⟨os,hos,hcs⟩;unfold getItem
 try with_reducible refine wpAny_holding ?_
 first|refine eS (eT ?_)|skip
 refine eS (wpAny_sequenceKey ht.typeIs (by decide) ?_)
 refine eS (wpAny_callSpecial?_slot (name:=Str.ofString "__getitem__") ht.typeIs PyProof.Rows.slot_tuple_getitem
  (wpAny_call_entry PyProof.Rows.slot_tuple_getitem ht.typeIs entry_tuple_getitem ?_ (args_tuple_getitem _ _)))
 show fD _ _ (Builtin.Tuple.tupleItemsOf (.ref t) >>= _) _ _ s;refine eS (tupleItemsOf_ ht ?_);refine eS (wpAny_typeOf hTs ?_);rw[if_pos (by decide)];refine eS<|at8 hs ?_
 have hno:¬((((items.size:Int) - 1)==0&&(-1:Int)==1&&items.size==items.size)=true):=by
  have:((-1:Int)==1)=false:=rfl;rw[this];simp
 show fD _ _ (if(((items.size:Int) - 1)==0&&(-1:Int)==1&&items.size==items.size)=true then _ else _) _ _ s;rw[if_neg hno,bI5]
 first
  | exact eS (m:=Builtin.Tuple.tupleExact _)<|eV (eT ⟨_,rfl,eT h⟩) htake
  | exact eS (m:=Builtin.Tuple.tupleExact _)<|eV (eS<|eT (eT ⟨_,rfl,eT h⟩)) htake
  | exact eS<|eS (m:=Builtin.Tuple.tupleExact _) (eV (eT<|eT ⟨_,rfl,eT h⟩) htake)
  | exact eS<|eS (m:=Builtin.Tuple.tupleExact _) (eV (eT ⟨_,rfl,eT h⟩) htake)
end
section
variable {X:Cx}{e st:Expr}{te ts:TE}{p2 pos:Pos}
theorem aX6:∀{xs:List V}{us:List fR},D8 xs us->D8 xs.reverse us.reverse
 | [],[],h=>h
 | x::xs,u::us,h=>by
  cases h with
  | cons a b=>rw[cT,cT];exact(aX6 b).append (.cons a .nil)
def cx3(he:PE X e te)(hs:PE X st ts):PE X (.Subscript e (.Slice O O (Z st) p2) pos)
  (λσ H Q=>te σ H λx H1=>ts σ H1 λy H2=>∃a xs,x=.ref a/\y=.int (-1)/\SqT X.K H2 a xs/\∀p,H2 p=O->Q (.ref p) (upd H2 p<|.tup xs.reverse)):=by
 intro pins s σ H Q I h;refine Subscript_ (thn (he pins s σ H _ I h) λv s1 ⟨x,H1,I1,r1,q1⟩=>?_);refine wpAny_Slice ?_;rw[evalPart_none];refine eT (eT ?_);rw[evalPart_some];refine thn (hs pins s1 σ H1 _ I1 q1) λvs s3 ⟨y,H3,I3,r3,a,xs,e1,e2,hx,q⟩=>?_
 subst e1 e2;cases r1;obtain⟨tk,rfl⟩:=r3;have I4:Inv X pins σ H3 { s3 with heap:=s3.heap.push { cls:=.type "slice", data:=.fields #[.none,.none,.int (-1) tk] } }:=I3.kept (t':=s3.toks) λb ob q=>fF _ q
 obtain⟨its,r,ht,hz⟩:=I4.tuple hx;have hlen:its.toArray.size=xs.length:=by rw[aw];exact r.length.symm
 show fD (fE X.prog X.w) X.A (subscriptTail e (.Slice O O (Z st) p2) (.ref a)<|.ref s3.heap.objs.size) (EP X pins σ Q) X.xe { s3 with heap:=s3.heap.push { cls:=.type "slice", data:=.fields #[.none,.none,.int (-1) tk] } };refine tail_any (ops:=[.ref a,.ref s3.heap.objs.size]) ht.typeIs PyProof.Rows.slot_tuple_getitem.lookup ?_ (by with_unfolding_all rfl);refine aq1 ht (Heap.IsSliceOf.new ..) ?_ (by rw[hlen];exact hz);refine⟨.ref _,_,I4.laid (t':=s3.toks) (o:=.tup xs.reverse) (λb ob q=>fF _ q) (ak _) ?_,rfl,q _<|I4.hok.fresh (ak _)⟩;exact⟨by rw[dv];exact hz,_,aX6 r,aJ2.new _ _⟩
def bH1{K:ad}{H:Hp}{ds:List D}{vs:List V}(h:Reps K H ds vs):Reps K H ds.reverse vs.reverse:=by
 induction ds generalizing vs with
 | nil=>cases vs with
  | nil=>exact h
  | cons _ _=>exact absurd h.length (by simp)
 | cons d ds ih=>cases vs with
  | nil=>exact absurd h.length (by simp)
  | cons v vs =>
   obtain⟨v',r',e,h1,h2⟩:=h;cases e;rw[cT,cT];exact(ih h2).append ⟨_,_,rfl,h1,rfl⟩
def cg8(ha:JE X a f)(hs:JE X st (aH8<|dC (.int 1))):JE X (.Subscript a (.Slice O O (Z st) p2) pos) (cq7 f):=λρ d q=>by
 obtain⟨x,e1,q⟩:=xbm q;cases x with
 | tuple xs =>
  cases q;refine B9 (cx3 (ha ρ _ e1)<|hs ρ (.int (-1)) rfl) λσ H Q ⟨H0,Hf,s,sl,k⟩=>?_
  refine⟨H0,Hf,s,sl,λv H1 Hf1 g1 ⟨p,vs,q1,q2,q3⟩=>⟨H0,Hf1,g1.sub,sl.grow g1,λu H2 Hf2 g2 r2=>?_⟩⟩;subst q1;cases r2;have q2':=D1 g2.ext q2;have q3':=q3.mono g2.ext;refine⟨p,vs,rfl,rfl,D1 g2.sub q2',λp' hp=>?_⟩;exact k _ _ _ ((g1.trans g2).trans<|Grow.laid g2.sub hp) ⟨p',_,rfl,SqT.of C2,(bH1 q3').mono<|E5 (g2.sub.free hp)⟩
 | _=>cases q
end
section
variable {X:Cx}
noncomputable def atS(x:Str)(i:Int):Option D:=if x.length<=16777216 then(atI x.cps.toList i).map λc=>.str ⟨#[c]⟩ else O
noncomputable def an2(f g:DE):DE:=λρ=>(f ρ).bind λx=>(g ρ).bind λi=>match x,i with
 | .str x,.int i=>atS x i
 | _,_=>O
def cF7(ha:JE X a f)(hb:JE X b g)(hs:as3 b:=by intro _ _;rfl):JE X (.Subscript a b pos) (an2 f g):=λρ d q=>by
 obtain⟨x,h1,q⟩:=xbm q;obtain⟨y,h2,h3⟩:=xbm q;split at h3
 .rename_i x i;unfold atS at h3;split at h3
  .rename_i hz;obtain⟨c,e1,e2⟩:=xmo h3;subst e2;refine B9 (co1 bP6 (ha ρ _ h1) (hb ρ _ h2) hs) λσ H Q ⟨H0,Hf,s,sl,k⟩=>?_
   refine⟨H0,Hf,s,sl,λv H1 Hf1 g1 r1=>⟨H0,Hf1,g1.sub,sl.grow g1,λu H2 Hf2 g2 r2=>?_⟩⟩;exact .inr (.inr ⟨x,i,c,r1,r2,by rw[fe];exact hz,e1,k _ H2 Hf2 (g1.trans g2) rfl⟩)
  .cases h3
 .cases h3
noncomputable def E3(f:DE)(lo hi:Rho->Option (Option Int)):DE:=λρ=>(f ρ).bind λd=>(lo ρ).bind λl=>(hi ρ).bind λh=>match d with
 | .tuple xs=>Z<|.tuple (R8 xs l h)
 | .list xs=>Z<|.list (R8 xs l h)
 | _=>O
def cF3{a:Expr}{lo hi:Option Expr}{f:DE}{l h:Rho->Option (Option Int)}{pos p2:Pos}(ha:JE X a f)(hl:JO X lo l)(hh:JO X hi h):JE X (.Subscript a (.Slice lo hi O p2) pos) (E3 f l h):=λρ d q=>by
 obtain⟨x,e1,q⟩:=xbm q;obtain⟨y,e2,q⟩:=xbm q;obtain⟨z,e3,q⟩:=xbm q;cases x with
 | tuple xs =>
  cases q;refine bO8 ha hl hh ρ _ ?_;unfold bd8;rw[e1,dN,e2,dN,e3,dN]
 | list xs =>
  cases q;refine B9 (ap3 bo4 (ha ρ _ e1) (hl ρ y e2)<|hh ρ z e3) λσ H Q ⟨H0,Hf,s,sl,k⟩=>?_
  refine⟨H0,Hf,s,sl,λv H1 Hf1 g1 ⟨p,vs,q1,q2,q3⟩=>⟨H0,Hf1,g1.sub,sl.grow g1,λH2 Hf2 g2=>⟨H0,Hf2,g2.sub,sl.grow<|g1.trans g2,λH3 Hf3 g3=>?_⟩⟩⟩;subst q1;have q2':=G1 (g2.trans g3).ext q2;have q3':=q3.mono (g2.trans g3).ext;refine⟨p,vs,rfl,G1 g3.sub q2',λp' hp=>?_⟩;exact k _ _ _ (((g1.trans g2).trans g3).trans<|Grow.laid g3.sub hp) ⟨p',_,rfl,SqL.of C2,(aE3 q3' y z).mono<|E5 (g3.sub.free hp)⟩
 | _=>cases q
end
section
variable {X:Cx}
theorem ah7:∀{ys:List Str}{us:List fR},D8 (ys.map V.str) us->∃l:List (Str×Tok),us=strValues l/\l.map (·.1)=ys
 | [],[],_=>⟨[],rfl,rfl⟩
 | y::ys,u::us,h=>by
  cases h with
  | cons a b =>
   obtain⟨t,rfl⟩:=a;obtain⟨l,rfl,rfl⟩:=ah7 b;exact⟨(y,t)::l,rfl,rfl⟩
noncomputable def ap7(sep:Str)(ys:List Str):Nat:=ys.toArray.foldl (λn y=>n+y.length+sep.length) 0
noncomputable def cP0(K:ad):V->List V->Hp->VK->Prop:=λx vs H Q=>∃sep p ys,x=.str sep/\vs=[.ref p]/\SqL K H p (ys.map V.str)/\ap7 sep ys<=fc/\(Builtin.Str.glued sep ys).length<=fc/\Q (.str<|Builtin.Str.glued sep ys) H
def ce5:MtR X "str.join" (cP0 X.K):=by
 intro pins s σ H x vs v us Q I rx rv h;obtain⟨sep,p,ys,rfl,rfl,hq,hz,hg,q⟩:=h;obtain⟨t,rfl⟩:=rx;obtain⟨u,rfl,ru⟩:=rv.one;cases ru;obtain⟨its,r,pl,_⟩:=I.list hq;obtain⟨l,rfl,rfl⟩:=ah7 r;refine fw F.slot_str_join (typeIs_str s sep t) F.entry_str_join (F.args_str_join_2 _ _) (meets_str_join_list sep t p l ?_) ⟨pl.isList,?_⟩
 .show decide (ap7 sep (l.map (·.1)) > fc)=false;exact decide_eq_false (by grind)
 .match l,q,hg with
  | [],q,hg=>exact⟨hg,.str _,H,I.tok _,⟨_,rfl⟩,q⟩
  | [a],q,_=>exact⟨.str _,H,I,⟨_,rfl⟩,q⟩
  | a::b::r,q,hg=>exact⟨hg,.str _,H,I.tok _,⟨_,rfl⟩,q⟩
noncomputable def ax2:List D->Option (List Str)
 | []=>Z []
 | .str x::r=>(ax2 r).map λys=>x::ys
 | _::_=>O
theorem at9{K:ad}{H:Hp}:∀{ds:List D}{ys:List Str}{vs:List V},ax2 ds=Z ys->Reps K H ds vs->vs=ys.map V.str
 | [],ys,vs,h,r=>by cases h;exact r
 | .str x::ds,ys,vs,h,r=>by
  obtain⟨zs,e1,e2⟩:=xmo h;subst e2;obtain⟨v,r',e,h1,h2⟩:=r;subst e;rw[at9 e1 h2];cases h1;rfl
noncomputable def aI1(f:DE)(g:Rho->Option (Bool×List D)):DE:=λρ=>(f ρ).bind λs=>(g ρ).bind λq=>match s with
 | .str sep=>if q.1=true then O else(ax2 q.2).bind λys=>if ap7 sep ys<=16777216/\(Builtin.Str.glued sep ys).length<=16777216 then Z (.str<|Builtin.Str.glued sep ys) else O
 | _=>O
def ch6(ho:JE X o f)(h:JQ X e g)
  (hbase:fB o "join" X.env (eval o X.env)=eval o X.env:=by rfl)
  (hfew:((backTo cpos (fb [e] X.env)).all (λx=>!x.1)&&(backToKw cpos (keywordEach [] X.env)).all (λx=>x.1.isSome)
   && decide (([e]:List Expr).length+([]:List fq).length+(if([]:List fq).isEmpty then 0 else 1) < 30))=true:=by rfl)
  (hline:(apos.endLine==cpos.line)=true:=by rfl) (hs:fb [e] X.env=[(false,eval e X.env)]:=by rfl) :
  JE X (.Call (.Attribute o "join" apos) [e] [] cpos) (aI1 f g):=λρ d q=>by
 obtain⟨s,e1,q⟩:=xbm q;obtain⟨⟨t,ds⟩,e2,q⟩:=xbm q;cases s with
 | str sep =>
  cases t with
  | true=>simp at q
  | false =>
   simp only[bh,if_false]at q;obtain⟨ys,e3,q⟩:=xbm q;split at q
   .rename_i hz;cases q;refine B9 (bp1 F.plainAttrs_str F.slot_str_join F.type_str_join ce5 (ho ρ _ e1) (D7 (h ρ false ds e2) J2 hs) hbase hfew hline hs) λσ H Q ⟨H0,Hf,s,sl,k⟩=>?_
    refine⟨H0,Hf,s,sl,λv H1 Hf1 g1 r1=>?_⟩;cases r1;refine⟨rfl,H0,Hf1,g1.sub,sl.grow g1,λw H2 Hf2 g2 ⟨p,vs,z1,z2,z3⟩=>?_⟩;subst z1;rw[at9 e3 z3]at z2;exact⟨sep,p,ys,rfl,rfl,z2,by rw[fe];exact hz.1,by rw[fe];exact hz.2,k _ H2 Hf2 (g1.trans g2) rfl⟩
   .cases q
 | _=>cases q
end
section
open PySem.SeqAt PySem.MeetsSeq PySem.MeetsSeq2 PySem.MeetsSeq3 PySem.SeqRoads2
open PySem.AutoSeq1 (wpAny_loadPart')
def aD3(l:fT)(items:Array fR)(n:Nat)(dd:Option fT)(sl:Array (Option fR))(x:fR)(e:Nat->Bool):
  Meets (Builtin.«tuple.__contains__» ⟨[.ref l,x],[]⟩)
   (λA R s=>s.heap.get? l=Z { cls:=.type "tuple", dict:=dd,data:=.seq items n,slots:=sl }/\(∀j (h:j < items.size),EqAt A.in1 s items[j] x (e j))/\R (.ok<|.ret (.bool<|(az items.size).any e)) s) :=
 .of_wp λprog w A R s h=>by
  obtain⟨hp,g,d,tk,os⟩:=s;obtain⟨hl,he,h⟩:=h
  wp_walk using wpAny_loadPart' hl,wpAny_forIn_array _ (λG9 b s'=>b.1=O/\s'=⟨hp,g,d,tk,os⟩/\∃i,G9=items.toList.drop i/\R (.ok<|.ret (.bool<|((az items.size).drop i).any e)) ⟨hp,g,d,tk,os⟩) _
  case turn =>
   rintro y G9 b s' ⟨hb,rfl,i,hz,hR⟩
   have hlt:i < items.toList.length:=by
    rcases bL i items.toList.length with h'|h'
    .exact h'
    .rw[cW h']at hz;cases hz
   have hi:i < items.size:=by simpa using hlt
   rw[bG hlt]at hz;injection hz with hy hrest
   have hy:y=items[i]:=by simpa using hy
   subst hy;have hd:(az items.size).drop i=i::(az items.size).drop (i+1):=by simp[bG,hi]
   rw[hd,bF]at hR;refine eS (he i hi prog w _ _ ?_);cases hy:e i with
   | true =>
    rw[hy]at hR
    wp_walk
    exact⟨_,rfl,by simpa using hR⟩
   | false =>
    rw[hy]at hR
    wp_walk
    exact⟨rfl,rfl,i+1,hrest,by simpa using hR⟩
  case fin =>
   rintro⟨b1,b2⟩ s' ⟨hb,rfl,i,hz,hR⟩
   simp only at hb;subst hb
   have hge:items.size<=i:=by
    rcases bL i items.toList.length with h'|h'
    .rw[bG h']at hz;cases hz
    .simpa using h'
   rw[cW (by simpa using hge)]at hR
   wp_walk
   exact⟨_,rfl,by simpa using hR⟩
  case h =>exact⟨rfl,rfl,0,by simp,by simpa using h⟩
end
section
variable {X:Cx}
noncomputable def K0:D->Bool
 | .none=>true
 | .bool _=>true
 | .int _=>true
 | .str _=>true
 | _=>false
noncomputable def toV:D->V
 | .none=>.non
 | .bool b=>.bl b
 | .int i=>.int i
 | .str x=>.str x
 | _=>.non
def y8{K:ad}{H:Hp}{d:D}{v:V}(f:K0 d=true)(r:Rep K H d v):v=toV d/\ak7 v=true:=by
 cases d with
 | none=>cases r;exact⟨rfl,rfl⟩
 | bool b=>cases r;exact⟨rfl,rfl⟩
 | int i=>cases r;exact⟨rfl,rfl⟩
 | str x=>cases r;exact⟨rfl,rfl⟩
 | tuple _=>cases f
 | list _=>cases f
 | dict _=>cases f
theorem ah9{K:ad}{H:Hp}:∀{ds:List D}{vs:List V},ds.all K0=true->Reps K H ds vs->vs=ds.map toV/\vs.all ak7=true
 | [],vs,_,r=>by cases(show vs=[] from r);exact⟨rfl,rfl⟩
 | d::ds,vs,f,r=>by
  rw[bE,ar]at f;obtain⟨v,r',e,h1,h2⟩:=r;subst e;obtain⟨e1,e2⟩:=y8 f.1 h1;obtain⟨e3,e4⟩:=ah9 f.2 h2;subst e1 e3;exact⟨rfl,by rw[bE,e2,e4];rfl⟩
noncomputable def isS:D->Bool
 | .str _=>true
 | _=>false
noncomputable def inD(neg:Bool)(x y:D):Option D:=match y with
 | .list ds=>if K0 x=true/\ds.all K0=true then Z (.bool (if neg then !inV (toV x) (ds.map toV) else inV (toV x) (ds.map toV))) else O
 | .tuple ds=>if K0 x=true/\ds.all K0=true then Z (.bool (if neg then !inV (toV x) (ds.map toV) else inV (toV x) (ds.map toV))) else if K0 x=false/\fI x=true/\ds.all isS=true then Z (.bool neg) else if fI x=true/\x.depth<=60/\ds.all fI=true then Z (.bool (if neg then !(ds.any λy=>fJ y x) else ds.any λy=>fJ y x)) else O
 | _=>O
def cj6(f:K0 x=false)(sh:fI x=true)(r:Reads s.heap v x as)(hu:A.units < cLine)(a:Str)(t:Tok):SeqAt.EqAt A s (.str a t) v false:=by
 cases r with
 | none=>cases f
 | bool _=>cases f
 | int _ _=>cases f
 | str _ _=>cases f
 | list h1 h2 h3 _=>exact SeqAt.EqAt.str_list a t ⟨_,h1,h2,_,h3⟩ hu
 | tuple h1 h2 h3 _=>exact SeqAt.EqAt.str_tuple a t ⟨_,h1,h2,_,h3⟩ hu
 | dict _ _ _ _ _=>exact absurd (SeqAt.canLay_of_shaped sh) (by simp[fN])
theorem bb6{K:ad}{H:Hp}:∀{ds:List D}{vs:List V}{us:List fR},ds.all isS=true->Reps K H ds vs->D8 vs us->∀y∈us,∃a t,y=Value.str a t
 | [],_,_,_,r,w=>by cases(show _=[] from r);cases w;intro y hy;cases hy
 | d::ds,_,_,f,r,w=>by
  rw[bE,ar]at f;obtain⟨v,r',rfl,h1,h2⟩:=r;cases w with
  | cons w1 w2 =>
   intro y hy;rcases am.mp hy with rfl|hy
   .cases d with
    | str a =>
     cases(show v=.str a from h1);obtain⟨t,e⟩:=w1;exact⟨a,t,e⟩
    | _=>cases f.1
   .exact bb6 f.2 h2 w2 y hy
def bQ4{x:D}{ds:List D}{vx vy:V}{v u:fR}{pins:List (fT×Obj)}{s:fS}{σ:L2.St}{H Hf:Hp}{Q:fR->fS->Prop}(hu:X.A.units+64 < cLine)(f:K0 x=false)(sh:fI x=true)(a:ds.all isS=true)(I:L2.Inv X pins σ H s)(rx:E4 vx v)(ry:E4 vy u)(ss:E8 Hf H)(r1:Rep X.K Hf x vx)(r2:Rep X.K Hf (.tuple ds) vy):
  (Q (.bool false) s->fD (fE X.prog X.w) X.A (ff .In v u) Q X.xe s)/\(Q (.bool true) s->fD (fE X.prog X.w) X.A (ff .NotIn v u) Q X.xe s):=by
 obtain⟨p,vs,rfl,h2,h3⟩:=r2;obtain rfl:u=fO p:=ry;obtain⟨its,rv,pl,_⟩:=I.tuple (D1 ss h2);obtain⟨as,rd⟩:=Rep.reads I (r1.mono ss) rx;have st:=bb6 a h3 rv
 have he:∀y,y∈its.toArray->SeqAt.EqAt X.A.in1 s y v ((λ_=>false) y):=λy hy=>by
  obtain⟨b,t,rfl⟩:=st y (by simpa using hy);exact cj6 f sh rd (by show X.A.units+1 < _;grind) b t
 have no:its.toArray.any (λ_=>false)=false:=by simp
 refine⟨λq=>SeqAt.in_tupleAt (λ_=>false) pl he (by rw[no];exact q),λq=>SeqAt.notIn_tupleAt (λ_=>false) pl he (by rw[no];exact q)⟩
theorem cv8:∀{vs:List fR}{ds:List D}{as:List fT},ReadsAll h vs ds as->vs.length=ds.length/\∀(j:Nat) (hj:j < vs.length),∃bs,Reads h vs[j] (ds.getD j .none) bs
 | [],_,_,r=>by cases r;exact⟨rfl,λj hj=>absurd hj<|eE _⟩
 | v::vs,_,_,r=>by
  cases r with
  | cons r1 r2 =>
   obtain⟨h1,h2⟩:=cv8 r2;refine⟨by rw[aH,aH,h1],λj hj=>?_⟩;cases j with
   | zero=>exact⟨_,r1⟩
   | succ j=>exact h2 j (by simpa using hj)
def bD4{α:Type}(p:α->Bool)(z:α)(l:List α):(az l.length).any (λj=>p<|l.getD j z)=l.any p:=by
 rw[bo,bc,bc];constructor
 .rintro⟨j,hj,h⟩
  have hj:=aR.mp hj;exact⟨l[j],aT hj,by simpa [hj] using h⟩
 .rintro⟨x,hx,h⟩
  obtain⟨j,hj,rfl⟩:=List.getElem_of_mem hx;exact⟨j,aR.mpr hj,by simpa [hj] using h⟩
def bo1(hu:X.A.units+64 < cLine)(sx:fI x=true)(dx:x.depth<=60)(sd:ds.all fI=true)(I:L2.Inv X pins σ H s)(rx:E4 vx v)(ss:E8 Hf H)(r1:Rep X.K Hf x vx)(h2:SqT X.K Hf p vs)(h3:Reps X.K Hf ds vs):
  ∃its:List fR,IsTup s.heap p its.toArray/\its.length=ds.length/\∀j (h:j < its.toArray.size),SeqAt.EqAt X.A.in1 s its.toArray[j] v (fJ (ds.getD j .none) x):=by
 obtain⟨its,rv,pl,_⟩:=I.tuple (D1 ss h2);obtain⟨as,rd⟩:=Rep.reads I (r1.mono ss) rx;obtain⟨bs,ra⟩:=Reps.reads I (h3.mono ss) rv;obtain⟨e1,e2⟩:=cv8 ra;refine⟨its,pl,e1,λj hj=>?_⟩;have hj':j < its.length:=by simpa using hj
 obtain⟨cs,q⟩:=e2 j hj';have hd:j < ds.length:=by grind
 have sj:=bt.mp sd _ (aT hd);have ej:ds.getD j .none=ds[j]:=by simp[hd]
 rw[ej]at q ⊢;have:=SeqAt.eqAt_reads ds[j] x X.A.in1 s _ _ _ _ q rd (SeqAt.canLay_of_shaped sj) (SeqAt.canLay_of_shaped sx) (by show X.A.units+1+_ < _;have:=dL ds[j].depth x.depth;grind);simpa using this
def bQ3(hu:X.A.units+64 < cLine)(sx:fI x=true)(dx:x.depth<=60)(sd:ds.all fI=true)(I:L2.Inv X pins σ H s)(rx:E4 vx v)(ry:E4 vy u)(ss:E8 Hf H)(r1:Rep X.K Hf x vx)(r2:Rep X.K Hf (.tuple ds) vy):
  (Q (.bool<|ds.any λy=>fJ y x) s->fD (fE X.prog X.w) X.A (ff .In v u) Q X.xe s)/\(Q (.bool (!(ds.any λy=>fJ y x))) s->fD (fE X.prog X.w) X.A (ff .NotIn v u) Q X.xe s):=by
 obtain⟨p,vs,rfl,h2,h3⟩:=r2;obtain rfl:u=fO p:=ry;obtain⟨its,pl,ln,he⟩:=bo1 hu sx dx sd I rx ss r1 h2 h3;obtain⟨⟨cls,dd,data,sl⟩,ho,hc,n,hd⟩:=id pl;simp only at hc hd;subst hc hd
 have ea:(az its.toArray.size).any (λj=>fJ (ds.getD j .none) x)=ds.any λy=>fJ y x:=by
  rw[aw,ln];exact bD4 (λy=>fJ y x) .none ds
 refine⟨λq=>SeqRoads2.in_meets ⟨_,ho,rfl⟩ F.slot_tuple_contains F.entry_tuple_contains (F.args_tuple_contains_2 _ _) (aD3 p its.toArray n dd sl v _) ⟨ho,he,_,rfl,by rw[ea];exact q⟩,
  λq=>SeqRoads2.notIn_meets ⟨_,ho,rfl⟩ F.slot_tuple_contains F.entry_tuple_contains (F.args_tuple_contains_2 _ _) (aD3 p its.toArray n dd sl v _) ⟨ho,he,_,rfl,by rw[ea];exact q⟩⟩
def bQ5{op:CmpOp}{neg:Bool}(o:OpR X (ff op) (rIn X.K neg))(o2:∀x ds,K0 x=false->fI x=true->ds.all isS=true->OpR X (ff op) (λvx vy H Q=>∃Hf,E8 Hf H/\Rep X.K Hf x vx/\Rep X.K Hf (.tuple ds) vy/\∀v H' Hf',Grow H Hf H' Hf'->Rep X.K Hf' (.bool neg) v->Q v H'))
  (o3:∀x ds,fI x=true->x.depth<=60->ds.all fI=true->OpR X (ff op) (λvx vy H Q=>∃Hf,E8 Hf H/\Rep X.K Hf x vx/\Rep X.K Hf (.tuple ds) vy/\∀v H' Hf',Grow H Hf H' Hf'->Rep X.K Hf' (.bool (if neg then !(ds.any λy=>fJ y x) else ds.any λy=>fJ y x)) v->Q v H')):OpD X (ff op) (inD neg):=λx y z h=>by
 unfold inD at h;split at h
 .split at h
  .rename_i c;cases h;refine OpR.imp o λvx vy H Q ⟨Hf,s,r1,r2,k⟩=>?_
   obtain⟨p,vs,rfl,h2,h3⟩:=r2;obtain⟨e1,e2⟩:=y8 c.1 r1;obtain⟨e3,e4⟩:=ah9 c.2 h3;subst e1 e3;exact⟨p,_,rfl,.inl<|G1 s h2,e2,e4,k _ H Hf (Grow.refl s) rfl⟩
  .cases h
 .split at h
  .rename_i c;cases h;refine OpR.imp o λvx vy H Q ⟨Hf,s,r1,r2,k⟩=>?_
   obtain⟨p,vs,rfl,h2,h3⟩:=r2;obtain⟨e1,e2⟩:=y8 c.1 r1;obtain⟨e3,e4⟩:=ah9 c.2 h3;subst e1 e3;exact⟨p,_,rfl,.inr<|D1 s h2,e2,e4,k _ H Hf (Grow.refl s) rfl⟩
  .split at h
   .rename_i c;cases h;exact o2 _ _ c.1 c.2.1 c.2.2
   .split at h
    .rename_i c;cases h;exact o3 _ _ c.1 c.2.1 c.2.2
    .cases h
 .cases h
def cR2(hu:X.A.units+64 < cLine):OpD X (ff .In) (inD false):=bQ5 bw8 (λx ds f sh a pins s σ H vx vy v u Q I rx ry ⟨Hf,ss,r1,r2,k⟩=>(bQ4 hu f sh a I rx ry ss r1 r2).1 ⟨.bl false,H,I,rfl,k _ H Hf (Grow.refl ss) rfl⟩)
 λx ds sx dx sd pins s σ H vx vy v u Q I rx ry ⟨Hf,ss,r1,r2,k⟩=>(bQ3 hu sx dx sd I rx ry ss r1 r2).1 ⟨.bl _,H,I,rfl,k _ H Hf (Grow.refl ss) rfl⟩
def bK4(hu:X.A.units+64 < cLine):OpD X (ff .NotIn) (inD true):=bQ5 aR9 (λx ds f sh a pins s σ H vx vy v u Q I rx ry ⟨Hf,ss,r1,r2,k⟩=>(bQ4 hu f sh a I rx ry ss r1 r2).2 ⟨.bl true,H,I,rfl,k _ H Hf (Grow.refl ss) rfl⟩)
 λx ds sx dx sd pins s σ H vx vy v u Q I rx ry ⟨Hf,ss,r1,r2,k⟩=>(bQ3 hu sx dx sd I rx ry ss r1 r2).2 ⟨.bl _,H,I,rfl,k _ H Hf (Grow.refl ss) rfl⟩
def ci9(neg:Bool)(x:Str)(ys:List Str):inD neg (.str x) (.tuple<|ys.map fM)=Z (.bool (if neg then !(ys.any λy=>y==x) else ys.any λy=>y==x)):=by
 have f:(ys.map fM).all K0=true:=by
  rw[bt];intro d hd;obtain⟨y,_,rfl⟩:=aM.mp hd;rfl
 show(if K0 (.str x)=true/\(ys.map fM).all K0=true then _ else _)=_;rw[if_pos ⟨rfl,f⟩]
 have:inV (toV<|.str x) ((ys.map fM).map toV)=ys.any λy=>y==x:=by
  unfold inV;rw[bM,dQ];rfl
 rw[this]
end
section
variable {X:Cx}
def bW6:fk "min" = Z (.builtin "min"):=by decide +kernel
def bm3:fk "max" = Z (.builtin "max"):=by decide +kernel
def cK1:fk "abs" = Z (.builtin "abs"):=by decide +kernel
noncomputable def aH9(f g:DE):DE:=λρ=>(f ρ).bind λx=>(g ρ).bind λy=>match x,y with
 | .int i,.int j=>Z<|.int (if j < i then j else i)
 | _,_=>O
noncomputable def aI0(f g:DE):DE:=λρ=>(f ρ).bind λx=>(g ρ).bind λy=>match x,y with
 | .int i,.int j=>Z<|.int (if j > i then j else i)
 | _,_=>O
noncomputable def cl0(f:DE):DE:=λρ=>(f ρ).bind λx=>match x with
 | .int i=>Z<|.int (if i < 0 then -i else i)
 | _=>O
def cG6(hg:Gl X "abs")(hm:X.mg "abs" = O)(h:JE X e f)(he:fb [e] X.env=[(false,eval e X.env)]:=by rfl):JE X (.Call (.Name "abs" p) [e] [] pos) (cl0 f):=λρ d q=>by
 obtain⟨x,h1,h2⟩:=xbm q;split at h2
 .cases h2;exact B9 (N7 bW4 hg hm cK1 (D7 (h ρ _ h1) J2 he) (he:=he)) λσ H Q ⟨H0,Hf,s,sl,k⟩ =>⟨H0,Hf,s,sl,λv H1 Hf1 g1 r=>⟨_,by rw[show v=_ from r],k _ H1 Hf1 g1 rfl⟩⟩
 .cases h2
def cg9(hg:Gl X "min")(hm:X.mg "min" = O)(h:JE X e f)(h':JE X e' g)(hc:X.calm=true:=by rfl)(he:fb [e,e'] X.env=(false,eval e X.env)::fb [e'] X.env:=by rfl)(he':fb [e'] X.env=[(false,eval e' X.env)]:=by rfl)
  (hpl:(backTo pos<|fb [e'] X.env).any (·.1)=false:=by rfl):JE X (.Call (.Name "min" p) [e,e'] [] pos) (aH9 f g):=λρ d q=>by
 obtain⟨x,h1,q⟩:=xbm q;obtain⟨y,h2,h3⟩:=xbm q;split at h3
 .cases h3;exact B9 (N7 (bC7 hc) hg hm bW6 (D7 (h ρ _ h1) (D7 (h' ρ _ h2) J2 he') he) (he:=he) (hpl:=hpl)) λσ H Q ⟨H0,Hf,s,sl,k⟩ =>⟨H0,Hf,s,sl,λv H1 Hf1 g1 r=>⟨H0,Hf1,g1.sub,sl.grow g1,λw H2 Hf2 g2 r2=>⟨_,_,by rw[show v=_ from r,show w=_ from r2],k _ H2 Hf2 (g1.trans g2) rfl⟩⟩⟩
 .cases h3
def ch3(hg:Gl X "max")(hm:X.mg "max" = O)(h:JE X e f)(h':JE X e' g)(hc:X.calm=true:=by rfl)(he:fb [e,e'] X.env=(false,eval e X.env)::fb [e'] X.env:=by rfl)(he':fb [e'] X.env=[(false,eval e' X.env)]:=by rfl)
  (hpl:(backTo pos<|fb [e'] X.env).any (·.1)=false:=by rfl):JE X (.Call (.Name "max" p) [e,e'] [] pos) (aI0 f g):=λρ d q=>by
 obtain⟨x,h1,q⟩:=xbm q;obtain⟨y,h2,h3⟩:=xbm q;split at h3
 .cases h3;exact B9 (N7 (bD0 hc) hg hm bm3 (D7 (h ρ _ h1) (D7 (h' ρ _ h2) J2 he') he) (he:=he) (hpl:=hpl)) λσ H Q ⟨H0,Hf,s,sl,k⟩ =>⟨H0,Hf,s,sl,λv H1 Hf1 g1 r=>⟨H0,Hf1,g1.sub,sl.grow g1,λw H2 Hf2 g2 r2=>⟨_,_,by rw[show v=_ from r,show w=_ from r2],k _ H2 Hf2 (g1.trans g2) rfl⟩⟩⟩
 .cases h3
def bP5(Fk:FnOk X.prog X.w X.K X.mg X.base CX0 k f fd ps (spF X.K 0 F))(hr:Room k X.A)(hg:Gl X x)(hm:X.mg x=Z (.ref f))(hk:bH X.K (.ref f)=true)(hb:f9 X.K fd ps [])
  (hdb:(x==("__debug__" : Str))=false:=by decide):JE X (.Call (.Name x p) [] [] pos) (A2 F A3):=λρ d q=>by
 have h2:F []=Z d:=q;refine B9 (bJ3 Fk hr hg hm hk hb .nil co2 hdb) λσ H Q ⟨H0,Hf,s,sl,kk⟩=>?_
 exact⟨rfl,Hf,[],d,s,rfl,h2,λv H2 Hf2 g2 r2=>kk v H2 Hf2 g2 r2⟩
end
noncomputable def aP5(K:ad):List D->List fR->Prop
 | [],us=>us=[]
 | d::ds,us=>∃u r,us=u::r/\bf1 K d u/\aP5 K ds r
section
variable {K:PySem.W.Frag}
def V9:aP5 K [] []:=rfl
def D0(h:bf1 K d u)(t:aP5 K ds us):aP5 K (d::ds) (u::us):=⟨u,us,rfl,h,t⟩
theorem aN3:∀{ds:List D}{us:List fR},aP5 K ds us->∃vs,D8 vs us/\∀H:Hp,Reps K H ds vs
 | [],_,h=>by cases h;exact⟨[],.nil,λ_=>rfl⟩
 | d::ds,_,⟨u,r,e,⟨v,h1,h2⟩,h3⟩=>by
  subst e;obtain⟨vs,q1,q2⟩:=aN3 h3;exact⟨v::vs,.cons h1 q1,λH=>⟨v,vs,rfl,h2 H,q2 H⟩⟩
def Q9(i:Int)(t:Tok):bf1 K (.int i) (.int i t):=⟨.int i,⟨t,rfl⟩,λ_=>rfl⟩
def m9(h:K.lookup a=Z o)(hc:o.cls=.type "tuple")(hn:o.dict=O)(hd:o.data=.seq its n)(hz:its.size<=1000)(hi:aP5 K ds its.toList):bf1 K (.tuple ds) (.ref a):=by
 obtain⟨vs,q1,q2⟩:=aN3 hi;exact⟨.ref a,rfl,λH=>⟨a,vs,rfl,.inr ⟨o,its,n,h,hc,hn,hd,cy<|at7 hz,q1⟩,q2 H⟩⟩
end
def aZ8(l:fT)(items:Array fR)(n:Nat)(dd:Option fT)(sl:Array (Option fR))(u:Tok):
  Meets (Builtin.«tuple.__mul__» ⟨[.ref l,.int 1 u],[]⟩) (λ_ R s=>s.heap.get? l=Z ⟨.type "tuple", dd,.seq items n,sl⟩/\R (.ok<|.ret (fO l)) s) :=
 .of_wp λprog w A R s h=>by
  obtain⟨hp,g,d,tk,os⟩:=s;obtain⟨hl,h⟩:=h
  wp_walk
  exact⟨_,rfl,h⟩
section
variable {X:Cx}
def bJ8:OpR X (fo .Mult) (λx y H Q=>∃l xs,x=.ref l/\y=.int 1/\SqT X.K H l xs/\Q (.ref l) H):=by
 intro pins s σ H x y v u Q I rx ry h;obtain⟨l,xs,rfl,rfl,hq,q⟩:=h;cases rx;obtain⟨t,rfl⟩:=ry;obtain⟨its,r,p1,_⟩:=I.tuple hq;obtain⟨⟨cls,dd,data,sl⟩,ho,hc,n,hd⟩:=id p1;simp only at hc hd;subst hc hd
 exact wpAny_binaryOp_repeat_ref (T := "tuple") (U := "int") (by decide) ⟨_,ho,rfl⟩ (λs'=>typeIs_int s' 1 t) ay3 F.fills_int_mul F.slot_int_rmul aM6 F.slot_int_index.lookup
  (fw F.slot_int_rmul (typeIs_int s 1 t) F.entry_int_rmul (F.args_int_rmul_2 _ _) (ao9 1 t l its.toArray n dd sl) ⟨ho,rfl,⟨_,ho,rfl⟩,
   fw F.slot_tuple_mul ⟨_,ho,rfl⟩ F.entry_tuple_mul (F.args_tuple_mul_2 _ _) (aZ8 l its.toArray n dd sl t) ⟨ho,⟨.ref l,H,I,rfl,q⟩⟩⟩)
def aR2(a:Int)(t:Tok)(l:fT)(items:Array fR)(n:Nat)(dd:Option fT)(sl:Array (Option fR)):
  Meets (Builtin.«int.__rmul__» ⟨[.int a t,.ref l],[]⟩) (λ_ R s=>s.heap.get? l=Z ⟨.type "list", dd,.seq items n,sl⟩/\R (.ok<|.ret Value.notImplemented) s):=Meets.of_wp λprog w A R s h=>by
 obtain⟨hp,g,d,tk,os⟩:=s;obtain⟨hl,h⟩:=h
 wp_walk
 exact⟨_,rfl,h⟩
def ba0(l:fT)(items:Array fR)(n:Nat)(dd:Option fT)(sl:Array (Option fR))(x:Int)(u:Tok)(c0:¬(!Builtin.List.listFitsIndex x)=true)(c1:¬items.size*x.toNat > (2 ^ 63 - 1) / 8)(c2:¬Builtin.List.listTooLong (items.size*x.toNat)=true):
  Meets (Builtin.«list.__mul__» ⟨[.ref l,.int x u],[]⟩) (λ_ R s=>s.heap.get? l=Z ⟨.type "list", dd,.seq items n,sl⟩/\R (.ok<|.ret (fO s.heap.objs.size)) { s with heap:=s.heap.push { cls:=Value.type "list", data:=Data.seq (cV (λx1 x2=>x1++x2) #[] (aB (if items.isEmpty=true then 0 else x.toNat) items)) } }):=Meets.of_wp λprog w A R s h=>by
 obtain⟨hp,g,d,tk,os⟩:=s;obtain⟨hl,h⟩:=h;have hsz:=AutoListH.joined_fits c2
 wp_walk
 refine wpAny_ite_false (decide_eq_false<|Nat.not_lt.mpr hsz) ?_
 wp_walk
 exact⟨_,rfl,h⟩
def cc6:OpR X (fo .Mult) (λx y H Q=>∃l k xs,x=.ref l/\y=.int k/\SqL X.K H l xs/\0<=k/\k < 1000000/\xs.length*k.toNat<=fc/\∀p,H p=O->Q (.ref p) (upd H p<|.lst (aB k.toNat xs).flatten)):=by
 intro pins s σ H x y v u Q I rx ry h;obtain⟨l,k,xs,rfl,rfl,hq,h1,h2,hz,q⟩:=h;cases rx;obtain⟨t,rfl⟩:=ry;obtain⟨its,r,p1,_⟩:=I.list hq;obtain⟨⟨cls,dd,data,sl⟩,ho,hc,n,hd⟩:=p1.isList;simp only at hc hd;subst hc hd;have hl:=r.length;have hlen:its.toArray.size*k.toNat<=fc:=by rw[aw,← hl];exact hz
 have hcap:¬its.toArray.size*k.toNat > (2 ^ 63 - 1) / 8:=by
  have:(fc:Nat)<=(2 ^ 63 - 1) / 8:=by decide
  grind
 have hfit:¬(!Builtin.List.listFitsIndex k)=true:=by rw[fitsIndex_both (by grind) (by grind)];exact aF
 have hlong:¬Builtin.List.listTooLong (its.toArray.size*k.toNat)=true:=by rw[af5 hlen];exact aF
 have hnew:cV (λx1 x2=>x1++x2) #[] (aB (if its.toArray.isEmpty=true then 0 else k.toNat) its.toArray)=(aB k.toNat its).flatten.toArray:=by
  rw[bh4];cases its with
  | nil=>simp
  | cons a r'=>rw[if_neg (by simp)]
 refine wpAny_binaryOp_repeat_ref (T := "list") (U := "int") (by decide) ⟨_,ho,rfl⟩ (λs'=>typeIs_int s' k t) noFill_list_mul F.fills_int_mul F.slot_int_rmul repeat_list F.slot_int_index.lookup
  (fw F.slot_int_rmul (typeIs_int s k t) F.entry_int_rmul (F.args_int_rmul_2 _ _) (aR2 k t l its.toArray n dd sl) ⟨ho,rfl,⟨_,ho,rfl⟩,
   fw F.slot_list_mul ⟨_,ho,rfl⟩ F.entry_list_mul (F.args_list_mul_2 _ _) (ba0 l its.toArray n dd sl k t hfit hcap hlong) ⟨ho,?_⟩⟩)
 rw[hnew];exact⟨.ref _,_,I.lnew (t':=s.toks) (r.rep k.toNat) (by rw[aT1,bZ];exact hz),rfl,q _ I.fresh⟩
noncomputable def D5(x y:D):Option D:=match x,y with
 | .tuple xs,.int k=>if k=1 then Z (.tuple xs) else ac1 (.tuple xs) (.int k)
 | .list xs,.int k=>if 0<=k/\k < 1000000/\xs.length*k.toNat<=16777216 then Z (.list (aB k.toNat xs).flatten) else O
 | x,y=>ac1 x y
def bp6:OpD X (fo .Mult) D5:=λx y z h=>by
 unfold D5 at h;split at h
 .split at h
  .rename_i xs k c;subst c;cases h;refine OpR.imp bJ8 λvx vy H Q ⟨Hf,s,r1,r2,kk⟩=>?_
   obtain⟨a,vs,rfl,h2,h3⟩:=r1;exact⟨a,vs,rfl,r2,D1 s h2,kk _ _ _ (Grow.refl s) ⟨a,vs,rfl,h2,h3⟩⟩
  .exact aS2 _ _ z h
 .split at h
  .rename_i xs k c;cases h;refine OpR.imp cc6 λvx vy H Q ⟨Hf,s,r1,r2,kk⟩=>?_
   obtain⟨a,vs,rfl,h2,h3⟩:=r1;refine⟨a,k,vs,rfl,r2,G1 s h2,c.1,c.2.1,by rw[h3.length,fe];exact c.2.2,λp hp=>?_⟩;exact kk _ _ _ (Grow.laid s hp) ⟨p,_,rfl,SqL.of C2,(h3.flatten k.toNat).mono<|E5 (s.free hp)⟩
  .cases h
 .exact aS2 _ _ z h
def n5(i j:Int):B1 (.int i) (.int j)=Z (.int<|i+j):=rfl
noncomputable def bC1(f:Rho->Option (Bool×List D))(lo hi:Rho->Option (Option Int)):DE:=λρ=>(f ρ).bind λq=>(lo ρ).bind λl=>(hi ρ).bind λh=>if q.1=true then O else Z (.list<|R8 q.2 l h)
def cF2{a:Expr}{lo hi:Option Expr}{f:Rho->Option (Bool×List D)}{l h:Rho->Option (Option Int)}{pos p2:Pos}(ha:JQ X a f)(hl:JO X lo l)(hh:JO X hi h):JE X (.Subscript a (.Slice lo hi O p2) pos) (bC1 f l h):=λρ d q=>by
 obtain⟨⟨t,xs⟩,e1,q⟩:=xbm q;obtain⟨y,e2,q⟩:=xbm q;obtain⟨z,e3,q⟩:=xbm q;cases t with
 | true=>simp at q
 | false =>
  simp only[bh,if_false]at q;cases q;refine B9 (ap3 bo4 (ha ρ _ _ e1) (hl ρ y e2)<|hh ρ z e3) λσ H Q ⟨H0,Hf,s,sl,k⟩=>?_
  refine⟨H0,Hf,s,sl,λv H1 Hf1 g1 ⟨p,vs,q1,q2,q3⟩=>⟨H0,Hf1,g1.sub,sl.grow g1,λH2 Hf2 g2=>⟨H0,Hf2,g2.sub,sl.grow<|g1.trans g2,λH3 Hf3 g3=>?_⟩⟩⟩;subst q1;have q3':=q3.mono (g2.trans g3).ext;refine⟨p,vs,rfl,G1 (g2.trans g3).big q2,λp' hp=>?_⟩;exact k _ _ _ (((g1.trans g2).trans g3).trans<|Grow.laid g3.sub hp) ⟨p',_,rfl,SqL.of C2,(aE3 q3' y z).mono<|E5 (g3.sub.free hp)⟩
noncomputable def E1:DS:=λ_=>O
def D6{st:Stmt}:JS X st E1:=λρ fl q=>by cases q
noncomputable def bg8(f:DE):Rho->Option Bool:=λρ=>(f ρ).bind N0
def bN8(o1:OpD X (ff op) h1)(o2:OpD X (ff op') h2)(ha:JE X a f)(hb:JE X b g)(hc:JE X c k)
  (hm:lastMarks [op,op'] [b,c]=false:=by with_unfolding_all rfl):JT X (.Compare a [op,op'] [b,c] pos) (bg8<|W3 h1 h2 f g k):=λρ d q=>by
 obtain⟨dd,q,ed⟩:=xbm q;have ed:=bu0 ed;subst ed;obtain⟨x,e1,q⟩:=xbm q;obtain⟨y,e2,q⟩:=xbm q;obtain⟨z,e3,q⟩:=xbm q;split at q
 .obtain⟨w,e4,e5⟩:=xbm q;refine aR6 (aY4 (o1 x y _ e3) (o2 y w _ e5) (ha ρ x e1) (hb ρ y e2) (hc ρ w e4) hm) λσ H Q ⟨H0,Hf,s,sl,kk⟩=>?_
  refine⟨H0,Hf,s,sl,λv H1 Hf1 g1 r1=>⟨H0,Hf1,g1.sub,sl.grow g1,λu H2 Hf2 g2 r2=>⟨Hf2,g2.sub,r1.mono g2.ext,r2,λz' H3 Hf3 g3 r3=>?_⟩⟩⟩;refine⟨true,r3,aG2 ⟨H0,Hf3,g3.sub,sl.grow<|(g1.trans g2).trans g3,λw' H4 Hf4 g4 r4=>⟨Hf4,g4.sub,r2.mono (g3.trans g4).ext,r4,λz2 H5 Hf5 g5 r5=>?_⟩⟩⟩;exact⟨d,r5,kk H5 Hf5<|(((g1.trans g2).trans g3).trans g4).trans g5⟩
 .cases q;intro pins s σ H Q I ⟨H0,Hf,ss,sl,kk⟩;refine aY4 (tc:=λ_ _ _=>False) (r':=λ_ _ _ _=>False) (o1 x y _ e3) (λ_ _ _ _ _ _ _ _ _ _ _ _ h=>h.elim) (ha ρ x e1) (hb ρ y e2) (λ_ _ _ _ _ _ h=>h.elim) hm pins s σ H Q I ?_;refine⟨H0,Hf,ss,sl,λv H1 Hf1 g1 r1=>⟨H0,Hf1,g1.sub,sl.grow g1,λu H2 Hf2 g2 r2=>⟨Hf2,g2.sub,r1.mono g2.ext,r2,λz' H3 Hf3 g3 r3=>?_⟩⟩⟩;exact⟨false,r3,aG3 ⟨false,rfl,kk H3 Hf3<|(g1.trans g2).trans g3⟩⟩
 .cases q
end
def bz7(hh:A.handled=O)(t:Bool)(it l:fT)(hne:l≠it)(xs:Array fR):Draws prog w A it [it,l] xs.size (λi x=>xs[i]? = Z x) (λi h=>SIt t h it l i/\SSq t h l xs):=by
 refine⟨λi h ⟨a,_⟩=>?_,λi h h' ⟨a,b⟩ k=>⟨a.ext λo e=>k it (by simp) o e,b.ext λo e=>k l (by simp) o e⟩,λi s Q E hi ⟨a,b⟩ hQ=>?_,λs Q E ⟨a,b⟩ hE=>bo5 hh a b (by simp) hE⟩
 .cases t with
  | true=>obtain⟨o,ho,_⟩:=a;exact⟨o,ho⟩
  | false=>obtain⟨o,ho,_⟩:=a;exact⟨o,ho⟩
 .have hx:xs[i]? = Z xs[i]:=by simp[hi]
  exact bG3 a b hx λh' c sb=>hQ _ h' s.toks hx ⟨c,b.ext λo e=>sb.extBut l o hne e⟩ sb
def bw1(l:fT)(items:Array fR)(n:Nat)(dd:Option fT)(sl:Array (Option fR)):
  Meets (Builtin.«enumerate.__new__» ⟨[.type "enumerate", .ref l],[]⟩) (λ_ R s=>s.heap.get? l=Z ⟨.type "tuple", dd,.seq items n,sl⟩ /\
   R (.ok (.ret (.ref (s.heap.push (aN9 true l)).objs.size))) { s with heap:=(s.heap.push (aN9 true l)).push { cls:=.type "enumerate", data:=.fields #[.none,.bool false,.ref s.heap.objs.size,rawInt 0,.none,.none] } }):=Meets.of_wp λprog w A R s h=>by
 obtain⟨hp,g,d,tk,os⟩:=s;obtain⟨hl,h⟩:=h;have hsub:=sub_enumerate;have q1:SSq true (Shared.heap ⟨hp,g,d,tk,os⟩) l items:=⟨_,hl,rfl,n,rfl⟩
 wp_walk using AutoSeq1.wpAny_loadPart' hl
 refine wpAny_stack_any λst=>eT ?_
 split
 .rename_i c _ _ _ _ _;cases(c==Value.type "enumerate")
  .wp_walk using AutoSeq1.wpAny_loadPart' hl,aD9 q1
   exact⟨_,rfl,h⟩
  .wp_walk using AutoSeq1.wpAny_loadPart' hl,aD9 q1
   exact⟨_,rfl,h⟩
 .wp_walk using AutoSeq1.wpAny_loadPart' hl,aD9 q1
  exact⟨_,rfl,h⟩
section
variable {prog:Program}{w:World}{A:Around}{E:Value->Shared->Prop}{s:Shared}{t:Bool}
def bh3(hl:SSq t s.heap l xs)
  (h:∀h',IsEnum h' (s.heap.objs.size+1) s.heap.objs.size 0 .none->SIt t h' s.heap.objs.size l 0->(∀c o,s.heap.get? c=Z o->h'.get? c=Z o)->Q (.ref<|s.heap.objs.size+1) { s with heap:=h' }) :
  fD (fE prog w) A (call (.type "enumerate") [.ref l]) Q E s:=by
 cases t with
 | false=>exact call_enumerate_list hl λh' a b _ d=>h h' a b d
 | true =>
  obtain⟨⟨cls,dd,data,sl⟩,ho,hc,n,hd⟩:=hl;simp only at hc hd;subst hc hd;refine callType_new F.called_enumerate (by decide) (F.typeCall_enumerate_1 _) (F.newCall_enumerate_1 _) (λobj=>F.args_object_init_2 obj _) F.entry_enumerate_new (bw1 l xs n dd sl) ⟨ho,?_⟩;have z1:(s.heap.push<|aN9 true l).objs.size=s.heap.objs.size+1:=Heap.size_push ..;show _/\_;rw[z1];have he:=fH (s.heap.push<|aN9 true l) (o:={ cls:=.type "enumerate", data:=.fields #[.none,.bool false,.ref s.heap.objs.size,rawInt 0,.none,.none] }) rfl;rw[z1]at he;exact⟨⟨_,he,rfl⟩,h _ he ((bZ6 (h:=s.heap) (l:=l) true).ext λo e=>fF _ e) λc o e=>fF _<|fF _ e⟩
def bz4(hh:A.handled=O)(he:IsEnum s.heap e it i old)(hit:SIt t s.heap it l k)(hl:SSq t s.heap l xs)(hx:xs[k]? = O)
  (hQ:∀h',Heap.ExtBut it s.heap h'->Q O { s with heap:=h' }):fD (fE prog w) A (pyNext<|.ref e) Q E s:=by
 have hT:s.TypeIs (.ref e) "enumerate" := ⟨_,he,rfl⟩;unfold pyNext;refine eS (wpAny_attempt<|wpAny_callSpecial?_slot (name:=Str.ofString "__next__") hT F.slot_enumerate_next (wpAny_call_entry F.slot_enumerate_next hT F.entry_enumerate_next ?_<|F.args_enumerate_next_1 _));show fD _ _ (field (.ref e) 2 >>= _) _ _ _;refine eS (eY he rfl (x:=.ref it) rfl<|eS (bo5 hh hit hl hx λh' x he' hx'=>?_));obtain⟨o,ho,hc⟩:=hx';exact eS<|wpAny_isInstance (T := "StopIteration") (b:=true) ⟨o,ho,hc⟩ isSubtype_stop (eT<|hQ _ he')
end
noncomputable def Ite(K:ad)(t:Bool)(a:fT):It :=
  ⟨λi H=>∃xs x,Sq K t H a xs/\xs[i]? = Z x,
   λi H v H'=>∃T x,v=.ref T/\H T=O/\H'=upd H T (.tup [.int i,x])/\∀xs,Sq K t H a xs->xs[i]? = Z x,
   λi H=>∃xs,Sq K t H a xs/\xs.length<=i⟩
def bv7{P:fh}{w:World}{K:ad}{elts:List Expr}{k0:Nat}{pos:Pos}{t:Bool}{e it a:fT}(h1:e≠it)(h2:a≠e)(h3:a≠it):
  Turn P w K (.Tuple elts k0 pos) (Ite K t a) [e,it] e (λi h=>(∃old,IsEnum h e it i old)/\SIt t h it a i) where
 mem:=by simp
 obj:=λi h ⟨⟨old,he⟩,hi⟩ c hc=>by
  simp only[am,aC,or_false]at hc;rcases hc with rfl|rfl
  .exact⟨_,he,λv q=>by cases q⟩
  .cases t with
   | true=>obtain⟨o,ho,_,hd⟩:=hi;exact⟨o,ho,λv q=>by rw[hd]at q;cases q⟩
   | false=>obtain⟨o,ho,_,hd⟩:=hi;exact⟨o,ho,λv q=>by rw[hd]at q;cases q⟩
 keep:=λi h h' ⟨⟨old,he⟩,hi⟩ hk=>⟨⟨old,hk e (by simp) _ he⟩,hi.ext λo q=>hk it (by simp) o q⟩
 item:=by
  intro X hP hw hK hc i pins s σ H E I hf ⟨⟨old,he⟩,hi⟩ hg;subst hP hw hK;obtain⟨xs,x,q1,ex⟩:=hg;obtain⟨us,r1,p1,lt1⟩:=aQ8 I q1;obtain⟨ux,eux,rx⟩:=r1.get ex;have hlt:i < us.toArray.size:=by rw[aw];exact(ao.mp eux).1
  refine wpAny_pyNext_enum_itemD (bz7 (A:=X.A.in1) (I.ok.hd hc) t it a h3 us.toArray) he ⟨hi,p1⟩ hlt h1 (by simp only[am,aC,or_false,not_or];exact⟨h1,λz=>h2 z.symm⟩) λy h' tk hy ho hst hT hsz hk=>⟨_,rfl,wpAny_letOwnedTupleGo_enum ho λh'' c1 c2=>?_⟩
  have ey:y=ux:=by
   have:us[i]? = Z y:=by simpa using hy
   rw[eux]at this;exact(bq.inj this).symm
  subst ey;have neT:∀c o,s.heap.get? c=Z o->c≠s.heap.objs.size:=λc o q=>aE<|fG q
  have up:∀c o,c≠e->h'.get? c=Z o->h''.get? c=Z o:=λc o n q=>c2.extBut c o n q
  refine⟨.ref s.heap.objs.size,upd H s.heap.objs.size<|.tup [.int i,x],aA2 (s:=s) (h':=h'') (t':=tk+1) (ch:=[e,it]) I hf (ak _) (λc u hc q=>?_) ?_,rfl,⟨_,x,rfl,I.hok.fresh<|ak _,rfl,λzs hz'=>by rw[cu9 I hz' q1];exact ex⟩,⟨⟨_,by simpa using c1⟩,hst.1.ext λo q=>up it o h1.symm q⟩,λc hc=>?_⟩
  .simp only[am,aC,or_false,not_or]at hc;exact up c u hc.1<|hk c u hc.1 hc.2 q
  .refine⟨by show 2<=fc;decide,[.int i tk,y],.cons ⟨tk,rfl⟩<|.cons rx .nil,_,up _ _ ?_ hT,rfl,⟨_,rfl⟩,rfl⟩;exact λq=>neT e _ he q.symm
  .have lt:c < s.heap.objs.size:=by
    simp only[am,aC,or_false]at hc;rcases hc with rfl|rfl
    .exact fG he
    .exact hi.lt
   rw[C8 (aE lt)];exact(hf c hc).1
 done:=by
  intro X hP hw hK hc i pins s σ H E I hf ⟨⟨old,he⟩,hi⟩ hg;subst hP hw hK;obtain⟨xs,q1,hl⟩:=hg;obtain⟨us,r1,p1,lt1⟩:=aQ8 I q1;have l1:=r1.length;refine bz4 (I.ok.hd hc) he hi p1 (by simp;grind) λh' hk=>⟨rfl,bj6 (t':=s.toks) (ch:=[e,it]) I hf λc u hc q=>?_⟩
  simp only[am,aC,or_false,not_or]at hc;exact hk c u hc.2 q
 self:=λ_ _ _ _ _ st h=>by
  obtain⟨⟨old,he⟩,_⟩:=st;exact wpAny_pyIter_enum he h
section
variable {X:Cx}
noncomputable def ay8(ds:List D):List D:=(az ds.length).zip ds |>.map λ(k,d)=>PyData.tuple [.int (k:Nat),d]
noncomputable def bb1(f:Rho->Option (Bool×List D)):Rho->Option (List D):=λρ=>(f ρ).map λq=>ay8 q.2
def aq5(ds:List D)(i:Nat):(ay8 ds)[i]? = (ds[i]?).map λd=>.tuple [.int i,d]:=by
 unfold ay8;rw[aI];cases e:ds[i]? with
 | none =>
  have:ds.length<=i:=by simpa using e
  have z:((az ds.length).zip ds)[i]? = O:=by simp;omega
  rw[z];rfl
 | some d =>
  have hi:=(ao.mp e).1;have z:((az ds.length).zip ds)[i]? = Z (i,d):=List.getElem?_zip_eq_some.mpr ⟨by simp[hi],e⟩;rw[z];rfl
def bb7(ds:List D):(ay8 ds).length=ds.length:=by unfold ay8;simp
def aX2{K:ad}{t:Bool}{a:fT}{vs:List V}{ds:List D}{Hf1:Hp}(h1:Sq K t Hf1 a vs)(r1:Reps K Hf1 ds vs):bm8 K (Ite K t a) (ay8 ds) Hf1:=by
 have mono:∀{t:Bool}{a:fT}{xs:List V}{H H':Hp},E8 H H'->Sq K t H a xs->Sq K t H' a xs:=λ{t a xs H H'} e h=>by
  cases t with
  | true=>exact D1 e h
  | false=>exact G1 e h
 intro i H Hf sa sb;have m1:=mono (sa.trans sb) h1;have l1:=r1.length;refine⟨λhi=>⟨vs,m1,by rw[bb7]at hi;grind⟩,λd hd=>?_⟩;rw[aq5]at hd;obtain⟨x,q1,q2⟩:=xmo hd;subst q2;obtain⟨vx,e1,e2⟩:=r1.get q1;refine⟨⟨vs,vx,m1,e1⟩,λv H' ⟨T,x',z1,z2,z3,z4⟩=>?_⟩;subst z1 z3;have w1:=z4 vs m1;rw[e1]at w1;cases w1;have nf:Hf T=O:=sb.free z2;exact⟨upd Hf T<|.tup [.int i,vx],Grow.laid sb z2,T,[.int i,vx],rfl,SqT.of C2,.int i,[vx],rfl,rfl,vx,[],rfl,(e2.mono sa).mono<|E5 nf,rfl⟩
def cg4{elts:List Expr}{k0:Nat}{tpos:Pos}{a:Expr}{f:DE}{p pos:Pos}(hg:Gl X "enumerate")(hm:X.mg "enumerate" = O)(ha:JE X a f)(hs:fb [a] X.env=[(false,eval a X.env)]:=by rfl):
  JI X (.Tuple elts k0 tpos) (.Call (.Name "enumerate" p) [a] [] pos) (bb1<|qE f):=λρ out q=>by
 obtain⟨⟨t1,ds⟩,e1,q⟩:=xmo q;subst q;obtain⟨d1,e1,e1'⟩:=xbm e1;intro pins s σ H R I ⟨H0,Hf,ss,sl,k⟩
 refine Call_ (aF6 I hg hm rfl (PyProof.Rows.callWith_type1 (thn (D7 (ha ρ d1 e1) J2 (by rw[hs];rfl) pos pins s σ H
  (λvs H'=>∃v Hf',vs=[v]/\Grow H Hf H' Hf'/\Rep X.K Hf' d1 v) I ⟨H0,Hf,ss,sl,λv H1 Hf1 g1 r1=>⟨v,Hf1,rfl,g1,r1⟩⟩) λus s1 ⟨vs,H1,I1,r1,v,Hf1,ev,gr,p1⟩=>?_) (by rw[hs];rfl) (by rfl)))
 subst ev;obtain⟨uv,rfl,rv⟩:=r1.one;obtain⟨a1,vs1,rfl,w1,w2⟩:=p1.seq (E8.refl Hf1) e1';cases rv
 have mono:∀{t:Bool}{a:fT}{xs:List V}{H H':Hp},E8 H H'->Sq X.K t H a xs->Sq X.K t H' a xs:=λ{t a xs H H'} e h=>by
  cases t with
  | true=>exact D1 e h
  | false=>exact G1 e h
 obtain⟨us1,rr1,hp1,lt1⟩:=aQ8 I1 (mono gr.sub w1);refine bh3 hp1 λh' b1 b2 b3=>?_
 have I2:Inv X pins σ H1 { s1 with heap:=h' }:=I1.kept (t':=s1.toks) b3;refine wpAny_pyIter_enum b1 ⟨_,_,_,_,H1,rfl,I2,bv7 (e:=s1.heap.objs.size+1) (it:=s1.heap.objs.size) (a:=a1) (Nat.succ_ne_self _) (aE<|cI lt1)<|aE lt1,⟨⟨_,b1⟩,b2⟩,λb hb=>?_,k _ H1 Hf1 gr<|aX2 w1 w2⟩
 have hb':s1.heap.objs.size<=b:=by
  simp only[am,aC,or_false]at hb;rcases hb with rfl|rfl
  .exact cx _ _
  .exact ak _
 exact I1.fpOk hb'<|I1.hok.fresh hb'
end
section
variable {prog:Program}{w:World}{A:Around}{E:Value->Shared->Prop}{s:Shared}
def aE1{l b sl:fT}{items new:Array fR}{n n2:Nat}{vl vu:fR}{lo hi:Option Int}{Q:Unit->fS->Prop}
    (e:s.heap.get? l=Z { cls:=.type "list", data:=.seq items n }) (e2:s.heap.get? b=Z { cls:=.type "list", data:=.seq new n2 }) (hne:l≠b)
    (hs:s.heap.IsSliceOf sl vl vu .none) (pl:IsPart vl lo) (pu:IsPart vu hi) (hsz:items.size+new.size<=fc)
    (h:Q () { s with heap:=s.heap.update l (Obj.mapSeq λxs=>xs.extract 0 (HT.sIx items.size 0 lo)++new++xs.extract (max (HT.sIx items.size 0 lo)<|HT.sIx items.size items.size hi) xs.size) }) :
    fD (fE prog w) A (setItem (.ref l) (.ref sl)<|.ref b) Q E s:=by
  have hl:s.heap.IsList l items:=PySem.IsL.isList e;have hb:s.heap.IsList b new:=PySem.IsL.isList e2;obtain⟨os,hos,hcs,hds⟩:=id hs;have hTs:s.TypeIs (.ref sl) "slice" := ⟨os,hos,hcs⟩;have hstep:¬((rawPart O==rawInt 0)=true):=aF
  have hsame:Builtin.List.listSameRef (.ref l) (.ref b)=false:=by
    unfold Builtin.List.listSameRef;exact beq_eq_false_iff_ne.mpr hne
  have hbd:sliceBounds lo hi O items.size=(((HT.sIx items.size 0 lo:Nat):Int),((HT.sIx items.size items.size hi:Nat):Int),1):=by
    obtain⟨h1,h2,h3⟩:=ao6 lo hi items.size;exact Prod.ext h1<|Prod.ext h2 h3
  have hmax:(max ((HT.sIx items.size 0 lo:Nat):Int) ((HT.sIx items.size items.size hi:Nat):Int)).toNat=max (HT.sIx items.size 0 lo) (HT.sIx items.size items.size hi):=by grind
  have hz':((λxs:Array fR=>xs.extract 0 (HT.sIx items.size 0 lo)++new++xs.extract (max (HT.sIx items.size 0 lo)<|HT.sIx items.size items.size hi) xs.size) items).size<=fc+1:=by
    simp only[bO,Array.size_extract]
    grind
  unfold setItem
  try with_reducible refine wpAny_holding ?_
  first|refine eS (eT ?_)|skip
  refine eS (wpAny_sequenceKey hl.typeIs (by decide) ?_);refine eS (wpAny_callSpecial?_slot (name:=Str.ofString "__setitem__") hl.typeIs slot_list_setitem<|wpAny_call_entry slot_list_setitem hl.typeIs entry_list_setitem ?_ (args_list_setitem _ _ _));show fD _ _ (Builtin.List.listSubscript? (.ref sl) >>= _) _ _ s;refine eS ?_;unfold Builtin.List.listSubscript?;refine eS (wpAny_specialOf hTs slice_no_index ?_);simp only[Option.isNone_none,if_true];refine eT ?_;show fD _ _ (typeOf (.ref sl) >>= _) _ _ s;refine eS<|wpAny_typeOf hTs ?_
  first
    | rw[if_neg (by decide)]
    | refine PySem.W.KFB.if_not (by decide) ?_
  rw[listSliceParts_eq];refine eS (eS<|eY hos hds (x:=.none) rfl (eS<|wpAny_listPart .none ?_));rw[if_neg hstep];refine eS (eY hos hds (x:=vl) rfl<|eS (wpAny_listPart pl ?_));refine eS<|eY hos hds (x:=vu) rfl (eS<|wpAny_listPart pu (eT ?_))
  first
    | simp only[hsame,bh,if_false]
    | refine PySem.W.KFB.if_not hsame ?_
    | (dsimp only
       rw[if_neg (by rw[hsame];exact aF)])
  refine eS (m:=Builtin.List.listAllItems (.ref b) "must assign iterable to extended slice") ?_;unfold Builtin.List.listAllItems;refine eS<|wpAny_typeOf hb.typeIs ?_
  first
    | refine PySem.W.KFB.if_so (by decide) ?_
    | rw[if_pos (by decide)]
    | simp only[beq_self_eq_true,cJ,if_true]
  unfold Builtin.List.listItems;refine eS (wpAny_seqItems e2 rfl<|eT ?_);refine eS (eS<|wpAny_seqItems e rfl (eT ?_));refine eS (wpAny_of_eq ((sliceIndices_raw lo hi O items.size<|by simp).trans<|congrArg (pure:Int×Int×Int->Sem (Int×Int×Int)) hbd) ?_);show fD _ _ (if((1:Int)==1)=true then _ else _) _ _ s;rw[if_pos (by decide)];refine eS<|wpAny_rule ?_
  first
    | simp only[af5 hsz,bh,if_false]
    | refine PySem.W.KFB.if_not (af5 hsz) ?_
  first|refine eS (eT ?_)|skip
  show fD _ _ (updateSeq l (λxs=>xs.extract 0 (((HT.sIx items.size 0 lo:Nat):Int)).toNat++new++xs.extract (max ((HT.sIx items.size 0 lo:Nat):Int) ((HT.sIx items.size items.size hi:Nat):Int)).toNat xs.size) >>= _) _ _ s;rw[hmax,bu];refine eS (wpAny_updateSeq (hz:=aQ (cx _ _) hsz) (_hz':=hz') e rfl ?_);refine eS<|wpAny_letGo ?_
  first
    | exact eS<|eT (eT ⟨.none,rfl,eT h⟩)
    | exact eT ⟨.none,rfl,eT h⟩
end
section
variable {X:Cx}
noncomputable def aD6{α:Type}(xs:List α)(lo hi:Option Int)(ys:List α):List α:=xs.take (HT.sIx xs.length 0 lo)++ys++xs.drop (max (HT.sIx xs.length 0 lo)<|HT.sIx xs.length xs.length hi)
def bh2{pins:List (fT×Obj)}{s:fS}{σ:L2.St}{H:Hp}{l b sl:fT}{xs ys:List V}{lo hi:Option Int}{vl vu:fR}{Q:Unit->fS->Prop}(I:Inv X pins σ H s)
  (hH:H l=Z (.lst xs)) (hB:H b=Z (.lst ys)) (hne:l≠b) (hs:s.heap.IsSliceOf sl vl vu .none) (pl:IsPart vl lo) (pu:IsPart vu hi)
  (hz:xs.length+ys.length<=fc) (h:∀s',Inv X pins σ (upd H l<|.lst (aD6 xs lo hi ys)) s'->Q () s') :
  fD (fE X.prog X.w) X.A (setItem (.ref l) (.ref sl)<|.ref b) Q X.xe s:=by
 obtain⟨z,its,n,r,hl,e⟩:=I.lstM hH;obtain⟨z2,its2,n2,r2,hl2,e2⟩:=I.lstM hB;refine aE1 e e2 hne hs pl pu (by rw[aw,aw];grind) (h _ ?_);have hz0:its.toArray.size=xs.length:=by rw[aw];exact hl.symm
 refine I.lset (its':=its.take (HT.sIx xs.length 0 lo)++its2++its.drop (max (HT.sIx xs.length 0 lo)<|HT.sIx xs.length xs.length hi)) (t':=s.toks) hH e ?_ (D8.append (D8.append (r.take _) r2)<|r.drop _) ?_
 .have e0:=bw0 its its2 (HT.sIx xs.length 0 lo) (max (HT.sIx xs.length 0 lo)<|HT.sIx xs.length xs.length hi);rw[hz0]at e0 ⊢;exact e0
 .unfold aD6;rw[ah,ah,aA,aS]
  grind
def bH0{K:ad}{H:Hp}{ds es:List D}{vs us:List V}(h:Reps K H ds vs)(g:Reps K H es us)(lo hi:Option Int):Reps K H (aD6 ds lo hi es) (aD6 vs lo hi us):=by
 unfold aD6;rw[h.length];exact((h.take _).append g).append (h.drop _)
def Slots.reOwn{K:ad}{H0 H Hf:Hp}{ρ:Rho}{σ:L2.St}{i:Nat}{ds ds':List D}{b:fT}{vs':List V}(sl:Slots K H0 ρ σ H Hf)(eo:ρ[i]? = Z (Z<|.own ds))(h1:σ[i]? = Z (Z<|.ref b))(hf:Hf b=O)(h0:H0 b=O)(r:Reps K Hf ds' vs'):
  Slots K H0 (ρ.set i<|Z (.own ds')) σ (upd H b<|.lst vs') Hf:=by
 refine⟨by simpa using sl.len,λj bb z=>?_,λj k ds1 es c q1 q2 q3 q4=>?_⟩
 .by_cases qj:i=j
  .subst qj;have hi:i < ρ.length:=(ao.mp eo).1;rw[aJ hi]at z;cases z;exact⟨_,h1,b,vs',rfl,C2,hf,h0,r⟩
  .rw[aG qj]at z;obtain⟨u,z1,z2⟩:=sl.is j bb z;refine⟨u,z1,?_⟩;cases bb with
   | val d=>exact z2
   | exc C=>exact z2
   | own dd =>
    obtain⟨a',us',y1,y2,y3,y4,y5⟩:=z2
    have ne:a'≠b:=λzz=>by
     subst zz y1;exact qj<|sl.apart i j ds dd a' eo z h1 z1
    exact⟨a',us',y1,by rw[C8 ne];exact y2,y3,y4,y5⟩
 .have f:∀(j:Nat) (es:List D),(ρ.set i<|Z (B.own ds'))[j]? = Z (Z<|B.own es)->∃dd:List D,ρ[j]? = Z (Z<|B.own dd):=λj es q=>by
   by_cases qj:i=j
   .subst qj;exact⟨ds,eo⟩
   .rw[aG qj]at q;exact⟨_,q⟩
  obtain⟨d1,q1'⟩:=f j _ q1;obtain⟨d2,q2'⟩:=f k _ q2;exact sl.apart j k d1 d2 c q1' q2' q3 q4
noncomputable def bG7(i:Nat)(lo hi:Rho->Option (Option Int))(f:Rho->Option (List D)):DS:=λρ=>(f ρ).bind λes=>(lo ρ).bind λl=>(hi ρ).bind λh=>match ρ[i]? with
 | some (Z (.own ds))=>if ds.length+es.length<=16777216 then Z (.nx<|ρ.set i (Z<|.own (aD6 ds l h es))) else O
 | _=>O
def cD2(i:Nat){x:Str}{e:Expr}{lo hi:Option Expr}{f:Rho->Option (List D)}{l h:Rho->Option (Option Int)}{p p2 pos' pos:Pos}(he:JN X e f)(hl:JO X lo l)(hh:JO X hi h)(hN:X.N[i]? = Z x:=by rfl)
  (hv:Vis X.env.scope x:=by first|exact Or.inl rfl|exact Or.inr (Or.inl rfl)|exact Or.inr<|Or.inr rfl) (hd:(x==("__debug__" : Str))=false:=by decide) (hcd:(x==("__classdict__" : Str))=false:=by decide)
  (hsw:swapsWith e (Z<|.Subscript (.Name x p) (.Slice lo hi O p2) pos') pos.line X.env=pure false:=by rfl):JS X (.Assign [.Subscript (.Name x p) (.Slice lo hi O p2) pos'] e pos) (bG7 i l h f):=λρ fl q H0 Hf0=>by
 obtain⟨es,e1,q⟩:=xbm q;obtain⟨y,e2,q⟩:=xbm q;obtain⟨z,e3,q⟩:=xbm q;split at q
 .rename_i ds eo;split at q
  .rename_i hz;cases q;intro pins s σ H En I ⟨Hf,a,ee⟩;refine wpAny_Assign_Subscript (thn (he ρ es e1 pins s σ H (λv H'=>∃Hf',Grow H Hf H' Hf'/\∃b us,v=.ref b/\H b=O/\H' b=Z (.lst us)/\Hf' b=O/\Reps X.K Hf' es us) I ⟨H0,Hf,a.gr.sub,a.sl,λv H' Hf' g r=>⟨Hf',g,r⟩⟩) λv s1 ⟨x1,H1,I1,r1,Hf1,g1,b,us,ev,b1,b2,b3,b4⟩=>?_) hsw;subst ev;cases r1;obtain⟨vl0,h1,c,vs,ev,h2,h3,h4,h5⟩:=a.sl.is i _ eo;subst ev;refine thn (al6 hN hv hd hcd pins s1 σ H1 (λv H'=>v=.ref c/\H'=H1) I1 ⟨_,h1,rfl,rfl⟩) λov s2 ⟨x2,H2,I2,r2,ex,eH⟩=>?_
   subst ex eH;cases r2;have sl1:=a.sl.grow g1;refine wpAny_Slice (thn (hl ρ y e2 pins s2 σ H2 (λo H'=>o=y/\∃Hf',Grow H2 Hf1 H' Hf') I2 ⟨H0,Hf1,g1.sub,sl1,λH' Hf' g=>⟨rfl,Hf',g⟩⟩) λwl s3 ⟨o3,H3,I3,pl,eo3,Hf3,g3⟩=>?_);subst eo3;have sl3:=sl1.grow g3;refine thn (hh ρ z e3 pins s3 σ H3 (λo H'=>o=z/\∃Hf',Grow H3 Hf3 H' Hf') I3 ⟨H0,Hf3,g3.sub,sl3,λH' Hf' g=>⟨rfl,Hf',g⟩⟩) λwu s4 ⟨o4,H4,I4,pu,eo4,Hf4,g4⟩=>?_
   subst eo4;have sl4:=sl3.grow g4;have gg:Grow H Hf H4 Hf4:=(g1.trans g3).trans g4;rw[evalPart_none];refine eT ?_;have I5:Inv X pins σ H4 { s4 with heap:=s4.heap.push { cls:=.type "slice", data:=.fields #[wl,wu,.none] } }:=I4.kept (t':=s4.toks) λb ob q=>fF _ q
   have hc:H4 c=Z (.lst vs):=gg.big _ _ h2;have hb:H4 b=Z (.lst us):=(g3.trans g4).big _ _ b2;have hcb:c≠b:=λzz=>by subst zz;rw[h2]at b1;cases b1
   have hfc:Hf4 c=O:=gg.nofr h2 h3;have rd:Reps X.K Hf4 (aD6 ds o3 o4 es) (aD6 vs o3 o4 us):=bH0 (h5.mono gg.ext) (b4.mono (g3.trans g4).ext) _ _;refine bh2 I5 hc hb hcb (Heap.IsSliceOf.new ..) pl pu (by rw[h5.length,b4.length,fe];exact hz) λs' I'=>?_
   have ga:=a.gr.trans gg;refine⟨σ,_,I',ee σ _ Hf4 ⟨⟨λd u zz=>?_,λd u zz=>?_,ga.ext,ga.new⟩,sl4.reOwn eo h1 hfc h4 rd⟩ gg.ext⟩
   .rw[C8 (C9 zz h4)];exact ga.big d u zz
   .rw[C8 (C9 zz hfc)];exact ga.sub d u zz
  .cases q
 .cases q
def cf6(i:Nat)(hN:X.N.Nodup)(S:CompSc X N' n caps scope)(hx:∀e s,X.xe e s->False)
  (hi:JI X tgt iter src) (hg:∀C s0 H0 ex,JG (F4 X N' scope C s0 H0 ex) tgt g) (ht:∀C s0 H0 ex,JTs (F4 X N' scope C s0 H0 ex) ifs c) (he:∀C s0 H0 ex,JE (F4 X N' scope C s0 H0 ex) elt e)
  (hi2:X.N[i]? = Z x:=by rfl) (hl:X.env.scope.names.lookup x=Z .local:=by rfl) (hsw:swapsWith (.ListComp elt [⟨tgt,iter,ifs,0⟩] scope pos) (Z<|.Name x pos') spos.line X.env=pure true:=by rfl)
  (hc:X.calm=true:=by rfl) (hs:∀x,fu iter X.env x=pure x:=by intro _;rfl):JS X (.Assign [.Name x pos'] (.ListComp elt [⟨tgt,iter,ifs,0⟩] scope pos) spos) (ad9 i<|C5 n caps src g c e):=λρ fl q H0 Hf0=>by
 obtain⟨out,e1,e2⟩:=xmo q;subst e2;obtain⟨ds,e3,k⟩:=an4 (K:=X.K) e1;refine P5 (aE4 S hx hc hN hi2 hl (hi ρ ds e3) (g:=tgJ X.K g) (tc:=aM0 X.K c) (te:=bo2 X.K e) hg ht (λC s0 H0 ex pins s σ H Q I ⟨ρ,d,e,t⟩=>he C s0 H0 ex ρ d e pins s σ H Q I t) hsw hs) λEn σ H ⟨Hf,a,ee⟩=>k σ H _ ⟨H0,Hf,a.gr.sub,a.sl,λv H' Hf' gg ⟨p,vs,z1,z2,z3,z4,z5⟩=>?_⟩
 subst z1;exact ee _ H' Hf' ⟨a.gr.trans gg,a.sl.setOwn gg (a.gr.big.free z2) z2 z3 z4 z5⟩ gg.ext
noncomputable def cn4:DS:=λρ=>Z<|.ct ρ
def cf7:JS X (.Continue pos) cn4:=λρ fl q H0 Hf0=>by
 cases q;exact P5 aY5 λEn σ H ⟨Hf,a,e⟩=>e σ H Hf a<|E8.refl _
end
section
variable {X:Cx}
noncomputable def aA0(x:Str)(k:Int):Str:=if(k==1 || x.length==0)=true then x else⟨(aB k.toNat x.cps).foldl (·++·) #[]⟩
noncomputable def bx8(x y:D):Option D:=match x,y with
 | .str x,.int k=>if 1<=k/\k<=2/\x.length<=1000/\(aA0 x k).length<=16777216 then Z (.str<|aA0 x k) else O
 | _,_=>O
def cd5:OpD X (fo .Mult) bx8:=λx y z h=>by
 unfold bx8 at h;split at h
 .split at h
  .rename_i x k c;cases h;intro pins s σ H vx vy v u Q I rx ry ⟨Hf,ss,r1,r2,kk⟩;cases r1;cases r2;obtain⟨t,rfl⟩:=rx;obtain⟨t2,rfl⟩:=ry;have w:=kk (.str<|aA0 x k) H Hf (Grow.refl ss) rfl;have k12:k=1\/k=2:=by grind
   refine P.mul_str (by rw[decide_eq_false (by grind),decide_eq_false (by grind)];rfl) (λ_ _=>by rcases k12 with rfl|rfl<;>grind) (λ_ _=>?_) ?_
   .unfold Builtin.Str.tooLong;rw[fe];refine decide_eq_false ?_;rcases k12 with rfl|rfl<;>simp<;>grind
   .rw[if_neg (by grind)];unfold aA0 at w c;split
    .rename_i e;rw[if_pos e]at w;exact⟨.str x,H,I,⟨_,rfl⟩,w⟩
    .rename_i e;rw[if_neg e]at w c;exact⟨by rw[fe];exact c.2.2.2,.str _,H,I.tok _,⟨_,rfl⟩,w⟩
  .cases h
 .cases h
noncomputable def slS(x:Str)(lo hi:Option Int):Str:=if((1:Int)==1&&(Builtin.Str.strSliceIndices lo hi 1 x.length).length==x.length)=true then x else⟨((Builtin.Str.strSliceIndices lo hi 1 x.length).filterMap (x.cps[·]?)).toArray⟩
noncomputable def bC0(f:DE)(lo hi:Rho->Option (Option Int)):DE:=λρ=>(f ρ).bind λd=>(lo ρ).bind λl=>(hi ρ).bind λh=>match d with
 | .str x=>if x.length<=1000/\(slS x l h).length<=16777216 then Z (.str<|slS x l h) else O
 | _=>O
def bp2(h:IsPart u o):∃p:Option (Int×Tok),u=partValue p/\p.map (·.1)=o:=by
 cases h with
 | none=>exact⟨O,rfl,rfl⟩
 | int i t=>exact⟨Z (i,t),rfl,rfl⟩
def bZ3:SlR X (λx lo hi H Q=>∃z,x=.str z/\(slS z lo hi).length<=16777216/\Q (.str<|slS z lo hi) H):=by
 intro pins s σ H x v vl vu lo hi sl Q I rx hs pl pu h;obtain⟨z,rfl,hz,q⟩:=h;obtain⟨t,rfl⟩:=rx;obtain⟨pl',rfl,rfl⟩:=bp2 pl;obtain⟨pu',rfl,rfl⟩:=bp2 pu;refine⟨"str", _,F.slot_str_getitem.lookup,typeIs_str s z t,wpAny_getItem_str_slice (l:=pl') (u:=pu') (st:=O) hs rfl ?_⟩;show(if((1:Int)==1&&(Builtin.Str.strSliceIndices (pl'.map (·.1)) (pu'.map (·.1)) 1 z.length).length==z.length)=true then Made.val (.str z t) else Made.str ⟨((Builtin.Str.strSliceIndices (pl'.map (·.1)) (pu'.map (·.1)) 1 z.length).filterMap (z.cps[·]?)).toArray⟩).post _ _;unfold slS at q hz;by_cases e:((1:Int)==1&&(Builtin.Str.strSliceIndices (pl'.map (·.1)) (pu'.map (·.1)) 1 z.length).length==z.length)=true
 .rw[if_pos e]at q ⊢;exact⟨.str z,H,I,⟨_,rfl⟩,q⟩
 .rw[if_neg e]at q hz ⊢;exact⟨by rw[fe];exact hz,.str _,H,I.tok _,⟨_,rfl⟩,q⟩
def cF1{a:Expr}{lo hi:Option Expr}{f:DE}{l h:Rho->Option (Option Int)}{pos p2:Pos}(ha:JE X a f)(hl:JO X lo l)(hh:JO X hi h):JE X (.Subscript a (.Slice lo hi O p2) pos) (bC0 f l h):=λρ d q=>by
 obtain⟨x,e1,q⟩:=xbm q;obtain⟨y,e2,q⟩:=xbm q;obtain⟨z,e3,q⟩:=xbm q;cases x with
 | str x =>
  simp only at q;split at q
  .rename_i c;cases q;refine B9 (ap3 bZ3 (ha ρ _ e1) (hl ρ y e2)<|hh ρ z e3) λσ H Q ⟨H0,Hf,s,sl,k⟩=>?_
   refine⟨H0,Hf,s,sl,λv H1 Hf1 g1 r1=>⟨H0,Hf1,g1.sub,sl.grow g1,λH2 Hf2 g2=>⟨H0,Hf2,g2.sub,sl.grow<|g1.trans g2,λH3 Hf3 g3=>?_⟩⟩⟩;exact⟨x,r1,c.2,k _ H3 Hf3 ((g1.trans g2).trans g3) rfl⟩
  .cases q
 | _=>cases q
noncomputable def aR1(i:Nat)(f:DE):DS:=λρ=>match ρ[i]? with
 | some (Z (.own ds))=>(f ρ).bind λd=>match d with
  | .list es=>if ds.length+es.length<=16777216 then Z (.nx<|ρ.set i (Z<|.own (ds++es))) else O
  | .tuple es=>if ds.length+es.length<=16777216 then Z (.nx<|ρ.set i (Z<|.own (ds++es))) else O
  | _=>O
 | _=>O
end
section
variable {X:Cx}
noncomputable def bx7(f g:Rho->Option (Bool×List D)):Rho->Option (List D):=λρ=>(f ρ).bind λp=>(g ρ).bind λq=>if p.1=false/\q.1=false/\p.2.length+q.2.length<=16777216 then Z (p.2++q.2) else O
def cE4(ha:JQ X a f)(hb:JQ X b g):JN X (.BinOp a .Add b pos) (bx7 f g):=λρ out q=>by
 obtain⟨⟨t1,xs⟩,e1,q⟩:=xbm q;obtain⟨⟨t2,ys⟩,e2,q⟩:=xbm q;split at q
 .rename_i c;obtain⟨c1,c2,c3⟩:=c;simp only at c1 c2 c3;subst c1 c2;cases q;refine B9 (co0 bp4 (ha ρ _ _ e1)<|hb ρ _ _ e2) λσ H Q ⟨H0,Hf,s,sl,k⟩=>?_
  refine⟨H0,Hf,s,sl,λv H1 Hf1 g1 ⟨p,vs,z1,z2,z3⟩=>⟨H0,Hf1,g1.sub,sl.grow g1,λu H2 Hf2 g2 ⟨p',us,z1',z2',z3'⟩=>?_⟩⟩;subst z1 z1';refine⟨p,p',vs,us,rfl,rfl,G1 g2.big z2,z2',by rw[z3.length,z3'.length,fe];exact c3,λn hn=>?_⟩;exact k _ _ _ ((g1.trans g2).trans<|Grow.made g2.sub hn) ⟨n,vs++us,rfl,(g1.trans g2).big.free hn,C2,g2.sub.free hn,(z3.mono g2.ext).append z3'⟩
 .cases q
end
section
variable {X:Cx}
def cj8(l b:fT)(xs ys:Array fR)(n m:Nat)(dd:Option fT)(sl:Array (Option fR))(h0:¬(!xs.isEmpty&&Builtin.List.listTooLong (xs.size+ys.size))=true)(h1:xs.size<=fc)(h2:xs.size+ys.size<=fc+1):
  Meets (Builtin.«list.extend» ⟨[.ref l,.ref b],[]⟩) (λ_ R s=>s.heap.get? l=Z { cls:=.type "list", data:=.seq xs n }/\s.heap.get? b=Z ⟨.type "list", dd,.seq ys m,sl⟩ /\
   R (.ok (.ret fP)) { s with heap:=s.heap.update l (Obj.mapSeq λx=>x++ys),toks:=s.toks }) :=
 .of_wp λprog w A R s h=>by
  obtain⟨hp,g,d,tk,os⟩:=s;obtain⟨hl,hb,h⟩:=h;have f1:=AutoSeq1.idx_int;have f2:=AutoSeq1.sub_tuple_tuple;have f3:=AutoSeq1.sub_list_list;have f4:=AutoSeq1.sub_tuple_list;have f5:=AutoSeq1.sub_list_tuple;have hz':(xs++ys).size<=fc+1:=by rw[bO];exact h2
  wp_walk using (wpAny_updateSeq hl rfl (hz:=h1) (_hz':=hz')),AutoSeq1.wpAny_loadPart' hl,AutoSeq1.wpAny_loadPart' hb
  exact⟨_,rfl,h⟩
def cj7(l b:fT)(xs ys:Array fR)(n m:Nat)(dd:Option fT)(sl:Array (Option fR))(h0:¬(!xs.isEmpty&&Builtin.List.listTooLong (xs.size+ys.size))=true)(h1:xs.size<=fc)(h2:xs.size+ys.size<=fc+1):
  Meets (Builtin.«list.extend» ⟨[.ref l,.ref b],[]⟩) (λ_ R s=>s.heap.get? l=Z { cls:=.type "list", data:=.seq xs n }/\s.heap.get? b=Z ⟨.type "tuple", dd,.seq ys m,sl⟩ /\
   R (.ok (.ret fP)) { s with heap:=s.heap.update l (Obj.mapSeq λx=>x++ys),toks:=s.toks }) :=
 .of_wp λprog w A R s h=>by
  obtain⟨hp,g,d,tk,os⟩:=s;obtain⟨hl,hb,h⟩:=h;have f1:=AutoSeq1.idx_int;have f2:=AutoSeq1.sub_tuple_tuple;have f3:=AutoSeq1.sub_list_list;have f4:=AutoSeq1.sub_tuple_list;have f5:=AutoSeq1.sub_list_tuple;have hz':(xs++ys).size<=fc+1:=by rw[bO];exact h2
  wp_walk using (wpAny_updateSeq hl rfl (hz:=h1) (_hz':=hz')),AutoSeq1.wpAny_loadPart' hl,AutoSeq1.wpAny_loadPart' hb
  exact⟨_,rfl,h⟩
noncomputable def da2(K:ad):V->List V->Hp->VK->Prop:=λx vs H Q=>∃l b xs zs,x=.ref l/\vs=[.ref b]/\H l=Z (.lst xs)/\(SqL K H b zs\/SqT K H b zs)/\xs.length+zs.length<=fc/\Q .non (upd H l<|.lst (xs++zs))
def bM0:MtM X "list.extend" (da2 X.K):=by
 intro pins s σ H x vs v us Q I rx rv h;obtain⟨l,b,xs,zs,rfl,rfl,hH,hB,hz,q⟩:=h;cases rx;obtain⟨u,rfl,ru⟩:=rv.one;cases ru;obtain⟨z,its,n,r,hl,e⟩:=I.lstM hH;rcases hB with hB|hB
 .obtain⟨its2,r2,pl,_⟩:=I.list hB;obtain⟨⟨cls,dd,data,sl⟩,ho,hc,m,hd⟩:=pl.isList;simp only at hc hd;subst hc hd;have hl2:=r2.length;have hsz:its.toArray.size+its2.toArray.size<=fc:=by rw[aw,aw];grind
  have hlong:¬(!its.toArray.isEmpty&&Builtin.List.listTooLong (its.toArray.size+its2.toArray.size))=true:=by rw[af5 hsz,cS];exact aF
  refine fw F.slot_list_extend ⟨_,e,rfl⟩ F.entry_list_extend (F.args_list_extend_2 _ _) (cj8 l b its.toArray its2.toArray n m dd sl hlong (by rw[aw];grind)<|by grind) ⟨e,ho,?_⟩;refine⟨.non,_,I.lset (its':=its++its2) hH e (by simp) (r.append r2) ?_,rfl,q⟩;rw[ah];grind
 .obtain⟨its2,r2,pl,_⟩:=I.tuple hB;obtain⟨⟨cls,dd,data,sl⟩,ho,hc,m,hd⟩:=pl;simp only at hc hd;subst hc hd;have hl2:=r2.length;have hsz:its.toArray.size+its2.toArray.size<=fc:=by rw[aw,aw];grind
  have hlong:¬(!its.toArray.isEmpty&&Builtin.List.listTooLong (its.toArray.size+its2.toArray.size))=true:=by rw[af5 hsz,cS];exact aF
  refine fw F.slot_list_extend ⟨_,e,rfl⟩ F.entry_list_extend (F.args_list_extend_2 _ _) (cj7 l b its.toArray its2.toArray n m dd sl hlong (by rw[aw];grind)<|by grind) ⟨e,ho,?_⟩;refine⟨.non,_,I.lset (its':=its++its2) hH e (by simp) (r.append r2) ?_,rfl,q⟩;rw[ah];grind
def cD8(i:Nat)(h:JE X e f)(hN:X.N[i]? = Z x)(hv:Vis X.env.scope x)(hd:(x==("__debug__" : Str))=false)
  (hcd:(x==("__classdict__" : Str))=false) (hline:(apos.endLine==cpos.line)=true) (hs:fb [e] X.env=[(false,eval e X.env)]) :
  JS X (.Expr (.Call (.Attribute (.Name x p) "extend" apos) [e] [] cpos) pos) (aR1 i f):=λρ fl q H0 Hf0=>by
 unfold aR1 at q;split at q
 .rename_i ds eo;obtain⟨d,e1,q⟩:=xbm q;split at q
  .rename_i es;split at q
   .rename_i hz;cases q;refine P5 (aR7 (bp1 PySem.F.plainAttrs_list PySem.F.slot_list_extend PySem.F.type_list_extend bM0 (al6 hN hv hd hcd) (D7 (h ρ _ e1) J2 hs) rfl (by rw[hs];rfl) hline hs) rfl) λEn σ H ⟨Hf,a,ee⟩=>?_
    obtain⟨v,h1,b,vs,rfl,h2,h3,h4,h5⟩:=a.sl.is i _ eo;refine⟨_,h1,.inl ⟨rfl,vs,SqL.of h2⟩,H0,Hf,a.gr.sub,a.sl,λw H' Hf' gg r=>?_⟩;obtain⟨b2,us,rfl,r1,r2⟩:=r;have hb:H' b=Z (.lst vs):=gg.big _ _ h2;have hfb:Hf' b=O:=gg.nofr h2 h3;have g2:=a.gr.trans gg;have sl2:=a.sl.grow gg;refine⟨b,b2,vs,us,rfl,rfl,hb,.inl<|G1 gg.sub r1,by rw[h5.length,r2.length,fe];exact hz,ee _ _ Hf' ⟨⟨λc u z=>?_,λc u z=>?_,g2.ext,g2.new⟩,?_⟩ gg.ext⟩
    .rw[C8 (C9 z h4)];exact g2.big c u z
    .rw[C8 (C9 z hfb)];exact g2.sub c u z
    .exact sl2.reOwn eo h1 hfb h4 ((h5.mono gg.ext).append r2)
   .cases q
  .rename_i es;split at q
   .rename_i hz;cases q;refine P5 (aR7 (bp1 PySem.F.plainAttrs_list PySem.F.slot_list_extend PySem.F.type_list_extend bM0 (al6 hN hv hd hcd) (D7 (h ρ _ e1) J2 hs) rfl (by rw[hs];rfl) hline hs) rfl) λEn σ H ⟨Hf,a,ee⟩=>?_
    obtain⟨v,h1,b,vs,rfl,h2,h3,h4,h5⟩:=a.sl.is i _ eo;refine⟨_,h1,.inl ⟨rfl,vs,SqL.of h2⟩,H0,Hf,a.gr.sub,a.sl,λw H' Hf' gg r=>?_⟩;obtain⟨b2,us,rfl,r1,r2⟩:=r;have hb:H' b=Z (.lst vs):=gg.big _ _ h2;have hfb:Hf' b=O:=gg.nofr h2 h3;have g2:=a.gr.trans gg;have sl2:=a.sl.grow gg;refine⟨b,b2,vs,us,rfl,rfl,hb,.inr<|D1 gg.sub r1,by rw[h5.length,r2.length,fe];exact hz,ee _ _ Hf' ⟨⟨λc u z=>?_,λc u z=>?_,g2.ext,g2.new⟩,?_⟩ gg.ext⟩
    .rw[C8 (C9 z h4)];exact g2.big c u z
    .rw[C8 (C9 z hfb)];exact g2.sub c u z
    .exact sl2.reOwn eo h1 hfb h4 ((h5.mono gg.ext).append r2)
   .cases q
  .cases q
 .cases q
end
noncomputable def am8(a:List Str)(x:Str):List Str:=if a.any (· == x) then a else a++[x]
noncomputable def ddN(v:Nat->Str)(i:Nat):List Str:=((az i).map v).foldl am8 []
noncomputable def ddS(l:List Str):List Str:=l.foldl am8 []
def aH4(v:Nat->Str)(i:Nat):ddN v (i+1)=am8 (ddN v i) (v i):=by
 unfold ddN;rw[List.range_succ,bf,List.foldl_append];rfl
theorem bT9(v:Nat->Str):∀i,(ddN v i).length<=i
 | 0=>ak 0
 | i+1=>by
  have ih:=bT9 v i;rw[aH4];unfold am8;split
  .grind
  .rw[ah,aN]
   grind
def cJ0(a:List Str)(x y:Str):(am8 a x).any (· == y)=(a.any (· == y) || decide (y=x)):=by
 unfold am8;by_cases q:a.any (· == x)=true
 .rw[if_pos q];by_cases e:y=x
  .subst e;rw[q];simp
  .simp[e]
 .rw[if_neg q,List.any_append];by_cases e:y=x
  .subst e;simp
  .have:(x==y)=false:=by simpa [beq_iff_eq] using λz:x=y=>e z.symm
   simp[this,e]
def bT8(a:List Str)(x:Str):(am8 a x).length=if a.any (· == x) then a.length else a.length+1:=by
 unfold am8;split<;>simp
def cJ1(l:List Str)(d:Str):ddN (λi=>l.getD i d) l.length=ddS l:=by
 unfold ddN ddS
 congr 1
 refine bW λi=>?_
 rw[aI];by_cases hi:i < l.length
 .rw[dw hi,av hi];simp[List.getD,av hi]
 .rw[bj (by simpa using hi),bj (by simpa using hi)];rfl
section
variable {prog:Program}{w:World}{A:Around}{R:Result->Shared->Prop}{J:Addr}{fp wr:List Addr}{Gn:Array GenState->Array GenState->Prop}{n:Nat}{P:Nat->Value->Prop}{St:Nat->Shared->Prop}
def bG6(W:WalksS prog w A.in1 J fp wr Gn n P St)(S:fT)(hS1:S∉fp)(v:Nat->Str)(hv:∀i u,P i u->∃t,u=.str (v i) t)(hb:n+1 < scanBound):
  ∀(k i:Nat) (s:fS),n - i=k->i<=n->St i s->s.heap.SetOf (strKind prog w) S (λy=>(ddN v i).any (· == y)) (ddN v i).length ->
   (∀s',Moved (S::wr) Gn s s'->s'.heap.SetOf (strKind prog w) S (λy=>(ddN v n).any (· == y)) (ddN v n).length->R (.ok<|.ret .none) s') ->
   codeAny (fE prog w) A (.builtin "set.update.loop" ⟨[.ref S,.ref J],[]⟩) R s:=by
 have hS2:S∉wr:=λz=>hS1<|W.sub _ z
 have more:∀b∈wr,b∈S::wr:=λb z=>xmm _ z
 intro k
 induction k with
 | zero =>
  intro i s e1 e2 q1 q2 q3;obtain rfl:i=n:=by grind
  refine codeAny_builtin PyProof.Rows.F.entry_set_update_loop ?_;rw[Around.under_plainId PyProof.Rows.F.plain_set_update_loop _];show fD _ _ (pyNext (.ref J) >>= _) _ _ _;refine eS (W.done s _ _ q1 λs' mv=>?_);show fD _ _ (ret fP) _ _ _;refine eT (q3 s' (mv.mono more) ?_);obtain⟨o,es,ep,tb,ho,more'⟩:=q2;exact⟨o,es,ep,tb,mv.heap S _ hS2 ho,more'⟩
 | succ k ih =>
  intro i s e1 e2 q1 q2 q3;have lt:i < n:=by grind
  refine codeAny_builtin PyProof.Rows.F.entry_set_update_loop ?_;rw[Around.under_plainId PyProof.Rows.F.plain_set_update_loop _];show fD _ _ (pyNext (.ref J) >>= _) _ _ _;refine eS (W.item i s _ _ lt q1 λu s' hP q1' mv=>?_);obtain⟨t,rfl⟩:=hv i u hP
  have q2':s'.heap.SetOf (strKind prog w) S (λy=>(ddN v i).any (· == y)) (ddN v i).length:=by
   obtain⟨o,es,ep,tb,ho,more'⟩:=q2;exact⟨o,es,ep,tb,mv.heap S _ hS2 ho,more'⟩
  show fD _ _ (holding [Value.str (v i) t] (setAdd S<|.str (v i) t) >>= _) _ _ _;refine eS (wpAny_holding ?_);unfold setAdd;refine wpAny_holding (eS<|(strKind prog w).pyHash (k:=v i) (strKind_is _ _ _ _) ?_);have room:(ddN v i).length+1 < scanBound:=by have:=bT9 v i;grind
  refine wpAny_setAddHashed_of (knd:=strKind prog w) (s:={ s' with toks:=s'.toks+1 }) (strKind_is _ _ _ _) rfl q2' room λh' sb q4=>?_
  have q5:h'.SetOf (strKind prog w) S (λy=>(ddN v<|i+1).any (· == y)) (ddN v<|i+1).length:=SetOf_congr q4 (λy=>by rw[aH4,cJ0]) (by rw[aH4,bT8]);refine eT ⟨plainId_quiet PyProof.Rows.F.plain_set_update_loop _,ih (i+1) _ (by grind) lt (W.frame _ s' _ _ q1' (dD _) λb z o e=>?_) q5 λs2 mv2 q6=>?_⟩
  .rw[sb.2 b (λy:b=S=>hS1 (by rw[← y];exact z))];exact e
  .refine q3 s2 (Moved.trans W.gtrans ((mv.mono more).then_heap (dD _) λb o z e=>?_) mv2) q6;rw[sb.2 b (λy:b=S=>z (by rw[y];exact ae))];exact e
end
section
variable {prog:Program}{w:World}{A:Around}{E:Value->Shared->Prop}{s:Shared}
noncomputable abbrev U5(b:Bool):Obj:={ cls:=.type "set", dict:=O,data:=.set #[] 0 (.fresh 0 0 b) }
def aY2{l:fT}{its:Array fR}{xs:List Str}{Q:fR->fS->Prop}(hh:A.handled=O)(hl:s.heap.IsList l its)(hi:∀(i:Nat) (u:fR),its[i]? = Z u->∃t,u=.str (xs.getD i "") t)(hb:its.size+1 < scanBound)
  (h:∀(h':Heap) (tk:Nat),h'.SetOf (strKind prog w) s.heap.objs.size (λy=>(ddN (λi=>xs.getD i "") its.size).any (· == y)) (ddN (λi=>xs.getD i "") its.size).length ->
   (∀b o,b < s.heap.objs.size->s.heap.get? b=Z o->h'.get? b=Z o)->Q (.ref s.heap.objs.size) { s with heap:=h',toks:=tk }) :
  fD (fE prog w) A (call (.type "set") [.ref l]) Q E s:=by
 obtain⟨c,tl,hmro⟩:=F.called_set.mro;have hmade:=F.called_set.made;have hsub:=F.called_set.sub;refine wpAny_call (codeAny_of_tree ?_);show fD _ _ (callAny (.type "set") _) _ _ _;refine eT ⟨Code.quiet_builtin _ (by decide +kernel),codeAny_builtin F.entry_type_call ?_⟩;rw[Around.under_plain (weight_type_call_type "set" [.ref l] []) rfl];have n1:=F.called_set.notType;have n2:=F.called_set.canCreate;have n3:=F.typeCall_set_1<|.ref l
 repeat (any_goals (first|assumption|wp_step))
 refine codeAny_mono (code_set_new_1 (.ref l) (E:=E) (Q₁:=λob s1=>∃b:Bool,ob=.ref s.heap.objs.size/\s1={ s with heap:=s.heap.push (U5 b) }) λb=>⟨b,rfl,rfl⟩) λr s1 hr=>?_
 cases r with
 | error e=>exact hr
 | ok fl =>
  cases fl with
  | ret ob =>
   obtain⟨b,rfl,rfl⟩:=hr;have g0:(s.heap.push<|U5 b).get? s.heap.objs.size=Z (U5 b):=fH _ rfl;have hT:Shared.TypeIs { s with heap:=s.heap.push (U5 b) } (.ref s.heap.objs.size) "set" := ⟨_,g0,rfl⟩;have li:=F.called_set.init.lookup;have bi:=F.called_set.init.bind<|.ref s.heap.objs.size
   repeat (any_goals (first|assumption|wp_step))
   refine codeAny_mono (codeAny_call_builtin (R:=wants (λr s2=>r=.none/\∃h' tk,s2={ s with heap:=h',toks:=tk }/\h'.SetOf (strKind prog w) s.heap.objs.size (λy=>(ddN (λi=>xs.getD i "") its.size).any (· == y)) (ddN (λi=>xs.getD i "") its.size).length /\
     (∀b o,b < s.heap.objs.size->s.heap.get? b=Z o->h'.get? b=Z o)) E) F.called_set.init.plain F.entry_set_init (check_set_init_1 hT ?_)) λr2 s2 hr2=>?_
   .obtain⟨⟨c0,d0,dt0,sl0⟩,hol,hcl,nl,hdl⟩:=hl;simp only at hcl hdl;subst hcl hdl;have hol':(s.heap.push<|U5 b).get? l=Z { cls:=.type "list", dict:=d0,data:=.seq its nl,slots:=sl0 }:=fF _ hol;have f1:=F.sub_list_set;have f2:=F.sub_list_frozenset;have f3:(Value.type "list" == Value.type "dict")=false:=by decide
    have hl1:(s.heap.push<|U5 b).IsList l its:=⟨_,hol',rfl,nl,rfl⟩;unfold Builtin.«set.__init__» noKeywords Builtin.Frozenset.updateFrom;generalize hPI:pyIter=PI
    wp_walk
    subst hPI;refine wpAny_pyIter_list hl1 (eS<|wpAny_runValue ?_);have lS:l < s.heap.objs.size:=fG hol;have h3:A.in1.in1.in1.handled=O:=by simp[hh]
    have nI:l≠(s.heap.push<|U5 b).objs.size:=by
     rw[Heap.size_push];exact aE<|cI lS
    have nf:s.heap.objs.size∉[(s.heap.push<|U5 b).objs.size,l]:=by
     rw[Heap.size_push];simp only[am,au,aC,or_false,not_or];exact⟨aE<|cZ _,Nat.ne_of_gt lS⟩
    refine bG6 ((Walks.list h3 _ l nI its).toS) s.heap.objs.size nf (λi=>xs.getD i "") hi hb (its.size - 0) 0 _ (by grind) (aO _) ⟨⟨_,fH _ rfl,rfl,rfl⟩,(hl1.push _)⟩ ?hS0 ?hR
    case hS0 =>
     have gt:((s.heap.push<|U5 b).push { cls:=.type "list_iterator", data:=.fields #[.ref l,.int 0 0] }).get? s.heap.objs.size=Z (U5 b):=fF _ g0;exact SetOf_congr ((setObjOf_fresh (knd:=strKind prog w) b).setOf gt (by unfold scanBound;grind)) (λ_=>rfl) rfl
    case hR =>
     intro s' mv q;obtain⟨h',g',d',tk',os'⟩:=s';have eg:g'=s.gens:=mv.gens;have ed:d'=s.drawn:=mv.drawn;have eo:os'=s.os:=mv.os;subst eg ed eo;show fD _ _ _ _ _ _;refine eT ?_;show fD _ _ (ret fP) _ _ _;refine eT ⟨rfl,h',tk',rfl,q,λc o hc e=>?_⟩;have c1:c≠s.heap.objs.size:=aE hc
     have c2:c≠(s.heap.push<|U5 b).objs.size:=by
      rw[Heap.size_push];exact aE<|cI hc
     exact mv.heap c o (by simp only[am,au,aC,or_false,not_or];exact⟨c1,c2⟩)<|fF _ (fF _ e)
   .cases r2 with
    | error e=>exact hr2
    | ok fl2 =>
     cases fl2 with
     | ret r =>
      obtain⟨rfl,h',tk,rfl,q1,q2⟩:=hr2
      repeat (any_goals (first|assumption|wp_step))
      exact h _ _ q1 q2
     | _=>exact hr2.elim
  | _=>exact hr.elim
end
section
variable {X:Cx}
noncomputable def SetO(X:Cx)(a:fT)(n:Nat):HO:=.ext λh=>∃S,h.SetOf (strKind X.prog X.w) a S n
def cJ8:fk "set" = Z (.type "set"):=by decide +kernel
theorem aX5:∀{ys:List Str}{us:List fR},D8 (ys.map V.str) us->∀(i:Nat) (u:fR),us[i]? = Z u->∃t,u=.str (ys.getD i "") t
 | [],[],_,i,u,h=>by simp at h
 | y::ys,u::us,h,i,v,e=>by
  cases h with
  | cons a b =>
   cases i with
   | zero =>
    simp only[dP,bq.injEq]at e;subst e;obtain⟨t,e⟩:=a;exact⟨t,e⟩
   | succ i =>
    simp only[List.getElem?_cons_succ]at e;obtain⟨t,e'⟩:=aX5 b i v e;exact⟨t,e'⟩
def bC5(hc:X.calm=true):U2 X (.type "set") (λxs H Q=>∃p ys,xs=[.ref p]/\SqL X.K H p (ys.map V.str)/\ys.length<=4000/\∀l,H l=O->Q (.ref l) (upd H l<|SetO X l (ddS ys).length)):=by
 intro pins s σ H xs us Q I r h;obtain⟨p,ys,rfl,hq,hz,q⟩:=h;obtain⟨u,rfl,rx⟩:=X2 r;cases rx;obtain⟨its,rv,pl,_⟩:=I.list hq;have hl:its.length=ys.length:=by have:=rv.length;rw[aj]at this;exact this.symm
 have hs:its.toArray.size=ys.length:=by rw[aw];exact hl
 refine aY2 (xs:=ys) (I.ok.hd hc) pl.isList (λi u e=>aX5 rv i u (by rw[List.getElem?_toArray]at e;exact e)) (by rw[hs];unfold scanBound;grind) λh' tk q1 q2=>?_
 rw[hs,cJ1]at q1;refine⟨.ref _,_,I.laid (a:=s.heap.objs.size) (o:=SetO X s.heap.objs.size (ddS ys).length) (h':=h') (t':=tk) (λb o e=>q2 b o (fG e) e) (ak _) ⟨⟨_,q1⟩,?_,?_⟩,rfl,q _ I.fresh⟩
 .obtain⟨o,es,ep,t,ho,_⟩:=q1;exact⟨o,ho⟩
 .intro h1 h2 ⟨S,o,es,ep,t,ho,G9⟩ k;exact⟨S,o,es,ep,t,k o ho,G9⟩
def bD1:U2 X (.builtin "len") (λxs H Q=>∃p n,xs=[.ref p]/\H p=Z (SetO X p n)/\Q (.int n) H):=by
 intro pins s σ H xs us Q I r h;obtain⟨p,n,rfl,hp,q⟩:=h;obtain⟨u,rfl,rx⟩:=X2 r;cases rx;obtain⟨⟨S,o,es,ep,t,ho,hex,hd,_,_,hb,hf,hn⟩,_,_⟩:=I.hok p _ hp;have:es.size < 4096:=hb;exact call_len_set ho hex hd hf (by grind) ⟨.int n,H,I.tok _,⟨_,by rw[hn]⟩,q⟩
noncomputable def ar5(f:Rho->Option (Bool×List D)):DE:=λρ=>(f ρ).bind λq=>if q.1=true then O else(ax2 q.2).bind λys=>if ys.length<=4000 then Z (.int (ddS ys).length) else O
def by9(hg:Gl X "len")(hm:X.mg "len" = O)(hg2:Gl X "set")(hm2:X.mg "set" = O)(h:JQ X e f)(hc:X.calm=true)(he:fb [e] X.env=[(false,eval e X.env)]):
  JE X (.Call (.Name "len" p) [.Call (.Name "set" p2) [e] [] pos2] [] pos) (ar5 f):=λρ d q=>by
 obtain⟨⟨t,ds⟩,h1,q⟩:=xbm q;split at q
 .cases q
 .rename_i ht;have ht:t=false:=by simpa using ht
  subst ht;obtain⟨ys,h2,q⟩:=xbm q;split at q
  .rename_i hz;cases q;refine B9 (N7 bD1 hg hm bm4<|D7 (j4 (bC5 hc) hg2 hm2 cJ8 (D7 (h ρ false ds h1) J2 he) (he:=he)) J2 rfl) λσ H Q ⟨H0,Hf,s,sl,k⟩=>?_
   refine⟨H0,Hf,s,sl,λv H1 Hf1 g1 ⟨a,vs,e1,e2,e3⟩=>⟨a,ys,by rw[e1],?_,hz,λl hl=>⟨l,_,rfl,C2,?_⟩⟩⟩
   .rw[← at9 h2 e3];exact e2
   .exact k _ _ _ (g1.trans<|Grow.made g1.sub hl) rfl
  .cases q
end
section
variable {X:Cx}
noncomputable def cj2(x y:Str):Bool:=!(Builtin.Str.occurrences y x 0 y.length 1).isEmpty
noncomputable def inS(neg:Bool)(x y:D):Option D:=match x,y with
 | .str i,.str j=>Z<|.bool (if neg then !cj2 i j else cj2 i j)
 | _,_=>O
def cz2:OpD X (ff .In) (inS false):=λx y z h=>by
 cases x<;>cases y<;>first|(cases h;done)|skip
 rename_i i j;cases h;refine OpR.imp bw7 λvx vy H Q ⟨Hf,s,rx,ry,k⟩=>?_
 cases rx;cases ry;exact⟨i,j,rfl,rfl,k _ H Hf (Grow.refl s) rfl⟩
def bx2:OpD X (ff .NotIn) (inS true):=λx y z h=>by
 cases x<;>cases y<;>first|(cases h;done)|skip
 rename_i i j;cases h;refine OpR.imp aR8 λvx vy H Q ⟨Hf,s,rx,ry,k⟩=>?_
 cases rx;cases ry;exact⟨i,j,rfl,rfl,k _ H Hf (Grow.refl s) rfl⟩
noncomputable def bt3(f:DE):DE:=λρ=>(f ρ).bind λd=>match d with
 | .str x=>if x.length<=16777216 then Z (.int x.length) else O
 | _=>O
def ch5(hg:Gl X "len")(hm:X.mg "len" = O)(h:JE X e f)(he:fb [e] X.env=[(false,eval e X.env)]):JE X (.Call (.Name "len" p) [e] [] pos) (bt3 f):=λρ d q=>by
 obtain⟨y,h1,h2⟩:=xbm q
 obtain⟨x,rfl⟩:∃x,y=.str x:=by
  cases y with
  | str x=>exact⟨x,rfl⟩
  | _=>cases h2
 have h2:(if x.length<=16777216 then Z (fK x.length) else O)=Z d:=h2;split at h2
 .rename_i hz;cases h2;refine B9 (N7 aV6 hg hm bm4 (D7 (h ρ _ h1) J2 he) (he:=he)) λσ H Q ⟨H0,Hf,s,sl,k⟩=>?_
  refine⟨H0,Hf,s,sl,λv H1 Hf1 g1 r=>⟨x,?_,by rw[fe];exact hz,k _ H1 Hf1 g1 rfl⟩⟩;cases r;rfl
 .cases h2
noncomputable def Its(x:Str):It:=⟨λi _=>i < x.cps.size,λi H v H'=>H'=H/\∃c,x.cps[i]? = Z c/\v=.str ⟨#[c]⟩,λi _=>x.cps.size<=i⟩
def bF5{P:fh}{w:World}{K:ad}{tg:Expr}(x:Str)(t:Tok)(it:fT):Turn P w K tg (Its x) [it] it (λi h=>h.IsStrIter it "str_ascii_iterator" x t i) where
 mem:=by simp
 obj:=λi h st b hb=>by
  have e:b=it:=by simpa using hb
  subst e;obtain⟨o,e,c,d⟩:=st;exact⟨o,e,λv z=>by rw[d]at z;cases z⟩
 keep:=λi h h' st k=>by
  obtain⟨o,e,r⟩:=st;exact⟨o,k it (by simp) o e,r⟩
 item:=by
  intro X hP hw hK hc i pins s σ H E I hf st hg;subst hP hw hK;obtain⟨f0,f1,f2,f3,f4,f5⟩:=hf it (by simp);have hi:i < x.cps.size:=hg;refine wpAny_pyNext_ascii_item st (c:=x.cps[i]) (by simp[hi]) λh' st' sb=>?_
  have I1:Inv X pins σ H { s with heap:=h',toks:=s.toks+1 }:=I.turned (t':=s.toks+1) (λb o hb e=>(sb.2 b hb).trans e) f0 f1 f3 f4 f5;obtain⟨o,e,c,d⟩:=id st';exact⟨_,rfl,bs0 (s:={ s with heap:=h',toks:=s.toks+1 }) e c d (by decide) ⟨.str ⟨#[x.cps[i]]⟩,H,I1,⟨_,rfl⟩,⟨rfl,_,by simp[hi],rfl⟩,st',λb hb=>(hf b hb).1⟩⟩
 done:=by
  intro X hP hw hK hc i pins s σ H E I hf st hg;subst hP hw hK;obtain⟨f0,f1,f2,f3,f4,f5⟩:=hf it (by simp);have hi:x.cps.size<=i:=hg;exact wpAny_pyNext_ascii_end (I.ok.hd hc) st (by simp[hi]) λh' eb=>⟨rfl,I.turned (t':=s.toks) (λb o hb e=>eb b o hb e) f0 f1 f3 f4 f5⟩
 self:=λ_ _ _ _ _ st h=>wpAny_pyIter_striter_ascii st h
noncomputable def aY1(x:Str):List D:=x.cps.toList.map λc=>.str ⟨#[c]⟩
noncomputable def cj1(f:DE):Rho->Option (List D):=λρ=>(f ρ).bind λd=>match d with
 | .str x=>if x.cps.all (· < 128)=true then Z (aY1 x) else O
 | _=>O
def cE5{tg e:Expr}{f:DE}(h:JE X e f):JI X tg e (cj1 f):=λρ ds q=>by
 obtain⟨d,e1,e2⟩:=xbm q
 obtain⟨x,rfl⟩:∃x,d=.str x:=by
  cases d with
  | str x=>exact⟨x,rfl⟩
  | _=>cases e2
 have e2:(if x.cps.all (· < 128)=true then Z (aY1 x) else O)=Z ds:=e2;split at e2
 .rename_i ha;cases e2;intro pins s σ H R I ⟨H0,Hf,ss,sl,k⟩;refine thn (h ρ _ e1 pins s σ H (λv H'=>∃Hf',Grow H Hf H' Hf'/\v=.str x) I ⟨H0,Hf,ss,sl,λv H' Hf' g r=>⟨Hf',g,r⟩⟩) λv s1 ⟨y,H1,I1,r1,Hf1,g1,ey⟩=>?_
  subst ey;obtain⟨t,rfl⟩:=r1;refine wpAny_pyIter_ascii ha ?_;have I2:Inv X pins σ H1 { s1 with heap:=s1.heap.push { cls:=.type "str_ascii_iterator", data:=.fields #[.str x t,.int 0 0] } }:=I1.kept (t':=s1.toks) λb u e=>fF _ e
  refine⟨_,_,_,Its x,H1,rfl,I2,bF5 x t s1.heap.objs.size,⟨_,fH _ rfl,rfl,rfl⟩,λb hb=>?_,k _ H1 Hf1 g1 λi H' Hf' sa sb=>⟨λhi=>?_,λd hd=>?_⟩⟩
  .have hb':s1.heap.objs.size<=b:=by rw[au]at hb;rw[hb];exact ak _
   exact I1.fpOk hb'<|I1.hok.fresh hb'
  .show x.cps.size<=i;simpa [aY1] using hi
  .unfold aY1 at hd;rw[aI]at hd;obtain⟨c,c1,c2⟩:=xmo hd;have c1':x.cps[i]? = Z c:=by rw[← eQ];exact c1
   refine⟨(Array.getElem?_eq_some_iff.mp c1').1,λv H'' ⟨h1,c',h2,h3⟩=>?_⟩;subst h1 h3 c2;rw[c1']at h2;cases h2;exact⟨Hf',Grow.refl sb,rfl⟩
 .cases e2
end
end G
namespace G
open PySem PySem.Spec PyProof PyProof.Rows L2
section
variable {X:Cx}
noncomputable def mnF(m x:Int):Int:=if x < m then x else m
noncomputable def mxF(m x:Int):Int:=if x > m then x else m
noncomputable def mnL:List Int->Int
 | []=>0
 | a::r=>r.foldl mnF a
noncomputable def mxL:List Int->Int
 | []=>0
 | a::r=>r.foldl mxF a
theorem bq2:∀(l:List Int) (z:Int),(l.foldl mnF z=z\/l.foldl mnF z∈l)/\l.foldl mnF z<=z/\∀a∈l,l.foldl mnF z<=a
 | [],z=>⟨.inl rfl,Int.le_refl _,λa h=>by simp at h⟩
 | x::l,z=>by
  obtain⟨h1,h2,h3⟩:=bq2 l (mnF z x);rw[bA];have k:(mnF z x=z\/mnF z x=x)/\mnF z x<=z/\mnF z x<=x:=by unfold mnF;split<;>omega
  refine⟨?_,by omega,λa ha=>?_⟩
  .rcases h1 with h|h
   .rcases k.1 with q|q
    .left;rw[h,q]
    .right;rw[h,q];exact ae ..
   .right;exact xmm _ h
  .rcases am.mp ha with rfl|ha
   .omega
   .exact h3 a ha
theorem bq1:∀(l:List Int) (z:Int),(l.foldl mxF z=z\/l.foldl mxF z∈l)/\z<=l.foldl mxF z/\∀a∈l,a<=l.foldl mxF z
 | [],z=>⟨.inl rfl,Int.le_refl _,λa h=>by simp at h⟩
 | x::l,z=>by
  obtain⟨h1,h2,h3⟩:=bq1 l (mxF z x);rw[bA];have k:(mxF z x=z\/mxF z x=x)/\z<=mxF z x/\x<=mxF z x:=by unfold mxF;split<;>omega
  refine⟨?_,by omega,λa ha=>?_⟩
  .rcases h1 with h|h
   .rcases k.1 with q|q
    .left;rw[h,q]
    .right;rw[h,q];exact ae ..
   .right;exact xmm _ h
  .rcases am.mp ha with rfl|ha
   .omega
   .exact h3 a ha
def bM2(h:l≠[]):mnL l∈l/\∀a∈l,mnL l<=a:=by
 cases l with
 | nil=>exact absurd rfl h
 | cons x l =>
  obtain⟨h1,h2,h3⟩:=bq2 l x;refine⟨?_,λa ha=>?_⟩
  .rcases h1 with h|h
   .show l.foldl mnF x∈_;rw[h];exact ae ..
   .exact xmm _ h
  .rcases am.mp ha with rfl|ha
   .exact h2
   .exact h3 a ha
def aF4(h:l≠[]):mxL l∈l/\∀a∈l,a<=mxL l:=by
 cases l with
 | nil=>exact absurd rfl h
 | cons x l =>
  obtain⟨h1,h2,h3⟩:=bq1 l x;refine⟨?_,λa ha=>?_⟩
  .rcases h1 with h|h
   .show l.foldl mxF x∈_;rw[h];exact ae ..
   .exact xmm _ h
  .rcases am.mp ha with rfl|ha
   .exact h2
   .exact h3 a ha
noncomputable def aG5:List D->Option (List Int)
 | []=>Z []
 | .int i::r=>(aG5 r).map λys=>i::ys
 | _::_=>O
theorem ah8{K:ad}{H:Hp}:∀{ds:List D}{ys:List Int}{vs:List V},aG5 ds=Z ys->Reps K H ds vs->vs=ys.map V.int
 | [],ys,vs,h,r=>by cases h;exact r
 | .int x::ds,ys,vs,h,r=>by
  obtain⟨zs,h1,h2⟩:=xmo h;subst h2;obtain⟨v,t,e1,e2,e3⟩:=r;subst e1;rw[show v=_ from e2,ah8 h1 e3];rfl
theorem V3:∀{ys:List Int}{us:List fR},D8 (ys.map V.int) us->∃xs:List (Int×Tok),us=xs.map (λp=>.int p.1 p.2)/\xs.map (·.1)=ys
 | [],[],_=>⟨[],rfl,rfl⟩
 | y::ys,u::us,h=>by
  cases h with
  | cons a b =>
   obtain⟨xs,e1,e2⟩:=V3 b;obtain⟨t,rfl⟩:=a;exact⟨(y,t)::xs,by rw[e1];rfl,by rw[bK,e2]⟩
def bC6(hc:X.calm=true):U2 X (.builtin "min") (λxs H Q=>∃p ns,xs=[.ref p]/\SqL X.K H p (ns.map V.int)/\ns≠[]/\Q (.int<|mnL ns) H):=by
 intro pins s σ H xs us Q I r h;obtain⟨p,ns,rfl,hq,hz,q⟩:=h;obtain⟨u,rfl,rx⟩:=X2 r;cases rx;obtain⟨its,rv,pl,_⟩:=I.list hq;obtain⟨zs,e1,e2⟩:=V3 rv
 have hl:s.heap.IsList p (intItems zs.toArray):=by
  have:=pl.isList;rw[e1]at this;simpa [intItems] using this
 have hzs:zs.toArray.toList.map (·.1)=ns:=by simpa using e2
 have hn:0 < zs.toArray.size:=by
  cases zs with
  | nil=>exact absurd e2.symm hz
  | cons=>simp
 refine min_intList (I.ok.hd hc) hl hn λv h' tk hv hk=>?_
 obtain⟨t,rfl⟩:=intItems_at hv;obtain⟨b1,b2⟩:=argBest_lt (numAt zs.toArray)<|zs.toArray.size - 1
 have key:numAt zs.toArray (argBest (λi j=>decide (numAt zs.toArray i < numAt zs.toArray j))<|zs.toArray.size - 1)=mnL ns:=by
  obtain⟨m1,m2⟩:=bM2 hz;have g:∀j,j < zs.toArray.size->numAt zs.toArray j∈ns:=λj hj=>by rw[numAt_eq,hzs];exact getD_mem (by rw[← hzs,aj,aY];omega)
  refine eF ?_ (m2 _<|g _ (by omega));rw[← hzs]at m1;obtain⟨j,hj,e⟩:=mem_getD m1;rw[aj,aY]at hj;have:=b2 j (by omega);rw[numAt_eq zs.toArray j,e,hzs]at this;exact this
 rw[key];exact⟨.int _,H,I.kept (t':=tk) hk,⟨_,rfl⟩,q⟩
def cl4{zs:List (Int×Tok)}{ns:List Int}(hzs:zs.toArray.toList.map (·.1)=ns)(hz:ns≠[])(hn:0 < zs.toArray.size):numAt zs.toArray (argBest (λi j=>decide (numAt zs.toArray i > numAt zs.toArray j))<|zs.toArray.size - 1)=mxL ns:=by
 obtain⟨b1,b2⟩:=argBest_gt (numAt zs.toArray) (zs.toArray.size - 1);obtain⟨m1,m2⟩:=aF4 hz;have g:∀j,j < zs.toArray.size->numAt zs.toArray j∈ns:=λj hj=>by rw[numAt_eq,hzs];exact getD_mem (by rw[← hzs,aj,aY];omega)
 refine eF (m2 _<|g _ (by omega)) ?_;rw[← hzs]at m1;obtain⟨j,hj,e⟩:=mem_getD m1;rw[aj,aY]at hj;have:=b2 j (by omega);rw[numAt_eq zs.toArray j,e,hzs]at this;exact this
def bC8(hc:X.calm=true):U2 X (.builtin "max") (λxs H Q=>∃p ns,xs=[.ref p]/\SqT X.K H p (ns.map V.int)/\ns≠[]/\Q (.int<|mxL ns) H):=by
 intro pins s σ H xs us Q I r h;obtain⟨p,ns,rfl,hq,hz,q⟩:=h;obtain⟨u,rfl,rx⟩:=X2 r;cases rx;obtain⟨its,rv,pl,_⟩:=I.tuple hq;obtain⟨zs,e1,e2⟩:=V3 rv
 have hl:s.heap.IsTuple p (intItems zs.toArray):=by
  have:s.heap.IsTuple p its.toArray:=pl;rw[e1]at this;simpa [intItems] using this
 have hzs:zs.toArray.toList.map (·.1)=ns:=by simpa using e2
 have hn:0 < zs.toArray.size:=by
  cases zs with
  | nil=>exact absurd e2.symm hz
  | cons=>simp
 have hA:X.A.in1.handled=O:=I.ok.hd hc;obtain⟨o,ho,hcl,n,hd⟩:=hl;have lt:=fG ho;refine call_max_walk (wpAny_pyIter_tuple ⟨o,ho,hcl,n,hd⟩ ?_);refine⟨s.heap.objs.size,_,_,_,_,_,_,rfl,Walks.tuple hA s.heap.objs.size p (aE lt)<|intItems zs.toArray,⟨?_,⟨o,fF _ ho,hcl,n,hd⟩⟩,?_,by simpa [intItems] using hn,CmpOf.ints_gt (numAt zs.toArray) λi v hv=>intItems_at hv,λv h' tk hv hk=>?_⟩
 .exact⟨_,fH _ rfl,rfl,rfl⟩
 .intro b hb;simp only[am,aC,or_false]at hb;rw[Heap.size_push];rcases hb with rfl|rfl
  .exact cZ _
  .exact cI lt
 .obtain⟨t,rfl⟩:=intItems_at hv;have sz:(intItems zs.toArray).size=zs.toArray.size:=by simp[intItems]
  rw[sz,cl4 hzs hz hn]
  exact⟨.int _,H,I.kept (t':=tk) (λb o e=>hk b o (by
   simp only[am,aC,or_false]
   exact aE (fG e)) (fF _ e)),⟨_,rfl⟩,q⟩
def bC9(hc:X.calm=true):U2 X (.builtin "max") (λxs H Q=>∃p ns,xs=[.ref p]/\SqL X.K H p (ns.map V.int)/\ns≠[]/\Q (.int<|mxL ns) H):=by
 intro pins s σ H xs us Q I r h;obtain⟨p,ns,rfl,hq,hz,q⟩:=h;obtain⟨u,rfl,rx⟩:=X2 r;cases rx;obtain⟨its,rv,pl,_⟩:=I.list hq;obtain⟨zs,e1,e2⟩:=V3 rv
 have hl:s.heap.IsList p (intItems zs.toArray):=by
  have:=pl.isList;rw[e1]at this;simpa [intItems] using this
 have hzs:zs.toArray.toList.map (·.1)=ns:=by simpa using e2
 have hn:0 < zs.toArray.size:=by
  cases zs with
  | nil=>exact absurd e2.symm hz
  | cons=>simp
 refine max_intList (I.ok.hd hc) hl hn λv h' tk hv hk=>?_
 obtain⟨t,rfl⟩:=intItems_at hv;obtain⟨b1,b2⟩:=argBest_gt (numAt zs.toArray)<|zs.toArray.size - 1
 have key:numAt zs.toArray (argBest (λi j=>decide (numAt zs.toArray i > numAt zs.toArray j))<|zs.toArray.size - 1)=mxL ns:=by
  obtain⟨m1,m2⟩:=aF4 hz;have g:∀j,j < zs.toArray.size->numAt zs.toArray j∈ns:=λj hj=>by rw[numAt_eq,hzs];exact getD_mem (by rw[← hzs,aj,aY];omega)
  refine eF (m2 _<|g _ (by omega)) ?_;rw[← hzs]at m1;obtain⟨j,hj,e⟩:=mem_getD m1;rw[aj,aY]at hj;have:=b2 j (by omega);rw[numAt_eq zs.toArray j,e,hzs]at this;exact this
 rw[key];exact⟨.int _,H,I.kept (t':=tk) hk,⟨_,rfl⟩,q⟩
noncomputable def cV4(f:Rho->Option (Bool×List D)):DE:=λρ=>(f ρ).bind λq=>if q.1=true then O else(aG5 q.2).bind λns=>if ns=[] then O else Z (.int<|mnL ns)
noncomputable def bt2(f:Rho->Option (Bool×List D)):DE:=λρ=>(f ρ).bind λq=>(aG5 q.2).bind λns=>if ns=[] then O else Z (.int<|mxL ns)
def cX9(hg:Gl X "min")(hm:X.mg "min" = O)(h:JQ X e f)(hc:X.calm=true)(he:fb [e] X.env=[(false,eval e X.env)]):JE X (.Call (.Name "min" p) [e] [] pos) (cV4 f):=λρ d q=>by
 obtain⟨⟨t,ds⟩,h1,q⟩:=xbm q;split at q
 .cases q
 .rename_i ht;have ht:t=false:=by simpa using ht
  subst ht;obtain⟨ys,h2,q⟩:=xbm q;split at q
  .cases q
  .rename_i hz;cases q;refine B9 (N7 (bC6 hc) hg hm bW6 (D7 (h ρ false ds h1) J2 he) (he:=he)) λσ H Q ⟨H0,Hf,s,sl,k⟩=>?_
   refine⟨H0,Hf,s,sl,λv H1 Hf1 g1 ⟨a,vs,e1,e2,e3⟩=>⟨a,ys,by rw[e1],?_,hz,?_⟩⟩
   .rw[← ah8 h2 e3];exact e2
   .exact k _ _ _ g1 rfl
def ch0(hg:Gl X "max")(hm:X.mg "max" = O)(h:JQ X e f)(hc:X.calm=true)(he:fb [e] X.env=[(false,eval e X.env)]):JE X (.Call (.Name "max" p) [e] [] pos) (bt2 f):=λρ d q=>by
 obtain⟨⟨t,ds⟩,h1,q⟩:=xbm q;obtain⟨ys,h2,q⟩:=xbm q;split at q
 .cases q
 .rename_i hz;cases q;cases t with
  | false =>
   refine B9 (N7 (bC9 hc) hg hm bm3 (D7 (h ρ false ds h1) J2 he) (he:=he)) λσ H Q ⟨H0,Hf,s,sl,k⟩=>?_
   refine⟨H0,Hf,s,sl,λv H1 Hf1 g1 ⟨a,vs,e1,e2,e3⟩=>⟨a,ys,by rw[e1],?_,hz,?_⟩⟩
   .rw[← ah8 h2 e3];exact e2
   .exact k _ _ _ g1 rfl
  | true =>
   refine B9 (N7 (bC8 hc) hg hm bm3 (D7 (h ρ true ds h1) J2 he) (he:=he)) λσ H Q ⟨H0,Hf,s,sl,k⟩=>?_
   refine⟨H0,Hf,s,sl,λv H1 Hf1 g1 ⟨a,vs,e1,e2,e3⟩=>⟨a,ys,by rw[e1],?_,hz,?_⟩⟩
   .rw[← ah8 h2 e3];exact e2
   .exact k _ _ _ g1 rfl
end
end G
namespace G
open PySem PySem.Spec PyProof.Rows L2
section
open PySem.SeqAt PySem.MeetsSeq PySem.MeetsSeq2 PySem.MeetsSeq3 PySem.SeqRoads2
open PySem.AutoSeq1 (wpAny_loadPart')
def bg3(l:fT)(items:Array fR)(n:Nat)(dd:Option fT)(sl:Array (Option fR))(x:fR)(e:Nat->Bool)(j:Nat)(hj:j < items.size)(hit:e j=true)(hno:∀m,m < j->e m=false):
  Meets (Builtin.«tuple.index» ⟨[.ref l,x],[]⟩)
   (λA R s=>s.heap.get? l=Z { cls:=.type "tuple", dict:=dd,data:=.seq items n,slots:=sl }/\(∀j (h:j < items.size),EqAt A.in1 s items[j] x (e j))/\R (.ok<|.ret (.int j s.toks)) { s with toks:=s.toks+1 }) :=
 .of_wp λprog w A R s h=>by
  obtain⟨hp,g,d,tk,os⟩:=s;obtain⟨hl,he,h⟩:=h;unfold Builtin.«tuple.index»;simp only[Std.Legacy.Range.forIn_eq_forIn_range']
  wp_walk using wpAny_loadPart' hl,wpAny_forIn_list _ (λG9 b s'=>b.1=O/\s'=⟨hp,g,d,tk,os⟩/\∃i,i<=j/\G9=List.range' i (items.size - i)) _
  case turn =>
   rintro y G9 b s' ⟨hb,rfl,i,hij,hz⟩
   obtain⟨m,hm⟩:∃m,items.size - i=m+1:=⟨items.size - i - 1,by grind⟩;rw[hm,dO]at hz;injection hz with hy hrest
   subst hy;have hi:y < items.size:=by grind
   have e1:items[y]? = Z items[y]:=by simp[hi]
   rw[e1];refine eS (he y hi prog w _ _ ?_);rcases bL y j with q|q
   .rw[hno y q]
    wp_walk
    exact⟨rfl,rfl,y+1,q,by rw[hrest];congr 1;grind⟩
   .have:y=j:=by grind
    subst this;rw[hit]
    wp_walk
    exact⟨_,rfl,h⟩
  case fin =>
   rintro⟨b1,b2⟩ s' ⟨hb,rfl,i,hij,hz⟩
   exfalso
   have:items.size - i=0:=by
    cases q:items.size - i with
    | zero=>rfl
    | succ m=>rw[q,dO]at hz;cases hz
   grind
  case h =>
   refine⟨rfl,rfl,0,aO _,?_⟩;simp[Std.Legacy.Range.size]
end
section
variable {X:Cx}
noncomputable def da1(X:Cx)(ds:List D)(x:D)(j:Nat):V->List V->Hp->VK->Prop:=λvt vs H Q=>∃Hf vx,vs=[vx]/\E8 Hf H/\Rep X.K Hf (.tuple ds) vt/\Rep X.K Hf x vx/\Q (.int j) H
def bL9(hu:X.A.units+64 < cLine)(sx:fI x=true)(dx:x.depth<=60)(sd:ds.all fI=true)(hj:ds.findIdx? (λy=>fJ y x)=Z j):MtR X "tuple.index" (da1 X ds x j):=by
 intro pins s σ H vt vs v us Q I rt rv ⟨Hf,vx,e,ss,r1,r2,q⟩;subst e;obtain⟨u,rfl,rx⟩:=X2 rv;obtain⟨p,ws,rfl,h2,h3⟩:=r1;obtain rfl:v=fO p:=rt;obtain⟨its,pl,ln,he⟩:=bo1 hu sx dx sd I rx ss r2 h2 h3;obtain⟨⟨cls,dd,data,sl⟩,ho,hc,n,hd⟩:=id pl;simp only at hc hd;subst hc hd;obtain⟨h1,h4,h5⟩:=cj.mp hj;refine fw F.slot_tuple_index ⟨_,ho,rfl⟩ F.entry_tuple_index (F.args_tuple_index_2 _ _) (bg3 p its.toArray n dd sl u (λm=>fJ (ds.getD m .none) x) j (by rw[aw,ln];exact h1) (by simpa [h1] using h4) λm hm=>?_) ⟨ho,he,.int j,H,I.tok _,⟨_,rfl⟩,q⟩;have hm':m < ds.length:=by omega
 have:=h5 m hm;simpa [hm'] using this
def cx8{o e:Expr}{to:TE}{t:TA}{name:Str}{apos cpos:Pos}{id:String}{r:V->List V->Hp->VK->Prop}(slot:Slot "tuple" name id)(hty:typeOf (.builtin id)=pure (.type "method_descriptor"))(hm:MtR X id r)(ho:PE X o to)(ha:PA X [e] t)
  (hbase:fB o name X.env (eval o X.env)=eval o X.env)
  (hfew:((backTo cpos<|fb [e] X.env).all (λx=>!x.1)&&(backToKw cpos<|keywordEach [] X.env).all (λx=>x.1.isSome)&&decide (([e]:List Expr).length+([]:List fq).length+(if([]:List fq).isEmpty then 0 else 1) < 30))=true)
  (hline:(apos.endLine==cpos.line)=true) (hs:fb [e] X.env=[(false,eval e X.env)]) :
  PE X (.Call (.Attribute o name apos) [e] [] cpos) (λσ H Q=>to σ H λx H1=>(∃p xs,x=.ref p/\SqT X.K H1 p xs)/\t σ H1 λxs H2=>r x xs H2 Q):=by
 intro pins s σ H Q I h;refine wpAny_Call_method_late hbase hfew hline rfl (thn (ho pins s σ H _ I h) λv s1 ⟨x,H1,I1,r1,⟨p,xs,e1,e2⟩,q1⟩=>?_);subst e1;obtain rfl:v=fO p:=r1;obtain⟨its,_,⟨ob,g1,g2,_,g4⟩,_⟩:=I1.tupN e2;refine⟨"tuple", id,F.plainAttrs_tuple,slot,hty,⟨ob,g1,g2⟩,λa ea=>?_,?_⟩
 .cases ea;exact⟨ob,g1,g4⟩
 have hA:=ha cpos pins s1 σ H1 _ I1 q1;rw[hs]at hA ⊢;refine Calls.callWith_builtin (by rfl) (Calls.evalArgs_plain ?_);exact thn hA λus s2 ⟨vs,H2,I2,r2,q2⟩=>hm pins s2 σ H2 (.ref p) vs (.ref p) us Q I2 rfl r2 q2
noncomputable def bV3(f g:DE):DE:=λρ=>(f ρ).bind λt=>(g ρ).bind λx=>match t with
 | .tuple ds=>if fI x=true/\x.depth<=60/\ds.all fI=true then(ds.findIdx? λy=>fJ y x).map (λ(j:Nat)=>fK (j:Int)) else O
 | _=>O
def bP3(hu:X.A.units+64 < cLine)(ho:JE X o f)(h:JE X e g)(hbase:fB o "index" X.env (eval o X.env)=eval o X.env)
  (hfew:((backTo cpos<|fb [e] X.env).all (λx=>!x.1)&&(backToKw cpos<|keywordEach [] X.env).all (λx=>x.1.isSome)&&decide (([e]:List Expr).length+([]:List fq).length+(if([]:List fq).isEmpty then 0 else 1) < 30))=true)
  (hline:(apos.endLine==cpos.line)=true) (hs:fb [e] X.env=[(false,eval e X.env)]):JE X (.Call (.Attribute o "index" apos) [e] [] cpos) (bV3 f g):=λρ d q=>by
 obtain⟨t,e1,q⟩:=xbm q;obtain⟨x,e2,q⟩:=xbm q;cases t with
 | tuple ds =>
  simp only at q;split at q
  .rename_i c;obtain⟨j,hj,rfl⟩:=xmo q;refine B9 (cx8 F.slot_tuple_index F.type_tuple_index (bL9 hu c.1 c.2.1 c.2.2 hj) (ho ρ _ e1) (D7 (h ρ _ e2) J2 hs) hbase hfew hline hs) λσ H Q ⟨H0,Hf,s,sl,k⟩=>?_
   refine⟨H0,Hf,s,sl,λv H1 Hf1 g1 r1=>?_⟩;have r1':=r1;obtain⟨p,vs,rfl,h2,h3⟩:=r1;refine⟨⟨p,vs,rfl,D1 g1.sub h2⟩,H0,Hf1,g1.sub,sl.grow g1,λw H2 Hf2 g2 r2=>?_⟩;exact⟨Hf2,w,rfl,g2.sub,r1'.mono g2.ext,r2,k _ H2 Hf2 (g1.trans g2) rfl⟩
  .cases q
 | _=>cases q
end
section
variable {X:Cx}
noncomputable def flV:fR->D
 | .bool b=>.bool b
 | .int i _=>.int i
 | .str x _=>.str x
 | _=>.none
def cI3(f:K0 d=true)(r:E4 (toV d) y):flV y=d:=by
 cases d with
 | none=>cases r;rfl
 | bool b=>cases r;rfl
 | int i=>obtain⟨t,rfl⟩:=r;rfl
 | str x=>obtain⟨t,rfl⟩:=r;rfl
 | tuple _=>cases f
 | list _=>cases f
 | dict _=>cases f
theorem bs5:∀{ds:List D}{its:List fR},ds.all K0=true->D8 (ds.map toV) its->its.map flV=ds
 | [],its,_,r=>by cases r;rfl
 | d::ds,its,f,r=>by
  rw[bE,ar]at f;cases r with
  | cons r1 r2=>rw[bK,cI3 f.1 r1,bs5 f.2 r2]
def ce6(hu:X.A.units+64 < cLine)(sx:fI x=true)(dx:x.depth<=60)(sd:ds.all fI=true)(fd:ds.all K0=true)(I:L2.Inv X pins σ H s)(rx:E4 vx v)(ss:E8 Hf H)(r1:Rep X.K Hf x vx)(h2:SqL X.K Hf p vs)(h3:Reps X.K Hf ds vs):
  ∃its:List fR,PlainL s.heap p its.toArray/\its.map flV=ds/\its.length<=fc/\∀y∈its.toArray,SeqAt.EqAt X.A.in1 s y v (fJ (flV y) x):=by
 obtain⟨its,rv,pl,hz⟩:=I.list (G1 ss h2);have hz':its.length<=fc:=by rw[← rv.length];exact hz
 obtain⟨as,rd⟩:=Rep.reads I (r1.mono ss) rx;obtain⟨bs,ra⟩:=Reps.reads I (h3.mono ss) rv;obtain⟨e1,e2⟩:=cv8 ra
 have fm:its.map flV=ds:=by
  obtain⟨e,_⟩:=ah9 fd h3;subst e;exact bs5 fd rv
 refine⟨its,pl,fm,hz',λy hy=>?_⟩;obtain⟨j,hj,rfl⟩:=List.getElem_of_mem (List.mem_toArray.mp hy);obtain⟨cs,q⟩:=e2 j hj;have hd:j < ds.length:=by grind
 have sj:=bt.mp sd _<|aT hd
 have ej:flV its[j]=ds[j]:=by
  have:(its.map flV)[j]'(by simpa using hj)=ds[j]:=by simp only[fm]
  rwa [List.getElem_map]at this
 have eg:ds.getD j .none=ds[j]:=by simp[hd]
 rw[eg]at q;rw[ej];have:=SeqAt.eqAt_reads ds[j] x X.A.in1 s _ _ _ _ q rd (SeqAt.canLay_of_shaped sj) (SeqAt.canLay_of_shaped sx) (by show X.A.units+1+_ < _;have:=dL ds[j].depth x.depth;grind);simpa using this
noncomputable def cO9(X:Cx)(ds:List D)(x z:D):V->List V->Hp->VK->Prop:=λvt vs H Q=>∃Hf vx,vs=[vx]/\E8 Hf H/\Rep X.K Hf (.list ds) vt/\Rep X.K Hf x vx/\∀v,Rep X.K Hf z v->Q v H
def bx9(hu:X.A.units+64 < cLine){ds:List D}{x:D}{j:Nat}(sx:fI x=true)(dx:x.depth<=60)(sd:ds.all fI=true)(fd:ds.all K0=true)(hj:ds.findIdx? (λy=>fJ y x)=Z j):MtR X "list.index" (cO9 X ds x<|.int j):=by
 intro pins s σ H vt vs v us Q I rt rv ⟨Hf,vx,e,ss,r1,r2,q⟩;subst e;obtain⟨u,rfl,rx⟩:=X2 rv;obtain⟨p,ws,rfl,h2,h3⟩:=r1;obtain rfl:v=fO p:=rt;obtain⟨its,pl,fm,hz,he⟩:=ce6 hu sx dx sd fd I rx ss r2 h2 h3;obtain⟨⟨cls,dd,data,sl⟩,n,ho,hc,hd0,hd⟩:=pl;simp only at hc hd hd0;subst hc hd hd0;obtain⟨h1,h4,h5⟩:=cj.mp hj;have ln:its.length=ds.length:=by rw[← fm,aj]
 have ej:∀(m:Nat) (hm:m < its.length),flV its[m]=ds[m]'(by grind):=λm hm=>by
  have:(its.map flV)[m]'(by simpa using hm)=ds[m]'(by grind):=by simp only[fm]
  rwa [List.getElem_map]at this
 have hn:=am2;refine fw F.slot_list_index ⟨_,ho,rfl⟩ F.entry_list_index (F.args_list_index_2 _ _) (SeqAt.list_indexAt p its.toArray n O sl u (λy=>fJ (flV y) x) j (by rw[aw];grind) (by grind) (by simpa [ej j (by grind)] using h4) λm hm hmj=>?_) ⟨ho,he,.int j,H,I.tok _,⟨_,rfl⟩,q _ rfl⟩;have hm':m < its.length:=by simpa using hm
 have:=h5 m hmj;simpa [ej m hm'] using this
def cx9{o e:Expr}{to:TE}{t:TA}{name:Str}{apos cpos:Pos}{id:String}{r:V->List V->Hp->VK->Prop}(slot:Slot "list" name id)(hty:typeOf (.builtin id)=pure (.type "method_descriptor"))(hm:MtR X id r)(ho:PE X o to)(ha:PA X [e] t)
  (hbase:fB o name X.env (eval o X.env)=eval o X.env)
  (hfew:((backTo cpos<|fb [e] X.env).all (λx=>!x.1)&&(backToKw cpos<|keywordEach [] X.env).all (λx=>x.1.isSome)&&decide (([e]:List Expr).length+([]:List fq).length+(if([]:List fq).isEmpty then 0 else 1) < 30))=true)
  (hline:(apos.endLine==cpos.line)=true) (hs:fb [e] X.env=[(false,eval e X.env)]) :
  PE X (.Call (.Attribute o name apos) [e] [] cpos) (λσ H Q=>to σ H λx H1=>(∃p xs,x=.ref p/\SqL X.K H1 p xs)/\t σ H1 λxs H2=>r x xs H2 Q):=by
 intro pins s σ H Q I h;refine wpAny_Call_method_late hbase hfew hline rfl (thn (ho pins s σ H _ I h) λv s1 ⟨x,H1,I1,r1,⟨p,xs,e1,e2⟩,q1⟩=>?_);subst e1;obtain rfl:v=fO p:=r1;obtain⟨its,_,⟨ob,n,g1,g2,g4,_⟩,_⟩:=I1.list e2;refine⟨"list", id,F.plainAttrs_list,slot,hty,⟨ob,g1,g2⟩,λa ea=>?_,?_⟩
 .cases ea;exact⟨ob,g1,g4⟩
 have hA:=ha cpos pins s1 σ H1 _ I1 q1;rw[hs]at hA ⊢;refine Calls.callWith_builtin (by rfl) (Calls.evalArgs_plain ?_);exact thn hA λus s2 ⟨vs,H2,I2,r2,q2⟩=>hm pins s2 σ H2 (.ref p) vs (.ref p) us Q I2 rfl r2 q2
noncomputable def lsB(x:D)(ds:List D):Prop:=fI x=true/\x.depth<=60/\ds.all fI=true/\ds.all K0=true
instance (x:D) (ds:List D):Decidable (lsB x ds):=by unfold lsB;exact inferInstance
noncomputable def dc7(f g:DE):DE:=λρ=>(f ρ).bind λt=>(g ρ).bind λx=>match t with
 | .list ds=>if lsB x ds then Z (.int<|ds.countP λy=>fJ y x) else O
 | _=>O
noncomputable def bt4(f g:DE):DE:=λρ=>(f ρ).bind λt=>(g ρ).bind λx=>match t with
 | .list ds=>if lsB x ds then(ds.findIdx? λy=>fJ y x).map (λ(j:Nat)=>fK (j:Int)) else O
 | _=>O
def ch4{o e:Expr}{f g:DE}{name:Str}{id:String}{apos cpos:Pos}{ρ:Rho}{ds:List D}{x z:D}(slot:Slot "list" name id)(hty:typeOf (.builtin id)=pure (.type "method_descriptor"))(hm:MtR X id (cO9 X ds x z))(ho:JE X o f)(h:JE X e g)(hz:∀Hf Hf' v,Rep X.K Hf z v->Rep X.K Hf' z v)(e1:f ρ=Z (.list ds))(e2:g ρ=Z x)(hbase:fB o name X.env (eval o X.env)=eval o X.env)
  (hfew:((backTo cpos<|fb [e] X.env).all (λx=>!x.1)&&(backToKw cpos<|keywordEach [] X.env).all (λx=>x.1.isSome)&&decide (([e]:List Expr).length+([]:List fq).length+(if([]:List fq).isEmpty then 0 else 1) < 30))=true)
  (hline:(apos.endLine==cpos.line)=true) (hs:fb [e] X.env=[(false,eval e X.env)]):PE X (.Call (.Attribute o name apos) [e] [] cpos) (tJ X.K ρ λ_ v _ Hf=>Rep X.K Hf z v):=by
 refine B9 (cx9 slot hty hm (ho ρ _ e1) (D7 (h ρ _ e2) J2 hs) hbase hfew hline hs) λσ H Q ⟨H0,Hf,s,sl,k⟩=>?_
 refine⟨H0,Hf,s,sl,λv H1 Hf1 g1 r1=>?_⟩;have r1':=r1;obtain⟨p,vs,rfl,h2,h3⟩:=r1;refine⟨⟨p,vs,rfl,G1 g1.sub h2⟩,H0,Hf1,g1.sub,sl.grow g1,λw H2 Hf2 g2 r2=>?_⟩;exact⟨Hf2,w,rfl,g2.sub,r1'.mono g2.ext,r2,λv rv=>k _ H2 Hf2 (g1.trans g2) rv⟩
def bz0{o e:Expr}{f g:DE}{apos cpos:Pos}(hu:X.A.units+64 < cLine)(ho:JE X o f)(h:JE X e g)(hbase:fB o "index" X.env (eval o X.env)=eval o X.env)
  (hfew:((backTo cpos<|fb [e] X.env).all (λx=>!x.1)&&(backToKw cpos<|keywordEach [] X.env).all (λx=>x.1.isSome)&&decide (([e]:List Expr).length+([]:List fq).length+(if([]:List fq).isEmpty then 0 else 1) < 30))=true)
  (hline:(apos.endLine==cpos.line)=true) (hs:fb [e] X.env=[(false,eval e X.env)]):JE X (.Call (.Attribute o "index" apos) [e] [] cpos) (bt4 f g):=λρ d q=>by
 obtain⟨t,e1,q⟩:=xbm q;obtain⟨x,e2,q⟩:=xbm q;cases t with
 | list ds =>
  simp only at q;split at q
  .rename_i c;obtain⟨j,hj,rfl⟩:=xmo q;exact ch4 F.slot_list_index F.type_list_index (bx9 hu c.1 c.2.1 c.2.2.1 c.2.2.2 hj) ho h (λ_ _ _ r=>r) e1 e2 hbase hfew hline hs
  .cases q
 | _=>cases q
noncomputable def ar6(f g:DE):DE:=λρ=>match f ρ with
 | some (.list _)=>bt4 f g ρ
 | _=>bV3 f g ρ
def bz1(hu:X.A.units+64 < cLine)(ho:JE X o f)(h:JE X e g)(hbase:fB o "index" X.env (eval o X.env)=eval o X.env)
  (hfew:((backTo cpos<|fb [e] X.env).all (λx=>!x.1)&&(backToKw cpos<|keywordEach [] X.env).all (λx=>x.1.isSome)&&decide (([e]:List Expr).length+([]:List fq).length+(if([]:List fq).isEmpty then 0 else 1) < 30))=true)
  (hline:(apos.endLine==cpos.line)=true) (hs:fb [e] X.env=[(false,eval e X.env)]):JE X (.Call (.Attribute o "index" apos) [e] [] cpos) (ar6 f g):=λρ d q=>by
 unfold ar6 at q;split at q
 .exact bz0 hu ho h hbase hfew hline hs ρ d q
 .exact bP3 hu ho h hbase hfew hline hs ρ d q
end
end G
namespace L2
open PySem PySem.Spec PyProof.Rows
section
variable {κ:Type} [DecidableEq κ]
noncomputable def ao1(kvs:List (κ×V))(k:κ):Option V:=(kvs.find? λkv=>decide (kv.1=k)).map (·.2)
noncomputable def aj3(kvs:List (κ×V))(k:κ)(v:V):List (κ×V) :=
 if(kvs.any λkv=>decide (kv.1=k))=true then kvs.map (λkv=>if kv.1=k then(kv.1,v) else kv) else kvs++[(k,v)]
def aD1{p:κ×V}{r:List (κ×V)}{k:κ}(e:p.1=k):ao1 (p::r) k=Z p.2:=by simp[ao1,bB,e]
def aD2{p:κ×V}{r:List (κ×V)}{k:κ}(e:¬p.1=k):ao1 (p::r) k=ao1 r k:=by simp[ao1,bB,e]
def ay6(kvs:List (κ×V))(k:κ)(v:V):(aj3 kvs k v).length<=kvs.length+1:=by
 unfold aj3;split
 .rw[aj];grind
 .rw[ah,aH,dq];grind
def av6.isSome_eq{o:Option V}{u:Option fR}(r:av6 o u):o.isSome=u.isSome:=by
 cases o with
 | none=>cases u with
  | none=>rfl
  | some _=>exact(show False from r).elim
 | some _=>cases u with
  | none=>exact(show False from r).elim
  | some _=>rfl
theorem av6.getD{o:Option V}{u:Option fR}{d:V}{d':fR}(r:av6 o u)(rd:E4 d d'):E4 (o.getD d) (u.getD d'):=by
 cases o with
 | none=>cases u with
  | none=>exact rd
  | some _=>exact(show False from r).elim
 | some _=>cases u with
  | none=>exact(show False from r).elim
  | some _=>exact r
def KV.val{kvs:List (κ×V)}{vs:List (κ×fR)}(r:KV kvs vs)(k:κ):av6 (ao1 kvs k) (valueAt vs k):=by
 unfold KV at r
 induction r with
 | nil=>exact True.intro
 | @cons p q ps qs h t ih =>
  obtain⟨h1,h2⟩:=h;by_cases e:p.1=k
  .have e':q.1=k:=h1.symm.trans e;have b:valueAt (q::qs) k=Z q.2:=by simp[valueAt,bB,e']
   rw[aD1 e,b];exact h2
  .have e':¬q.1=k:=λz=>e (h1.trans z)
   have b:valueAt (q::qs) k=valueAt qs k:=by simp[valueAt,bB,e']
   rw[aD2 e,b];exact ih
theorem KV.any{kvs:List (κ×V)}{vs:List (κ×fR)}(r:KV kvs vs)(k:κ):(kvs.any λkv=>decide (kv.1=k))=vs.any λkv=>decide (kv.1=k):=by
 unfold KV at r
 induction r with
 | nil=>rfl
 | cons h t ih=>rw[bF,bF,ih,h.1]
def KV.repl{kvs:List (κ×V)}{vs:List (κ×fR)}(r:KV kvs vs)(k:κ){y:V}{u:fR}(ry:E4 y u):
  KV (kvs.map λkv=>if kv.1=k then(kv.1,y) else kv) (vs.map λkv=>if kv.1=k then(kv.1,u) else kv):=by
 unfold KV at r ⊢
 induction r with
 | nil=>exact .nil
 | @cons p q ps qs h t ih =>
  rw[bK,bK];refine .cons ?_ ih;obtain⟨h1,h2⟩:=h;by_cases e:p.1=k
  .rw[if_pos e,if_pos (h1.symm.trans e)];exact⟨h1,ry⟩
  .rw[if_neg e,if_neg (λz=>e<|h1.trans z)];exact⟨h1,h2⟩
def KV.put{kvs:List (κ×V)}{vs:List (κ×fR)}(r:KV kvs vs)(k:κ){y:V}{u:fR}(ry:E4 y u):KV (aj3 kvs k y) (stored vs k u):=by
 unfold aj3 stored;rw[r.any k];by_cases e:(vs.any λkv=>decide (kv.1=k))=true
 .rw[if_pos e,if_pos e];exact r.repl k ry
 .rw[if_neg e,if_neg e];exact Paired.snoc r ⟨rfl,ry⟩
end
def aN5{P:fh}{w:World}{k:Key}{u:fR}(r:E4 (kV k) u):(G2 P w).is k u=true:=by
 cases k with
 | inl i=>obtain⟨t,e⟩:=(show ∃t,u=Value.int i t from r);subst e;exact ba3 P w i t
 | inr x=>obtain⟨t,e⟩:=(show ∃t,u=Value.str x t from r);subst e;exact ay4 P w x t
theorem aN8{P:fh}{w:World}:∀{ks:List Key}{us:List fR},D8 (ks.map kV) us->ItemsAre (G2 P w) ks us
 | [],_,r=>by rw[List.map_nil]at r;cases r;exact .nil
 | k::ks,_,r=>by
  rw[bK]at r;cases r with
  | cons h t=>exact .cons (aN5 h)<|aN8 t
noncomputable abbrev KT(H:Hp):List (List Key×V)->List (List Key×fT×fR)->Prop:=Paired λp q=>p.1=q.1/\H q.2.1=Z (.tup<|p.1.map kV)/\E4 p.2 q.2.2
def KT.val{H:Hp}{kvs:List (List Key×V)}{xs:List (List Key×fT×fR)}(r:KT H kvs xs)(k:List Key):av6 (ao1 kvs k) ((atKey xs k).map (·.2)):=by
 induction r with
 | nil=>exact True.intro
 | @cons p q ps qs h t ih =>
  obtain⟨h1,_,h2⟩:=h;by_cases e:p.1=k
  .have e':q.1=k:=h1.symm.trans e;have b:atKey (q::qs) k=Z q.2:=by simp[atKey,bB,e']
   rw[aD1 e,b];exact h2
  .have e':¬q.1=k:=λz=>e (h1.trans z)
   have b:atKey (q::qs) k=atKey qs k:=by simp[atKey,bB,e']
   rw[aD2 e,b];exact ih
section
variable {P:Program}{w:World}{H:Hp}{h:Heap}{a:Addr}
def cn6{u:HO}(ok:HOk P w H h)(e:Rd H a u):P9 P w H h a u:=e.ok ok
def aH3{kvs:List (Key×V)}(ok:HOk P w H h)(e:Rd H a (.dK kvs)):kvs.length<=fc/\(a==sysModules)=false/\∃vs,KV kvs vs/\h.DictOf (G2 P w) a vs :=
 show P9 P w H h a (.dK kvs) from cn6 ok e
def cV2{kvs:List (Key×V)}(ok:HOk P w H h)(e:H a=Z (.dK kvs)):kvs.length<=fc/\(a==sysModules)=false/\∃vs,KV kvs vs/\h.DictOf (G2 P w) a vs:=aH3 ok<|.inl e
def aF8{ks:List Key}(ok:HOk P w H h)(e:H a=Z (.tup<|ks.map kV)):(tupleKind<|G2 P w).is h ks a:=by
 obtain⟨_,its,r,o,h1,h2,⟨n,h3⟩,_⟩:=(show P9 P w H h a (.tup<|ks.map kV) from ok a _ e);exact⟨o,its.toArray,n,h1,h2,h3,by simpa using aN8 r⟩
def aO3{kvs:List (List Key×V)}(ok:HOk P w H h)(e:Rd H a (.dT kvs)):kvs.length<=fc/\(a==sysModules)=false /\
  ∃xs,KT H kvs xs/\h.DictOfH (tupleKind<|G2 P w) a xs:=by
 obtain⟨z,y,xs,r,o,es,ep,h1,h2,h3,h4,h5⟩:=(show P9 P w H h a (.dT kvs) from cn6 ok e);refine⟨z,y,xs,r,o,es,ep,h1,h2,h3,h4,λx hx=>?_,h5⟩
 have all:∀{l:List (List Key×V)}{m:List (List Key×fT×fR)},KT H l m->∀x∈m,(tupleKind<|G2 P w).is h x.1 x.2.1:=by
  intro l m q
  induction q with
  | nil=>intro x hx;exact nomatch hx
  | @cons p q ps qs hq t ih =>
   intro x hx;rcases am.mp hx with e|hx
   .subst e;exact aF8 ok (by rw[← hq.1];exact hq.2.1)
   .exact ih x hx
 exact all r x hx
end
noncomputable def aw9(H:Hp)(a:fT)(y:V)(r:Option V):Prop :=
 (∃kvs k,Rd H a (.dK kvs)/\y=kV k/\r=ao1 kvs k)\/∃kvs k b,Rd H a (.dT kvs)/\y=.ref b/\H b=Z (.tup<|k.map kV)/\r=ao1 kvs k
theorem aw9.k{H:Hp}{a:fT}{kvs:List (Key×V)}{k:Key}(e:H a=Z (.dK kvs)):aw9 H a (kV k) (ao1 kvs k):=.inl ⟨kvs,k,.inl e,rfl,rfl⟩
section
variable {X:Cx}{pins:List (Addr×Obj)}{σ:St}{H:Hp}{s:Shared}{a:Addr}{y v:V}{u r:Value}{o:Option V}{A:Around}{E:Value->Shared->Prop}
def Inv.big(I:Inv X pins σ H s):sysModules < s.heap.objs.size:=by
 have h:fg < s.heap.objs.size:=(I.mod.glob.keeps I.bk).lt;exact dR (by decide) h
def bB9{Q:fR->fS->Prop}(hu:A.units+1 < cLine)(I:Inv X pins σ H s)(g:aw9 H a y (Z v))(ry:E4 y u)(h:∀w' s',Inv X pins σ H s'->E4 v w'->Q w' s'):
  fD (fE X.prog X.w) A (getItem (.ref a) u) Q E s:=by
 rcases g with⟨kvs,k,e,ey,l⟩|⟨kvs,k,b,e,ey,eb,l⟩
 .subst ey;obtain⟨z,hd,vs,rel,dd⟩:=aH3 I.hok e;obtain⟨w',hw,rw'⟩:=av6.some_of (v:=v) (o:=valueAt vs k) (by rw[l];exact rel.val k);exact wpAny_getItem_of (aN5 ry) dd.mapOf hw<|h w' _ (I.tok _) rw'
 .subst ey;cases(show u=fO b from ry);obtain⟨z,hd,xs,rel,dd⟩:=aO3 I.hok e;obtain⟨w',hw,rw'⟩:=av6.some_of (v:=v) (o:=(atKey xs k).map (·.2)) (by rw[l];exact rel.val k);obtain⟨p,hp,hp2⟩:=xmo hw;refine wpAny_getItem_heap (tupleKind_room_in1 hu) (aF8 I.hok eb) dd hp ?_;rw[hp2];exact h w' _ (I.tok _) rw'
def dc6{Q:fR->fS->Prop}(hu:A.units+1 < cLine)(I:Inv X pins σ H s)(g:aw9 H a y o)(ry:E4 y u)(h:∀s',Inv X pins σ H s'->Q (.bool o.isSome) s'):
  fD (fE X.prog X.w) A (ff .In u<|.ref a) Q E s:=by
 rcases g with⟨kvs,k,e,ey,l⟩|⟨kvs,k,b,e,ey,eb,l⟩
 .subst ey;obtain⟨z,hd,vs,rel,dd⟩:=aH3 I.hok e;refine wpAny_in_of (aN5 ry) hd dd.mapOf ?_;rw[← (rel.val k).isSome_eq,← l];exact h _<|I.tok _
 .subst ey;cases(show u=fO b from ry);obtain⟨z,hd,xs,rel,dd⟩:=aO3 I.hok e;refine wpAny_in_heap (tupleKind_room_in1 hu) (aF8 I.hok eb) hd dd ?_;have q:=(rel.val k).isSome_eq;rw[dE]at q;rw[← q,← l];exact h _<|I.tok _
def ck5{Q:fR->fS->Prop}(hu:A.units+1 < cLine)(I:Inv X pins σ H s)(g:aw9 H a y o)(ry:E4 y u)(h:∀s',Inv X pins σ H s'->Q (.bool (!o.isSome)) s'):
  fD (fE X.prog X.w) A (ff .NotIn u<|.ref a) Q E s:=by
 rcases g with⟨kvs,k,e,ey,l⟩|⟨kvs,k,b,e,ey,eb,l⟩
 .subst ey;obtain⟨z,hd,vs,rel,dd⟩:=aH3 I.hok e;refine wpAny_notIn_of (aN5 ry) hd dd.mapOf ?_;rw[← (rel.val k).isSome_eq,← l];exact h _<|I.tok _
 .subst ey;cases(show u=fO b from ry);obtain⟨z,hd,xs,rel,dd⟩:=aO3 I.hok e;refine wpAny_notIn_heap (tupleKind_room_in1 hu) (aF8 I.hok eb) hd dd ?_;have q:=(rel.val k).isSome_eq;rw[dE]at q;rw[← q,← l];exact h _<|I.tok _
def ck4{h':Heap}{t':Nat}{ob:HO}(I:Inv X pins σ H s)(mu:Mut (H a))(hs:Heap.SameBut a s.heap h')(he:∃q,h'.get? a=Z q)(new:P9 X.prog X.w (upd H a ob) h' a ob):
  Inv X pins σ (upd H a ob) { s with heap:=h',toks:=t' } :=
 I.write (x:=a) (e:=a) mu (.inl rfl) (λb q hb z=>(hs.2 b hb).trans z) he new
def bT6{P:fh}{w:World}{H':Hp}{h':Heap}{kvs:List (Key×V)}{vs:List (Key×fR)}(z:kvs.length<=fc)(hd:(a==sysModules)=false)(rel:KV kvs vs)(dd:h'.DictOf (G2 P w) a vs):
  P9 P w H' h' a (.dK kvs):=⟨z,hd,vs,rel,dd⟩
end
noncomputable def cX8(i:Expr):Prop:=∀ov iv,subscripted i false ov iv=operate [ov,iv] (getItem ov iv)
def bZ0{prog:fh}{w:World}{A:fi}{E:fR->fS->Prop}{s:fS}{env:Env}{value slice:Expr}{pos:Pos}{T id:String}{Q:fR->fS->Prop}
  (hl:typeLookup (.type T) "__getitem__" = pure (Z<|.builtin id)) (hs:cX8 slice)
  (h:fD (fE prog w) A (eval value env) (λo s₁=>fD (fE prog w) A (eval slice env) (λi s₂=>s₂.TypeIs o T/\fD (fE prog w) A (getItem o i) Q E s₂) E s₁) E s) :
  fD (fE prog w) A (eval (.Subscript value slice pos) env) Q E s:=by
 refine Subscript_ (eU h (λo s₁ h₁=>eU h₁ (λi s₂ h₂=>?_) λ_ _ x=>x) λ_ _ x=>x);obtain⟨hT,h₂⟩:=h₂;unfold subscriptTail;refine eS ?_;rw[getitemInPython_of_ne hT.not_modules];refine eS<|wpAny_specialOf hT hl ?_
 have fin:fD (fE prog w) A (subscripted slice false o i) (λr s₃=>fD (fE prog w) A (letTemporaryGo value o r >>= λ_=>pure r) Q E s₃) E s₂:=by
  rw[hs o i];exact wpAny_operating<|eU h₂ (λr s₃ h₃=>eS<|wpAny_letTemporaryGo (eT h₃)) λ_ _ x=>x
 first
  | exact eT<|eS fin
  | exact eS<|eT (eS fin)
  | exact eS fin
def bc4{X:Cx}{pins:List (fT×Obj)}{σ:St}{H:Hp}{s:fS}{a:fT}{y:V}{o:Option V}(I:Inv X pins σ H s)(g:aw9 H a y o):s.TypeIs (.ref a) "dict" := by
 rcases g with⟨kvs,k,e,_,_⟩|⟨kvs,k,b,e,_,_,_⟩
 .obtain⟨_,_,vs,_,dd⟩:=aH3 I.hok e;exact dd.typeIs
 .obtain⟨_,_,xs,_,dd⟩:=aO3 I.hok e;exact dd.typeIs
noncomputable def cO0(td ty:TE):TE:=λσ H Q=>td σ H λx H1=>ty σ H1 λy H2=>∃a v,x=.ref a/\aw9 H2 a y (Z v)/\Q v H2
section
variable {X:Cx}{o i e value:Expr}{pos pos' tpos:Pos}{td ty tv:TE}
def cb9(hu:X.A.units+1 < cLine)(ho:PE X o td)(hi:PE X i ty)(hs:cX8 i):PE X (.Subscript o i pos) (cO0 td ty):=by
 intro pins s σ H Q I h;refine bZ0 PySem.F.slot_dict_getitem.lookup hs (thn (ho pins s σ H _ I h) λu s1 ⟨x,H1,I1,rx,q1⟩=>thn (hi pins s1 σ H1 _ I1 q1) λiv s2 ⟨y,H2,I2,ry,a,v,ex,g,q2⟩=>?_);subst ex;obtain rfl:u=fO a:=rx;exact⟨bc4 I2 g,bB9 hu I2 g ry λw' s3 I3 rw'=>⟨v,H2,I3,rw',q2⟩⟩
end
def bT7{P:fh}{w:World}{H:Hp}(h:Heap)(hb:sysModules < h.objs.size):P9 P w H (h.push { cls:=.type "dict", data:=.dict #[] }) h.objs.size (.dK []) :=
 ⟨aO _,beq_eq_false_iff_ne.mpr<|Ne.symm (aE hb),[],.nil,Heap.DictOf.new h⟩
noncomputable def aQ7:List (TE×TE)->St->Hp->(List (V×V)->Hp->Prop)->Prop
 | [],_,H,Q=>Q [] H
 | (tk,tv)::r,σ,H,Q=>tk σ H λx H1=>tv σ H1 λy H2=>aQ7 r σ H2 λps H3=>Q ((x,y)::ps) H3
noncomputable abbrev VV:List (V×V)->List (fR×fR)->Prop:=Paired λp q=>E4 p.1 q.1/\E4 p.2 q.2
noncomputable def PPs(X:Cx)(pos:Pos)(keys:List (Option Expr))(values:List Expr)(trs:List (TE×TE)):Prop :=
 ∀(pins:List (fT×Obj)) (s:fS) (σ:St) (H:Hp) (Q:List (V×V)->Hp->Prop),Inv X pins σ H s->aQ7 trs σ H Q ->
  fD (fE X.prog X.w) X.A (evalPairs<|pairTrees keys values X.env pos) (λvs s'=>∃ps H',Inv X pins σ H' s'/\VV ps vs/\Q ps H') X.xe s
def cb0{X:Cx}{pos:Pos}:PPs X pos [] [] []:=λpins s σ H Q I h=>pairTrees_nil_walk ⟨[],H,I,.nil,h⟩
def bI2{X:Cx}{pos:Pos}{k v:Expr}{ks:List (Option Expr)}{vs:List Expr}{tk tv:TE}{trs:List (TE×TE)}(hk:PE X k tk)(hv:PE X v tv)(hr:PPs X pos ks vs trs):
  PPs X pos (Z k::ks) (v::vs) ((tk,tv)::trs):=λpins s σ H Q I h =>
 pairTrees_cons_walk (thn (hk pins s σ H _ I h) λu s1 ⟨x,H1,I1,rx,q1⟩=>thn (hv pins s1 σ H1 _ I1 q1) λw2 s2 ⟨y,H2,I2,ry,q2⟩ =>thn (hr pins s2 σ H2 _ I2 q2) λws s3 ⟨ps,H3,I3,rel,q3⟩=>⟨(x,y)::ps,H3,I3,.cons ⟨rx,ry⟩ rel,q3⟩)
noncomputable def al9(kvs more:List (Key×V)):List (Key×V):=more.foldl (λacc kv=>aj3 acc kv.1 kv.2) kvs
def KV.merge:∀{more:List (Key×V)}{rs:List (Key×fR)}{kvs:List (Key×V)}{vs:List (Key×fR)},KV more rs->KV kvs vs->KV (al9 kvs more) (merged vs rs):=by
 intro more rs kvs vs r;unfold KV at r
 induction r generalizing kvs vs with
 | nil=>intro q;exact q
 | @cons p q ps qs h t ih =>
  intro r0
  have e:KV (aj3 kvs p.1 p.2) (stored vs q.1 q.2):=by
   have:=r0.put p.1 h.2;rw[← h.1];exact this
  exact ih e
theorem ak5:∀(more kvs:List (Key×V)),(al9 kvs more).length<=kvs.length+more.length
 | [],kvs=>by show kvs.length<=kvs.length+0;grind
 | p::r,kvs=>by
  have h1:=ak5 r (aj3 kvs p.1 p.2);have h2:=ay6 kvs p.1 p.2;show(al9 (aj3 kvs p.1 p.2) r).length<=_;rw[aH];grind
theorem aI5{P:fh}{w:World}:∀{kvs:List (Key×V)}{ws:List (fR×fR)},VV (kvs.map λkv=>(kV kv.1,kv.2)) ws->∃rs,Carries (G2 P w) ws rs/\KV kvs rs
 | [],_,r=>by rw[List.map_nil]at r;cases r;exact⟨[],True.intro,.nil⟩
 | p::kvs,_,r=>by
  rw[bK]at r;cases r with
  | @cons a b as bs h t =>
   obtain⟨rs,c,q⟩:=aI5 (P:=P) (w:=w) t;obtain⟨b1,b2⟩:=b;exact⟨(p.1,b2)::rs,⟨aN5 h.1,rfl,c⟩,.cons ⟨rfl,h.2⟩ q⟩
noncomputable def cN9(trs:List (TE×TE)):TE:=λσ H Q=>∀p,H p=O->aQ7 trs σ (upd H p<|.dK []) λps H2=>H2 p=Z (.dK [])/\∃kvs:List (Key×V),ps=kvs.map (λkv=>(kV kv.1,kv.2))/\kvs.length<=15/\Q (.ref p) (upd H2 p<|.dK (al9 [] kvs))
def cb8{X:Cx}{pos:Pos}{keys:List (Option Expr)}{values:List Expr}{trs:List (TE×TE)}(h:PPs X pos keys values trs)(hall:keys.all (·.isSome)=true)(hl:keys.length=values.length)(h0:keys≠[])
  (h15:keys.length<=15):PE X (.Dict keys values pos) (cN9 trs):=by
 intro pins s σ H Q I q;have hn:=I.hok.fresh (ak s.heap.objs.size);have I1:=I.laid (a:=s.heap.objs.size) (o:=.dK []) (h':=s.heap.push { cls:=.type "dict", data:=.dict #[] }) (t':=s.toks) (λ_ _ q=>fF _ q) (ak _) (bT7 s.heap I.big);refine wpAny_Dict_walk (knd:=G2 X.prog X.w) hall hl h0 h15 (thn (h pins _ σ _ _ I1<|q _ hn) λws s2 ⟨ps,H2,I2,rel,e,kvs,ep,lk,q2⟩=>?_);subst ep;obtain⟨rs,c,rk⟩:=aI5 (P:=X.prog) (w:=X.w) rel;obtain⟨z,hd,vs0,r0,dd⟩:=cV2 I2.hok e;cases r0;refine⟨rs,c,dd,λh' dd' hs=>⟨.ref s.heap.objs.size,_,?_,rfl,q2⟩⟩
 have hz:(al9 [] kvs).length<=fc:=by
  have h1:=ak5 kvs [];rw[dq]at h1;rw[fe];grind
 have he:∃q,h'.get? s.heap.objs.size=Z q:=let⟨q,_,_,hq,_⟩:=dd';⟨q,hq⟩
 exact ck4 I2 (by rw[e];exact True.intro) hs he<|bT6 hz hd (rk.merge .nil) dd'
structure M2 (X:Cx) (o:Expr) (m:Str) (apos:Pos) (e f:Expr) (cpos:Pos):Prop where
 base:fB o m X.env (eval o X.env)=eval o X.env
 few:((backTo cpos (fb [e,f] X.env)).all (λx=>!x.1)&&(backToKw cpos (keywordEach [] X.env)).all (λx=>x.1.isSome)
  && decide (([e,f]:List Expr).length+([]:List fq).length+(if([]:List fq).isEmpty then 0 else 1) < 30))=true
 line:(apos.endLine==cpos.line)=true
 trees:backTo cpos (fb [e,f] X.env)=[(false,eval e X.env),(false,eval f X.env)]
noncomputable def IsD(H:Hp)(a:fT):Prop:=(∃kvs,Rd H a<|.dK kvs)\/∃kvs,Rd H a<|.dT kvs
def cH3{X:Cx}{pins:List (fT×Obj)}{σ:St}{H:Hp}{s:fS}{a:fT}(I:Inv X pins σ H s)(d:IsD H a):
  s.TypeIs (.ref a) "dict" /\ (∀b,fO a=.ref b->∃ob,s.heap.get? b=Z ob/\ob.dict=O)/\(a==sysModules)=false:=by
 rcases d with⟨kvs,e⟩|⟨kvs,e⟩
 .obtain⟨_,hd,vs,_,dd⟩:=aH3 I.hok e;refine⟨dd.typeIs,λb q=>?_,hd⟩;cases q;obtain⟨ob,_,_,h1,h2,_⟩:=dd;exact⟨ob,h1,h2.2.1⟩
 .obtain⟨_,hd,xs,_,dd⟩:=aO3 I.hok e;refine⟨dd.typeIs,λb q=>?_,hd⟩;cases q;obtain⟨ob,_,_,h1,h2,_⟩:=dd;exact⟨ob,h1,h2.2.1⟩
section
variable {X:Cx}{pins:List (Addr×Obj)}{σ:St}{H:Hp}{s:Shared}{a:Addr}{y d:V}{u r:Value}{o:Option V}{A:Around}{E:Value->Shared->Prop}
def cJ4{Q:fR->fS->Prop}(hu:A.units+1 < cLine)(I:Inv X pins σ H s)(g:aw9 H a y o)(ry:E4 y u)(rd:E4 d r)(h:∀w' s',Inv X pins σ H s'->E4 (o.getD d) w'->Q w' s'):
  fD (fE X.prog X.w) A (call (.builtin "dict.get") [.ref a,u,r]) Q E s:=by
 rcases g with⟨kvs,k,e,ey,l⟩|⟨kvs,k,b,e,ey,eb,l⟩
 .subst ey;obtain⟨z,hd,vs,rel,dd⟩:=aH3 I.hok e;refine call_meetsIn PySem.F.slot_dict_get dd.typeIs PySem.F.entry_dict_get (PySem.F.args_dict_get_3 _ _ _) (meets_dict_get_default (G2 X.prog X.w) a (aN5 ry) hd r) ⟨_,dd.mapOf,h _ _ (I.tok _) ?_⟩;rw[l];exact(rel.val k).getD rd
 .subst ey;cases(show u=fO b from ry);obtain⟨z,hd,xs,rel,dd⟩:=aO3 I.hok e;refine call_meetsIn PySem.F.slot_dict_get dd.typeIs PySem.F.entry_dict_get (PySem.F.args_dict_get_3 _ _ _) (meetsH_dict_get_default (tupleKind<|G2 X.prog X.w) a b hd r) ⟨tupleKind_room_in1 hu,k,xs,aF8 I.hok eb,dd,h _ _ (I.tok _) ?_⟩;rw[l];exact(rel.val k).getD rd
end
noncomputable def cu7(td ty tx:TE):TE:=λσ H Q=>td σ H λx H1=>∃a,x=.ref a/\IsD H1 a/\ty σ H1 λy H2=>tx σ H2 λz H3=>∃o,aw9 H3 a y o/\Q (o.getD z) H3
section
variable {X:Cx}{o e f:Expr}{apos cpos:Pos}{td ty tx:TE}
def bJ2(hu:X.A.units+1 < cLine)(ho:PE X o td)(he:PE X e ty)(hf:PE X f tx)(m:M2 X o "get" apos e f cpos):PE X (.Call (.Attribute o "get" apos) [e,f] [] cpos) (cu7 td ty tx):=by
 intro pins s σ H Q I h;refine wpAny_Call_method m.base m.few m.line PySem.F.plainAttrs_dict PySem.F.slot_dict_get PySem.F.type_dict_get (thn (ho pins s σ H _ I h) λu s1 ⟨x,H1,I1,rx,a,ex,d,q1⟩=>?_);subst ex;obtain rfl:u=fO a:=rx;obtain⟨t1,t2,_⟩:=cH3 I1 d;refine⟨t1,t2,?_⟩;rw[m.trees];refine Calls.callWith_builtin rfl (Calls.evalArgs_plain<|Calls.spliced_cons (thn (he pins s1 σ H1 _ I1 q1) λiv s2 ⟨y,H2,I2,ry,q2⟩ =>Calls.spliced_cons<|thn (hf pins s2 σ H2 _ I2 q2) λfv s3 ⟨z,H3,I3,rz,ov,g,q3⟩=>Calls.spliced_nil ?_));exact cJ4 hu I3 g ry rz λw' s4 I4 rw'=>⟨_,H3,I4,rw',q3⟩
end
end L2
namespace G
open PySem PySem.Spec PyProof.Rows L2
def ay9:entryFor table "dict.update.loop" = Z Builtin.«dict.update.loop»:=entryFor_of_tree (by kernel_rfl)
def u8:plainId "dict.update.loop" = true:=by decide +kernel
def aT0:typeLookup (.type "list") "keys" = pure O:=by rw[typeLookup_type,builtinLookup_eq_fast];kernel_rfl
noncomputable def mgL(l:List (Str×fR)):List (Key×fR):=l.foldl (λa p=>stored a (Sum.inr p.1) p.2) []
def bv9(a:List (Key×fR))(k:Key)(v:fR):(stored a k v).length<=a.length+1:=by
 unfold stored;split
 .rw[aj];grind
 .rw[ah,aN];grind
def ba4(l:List (Str×fR))(p:Str×fR):mgL (l++[p])=stored (mgL l) (Sum.inr p.1) p.2:=by unfold mgL;rw[List.foldl_append];rfl
theorem bq4:∀(l:List (Str×fR)) (n:Nat),l.length=n->(mgL l).length<=n
 | l,0,h=>by rw[dS]at h;subst h;exact ak 0
 | l,n+1,h=>by
  obtain⟨a,p,rfl⟩:∃a p,l=a++[p]:=by
   rcases List.eq_nil_or_concat l with e|⟨a,p,e⟩
   .subst e;cases h
   .exact⟨a,p,by rw[e,List.concat_eq_append]⟩
  rw[ah,aN]at h;rw[ba4];have:=bq4 a n (by grind);have:=bv9 (mgL a) (Sum.inr p.1) p.2
  grind
section
variable {prog:Program}{w:World}{A:Around}{E:Value->Shared->Prop}{s:Shared}
def by5(hx:s.heap.get? a=Z o)(hc:o.cls=.type "list")(hdat:o.data=.seq xs k)(hd:o.dict=O)(hA:A.handled=O)
  (h:∀h' tk,(∀b o,s.heap.get? b=Z o->h'.get? b=Z o)->Q O { s with heap:=h',toks:=tk }):fD (fE prog w) A (getAttr? (.ref a) "keys") Q E s:=by
 obtain⟨c,dct,dat,sl⟩:=o;simp only at hc hdat hd;subst hc hdat hd;obtain⟨hp,g,d,tk,os⟩:=s;have hT:∀tk',(⟨hp,g,d,tk',os⟩:fS).TypeIs (.ref a) "list" := λ_=>⟨_,hx,rfl⟩
 have f1:=sub_AttributeError;have f3:=F.slot_list_getattribute.lookup;have f4:=F.slot_list_getattribute.bind (.ref a);have f5:=am_list_getattr_none;unfold getAttr? getAttrBy? getAttrBy
 repeat (any_goals (first|assumption|exact hT _|((with_reducible show fD _ _ (call (Value.builtin "list.__getattribute__") _ _) _ _ _);refine fw F.slot_list_getattribute (hT _) am_entry_list_getattribute (F.args_list_getattribute_2 _ _) (meets_getattribute_miss_list a xs k sl "keys" _ aT0 (by decide)<|by size_fits) ⟨hx,hA,λh' tk' e hx'=>?_⟩)|wp_step))
 obtain⟨t',u',he⟩:=hx'.there;show fD _ _ (getattributeRaised _ _ _ _ _ _ _) _ _ _;unfold getattributeRaised
 repeat (any_goals (first|assumption|wp_step))
 exact h _ _ hx'.keeps
variable {R:Result->Shared->Prop}{J S:Addr}{fp wr:List Addr}{Gn:Array GenState->Array GenState->Prop}{P:Nat->Value->Prop}{St:Nat->Shared->Prop}{ps:List (Str×Value)}
def bz9(W:WalksS prog w A.in1 J fp wr Gn ps.length P St)(hS1:S∉fp)(T:Nat->fT)(hT:∀j,j < ps.length->T j∉S::wr)(hP:∀i u,P i u->u=.ref (T i))(hb:ps.length<=1000):
  ∀(k i:Nat) (s:fS) (ii:Int),ps.length - i=k->i<=ps.length->St i s->(∀j p,ps[j]? = Z p->∃t,IsTup s.heap (T j) #[.str p.1 t,p.2])->s.heap.DictOf (G2 prog w) S (mgL<|ps.take i) ->
   (∀s',Moved (S::wr) Gn s s'->s'.heap.DictOf (G2 prog w) S (mgL ps)->R (.ok<|.ret .none) s') ->
   codeAny (fE prog w) A (.builtin "dict.update.loop" ⟨[.ref S,.ref J,rawInt ii,.none],[]⟩) R s:=by
 have hS2:S∉wr:=λz=>hS1<|W.sub _ z
 have more:∀b∈wr,b∈S::wr:=λb z=>xmm _ z
 intro k
 induction k with
 | zero =>
  intro i s ii e1 e2 q1 q0 q2 q3;obtain rfl:i=ps.length:=by grind
  refine codeAny_builtin ay9 ?_;rw[Around.under_plainId u8 _];show fD _ _ (pyNext (.ref J) >>= _) _ _ _;refine eS (W.done s _ _ q1 λs' mv=>?_);show fD _ _ (Builtin.Dict.addKeywords S [] >>= λ_=>ret fP) _ _ _;refine eS (eT<|eT (q3 s' (mv.mono more) ?_));rw[List.take_length]at q2;obtain⟨o,es,ep,ho,more'⟩:=q2;exact⟨o,es,ep,mv.heap S _ hS2 ho,more'⟩
 | succ k ih =>
  intro i s ii e1 e2 q1 q0 q2 q3;have lt:i < ps.length:=by grind
  refine codeAny_builtin ay9 ?_;rw[Around.under_plainId u8 _];show fD _ _ (pyNext (.ref J) >>= _) _ _ _;refine eS (W.item i s _ _ lt q1 λu s' hP' q1' mv=>?_);obtain rfl:=hP i u hP'
  have q2':s'.heap.DictOf (G2 prog w) S (mgL<|ps.take i):=by
   obtain⟨o,es,ep,ho,more'⟩:=q2;exact⟨o,es,ep,mv.heap S _ hS2 ho,more'⟩
  have q0':∀j p,ps[j]? = Z p->∃t,IsTup s'.heap (T j) #[.str p.1 t,p.2]:=λj p e=>by
   obtain⟨t,o,ho,r⟩:=q0 j p e
   have hj:j < ps.length:=by
    rcases bL j ps.length with z|z
    .exact z
    .rw[bj z]at e;cases e
   exact⟨t,o,mv.heap (T j) _ (λz=>hT j hj<|xmm _ z) ho,r⟩
  obtain⟨t,⟨c0,d0,dt0,sl0⟩,ho,hc,n,hd⟩:=q0' i ps[i] (av lt);simp only at hc hd;subst hc hd;obtain⟨hp,g,d,tk,os⟩:=s';simp only at ho;have hTy:(⟨hp,g,d,tk,os⟩:fS).TypeIs (.ref<|T i) "tuple" := ⟨_,ho,rfl⟩;show fD _ _ (holding [fO (T i)] _ >>= _) _ _ _;refine eS (wpAny_holding<|eS (wpAny_tryCatch ?_));unfold Builtin.Dict.pairItems;refine eS (wpAny_typeOf hTy ?_);rw[if_pos (by decide)];generalize hDS:dictSet=DS
  repeat (any_goals (first|assumption|wp_step))
  subst hDS
  refine wpAny_dictSet_pairs (knd:=G2 prog w) (k:=Sum.inr ps[i].1) (ay4 _ _ _ _) q2' (λh' dd hs=>?_) (by
   have:=bq4 (ps.take i) i (by rw[aA];grind);have:(1000:Nat) < fc:=by decide
   grind)
  have tk1:ps.take (i+1)=ps.take i++[ps[i]]:=by rw[cX lt]
  rw[← ba4,← tk1]at dd;refine eT ⟨plainId_quiet u8 _,ih (i+1) _ (ii+1) (by grind) lt (W.frame _ _ _ _ q1' (dD _) λb z o e=>?_) (λj p e=>?_) dd λs2 mv2 q6=>?_⟩
  .rw[hs.2 b (λy:b=S=>hS1 (by rw[← y];exact z))];exact e
  .obtain⟨t,o,ho,r⟩:=q0' j p e
   have hj:j < ps.length:=by
    rcases bL j ps.length with z|z
    .exact z
    .rw[bj z]at e;cases e
   exact⟨t,o,(hs.2 (T j) λz=>hT j hj (by rw[z];exact ae)).trans ho,r⟩
  .refine q3 s2 (Moved.trans W.gtrans ((mv.mono more).then_heap (dD _) λb o z e=>?_) mv2) q6;rw[hs.2 b (λy:b=S=>z (by rw[y];exact ae))];exact e
def aK6(hh:A.handled=O)(hl:PlainL s.heap l its)(T:Nat->fT)(hn:its.size=ps.length)(hi:∀(i:Nat) (u:fR),its[i]? = Z u->u=.ref (T i))(ht:∀j p,ps[j]? = Z p->∃t,IsTup s.heap (T j) #[.str p.1 t,p.2])(hb:ps.length<=1000)
  (h:∀(h':Heap) (tk:Nat),h'.DictOf (G2 prog w) s.heap.objs.size (mgL ps)->(∀b o,b < s.heap.objs.size->s.heap.get? b=Z o->h'.get? b=Z o)->Q (.ref s.heap.objs.size) { s with heap:=h',toks:=tk }) :
  fD (fE prog w) A (call (.type "dict") [.ref l]) Q E s:=by
 have hT:∀j,j < ps.length->T j < s.heap.objs.size:=λj hj=>by
  obtain⟨t,o,ho,_⟩:=ht j _ (av hj);exact fG ho
 refine callType_codes (Q₁:=λobj s₁=>obj=.ref s.heap.objs.size/\s₁={ s with heap:=s.heap.push { cls:=.type "dict", data:=.dict #[] } }) F.kt_called_dict (F.kt_typeCall_dict_1 _) F.entry_dict_init (kt_code_dict_new _ ⟨rfl,rfl⟩) ?_
 rintro obj s₁ ⟨rfl,rfl⟩
 have hnew:(s.heap.push { cls:=.type "dict", data:=.dict #[] }).DictOf (G2 prog w) s.heap.objs.size []:=Heap.DictOf.new s.heap;refine⟨hnew.typeIs,F.args_dict_init_2 _ _,?_⟩;unfold Builtin.«dict.__init__»;refine eS ?_;unfold Builtin.Dict.selfAndRest;refine eS (wpAny_notOrdered_dict hnew.typeIs ?_);show fD _ _ (pure (s.heap.objs.size,[fO l])) _ _ _;refine eT ?_;show fD _ _ (Builtin.Dict.updateFrom "dict.__init__" s.heap.objs.size (.ref l) [] .none) _ _ _;unfold Builtin.Dict.updateFrom;obtain⟨o,n,ho,hc,hdd,hd⟩:=hl;have ho1:=fF { cls:=.type "dict", data:=.dict #[] } ho;refine eS (wpAny_typeOf ⟨_,ho1,hc⟩ ?_);rw[if_pos (by decide)];refine eS (by5 ho1 hc hd hdd (by simpa using hh) λh₁ tk₁ kp=>?_);rw[if_pos (by rfl)];refine eS (wpAny_rule ?_);have hl1:h₁.IsList l its:=⟨o,kp _ _ ho1,hc,n,hd⟩;refine eS (wpAny_pyIter_list hl1 ?_);have sz:s.heap.objs.size < h₁.objs.size:=fG (kp _ _<|fH s.heap (o:={ cls:=.type "dict", data:=.dict #[] }) rfl);have lS:l < s.heap.objs.size:=fG ho;have keep:∀b o,s.heap.get? b=Z o->(h₁.push { cls:=.type "list_iterator", data:=.fields #[.ref l,.int 0 0] }).get? b=Z o:=λb o e=>fF _<|kp _ _ (fF _ e)
 have nf:s.heap.objs.size∉[h₁.objs.size,l]:=by
  simp only[am,aC,or_false,not_or];exact⟨aE sz,Nat.ne_of_gt lS⟩
 refine eT ⟨plainId_quiet u8 _,bz9 (A:=A.in1) (ps:=ps) (S:=s.heap.objs.size) (hn ▸ (Walks.list (by simpa using hh) _ l (aE<|dR lS sz) its).toS) nf T (λj hj=>?_) hi hb ps.length 0 _ 0 (by grind) (aO _) ⟨⟨_,fH _ rfl,rfl,rfl⟩,(hl1.push _)⟩ (λj p e=>?_) ?_ λs' mv dd=>?_⟩
 .have hj':=hT j hj;simp only[am,aC,or_false,not_or];exact⟨aE hj',aE<|dR hj' sz⟩
 .obtain⟨t,o,ho,r⟩:=ht j p e;exact⟨t,o,keep _ _ ho,r⟩
 .obtain⟨o,es,ep,ho,r⟩:=hnew;exact⟨o,es,ep,fF _<|kp _ _ ho,r⟩
 .obtain⟨h',g',d',tk',os'⟩:=s';have eg:g'=s.gens:=mv.gens;have ed:d'=s.drawn:=mv.drawn;have eo:os'=s.os:=mv.os;subst eg ed eo;refine⟨rfl,h h' tk' dd λb o hb e=>mv.heap b o ?_<|keep b o e⟩;simp only[am,aC,or_false,not_or];exact⟨aE hb,aE<|dR hb sz⟩
end
noncomputable def V0(x:Str)(kv:D×D):Bool:=match kv.1 with
 | .str y=>y==x
 | _=>false
noncomputable def U9(kvs:List (D×D))(x:Str):Option D:=(kvs.find?<|V0 x).map (·.2)
noncomputable def bh5(kvs:List (D×D))(x:Str)(d:D):List (D×D):=if kvs.any (V0 x) then kvs.map (λkv=>if V0 x kv then(kv.1,d) else kv) else kvs++[(.str x,d)]
noncomputable def mgD(ps:List (Str×D)):List (D×D):=ps.foldl (λa p=>bh5 a p.1 p.2) []
noncomputable def bJ5:D->Option (Str×D)
 | .tuple [.str x,d]=>Z (x,d)
 | _=>O
noncomputable def aE6:List D->Option (List<|Str×D)
 | []=>Z []
 | d::r=>(bJ5 d).bind λp=>(aE6 r).map λq=>p::q
section
variable {K:PySem.W.Frag}{H:Hp}
def ce9(x y:Str):decide ((Sum.inr y:Key)=Sum.inr x)=(y==x):=by rw[bN3];rfl
theorem RepKs.look:∀{kvs:List (D×D)}{m:List (Key×V)}(x:Str),RepKs K H kvs m->(U9 kvs x=O/\ao1 m (.inr x)=O)\/∃d v,U9 kvs x=Z d/\ao1 m (.inr x)=Z v/\Rep K H d v
 | [],_,x,h=>by cases h;exact .inl ⟨rfl,rfl⟩
 | (k,d)::r,_,x,⟨y,v,t,h1,h2,h3,h4⟩=>by
  subst h1 h2;by_cases e:y=x
  .subst e;exact .inr ⟨d,v,by simp[U9,V0],by rw[aD1 rfl],h3⟩
  .have e1:U9 ((.str y,d)::r) x=U9 r x:=by simp[U9,V0,e]
   have e2:ao1 ((Sum.inr y,v)::t) (Sum.inr x)=ao1 t (.inr x):=aD2 (by intro z;exact e<|Sum.inr.inj z);rw[e1,e2];exact RepKs.look x h4
theorem RepKs.any(x:Str):∀{kvs:List (D×D)}{m:List (Key×V)},RepKs K H kvs m->kvs.any (V0 x)=m.any λkv=>decide (kv.1=Sum.inr x)
 | [],_,h=>by cases h;rfl
 | (k,d)::r,_,⟨y,v,t,h1,h2,h3,h4⟩=>by
  subst h1 h2;rw[bF,bF,RepKs.any x h4,ce9];rfl
theorem RepKs.snoc(q:Rep K H d v):∀{kvs:List (D×D)}{m:List (Key×V)},RepKs K H kvs m->RepKs K H (kvs++[(.str x,d)]) (m++[(.inr x,v)])
 | [],_,h=>by cases h;exact⟨x,v,[],rfl,rfl,q,rfl⟩
 | (k,_)::r,_,⟨y,w,t,h1,h2,h3,h4⟩=>by subst h2;exact⟨y,w,_,h1,rfl,h3,RepKs.snoc q h4⟩
theorem RepKs.repl(q:Rep K H d v):∀{kvs:List (D×D)}{m:List (Key×V)},RepKs K H kvs m->RepKs K H (kvs.map λkv=>if V0 x kv then(kv.1,d) else kv) (m.map λkv=>if kv.1=Sum.inr x then(kv.1,v) else kv)
 | [],_,h=>by cases h;rfl
 | (k,e)::r,_,⟨y,w,t,h1,h2,h3,h4⟩=>by
  subst h1 h2;rw[bK,bK];by_cases e:y=x
  .subst e;rw[if_pos (show V0 y (.str y,_)=true by simp[V0]),if_pos rfl];exact⟨y,v,_,rfl,rfl,q,RepKs.repl q h4⟩
  .rw[if_neg (show ¬V0 x (.str y,_)=true by simp[V0,e]),if_neg (by intro z;exact e<|Sum.inr.inj z)];exact⟨y,w,_,rfl,rfl,h3,RepKs.repl q h4⟩
def RepKs.put(q:Rep K H d v)(h:RepKs K H kvs m):RepKs K H (bh5 kvs x d) (aj3 m (.inr x) v):=by
 unfold bh5 aj3;rw[h.any x];split
 .exact h.repl q
 .exact h.snoc q
noncomputable abbrev mgV(a:List (Str×V)):List (Key×V):=a.foldl (λacc p=>aj3 acc (.inr p.1) p.2) []
theorem al4:∀{ps:List (Str×D)}{a:List (Str×V)}{kvs:List (D×D)}{m:List (Key×V)},Paired (λ(p:Str×D) (q:Str×V)=>p.1=q.1/\Rep K H p.2 q.2) ps a->RepKs K H kvs m->RepKs K H (ps.foldl (λa p=>bh5 a p.1 p.2) kvs) (a.foldl (λacc p=>aj3 acc (.inr p.1) p.2) m)
 | _,_,_,_,.nil,h=>h
 | _,_,_,_,.cons ⟨e,r⟩ t,h=>by
  rw[bA,bA];refine al4 t ?_;rw[← e];exact h.put r
theorem br3:∀{a:List (Str×V)}{b:List (Str×fR)}{k1:List (Key×V)}{k2:List (Key×fR)},Paired (λ(p:Str×V) (q:Str×fR)=>p.1=q.1/\E4 p.2 q.2) a b->KV k1 k2->KV (a.foldl (λacc p=>aj3 acc (.inr p.1) p.2) k1) (b.foldl (λacc p=>stored acc (.inr p.1) p.2) k2)
 | _,_,_,_,.nil,h=>h
 | _,_,_,_,.cons ⟨e,r⟩ t,h=>by
  rw[bA,bA];refine br3 t ?_;rw[← e];exact h.put _ r
theorem bq3:∀(a:List (Str×V)) (m:List (Key×V)),(a.foldl (λacc p=>aj3 acc (Sum.inr p.1) p.2) m).length<=m.length+a.length
 | [],m=>ak _
 | p::r,m=>by
  have h1:=bq3 r (aj3 m (.inr p.1) p.2);have h2:=ay6 m (Sum.inr p.1:Key) p.2;rw[bA,aH]
  grind
end
section
variable {X:Cx}
def cl5:fk "dict" = Z (.type "dict"):=by decide +kernel
noncomputable def PrV(K:ad)(H:Hp):List V->List (Str×V)->Prop:=Paired λv p=>∃b,v=.ref b/\SqT K H b [.str p.1,p.2]
theorem PrV.length{K:ad}{H:Hp}{vs:List V}{a:List (Str×V)}(h:PrV K H vs a):vs.length=a.length:=Paired.length h
theorem bI1{K:ad}{H:Hp}:∀{ds:List D}{vs:List V}{ps:List (Str×D)},aE6 ds=Z ps->Reps K H ds vs->∃a,PrV K H vs a/\Paired (λ(p:Str×D) (q:Str×V)=>p.1=q.1/\Rep K H p.2 q.2) ps a
 | [],_,_,e,h=>by cases e;cases h;exact⟨[],.nil,.nil⟩
 | d::ds,_,_,e,⟨v,r,h1,h2,h3⟩=>by
  subst h1;obtain⟨p,e1,e⟩:=xbm e;obtain⟨q,e2,e⟩:=xmo e;subst e;obtain⟨a,q1,q2⟩:=bI1 e2 h3;unfold bJ5 at e1;split at e1
  .cases e1;obtain⟨b,us,z1,z2,z3⟩:=h2;obtain⟨u1,r1,y1,y2,y3⟩:=z3;obtain⟨u2,r2,x1,x2,x3⟩:=y3;cases y2;cases x3;subst x1 y1;exact⟨(_,u2)::a,.cons ⟨b,z1,z2⟩ q1,.cons ⟨rfl,x2⟩ q2⟩
  .cases e1
theorem aY6(I:Inv X pins σ H s):∀{vs:List V}{a:List (Str×V)}{us:List fR},PrV X.K H vs a->D8 vs us ->
  ∃(T:List fT) (b:List (Str×fR)),us=T.map fO/\b.length=us.length/\Paired (λ(p:Str×V) (q:Str×fR)=>p.1=q.1/\E4 p.2 q.2) a b/\∀(j:Nat) (p:Str×fR),b[j]? = Z p->∃t,IsTup s.heap (T.getD j 0) #[.str p.1 t,p.2]
 | _,_,_,.nil,.nil=>⟨[],[],rfl,rfl,.nil,λj p e=>by simp at e⟩
 | _,_,_,.cons (b:=p) ⟨b,e,h⟩ t,.cons r rs=>by
  subst e;cases r;obtain⟨T,c,e1,e2,e3,e4⟩:=aY6 I t rs;obtain⟨its,rv,tp,_⟩:=I.tuple h;cases rv with
  | cons r1 rv =>
   cases rv with
   | cons r2 rv =>
    cases rv;rename_i u2;obtain⟨t1,rfl⟩:=r1;refine⟨b::T,(p.1,u2)::c,by rw[e1];rfl,by simp[e2],.cons ⟨rfl,r2⟩ e3,λj q e=>?_⟩;cases j with
    | zero=>simp at e;subst e;exact⟨t1,tp⟩
    | succ j=>exact e4 j q (by simpa using e)
def bm1:U2 X (.type "dict") (λxs H Q=>X.calm=true/\∃p vs a,xs=[.ref p]/\SqL X.K H p vs/\PrV X.K H vs a/\vs.length<=1000/\∀l,H l=O->Q (.ref l) (upd H l<|.dK (mgV a))):=by
 intro pins s σ H xs us Q I r h;obtain⟨hc,p,vs,a,rfl,hs,hp,hz,q⟩:=h;obtain⟨u,rfl,rx⟩:=X2 r;cases rx;obtain⟨its,rv,pl,_⟩:=I.list hs;obtain⟨T,b,e1,e2,e3,e4⟩:=aY6 I hp rv;have ln:b.length=vs.length:=by rw[e2,rv.length]
 refine aK6 (ps:=b) (I.ok.hd hc) pl (λj=>T.getD j 0) (by simp[e2]) (λi u hu=>?_) e4 (by grind) λh' tk dd kp=>?_
 .subst e1;simp only[List.getElem?_toArray,aI,dY]at hu;obtain⟨t,ht,rfl⟩:=hu;simp[List.getD,ht]
 .have hn:=I.hok.fresh (ak s.heap.objs.size)
  have z:(mgV a).length<=fc:=by
   have h1:=bq3 a [];have h2:=hp.length;have:(1000:Nat) < fc:=by decide
   simp only[dq]at h1;show(cV (λacc p=>aj3 acc (Sum.inr p.1) p.2) [] a).length<=fc
   grind
  exact⟨.ref s.heap.objs.size,_,I.laid (a:=s.heap.objs.size) (o:=.dK<|mgV a) (h':=h') (t':=tk) (λb u e=>kp b u (fG e) e) (ak _)<|bT6 z (beq_eq_false_iff_ne.mpr<|Ne.symm (aE I.big)) (br3 e3 .nil) dd,rfl,q _ hn⟩
noncomputable def bd9(f:Rho->Option (Bool×List D)):DE:=λρ=>(f ρ).bind λq=>if q.1=false/\q.2.length<=1000 then(aE6 q.2).map λps=>.dict (mgD ps) else O
def ch9(hc:X.calm=true)(hg:Gl X "dict")(hm:X.mg "dict" = O)(h:JQ X e f)(he:fb [e] X.env=[(false,eval e X.env)]:=by rfl):
  JE X (.Call (.Name "dict" p) [e] [] pos) (bd9 f):=λρ d q=>by
 obtain⟨⟨t,ds⟩,h1,h2⟩:=xbm q;simp only at h2;split at h2
 .rename_i c;obtain⟨rfl,c2⟩:=c;obtain⟨ps,e1,e2⟩:=xmo h2;subst e2;refine B9 (j4 bm1 hg hm cl5 (D7 (h ρ false ds h1) J2 he) (he:=he)) λσ H Q ⟨H0,Hf,s,sl,k⟩=>?_
  refine⟨H0,Hf,s,sl,λv H1 Hf1 g1 ⟨a,vs,z1,z2,z3⟩=>?_⟩;obtain⟨m,m1,m2⟩:=bI1 e1 z3;refine⟨hc,a,vs,m,by rw[z1],z2,Paired.mapP m1 (λ_ _ z=>let⟨b,y1,y2⟩:=z;⟨b,y1,D1 g1.sub y2⟩),by rw[z3.length];exact c2,λl hl=>?_⟩;have hs:=E5 (o:=.dK<|mgV m) (g1.sub.free hl);refine k _ _ _ (g1.trans<|Grow.laid g1.sub hl) ⟨l,_,rfl,C2,(al4 (Paired.mapP m2 λ_ _ z=>⟨z.1,z.2.mono hs⟩) (show RepKs X.K _ [] [] from rfl))⟩
 .cases h2
noncomputable def an3(f g:DE):DE:=λρ=>(f ρ).bind λd=>(g ρ).bind λk=>match d,k with
 | .dict kvs,.str x=>U9 kvs x
 | _,_=>O
def cF8(hu:X.A.units+64 < cLine)(ha:JE X a f)(hb:JE X b g)(hs:as3 b:=by intro _ _;rfl):JE X (.Subscript a b pos) (an3 f g):=λρ d q=>by
 obtain⟨x,e1,q⟩:=xbm q;obtain⟨y,e2,q⟩:=xbm q;split at q
 .rename_i kvs x _;refine B9 (cb9 (by omega) (ha ρ _ e1) (hb ρ _ e2) hs) λσ H Q ⟨H0,Hf,s,sl,k⟩=>?_
  refine⟨H0,Hf,s,sl,λv H1 Hf1 g1 ⟨p,m,z1,z2,z3⟩=>⟨H0,Hf1,g1.sub,sl.grow g1,λu H2 Hf2 g2 r2=>?_⟩⟩;subst z1;cases r2;rcases(z3.mono g2.ext).look x with⟨l1,_⟩|⟨d',w,l1,l2,l3⟩
  .rw[l1]at q;cases q
  .rw[l1]at q;cases q;refine⟨p,w,rfl,?_,k w H2 Hf2 (g1.trans g2) l3⟩;have:=aw9.k (k:=Sum.inr x) (g2.sub _ _<|g2.ext _ _ z2);rw[l2]at this;exact this
 .cases q
noncomputable def inK(neg:Bool)(x y:D):Option D:=match x,y with
 | .str x,.dict kvs=>Z<|.bool (if neg then !(U9 kvs x).isSome else(U9 kvs x).isSome)
 | _,_=>O
def cz3(hu:X.A.units+64 < cLine):OpD X (ff .In) (inK false):=λx y z h=>by
 unfold inK at h;split at h
 .rename_i x kvs;cases h;intro pins s σ H vx vy v u Q I rx ry ⟨Hf,ss,r1,r2,k⟩;cases r1;obtain⟨p,m,z1,z2,z3⟩:=r2;subst z1;cases ry;refine dc6 (by omega) I (aw9.k (k:=Sum.inr x)<|ss _ _ z2) rx λs' I'=>⟨.bl _,H,I',rfl,k _ H Hf (Grow.refl ss) ?_⟩
  rcases z3.look x with⟨l1,l2⟩|⟨d',w,l1,l2,l3⟩<;>rw[l1,l2]<;>rfl
 .cases h
def bx3(hu:X.A.units+64 < cLine):OpD X (ff .NotIn) (inK true):=λx y z h=>by
 unfold inK at h;split at h
 .rename_i x kvs;cases h;intro pins s σ H vx vy v u Q I rx ry ⟨Hf,ss,r1,r2,k⟩;cases r1;obtain⟨p,m,z1,z2,z3⟩:=r2;subst z1;cases ry;refine ck5 (by omega) I (aw9.k (k:=Sum.inr x)<|ss _ _ z2) rx λs' I'=>⟨.bl _,H,I',rfl,k _ H Hf (Grow.refl ss) ?_⟩
  rcases z3.look x with⟨l1,l2⟩|⟨d',w,l1,l2,l3⟩<;>rw[l1,l2]<;>rfl
 .cases h
noncomputable def bt5(f g h:DE):DE:=λρ=>(f ρ).bind λd=>(g ρ).bind λk=>(h ρ).bind λe=>match d,k with
 | .dict kvs,.str x=>Z<|(U9 kvs x).getD e
 | _,_=>O
def ch7(hu:X.A.units+64 < cLine)(ho:JE X o f)(he:JE X e g)(hf:JE X e2 h)(m:M2 X o "get" apos e e2 cpos):JE X (.Call (.Attribute o "get" apos) [e,e2] [] cpos) (bt5 f g h):=λρ d q=>by
 obtain⟨x,e1,q⟩:=xbm q;obtain⟨y,e2,q⟩:=xbm q;obtain⟨z,e3,q⟩:=xbm q;split at q
 .cases q;refine B9 (bJ2 (by omega) (ho ρ _ e1) (he ρ _ e2) (hf ρ _ e3) m) λσ H Q ⟨H0,Hf,s,sl,k⟩=>?_
  refine⟨H0,Hf,s,sl,λv H1 Hf1 g1 ⟨p,m,z1,z2,z3⟩=>⟨p,z1,.inl ⟨m,.inl<|g1.sub _ _ z2⟩,H0,Hf1,g1.sub,sl.grow g1,λu H2 Hf2 g2 r2=>⟨H0,Hf2,g2.sub,sl.grow<|g1.trans g2,λu3 H3 Hf3 g3 r3=>?_⟩⟩⟩;cases r2;refine⟨_,aw9.k (k:=Sum.inr _) (g3.sub _ _<|g3.ext _ _ (g2.ext _ _ z2)),k _ H3 Hf3 ((g1.trans g2).trans g3) ?_⟩;rcases(z3.mono (g2.trans g3).ext).look _ with⟨l1,l2⟩|⟨d',w,l1,l2,l3⟩
  .rw[l1,l2];exact r3
  .rw[l1,l2];exact l3
 .cases q
theorem ay2{K:ad}{H:Hp}:∀(ps:List (Str×Int)),Paired (λ(p:Str×D) (q:Str×V)=>p.1=q.1/\Rep K H p.2 q.2) (ps.map λp=>(p.1,.int p.2)) (ps.map λp=>(p.1,V.int p.2))
 | []=>.nil
 | p::r=>.cons ⟨rfl,rfl⟩<|ay2 r
noncomputable def cO6:Expr->Option Str
 | .Constant (.str x) _ _=>Z x
 | _=>O
noncomputable def cT9:Expr->Option Int
 | .Constant (.int i) _ _=>Z i
 | _=>O
def bZ1(h:cO6 e=Z x):∃p q,e=.Constant (.str x) p q:=by
 cases e with
 | Constant c p q =>
  cases c with
  | str y=>cases h;exact⟨p,q,rfl⟩
  | _=>cases h
 | _=>cases h
def ci7(h:cT9 e=Z i):∃p q,e=.Constant (.int i) p q:=by
 cases e with
 | Constant c p q =>
  cases c with
  | int y=>cases h;exact⟨p,q,rfl⟩
  | _=>cases h
 | _=>cases h
noncomputable def bc3:List (Option Expr)->List Expr->Option (List<|Str×Int)
 | [],[]=>Z []
 | k::ks,v::vs=>k.bind λk=>(cO6 k).bind λx=>(cT9 v).bind λi=>(bc3 ks vs).map λr=>(x,i)::r
 | [],_::_=>O
 | _::_,[]=>O
theorem aY7:∀{ks:List (Option Expr)}{vs:List Expr}{ps:List (Str×Int)},bc3 ks vs=Z ps->PPs X pos ks vs (ps.map λp=>((λσ H Q=>Q (.str p.1) H:TE),(λσ H Q=>Q (.int p.2) H:TE)))/\ks.length=ps.length/\vs.length=ps.length/\ks.all (·.isSome)=true
 | [],[],ps,h=>by cases h;exact⟨cb0,rfl,rfl,rfl⟩
 | [],_::_,ps,h=>by cases h
 | _::_,[],ps,h=>by cases h
 | k::ks,v::vs,ps,h=>by
  rw[bc3]at h;obtain⟨k',e0,h1⟩:=xbm h;obtain⟨x,e1,h2⟩:=xbm h1;obtain⟨i,e2,h3⟩:=xbm h2;obtain⟨r,e3,e4⟩:=xmo h3;subst e0;obtain⟨p1,p2,rfl⟩:=bZ1 e1;obtain⟨p3,p4,rfl⟩:=ci7 e2;subst e4;obtain⟨q1,q2,q3,q4⟩:=aY7 (pos:=pos) e3;exact⟨bI2 bI9 bJ1 q1,by simp[q2],by simp[q3],by simpa using q4⟩
theorem ax1:∀{ps:List (Str×Int)}{Q:List (V×V)->Hp->Prop},Q (ps.map λp=>(.str p.1,.int p.2)) H->aQ7 (ps.map λp=>((λσ H Q=>Q (.str p.1) H:TE),(λσ H Q=>Q (.int p.2) H:TE))) σ H Q
 | [],Q,h=>h
 | p::r,Q,h=>ax1 (ps:=r) (Q:=λps H3=>Q ((.str p.1,.int p.2)::ps) H3) h
def ch8(h:bc3 ks vs=Z ps)(h0:ps≠[])(h15:ps.length<=15):JE X (.Dict ks vs pos) (dC<|.dict (mgD<|ps.map λp=>(p.1,.int p.2))):=λρ d q=>by
 cases q;obtain⟨q1,q2,q3,q4⟩:=aY7 (X:=X) (pos:=pos) h;refine B9 (cb8 q1 q4 (q2.trans q3.symm) (by intro z;rw[z]at q2;exact h0<|dS.mp q2.symm)<|by grind) λσ H Q ⟨H0,Hf,s,sl,k⟩ p hp=>ax1 ?_
 refine⟨C2,ps.map λp=>(Sum.inr p.1,.int p.2),by rw[bM];rfl,by simpa using h15,?_⟩;rw[bY4];refine k _ _ (upd Hf p _) (Grow.laid s hp) ⟨p,_,rfl,C2,?_⟩
 have e:al9 [] (ps.map λp=>((Sum.inr p.1:Key),V.int p.2))=mgV (ps.map λp=>(p.1,V.int p.2)):=by
  unfold al9 mgV;rw[List.foldl_map,List.foldl_map]
 rw[e];exact al4 (ay2 ps) (show RepKs X.K _ [] [] from rfl)
end
section
variable {X:Cx}
noncomputable def bW8:List D->Option Bool
 | []=>Z false
 | .bool b::r=>(bW8 r).map λc=>b || c
 | _::_=>O
theorem be8:∀{ds:List D}{c:Bool},bW8 ds=Z c->∃bs:List Bool,ds=bs.map fL/\c=bs.any id
 | [],c,h=>by cases h;exact⟨[],rfl,rfl⟩
 | .bool b::r,c,h=>by
  obtain⟨c',h1,h2⟩:=xmo h;obtain⟨bs,h3,h4⟩:=be8 h1;exact⟨b::bs,by simp[h3],by simp[← h2,h4]⟩
def bD2:U2 X (.builtin "any") (λxs H Q=>X.calm=true/\∃(p:fT) (bs:List Bool),xs=[.ref p]/\SqL X.K H p (bs.map V.bl)/\Q (.bl<|bs.any id) H):=by
 intro pins s σ H xs us Q I r h;obtain⟨hc,p,bs,rfl,hq,q⟩:=h;obtain⟨u,rfl,rx⟩:=X2 r;cases rx;obtain⟨its,rv,pl,hz⟩:=I.list hq;have hlen:=rv.length;have hh:X.A.in1.handled=O:=I.ok.hd hc;have hlt:p < s.heap.objs.size:=by obtain⟨_,e,_⟩:=pl.isList;exact fG e
 refine call_any_walk (wpAny_pyIter_list pl.isList ?_);refine⟨s.heap.objs.size,_,_,_,_,_,λi=>(bs[i]?).getD false,rfl,Walks.list hh _ p (aE hlt) its.toArray,⟨⟨_,fH _ rfl,rfl,rfl⟩,pl.isList.at λo e=>fF _ e⟩,?_,?_⟩
 .intro i v s' Q' E' hv hQ;have hv':its[i]? = Z v:=by simpa using hv
  have:∃b,bs[i]? = Z b:=by
   have:i < its.length:=(ao.mp hv').1;have:i < bs.length:=by simpa using (by grind:i < (bs.map V.bl).length)
   exact⟨bs[i],by simp[this]⟩
  obtain⟨b,hb⟩:=this;obtain⟨u,hu,ru⟩:=rv.get (i:=i) (x:=.bl b) (by simp[hb]);rw[hv']at hu;cases hu;cases ru;exact eW (by simpa [hb] using hQ)
 .intro h' tk hk
  have e:((az its.toArray.size).any λi=>(bs[i]?).getD false)=bs.any id:=by
   have hn:its.toArray.size=bs.length:=by simpa using hlen.symm
   rw[hn,bo];simp only[bc,aR,id];constructor
   .rintro⟨i,hi,h⟩
    exact⟨bs[i],aT hi,by simpa [hi] using h⟩
   .rintro⟨x,hx,h⟩
    obtain⟨i,hi,rfl⟩:=List.mem_iff_getElem.mp hx;exact⟨i,hi,by simpa [hi] using h⟩
  rw[e]
  have I1:Inv X pins σ H { s with heap:=h',toks:=tk }:=by
   have I0:Inv X pins σ H { s with heap:=s.heap.push { cls:=.type "list_iterator", data:=.fields #[.ref p,rawInt 0] } }:=I.kept (t':=s.toks) λb o e=>fF _ e
   refine I.kept (t':=tk) λb o e=>hk b o ?_<|fF _ e
   intro hb;have:b=s.heap.objs.size:=by simpa using hb
   subst this;exact absurd (fG e)<|bz _
  exact⟨.bl<|bs.any id,H,I1,rfl,q⟩
noncomputable def ck9(f:Rho->Option (Bool×List D)):DE:=λρ=>(f ρ).bind λq=>if q.1=true then O else(bW8 q.2).map fL
def cG3(hg:Gl X "any")(hm:X.mg "any" = O)(h:JQ X e f)(hc:X.calm=true:=by rfl)(he:fb [e] X.env=[(false,eval e X.env)]:=by rfl):JE X (.Call (.Name "any" p) [e] [] pos) (ck9 f):=λρ d q=>by
 obtain⟨⟨t,ds⟩,h1,h2⟩:=xbm q;cases t with
 | true=>simp at h2
 | false =>
  simp only[bh,if_false]at h2;obtain⟨c,h3,h4⟩:=xmo h2;subst h4;obtain⟨bs,h5,h6⟩:=be8 h3;subst h5 h6;refine B9 (N7 bD2 hg hm boot_any (D7 (h ρ false _ h1) J2 he) (he:=he)) λσ H Q ⟨H0,Hf,s,sl,k⟩=>?_
  refine⟨H0,Hf,s,sl,λv H1 Hf1 g1 ⟨a,vs,e1,e2,e3⟩=>⟨hc,a,bs,by rw[e1],?_,k _ H1 Hf1 g1 rfl⟩⟩;rw[al3 e3]at e2;exact e2
end
section
variable {P:Program}{w:World}{K:PySem.W.Frag}{mg:Str->Option Value}{base:Heap}{N:List Str}{qual:Str}{scope:Scope}{f:Addr}{cd:Value}{A:Around}{outer:List Env}{s:Shared}{H H1:Hp}{E:XK}
 {pins:List (fT×Obj)}{σ:L2.St}{s1 s':fS}{h2:Heap}{a C:fT}{vs:List fR}
end
noncomputable abbrev RD:=Rho->Option (Str×Rho)
section
variable {X:Cx}{m:Bool}(hx:∀e s,X.xe e s->False)
include hx
noncomputable def cw0(x:Str)(f:DE):RD:=λρ=>(f ρ).map λ_=>(x,ρ)
noncomputable def rNo:RD:=λ_=>O
omit hx in
noncomputable def rIf(t:Rho->Option Bool)(a b:RD):RD:=λρ=>(t ρ).bind λc=>if c=true then a ρ else b ρ
noncomputable def cv9(r:RD)(f:DS)(r2:RD):RD:=λρ=>match r ρ with
 | some x=>Z x
 | none=>match f ρ with
  | some (.nx ρ')=>r2 ρ'
  | _=>O
end
noncomputable def cO8(r:RD)(n:Nat):List D->Option Str:=λds=>(r<|ae3 n ds).map (·.1)
section
variable {X:Cx}{pins:List (Addr×Obj)}{σ:L2.St}{H:Hp}{s:Shared}{a:Addr}{oe:Obj}
noncomputable abbrev fz(oe:Obj)(a:fT):HO:=.frz oe<|.own a
end
section
variable {X:Cx}
noncomputable def dRp(f:DE):DE:=λρ=>(f ρ).bind λd=>match d with
 | .str x=>if x.length<=1000/\x.cps.all (· < 1114112)=true then Z (.str<|reprText x) else O
 | _=>O
noncomputable def cV5:Str->List DE->DE
 | acc,[]=>λ_=>Z<|.str acc
 | acc,f::fs=>λρ=>(f ρ).bind λd=>match d with
  | .str y=>if(acc++y).length<=16777216 then cV5 (acc++y) fs ρ else O
  | _=>O
end
end G
namespace G
def xg0{α:Type}{a:α}{l:List α}:(a::l)[0]? = Z a:=rfl
def xg1{α:Type}{a:α}{i:Nat}{l:List α}:(a::l)[i+1]? = l[i]?:=rfl
def xw0{α:Type}{a b:α}{l:List α}:(a::l).set 0 b=b::l:=rfl
def xw1{α:Type}{a b:α}{i:Nat}{l:List α}:(a::l).set (i+1) b=a::l.set i b:=rfl
def xbs{α β:Type}{a:α}{f:α->Option β}:(Z a).bind f=f a:=rfl
def xms{α β:Type}{a:α}{f:α->β}:(Z a).map f=Z (f a):=rfl
def xca{α:Type}{a:α}{l m:List α}:(a::l)++m=a::(l++m):=rfl
def xna{α:Type}{l:List α}:[]++l=l:=rfl
def xmc{α β:Type}{f:α->β}{a:α}{l:List α}:(a::l).map f=f a::l.map f:=rfl
def xmn{α β:Type}{f:α->β}:[].map f=[]:=rfl
def xnf:(!false)=true:=rfl
def xnt:(!true)=false:=rfl
def xft:(false=true)=False:=by simp
end G
local macro_rules
  | `(‹$x›) => `(some (G.B.val $x))
local macro_rules
  | `(⇑$x) => `(G.dC (PySem.PyData.int $x))
noncomputable section
namespace Sh
open PySem PySem.Spec PyProof.Rows L2 G
def aw1:DS:=(A7 (ab6 (tB2 neD (A1 1) ⇑0)<|A7 (B4 2<|A5 p7 (A1 0) (A1 1)) (A7 (B4 0<|A1 1)<|B4 1 (A1 2)))<|B0 (A1 0))
def O1:List D->Option D:=C0 aw1 3
def h9:DS:=(A7 (B4 2<|A2 O1 (A0 (A1 0)<|A0 (A1 1) A3))<|B0 (B6<|A0 (A5 am7 (A1 0)<|A1 2) (A0 (A5 am7 (A1 1)<|A1 2) A3)))
def at6:List D->Option D:=C0 h9 3
def i8:DS:=(B0<|A5 leI (A5 ac1 (dIx (A8 0) ⇑0)<|dIx (A8 1) ⇑1) (A5 ac1 (dIx (A8 1) ⇑0)<|dIx (A8 0) ⇑1))
def ad7:List D->Option D:=C0 i8 2
def aC5:DS:=(B0<|A2 at6 (A0 (A5 ac1 (dIx (A8 0) ⇑0)<|dIx (A8 1) ⇑0)<|A0 (A5 ac1 (dIx (A8 0) ⇑1)<|dIx (A8 1) ⇑1) A3))
def cm5:List D->Option D:=C0 aC5 2
def aJ8:DS:=(A7 (sIf (tB2 eqD (A1 0)<|S8 A3) (B0<|A5 ac1 ⇑7 (A1 1)) B8)<|B0 (A5 ac8 (dIx (A8 0)<|A5 p7 (A1 1) (Q5<|A8 0))<|A5 ac1 ⇑6553 (A5 am7 (A1 1)<|Q5 (A8 0))))
def aK4:List D->Option D:=C0 aJ8 2
def aQ1:DS:=(A7 (B4 3<|A5 p7 (A5 ac8 (A5 ac1 (A5 p7 (A2 aK4<|A0 (A1 0) (A0 (A1 1) A3)) ⇑2147483563) ⇑69069)<|A5 ac1 ⇑104723 (A5 ac8 (A1 1) ⇑1)) ⇑2147483563)<|A7 (B4 3<|A5 p7 (A5 ac8 (A5 ac1 (A1 3)<|A1 3)<|A5 am7 (A1 3) ⇑3) ⇑2147483399) (B0<|A5 p7 (A5 am7 (A5 p7 (A5 ac8 (A5 ac1 (A1 3)<|A1 3)<|A5 am7 (A1 3) ⇑7) ⇑2147483647) ⇑11) (A1 2)))
def A9:List D->Option D:=C0 aQ1 4
def as8:DS:=(A7 (B4 2<|A1 0)<|A7 (B4 3<|A1 1) (A7 (ab6 (tB2 gtI (A1 2) ⇑0)<|bG8 2 3 (A0 (A5 p7 (A1 3)<|A1 2)<|A0 (A1 2) A3))<|B0 (B6<|A0 (A5 am7 (A1 0)<|A1 3) (A0 (A5 am7 (A1 1)<|A1 3) A3))))
def aa6:List D->Option D:=C0 as8 4
def aP7:DS:=(B0<|A2 aa6 (A0 (A5 ac1 (dIx (A8 0) ⇑0)<|dIx (A8 1) ⇑0)<|A0 (A5 ac1 (dIx (A8 0) ⇑1)<|dIx (A8 1) ⇑1) A3))
def aw5:List D->Option D:=C0 aP7 2
def aP8:DS:=(A7 (B4 2<|A5 ac8 ⇑1 (A2 A9<|A0 (A1 0) (A0 (A1 1)<|A0 ⇑12 A3)))<|A7 (B4 3<|A2 aa6 (A0 (A2 A9<|A0 (A1 0) (A0 (A5 ac8 (A1 1) ⇑1)<|A0 (A5 ac8 (A1 2) ⇑1) A3))<|A0 (A1 2) A3)) (B0<|dIx (qN<|A0 (A1 3) (A0 (A1 3)<|A0 (A1 3) (A0 (B6<|A0 ⇑0 (A0 ⇑1 A3))<|A0 (B6<|A0 ⇑1 (A0 ⇑1 A3)) A3))) (A2 A9<|A0 (A1 0) (A0 (A5 ac8 (A1 1) ⇑2)<|A0 ⇑5 A3))))
def L7:List D->Option D:=C0 aP8 4
def bf5:DS:=(A7 (B4 2<|A2 L7 (A0 (A1 0)<|A0 (A1 1) A3))<|B0 (A5 ac8 (B6<|A0 (A1 2) A3)<|V1 (qN<|C5 1 [2,0,1] (L8 ⇑3) (B5 0) F9 (A2 aw5<|A0 (A1 1) (A0 (A2 L7<|A0 (A1 2) (A0 (A5 ac8 (A5 ac8 (A1 3) ⇑3)<|A5 ac1 ⇑3 (A1 0)) A3)) A3)))))
def Y3:List D->Option D:=C0 bf5 3
def aW8:DS:=(B0<|S9 (ae0 "int"<|A1 0) (bl5<|ae0 "bool" (A1 0)))
def ad5:List D->Option D:=C0 aW8 1
def as9:DS:=(A7 (sIf (M6 (O9<|G7 (ae0 "tuple"<|A1 0))<|M6 (tB2 neD (Q5<|A8 0) ⇑2) (M6 (O9<|G7 (A2 ad5<|A0 (dIx (A8 0) ⇑0) A3))<|O9 (G7<|A2 ad5 (A0 (dIx (A8 0) ⇑1) A3)))) (B0<|dC (.bool false)) B8)<|B0 (S9 (A5 gtI (dIx (A8 0) ⇑1) ⇑0)<|S9 (W3 leI leI ⇑0 (dIx (A8 0) ⇑0)<|dIx (A8 0) ⇑1) (A5 eqD (A2 aa6<|A0 (dIx (A8 0) ⇑0) (A0 (dIx (A8 0) ⇑1) A3))<|A1 0)))
def aX1:List D->Option D:=C0 as9 1
def bn1:DS:=(B0<|S9 (ae0 "int"<|A1 0) (bl5<|ae0 "bool" (A1 0)))
def O6:List D->Option D:=C0 bn1 1
def aK0:DS:=(A7 (sIf (M6 (O9<|G7 (ae0 "tuple"<|A1 0))<|tB2 neD (Q5<|A8 0) ⇑2) (B0<|dC (.bool false)) B8)<|A7 (B4 1<|dIx (A8 0) ⇑0) (A7 (B4 2<|dIx (A8 0) ⇑1)<|A7 (sIf (M6 (O9<|G7 (A2 O6<|A0 (A1 1) A3))<|O9 (G7<|A2 O6 (A0 (A1 2) A3))) (B0<|dC (.bool false)) B8) (B0<|S9 (A5 gtI (A1 2) ⇑0) (S9 (W3 leI leI ⇑0 (A1 1)<|A1 2)<|A5 eqD (A2 O1<|A0 (A1 1) (A0 (A1 2) A3)) ⇑1))))
def X0:List D->Option D:=C0 aK0 3
def aQ2:DS:=(A7 (sIf (M6 (O9<|G7 (ae0 "tuple"<|A1 0))<|tB2 neD (Q5<|A8 0) ⇑4) (B0<|dC (.bool false)) B8)<|A7 (sIf (O9<|G7 (aL2<|qN (C5 1 [] (M9<|A1 0) (B5 0) F9<|A2 X0 (A0 (A1 0) A3)))) (B0<|dC (.bool false)) B8) (B0<|aL2 (qN<|C5 1 [0] (M9<|bd8 (A1 0) (B7 ⇑1) C7) (B5 0) F9 (A2 ad7<|A0 (A1 0) (A0 (dIx (A8 1) ⇑0) A3)))))
def aj2:List D->Option D:=C0 aQ2 1
def aw0:DS:=(B0<|S9 (A2 O6<|A0 (A1 0) A3) (W3 leI leI ⇑1 (A1 0) ⇑8))
def aa8:List D->Option D:=C0 aw0 1
def an7:DS:=(A7 (sIf (M6 (O9<|G7 (ae0 "tuple"<|A1 0))<|tB2 neD (Q5<|A8 0) ⇑3) (B0<|dC (.bool false)) B8)<|B0 (S9 (A2 aa8<|A0 (dIx (A8 0) ⇑0) A3)<|S9 (A2 aa8<|A0 (dIx (A8 0) ⇑1) A3) (ae0 "tuple"<|dIx (A8 0) ⇑2)))
def o0:List D->Option D:=C0 an7 1
def aJ9:DS:=(A7 (sIf (O9<|G7 (A2 o0<|A0 (A1 0) A3)) (B0<|dC (.bool false)) B8)<|A7 (B4 1<|dIx (A8 0) ⇑2) (B0<|S9 (A5 eqD (Q5<|A8 1)<|A5 D5 (dIx (A8 0) ⇑0) (dIx (A8 0) ⇑1)) (aL2<|qN (C5 1 [] (M9<|A1 1) (B5 0) F9<|A2 aj2 (A0 (A1 0) A3)))))
def an9:List D->Option D:=C0 aJ9 2
def az5:DS:=(B0<|S8 (C5 1 [0] (L8<|A5 D5 (A1 0) (A1 1)) (B5 0) F9<|B6 (A0 (A5 p7 (A1 0)<|A1 1)<|A0 (A5 am7 (A1 0)<|A1 1) A3)))
def bf6:List D->Option D:=C0 az5 2
def az8:DS:=(B0<|S9 (W3 leI ltI ⇑0 (A1 1)<|dIx (A8 0) ⇑0) (W3 leI ltI ⇑0 (A1 2)<|dIx (A8 0) ⇑1))
def Y6:List D->Option D:=C0 az8 3
def v6:DS:=(B0<|A5 B1 (A5 D5 (A1 2)<|dIx (A8 0) ⇑0) (A1 1))
def Q0:List D->Option D:=C0 v6 3
def av7:DS:=(A7 (sIf (O9<|G7 (A2 Y6<|A0 (A1 0) (A0 (A1 1)<|A0 (A1 2) A3))) (B0<|dC (.tuple [(.tuple [(.int 0),(.int 1)]),(.tuple [(.int 0),(.int 1)]),(.tuple [(.int 0),(.int 1)]),(.tuple [(.int 0),(.int 1)])])) B8)<|B0 (dIx (qE<|dIx (A8 0) ⇑2)<|A2 Q0 (A0 (A1 0)<|A0 (A1 1) (A0 (A1 2) A3))))
def aw3:List D->Option D:=C0 av7 3
def av9:DS:=(A7 (aE2 4<|C5 1 [0,1] (L8<|A5 D5 (A1 2) (A1 3)) (B5 0) F9 (A2 Y3<|A0 (A1 1) (A0 (A5 B1 (A1 2)<|A5 D5 ⇑12 (A1 0)) A3)))<|A7 (sIf (tB2 eqD (A2 A9<|A0 (A1 0) (A0 (A5 B1 (A1 1) ⇑7)<|A0 ⇑3 A3)) ⇑0) (B4 4<|A5 D5 (E3 (A1 4) C7<|B7 ⇑1) (A5 D5 (A1 2)<|A1 3)) B8) (B0<|B6 (A0 (A1 2)<|A0 (A1 3) (A0 (V1<|A8 4) A3))))
def ai9:List D->Option D:=C0 av9 5
def bE5:DS:=(B0<|dIx (A8 0) ⇑0)
def aj1:List D->Option D:=C0 bE5 1
def bn4:DS:=(B0<|A5 eqD (A2 aj1<|A0 (A1 0) A3) (dC<|.str "layer"))
def R4:List D->Option D:=C0 bn4 1
def bE6:DS:=(B0<|A5 eqD (A2 aj1<|A0 (A1 0) A3) (dC<|.str "tone"))
def aa7:List D->Option D:=C0 bE6 1
def bf3:DS:=(B0<|dIx (A8 0) ⇑2)
def O2:List D->Option D:=C0 bf3 1
def bE0:DS:=(B0<|dIx (A8 0) ⇑2)
def ai7:List D->Option D:=C0 bE0 1
def aL6:DS:=(B0<|dIx (A8 0) ⇑3)
def X1:List D->Option D:=C0 aL6 1
def bn3:DS:=(B0<|dIx (A8 0) ⇑4)
def ad6:List D->Option D:=C0 bn3 1
def bE4:DS:=(B0<|dIx (A8 0) ⇑5)
def ai8:List D->Option D:=C0 bE4 1
def bW9:DS:=(B0<|dIx (A8 0) ⇑6)
def at3:List D->Option D:=C0 bW9 1
def bE3:DS:=(B0<|dIx (A8 0) ⇑7)
def aw4:List D->Option D:=C0 bE3 1
def bm9:DS:=(B0<|dIx (A8 0) ⇑8)
def R3:List D->Option D:=C0 bm9 1
def aL7:DS:=(B0<|dIx (A8 0) ⇑5)
def E7:List D->Option D:=C0 aL7 1
def aQ0:DS:=(A7 (B4 3<|A5 eqD (A2 A9<|A0 (A1 0) (A0 (A1 1)<|A0 ⇑2 A3)) ⇑0)<|A7 (ad9 4 A3) (A7 (X8 (L8<|A1 2) (B5 5)<|A7 (B4 6<|aI1 (dC<|.str "") (qN<|C5 1 [0,1,5] (L8 ⇑2) (B5 0) F9 (an2 (dC<|.str "abcdefghijklmnopqrstuvwxyz")<|A2 A9 (A0 (A1 1)<|A0 (A5 B1 (A5 B1 (A5 B1 (A1 2) ⇑1)<|A5 D5 ⇑3 (A1 3))<|A1 0) (A0 ⇑26 A3))))) (A7 (B4 6<|A5 bx8 (bC0 (A1 6) C7<|B7 (A2 A9<|A0 (A1 0) (A0 (A5 B1 (A5 B1 (A1 1) ⇑3)<|A5 D5 ⇑3 (A1 5))<|A0 ⇑3 A3))) (dIx (qN<|A0 ⇑1 (A0 ⇑2 A3))<|A2 A9 (A0 (A1 0)<|A0 (A5 B1 (A5 B1 (A1 1) ⇑2)<|A5 D5 ⇑3 (A1 5)) (A0 ⇑2 A3))))<|x9 4 (dIx (qN<|A0 (A5 B1 (A1 6)<|an2 (dC<|.str "abcdefghijklmn") (A1 5)) (A0 (A5 B1 (an2 (dC<|.str "abcdefghijklmn")<|A1 5)<|A1 6) A3))<|bl6 (A1 3))))<|aR0 4 (B0<|A1 4)))
def aj0:List D->Option D:=C0 aQ0 7
def ae5:DS:=(B4 4<|A2 L7 (A0 (A1 0)<|A0 (A1 1) A3))
def ae4:DS:=(B4 5<|A5 gtI (A2 A9<|A0 (A1 0) (A0 (A5 B1 (A1 1) ⇑3)<|A0 ⇑6 A3)) ⇑0)
def X3:DS:=(sIf (tB2 eqD (A2 A9<|A0 (A1 0) (A0 (A5 B1 (A1 1) ⇑4)<|A0 ⇑6 A3)) ⇑0) (B0<|B6 (A0 (dC<|.str "tone")<|A0 (A1 2) (A0 (dIx (qN<|A0 (dC<|.str "turn") (A0 (dC<|.str "grey")<|A0 (dC<|.str "round") A3))<|A2 A9 (A0 (A1 0)<|A0 (A5 B1 (A1 1) ⇑5) (A0 ⇑3 A3)))<|A0 (A1 4) (A0 (A1 5) A3)))) B8)
def ax8:DS:=(B4 6<|dIx (qN<|A0 (dC<|.str "over") (A0 (dC<|.str "multiply")<|A0 (dC<|.str "screen") (A0 (dC<|.str "plus")<|A0 (dC<|.str "atop") (A0 (dC<|.str "cut") A3)))) (A2 A9<|A0 (A1 0) (A0 (A5 B1 (A1 1) ⇑5)<|A0 ⇑6 A3)))
def r8:DS:=(sIf (tB2 gtI (A2 A9<|A0 (A1 0) (A0 (A5 B1 (A1 1) ⇑6)<|A0 ⇑3 A3)) ⇑0) (B4 6<|A1 3) B8)
def ax7:DS:=(B4 7<|A5 B1 ⇑1 (A2 A9<|A0 (A1 0) (A0 (A5 B1 (A1 1) ⇑7)<|A0 ⇑3 A3)))
def ax6:DS:=(B4 8<|A5 B1 ⇑1 (A2 A9<|A0 (A1 0) (A0 (A5 B1 (A1 1) ⇑8)<|A0 ⇑3 A3)))
def ax5:DS:=(B4 9<|dC .none)
def r6:DS:=(sIf (tB2 eqD (A2 A9<|A0 (A1 0) (A0 (A5 B1 (A1 1) ⇑9)<|A0 ⇑3 A3)) ⇑0) (B4 9<|V1 (qN<|C5 1 [0,1] (L8<|A5 D5 (A1 7) (A1 8)) (B5 0) F9 (A2 L7<|A0 (A1 1) (A0 (A5 B1 (A5 B1 (A1 2) ⇑20)<|A5 D5 ⇑3 (A1 0)) A3)))) B8)
def ax4:DS:=(B4 10<|A5 ao2 (A2 A9<|A0 (A1 0) (A0 (A5 B1 (A1 1) ⇑10)<|A0 ⇑4 A3)) ⇑1)
def ao5:DS:=(B4 11<|A5 ao2 (A2 A9<|A0 (A1 0) (A0 (A5 B1 (A1 1) ⇑11)<|A0 ⇑4 A3)) ⇑1)
def g7:DS:=(sIf (tB2 eqD (A2 A9<|A0 (A1 0) (A0 (A5 B1 (A1 1) ⇑12)<|A0 ⇑3 A3)) ⇑0) (ao7 (B6<|A0 ⇑3 (A0 ⇑3<|A0 ⇑0 (A0 ⇑0<|A0 (dC .none) A3)))<|S7 5 (C4 (B5 7)<|C4 (B5 8) (C4 (B5 10)<|C4 (B5 11) (C4 (B5 9) U0)))) B8)
def ao4:DS:=(B4 12<|A2 ai9 (A0 (A1 0)<|A0 (A5 B1 (A1 1) ⇑50) (A0 (A1 7)<|A0 (A1 8) A3)))
def ab0:DS:=(B0<|B6 (A0 (dC<|.str "layer")<|A0 (A1 2) (A0 (A1 6)<|A0 (A1 4) (A0 (A1 5)<|A0 (A1 10) (A0 (A1 11)<|A0 (A1 9) (A0 (A1 12) A3))))))
def aJ5:DS:=(A7 ae5<|A7 ae4 (A7 X3<|A7 ax8 (A7 r8<|A7 ax7 (A7 ax6<|A7 ax5 (A7 r6<|A7 ax4 (A7 ao5<|A7 g7 (A7 ao4 ab0)))))))
def Y4:List D->Option D:=C0 aJ5 13
def aP9:DS:=(A7 (B4 4<|dIx (qN<|A0 (dC<|.str "over") (A0 (dC<|.str "multiply")<|A0 (dC<|.str "screen") (A0 (dC<|.str "plus") A3))) (A2 A9<|A0 (A1 0) (A0 (A1 1)<|A0 ⇑4 A3)))<|A7 (B4 5<|A2 A9 (A0 (A1 0)<|A0 (A5 B1 (A1 1) ⇑1) (A0 (A5 B1 (A1 2) ⇑1) A3))) (A7 (ad9 6<|C5 1 [0,4,3,1] (L8<|A1 5) (B5 0) F9 (A2 Y4<|A0 (A1 1) (A0 (A5 B1 (A5 B1 (A1 4) ⇑20)<|A5 D5 ⇑170 (A1 0))<|A0 (dIx (A8 3)<|A1 0) (A0 (A1 2) A3))))<|A7 (X8 (L8<|A2 A9 (A0 (A1 0)<|A0 (A5 B1 (A1 1) ⇑2) (A0 ⇑3 A3))) (B5 7)<|A7 (B4 8<|A2 A9 (A0 (A1 0)<|A0 (A5 B1 (A5 B1 (A1 1) ⇑3)<|A5 D5 ⇑5 (A1 7)) (A0 (A5 B1 (Q5<|A8 6) ⇑1) A3))) (A7 (B4 9<|A5 B1 (A1 8) (A2 A9<|A0 (A1 0) (A0 (A5 B1 (A5 B1 (A1 1) ⇑4)<|A5 D5 ⇑5 (A1 7))<|A0 ⇑3 A3)))<|A7 (B4 10<|dIx (qN<|A0 (B6<|A0 ⇑1 (A0 ⇑1 A3)) (A0 (A2 L7<|A0 (A1 0) (A0 (A5 B1 (A5 B1 (A1 1) ⇑5)<|A5 D5 ⇑5 (A1 7)) A3)) A3)) (A2 A9<|A0 (A1 0) (A0 (A5 B1 (A5 B1 (A1 1) ⇑6)<|A5 D5 ⇑5 (A1 7))<|A0 ⇑2 A3))) (A7 (B4 11<|dIx (qN<|A0 (A1 4) (A0 (dC<|.str "atop")<|A0 (A1 4) (A0 (dC<|.str "cut") A3))) (A2 A9<|A0 (A1 0) (A0 (A5 B1 (A5 B1 (A1 1) ⇑7)<|A5 D5 ⇑5 (A1 7))<|A0 ⇑4 A3)))<|A7 (B4 12<|B6 (A0 (dC<|.str "group")<|A0 (dIx (A8 3)<|A5 B1 (A1 2) (A1 7)) (A0 (A1 11)<|A0 (A1 10) (A0 (A5 gtI (A2 A9<|A0 (A1 0) (A0 (A5 B1 (A5 B1 (A1 1) ⇑14)<|A1 7)<|A0 ⇑7 A3)) ⇑0) A3)))) (bG7 6 (B7<|A1 8) (B7<|A1 9)<|A0 (A5 B1 (A1 12)<|B6 (A0 (V1<|qE (bC1 (A8 6) (B7<|A1 8)<|B7 (A1 9))) A3)) A3)))) (B0<|V1 (A8 6))))
def aw6:List D->Option D:=C0 aP9 13
def az6:DS:=(A7 (B4 4<|A5 B1 ⇑1 (A2 A9<|A0 (A1 0) (A0 (A1 1)<|A0 ⇑3 A3)))<|A7 (B4 5<|A5 B1 ⇑1 (A2 A9<|A0 (A1 0) (A0 (A5 B1 (A1 1) ⇑1)<|A0 ⇑3 A3))) (B0<|B6 (A0 (A1 4)<|A0 (A1 5) (A0 (A2 aw6<|A0 (A1 0) (A0 (A5 B1 (A1 1) ⇑2)<|A0 (A1 2) (A0 (A1 3) A3))) A3))))
def v9:List D->Option D:=C0 az6 6
def bn5:DS:=(B0<|A5 eqD (A2 aj1<|A0 (A1 0) A3) (dC<|.str "group"))
def N1:List D->Option D:=C0 bn5 1
def bE2:DS:=(B0<|dIx (A8 0) ⇑1)
def W9:List D->Option D:=C0 bE2 1
def an6:DS:=(B0<|A5 B1 (E3 (A1 0) C7<|B7 ⇑5) (B6<|A0 (A1 1) A3))
def O5:List D->Option D:=C0 an6 2
def aJ3:DS:=(A7 (X8 (bb1<|qE (A1 0)) (S7 2<|C4 (B5 2) (C4 (B5 3) U0))<|sIf (tB2 eqD (A2 W9<|A0 (A1 3) A3)<|A1 1) (B0<|A1 2) B8)<|B0 (dC .none))
def F6:List D->Option D:=C0 aJ3 4
def K9(self:List D->Option D):DS:=(A7 (sIf (tB2 al8 (A2 F6<|A0 (A1 0) (A0 (A1 1) A3))<|dC .none) (B0<|A1 0) B8)<|A7 (X8 (M9<|A1 0) (B5 2)<|sIf (G7<|A2 N1 (A0 (A1 2) A3)) (A7 (B4 3<|A2 self (A0 (A2 E7<|A0 (A1 2) A3)<|A0 (A1 1) A3))<|sIf (tB2 al8 (A1 3)<|dC .none) (B0<|A1 3) B8) B8) (B0<|dC .none))
def F8:Nat->List D->Option D
 | 0=>λ_=>O
 | k+1=>C0 (K9<|F8 k) 4
def ah2:DS:=(A7 (B4 2<|A2 (F8 12) (A0 (dIx (A8 0) ⇑2)<|A0 (A1 1) A3))<|A7 (sIf (tB2 isB (A1 2)<|dC .none) E1 B8) (B0<|A1 2))
def U7:List D->Option D:=C0 ah2 3
def K6(self:Nat->List D->Option D):DS:=(A7 (sIf (tB2 al8 (A2 F6<|A0 (A1 0) (A0 (A1 1) A3))<|dC .none) (B0<|A1 2) B8)<|B0 (V1<|qN (C5 1 [1,2] (M9<|A1 0) (B5 0) F9<|A2 (self 1) (A0 (A1 0)<|A0 (A1 1) (A0 (A1 2) A3)))))
def J4(self:Nat->List D->Option D):DS:=(A7 (sIf (O9<|G7 (A2 N1<|A0 (A1 0) A3)) (B0<|A1 0) B8)<|B0 (A2 O5<|A0 (A1 0) (A0 (A2 (self 0)<|A0 (A2 E7<|A0 (A1 0) A3) (A0 (A1 1)<|A0 (A1 2) A3)) A3)))
def al0:Nat->Nat->List D->Option D
 | 0=>λ_ _=>O
 | k+1=>λi=>match i with
  | 0=>C0 (K6<|al0 k) 3
  | 1=>C0 (J4<|al0 k) 3
  | _=>λ_=>O
def G6(k:Nat):List D->Option D:=al0 k 0
def J5(k:Nat):List D->Option D:=al0 k 1
def f7:DS:=(B0<|B6 (A0 (dIx (A8 0) ⇑0)<|A0 (dIx (A8 0) ⇑1) (A0 (A2 (G6 12)<|A0 (dIx (A8 0) ⇑2) (A0 (A1 1)<|A0 (A1 2) A3)) A3)))
def S4:List D->Option D:=C0 f7 3
def az3:DS:=(A7 (B4 3<|A2 U7 (A0 (A1 0)<|A0 (A1 1) A3))<|A7 (B4 4<|A2 F6 (A0 (A1 3)<|A0 (A1 1) A3)) (B0<|A2 S4 (A0 (A1 0)<|A0 (A1 1) (A0 (A5 B1 (A5 B1 (E3 (A1 3) C7<|B7 (A1 4))<|B6 (A0 (A1 2) A3))<|E3 (A1 3) (B7<|A5 B1 (A1 4) ⇑1) C7) A3))))
def v8:List D->Option D:=C0 az3 5
def bu9(self:List D->Option D):DS:=(A7 (ad9 1 A3)<|A7 (X8 (M9<|A1 0) (B5 2)<|A7 (x9 1<|A1 2) (sIf (tB2 eqD (dIx (A8 2) ⇑0)<|dC (.str "group")) (ad9 1<|bx7 (A8 1) (qE<|A2 self (A0 (dIx (A8 2) ⇑5) A3))) B8)) (aR0 1<|B0 (A1 1)))
def K2:Nat->List D->Option D
 | 0=>λ_=>O
 | k+1=>C0 (bu9<|K2 k) 3
end Sh
namespace G
open PySem PySem.Spec PyProof.Rows L2
abbrev FnD:=List D->Option D
structure Sg where
 fn:List (Str×FnD×Nat)
 cs:List (Str×D)
 bl:List Str
structure Kx where
 N:List Str
 sc:Scope
 df:Bool
 own:List Nat
 cpt:List Nat
 tx:List Nat
 dx:List Nat
 old:Bool
 fz:List (Nat×List Nat)
 hc:List ((Nat×Nat)×List Nat)
def biS(K:ad)(n:Nat)(F:List D->Option D):List V->Hp->VK->Prop:=λvs H Q=>vs.length=n/\∃Hf ds d,E8 Hf H/\Reps K Hf ds vs/\F ds=Z d/\∀v H' Hf',Grow H Hf H' Hf'->Rep K Hf' d v->Q v H'
def cL8(x:Str)(F:FnD)(n:Nat):Prop:=0 < n/\x ≠ "__name__" /\ ∃nm,fk x=Z (.builtin nm)/\∀X:Cx,X.A.units+64 < cLine->U2 X (.builtin nm) (biS X.K n F)
def cT6(hb:cL8 x F n)(hu:X.A.units+64 < cLine)(hg:Gl X x)(hm:X.mg x=O)(ha:JA X (e::es) g)(hn:(e::es).length=n)(hdb:(x==("__debug__" : Str))=false)
  (he:fb (e::es) X.env=(false,eval e X.env)::fb es X.env) (hpl:(backTo pos<|fb es X.env).any (·.1)=false):JE X (.Call (.Name x p) (e::es) [] pos) (A2 F g):=λρ d q=>by
 obtain⟨ds,h1,h2⟩:=xbo q;obtain⟨_,hnn,nm,hv,hc⟩:=hb;refine B9 (N7 (hc X hu) hg hm hv (ha.run ρ ds h1) hnn hdb he hpl) λσ H Q ⟨H0,Hf,s,sl,kk⟩=>?_
 exact⟨H0,Hf,s,sl,λvs H1 Hf1 g1 r1=>⟨by rw[r1.length,ha.len ρ ds h1,hn],Hf1,ds,d,g1.sub,r1,h2,λv H2 Hf2 g2 r2=>kk v H2 Hf2 (g1.trans g2) r2⟩⟩
def dd4(X:Cx)(x:Str)(F:FnD)(n:Nat):Prop:=(∃(k:Nat) (f:fT) (fd:fj) (ps:List Str),FnOk X.prog X.w X.K X.mg X.base CX0 k f fd ps (spF X.K n F)/\Room k X.A/\X.mg x=Z (.ref f)/\bH X.K (.ref f)=true/\f9 X.K fd ps [])\/(X.mg x=O/\cL8 x F n)
structure Fit (S:Sg) (c:Kx) (X:Cx):Prop where
 N:X.N=c.N
 sc:X.env.scope=c.sc
 nd:c.N.Nodup
 calm:X.calm=true
 xe:X.xe=λ_ _=>False
 units:X.A.units+64 < cLine
 df:c.df=true->(∀x,X.fn x=true)/\c.sc.kind=.function
 fns:∀x F n,S.fn.lookup x=Z (F,n)->dd4 X x F n
 css:∀x d,S.cs.lookup x=Z d->∃u,bf1 X.K d u/\X.mg x=Z u
 bls:∀x,S.bl.contains x=true->X.mg x=O
def pl:Expr->Bool
 | .Starred ..=>false
 | .Slice ..=>false
 | .Set ..=>false
 | _=>true
def aS3:Expr->Bool
 | .Call ..=>false
 | _=>true
def isC:Expr->Bool
 | .ListComp ..=>true
 | .SetComp ..=>true
 | .DictComp ..=>true
 | _=>false
def plT:Expr->Bool
 | .UnaryOp ..=>false
 | .BoolOp ..=>false
 | .IfExp ..=>false
 | .Compare ..=>false
 | _=>true
def am3(x:Str):List Str->Option Nat
 | []=>O
 | y::r=>if y==x then Z 0 else(am3 x r).map (·+1)
theorem ba7:∀{l:List Str}{i:Nat},am3 x l=Z i->l[i]? = Z x
 | [],i,h=>by cases h
 | y::r,i,h=>by
  unfold am3 at h;split at h
  .rename_i e;cases h;simp only[beq_iff_eq]at e;subst e;rfl
  .obtain⟨j,h1,h2⟩:=xmo h;subst h2;simpa using ba7 h1
def au6:List Str->Bool
 | []=>true
 | x::r=>!(r.contains x)&&au6 r
theorem au5:∀{l:List Str},au6 l=true->l.Nodup
 | [],_=>List.nodup_nil
 | x::r,h=>by
  unfold au6 at h;simp only[ar,bp]at h;refine be.mpr ⟨λz=>?_,au5 h.2⟩;have:=h.1;rw[List.contains_iff_mem.mpr z]at this;cases this
def bv4(sc:Scope)(x:Str):Bool:=(match sc.names.lookup x with|some .local=>true|some .cell=>true|some .free=>true|_=>false) && !(x==("__debug__" : Str)) && !(x==("__classdict__" : Str))
def bM7(c:Kx)(x:Str):Bool:=(match c.sc.names.lookup x with|some .local=>true|some .cell=>c.df|_=>false)
def bR2(sc:Scope)(x:Str):Bool:=(match sc.names.lookup x with|some .globalImplicit=>true|_=>false) && !(x==("__debug__" : Str))
def biB(S:Sg)(c:Kx)(w x:Str):Bool:=x==w&&S.bl.contains w&&bR2 c.sc w
section
variable {X:Cx}{S:Sg}{c:Kx}
def aB5(F:Fit S c X)(h:bv4 c.sc x=true):Vis X.env.scope x/\(x==("__debug__" : Str))=false/\(x==("__classdict__" : Str))=false:=by
 unfold bv4 at h;simp only[ar,bp]at h;obtain⟨⟨h1,h2⟩,h3⟩:=h;refine⟨?_,h2,h3⟩;rw[F.sc];unfold Vis;split at h1
 .rename_i e;exact .inl e
 .rename_i e;exact .inr<|.inl e
 .rename_i e;exact .inr<|.inr e
 .cases h1
def bq8(F:Fit S c X)(h:bM7 c x=true):L2.Loc X.env.scope x/\(X.fn x=true\/X.env.scope.names.lookup x=Z .local):=by
 unfold bM7 at h;rw[F.sc];unfold L2.Loc;split at h
 .rename_i e;exact⟨.inl e,.inr e⟩
 .rename_i e;exact⟨.inr e,.inl<|(F.df h).1 x⟩
 .cases h
def aT9(F:Fit S c X)(h:bR2 c.sc x=true):Gl X x/\(x==("__debug__" : Str))=false:=by
 unfold bR2 at h;simp only[ar,bp]at h;refine⟨?_,h.2⟩;unfold Gl Env.kindOf;rw[F.sc];have h1:=h.1;split at h1
 .rename_i e;exact e
 .cases h1
def L9(F:Fit S c X)(h:biB S c w x=true):x=w/\Gl X w/\X.mg w=O:=by
 unfold biB at h;simp only[ar,beq_iff_eq]at h;exact⟨h.1.1,(aT9 F h.2).1,F.bls _ h.1.2⟩
def J8(h:pl e=true)(es:List Expr)(env:Env):fb (e::es) env=(false,eval e env)::fb es env:=by cases e<;>first|rfl|cases h
def bI3(h:pl e=true):as3 e:=by
 intro o i;cases e<;>first|rfl|cases h
def aB7(h:pl e=true)(op:CmpOp):behindInMarks op e=false:=by cases e<;>first|rfl|cases h
def bo9(h:pl e=true)(env:Env)(x:fR):fu e env x=pure x:=by cases e<;>first|rfl|cases h
def af7(h:aS3 o=true)(attr:Str)(env:Env)(t:Sem fR):fB o attr env t=t:=by cases o<;>first|rfl|cases h
def aF2(h:isC e=false)(t:Option Expr)(l:Nat)(env:Env):swapsWith e t l env=pure false:=by cases e<;>first|rfl|cases h
def bI4(h:plT e=true)(env:Env)(whole:Sem fR):isTrue e env whole=(do let v ← whole;standAt e.pos;holding [v] (truthy v)):=by cases e<;>first|rfl|cases h
end
abbrev DA:=Rho->Option (List D)
abbrev DQ:=Rho->Option (Bool×List D)
abbrev DT:=Rho->Option Bool
abbrev DG:=D->Rho->Option Rho
def dNo:DE:=λ_=>O
def aNo:DA:=λ_=>O
def qNo:DQ:=λ_=>O
def tNo:DT:=λ_=>O
def gNo:DG:=λ_ _=>O
structure Ev where
 e:Kx->Expr->DE
 q:Kx->Expr->DQ
 n:Kx->Expr->DA
 t:Kx->Expr->DT
 g:Kx->Expr->DG
 b:Kx->List Stmt->DS
def be2:CmpOp->D->D->Option D
 | .Lt=>ltI | .LtE=>leI | .Gt=>gtI | .GtE=>geI | .Eq=>eqD | .NotEq=>neD | .Is=>isB | .IsNot=>al8 | .In=>inD false | .NotIn=>inD true
def evA(f:Expr->DE):List Expr->DA
 | []=>A3
 | e::es=>if pl e then A0 (f e) (evA f es) else aNo
def bS5(f:Expr->DE)(op:BoolOp):List Expr->DE
 | []=>dNo
 | [a]=>f a
 | a::b::r=>match op with
  | .And=>S9 (f a)<|bS5 f op (b::r)
  | .Or=>dOr (f a)<|bS5 f op (b::r)
def bS4(f:Expr->DT)(op:BoolOp):List Expr->DT
 | []=>tNo
 | [a]=>f a
 | a::b::r=>match op with
  | .And=>p9 (f a)<|bS4 f op (b::r)
  | .Or=>M6 (f a)<|bS4 f op (b::r)
def evO(f:Expr->DE):Option Expr->Rho->Option (Option Int)
 | none=>C7
 | some e=>B7<|f e
def cI4(f:Expr->DG):List Expr->List D->Rho->Option Rho
 | []=>U0
 | e::es=>C4 (f e)<|cI4 f es
def bS2(f:Expr->DT):List Expr->DT
 | []=>F9
 | [t]=>f t
 | _=>tNo
def Y7:Expr->List Str
 | .Name x _=>[x]
 | .Tuple es _ _=>es.filterMap λ| .Name x _=>Z x|_=>O
 | _=>[]
def rl(scope sc:Scope):Scope:={ scope with names:=scope.names.map λ(n,k)=>if(k == .free&&sc.kind == .function&&sc.names.lookup n==Z .cell) then(n,.cell) else(n,k) }
def bj7(n:Nat)(caps l:List Nat):List Nat:=(az caps.length).filterMap λi=>match caps[i]? with|some j=>if l.contains j then Z (n+i) else O|none=>O
def cO7(c:Kx)(j:Nat):Str:=(c.N[j]?).getD ""
def inner(c:Kx)(tn:List Str)(caps:List Nat)(scope:Scope):Kx :=
 { N:=tn++caps.map (cO7 c),sc:=rl scope c.sc,df:=false,own:=bj7 tn.length caps c.own,cpt:=[],tx:=bj7 tn.length caps c.tx,dx:=bj7 tn.length caps c.dx,old:=c.old,fz:=[],hc:=c.hc }
def isList:Expr->Bool
 | .List ..=>true
 | .ListComp ..=>true
 | _=>false
def ac5(c:Kx)(l:List Nat):Expr->Bool
 | .Name x _=>(match am3 x c.N with|some i=>l.contains i|none=>false)
 | _=>false
def cH2:Expr->Bool
 | .Constant (.str _) _ _=>true
 | _=>false
def cN3(S:Sg)(c:Kx):Expr->Bool
 | .Constant (.str _) _ _=>true
 | .Name x _=>(match am3 x c.N with|some _=>false|none=>(match S.cs.lookup x with|some (.str _)=>true|_=>false))
 | _=>false
def opW(S:Sg)(c:Kx)(op:CmpOp)(b:Expr):D->D->Option D:=if cN3 S c b then(match op with
 | .In=>inS false
 | .NotIn=>inS true
 | _=>be2 op) else if ac5 c c.dx b then(match op with
 | .In=>inK false
 | .NotIn=>inK true
 | _=>be2 op) else be2 op
def bb0:Expr->Bool
 | .Tuple ..=>true
 | _=>false
def cu2(x:Str):Option String:=if x == "int" then Z "int" else if x == "bool" then Z "bool" else if x == "str" then Z "str" else if x == "tuple" then Z "tuple" else if x == "list" then Z "list" else O
section
variable (S:Sg) (r:Ev)
def evR(c:Kx)(tg:Expr)(a:Expr):DA:=match a with
 | .Call f as kw _=>(match f,as,kw with
  | .Name y _,[e],[]=>(match e with
   | .Call f2 as2 kw2 _=>(match f2,as2,kw2 with
    | .Name z _,[b],[]=>if biB S c "list" y&&biB S c "enumerate" z&&bb0 tg&&pl b then λ_=>O else λ_=>O
    | _,_,_=>λ_=>O)
   | _=>λ_=>O)
  | _,_,_=>λ_=>O)
 | _=>λ_=>O
def evI(c:Kx)(tg it:Expr):DA:=match it with
 | .Call (.Name x _) [a] [] _=>if biB S c "reversed" x then evR S c tg a else if biB S c "range" x&&pl a then L8 (r.e c a) else if biB S c "enumerate" x&&bb0 tg&&pl a then bb1 (qE<|r.e c a) else M9 (r.e c it)
 | .Call (.Name x _) [a,b] [] _=>if biB S c "range" x&&pl a&&pl b then(λ_=>O) else if biB S c "zip" x&&bb0 tg&&pl a&&pl b then(λ_=>O) else M9 (r.e c it)
 | _=>if ac5 c c.tx it then cj1 (r.e c it) else M9 (r.e c it)
def evC(c:Kx)(ex:Expr):DA:=match ex with
 | .ListComp elt [⟨tgt,iter,ifs,0⟩] scope pos =>
  let tn:=Y7 tgt
  let caps:=(c.hc.lookup (pos.line,pos.col)).getD []
  let c':=inner c tn caps scope
  if aC3 c.N c'.N tn.length caps c.sc scope&&au6 c'.N&&pl iter then C5 tn.length caps (evI S r c tgt iter) (r.g c' tgt) (bS2 (r.t c') ifs) (r.e c' elt) else aNo
 | _=>aNo
def bf8(c:Kx)(x:Str)(a:Expr):DE :=
 if !(pl a) then dNo
 else if biB S c "len" x then(match a with
  | .Call (.Name y _) [e] [] _=>if biB S c "set" y&&pl e then ar5 (r.q c e) else Q5 (r.q c a)
  | _=>if ac5 c c.tx a then bt3 (r.e c a) else Q5 (r.q c a))
 else if biB S c "tuple" x then V1 (r.q c a)
 else if biB S c "all" x then aL2 (r.q c a)
 else if biB S c "any" x then ck9 (r.q c a)
 else if biB S c "dict" x then bd9 (r.q c a)
 else if biB S c "int" x then bl6 (r.e c a)
 else if biB S c "str" x then dNo
 else if biB S c "abs" x then cl0 (r.e c a)
 else if biB S c "min" x then dNo
 else if biB S c "max" x then bt2 (r.q c a)
 else dNo
def bf7(c:Kx)(x:Str)(a b:Expr):DE :=
 if !(pl a) then dNo
 else if biB S c "isinstance" x then(match b with
  | .Name y _=>(match cu2 y with
   | some T=>if biB S c y y then ae0 T (r.e c a) else dNo
   | none=>dNo)
  | _=>dNo)
 else if !(pl b) then dNo
 else if biB S c "min" x then aH9 (r.e c a) (r.e c b)
 else if biB S c "max" x then aI0 (r.e c a) (r.e c b)
 else dNo
def bF0(c:Kx)(x:Str)(args:List Expr)(ex:Expr):DE:=match S.fn.lookup x with
 | some (F,n)=>if bR2 c.sc x&&args.length==n&&args.all pl then A2 F (evA (r.e c) args) else dNo
 | none=>match args with
  | [a]=>if biB S c "list" x then S8 (r.n c ex) else bf8 S r c x a
  | [a,b]=>bf7 S r c x a b
  | _=>dNo
def cs2(c:Kx)(a i:Expr):DE:=match i with
 | .Slice lo hi O _ =>
  if c.old then bd8 (r.e c a) (evO (r.e c) lo) (evO (r.e c) hi)
  else if ac5 c c.tx a then bC0 (r.e c a) (evO (r.e c) lo) (evO (r.e c) hi)
  else if ac5 c c.own a then bC1 (r.q c a) (evO (r.e c) lo) (evO (r.e c) hi)
  else E3 (r.e c a) (evO (r.e c) lo) (evO (r.e c) hi)
 | .Slice O O (Z (.UnaryOp .USub (.Constant (.int 1) _ _) _)) _=>cq7<|r.e c a
 | _=>if pl i then(if cH2 a then an2 (r.e c a) (r.e c i) else if ac5 c c.dx a then an3 (r.e c a) (r.e c i) else dIx (r.q c a) (r.e c i)) else dNo
def xCn(k:Const):DE:=match k with
 | .none=>dC .none
 | .bool b=>dC<|.bool b
 | .int i=>dC<|.int i
 | .str x=>dC<|.str x
 | _=>dNo
def ct0(c:Kx)(a:Expr)(op:Operator)(b:Expr):DE:=match op with
 | .Add=>if c.old && !(isList a || isList b) then A5 ac8 (r.e c a) (r.e c b) else A5 B1 (r.e c a) (r.e c b)
 | .Sub=>A5 ao2 (r.e c a)<|r.e c b
 | .Mult=>if c.old then A5 ac1 (r.e c a) (r.e c b) else(match a with
  | .Subscript v _ _=>if ac5 c c.tx v then A5 bx8 (r.e c a) (r.e c b) else A5 D5 (r.e c a) (r.e c b)
  | _=>A5 D5 (r.e c a) (r.e c b))
 | .FloorDiv=>A5 am7 (r.e c a)<|r.e c b
 | .Mod=>A5 p7 (r.e c a)<|r.e c b
 | .Pow=>dNo
 | _=>dNo
def xUn(c:Kx)(op:UnaryOp)(a:Expr):DE:=match op with
 | .USub=>aH8<|r.e c a
 | .Not=>bl5<|r.e c a
 | _=>dNo
def cs8(c:Kx)(a:Expr)(ops:List CmpOp)(bs:List Expr):DE:=match ops,bs with
 | [op],[b]=>if pl b then A5 (opW S c op b) (r.e c a) (r.e c b) else dNo
 | [op,op'],[b,d]=>if pl d then W3 (be2 op) (be2 op') (r.e c a) (r.e c b) (r.e c d) else dNo
 | _,_=>dNo
def cs4(c:Kx)(o:Expr)(m:Str)(apos cpos:Pos)(args:List Expr):DE:=match args with
 | [a]=>if m == "join" && aS3 o&&apos.endLine==cpos.line&&pl a then aI1 (r.e c o) (r.q c a) else if m == "index" && aS3 o&&apos.endLine==cpos.line&&pl a then ar6 (r.e c o) (r.e c a) else dNo
 | [a,b]=>if m == "get" && aS3 o&&apos.endLine==cpos.line&&pl a&&pl b then bt5 (r.e c o) (r.e c a) (r.e c b) else dNo
 | _=>dNo
def xCl(c:Kx)(f:Expr)(args:List Expr)(kw:List fq)(pos:Pos):DE:=match kw with
 | []=>(match f with
  | .Name x p=>bF0 S r c x args<|.Call (.Name x p) args [] pos
  | .Attribute o m apos=>cs4 r c o m apos pos args
  | _=>dNo)
 | _=>dNo
def xDs(ks:List (Option Expr))(vs:List Expr):DE:=match bc3 ks vs with
 | some ps=>if !ps.isEmpty&&ps.length<=15 then dC (.dict<|mgD (ps.map λp=>(p.1,.int p.2))) else dNo
 | none=>dNo
def xE(c:Kx)(ex:Expr):DE:=match ex with
 | .Constant k _ _=>xCn k
 | .Name x _=>(match am3 x c.N with
  | some i=>if bv4 c.sc x then A1 i else dNo
  | none=>(match S.cs.lookup x with
   | some d=>if bR2 c.sc x then dC d else dNo
   | none=>dNo))
 | .Tuple es _ _=>if es.length<=1000 then B6 (evA (r.e c) es) else dNo
 | .List _ _=>S8<|r.n c ex
 | .ListComp _ _ _ _=>S8<|r.n c ex
 | .BinOp a op b _=>ct0 r c a op b
 | .UnaryOp op a _=>xUn r c op a
 | .Compare a ops bs _=>cs8 S r c a ops bs
 | .BoolOp op vs _=>bS5 (r.e c) op vs
 | .IfExp t a b _=>aI2 (r.t c t) (r.e c a)<|r.e c b
 | .Subscript a i _=>cs2 r c a i
 | .Call f args kw pos=>xCl S r c f args kw pos
 | .Dict ks vs _=>xDs ks vs
 | _=>dNo
def db7(c:Kx)(f:Expr)(as:List Expr)(kw:List fq):Bool:=match f with
 | .Name x _=>as.length==1&&kw.isEmpty&&biB S c "list" x
 | _=>false
def xQ(c:Kx)(ex:Expr):DQ:=match ex with
 | .Name x _=>(match am3 x c.N with
  | some i=>if bv4 c.sc x then A8 i else qNo
  | none=>qE (r.e c ex))
 | .List _ _=>qN<|r.n c ex
 | .ListComp _ _ _ _=>qN<|r.n c ex
 | .Call f as kw _=>if db7 S c f as kw then qN (r.n c ex) else qE (r.e c ex)
 | _=>qE<|r.e c ex
def xNl(c:Kx)(f:Expr)(as:List Expr)(kw:List fq):DA:=match f with
 | .Name x _=>(match as,kw with
  | [a],[]=>if biB S c "list" x&&pl a then(λρ=>(r.q c a ρ).map λq=>q.2) else aNo
  | _,_=>aNo)
 | _=>aNo
def xN(c:Kx)(ex:Expr):DA:=match ex with
 | .List es _=>if es.length<=1000 then evA (r.e c) es else aNo
 | .ListComp _ _ _ _=>evC S r c ex
 | .Call f as kw _=>xNl S r c f as kw
 | .BinOp a op b _=>(match op with
  | .Add=>bx7 (r.q c a)<|r.q c b
  | _=>aNo)
 | _=>aNo
def cm7(c:Kx)(a:Expr)(ops:List CmpOp)(bs:List Expr):DT:=match ops,bs with
 | [op],[b]=>if pl b then tB2 (opW S c op b) (r.e c a) (r.e c b) else tNo
 | [op,op'],[b,d]=>if pl d then bg8 (W3 (be2 op) (be2 op') (r.e c a) (r.e c b)<|r.e c d) else tNo
 | _,_=>tNo
def cY1(c:Kx)(op:UnaryOp)(a:Expr):DT:=match op with
 | .Not=>O9<|r.t c a
 | _=>tNo
def xT(c:Kx)(ex:Expr):DT:=match ex with
 | .Compare a ops bs _=>cm7 S r c a ops bs
 | .BoolOp op vs _=>bS4 (r.t c) op vs
 | .UnaryOp op a _=>cY1 r c op a
 | _=>if plT ex then G7 (r.e c ex) else tNo
def xG(c:Kx)(ex:Expr):DG:=match ex with
 | .Name x _=>(match am3 x c.N with
  | some i=>if bM7 c x then B5 i else gNo
  | none=>gNo)
 | .Tuple es _ _=>if es.all pl then S7 es.length (cI4 (r.g c) es) else gNo
 | _=>gNo
def cP8(c:Kx)(x y:Str)(px py:Pos)(a b:Expr):Bool :=
 c.df&&pl a&&pl b && !(x==y)&&px.line==py.line&&c.sc.names.lookup x==Z .local&&c.sc.names.lookup y==Z .local && !(([a,b]:List Expr).all<|foldedForSure 8) && !(([a,b]:List Expr).all<|constantsAlone 8)
def ct1(c:Kx)(tg v:Expr)(p:Pos):DS:=match tg with
 | .Name x p'=>(match am3 x c.N with
  | none=>E1
  | some i=>if !(bM7 c x) then E1 else(match v with
   | .ListComp _ _ sc pv=>if c.sc.names.lookup x==Z .local then
     (if c.df&&p'.line==pv.line && !(sc.names.any λ(n,k)=>n==x&&(k == .local || k == .cell)) then(if c.own.contains i then ad9 i (evC S r c v) else aE2 i (evC S r c v)) else E1)
    else B4 i (r.e c v)
   | _=>if isC v then E1 else if c.own.contains i then ad9 i (r.n c v) else B4 i (r.e c v)))
 | .Subscript (.Name x _) (.Slice lo hi O _) _=>(match am3 x c.N with
  | none=>E1
  | some i=>if bv4 c.sc x && !(isC v) then bG7 i (evO (r.e c) lo) (evO (r.e c) hi) (r.n c v) else E1)
 | .Tuple [.Name x px,.Name y py] _ _=>(match v with
  | .Tuple [a,b] _ _=>(match am3 x c.N,am3 y c.N with
   | some i,Z j=>if cP8 c x y px py a b then bG8 i j (evA (r.e c) [a,b]) else E1
   | _,_=>E1)
  | .Tuple _ _ _=>E1
  | _=>ao7 (r.e c v) (r.g c tg))
 | .Tuple es _ _=>if bb0 v&&(es.length==2 || es.length==3) then E1 else ao7 (r.e c v) (r.g c tg)
 | _=>E1
def cs3(c:Kx)(x m:Str)(e:Expr):DS:=match am3 x c.N with
 | none=>E1
 | some i=>if bv4 c.sc x&&pl e then(if m == "append" then x9 i (r.e c e) else if m == "extend" then aR1 i (r.e c e) else E1) else E1
def xEx(c:Kx)(e:Expr):DS:=match e with
 | .Call f args kw cpos=>(match f with
  | .Attribute o m apos=>(match o with
   | .Name x _=>(match args,kw with
    | [e],[]=>if apos.endLine==cpos.line then cs3 r c x m e else E1
    | _,_=>E1)
   | _=>E1)
  | _=>E1)
 | _=>E1
def cY2(c:Kx):Option Expr->DS
 | some e=>B0<|r.e c e
 | none=>E1
def xWh(c:Kx)(t:Expr)(a:List Stmt):List Stmt->DS
 | []=>ab6 (r.t c t)<|r.b c a
 | _=>E1
def xFo(c:Kx)(tg it:Expr)(a:List Stmt):List Stmt->DS
 | []=>if pl it then X8 (evI S r c tg it) (r.g c tg) (r.b c a) else E1
 | _=>E1
def xAs(c:Kx)(v:Expr)(p:Pos):List Expr->DS
 | [tg]=>ct1 S r c tg v p
 | _=>E1
def xS0(c:Kx)(st:Stmt):DS:=match st with
 | .Return o _=>cY2 r c o
 | .If t a b _=>sIf (r.t c t) (r.b c a)<|r.b c b
 | .While t a o _=>xWh r c t a o
 | .For tg it a o _=>xFo S r c tg it a o
 | .Assign ts v p=>xAs S r c v p ts
 | .Expr e _=>xEx r c e
 | .Continue _=>cn4
 | .Break _=>λρ=>Z<|.bk ρ
 | .Pass _=>B8
 | _=>E1
def cB9:Stmt->Nat
 | .Return _ p=>p.line
 | .If _ _ _ p=>p.line
 | .While _ _ _ p=>p.line
 | .For _ _ _ _ p=>p.line
 | .Assign _ _ p=>p.line
 | .Expr _ p=>p.line
 | _=>0
def fzW(g:DS):Option (List Nat)->DS
 | none=>g
 | some l=>l.foldl (λg i=>aR0 i g) g
def xS(c:Kx)(st:Stmt):DS:=fzW (xS0 S r c st)<|c.fz.lookup (cB9 st)
def evB(f:Stmt->DS):List Stmt->DS
 | []=>B8
 | [s]=>f s
 | s::t::G9=>A7 (f s)<|evB f (t::G9)
def step:Ev:=⟨xE S r,xQ S r,xN S r,xT S r,xG r,λc=>evB<|xS S r c⟩
end
def ev(S:Sg):Nat->Ev
 | 0=>⟨λ_ _=>dNo,λ_ _=>qNo,λ_ _=>aNo,λ_ _=>tNo,λ_ _=>gNo,λ_ _=>E1⟩
 | n+1=>step S<|ev S n
end G
namespace Sh
open PySem PySem.Spec PyProof.Rows L2 G
def aQ3:DS:=(B0<|S9 (ae0 "str"<|A1 0) (S9 (W3 leI leI ⇑1 (bt3<|A1 0) ⇑6)<|aL2 (qN<|C5 1 [] (cj1<|A1 0) (B5 0) F9 (A5 (inS false) (A1 0)<|dC (.str "abcdefghijklmnopqrstuvwxyz")))))
def aw7:List D->Option D:=C0 aQ3 1
def bn2:DS:=(B0<|ae0 "bool" (A1 0))
def an8:List D->Option D:=C0 bn2 1
def az7:DS:=(B0<|S9 (A2 O6<|A0 (A1 0) A3) (W3 leI leI (aH8 ⇑9) (A1 0) ⇑9))
def w4:List D->Option D:=C0 az7 1
def aQ4:DS:=(A7 (sIf (tB2 isB (A1 0)<|dC .none) (B0<|dC (.bool true)) B8)<|A7 (sIf (M6 (O9<|G7 (ae0 "tuple"<|A1 0))<|tB2 neD (Q5<|A8 0) (Q5<|qE (dIx (A8 1) ⇑2))) (B0<|dC (.bool false)) B8) (B0<|aL2 (qN<|C5 1 [] (M9<|A1 0) (B5 0) F9 (A2 X0<|A0 (A1 0) A3))))
def aw8:List D->Option D:=C0 aQ4 2
def f8:DS:=(A7 (sIf (M6 (tB2 neD (Q5<|A8 0) ⇑9)<|M6 (tB2 (inD true) (A2 O2<|A0 (A1 0) A3)<|dC (.tuple [(.str "over"),(.str "multiply"),(.str "screen"),(.str "plus"),(.str "atop"),(.str "cut")])) (O9<|G7 (A2 an9<|A0 (A2 R3<|A0 (A1 0) A3) A3))) (B0<|dC (.bool false)) B8)<|B0 (S9 (A2 w4<|A0 (A2 ai8<|A0 (A1 0) A3) A3)<|S9 (A2 w4<|A0 (A2 at3<|A0 (A1 0) A3) A3) (A2 aw8<|A0 (A2 aw4<|A0 (A1 0) A3) (A0 (A2 R3<|A0 (A1 0) A3) A3))))
def N5:List D->Option D:=C0 f8 1
def E9(self:Nat->List D->Option D):DS:=(A7 (sIf (M6 (tB2 neD (Q5<|A8 0) ⇑6)<|M6 (tB2 (inD true) (A2 O2<|A0 (A1 0) A3)<|dC (.tuple [(.str "over"),(.str "multiply"),(.str "screen"),(.str "plus"),(.str "atop"),(.str "cut")])) (tB2 eqD (A1 1) ⇑0)) (B0<|dC (.bool false)) B8)<|B0 (A2 (self 2)<|A0 (A2 E7<|A0 (A1 0) A3) (A0 (A5 ao2 (A1 1) ⇑1) A3)))
def K4(self:Nat->List D->Option D):DS:=(A7 (sIf (M6 (O9<|G7 (ae0 "tuple"<|A1 0))<|tB2 ltI (Q5<|A8 0) ⇑5) (B0<|dC (.bool false)) B8)<|A7 (sIf (M6 (O9<|G7 (A2 aw7<|A0 (A2 W9<|A0 (A1 0) A3) A3))<|M6 (O9<|G7 (A2 X0<|A0 (A2 X1<|A0 (A1 0) A3) A3)) (O9<|G7 (A2 an8<|A0 (A2 ad6<|A0 (A1 0) A3) A3))) (B0<|dC (.bool false)) B8) (A7 (sIf (G7<|A2 R4 (A0 (A1 0) A3)) (B0<|A2 N5 (A0 (A1 0) A3)) B8)<|A7 (sIf (G7<|A2 N1 (A0 (A1 0) A3)) (B0<|A2 (self 0) (A0 (A1 0)<|A0 (A1 1) A3)) B8) (B0<|S9 (A2 aa7<|A0 (A1 0) A3) (S9 (A5 eqD (Q5<|A8 0) ⇑5)<|A5 (inD false) (A2 ai7<|A0 (A1 0) A3) (dC<|.tuple [(.str "turn"),(.str "grey"),(.str "round")])))))
def Y2(self:Nat->List D->Option D):DS:=(B0<|S9 (ae0 "tuple"<|A1 0) (aL2<|qN (C5 1 [1] (M9<|A1 0) (B5 0) F9<|A2 (self 1) (A0 (A1 0)<|A0 (A1 1) A3))))
def A4:Nat->Nat->List D->Option D
 | 0=>λ_ _=>O
 | k+1=>λi=>match i with
  | 0=>C0 (E9<|A4 k) 2
  | 1=>C0 (K4<|A4 k) 2
  | 2=>C0 (Y2<|A4 k) 2
  | _=>λ_=>O
def aj9(k:Nat):List D->Option D:=A4 k 0
def P2(k:Nat):List D->Option D:=A4 k 1
def R6(k:Nat):List D->Option D:=A4 k 2
def ak8(self:List D->Option D):DS:=(A7 (ad9 1 A3)<|A7 (X8 (M9<|A1 0) (B5 2)<|A7 (x9 1<|A2 W9 (A0 (A1 2) A3)) (sIf (G7<|A2 N1 (A0 (A1 2) A3)) (aR1 1<|A2 self (A0 (A2 E7<|A0 (A1 2) A3) A3)) B8)) (aR0 1<|B0 (A1 1)))
def E6:Nat->List D->Option D
 | 0=>λ_=>O
 | k+1=>C0 (ak8<|E6 k) 3
def T7:DS:=(A7 (B4 1<|A2 (E6 12) (A0 (A1 0) A3))<|B0 (A5 eqD (ar5<|A8 1)<|Q5 (A8 1)))
def O8:List D->Option D:=C0 T7 2
def ad2:DS:=(B0<|S9 (A2 o0<|A0 (A1 0) A3) (S9 (A2 (R6 12)<|A0 (dIx (A8 0) ⇑2) (A0 ⇑3 A3))<|A2 O8 (A0 (dIx (A8 0) ⇑2) A3)))
def O7:List D->Option D:=C0 ad2 1
def aJ4:DS:=(B0<|A2 (E6 12) (A0 (dIx (A8 0) ⇑2) A3))
def ad4:List D->Option D:=C0 aJ4 1
def bf4(self:List D->Option D):DS:=(A7 (ad9 3 A3)<|A7 (X8 (M9<|A1 0) (B5 4)<|sIf (tB2 eqD (dIx (A8 4) ⇑1)<|A1 1) (aR1 3<|A1 2) (sIf (tB2 eqD (dIx (A8 4) ⇑0)<|dC (.str "group")) (x9 3<|A5 B1 (E3 (A1 4) C7<|B7 ⇑5) (B6<|A0 (A2 self<|A0 (dIx (A8 4) ⇑5) (A0 (A1 1)<|A0 (A1 2) A3)) A3))<|x9 3 (A1 4))) (B0<|V1 (A8 3)))
def O0:Nat->List D->Option D
 | 0=>λ_=>O
 | k+1=>C0 (bf4<|O0 k) 5
def as7:DS:=(A7 (B4 2<|A2 U7 (A0 (A1 0)<|A0 (A1 1) A3))<|B0 (dIx (A8 2)<|A2 F6 (A0 (A1 2)<|A0 (A1 1) A3)))
def i9:List D->Option D:=C0 as7 3
end Sh
namespace Sh
open PySem G
def ce0(i j:Int):neD (.int i) (.int j)=Z (.bool (!(i==j))):=rfl
def aH0(i j:Int):eqD (.int i) (.int j)=Z (.bool<|i==j):=rfl
def br6{t:Rho->Option Bool}{f:DS}{n:Nat}{ρ ρ':Rho}(h1:t ρ=Z true)(h2:f ρ=Z (.nx ρ')):Y0 t f (n+1) ρ=Y0 t f n ρ':=by simp only[Y0,h1,h2,xbs,if_true]
def bR3:∀(b a:Nat) (x:Option B),∃n x',Y0 (tB2 neD (A1 1) ⇑0) (A7 (B4 2<|A5 p7 (A1 0) (A1 1))<|A7 (B4 0<|A1 1) (B4 1<|A1 2)) n [‹.int a›,‹.int b›,x]
  = Z (.nx [‹.int (cE a b)›,‹.int 0›,x']):=by
 intro b
 induction b using Nat.strongRecOn with
 | _ b ih =>
  intro a x;by_cases hb:b=0
  .subst hb;refine⟨1,x,?_⟩;rw[Nat.gcd_zero_right];rfl
  .obtain⟨n,x',h⟩:=ih (a % b) (Nat.mod_lt _<|cP hb) b (‹.int ((a % b:Nat):Int)›);refine⟨n+1,x',?_⟩
   have e1:tB2 neD (A1 1) ⇑0 [‹.int a›,‹.int b›,x]=Z true:=by
    show(neD (.int b)<|.int 0).bind N0=Z true;rw[ce0];have:((b:Int)==0)=false:=by simp;omega
    rw[this];rfl
   have e2:p7 (.int a) (.int b)=Z (.int ((a % b:Nat):Int)):=by
    show(if(0:Int) < (b:Int) then Z (fK<|(a:Int) % (b:Int)) else O)=_;rw[if_pos (by omega)];simp
   have e3:A7 (B4 2<|A5 p7 (A1 0) (A1 1)) (A7 (B4 0<|A1 1)<|B4 1 (A1 2)) [‹.int a›,‹.int b›,x]=Z (.nx [‹.int b›,‹.int ((a % b:Nat):Int)›,‹.int ((a % b:Nat):Int)›]):=by
    show((((p7 (.int a)<|.int b)).map λd=>Fl.nx [‹.int a›,‹.int b›,‹d›]).bind _)=_;rw[e2];rfl
   rw[br6 e1 e3,h,Nat.gcd_comm b,Nat.gcd_comm a b,← Nat.gcd_rec]
def cs0(a b:Nat):O1 [.int a,.int b]=Z (.int<|cE a b):=by
 obtain⟨n,x',h⟩:=bR3 b a O;show((ab6 _ _ [‹.int a›,‹.int b›,O]).bind _).bind _=_;rw[aM5 h];rfl
def by2:∀(a b:Nat) (t u:D),∃n,Y0 (tB2 gtI (A1 2) ⇑0) (bG8 2 3<|A0 (A5 p7 (A1 3)<|A1 2) (A0 (A1 2) A3)) n [‹t›,‹u›,‹.int a›,‹.int b›]
  = Z (.nx [‹t›,‹u›,‹.int 0›,‹.int (cE a b)›]):=by
 intro a
 induction a using Nat.strongRecOn with
 | _ a ih =>
  intro b t u;by_cases ha:a=0
  .subst ha;refine⟨1,?_⟩;rw[Nat.gcd_zero_left];rfl
  .obtain⟨n,h⟩:=ih (b % a) (Nat.mod_lt _<|cP ha) a t u;refine⟨n+1,?_⟩
   have e1:tB2 gtI (A1 2) ⇑0 [‹t›,‹u›,‹.int a›,‹.int b›]=Z true:=by
    show Z (decide ((0:Int) < (a:Int)))=Z true;rw[decide_eq_true (by omega)]
   have e2:p7 (.int b) (.int a)=Z (.int ((b % a:Nat):Int)):=by
    show(if(0:Int) < (a:Int) then Z (fK<|(b:Int) % (a:Int)) else O)=_;rw[if_pos (by omega)];simp
   have e3:bG8 2 3 (A0 (A5 p7 (A1 3)<|A1 2)<|A0 (A1 2) A3) [‹t›,‹u›,‹.int a›,‹.int b›]=Z (.nx [‹t›,‹u›,‹.int ((b % a:Nat):Int)›,‹.int a›]):=by
    show((p7 (.int b)<|.int a).bind λd=>(Z [fK (a:Int)]).map λds=>d::ds).bind _=_;rw[e2];rfl
   rw[br6 e1 e3,h,← Nat.gcd_rec]
def fr(r:Rat):D:=.tuple [.int r.num,.int r.den]
def J6{i:Int}{k:Nat}(h:i.natAbs < 2 ^ k)(hk:k<=8000):F5 i:=aL h (dm (by decide) hk)
def ba2(a b:Nat)(hb:0 < b):fr (mkRat a b)=.tuple [.int ((a / cE a b:Nat):Int),.int ((b / cE a b:Nat):Int)]:=by
 unfold fr;rw[Rat.num_mkRat,Rat.den_mkRat,if_neg (by omega),if_neg (by omega)];have e:b.gcd (a:Int).natAbs=cE a b:=by rw[cB,Nat.gcd_comm]
 rw[e];simp
def bt1(a b x k:Nat)(hb:0 < b)(hk:b < 2 ^ k)(hk8:k<=8000):am7 (.int x) (.int<|cE a b)=Z (.int ((x / cE a b:Nat):Int)):=by
 have g0:0 < cE a b:=Nat.gcd_pos_of_pos_right _ hb;have gs:F5 (cE a b:Nat):=J6 (k:=k) (by rw[cB];exact cz (Nat.le_of_dvd hb<|Nat.gcd_dvd_right a b) hk) hk8;show(if(0:Int) < ((cE a b:Nat):Int)/\F5 (cE a b:Nat) then Z (fK<|(x:Int) / ((cE a b:Nat):Int)) else O)=_;rw[if_pos ⟨by omega,gs⟩];simp
def cm6(a b k:Nat)(hb:0 < b)(hk:b < 2 ^ k)(hk8:k<=8000):at6 [.int a,.int b]=Z (fr<|mkRat a b):=by
 have d:=λx=>bt1 a b x k hb hk hk8
 have e:h9 [‹.int a›,‹.int b›,O]=Z (.rt<|fr (mkRat a b)):=by
  rw[ba2 a b hb];simp only[h9,A7,B4,A2,A0,A3,A1,xg0,xg1,xbs,xms,cs0,xw1,xw0,B0,B6,A5,d]
 show(h9 [‹.int a›,‹.int b›,O]).bind _=_;rw[e];rfl
def bn7(a b k:Nat)(hb:0 < b)(hk:b < 2 ^ k)(hk8:k<=8000):aa6 [.int a,.int b]=Z (fr<|mkRat a b):=by
 have d:=λx=>bt1 a b x k hb hk hk8
 obtain⟨n,h⟩:=by2 a b (.int a)<|.int b
 have e:as8 [‹.int a›,‹.int b›,O,O]=Z (.rt<|fr (mkRat a b)):=by
  rw[ba2 a b hb];simp only[as8,A7,B4,A2,A0,A3,A1,xg0,xg1,xbs,xms,xw1,xw0,B0,B6,A5,d,aM5 h]
 show(as8 [‹.int a›,‹.int b›,O,O]).bind _=_;rw[e];rfl
structure Bd (k:Nat) (r:Rat):Prop where
 nn:0<=r
 num:r.num.natAbs < 2 ^ k
 den:r.den < 2 ^ k
def Bd.mono{j k:Nat}{r:Rat}(h:Bd j r)(l:j<=k):Bd k r:=⟨h.nn,aL h.num (dm (by decide) l),aL h.den<|dm (by decide) l⟩
def Bd.nat{k:Nat}{r:Rat}(h:Bd k r):r.num=(r.num.natAbs:Int):=by
 have:=Rat.num_nonneg.mpr h.nn;omega
def bM3(a b:Nat):0<=mkRat (a:Int) b:=by
 rw[← Rat.num_nonneg,Rat.num_mkRat];split
 .exact Int.le_refl _
 .exact Int.ediv_nonneg (by omega) (by omega)
def Bd.of{a b k:Nat}(hb:0 < b)(h1:a < 2 ^ k)(h2:b < 2 ^ k):Bd k (mkRat a b):=by
 refine⟨bM3 a b,?_,?_⟩
 .rw[Rat.num_mkRat,if_neg (by omega)];rw[show((a:Int) / ((b.gcd (a:Int).natAbs:Nat):Int))=((a / b.gcd (a:Int).natAbs:Nat):Int) by simp,cB];exact cz (eG _ _) h1
 .rw[Rat.den_mkRat,if_neg (by omega)];exact cz (eG _ _) h2
def ac0{a b j k:Nat}(h1:a < 2 ^ j)(h2:b < 2 ^ k):a*b < 2 ^ (j+k):=by
 rw[Nat.pow_add];exact Nat.mul_lt_mul'' h1 h2
def aR4{j k:Nat}{r s:Rat}(hr:Bd j r)(hs:Bd k s):r*s=mkRat ((r.num.natAbs*s.num.natAbs:Nat):Int) (r.den*s.den):=by rw[Rat.mul_def,Rat.normalize_eq_mkRat,bI,← hr.nat,← hs.nat]
def O3(r:Rat):0 < r.den:=cP r.den_nz
def Bd.mul{j k:Nat}{r s:Rat}(hr:Bd j r)(hs:Bd k s):Bd (j+k) (r*s):=by
 rw[aR4 hr hs];exact Bd.of (dh (O3 r)<|O3 s) (ac0 hr.num hs.num)<|ac0 hr.den hs.den
def Bd.one:Bd 1 1:=⟨by decide,by decide,by decide⟩
def Bd.zero:Bd 1 0:=⟨by decide,by decide,by decide⟩
def Bd.sn{k:Nat}{r:Rat}(h:Bd k r)(hk:k<=8000):F5 r.num:=J6 h.num hk
def Bd.sd{k:Nat}{r:Rat}(h:Bd k r)(hk:k<=8000):F5 r.den:=J6 (k:=k) (by rw[cB];exact h.den) hk
def f6{i j:Int}(h1:F5 i)(h2:F5 j):ac1 (.int i) (.int j)=Z (.int<|i*j):=by
 show(if F5 i/\F5 j then Z (fK<|i*j) else O)=_;rw[if_pos ⟨h1,h2⟩]
def cr2(i j:Int):ac8 (.int i) (.int j)=Z (.int<|i+j):=rfl
def aX9(i j:Int):ao2 (.int i) (.int j)=Z (.int<|i - j):=rfl
def cC0(i j:Int):leI (.int i) (.int j)=Z (.bool<|decide (i<=j)):=rfl
def cK3(a b:D):L2.atI [a,b] 0=Z a:=rfl
def cK2(a b:D):L2.atI [a,b] 1=Z b:=rfl
def ix0{ρ:Rho}{i:Nat}{r:Rat}(h:ρ[i]? = Z (‹fr r›)):dIx (A8 i) ⇑0 ρ=Z (.int r.num):=by simp only[dIx,A8,h,fr,dC,xbs,cK3]
def ix1{ρ:Rho}{i:Nat}{r:Rat}(h:ρ[i]? = Z (‹fr r›)):dIx (A8 i) ⇑1 ρ=Z (.int r.den):=by simp only[dIx,A8,h,fr,dC,xbs,cK2]
def v0(x:Option B)(l:Rho):(x::l)[0]? = Z x:=rfl
def v1(y x:Option B)(l:Rho):(y::x::l)[1]? = Z x:=rfl
def cL5{j k:Nat}{r s:Rat}(hr:Bd j r)(hs:Bd k s)(l:j+k<=8000):cm5 [fr r,fr s]=Z (fr<|r*s):=by
 have e:aC5 [‹fr r›,‹fr s›]=Z (.rt<|fr (r*s)):=by
  simp only[aC5,B0,A2,A0,A3,A5,ix0 (v0 _ _),ix1 (v0 _ _),ix0 (v1 _ _ _),ix1 (v1 _ _ _),xbs,xms,f6 (hr.sn<|by omega) (hs.sn<|by omega),f6 (hr.sd<|by omega) (hs.sd<|by omega)];have:=cm6 (r.num.natAbs*s.num.natAbs) (r.den*s.den) (j+k) (dh (O3 r)<|O3 s) (ac0 hr.den hs.den) l;rw[← aR4 hr hs,bI,bI,← hr.nat,← hs.nat]at this;rw[this];rfl
 show(aC5 [‹fr r›,‹fr s›]).bind _=_;rw[e];rfl
def ah6{j k:Nat}{r s:Rat}(hr:Bd j r)(hs:Bd k s)(l:j+k<=8000):ad7 [fr r,fr s]=Z (.bool<|decide (r<=s)):=by
 have e:i8 [‹fr r›,‹fr s›]=Z (.rt<|.bool (decide (r<=s))):=by
  simp only[i8,B0,A2,A0,A3,A5,ix0 (v0 _ _),ix1 (v0 _ _),ix0 (v1 _ _ _),ix1 (v1 _ _ _),xbs,xms,f6 (hr.sn<|by omega) (hs.sd<|by omega),f6 (hs.sn<|by omega) (hr.sd<|by omega),cC0];simp only[← Rat.le_iff]
 show(i8 [‹fr r›,‹fr s›]).bind _=_;rw[e];rfl
end Sh
set_option exponentiation.threshold 9000
namespace Sh
open PySem G L2
def cS3(i j:Int):ltI (.int i) (.int j)=Z (.bool<|decide (i < j)):=rfl
def cU4(i j:Int):gtI (.int i) (.int j)=Z (.bool<|decide (j < i)):=rfl
def ca0{α:Type}(x:α):aB 0 x=[]:=rfl
def bZ9{α:Type}(x:α):aB 1 x=[x]:=rfl
def bZ8{α:Type}(x:α):aB 2 x=[x,x]:=rfl
def bt6(a b c d:D):R8 [a,b,c,d] (Z 1) O=[b,c,d]:=rfl
def cX0(a b c d:D):L2.atI [a,b,c,d] 0=Z a:=rfl
def cW9(a b c d:D):L2.atI [a,b,c,d] 1=Z b:=rfl
def cW8(a b c d:D):L2.atI [a,b,c,d] 2=Z c:=rfl
def cW7(a b c d:D):L2.atI [a,b,c,d] 3=Z d:=rfl
def cX3(a b c:D):L2.atI [a,b,c] 0=Z a:=rfl
def cX2(a b c:D):L2.atI [a,b,c] 1=Z b:=rfl
def cX1(a b c:D):L2.atI [a,b,c] 2=Z c:=rfl
def x8{n k:Nat}(h:n < 2 ^ k)(hk:k<=8000):F5 (n:Int):=J6 (k:=k) (by rw[cB];exact h) hk
def aN1{i j:Int}(h:0 < j):p7 (.int i) (.int j)=Z (.int<|i % j):=by
 show(if(0:Int) < j then Z (fK<|i % j) else O)=_;rw[if_pos h]
def bc2{i j:Int}(h:0 < j)(s:F5 j):am7 (.int i) (.int j)=Z (.int<|i / j):=by
 show(if(0:Int) < j/\F5 j then Z (fK<|i / j) else O)=_;rw[if_pos ⟨h,s⟩]
def B2{g:DS}{n:Nat}{ds:List D}{ρ:Rho}{d:D}(h:ae3 n ds=ρ)(e:g ρ=Z (.rt d)):C0 g n ds=Z d:=by
 unfold C0;rw[h,e];rfl
def rX1{g:DS}{a z:D}(e:g [‹a›]=Z (.rt z)):C0 g 1 [a]=Z z:=B2 rfl e
def rX2{g:DS}{a b z:D}(e:g [‹a›,‹b›]=Z (.rt z)):C0 g 2 [a,b]=Z z:=B2 rfl e
def an5{j k:Nat}{r s:Rat}(hr:Bd j r)(hs:Bd k s)(l:j+k<=8000):aw5 [fr r,fr s]=Z (fr<|r*s):=by
 refine rX2 ?_;simp only[aP7,B0,A2,A0,A3,A5,ix0 (v0 _ _),ix1 (v0 _ _),ix0 (v1 _ _ _),ix1 (v1 _ _ _),xbs,xms,f6 (hr.sn<|by grind) (hs.sn<|by grind),f6 (hr.sd<|by grind) (hs.sd<|by grind)];have:=bn7 (r.num.natAbs*s.num.natAbs) (r.den*s.den) (j+k) (dh (O3 r)<|O3 s) (ac0 hr.den hs.den) l;rw[← aR4 hr hs,bI,bI,← hr.nat,← hs.nat]at this;rw[this];rfl
def aO6(ns:List Int)(k:Nat):Int:=if ns.length=0 then 7*(k:Int) else ns.getD (k % ns.length) 0+6553*((k / ns.length:Nat):Int)
def bS8(ns:List Int):eqD (.list<|ns.map fK) (.list [])=Z (.bool<|decide (ns.length=0)):=by
 have h1:fI (.list<|ns.map fK)=true:=by
  have c:∀l:List Int,PyData.canLayAll0 (l.map fK)=true:=λl=>by
   induction l with
   | nil=>rfl
   | cons a r ih=>simp only[xmc,PyData.canLayAll0,fN,ih];rfl
  have d:∀l:List Int,PyData.depthAll (l.map fK)=0:=λl=>by
   induction l with
   | nil=>rfl
   | cons a r ih=>simp only[xmc,PyData.depthAll,PyData.depth,ih];rfl
  unfold fI;simp only[fN,c,PyData.depth,d];rfl
 unfold eqD;rw[if_pos ⟨h1,rfl⟩];cases ns with
 | nil=>rfl
 | cons a r=>simp[fJ,PyData.eqvAll]
end Sh
local macro_rules
  | `(tactic| exists evP, $ts,*) => `(tactic| simp only [G.A7, G.B4, G.B0, G.sIf, G.B8, G.aE2, G.ao7, G.A1, G.dC, G.B6, G.S8, G.A5, G.A2, G.S9, G.dOr, G.bl5, G.W3, G.V1, G.aL2, G.bl6, G.ae0, G.C7, G.B7, G.aO0, G.A3, G.A0, G.G7, G.tB2, G.p9, G.M6, G.O9, G.bg5, G.N0, G.F9, G.B5, G.S7, G.C4, G.U0, G.M9, G.bj2, G.xg0, G.xg1, G.xw0, G.xw1, G.xbs, G.xms, G.xmc, G.xmn, G.xna, G.xca, Sh.cr2, Sh.aX9, Sh.cC0, Sh.ce0, Sh.aH0, Sh.cS3, Sh.cU4, Sh.cX0, Sh.cW9, Sh.cW8, Sh.cW7, Sh.cX3, Sh.cX2, Sh.cX1, Sh.cK3, Sh.cK2, G.xnt, G.xnf, G.xft, if_true, if_false, $[$ts:term],*])
local macro_rules
  | `(tactic| exists evB) => `(tactic| exists evP, G.dIx, G.Q5, G.A8, G.qE, G.qN, G.az9)
  | `(tactic| exists evB, $ts,*) => `(tactic| exists evP, G.dIx, G.Q5, G.A8, G.qE, G.qN, G.az9, $ts,*)
local macro_rules
  | `(tactic| exists evA) => `(tactic| exists evB, G.aI2, G.bd8, G.C5, G.V2, G.ag9, G.L8, G.cj0, Sh.ca0, Sh.bZ9, Sh.bZ8, Sh.bt6, ite_true, ite_false)
  | `(tactic| exists evA, $ts,*) => `(tactic| exists evB, G.aI2, G.bd8, G.C5, G.V2, G.ag9, G.L8, G.cj0, Sh.ca0, Sh.bZ9, Sh.bZ8, Sh.bt6, ite_true, ite_false, $ts,*)
local macro_rules
  | `(tactic| exists evD) => `(tactic| exists evB, G.n5, G.bg8)
  | `(tactic| exists evD, $ts,*) => `(tactic| exists evB, G.n5, G.bg8, $ts,*)
local macro_rules
  | `(tactic| exists evC) => `(tactic| exists evD, G.aI2, G.bd8, G.C5, G.V2, G.ag9, G.L8, G.cj0, Sh.ca0, Sh.bZ9, Sh.bZ8, Sh.bt6, ite_true, ite_false)
  | `(tactic| exists evC, $ts,*) => `(tactic| exists evD, G.aI2, G.bd8, G.C5, G.V2, G.ag9, G.L8, G.cj0, Sh.ca0, Sh.bZ9, Sh.bZ8, Sh.bt6, ite_true, ite_false, $ts,*)
local macro_rules
  | `(tactic| exists evQ) => `(tactic| exists evP, G.n5, G.bg8)
  | `(tactic| exists evQ, $ts,*) => `(tactic| exists evP, G.n5, G.bg8, $ts,*)
namespace Sh
open PySem G L2
def cL7(ns:List Int)(k:Nat)(hn:ns.length<=63)(hk:k < 2 ^ 60):aK4 [.list (ns.map fK),.int k]=Z (.int<|aO6 ns k):=by
 refine rX2 ?_;have sk:F5 (k:Int):=x8 hk (by decide);by_cases h:ns.length=0
 .have e:aO6 ns k=7*(k:Int):=by unfold aO6;rw[if_pos h]
  exists evA,aJ8,bS8,h,decide_true,f6 (i:=7) (J6 (k:=3) (by decide)<|by decide) sk,e
 .have e:aO6 ns k=ns.getD (k % ns.length) 0+6553*((k / ns.length:Nat):Int):=by unfold aO6;rw[if_neg h]
  have hl:(List.map fK ns).length=ns.length:=aj ..;have hp:0 < ns.length:=cP h;have m1:p7 (.int k) (.int ns.length)=Z (.int ((k % ns.length:Nat):Int)):=by rw[aN1 (by grind)];simp
  have m2:am7 (.int k) (.int ns.length)=Z (.int ((k / ns.length:Nat):Int)):=by rw[bc2 (by grind) (x8 (k:=6) (by grind)<|by decide)];simp
  have m3:L2.atI (List.map fK ns) ((k % ns.length:Nat):Int)=Z (.int<|ns.getD (k % ns.length) 0):=by
   refine L2.P8 ?_;have hlt:k % ns.length < ns.length:=Nat.mod_lt _ hp;rw[aI,av hlt];simp[List.getD,hlt]
  have sq:F5 ((k / ns.length:Nat):Int):=x8 (k:=60) (cz (eG _ _) hk) (by decide)
  exists evA,aJ8,bS8,h,decide_false,hl,m1,m2,m3,f6 (i:=6553) (J6 (k:=13) (by decide)<|by decide) sq,e
def ar0(ns:List Int)(k:Nat)(m:Int):Int :=
 let c:=(aO6 ns k % 2147483563*69069+104723*((k:Int)+1)) % 2147483563
 let c:=(c*c+c / 3) % 2147483399
 (c*c+c / 7) % 2147483647 / 11 % m
def aD7{i:Int}(h0:0<=i)(h:i < 4294967296):F5 i:=J6 (k:=32) (by omega) (by decide)
def aC8(ns:List Int)(k:Nat)(m:Int)(hn:ns.length<=63)(hk:k < 2 ^ 60)(hm:0 < m):A9 [.list (ns.map fK),.int k,.int m]=Z (.int<|ar0 ns k m):=by
 refine B2 (ρ:=[‹.list (ns.map fK)›,‹.int k›,‹.int m›,O]) rfl ?_;have c0:∀x:Int,F5 (x % 2147483563):=λx=>aD7 (by grind) (by grind)
 have c1:∀x:Int,F5 (x % 2147483399):=λx=>aD7 (by grind) (by grind)
 have sk:F5 ((k:Int)+1):=J6 (k:=61) (by grind) (by decide);have s1:F5 69069:=J6 (k:=17) (by decide) (by decide);have s2:F5 104723:=J6 (k:=17) (by decide) (by decide);have s3:F5 3:=J6 (k:=2) (by decide) (by decide);have s7:F5 7:=J6 (k:=3) (by decide) (by decide);have s11:F5 11:=J6 (k:=4) (by decide) (by decide)
 exists evA,aQ1,cL7 ns k hn hk,aN1 (show(0:Int) < 2147483563 by decide),aN1 (show(0:Int) < 2147483399 by decide),aN1 (show(0:Int) < 2147483647 by decide),aN1 hm,f6 (c0 _) s1,f6 s2 sk,f6 (c0 _) (c0 _),f6 (c1 _) (c1 _),bc2 (show(0:Int) < 3 by decide) s3,bc2 (show(0:Int) < 7 by decide) s7,bc2 (show(0:Int) < 11 by decide) s11
 rfl
def aC1(ns:List Int)(k:Nat)(m:Int)(hm:0 < m):0<=ar0 ns k m/\ar0 ns k m < m:=by
 unfold ar0;exact⟨Int.emod_nonneg _ (by omega),Int.emod_lt_of_pos _ hm⟩
structure IsSh (k:Nat) (r:Rat):Prop where
 bd:Bd k r
 le:r<=1
def by4{a b:Nat}(hb:0 < b)(h:a<=b):mkRat (a:Int) b<=1:=by
 rw[Rat.le_iff,Rat.num_mkRat,Rat.den_mkRat,if_neg (by omega),if_neg (by omega)];have e0:(1:Rat).num=1:=rfl;have e1:(1:Rat).den=1:=rfl;rw[e0,e1];have:a / b.gcd a<=b / b.gcd a:=Nat.div_le_div_right h;simp
 exact_mod_cast this
def ai6(ns:List Int)(at':Nat)(hn:ns.length<=63)(hk:at' < 2 ^ 40):∃r,L7 [.list (ns.map fK),.int at']=Z (fr r)/\IsSh 4 r:=by
 obtain⟨u0,u1⟩:=aC1 ns at' 12 (by decide);obtain⟨u,hu⟩:∃u:Nat,(1:Int)+ar0 ns at' 12=u/\0 < u/\u<=12:=⟨(1+ar0 ns at' 12).toNat,by grind,by grind,by grind⟩;obtain⟨t0,t1⟩:=aC1 ns (at'+1) ((u:Int)+1) (by grind);obtain⟨t,ht⟩:∃t:Nat,ar0 ns (at'+1) ((u:Int)+1)=t/\t<=u:=⟨(ar0 ns (at'+1)<|(u:Int)+1).toNat,by grind,by grind⟩;obtain⟨p0,p1⟩:=aC1 ns (at'+2) 5 (by decide);have hs:IsSh 4 (mkRat (t:Int) u):=⟨Bd.of (by grind) (by grind) (by grind),by4 (by grind)<|by grind⟩;have e1:=aC8 ns at' 12 hn (by grind) (by decide);have e2:=aC8 ns (at'+1) ((u:Int)+1) hn (by grind) (by grind);have e3:=aC8 ns (at'+2) 5 hn (by grind) (by decide);have e4:=bn7 t u 4 (by grind) (by grind) (by decide);have c1:((at':Int)+1)=((at'+1:Nat):Int):=by grind
 have c2:((at':Int)+2)=((at'+2:Nat):Int):=by grind
 rw[ht.1]at e2
 have pick:∀(j:Int),0<=j->j < 5->∃r,L2.atI [fr (mkRat (t:Int) u),fr (mkRat (t:Int) u),fr (mkRat (t:Int) u),.tuple [.int 0,.int 1],.tuple [.int 1,.int 1]] j=Z (fr r)/\IsSh 4 r:=λj h0 h5=>by
  have:j=0\/j=1\/j=2\/j=3\/j=4:=by grind
  rcases this with rfl|rfl|rfl|rfl|rfl
  .exact⟨_,rfl,hs⟩
  .exact⟨_,rfl,hs⟩
  .exact⟨_,rfl,hs⟩
  .exact⟨0,rfl,Bd.zero.mono (by decide),by decide⟩
  .exact⟨1,rfl,Bd.one.mono (by decide),by decide⟩
 obtain⟨r,hr1,hr2⟩:=pick _ p0 p1;refine⟨r,B2 (ρ:=[‹.list (ns.map fK)›,‹.int at'›,O,O]) rfl ?_,hr2⟩
 exists evA,aP8,e1,hu.1,c1,c2,e2,e3,e4,hr1
def sp(c x y z:Rat):D:=.tuple [fr c,fr x,fr y,fr z]
structure Spot (k:Nat) (c x y z:Rat):Prop where
 hc:IsSh k c
 hx:Bd k x
 hy:Bd k y
 hz:Bd k z
 xc:x<=c
 yc:y<=c
 zc:z<=c
theorem IsSh.mono{j k:Nat}{r:Rat}(h:IsSh j r)(l:j<=k):IsSh k r:=⟨h.bd.mono l,h.le⟩
theorem Spot.mono{j k:Nat}{c x y z:Rat}(h:Spot j c x y z)(l:j<=k):Spot k c x y z:=⟨h.hc.mono l,h.hx.mono l,h.hy.mono l,h.hz.mono l,h.xc,h.yc,h.zc⟩
def af9{c r:Rat}(hc:0<=c)(hr:r<=1):c*r<=c:=by
 have:=Rat.mul_le_mul_of_nonneg_right hr hc
 grind
def cZ8:ab8 0 3=[.int 0,.int 1,.int 2]:=rfl
def cL6(ns:List Int)(k:Nat)(hn:ns.length<=63)(hk:k < 2 ^ 30):∃c x y z,Y3 [.list (ns.map fK),.int k]=Z (sp c x y z)/\Spot 8 c x y z:=by
 obtain⟨c,ec,hc⟩:=ai6 ns k hn (by grind);obtain⟨a0,e0,h0⟩:=ai6 ns (k+3) hn (by grind);obtain⟨a1,e1,h1⟩:=ai6 ns (k+6) hn (by grind);obtain⟨a2,e2,h2⟩:=ai6 ns (k+9) hn (by grind);refine⟨c,c*a0,c*a1,c*a2,?_,⟨hc.mono (by decide),hc.bd.mul h0.bd,hc.bd.mul h1.bd,hc.bd.mul h2.bd,af9 hc.bd.nn h0.le,af9 hc.bd.nn h1.le,af9 hc.bd.nn h2.le⟩⟩;refine B2 (ρ:=[‹.list (ns.map fK)›,‹.int k›,O]) rfl ?_;have i0:(k:Int)+3+3*0=((k+3:Nat):Int):=by grind
 have i1:(k:Int)+3+3*1=((k+6:Nat):Int):=by grind
 have i2:(k:Int)+3+3*2=((k+9:Nat):Int):=by grind
 have s0:F5 0:=J6 (k:=2) (by decide) (by decide);have s1:F5 1:=J6 (k:=2) (by decide) (by decide);have s2:F5 2:=J6 (k:=2) (by decide) (by decide);have s3:F5 3:=J6 (k:=2) (by decide) (by decide);have m0:=f6 s3 s0;have m1:=f6 s3 s1;have m2:=f6 s3 s2;have r3:((-(2 ^ 62):Int)<=3/\(3:Int) < 2 ^ 62):=by decide
 have l3:([fK 0,.int 1,.int 2]:List D).length<=16777216:=by decide
 have ct:∀a b c d:D,ac8 (.tuple [a]) (.tuple [b,c,d])=Z (.tuple [a,b,c,d]):=λa b c d=>rfl
 exists evA,bf5,ec,r3,and_self,cZ8,l3,m0,m1,m2,i0,i1,i2,e0,e1,e2,an5 hc.bd h0.bd (by decide),an5 hc.bd h1.bd (by decide),an5 hc.bd h2.bd (by decide),ct,sp
def ci4(i:Int):ad5 [.int i]=Z (.bool true):=rfl
def bP7(i:Int):O6 [.int i]=Z (.bool true):=rfl
def aO1(r:Rat):fI (fr r)=true:=rfl
def bS9(r s:Rat):eqD (fr r) (fr s)=Z (.bool<|decide (r=s)):=by
 unfold eqD;rw[if_pos ⟨aO1 r,aO1 s⟩]
 congr 2
 show((r.num==s.num)&&(((r.den:Int)==(s.den:Int))&&true))=_;rw[bo];simp only[Bool.and_true,ar,beq_iff_eq,decide_eq_true_eq];constructor
 .intro h;exact Rat.ext h.1 (by exact_mod_cast h.2)
 .intro h;subst h;exact⟨rfl,rfl⟩
def ba1{k:Nat}{r:Rat}(h:Bd k r):mkRat ((r.num.natAbs:Nat):Int) r.den=r:=by rw[← h.nat];exact Rat.mkRat_self r
def aF1{k:Nat}{r:Rat}(h:IsSh k r):r.num<=r.den:=by
 have:=(Rat.le_iff r 1).mp h.le;have e0:(1:Rat).num=1:=rfl;have e1:(1:Rat).den=1:=rfl;rw[e0,e1]at this;omega
def cS6(a b:D):((([a,b]:List D).length:Nat):Int)=2:=rfl
def db3(a b c d:D):((([a,b,c,d]:List D).length:Nat):Int)=4:=rfl
def bb2:((2:Int)==2)=true:=rfl
def bb4:((4:Int)==4)=true:=rfl
def cL1{k:Nat}{r:Rat}(h:IsSh k r)(hk:k<=8000):aX1 [fr r]=Z (.bool true):=by
 have n0:=Rat.num_nonneg.mpr h.bd.nn;have nd:=aF1 h;have d0:(0:Int) < r.den:=by have:=O3 r;omega
 have e:=bn7 r.num.natAbs r.den k (O3 r) h.bd.den hk;rw[ba1 h.bd,← h.bd.nat]at e;have e2:=bS9 r r;refine rX1 ?_;have e':aa6 [fK r.num,fK r.den]=Z (.tuple [.int r.num,.int r.den]):=e
 have e2':eqD (.tuple [.int r.num,.int r.den]) (.tuple [.int r.num,.int r.den])=Z (.bool true):=by
  have:=e2;simp only[decide_true]at this;exact this
 exists evA,as9,fr,cS6,bb2,ci4,d0,decide_true,n0,nd,e',e2'
def W7{k:Nat}{r:Rat}(h:IsSh k r)(hk:k<=8000):X0 [fr r]=Z (.bool true):=by
 have n0:=Rat.num_nonneg.mpr h.bd.nn;have nd:=aF1 h;have d0:(0:Int) < r.den:=by have:=O3 r;omega
 have e:=cs0 r.num.natAbs r.den;rw[← h.bd.nat,show cE r.num.natAbs r.den=1 from r.reduced]at e;have e':O1 [fK r.num,fK r.den]=Z (.int 1):=e;have b1:((1:Int)==1)=true:=rfl;refine B2 (ρ:=[‹fr r›,O,O]) rfl ?_
 exists evA,aK0,fr,cS6,bb2,bP7,d0,decide_true,n0,nd,e',b1
def cX5:aW3 [.bool true,.bool true,.bool true]=Z true:=rfl
def cX4:aW3 [.bool true,.bool true,.bool true,.bool true]=Z true:=rfl
def bD9{k:Nat}{c x y z:Rat}(S:Spot k c x y z)(hk:k+k<=8000):aj2 [sp c x y z]=Z (.bool true):=by
 have hk1:k<=8000:=by grind
 have lx:IsSh k x:=⟨S.hx,Rat.le_trans S.xc S.hc.le⟩;have ly:IsSh k y:=⟨S.hy,Rat.le_trans S.yc S.hc.le⟩;have lz:IsSh k z:=⟨S.hz,Rat.le_trans S.zc S.hc.le⟩;refine rX1 ?_;have f4:([fr c,fr x,fr y,fr z]:List D).length<=16777216:=by show 4<=16777216;decide
 have f3:([fr x,fr y,fr z]:List D).length<=16777216:=by show 3<=16777216;decide
 exists evA,aQ2,sp,db3,bb4,f4,f3,W7 S.hc hk1,W7 lx hk1,W7 ly hk1,W7 lz hk1,cX5,cX4,ah6 S.hx S.hc.bd hk,ah6 S.hy S.hc.bd hk,ah6 S.hz S.hc.bd hk,S.xc,S.yc,S.zc,decide_true
def K1{x y:Str}{b:Bool}(hx:fN (.str x)=true)(hy:fN (.str y)=true)(e:(x==y)=b):eqD (.str x) (.str y)=Z (.bool b):=by
 unfold eqD;have s:∀z:Str,fN (.str z)=true->fI (.str z)=true:=λz h=>by unfold fI;rw[h];rfl
 rw[if_pos ⟨s x hx,s y hy⟩];show Z (fL<|x==y)=_;rw[e]
def K1z{x y:Str}{b:Bool}(hx:fN (.str x)=true:=by decide +kernel)(hy:fN (.str y)=true:=by decide +kernel)(e:(x==y)=b:=by decide +kernel):eqD (.str x) (.str y)=Z (.bool b):=K1 hx hy e
def ce2{x y:Str}{b:Bool}(hx:fN (.str x)=true)(hy:fN (.str y)=true)(e:(!(x==y))=b):neD (.str x) (.str y)=Z (.bool b):=by
 unfold neD;have s:∀z:Str,fN (.str z)=true->fI (.str z)=true:=λz h=>by unfold fI;rw[h];rfl
 rw[if_pos ⟨s x hx,s y hy⟩];show Z (fL (!(x==y)))=_;rw[e]
inductive Man where
 | over|mult|screen|plus|atop|cut
def Man.s:Man->Str
 | .over => "over"
 | .mult => "multiply"
 | .screen => "screen"
 | .plus => "plus"
 | .atop => "atop"
 | .cut => "cut"
inductive Rul where
 | turn|grey|round
def Rul.s:Rul->Str
 | .turn => "turn"
 | .grey => "grey"
 | .round => "round"
def av0:Rat:=mkRat 1 2
def bs3:fr av0=.tuple [.int 1,.int 2]:=by
 show PyData.tuple [.int (mkRat 1 2).num,.int (mkRat 1 2).den]=_;rw[show(mkRat 1 2).num=1 by decide +kernel,show(mkRat 1 2).den=2 by decide +kernel];rfl
def cj3:IsSh 2 av0:=⟨⟨by decide +kernel,by decide +kernel,by decide +kernel⟩,by decide +kernel⟩
def cat_tup{xs ys:List D}(h:xs.length+ys.length<=16777216):ac8 (.tuple xs) (.tuple ys)=Z (.tuple<|xs++ys):=if_pos h
def z3(a b c d e f:D):(List.zip [a,b,c] [d,e,f]).map (λ(x,y)=>PyData.tuple [x,y])=[.tuple [a,d],.tuple [b,e],.tuple [c,f]]:=rfl
structure Q4 where
 c:Rat
 x:Rat
 y:Rat
 z:Rat
def Q4.d(q:Q4):D:=sp q.c q.x q.y q.z
def Q4.ok(k:Nat)(q:Q4):Prop:=Spot k q.c q.x q.y q.z
def q0:Q4:=⟨0,0,0,0⟩
theorem Q4.ok.mono{j k:Nat}{q:Q4}(h:q.ok j)(l:j<=k):q.ok k:=Spot.mono h l
def Ly(n:Nat)(d:D):Prop:=fN d=true/\PyData.depth d<=n
theorem aJ0{n:Nat}:∀xs:List D,(∀x∈xs,Ly n x)->PyData.canLayAll0 xs=true/\PyData.depthAll xs<=n
 | [],_=>⟨rfl,aO _⟩
 | x::xs,g=>by
  have a:=g x (ae ..);have b:=aJ0 xs λy hy=>g y<|xmm _ hy
  refine⟨?_,?_⟩
  .show(fN x&&PyData.canLayAll0 xs)=true;rw[a.1,b.1];rfl
  .show max (PyData.depth x) (PyData.depthAll xs)<=n;have:=a.2;have:=b.2;grind
def Ly.tup{n:Nat}{xs:List D}(h:∀x∈xs,Ly n x):Ly (n+1) (.tuple xs):=⟨(aJ0 xs h).1,Nat.succ_le_succ (aJ0 xs h).2⟩
def Ly.lst{n:Nat}{xs:List D}(h:∀x∈xs,Ly n x):Ly (n+1) (.list xs):=⟨(aJ0 xs h).1,Nat.succ_le_succ (aJ0 xs h).2⟩
theorem Ly.int(n:Nat)(i:Int):Ly n (.int i):=⟨rfl,aO _⟩
def Ly.mono{m n:Nat}{d:D}(h:Ly m d)(l:m<=n):Ly n d:=⟨h.1,aQ h.2 l⟩
def Ly.shaped{n:Nat}{d:D}(g:Ly n d)(hn:n<=64):fI d=true:=by
 unfold fI;rw[g.1,dF];exact decide_eq_true (by have:=g.2;grind)
def Ly.q4(q:Q4)(n:Nat):Ly (n+2) q.d:=⟨rfl,by show 2<=n+2;grind⟩
def Ly.spots(l:List Q4)(n:Nat):Ly (n+3) (.tuple<|l.map Q4.d):=Ly.tup λx hx=>by
 obtain⟨q,_,rfl⟩:=aM.mp hx;exact Ly.q4 q n
def ai2{n:Nat}{d:D}(g:Ly n d)(hn:n<=64):neD d d=Z (.bool false):=by
 unfold neD;rw[if_pos ⟨g.shaped hn,g.shaped hn⟩,SeqAt.eqv_refl d g.1];rfl
def shD(w h:Nat)(l:List Q4):D:=.tuple [.int w,.int h,.tuple (l.map Q4.d)]
def Ly.sheet(w h:Nat)(l:List Q4):Ly 4 (shD w h l):=Ly.tup λx hx=>by
 simp only[am,aC,or_false]at hx;rcases hx with rfl|rfl|rfl
 .exact Ly.int _ _
 .exact Ly.int _ _
 .exact Ly.spots l 0
def atQ(w h:Nat)(l:List Q4)(x y:Int):Q4:=if 0<=x/\x < w/\0<=y/\y < h then l.getD (y*w+x).toNat q0 else q0
structure ShOk (k:Nat) (w h:Nat) (l:List Q4):Prop where
 w1:1<=w
 w8:w<=8
 h1:1<=h
 h8:h<=8
 len:l.length=w*h
 ok:∀q∈l,q.ok k
theorem cq9{α:Type}{e:DE}{r:Rho}{h f:α->D}:∀(l:List α) (x:Option B),(∀a∈l,e (‹h a›::r)=Z (f a))->V2 (B5 0) F9 e (l.map h) (x::r)=Z (l.map f)
 | [],_,_=>rfl
 | a::l,x,H=>by simp only[xmc,V2,B5,xw0,xbs,F9,if_true,H a (ae ..),cq9 l _ (λb hb=>H b<|xmm _ hb),xms]
theorem cq8{α:Type}{e:DE}{r:Rho}{h1 h2 f:α->D}:∀(l:List α) (x y:Option B),(∀a∈l,e (‹h1 a›::‹h2 a›::r)=Z (f a))->V2 (S7 2<|C4 (B5 0) (C4 (B5 1) U0)) F9 e (l.map λa=>.tuple [h1 a,h2 a]) (x::y::r)=Z (l.map f)
 | [],_,_,_=>rfl
 | a::l,x,y,H=>by
  have hl:([h1 a,h2 a]:List D).length=2:=rfl;simp only[xmc,V2,S7,C4,U0,B5,hl,if_true,xw0,xw1,xbs,F9,if_true,H a (ae ..),cq8 l _ _ (λb hb=>H b<|xmm _ hb),xms]
theorem bV8{α:Type}{c:Rho->Option Bool}{e:DE}{r:Rho}{h f:α->D}{p:α->Bool}:∀(l:List α) (x:Option B),(∀a∈l,c (‹h a›::r)=Z (p a))->(∀a∈l,e (‹h a›::r)=Z (f a))->V2 (B5 0) c e (l.map h) (x::r)=Z ((l.filter p).map f)
 | [],_,_,_=>rfl
 | a::l,x,C,H=>by
  have ih:=bV8 l (‹h a›) (λb hb=>C b<|xmm _ hb) (λb hb=>H b<|xmm _ hb);cases q:p a with
  | true =>simp only[xmc,V2,B5,xw0,xbs,C a (ae ..),q,if_true,H a (ae ..),ih,xms,dU q]
  | false =>
   have q':¬p a=true:=by rw[q];exact aF
   simp only[xmc,V2,B5,xw0,xbs,C a (ae ..),q,xft,if_false,ih,dW q']
def V7{α:Type}{caps:List Nat}{src:Rho->Option (List D)}{e:DE}{ρ r:Rho}{l:List α}{h f:α->D}(hr:ag9 1 caps ρ=O::r)(hs:src ρ=Z (l.map h))(hl:l.length<=1000)(H:∀a∈l,e (‹h a›::r)=Z (f a)):
  C5 1 caps src (B5 0) F9 e ρ=Z (l.map f):=by
 unfold C5;rw[hs,xbs,if_pos (by rw[aj];grind),hr,cq9 l _ H]
def db0{α:Type}{caps:List Nat}{src:Rho->Option (List D)}{e:DE}{ρ r:Rho}{l:List α}{h1 h2 f:α->D}(hr:ag9 2 caps ρ=O::O::r)(hs:src ρ=Z (l.map λa=>.tuple [h1 a,h2 a]))(hl:l.length<=1000)(H:∀a∈l,e (‹h1 a›::‹h2 a›::r)=Z (f a)):
  C5 2 caps src (S7 2<|C4 (B5 0) (C4 (B5 1) U0)) F9 e ρ=Z (l.map f):=by
 unfold C5;rw[hs,xbs,if_pos (by rw[aj];omega),hr,cq8 l _ _ H]
def ce3{α:Type}{caps:List Nat}{src:Rho->Option (List D)}{c:Rho->Option Bool}{e:DE}{ρ r:Rho}{l:List α}{h f:α->D}{p:α->Bool}(hr:ag9 1 caps ρ=O::r)(hs:src ρ=Z (l.map h))(hl:l.length<=1000)(C:∀a∈l,c (‹h a›::r)=Z (p a))(H:∀a∈l,e (‹h a›::r)=Z (f a)):
  C5 1 caps src (B5 0) c e ρ=Z ((l.filter p).map f):=by
 unfold C5;rw[hs,xbs,if_pos (by rw[aj];omega),hr,bV8 l _ C H]
def u7{f:DE}{ρ:Rho}{n:Nat}(h:f ρ=Z (.int n))(hn:n<=1000):L8 f ρ=Z ((az n).map λk:Nat=>fK k):=by
 unfold L8;rw[h,xbs];show(if -(2 ^ 62)<=(n:Int)/\(n:Int) < 2 ^ 62 then Z (ab8 0 n) else O)=_;rw[if_pos ⟨by grind,by grind⟩];unfold ab8
 congr 1
 have e:((n:Int) - 0).toNat=n:=by grind
 rw[e];apply List.map_congr_left;intro k _
 congr 1
 grind
def bL7{i j:Int}(h1:F5 i)(h2:F5 j):D5 (.int i) (.int j)=Z (.int<|i*j):=f6 h1 h2
def N8{i j:Nat}(h1:i<=1000)(h2:j<=1000):D5 (.int i) (.int j)=Z (.int ((i*j:Nat):Int)):=by rw[bL7 (x8 (k:=10) (by grind)<|by decide) (x8 (k:=10) (by grind)<|by decide),bI]
def sm8{i:Int}(h0:0<=i)(h:i<=1000):F5 i:=aD7 h0 (by omega)
def plc(w n:Nat):List (Int×Int):=(az n).map λk=>(((k % w:Nat):Int),((k / w:Nat):Int))
def cL9{w h:Nat}(w1:1<=w)(w8:w<=8)(h8:h<=8):bf6 [.int w,.int h]=Z (.list<|(plc w<|w*h).map λp=>.tuple [.int p.1,.int p.2]):=by
 refine rX2 ?_;have hm:(A5 D5 (A1 0)<|A1 1) [‹.int w›,‹.int h›]=Z (.int ((w*h:Nat):Int)):=N8 (by grind) (by grind);have wh:w*h<=64:=bU w8 h8;unfold az5 B0 S8;rw[V7 (l:=az<|w*h) (h:=λk:Nat=>fK k) (f:=λk=>.tuple [.int ((k % w:Nat):Int),.int ((k / w:Nat):Int)]) (r:=[‹.int w›]) rfl (u7 hm<|by grind) (by rw[aW];grind) ?_]
 .unfold plc;rw[bM];rfl
 .intro k _;have wp:(0:Int) < (w:Int):=by grind
  simp only[B6,A0,A3,A5,A1,xg0,xg1,xbs,xms,aN1 wp,bc2 wp (sm8 (by grind)<|by grind)];rfl
def aq0(w h:Int)(s:D)(x y:Int):Y6 [.tuple [.int w,.int h,s],.int x,.int y]=Z (.bool<|decide (0<=x/\x < w/\0<=y/\y < h)):=by
 refine B2 (ρ:=[‹.tuple [.int w,.int h,s]›,‹.int x›,‹.int y›]) rfl ?_;by_cases a:0<=x<;>by_cases b:x < w<;>by_cases c:0<=y<;>by_cases e:y < h<;>simp[az8,A7,B4,B0,sIf,B8,aE2,ao7,A1,dC,B6,S8,A5,A2,S9,dOr,bl5,W3,dIx,Q5,V1,aL2,bl6,ae0,A8,qE,qN,az9,C7,B7,aO0,A3,A0,G7,tB2,p9,M6,O9,bg5,N0,F9,B5,S7,C4,U0,M9,bj2,xg0,xg1,xw0,xw1,xbs,xms,xmc,xmn,xna,xca,cr2,aX9,cC0,ce0,aH0,cS3,cU4,cX0,cW9,cW8,cW7,cX3,cX2,cX1,cK3,cK2,xnt,xnf,xft,if_true,if_false,n5,bg8,a,b,c,e]
def aG1{n:Nat}{i:Int}(h0:0<=i)(h1:i < n):ixN n i=Z i.toNat:=by unfold ixN;rw[if_pos h0,if_pos h1]
def atD(l:List Q4){i:Int}(h0:0<=i)(h1:i < l.length):L2.atI (l.map Q4.d) i=Z (l.getD i.toNat q0).d:=by
 unfold L2.atI;rw[aj,aG1 h0 h1,xbs,aI,aZ];have:i.toNat < l.length:=by omega
 rw[av this];rfl
def bw5{w h:Nat}{x y:Int}(b:0<=x/\x < w/\0<=y/\y < h):0<=y*w+x/\y*w+x < ((w*h:Nat):Int):=by
 obtain⟨a,b,c,e⟩:=b;have p:0<=y*(w:Int):=Int.mul_nonneg c (by grind);refine⟨by grind,?_⟩;have:(y+1)*(w:Int)<=h*(w:Int):=Int.mul_le_mul_of_nonneg_right (by grind) (by grind);have e2:(y+1)*(w:Int)=y*w+w:=by rw[Int.add_mul,Int.one_mul]
 have e3:((w*h:Nat):Int)=h*w:=by rw[bI,Int.mul_comm]
 grind
def aM9{w h:Nat}{x y:Int}(s:D)(w8:w<=8)(h8:h<=8)(b:0<=x/\x < w/\0<=y/\y < h):Q0 [.tuple [.int w,.int h,s],.int x,.int y]=Z (.int<|y*w+x):=by
 refine B2 (ρ:=[‹.tuple [.int w,.int h,s]›,‹.int x›,‹.int y›]) rfl ?_
 exists evD,v6,bL7 (sm8 b.2.2.1<|by grind) (sm8 (show(0:Int)<=w by grind)<|by grind)
def bh0{k w h:Nat}{l:List Q4}(S:ShOk k w h l)(x y:Int):aw3 [shD w h l,.int x,.int y]=Z (atQ w h l x y).d:=by
 refine B2 (ρ:=[‹shD w h l›,‹.int x›,‹.int y›]) rfl ?_;have hp:=aq0 w h (.tuple<|l.map Q4.d) x y;unfold atQ;by_cases b:0<=x/\x < w/\0<=y/\y < h
 .rw[if_pos b];rw[decide_eq_true b]at hp;have nm:=aM9 (.tuple<|l.map Q4.d) S.w8 S.h8 b;have pn:=bw5 b;have e:=atD l pn.1 (by rw[S.len];exact pn.2)
  exists evD,av7,shD,hp,nm,e
 .rw[if_neg b];rw[decide_eq_false b]at hp
  exists evD,av7,shD,hp
  rfl
abbrev scr(ns:List Int):D:=.list<|ns.map fK
def bb8(ns:List Int)(k m:Nat)(hn:ns.length<=63)(hk:k < 2 ^ 60)(hm:0 < m):∃n:Nat,A9 [scr ns,.int k,.int m]=Z (.int n)/\n < m:=by
 have a:=aC8 ns k m hn hk (by grind);have b:=aC1 ns k m (by grind);refine⟨(ar0 ns k m).toNat,?_,by grind⟩;rw[a]
 congr 2
 grind
def aC2{h:D->D->Option D}{f g:DE}{ρ:Rho}{x y:D}(h1:f ρ=Z x)(h2:g ρ=Z y):A5 h f g ρ=h x y:=by unfold A5;rw[h1,xbs,h2,xbs]
theorem y8{α:Type}(a:α):∀n:Nat,(aB n [a]).flatten=aB n a
 | 0=>rfl
 | n+1=>by rw[bR,ce,y8 a n];rfl
def bL8{xs:List D}{n:Nat}(hn:n<=1000)(hx:xs.length<=1000):D5 (.list xs) (.int n)=Z (.list (aB n xs).flatten):=by
 show(if 0<=(n:Int)/\(n:Int) < 1000000/\xs.length*((n:Int)).toNat<=16777216 then Z (PyData.list (aB ((n:Int)).toNat xs).flatten) else O)=_;rw[bu,if_pos ⟨by omega,by omega,aQ (bU hx hn)<|by decide⟩]
def cV6(a:D)(r:List D):R8 (a::r) O (Z 1)=[a]:=by
 unfold R8;have h1:HT.sIx (a::r).length 0 O=0:=by simp[HT.sIx]
 have h2:HT.sIx (a::r).length (a::r).length (Z 1)=1:=by simp only[HT.sIx,aH];first|omega|(simp;omega)|simp
 rw[h1,h2];rfl
def aX0(ns:List Int)(k:Nat)(hn:ns.length<=63)(hk:k < 2 ^ 30):∃q:Q4,Y3 [scr ns,.int k]=Z q.d/\q.ok 8:=by
 obtain⟨c,x,y,z,e,S⟩:=cL6 ns k hn hk;exact⟨⟨c,x,y,z⟩,e,S⟩
def bG2(ns:List Int)(at':Nat)(hn:ns.length<=63)(ha:at' < 2 ^ 20):∃f:Nat->Q4,∀k,k < 1000->Y3 [scr ns,.int ((at'+12*k:Nat):Int)]=Z (f k).d/\(f k).ok 8:=by
 refine⟨λk=>if h:k < 1000 then Classical.choose (aX0 ns (at'+12*k) hn<|by grind) else q0,λk hk=>?_⟩;simp only[dif_pos hk];exact eR (aX0 ns (at'+12*k) hn<|by grind)
def aT3(ns:List Int)(at' w h:Nat)(hn:ns.length<=63)(ha:at' < 2 ^ 20)(w1:1<=w)(w8:w<=8)(h1:1<=h)(h8:h<=8):∃l:List Q4,ai9 [scr ns,.int at',.int w,.int h]=Z (shD w h l)/\ShOk 8 w h l:=by
 obtain⟨f,hf⟩:=bG2 ns at' hn ha;have wh:w*h<=64:=bU w8 h8;have wh1:1<=w*h:=bU w1 h1;obtain⟨t,et,ht⟩:=bb8 ns (at'+7) 3 hn (by grind) (by decide);have et':A9 [scr ns,.int ((at':Int)+7),.int 3]=Z (.int t):=by rw[← et];simp
 have c:C5 1 [0,1] (L8<|A5 D5 (A1 2) (A1 3)) (B5 0) F9 (A2 Y3<|A0 (A1 1) (A0 (A5 B1 (A1 2)<|A5 D5 ⇑12 (A1 0)) A3)) [‹scr ns›,‹.int at'›,‹.int w›,‹.int h›,O]=Z ((az<|w*h).map λk=>(f k).d):=by
  refine V7 (l:=az<|w*h) (h:=λk:Nat=>fK k) (r:=[‹scr ns›,‹.int at'›]) rfl (u7 ?_<|by grind) (by rw[aW];grind) ?_
  .exact N8 (by grind) (by grind)
  .intro k hk;have hk:=aR.mp hk;have m12:D5 (.int 12) (.int k)=Z (.int ((12*k:Nat):Int)):=N8 (i:=12) (by decide) (by grind);have e1:((at':Int)+((12*k:Nat):Int))=((at'+12*k:Nat):Int):=by grind
   exists evD,m12,e1,(hf k<|by grind).1
 have mwh:D5 (.int w) (.int h)=Z (.int ((w*h:Nat):Int)):=N8 (by grind) (by grind)
 have cv:((t:Int)==0)=decide (t=0):=by cases t with
  | zero=>rfl
  | succ n=>rw[decide_eq_false (by grind)];exact beq_eq_false_iff_ne.mpr (by grind)
 obtain⟨n,en⟩:∃n,w*h=n+1:=⟨w*h - 1,by grind⟩;by_cases t0:t=0
 .refine⟨aB (w*h)<|f 0,?_,w1,w8,h1,h8,cH ..,λq hq=>by rw[(List.mem_replicate.mp hq).2];exact(hf 0<|by decide).2⟩;refine B2 (ρ:=[‹scr ns›,‹.int at'›,‹.int w›,‹.int h›,O]) rfl ?_;have hd:(az<|w*h).map (λk=>(f k).d)=(f 0).d::(az n).map (λk=>(f<|k+1).d):=by rw[en,eD,xmc,bM];rfl
  rw[hd]at c
  have v:A5 D5 (E3 (A1 4) C7<|B7 ⇑1) (A5 D5 (A1 2)<|A1 3) [‹scr ns›,‹.int at'›,‹.int w›,‹.int h›,‹.list ((f 0).d::(az n).map (λk=>(f<|k+1).d))›]=Z (.list<|aB (w*h) (f 0).d):=by
   have a1:E3 (A1 4) C7 (B7 ⇑1) [‹scr ns›,‹.int at'›,‹.int w›,‹.int h›,‹.list ((f 0).d::(az n).map (λk=>(f<|k+1).d))›]=Z (.list<|R8 ((f 0).d::(az n).map (λk=>(f<|k+1).d)) O (Z 1)):=rfl;have a2:A5 D5 (A1 2) (A1 3) [‹scr ns›,‹.int at'›,‹.int w›,‹.int h›,‹.list ((f 0).d::(az n).map (λk=>(f<|k+1).d))›]=Z (.int ((w*h:Nat):Int)):=(aC2 rfl rfl).trans mwh;rw[cV6]at a1;have a3:=bL8 (xs:=[(f 0).d]) (show w*h<=1000 by grind) (show 1<=1000 by decide);rw[y8]at a3;exact(aC2 a1 a2).trans a3
  have t1:tB2 eqD (A2 A9<|A0 (A1 0) (A0 (A5 B1 (A1 1) ⇑7)<|A0 ⇑3 A3)) ⇑0 [‹scr ns›,‹.int at'›,‹.int w›,‹.int h›,‹.list ((f 0).d::(az n).map (λk=>(f<|k+1).d))›]=Z true:=by simp only[tB2,A5,A2,A0,A3,A1,dC,xms,xbs,xg0,xg1,n5,et',aH0,cv,decide_eq_true t0,N0]
  simp only[av9,A7,aE2,c,sIf,t1,B4,v,B0,B6,A0,A3,V1,A8,A1,xms,xbs,xw0,xw1,xg0,xg1,if_true,xft,if_false,shD,List.map_replicate]
 .refine⟨(az (w*h)).map f,?_,w1,w8,h1,h8,by rw[aj,aW],λq hq=>by
   obtain⟨k,hk,rfl⟩:=aM.mp hq
   exact(hf k (by have:=aR.mp hk;grind)).2⟩
  refine B2 (ρ:=[‹scr ns›,‹.int at'›,‹.int w›,‹.int h›,O]) rfl ?_
  exists evD,av9,c,et',cv,decide_eq_false t0,shD,bM
  rfl
theorem as0{α:Type}(f:α->Bool):∀l:List α,aW3 (l.map λa=>fL<|f a)=Z (l.all f)
 | []=>rfl
 | a::l=>by
  show(aW3<|l.map λa=>fL<|f a).map (λc=>f a&&c)=_;rw[as0 f l];rfl
def ba9{k w h:Nat}{l:List Q4}(S:ShOk k w h l)(hk:k+k<=8000):an9 [shD w h l]=Z (.bool true):=by
 have sz:∀n:Nat,1<=n->n<=8->aa8 [.int n]=Z (.bool true):=λn a b=>by
  refine rX1 ?_;have w1:O6 [.int n]=Z (.bool true):=rfl;have a':(1:Int)<=n:=by grind
  have b':(n:Int)<=8:=by grind
  exists evD,aw0,w1,a',b',decide_true
 have l3:((([.int w,.int h,.tuple (l.map Q4.d)]:List D).length:Nat):Int)=3:=rfl;have b3:((3:Int)==3)=true:=rfl;have w8:=S.w8;have h8:=S.h8;have wh:w*h<=64:=bU w8 h8
 have zz:o0 [shD w h l]=Z (.bool true):=by
  refine rX1 ?_
  exists evD,an7,shD,l3,b3,sz w S.w1 S.w8,sz h S.h1 S.h8
 have al:∀q:Option B,C5 1 [] (M9<|A1 1) (B5 0) F9 (A2 aj2<|A0 (A1 0) A3) [q,‹.tuple (l.map Q4.d)›]=Z (l.map λx=>.bool true):=λq=>by
  refine V7 (l:=l) (h:=Q4.d) (r:=[]) rfl rfl (by rw[S.len];grind) λx hx=>?_
  have:=bD9 (S.ok x hx) hk
  exists evD,Q4.d,this
 have mwh:D5 (.int w) (.int h)=Z (.int ((w*h:Nat):Int)):=N8 (by grind) (by grind);have hb:((((l.map Q4.d).length:Nat):Int)==((w*h:Nat):Int))=true:=by rw[aj,S.len];simp
 have ab:aW3 (l.map λx=>.bool true)=Z true:=by rw[as0 (λ_=>true)];simp
 refine B2 (ρ:=[‹shD w h l›,O]) rfl ?_;simp only[shD]at zz
 exists evD,aJ9,shD,zz,al,mwh,hb,ab
def q4:(4:Nat)<=16777216:=by decide
def q3:(3:Nat)<=16777216:=by decide
def Dv(N:Nat)(r:Rat):Prop:=∃z:Int,r*(N:Rat)=(z:Rat)
def Dv.mul{M N:Nat}{r s:Rat}(h:Dv M r)(g:Dv N s):Dv (M*N) (r*s):=by
 obtain⟨a,ha⟩:=h;obtain⟨b,hb⟩:=g;exact⟨a*b,by rw[Rat.intCast_mul,← ha,← hb,Rat.natCast_mul];grind⟩
def Dv.int(N:Nat)(i:Int):Dv N (i:Rat):=⟨i*N,by rw[Rat.intCast_mul];rfl⟩
def Dv.one(N:Nat):Dv N 1:=Dv.int N 1
def Dv.right{N:Nat}{r:Rat}(h:Dv N r)(M:Nat):Dv (N*M) r:=by have:=h.mul (Dv.one M);rwa [Rat.mul_one]at this
def Dv.left{N:Nat}{r:Rat}(h:Dv N r)(M:Nat):Dv (M*N) r:=by have:=(Dv.one M).mul h;rwa [Rat.one_mul]at this
def Dv.of(a:Int){N:Nat}(hN:0 < N):Dv N (mkRat a N):=by
 refine⟨a,?_⟩
 have hN':(N:Rat)≠0:=by
  intro h;have:N=0:=by exact_mod_cast h
  omega
 rw[Rat.mkRat_eq_div];exact Rat.div_mul_cancel hN'
def Dn(k:Nat)(q:Q4):Prop:=∃N,0 < N/\N < 2 ^ k/\Dv N q.c/\Dv N q.x/\Dv N q.y/\Dv N q.z
def Ds(k:Nat)(s:Rat):Prop:=∃N,0 < N/\N < 2 ^ k/\Dv N s
def am0{a b j k:Nat}(h1:a < 2 ^ j)(h2:b < 2 ^ k):a*b < 2 ^ (j+k):=by
 rw[Nat.pow_add];exact Nat.mul_lt_mul'' h1 h2
def Q4.or(q:Q4):Prop:=0<=q.x/\0<=q.y/\0<=q.z/\q.x<=q.c/\q.y<=q.c/\q.z<=q.c/\q.c<=1
theorem Q4.ok.or{k:Nat}{q:Q4}(h:q.ok k):q.or:=⟨h.hx.nn,h.hy.nn,h.hz.nn,h.xc,h.yc,h.zc,h.hc.le⟩
structure Dq (k:Nat) (q:Q4):Prop where
 o:q.or
 n:Dn k q
structure Sr (k:Nat) (s:Rat):Prop where
 h:IsSh k s
 n:Ds k s
inductive Nd where
 | layer (nm:D) (m:Man) (s:Rat) (sh:Bool) (lf tp:Int) (mk:Option (List Rat)) (w h:Nat) (l:List Q4) (kb:Nat)
 | tone (nm:D) (r:Rul) (s:Rat) (sh:Bool)
 | group (nm:D) (m:Man) (s:Rat) (sh:Bool) (ns:List Nd)
def mkD:Option (List Rat)->D
 | none=>.none
 | some ms=>.tuple<|ms.map fr
mutual
def Nd.d:Nd->D
 | .layer nm m s sh lf tp mk w h l _=>.tuple [.str "layer", nm,.str m.s,fr s,.bool sh,.int lf,.int tp,mkD mk,shD w h l]
 | .tone nm r s sh=>.tuple [.str "tone", nm,.str r.s,fr s,.bool sh]
 | .group nm m s sh ns=>.tuple [.str "group", nm,.str m.s,fr s,.bool sh,.tuple (Nd.ds ns)]
def Nd.ds:List Nd->List D
 | []=>[]
 | n::r=>n.d::Nd.ds r
end
mutual
def Nd.Ok:Nd->Prop
 | .layer _ _ s _ _ _ mk w h l kb=>Sr 4 s/\ShOk kb w h l/\(∀q∈l,Dq kb q)/\(∀ms,mk=Z ms->ms.length=w*h/\∀r∈ms,Sr 4 r)/\1<=kb
 | .tone _ _ s _=>Sr 4 s
 | .group _ _ s _ ns=>Sr 4 s/\Nd.Oks ns
def Nd.Oks:List Nd->Prop
 | []=>True
 | n::r=>n.Ok/\Nd.Oks r
end
mutual
def Nd.wg:Nd->Nat
 | .layer _ _ _ _ _ _ _ _ _ _ kb=>kb+8
 | .tone ..=>6
 | .group _ _ _ _ ns=>5+Nd.wgs ns
def Nd.wgs:List Nd->Nat
 | []=>0
 | n::r=>n.wg+Nd.wgs r
end
mutual
def Nd.dp:Nd->Nat
 | .layer ..=>0
 | .tone ..=>0
 | .group _ _ _ _ ns=>1+Nd.dps ns
def Nd.dps:List Nd->Nat
 | []=>0
 | n::r=>max n.dp<|Nd.dps r
end
def dc3:eqD (.str "layer") (.str "tone")=Z (.bool false):=K1z
def cV0:eqD (.str "tone") (.str "tone")=Z (.bool true):=K1z
def dc4:eqD (.str "group") (.str "tone")=Z (.bool false):=K1z
def cV1:eqD (.str "layer") (.str "layer")=Z (.bool true):=K1z
def dc5:eqD (.str "group") (.str "layer")=Z (.bool false):=K1z
def bz5:eqD (.str "layer") (.str "group")=Z (.bool false):=K1z
def bz6:eqD (.str "group") (.str "group")=Z (.bool true):=K1z
section
variable {nm:D}{m:Man}{r:Rul}{s:Rat}{sh:Bool}{lf tp:Int}{mk:Option (List Rat)}{w h:Nat}{l:List Q4}{kb:Nat}{ns:List Nd}
def cu4:aa7 [Nd.d (.tone nm r s sh)]=Z (.bool true):=by rw[Nd.d];exact rX1<|congrArg (cG Fl.rt) cV0
def br2:R4 [Nd.d (.layer nm m s sh lf tp mk w h l kb)]=Z (.bool true):=by rw[Nd.d];exact rX1<|congrArg (cG Fl.rt) cV1
def aU0:R4 [Nd.d (.group nm m s sh ns)]=Z (.bool false):=by rw[Nd.d];exact rX1<|congrArg (cG Fl.rt) dc5
def aT4:R3 [Nd.d (.layer nm m s sh lf tp mk w h l kb)]=Z (shD w h l):=by rw[Nd.d];rfl
def aq3:E7 [Nd.d (.group nm m s sh ns)]=Z (.tuple<|Nd.ds ns):=by rw[Nd.d];rfl
end
def bP8:isB .none .none=Z (.bool true):=rfl
def bj5(ds:List D):isB (.tuple ds) .none=Z (.bool false):=rfl
end Sh
open Sh.Q4 renaming d→fU
open Sh.Nd renaming d→fV,ds→fW,Ok→fX,Oks→fY,wgs→fZ,dp→gb,dps→gc
local macro_rules
  | `(↥$x) => `(PySem.PyData.tuple (Sh.Nd.ds $x))
namespace Sh
open PySem G L2
def az1(a b c d e f g h i:D):L2.atI [a,b,c,d,e,f,g,h,i] 0=Z a:=rfl
def aP3(a b c d e f g h i:D):L2.atI [a,b,c,d,e,f,g,h,i] 1=Z b:=rfl
def cW2(a b c d e f g h i:D):L2.atI [a,b,c,d,e,f,g,h,i] 2=Z c:=rfl
def cr4(a b c d e f g h i:D):L2.atI [a,b,c,d,e,f,g,h,i] 3=Z d:=rfl
def cW1(a b c d e f g h i:D):L2.atI [a,b,c,d,e,f,g,h,i] 4=Z e:=rfl
def cr3(a b c d e f g h i:D):L2.atI [a,b,c,d,e,f,g,h,i] 8=Z i:=rfl
def aI7(a b c d e f:D):L2.atI [a,b,c,d,e,f] 0=Z a:=rfl
def bu2(a b c d e f:D):L2.atI [a,b,c,d,e,f] 1=Z b:=rfl
def cr5(a b c d e f:D):L2.atI [a,b,c,d,e,f] 3=Z d:=rfl
def cW3(a b c d e f:D):L2.atI [a,b,c,d,e,f] 4=Z e:=rfl
def be6(a b c d e f:D):L2.atI [a,b,c,d,e,f] 5=Z f:=rfl
def be7(a b c d e:D):L2.atI [a,b,c,d,e] 0=Z a:=rfl
def cr6(a b c d e:D):L2.atI [a,b,c,d,e] 1=Z b:=rfl
def cW5(a b c d e:D):L2.atI [a,b,c,d,e] 3=Z d:=rfl
def cW4(a b c d e:D):L2.atI [a,b,c,d,e] 4=Z e:=rfl
def aF3:al8 .none .none=Z (.bool false):=rfl
def A6{f g:DS}{ρ ρ':Rho}(h:f ρ=Z (.nx ρ')):A7 f g ρ=g ρ':=by unfold A7;rw[h];rfl
def D9{f g:DS}{ρ:Rho}{d:D}(h:f ρ=Z (.rt d)):A7 f g ρ=Z (.rt d):=by unfold A7;rw[h];rfl
theorem ag3{α:Type}{g:D->Rho->Option Rho}{f:DS}{h:α->D}{I:Nat->Rho->Prop}:∀(l:List α) (i:Nat) (ρ:Rho),I i ρ->(∀(j:Nat) (a:α),l[j]? = Z a->∀ρ,I (i+j) ρ->∃ρ1,g (h a) ρ=Z ρ1/\∃ρ',f ρ1=Z (.nx ρ')/\I (i+j+1) ρ')->∃ρ',aa2 g f (l.map h) ρ=Z (.nx ρ')/\I (i+l.length) ρ'
 | [],i,ρ,h0,_=>⟨ρ,rfl,h0⟩
 | a::l,i,ρ,h0,H=>by
  obtain⟨ρ1,e1,ρ2,e2,h2⟩:=H 0 a rfl ρ h0
  obtain⟨ρ',e3,h3⟩:=ag3 l (i+1) ρ2 (by simpa using h2) (λj b hb ρ hρ=>by
   have:=H (j+1) b (by simpa using hb) ρ (by rwa [show i+(j+1)=i+1+j by grind])
   rwa [show i+(j+1)+1=i+1+j+1 by grind]at this)
  refine⟨ρ',?_,by rw[aH,show i+(l.length+1)=i+1+l.length by grind];exact h3⟩;simp only[xmc,aa2,e1,xbs,e2,e3]
def bb3{α:Type}(x:α){n:Nat}{P:Nat->α->Prop}(h:∀j,j < n->∃a,P j a):∃f:Nat->α,∀j,j < n->P j (f j):=by
 refine⟨λj=>if hj:j < n then Classical.choose (h j hj) else x,λj hj=>?_⟩;simp only[dif_pos hj];exact eR<|h j hj
def K8(ns:List Int)(hn:ns.length<=63){e m':Int}(k m:Nat)(he:e=(k:Int))(hm':m'=(m:Int))(hk:k < 2 ^ 60)(hm:0 < m):∃n:Nat,A9 [scr ns,.int e,.int m']=Z (.int n)/\n < m:=by
 subst he hm';exact bb8 ns k m hn hk hm
def drw(ns:List Int)(hn:ns.length<=63)(a:Nat)(c m:Int)(ha:a < 2 ^ 59)(hc:0<=c/\c < 1048576:=by decide)(hm:0 < m:=by decide):∃n:Nat,A9 [scr ns,.int ((a:Int)+c),.int m]=Z (.int n)/\n < m.toNat :=
 K8 ns hn (e:=a+c) (m':=m) (a+c.toNat) m.toNat (by grind) (by grind) (by grind) (by grind)
def aE0(ns:List Int)(hn:ns.length<=63){e:Int}(k:Nat)(he:e=(k:Int))(hk:k < 2 ^ 40):∃r,L7 [scr ns,.int e]=Z (fr r)/\IsSh 4 r:=by
 subst he;exact ai6 ns k hn hk
def bG5(ns:List Int)(hn:ns.length<=63){e:Int}(k w h:Nat)(he:e=(k:Int))(hk:k < 2 ^ 20)(w1:1<=w)(w8:w<=8)(h1:1<=h)(h8:h<=8):∃l:List Q4,ai9 [scr ns,.int e,.int w,.int h]=Z (shD w h l)/\ShOk 8 w h l:=by
 subst he;exact aT3 ns k w h hn hk w1 w8 h1 h8
def aq6(r:Rat):Dv r.den r:=by
 have:=Dv.of r.num<|O3 r
 rwa [Rat.mkRat_self]at this
def aM3{k:Nat}{s:Rat}(h:IsSh k s):Sr k s:=⟨h,s.den,O3 s,h.bd.den,aq6 s⟩
def cq2{q:Q4}(h:q.ok 8):Dq 32 q :=
 ⟨h.or,q.c.den*q.x.den*(q.y.den*q.z.den),dh (dh (O3 _) (O3 _)) (dh (O3 _) (O3 _)),am0 (am0 h.hc.bd.den h.hx.den) (am0 h.hy.den h.hz.den),
  ((aq6 q.c).right _).right _,((aq6 q.x).left _).right _,((aq6 q.y).right _).left _,((aq6 q.z).left _).left _⟩
def SOk(s:Str):Prop:=∀c∈s.cps.toList,97<=c/\c<=122
def SOk.ok{s:Str}(h:SOk s):fN (.str s)=true:=by
 show s.cps.all (· < 0x110000)=true;rw[Array.all_eq_true'];intro c hc;exact decide_eq_true (by have:=h c (cK.mpr hc);grind)
def SOk.app{a b:Str}(ha:SOk a)(hb:SOk b):SOk (a++b):=by
 intro c hc;have:c∈(a.cps++b.cps).toList:=hc;rw[cN]at this;rcases ay.mp this with h|h
 .exact ha c h
 .exact hb c h
def cH0(x:Str)(n:Nat)(h:n < x.length)(hx:x.length<=1000):∃s:Str,atS x (n:Int)=Z (.str s)/\s.length=1/\(SOk x->SOk s):=by
 unfold atS;rw[if_pos (by grind)];have hl:x.cps.toList.length=x.length:=by unfold Str.length;simp
 have h':n < x.cps.toList.length:=by grind
 have:atI x.cps.toList (n:Int)=Z x.cps.toList[n]:=by
  unfold atI;rw[aG1 (by grind) (by grind),xbs,bu,av h']
 rw[this];refine⟨⟨#[x.cps.toList[n]]⟩,rfl,rfl,λhs c hc=>?_⟩;have:c=x.cps.toList[n]:=by simpa using hc
 rw[this];exact hs _<|aT h'
def bZ5(x:Str)(lo hi:Option Int):(slS x lo hi).length<=x.length:=by
 unfold slS;split
 .exact ak _
 .unfold Str.length;rw[aw];exact aQ (List.length_filterMap_le ..)<|PyProof.Rows.indices_len_le ..
def bZ4{x:Str}(h:SOk x)(lo hi:Option Int):SOk (slS x lo hi):=by
 unfold slS;split
 .exact h
 .intro c hc;simp only[List.toList_toArray]at hc;obtain⟨i,_,e⟩:=dA.mp hc;exact h c<|cK.mpr (Array.mem_of_getElem? e)
def bH2{x:Str}(h:SOk x)(k:Int)(hk:k=1\/k=2):SOk (aA0 x k):=by
 unfold aA0;split
 .exact h
 .rename_i e;rcases hk with rfl|rfl
  .simp at e
  .intro c hc;have:c∈((#[]++x.cps)++x.cps).toList:=hc;simp at this;exact h c<|cK.mpr this
def bR1{a b:Str}(ha:SOk a)(hb:SOk b):SOk (Builtin.Str.glued "" [a,b]):=by
 intro c hc;have:c∈(a.cps++("" : Str).cps++b.cps).toList:=hc;rw[cN,cN]at this;rcases ay.mp this with h|h
 .rcases ay.mp h with h|h
  .exact ha c h
  .exact absurd h (by simp[show("" : Str).cps = #[] from rfl])
 .exact hb c h
def cm3:SOk "abcdefghijklmnopqrstuvwxyz" := by
 have:("abcdefghijklmnopqrstuvwxyz" : Str).cps.toList.all (λc=>decide (97<=c/\c<=122))=true:=by decide +kernel
 intro c hc;exact of_decide_eq_true<|bt.mp this c hc
def ltr(k:Nat):Str:=⟨#[97+k]⟩
def cB6:∀k:Nat,k < 14->atS "abcdefghijklmn" (k:Int)=Z (.str<|ltr k):=by
 have e:("abcdefghijklmn" : Str)=⟨#[97,98,99,100,101,102,103,104,105,106,107,108,109,110]⟩:=by decide +kernel
 intro k hk;rw[e];rcases k with _|_|_|_|_|_|_|_|_|_|_|_|_|_|k
 all_goals first|rfl|grind
def bq7(k:Nat)(h:k < 14):SOk (ltr k):=by
 intro c hc;have:c=97+k:=by simpa [ltr] using hc
 grind
def nmS(b:Bool)(k:Nat)(y:Str):Str:=if b=true then ltr k++y else y++ltr k
def cd9(b:Bool){k:Nat}{y:Str}(hk:k < 14)(hy:SOk y):SOk (nmS b k y):=by
 unfold nmS;split
 .exact(bq7 k hk).app hy
 .exact hy.app (bq7 k hk)
def bp8{b:Bool}{i j:Nat}{y z:Str}(e:nmS b i y=nmS b j z):i=j:=by
 unfold nmS at e;cases b with
 | true =>
  have e:(ltr i).cps++y.cps=(ltr j).cps++z.cps:=congrArg Str.cps e;have e:=congrArg (λa=>a.toList.head?) e;simp[ltr]at e;omega
 | false =>
  have e:y.cps++(ltr i).cps=z.cps++(ltr j).cps:=congrArg Str.cps e;have e:=congrArg (λa=>a.toList.getLast?) e;simp[ltr]at e;omega
def aY3(x:Str)(k:Int)(hk:k=1\/k=2):(aA0 x k).length<=2*x.length:=by
 unfold aA0;split
 .grind
 .rename_i e;rcases hk with rfl|rfl
  .simp at e
  .show((#[]++x.cps)++x.cps).size<=2*x.cps.size;simp;grind
def cp1(a b:Str)(ha:a.length=1)(hb:b.length=1):aI1 (dC<|.str "") (λ_=>Z (false,[.str a,.str b])) []=Z (.str<|Builtin.Str.glued "" [a,b])/\(Builtin.Str.glued "" [a,b]).length=2:=by
 have h2:(Builtin.Str.glued "" [a,b]).length=2:=by
  show(a.cps++("" : Str).cps++b.cps).size=2;unfold Str.length at ha hb;rw[bO,bO,ha,hb];rfl
 have h1:ap7 "" [a,b]<=16777216:=by
  show 0+a.length+("" : Str).length+b.length+("" : Str).length<=16777216;have:("" : Str).length=0:=rfl
  grind
 refine⟨?_,h2⟩;show(if ap7 "" [a,b]<=16777216/\(Builtin.Str.glued "" [a,b]).length<=16777216 then Z (fM<|Builtin.Str.glued "" [a,b]) else O)=_;rw[if_pos ⟨h1,by grind⟩]
def cf9{f:DE}{g:Rho->Option (Bool×List D)}{ρ:Rho}{a b:Str}(hf:f ρ=Z (.str ""))(hg:g ρ=Z (false,[.str a,.str b]))(ha:a.length=1)(hb:b.length=1):aI1 f g ρ=Z (.str<|Builtin.Str.glued "" [a,b]):=by
 rw[← (cp1 a b ha hb).1];unfold aI1;rw[hf,hg];rfl
def ce4(x:Str)(k:Int)(hk:k=1\/k=2)(hx:x.length<=1000):bx8 (.str x) (.int k)=Z (.str<|aA0 x k):=by
 show(if 1<=k/\k<=2/\x.length<=1000/\(aA0 x k).length<=16777216 then Z (fM<|aA0 x k) else O)=_;have:=aY3 x k hk;rw[if_pos ⟨by grind,by grind,hx,by grind⟩]
def be4(a b:Str)(ha:a.length<=1000)(hb:b.length<=1000):B1 (.str a) (.str b)=Z (.str<|a++b):=by
 show(if a.length+b.length<=16777216 then Z (fM<|a++b) else O)=_;rw[if_pos (by grind)]
def db6:∀n:Nat,n < 2->∃k:Int,atI ([.int 1,.int 2]:List D) (n:Int)=Z (.int k)/\(k=1\/k=2)
 | 0,_=>⟨1,rfl,.inl rfl⟩
 | 1,_=>⟨2,rfl,.inr rfl⟩
 | n+2,h=>absurd h (by grind)
def nbA:DS:=(B4 6<|aI1 (dC<|.str "") (qN<|C5 1 [0,1,5] (L8 ⇑2) (B5 0) F9 (an2 (dC<|.str "abcdefghijklmnopqrstuvwxyz")<|A2 A9 (A0 (A1 1)<|A0 (A5 B1 (A5 B1 (A5 B1 (A1 2) ⇑1)<|A5 D5 ⇑3 (A1 3))<|A1 0) (A0 ⇑26 A3)))))
def nbB:DS:=(B4 6<|A5 bx8 (bC0 (A1 6) C7<|B7 (A2 A9<|A0 (A1 0) (A0 (A5 B1 (A5 B1 (A1 1) ⇑3)<|A5 D5 ⇑3 (A1 5))<|A0 ⇑3 A3))) (dIx (qN<|A0 ⇑1 (A0 ⇑2 A3))<|A2 A9 (A0 (A1 0)<|A0 (A5 B1 (A5 B1 (A1 1) ⇑2)<|A5 D5 ⇑3 (A1 5)) (A0 ⇑2 A3))))
def nbC:DS:=(x9 4<|dIx (qN<|A0 (A5 B1 (A1 6)<|an2 (dC<|.str "abcdefghijklmn") (A1 5)) (A0 (A5 B1 (an2 (dC<|.str "abcdefghijklmn")<|A1 5)<|A1 6) A3)) (bl6<|A1 3))
def aZ7:DS:=A7 nbA<|A7 nbB nbC
def bR0:aQ0=(A7 (B4 3<|A5 eqD (A2 A9<|A0 (A1 0) (A0 (A1 1)<|A0 ⇑2 A3)) ⇑0)<|A7 (ad9 4 A3) (A7 (X8 (L8<|A1 2) (B5 5) aZ7)<|aR0 4 (B0<|A1 4))):=rfl
def gb0:DS:=(B4 8<|A2 A9 (A0 (A1 0)<|A0 (A5 B1 (A5 B1 (A1 1) ⇑3)<|A5 D5 ⇑5 (A1 7)) (A0 (A5 B1 (Q5<|A8 6) ⇑1) A3)))
def gb1:DS:=(B4 9<|A5 B1 (A1 8) (A2 A9<|A0 (A1 0) (A0 (A5 B1 (A5 B1 (A1 1) ⇑4)<|A5 D5 ⇑5 (A1 7))<|A0 ⇑3 A3)))
def gb2:DS:=(B4 10<|dIx (qN<|A0 (B6<|A0 ⇑1 (A0 ⇑1 A3)) (A0 (A2 L7<|A0 (A1 0) (A0 (A5 B1 (A5 B1 (A1 1) ⇑5)<|A5 D5 ⇑5 (A1 7)) A3)) A3)) (A2 A9<|A0 (A1 0) (A0 (A5 B1 (A5 B1 (A1 1) ⇑6)<|A5 D5 ⇑5 (A1 7))<|A0 ⇑2 A3)))
def gb3:DS:=(B4 11<|dIx (qN<|A0 (A1 4) (A0 (dC<|.str "atop")<|A0 (A1 4) (A0 (dC<|.str "cut") A3))) (A2 A9<|A0 (A1 0) (A0 (A5 B1 (A5 B1 (A1 1) ⇑7)<|A5 D5 ⇑5 (A1 7))<|A0 ⇑4 A3)))
def gb4:DS:=(B4 12<|B6 (A0 (dC<|.str "group")<|A0 (dIx (A8 3)<|A5 B1 (A1 2) (A1 7)) (A0 (A1 11)<|A0 (A1 10) (A0 (A5 gtI (A2 A9<|A0 (A1 0) (A0 (A5 B1 (A5 B1 (A1 1) ⇑14)<|A1 7)<|A0 ⇑7 A3)) ⇑0) A3))))
def gb5:DS:=(bG7 6 (B7<|A1 8) (B7<|A1 9)<|A0 (A5 B1 (A1 12)<|B6 (A0 (V1<|qE (bC1 (A8 6) (B7<|A1 8)<|B7 (A1 9))) A3)) A3)
def bs1:DS:=(A7 gb0<|A7 gb1 (A7 gb2<|A7 gb3 (A7 gb4 gb5)))
def gn0:DS:=(B4 4<|dIx (qN<|A0 (dC<|.str "over") (A0 (dC<|.str "multiply")<|A0 (dC<|.str "screen") (A0 (dC<|.str "plus") A3))) (A2 A9<|A0 (A1 0) (A0 (A1 1)<|A0 ⇑4 A3)))
def gn1:DS:=(B4 5<|A2 A9 (A0 (A1 0)<|A0 (A5 B1 (A1 1) ⇑1) (A0 (A5 B1 (A1 2) ⇑1) A3)))
def gn2:DS:=(ad9 6<|C5 1 [0,4,3,1] (L8<|A1 5) (B5 0) F9 (A2 Y4<|A0 (A1 1) (A0 (A5 B1 (A5 B1 (A1 4) ⇑20)<|A5 D5 ⇑170 (A1 0))<|A0 (dIx (A8 3)<|A1 0) (A0 (A1 2) A3))))
def gn3:DS:=(X8 (L8<|A2 A9 (A0 (A1 0)<|A0 (A5 B1 (A1 1) ⇑2) (A0 ⇑3 A3))) (B5 7) bs1)
def gn4:DS:=(B0<|V1 (A8 6))
def bQ9:aP9=(A7 gn0<|A7 gn1 (A7 gn2<|A7 gn3 gn4)):=rfl
def cA7(ns:List Int)(hn:ns.length<=63)(at' k:Nat)(ha:at' < 2 ^ 20)(hk:k < 14)(a2:Option B)(b:Bool)(L:List D)(a6:Option B):∃x:Str,nbA [‹scr ns›,‹.int at'›,a2,‹.bool b›,Z (.own L),‹.int k›,a6]=Z (.nx [‹scr ns›,‹.int at'›,a2,‹.bool b›,Z (.own L),‹.int k›,‹.str x›])/\x.length=2/\SOk x:=by
 have m3:D5 (.int 3) (.int k)=Z (.int ((3*k:Nat):Int)):=N8 (i:=3) (by decide) (by grind)
 have P:∀j,j < 2->∃s:Str,an2 (dC<|.str "abcdefghijklmnopqrstuvwxyz") (A2 A9<|A0 (A1 1) (A0 (A5 B1 (A5 B1 (A5 B1 (A1 2) ⇑1)<|A5 D5 ⇑3 (A1 3))<|A1 0)<|A0 ⇑26 A3)) [‹.int (j:Nat)›,‹scr ns›,‹.int at'›,‹.int k›]=Z (.str s)/\s.length=1/\SOk s:=λj hj=>by
  obtain⟨d,ed,ld⟩:=K8 ns hn (e:=(at':Int)+1+((3*k:Nat):Int)+(j:Int)) (m':=26) (at'+1+3*k+j) 26 (by grind) rfl (by grind) (by decide);obtain⟨s,es,ls,ss⟩:=cH0 "abcdefghijklmnopqrstuvwxyz" d ld (by decide);refine⟨s,?_,ls,ss cm3⟩
  exists evD,an2,m3,ed,es
 obtain⟨S,hS⟩:=bb3 (x:=("" : Str)) P
 have c:C5 1 [0,1,5] (L8 ⇑2) (B5 0) F9 (an2 (dC<|.str "abcdefghijklmnopqrstuvwxyz")<|A2 A9 (A0 (A1 1)<|A0 (A5 B1 (A5 B1 (A5 B1 (A1 2) ⇑1)<|A5 D5 ⇑3 (A1 3))<|A1 0) (A0 ⇑26 A3))) [‹scr ns›,‹.int at'›,a2,‹.bool b›,Z (.own L),‹.int k›,a6]=Z ((az 2).map λj=>.str<|S j) :=
  V7 (l:=az 2) (h:=λj:Nat=>fK j) (r:=[‹scr ns›,‹.int at'›,‹.int k›]) rfl (u7 (n:=2) rfl<|by decide) (by decide) λj hj=>(hS j<|aR.mp hj).1
 refine⟨Builtin.Str.glued "" [S 0,S 1],?_,(cp1 _ _ (hS 0<|by decide).2.1 (hS 1<|by decide).2.1).2,bR1 (hS 0<|by decide).2.2 (hS 1<|by decide).2.2⟩;have jn:=cf9 (f:=dC<|.str "") (g:=qN<|C5 1 [0,1,5] (L8 ⇑2) (B5 0) F9 (an2 (dC<|.str "abcdefghijklmnopqrstuvwxyz")<|A2 A9 (A0 (A1 1)<|A0 (A5 B1 (A5 B1 (A5 B1 (A1 2) ⇑1)<|A5 D5 ⇑3 (A1 3))<|A1 0) (A0 ⇑26 A3)))) (ρ:=[‹scr ns›,‹.int at'›,a2,‹.bool b›,Z (.own L),‹.int k›,a6]) rfl (by unfold qN;rw[c];rfl) (hS 0<|by decide).2.1 (hS 1<|by decide).2.1;unfold nbA B4;rw[jn];rfl
def cA6(ns:List Int)(hn:ns.length<=63)(at' k:Nat)(ha:at' < 2 ^ 20)(hk:k < 14)(a2:Option B)(b:Bool)(L:List D)(x:Str)(hx:x.length=2)(sx:SOk x):∃y:Str,nbB [‹scr ns›,‹.int at'›,a2,‹.bool b›,Z (.own L),‹.int k›,‹.str x›]=Z (.nx [‹scr ns›,‹.int at'›,a2,‹.bool b›,Z (.own L),‹.int k›,‹.str y›])/\y.length<=4/\SOk y:=by
 have m3:D5 (.int 3) (.int k)=Z (.int ((3*k:Nat):Int)):=N8 (i:=3) (by decide) (by grind);obtain⟨d,ed,ld⟩:=K8 ns hn (e:=(at':Int)+3+((3*k:Nat):Int)) (m':=3) (at'+3+3*k) 3 (by grind) rfl (by grind) (by decide);obtain⟨d',ed',ld'⟩:=K8 ns hn (e:=(at':Int)+2+((3*k:Nat):Int)) (m':=2) (at'+2+3*k) 2 (by grind) rfl (by grind) (by decide);obtain⟨kk,ek,hk'⟩:=db6 d' ld';have sl:=bZ5 x O (Z (d:Int));have rl:=aY3 (slS x O<|Z (d:Int)) kk hk';refine⟨aA0 (slS x O<|Z (d:Int)) kk,?_,by grind,bH2 (bZ4 sx _ _) kk hk'⟩
 have a1:bC0 (A1 6) C7 (B7<|A2 A9 (A0 (A1 0)<|A0 (A5 B1 (A5 B1 (A1 1) ⇑3)<|A5 D5 ⇑3 (A1 5)) (A0 ⇑3 A3))) [‹scr ns›,‹.int at'›,a2,‹.bool b›,Z (.own L),‹.int k›,‹.str x›]=Z (.str<|slS x O (Z (d:Int))):=by
  have cnd:x.length<=1000/\(slS x O<|Z (d:Int)).length<=16777216:=⟨by grind,by grind⟩
  exists evD,bC0,m3,ed,if_pos cnd
 have a2:dIx (qN<|A0 ⇑1 (A0 ⇑2 A3)) (A2 A9<|A0 (A1 0) (A0 (A5 B1 (A5 B1 (A1 1) ⇑2)<|A5 D5 ⇑3 (A1 5))<|A0 ⇑2 A3)) [‹scr ns›,‹.int at'›,a2,‹.bool b›,Z (.own L),‹.int k›,‹.str x›]=Z (.int kk):=by exists evD,m3,ed',ek
 unfold nbB B4;rw[aC2 a1 a2,ce4 _ kk hk' (by grind)];rfl
def ifb(b:Bool)(x y:D):atI [x,y] (if b=true then 1 else 0)=Z (if b=true then y else x):=by cases b<;>rfl
def cA5(ns:List Int)(at' k:Nat)(hk:k < 14)(a2:Option B)(b:Bool)(L:List D)(hL:L.length<=100)(y:Str)(hy:y.length<=4):nbC [‹scr ns›,‹.int at'›,a2,‹.bool b›,Z (.own L),‹.int k›,‹.str y›]=Z (.nx [‹scr ns›,‹.int at'›,a2,‹.bool b›,Z (.own<|L++[.str (nmS b k y)]),‹.int k›,‹.str y›]):=by
 have ec:=cB6 k hk;have lc:(ltr k).length=1:=rfl;have c1:=be4 y (ltr k) (by grind) (by grind);have c2:=be4 (ltr k) y (by grind) (by grind);have hl:L.length < 16777216:=by grind
 have e:dIx (qN<|A0 (A5 B1 (A1 6)<|an2 (dC<|.str "abcdefghijklmn") (A1 5)) (A0 (A5 B1 (an2 (dC<|.str "abcdefghijklmn")<|A1 5)<|A1 6) A3)) (bl6<|A1 3) [‹scr ns›,‹.int at'›,a2,‹.bool b›,Z (.own L),‹.int k›,‹.str y›]=Z (.str<|nmS b k y):=by
  exists evD,an2,ec,c1,c2,ifb
  cases b<;>rfl
 unfold nbC x9;simp only[xg0,xg1,if_pos hl,e,xms,xw0,xw1]
def bL6(ns:List Int)(hn:ns.length<=63)(at' many:Nat)(ha:at' < 2 ^ 20)(hm:many<=14):∃L:List D,aj0 [scr ns,.int at',.int many]=Z (.list L)/\L.length=many/\∃b:Bool,∀i,i < many->∃y,L[i]? = Z (.str<|nmS b i y)/\SOk y/\y.length<=4:=by
 obtain⟨d,ed,ld⟩:=K8 ns hn (e:=(at':Int)) (m':=2) at' 2 rfl rfl (by grind) (by decide)
 obtain⟨ρ',e,L,a5,a6,hρ,hL,hP⟩:=ag3 (g:=B5 5) (f:=aZ7) (h:=λj:Nat=>fK j) (I:=λi ρ=>∃(L:List D) (a5 a6:Option B),ρ=[‹scr ns›,‹.int at'›,‹.int many›,‹.bool ((d:Int)==0)›,Z (.own L),a5,a6]/\L.length=i/\∀n,n < i->∃y,L[n]? = Z (.str (nmS ((d:Int)==0) n y))/\SOk y/\y.length<=4) (az many) 0 [‹scr ns›,‹.int at'›,‹.int many›,‹.bool ((d:Int)==0)›,Z (.own []),O,O] ⟨[],O,O,rfl,rfl,λn h=>absurd h (eE n)⟩ (λj a hj ρ hρ=>by
  obtain⟨L,a5,a6,rfl,hL,hP⟩:=hρ;obtain⟨hj1,hj2⟩:=ao.mp hj;rw[aW]at hj1;rw[List.getElem_range]at hj2;subst hj2;refine⟨_,rfl,?_⟩;simp only[xw0,xw1];obtain⟨x,e1,hx,sx⟩:=cA7 ns hn at' j ha (by grind) (‹.int many›) ((d:Int)==0) L a6;obtain⟨y,e2,hy,sy⟩:=cA6 ns hn at' j ha (by grind) (‹.int many›) ((d:Int)==0) L x hx sx;have e3:=cA5 ns at' j (by grind) (‹.int many›) ((d:Int)==0) L (by grind) y hy
  have eb:aZ7 [‹scr ns›,‹.int at'›,‹.int many›,‹.bool ((d:Int)==0)›,Z (.own L),‹.int j›,a6]=Z (.nx [‹scr ns›,‹.int at'›,‹.int many›,‹.bool ((d:Int)==0)›,Z (.own<|L++[.str (nmS ((d:Int)==0) j y)]),‹.int j›,‹.str y›]):=by
   unfold aZ7;rw[A6 e1,A6 e2,e3]
  refine⟨_,eb,L++[.str (nmS ((d:Int)==0) j y)],_,_,rfl,by rw[ah,hL];rfl,λn hn=>?_⟩;by_cases q:n < 0+j
  .obtain⟨z,e1,e2⟩:=hP n q;exact⟨z,by rw[aV (by grind)];exact e1,e2⟩
  .have:n=L.length:=by grind
   refine⟨y,?_,sy,hy⟩;rw[this,aK (ak _),bY];rw[show L.length=j by grind]
   rfl)
 subst hρ;rw[aW,du]at hL hP;refine⟨L,?_,hL,_,hP⟩;refine B2 (ρ:=[‹scr ns›,‹.int at'›,‹.int many›,O,O,O,O]) rfl ?_;have rn:L8 (A1 2) [‹scr ns›,‹.int at'›,‹.int many›,‹.bool ((d:Int)==0)›,Z (.own []),O,O]=_:=u7 (n:=many) rfl (by grind);have s1:(ad9 4 A3) [‹scr ns›,‹.int at'›,‹.int many›,‹.bool ((d:Int)==0)›,O,O,O]=Z (.nx [‹scr ns›,‹.int at'›,‹.int many›,‹.bool ((d:Int)==0)›,Z (.own []),O,O]):=rfl
 have s2:(X8 (L8<|A1 2) (B5 5) aZ7) [‹scr ns›,‹.int at'›,‹.int many›,‹.bool ((d:Int)==0)›,Z (.own []),O,O]=Z (.nx [‹scr ns›,‹.int at'›,‹.int many›,‹.bool ((d:Int)==0)›,Z (.own L),a5,a6]):=by
  unfold X8;rw[rn];exact e
 have s3:(aR0 4<|B0 (A1 4)) [‹scr ns›,‹.int at'›,‹.int many›,‹.bool ((d:Int)==0)›,Z (.own L),a5,a6]=Z (.rt<|.list L):=rfl;rw[bR0];refine(A6 (by simp only[B4,A5,A2,A0,A3,A1,dC,xbs,xms,xg0,xg1,xw0,xw1,ed,aH0];rfl)).trans ?_;rw[A6 s1,A6 s2];exact s3
def cS1:∀n:Nat,n < 6->∃m:Man,atI ([.str "over", .str "multiply", .str "screen", .str "plus", .str "atop", .str "cut"]:List D) (n:Int)=Z (.str m.s)
 | 0,_=>⟨.over,rfl⟩
 | 1,_=>⟨.mult,rfl⟩
 | 2,_=>⟨.screen,rfl⟩
 | 3,_=>⟨.plus,rfl⟩
 | 4,_=>⟨.atop,rfl⟩
 | 5,_=>⟨.cut,rfl⟩
 | n+6,h=>absurd h (by grind)
def db1:∀n:Nat,n < 4->∃m:Man,atI ([.str "over", .str "multiply", .str "screen", .str "plus"]:List D) (n:Int)=Z (.str m.s)
 | 0,_=>⟨.over,rfl⟩
 | 1,_=>⟨.mult,rfl⟩
 | 2,_=>⟨.screen,rfl⟩
 | 3,_=>⟨.plus,rfl⟩
 | n+4,h=>absurd h (by grind)
def cS2(m:Man):∀n:Nat,n < 4->∃m':Man,atI ([.str m.s,.str "atop", .str m.s,.str "cut"]:List D) (n:Int)=Z (.str m'.s)
 | 0,_=>⟨m,rfl⟩
 | 1,_=>⟨.atop,rfl⟩
 | 2,_=>⟨m,rfl⟩
 | 3,_=>⟨.cut,rfl⟩
 | n+4,h=>absurd h (by omega)
def cZ7:∀n:Nat,n < 3->∃r:Rul,atI ([.str "turn", .str "grey", .str "round"]:List D) (n:Int)=Z (.str r.s)
 | 0,_=>⟨.turn,rfl⟩
 | 1,_=>⟨.grey,rfl⟩
 | 2,_=>⟨.round,rfl⟩
 | n+3,h=>absurd h (by grind)
def bv1(n:Nat):((n:Int)==0)=decide (n=0):=by
 cases n with
 | zero=>rfl
 | succ n=>rw[decide_eq_false (by omega)];exact beq_eq_false_iff_ne.mpr (by omega)
def bE7(n:Nat):(decide ((0:Int) < (n:Int)))=decide (0 < n):=by
 cases n with
 | zero=>rfl
 | succ n=>rw[decide_eq_true (by omega),decide_eq_true (by omega)]
def ad1(n:Nat):(1:Int)+(n:Int)=((1+n:Nat):Int):=by grind
def Nd.nm:Nd->D
 | .layer nm ..=>nm
 | .tone nm ..=>nm
 | .group nm ..=>nm
mutual
def Nd.near:Nd->Prop
 | .layer _ _ _ _ lf tp _ w h l kb=>-2<=lf/\lf<=2/\-2<=tp/\tp<=2/\kb<=40/\w<=3/\h<=3/\∀q∈l,q.ok 8
 | .tone ..=>True
 | .group _ _ _ _ ns=>Nd.nears ns
def Nd.nears:List Nd->Prop
 | []=>True
 | n::r=>n.near/\Nd.nears r
end
theorem T9:∀l:List Nd,Nd.nears l↔∀n∈l,n.near
 | []=>by simp[Nd.nears]
 | n::r=>by simp[Nd.nears,T9 r]
abbrev lv(ns:List Int)(at':Nat)(nm:D)(m:Man)(s:Rat)(d:Nat)(r:Rho):Rho:=‹scr ns›::‹.int at'›::‹nm›::‹.str m.s›::‹fr s›::‹.bool (decide (0 < d))›::r
def br0(ns:List Int)(hn:ns.length<=63)(at':Nat)(ha:at' < 2 ^ 19)(nm:D)(m:Man):∃n:Nd,Y4 [scr ns,.int at',nm,.str m.s]=Z n.d/\n.Ok/\n.dp=0/\n.wg<=40/\n.nm=nm/\n.near:=by
 obtain⟨s,es,hs⟩:=ai6 ns at' hn (by grind);have es:L7 [scr ns,.int at']=Z (fr s):=es;obtain⟨d3,e3,l3⟩:=drw ns hn at' 3 6 (by grind);obtain⟨d4,e4,l4⟩:=drw ns hn at' 4 6 (by grind);obtain⟨d6,e6,l6⟩:=drw ns hn at' 6 3 (by grind);obtain⟨d7,e7,l7⟩:=drw ns hn at' 7 3 (by grind);obtain⟨d8,e8,l8⟩:=drw ns hn at' 8 3 (by grind);obtain⟨d9,e9,l9⟩:=drw ns hn at' 9 3 (by grind);obtain⟨d10,e10,l10⟩:=drw ns hn at' 10 4 (by grind);obtain⟨d11,e11,l11⟩:=drw ns hn at' 11 4 (by grind);obtain⟨d12,e12,l12⟩:=drw ns hn at' 12 3 (by grind);obtain⟨d5,e5,l5⟩:=drw ns hn at' 5 3 (by grind);obtain⟨d5',e5',l5'⟩:=drw ns hn at' 5 6 (by grind);by_cases t4:d4=0
 .obtain⟨r,er⟩:=cZ7 d5 l5;refine⟨.tone nm r s<|decide (0 < d3),?_,aM3 hs,rfl,by show 6<=40;decide,rfl,by rw[Nd.near];trivial⟩;have s2:X3 (lv ns at' nm m s d3 [O,O,O,O,O,O,O])=Z (.rt<|.tuple [.str "tone", nm,.str r.s,fr s,.bool (decide (0 < d3))]):=by exists evD,X3,lv,e4,bv1,decide_eq_true t4,e5,er
  refine B2 (ρ:=[‹scr ns›,‹.int at'›,‹nm›,‹.str m.s›,O,O,O,O,O,O,O,O,O]) rfl ?_;unfold aJ5;refine(A6 (by exists evD,ae5,lv,es;rfl)).trans ?_;refine(A6 (by exists evD,ae4,lv,e3,bE7;rfl)).trans ?_;rw[D9 s2,fV]
 have s2:X3 (lv ns at' nm m s d3 [O,O,O,O,O,O,O])=Z (.nx<|lv ns at' nm m s d3 [O,O,O,O,O,O,O]):=by exists evD,X3,lv,e4,bv1,decide_eq_false t4
 obtain⟨m0,em0⟩:=cS1 d5' l5'
 obtain⟨m1,s4⟩:∃m1:Man,r8 (lv ns at' nm m s d3 [‹.str m0.s›,O,O,O,O,O,O])=Z (.nx<|lv ns at' nm m s d3 [‹.str m1.s›,O,O,O,O,O,O]):=by
  by_cases t6:0 < d6
  .exact⟨m,by exists evD,r8,lv,e6,bE7,decide_eq_true t6⟩
  .exact⟨m0,by exists evD,r8,lv,e6,bE7,decide_eq_false t6⟩
 have wh:(1+d7)*(1+d8)<=9:=bU (show 1+d7<=3 by grind) (show 1+d8<=3 by grind);have mwh:D5 (.int ((1+d7:Nat):Int)) (.int ((1+d8:Nat):Int))=Z (.int (((1+d7)*(1+d8):Nat):Int)):=N8 (by grind) (by grind)
 obtain⟨mk,s8,hmk⟩:∃mk:Option (List Rat),r6 (lv ns at' nm m s d3 [‹.str m1.s›,‹.int ((1+d7:Nat):Int)›,‹.int ((1+d8:Nat):Int)›,Z (.val .none),O,O,O])=Z (.nx<|lv ns at' nm m s d3 [‹.str m1.s›,‹.int ((1+d7:Nat):Int)›,‹.int ((1+d8:Nat):Int)›,‹mkD mk›,O,O,O])/\∀ms,mk=Z ms->ms.length=(1+d7)*(1+d8)/\∀r∈ms,Sr 4 r:=by
  by_cases t9:d9=0
  .have P:∀j,j < 9->∃r:Rat,L7 [scr ns,.int ((at':Int)+20+((3*j:Nat):Int))]=Z (fr r)/\IsSh 4 r:=λj hj=>aE0 ns hn (at'+20+3*j) (by grind) (by grind)
   obtain⟨R,hR⟩:=bb3 (x:=(0:Rat)) P
   have c:C5 1 [0,1] (L8<|A5 D5 (A1 7) (A1 8)) (B5 0) F9 (A2 L7<|A0 (A1 1) (A0 (A5 B1 (A5 B1 (A1 2) ⇑20)<|A5 D5 ⇑3 (A1 0)) A3)) (lv ns at' nm m s d3 [‹.str m1.s›,‹.int ((1+d7:Nat):Int)›,‹.int ((1+d8:Nat):Int)›,Z (.val .none),O,O,O])=Z ((az<|(1+d7)*(1+d8)).map λj=>fr<|R j):=by
    refine V7 (l:=az<|(1+d7)*(1+d8)) (h:=λj:Nat=>fK j) (r:=[‹scr ns›,‹.int at'›]) rfl (u7 ((aC2 rfl rfl).trans mwh)<|by grind) (by rw[aW];grind) λj hj=>?_
    have hj:=aR.mp hj;have m3:D5 (.int 3) (.int j)=Z (.int ((3*j:Nat):Int)):=N8 (i:=3) (by decide) (by grind)
    exists evD,lv,m3,(hR j<|by grind).1
   refine⟨Z<|(az<|(1+d7)*(1+d8)).map R,?_,λms e=>?_⟩
   .simp only[r6,sIf,tB2,B4,V1,qN,c,A5,A2,A0,A3,A1,dC,n5,e9,aH0,bv1,decide_eq_true t9,N0,xbs,xms,xg0,xg1,xw0,xw1,if_true,xft,if_false,mkD,bM];rfl
   .cases e;refine⟨by rw[aj,aW],λr hr=>?_⟩;obtain⟨j,hj,rfl⟩:=aM.mp hr;exact aM3 (hR j (by have:=aR.mp hj;grind)).2
  .exact⟨O,by(exists evD,r6,lv,e9,bv1,decide_eq_false t9,mkD),λms e=>by cases e⟩
 obtain⟨w,h,lf,tp,mk',s11,hw,hh,hmk',hof⟩:∃(w h:Nat) (lf tp:Int) (mk':Option (List Rat)),g7 (lv ns at' nm m s d3 [‹.str m1.s›,‹.int ((1+d7:Nat):Int)›,‹.int ((1+d8:Nat):Int)›,‹mkD mk›,‹.int ((d10:Int) - 1)›,‹.int ((d11:Int) - 1)›,O])=Z (.nx<|lv ns at' nm m s d3 [‹.str m1.s›,‹.int (w:Nat)›,‹.int (h:Nat)›,‹mkD mk'›,‹.int lf›,‹.int tp›,O])/\(1<=w/\w<=3)/\(1<=h/\h<=3)/\(∀ms,mk'=Z ms->ms.length=w*h/\∀r∈ms,Sr 4 r)/\(-2<=lf/\lf<=2/\-2<=tp/\tp<=2):=by
  by_cases t12:d12=0
  .refine⟨3,3,0,0,O,?_,by decide,by decide,(λms e=>by cases e),by decide⟩;have l5:∀a b c d e:D,([a,b,c,d,e]:List D).length=5:=λ_ _ _ _ _=>rfl
   exists evD,g7,lv,e12,bv1,decide_eq_true t12,l5,mkD
   rfl
  .exact⟨1+d7,1+d8,(d10:Int) - 1,(d11:Int) - 1,mk,by(exists evD,g7,lv,e12,bv1,decide_eq_false t12),by grind,by grind,hmk,by grind⟩
 obtain⟨l,el,S⟩:=bG5 ns hn (e:=(at':Int)+50) (at'+50) w h (by grind) (by grind) hw.1 (by grind) hh.1 (by grind);refine⟨.layer nm m1 s (decide (0 < d3)) lf tp mk' w h l 32,?_,?_,rfl,ak _,rfl,by rw[Nd.near];exact⟨hof.1,hof.2.1,hof.2.2.1,hof.2.2.2,by decide,by grind,by grind,S.ok⟩⟩
 .have s13:ab0 (lv ns at' nm m s d3 [‹.str m1.s›,‹.int (w:Nat)›,‹.int (h:Nat)›,‹mkD mk'›,‹.int lf›,‹.int tp›,‹shD w h l›])=Z (.rt<|.tuple [.str "layer", nm,.str m1.s,fr s,.bool (decide (0 < d3)),.int lf,.int tp,mkD mk',shD w h l]):=by
   exists evD,ab0,lv
  refine B2 (ρ:=[‹scr ns›,‹.int at'›,‹nm›,‹.str m.s›,O,O,O,O,O,O,O,O,O]) rfl ?_;unfold aJ5;refine(A6 (by exists evD,ae5,lv,es;rfl)).trans ?_;refine(A6 (by exists evD,ae4,lv,e3,bE7;rfl)).trans ?_;rw[A6 s2];refine(A6 (by exists evD,ax8,lv,e5',em0;rfl)).trans ?_;rw[A6 s4];refine(A6 (by exists evD,ax7,lv,e7,ad1;rfl)).trans ?_;refine(A6 (by exists evD,ax6,lv,e8,ad1;rfl)).trans ?_;refine(A6 (by exists evD,ax5,lv;rfl)).trans ?_;rw[A6 s8];refine(A6 (by exists evD,ax4,lv,e10;rfl)).trans ?_;refine(A6 (by exists evD,ao5,lv,e11;rfl)).trans ?_;rw[A6 s11];refine(A6 (by exists evD,ao4,lv,el;rfl)).trans ?_;rw[s13,fV]
 .rw[fX];exact⟨aM3 hs,⟨S.w1,S.w8,S.h1,S.h8,S.len,λq hq=>(S.ok q hq).mono<|by decide⟩,λq hq=>cq2<|S.ok q hq,hmk',by decide⟩
theorem D3:∀l:List Nd,fW l=l.map fV
 | []=>by rw[fW];rfl
 | n::r=>by rw[fW,D3 r];rfl
theorem R7:∀l:List Nd,fY l↔∀n∈l,n.Ok
 | []=>by simp[fY]
 | n::r=>by simp[fY,R7 r]
theorem aa9:∀a b:List Nd,fZ (a++b)=fZ a+fZ b
 | [],b=>by simp[fZ]
 | n::a,b=>by rw[xca,fZ,fZ,aa9 a b];grind
theorem F7:∀a b:List Nd,gc (a++b)=max (gc a) (gc b)
 | [],b=>by simp[gc]
 | n::a,b=>by rw[xca,gc,gc,F7 a b,Nat.max_assoc]
theorem bF1:∀l:List Nd,(∀n∈l,n.wg<=40)->fZ l<=40*l.length
 | [],_=>by simp[fZ]
 | n::l,h=>by
  have a:=h n (ae ..);have b:=bF1 l λm hm=>h m<|xmm _ hm
  rw[fZ,aH];grind
theorem bb9:∀l:List Nd,(∀n∈l,n.dp=0)->gc l=0
 | [],_=>by simp[gc]
 | n::l,h=>by
  have a:=h n (ae ..);have b:=bb9 l λm hm=>h m<|xmm _ hm
  rw[gc];grind
mutual
def Nd.nms:Nd->List D
 | .layer nm _ _ _ _ _ _ _ _ _ _=>[nm]
 | .tone nm _ _ _=>[nm]
 | .group nm _ _ _ ns=>nm::Nd.nmss ns
def Nd.nmss:List Nd->List D
 | []=>[]
 | n::r=>n.nms++Nd.nmss r
end
theorem B3:∀a b:List Nd,Nd.nmss (a++b)=Nd.nmss a++Nd.nmss b
 | [],b=>by simp[Nd.nmss]
 | n::a,b=>by rw[xca,Nd.nmss,Nd.nmss,B3 a b,ax]
mutual
def Nd.thin:Nd->Prop
 | .layer ..=>True
 | .tone ..=>True
 | .group _ _ _ _ ns=>ns.length<=1000/\Nd.thins ns
def Nd.thins:List Nd->Prop
 | []=>True
 | n::r=>n.thin/\Nd.thins r
end
theorem P3:∀l:List Nd,Nd.thins l↔∀n∈l,n.thin
 | []=>by simp[Nd.thins]
 | n::r=>by simp[Nd.thins,P3 r]
def aA4(l:List Nd)(a c:Nat)(g:List Nd->Nd):List Nd:=l.take a++[g ((l.drop a).take<|c - a)]++l.drop c
def cv0(l:List Nd){a c:Nat}(h:a<=c):l.take a++(l.drop a).take (c - a)++l.drop c=l:=by
 have e:l.drop c=(l.drop a).drop (c - a):=by rw[List.drop_drop];congr 1;grind
 rw[e,ax,bn,bn]
def cl1{ds:List D}{a b:Nat}(ha:a<=ds.length):R8 ds (Z (a:Int)) (Z (b:Int))=(ds.drop a).take (min b ds.length - a)/\∀es:List D,aD6 ds (Z (a:Int)) (Z (b:Int)) es=ds.take a++es++ds.drop (max a<|min b ds.length):=by
 have h1:HT.sIx ds.length 0 (Z (a:Int))=a:=by rw[HT.sIx_nat];grind
 have h2:HT.sIx ds.length ds.length (Z (b:Int))=min b ds.length:=HT.sIx_nat ..;refine⟨?_,λes=>?_⟩
 .unfold R8;rw[h1,h2]
 .unfold aD6;rw[h1,h2]
abbrev gE(ns:List Int)(at' most:Nat)(N:List D)(m:Man)(r:Rho):Rho:=‹scr ns›::‹.int at'›::‹.int most›::‹.list N›::‹.str m.s›::r
def bR4(ns:List Int)(hn:ns.length<=63)(at' most k:Nat)(ha:at' < 2 ^ 18)(hk:k < 2)(hmost:most<=6)(N:List D)(hN:most+2<=N.length)(m:Man)(l:List Nd)(hl:l.length<=100)(a5 a8 a9 a10 a11 a12:Option B):
  ∃(a c:Nat) (nm:D) (m':Man) (s:Rat) (sh:Bool) (b8 b9 b10 b11 b12:Option B),bs1 (gE ns at' most N m [a5,Z (.own<|fW l),‹.int k›,a8,a9,a10,a11,a12])=Z (.nx<|gE ns at' most N m [a5,Z (.own<|fW (aA4 l a c<|Nd.group nm m' s sh)),‹.int k›,b8,b9,b10,b11,b12])/\a<=c/\c<=l.length/\IsSh 4 s/\nm=N.getD (most+k) .none:=by
 have m5:D5 (.int 5) (.int k)=Z (.int ((5*k:Nat):Int)):=N8 (i:=5) (by decide) (by grind);have hds:(fW l).length=l.length:=by rw[D3,aj]
 obtain⟨f,ef,lf⟩:=K8 ns hn (e:=(at':Int)+3+((5*k:Nat):Int)) (m':=(((fW l).length:Nat):Int)+1) (at'+3+5*k) (l.length+1) (by grind) (by rw[hds];grind) (by grind) (by grind);obtain⟨d,ed,ld⟩:=K8 ns hn (e:=(at':Int)+4+((5*k:Nat):Int)) (m':=3) (at'+4+5*k) 3 (by grind) rfl (by grind) (by decide);obtain⟨s0,es0,hs0⟩:=aE0 ns hn (e:=(at':Int)+5+((5*k:Nat):Int)) (at'+5+5*k) (by grind) (by grind);obtain⟨d6,e6,l6⟩:=K8 ns hn (e:=(at':Int)+6+((5*k:Nat):Int)) (m':=2) (at'+6+5*k) 2 (by grind) rfl (by grind) (by decide);obtain⟨d7,e7,l7⟩:=K8 ns hn (e:=(at':Int)+7+((5*k:Nat):Int)) (m':=4) (at'+7+5*k) 4 (by grind) rfl (by grind) (by decide);obtain⟨d14,e14,l14⟩:=K8 ns hn (e:=(at':Int)+14+(k:Int)) (m':=7) (at'+14+k) 7 (by grind) rfl (by grind) (by decide);obtain⟨m',em'⟩:=cS2 m d7 l7
 obtain⟨s,est,hs⟩:∃s:Rat,atI ([.tuple [.int 1,.int 1],fr s0]:List D) (d6:Int)=Z (fr s)/\IsSh 4 s:=by
  rcases(show d6=0\/d6=1 by grind) with rfl|rfl
  .exact⟨1,rfl,Bd.one.mono (by decide),Rat.le_refl⟩
  .exact⟨s0,rfl,hs0⟩
 obtain⟨nm,enm,hnm⟩:∃nm,atI N ((most:Int)+(k:Int))=Z nm/\nm=N.getD (most+k) .none:=by
  unfold atI;rw[aG1 (by grind) (by grind),xbs];have h':((most:Int)+(k:Int)).toNat=most+k:=by grind
  rw[h'];exact⟨N[most+k]'(by grind),av (by grind),by rw[aZ,av (by grind)];rfl⟩
 refine⟨f,max f<|min (f+d) l.length,nm,m',s,decide (0 < d14),?_⟩;have s0:gb0 (gE ns at' most N m [a5,Z (.own<|fW l),‹.int k›,a8,a9,a10,a11,a12])=Z (.nx<|gE ns at' most N m [a5,Z (.own<|fW l),‹.int k›,‹.int f›,a9,a10,a11,a12]):=by exists evD,gb0,gE,m5,ef
 have fd:(f:Int)+(d:Int)=((f+d:Nat):Int):=by grind
 obtain⟨q1,q2⟩:=cl1 (ds:=fW l) (a:=f) (b:=f+d) (by grind)
 have mid:((fW l).drop f).take (min (f+d) (fW l).length - f)=fW ((l.drop f).take<|max f (min (f+d) l.length) - f):=by
  rw[hds,D3,D3,← ck,← cq]
  congr 2;grind
 have s5:gb5 (gE ns at' most N m [a5,Z (.own<|fW l),‹.int k›,‹.int f›,‹.int ((f+d:Nat):Int)›,‹fr s›,‹.str m'.s›,‹.tuple [.str "group", nm,.str m'.s,fr s,.bool (decide (0 < d14))]›])=Z (.nx<|gE ns at' most N m [a5,Z (.own<|fW (aA4 l f (max f<|min (f+d) l.length)<|Nd.group nm m' s (decide (0 < d14)))),‹.int k›,‹.int f›,‹.int ((f+d:Nat):Int)›,‹fr s›,‹.str m'.s›,‹.tuple [.str "group", nm,.str m'.s,fr s,.bool (decide (0 < d14))]›]):=by
  have x1:bC1 (A8 6) (B7<|A1 8) (B7<|A1 9) (gE ns at' most N m [a5,Z (.own<|fW l),‹.int k›,‹.int f›,‹.int ((f+d:Nat):Int)›,‹fr s›,‹.str m'.s›,‹.tuple [.str "group", nm,.str m'.s,fr s,.bool (decide (0 < d14))]›])=Z (.list<|fW ((l.drop f).take<|max f (min (f+d) l.length) - f)):=by rw[← mid,← q1];rfl
  have x2:(A0 (A5 B1 (A1 12)<|B6 (A0 (V1<|qE (bC1 (A8 6) (B7<|A1 8)<|B7 (A1 9))) A3)) A3) (gE ns at' most N m [a5,Z (.own<|fW l),‹.int k›,‹.int f›,‹.int ((f+d:Nat):Int)›,‹fr s›,‹.str m'.s›,‹.tuple [.str "group", nm,.str m'.s,fr s,.bool (decide (0 < d14))]›])=Z [fV (Nd.group nm m' s (decide (0 < d14))<|(l.drop f).take (max f (min (f+d) l.length) - f))]:=by
   have cc:∀a b c d e g:D,B1 (.tuple [a,b,c,d,e]) (.tuple [g])=Z (.tuple [a,b,c,d,e,g]):=λ_ _ _ _ _ _=>rfl
   simp only[A0,A3,A5,B6,V1,qE,x1,az9,A1,xbs,xms,xg0,xg1,xft,if_false,cc,fV]
  have sz:(fW l).length+1<=16777216:=by grind
  have fin:aD6 (fW l) (Z (f:Int)) (Z ((f+d:Nat):Int)) [fV (Nd.group nm m' s (decide (0 < d14))<|(l.drop f).take (max f (min (f+d) l.length) - f))]=fW (aA4 l f (max f<|min (f+d) l.length)<|Nd.group nm m' s (decide (0 < d14))):=by
   rw[q2,hds];unfold aA4;rw[D3,D3,bf,bf,cq,ck];rfl
  rw[← fin];unfold gb5 bG7;rw[x2,xbs];show(if(fW l).length+1<=16777216 then Z (Fl.nx _) else O)=_;rw[if_pos sz];rfl
 refine⟨‹.int f›,‹.int ((f+d:Nat):Int)›,‹fr s›,‹.str m'.s›,‹.tuple [.str "group", nm,.str m'.s,fr s,.bool (decide (0 < d14))]›,?_,by grind,by grind,hs,hnm⟩;unfold bs1;rw[A6 s0];refine(A6 (by exists evD,gb1,gE,m5,ed,fd;rfl)).trans ?_;refine(A6 (by exists evD,gb2,gE,m5,es0,e6,est;rfl)).trans ?_;refine(A6 (by exists evD,gb3,gE,m5,e7,em';rfl)).trans ?_;refine(A6 (by exists evD,gb4,gE,enm,e14,bE7;rfl)).trans ?_;rw[s5]
structure NOk (N:List D) (i:Nat) (most:Nat) (l:List Nd):Prop where
 ok:fY l
 wg:fZ l<=40*most+5*i
 dp:gc l<=i
 len:l.length<=most+i
 th:Nd.thins l
 nr:Nd.nears l
 ix:∃is:List Nat,Nd.nmss l=is.map (λj=>N.getD j .none)/\is.Nodup/\∀j∈is,j < most+i
def NOk.grp{N:List D}{i most:Nat}{l:List Nd}(h:NOk N i most l){a c:Nat}{nm:D}{m:Man}{s:Rat}{sh:Bool}(ac:a<=c)(hs:IsSh 4 s)(hnm:nm=N.getD (most+i) .none)(h100:l.length<=100):NOk N (i+1) most (aA4 l a c<|Nd.group nm m s sh):=by
 have e:=cv0 l ac;have w1:=congrArg fZ e;have w2:=congrArg gc e;rw[aa9,aa9]at w1;rw[F7,F7]at w2;have hw:=h.wg;have hd:=h.dp;refine⟨?_,?_,?_,?_,?_,?_,?_⟩
 .rw[R7];have ok:=(R7 l).mp h.ok;intro n hn;unfold aA4 at hn;rcases ay.mp hn with hn|hn
  .rcases ay.mp hn with hn|hn
   .exact ok n (bC hn)
   .rw[au.mp hn];rw[fX];exact⟨aM3 hs,(R7 _).mpr λn' hn'=>ok n'<|bD (bC hn')⟩
  .exact ok n (bD hn)
 .unfold aA4;rw[aa9,aa9];simp only[fZ,Nd.wg]
  grind
 .unfold aA4;rw[F7,F7];simp only[gc,gb]
  grind
 .unfold aA4;rw[ah,ah,aA,aS,aN];have:=h.len
  grind
 .rw[P3];have th:=(P3 l).mp h.th;intro n hn;unfold aA4 at hn;rcases ay.mp hn with hn|hn
  .rcases ay.mp hn with hn|hn
   .exact th n (bC hn)
   .rw[au.mp hn,Nd.thin];exact⟨aQ (List.length_take_le' ..) (by rw[aS];grind),(P3 _).mpr λn' hn'=>th n'<|bD (bC hn')⟩
  .exact th n (bD hn)
 .rw[T9];have th:=(T9 l).mp h.nr;intro n hn;unfold aA4 at hn;rcases ay.mp hn with hn|hn
  .rcases ay.mp hn with hn|hn
   .exact th n (bC hn)
   .rw[au.mp hn,Nd.near];exact(T9 _).mpr λn' hn'=>th n'<|bD (bC hn')
  .exact th n (bD hn)
 .obtain⟨is,e1,e2,e3⟩:=h.ix;have w3:=congrArg Nd.nmss e;rw[B3,B3,e1]at w3;obtain⟨i12,i3,q1,q2,q3⟩:=eI.mp w3.symm;obtain⟨i1,i2,p1,p2,p3⟩:=eI.mp q2;subst p1 q1;refine⟨i1++((most+i)::i2)++i3,?_,?_,?_⟩
  .unfold aA4;rw[B3,B3,← q3,← p2];simp only[Nd.nmss,Nd.nms,br,bf,xmc,p3,hnm]
  .have pm:(i1++((most+i)::i2)++i3).Perm ((most+i)::(i1++i2++i3)):=by
    rw[ax,xca,ax i1 i2 i3];exact List.perm_middle
   rw[pm.nodup_iff,be];exact⟨λz=>by have:=e3 _ z;grind,e2⟩
  .intro j hj
   have:j=most+i\/j∈i1++i2++i3:=by
    simp only[ay,am]at hj ⊢;rcases hj with(h|h|h)|h
    .exact .inr (.inl<|.inl h)
    .exact .inl h
    .exact .inr (.inl<|.inr h)
    .exact .inr (.inr h)
   rcases this with rfl|h
   .grind
   .have:=e3 j h;grind
def bK8(ns:List Int)(hn:ns.length<=63)(at' most:Nat)(ha:at' < 2 ^ 18)(hmost:most<=6)(N:List D)(hN:most+2<=N.length):∃l:List Nd,aw6 [scr ns,.int at',.int most,.list N]=Z ↥l/\NOk N 2 most l:=by
 obtain⟨d0,e0,l0⟩:=K8 ns hn (e:=(at':Int)) (m':=4) at' 4 rfl rfl (by grind) (by decide);obtain⟨d1,e1,l1⟩:=K8 ns hn (e:=(at':Int)+1) (m':=(most:Int)+1) (at'+1) (most+1) (by grind) (by grind) (by grind) (by grind);obtain⟨d2,e2,l2⟩:=drw ns hn at' 2 3 (by grind);obtain⟨m,em⟩:=db1 d0 l0
 have P:∀j,j < d1->∃n:Nd,A2 Y4 (A0 (A1 1)<|A0 (A5 B1 (A5 B1 (A1 4) ⇑20)<|A5 D5 ⇑170 (A1 0)) (A0 (dIx (A8 3)<|A1 0)<|A0 (A1 2) A3)) [‹.int (j:Nat)›,‹scr ns›,‹.str m.s›,‹.list N›,‹.int at'›]=Z n.d/\n.Ok/\n.dp=0/\n.wg<=40/\n.nm=N.getD j .none/\n.near:=λj hj=>by
  have m170:D5 (.int 170) (.int j)=Z (.int ((170*j:Nat):Int)):=N8 (i:=170) (by decide) (by grind)
  have en:atI N (j:Int)=Z (N[j]'(by grind)):=by
   unfold atI;rw[aG1 (by grind) (by grind),xbs,bu];exact av (by grind)
  obtain⟨n,en',hn'⟩:=br0 ns hn (at'+20+170*j) (by grind) (N[j]'(by grind)) m;have ei:(at':Int)+20+((170*j:Nat):Int)=((at'+20+170*j:Nat):Int):=by grind
  refine⟨n,?_,hn'.1,hn'.2.1,hn'.2.2.1,by rw[hn'.2.2.2.1,aZ,av (by grind)];rfl,hn'.2.2.2.2⟩
  exists evD,gE,m170,en,ei,en'
 obtain⟨f,hf⟩:=bb3 (x:=Nd.tone .none .turn 0 true) P
 have g2:gn2 (gE ns at' most N m [‹.int d1›,O,O,O,O,O,O,O])=Z (.nx<|gE ns at' most N m [‹.int d1›,Z (.own<|fW ((az d1).map f)),O,O,O,O,O,O]):=by
  have c:C5 1 [0,4,3,1] (L8<|A1 5) (B5 0) F9 (A2 Y4<|A0 (A1 1) (A0 (A5 B1 (A5 B1 (A1 4) ⇑20)<|A5 D5 ⇑170 (A1 0))<|A0 (dIx (A8 3)<|A1 0) (A0 (A1 2) A3))) (gE ns at' most N m [‹.int d1›,O,O,O,O,O,O,O])=Z ((az d1).map λj=>(f j).d) :=
   V7 (l:=az d1) (h:=λj:Nat=>fK j) (r:=[‹scr ns›,‹.str m.s›,‹.list N›,‹.int at'›]) rfl (u7 (n:=d1) rfl<|by grind) (by rw[aW];grind) λj hj=>(hf j<|aR.mp hj).1
  unfold gn2 ad9;rw[c,D3,bM];rfl
 have x6:NOk N 0 most ((az d1).map f):=by
  refine⟨(R7 _).mpr λn h=>?_,?_,?_,?_,(P3 _).mpr λn h=>?_,(T9 _).mpr λn h=>?_,az d1,?_,List.nodup_range,λj hj=>by have:=aR.mp hj;grind⟩
  .obtain⟨j,hj,rfl⟩:=aM.mp h;exact(hf j<|aR.mp hj).2.1
  .have:=bF1 ((az d1).map f) λn h=>by
    obtain⟨j,hj,rfl⟩:=aM.mp h;exact(hf j<|aR.mp hj).2.2.2.1
   rw[aj,aW]at this
   grind
  .rw[bb9 _ λn h=>by
    obtain⟨j,hj,rfl⟩:=aM.mp h
    exact(hf j (aR.mp hj)).2.2.1]
   exact ak _
  .rw[aj,aW];grind
  .obtain⟨j,hj,rfl⟩:=aM.mp h;have:=(hf j<|aR.mp hj).2.2.1;cases q:f j with
   | group=>rw[q,gb]at this;grind
   | layer=>rw[Nd.thin];trivial
   | tone=>rw[Nd.thin];trivial
  .obtain⟨j,hj,rfl⟩:=aM.mp h;exact(hf j<|aR.mp hj).2.2.2.2.2
  .have key:∀is:List Nat,(∀j∈is,j < d1)->Nd.nmss (is.map f)=is.map λj=>N.getD j .none:=by
    intro is
    induction is with
    | nil=>intro _;simp[Nd.nmss]
    | cons j is ih =>
     intro hj;have a:=hf j (hj j<|ae ..);rw[xmc,Nd.nmss,ih λi hi=>hj i (xmm _ hi),xmc,← a.2.2.2.2.1];cases q:f j with
     | group=>have:=a.2.2.1;rw[q,gb]at this;grind
     | layer=>simp[Nd.nms,Nd.nm]
     | tone=>simp[Nd.nms,Nd.nm]
   exact key _ λj hj=>aR.mp hj
 obtain⟨ρ',e3,l,b7,b8,b9,b10,b11,b12,hρ,hl⟩:=ag3 (g:=B5 7) (f:=bs1) (h:=λj:Nat=>fK j) (I:=λi ρ=>∃(l:List Nd) (b7 b8 b9 b10 b11 b12:Option B),ρ=(gE ns at' most N m [‹.int d1›,Z (.own (fW l)),b7,b8,b9,b10,b11,b12])/\NOk N i most l) (az d2) 0 (gE ns at' most N m [‹.int d1›,Z (.own (fW ((az d1).map f))),O,O,O,O,O,O]) ⟨_,_,_,_,_,_,_,rfl,x6⟩ (λj a hj ρ hρ=>by
  obtain⟨l,b7,b8,b9,b10,b11,b12,rfl,hl⟩:=hρ;obtain⟨hj1,hj2⟩:=ao.mp hj;rw[aW]at hj1;rw[List.getElem_range]at hj2;subst hj2;refine⟨_,rfl,?_⟩;simp only[xw0,xw1];have hll:=hl.len;obtain⟨a,c,nm,m',s,sh,c8,c9,c10,c11,c12,eb,ac,cl,hs,hnm⟩:=bR4 ns hn at' most j ha (by grind) hmost N hN m l (by grind) (‹.int d1›) b8 b9 b10 b11 b12
  exact⟨_,eb,_,_,_,_,_,_,_,rfl,hl.grp ac hs (by rw[hnm,du]) (by grind)⟩)
 subst hρ;rw[aW,du]at hl
 refine⟨l,?_,hl.ok,by have:=hl.wg;grind,by have:=hl.dp;grind,by have:=hl.len;grind,hl.th,hl.nr,by
  obtain⟨is,q1,q2,q3⟩:=hl.ix
  exact⟨is,q1,q2,λj hj=>by have:=q3 j hj;grind⟩⟩
 have rn:L8 (A2 A9<|A0 (A1 0) (A0 (A5 B1 (A1 1) ⇑2)<|A0 ⇑3 A3)) (gE ns at' most N m [‹.int d1›,Z (.own<|fW ((az d1).map f)),O,O,O,O,O,O])=_:=u7 (n:=d2) (by exists evD,gE,e2) (by grind)
 have g3:gn3 (gE ns at' most N m [‹.int d1›,Z (.own<|fW ((az d1).map f)),O,O,O,O,O,O])=Z (.nx<|gE ns at' most N m [‹.int d1›,Z (.own<|fW l),b7,b8,b9,b10,b11,b12]):=by
  unfold gn3 X8;rw[rn];exact e3
 have g4:gn4 (gE ns at' most N m [‹.int d1›,Z (.own<|fW l),b7,b8,b9,b10,b11,b12])=Z (.rt ↥l):=rfl;refine B2 (ρ:=[‹scr ns›,‹.int at'›,‹.int most›,‹.list N›,O,O,O,O,O,O,O,O,O]) rfl ?_;rw[bQ9];refine(A6 (by exists evD,gn0,gE,e0,em;rfl)).trans ?_;refine(A6 (by exists evD,gn1,gE,e1;rfl)).trans ?_;rw[A6 g2,A6 g3];exact g4
def C6(w h:Nat)(l:List Nd):D:=.tuple [.int w,.int h,↥l]
def bh9(ns:List Int)(hn:ns.length<=63)(at' most:Nat)(ha:at' < 2 ^ 17)(hmost:most<=6)(N:List D)(hN:most+2<=N.length):∃(w h:Nat) (l:List Nd),v9 [scr ns,.int at',.int most,.list N]=Z (C6 w h l)/\NOk N 2 most l/\(1<=w/\w<=3)/\(1<=h/\h<=3):=by
 obtain⟨d0,e0,l0⟩:=K8 ns hn (e:=(at':Int)) (m':=3) at' 3 rfl rfl (by grind) (by decide);obtain⟨d1,e1,l1⟩:=drw ns hn at' 1 3 (by grind);obtain⟨l,el,hl⟩:=bK8 ns hn (at'+2) most (by grind) hmost N hN;have e2:(at':Int)+2=((at'+2:Nat):Int):=by grind
 refine⟨1+d0,1+d1,l,?_,hl,by grind,by grind⟩;refine B2 (ρ:=[‹scr ns›,‹.int at'›,‹.int most›,‹.list N›,O,O]) rfl ?_
 exists evD,az6,gE,e0,e1,ad1,e2,el,C6
def G5(n:Nd):n.nm∈n.nms:=by cases n<;>simp[Nd.nm,Nd.nms]
def K7{n:Nd}{l:List Nd}(h:n∈l){d:D}(hd:d∈n.nms):d∈Nd.nmss l:=by
 obtain⟨a,b,rfl⟩:=cD h;rw[B3,Nd.nmss];simp[hd]
def G3(d:D):Prop:=∃s:Str,d=.str s/\SOk s
def same(a b:D):Bool:=@decide (a=b)<|bv _
def D4(a:D):same a a=true:=@decide_eq_true _ (bv _) rfl
def M7{a b:D}(h:a≠b):same a b=false:=@decide_eq_false _ (bv _) h
def as4(d:D):Prop:=∃s:Str,d=.str s/\fN (.str s)=true
def G3.l{d:D}(h:G3 d):as4 d:=by
 obtain⟨s,rfl,hs⟩:=h;exact⟨s,rfl,hs.ok⟩
def bS7{a b:D}(ha:G3 a)(hb:as4 b):eqD a b=Z (.bool<|same a b):=by
 obtain⟨s,rfl,hs⟩:=ha;obtain⟨t,rfl,ht⟩:=hb;refine K1 hs.ok ht ?_;by_cases e:s=t
 .subst e;rw[D4];simp
 .rw[M7 (λz=>e (by cases z;rfl))];simp[e]
def cU9{a b:D}(ha:G3 a)(hb:G3 b):eqD a b=Z (.bool<|same a b):=bS7 ha hb.l
theorem aU1{g:D->Rho->Option Rho}{f:DS}{I:Rho->Prop}{d:D}:∀(X:List D) (i:Nat) (ρ:Rho),I ρ->(∀j x,j < i->X[j]? = Z x->∀ρ,I ρ->∃ρ1,g x ρ=Z ρ1/\∃ρ',f ρ1=Z (.nx ρ')/\I ρ')->(∀x,X[i]? = Z x->∀ρ,I ρ->∃ρ1,g x ρ=Z ρ1/\f ρ1=Z (.rt d))->i < X.length->aa2 g f X ρ=Z (.rt d)
 | [],i,ρ,_,_,_,h=>absurd h<|eE i
 | x::X,0,ρ,h0,_,H,_=>by
  obtain⟨ρ1,e1,e2⟩:=H x rfl ρ h0;simp only[aa2,e1,xbs,e2]
 | x::X,i+1,ρ,h0,S,H,hl=>by
  obtain⟨ρ1,e1,ρ',e2,h2⟩:=S 0 x (by grind) rfl ρ h0;have:=aU1 X i ρ' h2 (λj y hj hy=>S (j+1) y (by grind)<|by simpa using hy) (λy hy=>H y<|by simpa using hy) (by simpa using hl);simp only[aa2,e1,xbs,e2,this]
theorem aG7{g:D->Rho->Option Rho}{f:DS}{I:Rho->Prop}:∀(X:List D) (ρ:Rho),I ρ->(∀x∈X,∀ρ,I ρ->∃ρ1,g x ρ=Z ρ1/\∃ρ',f ρ1=Z (.nx ρ')/\I ρ')->∃ρ',aa2 g f X ρ=Z (.nx ρ')/\I ρ'
 | [],ρ,h,_=>⟨ρ,rfl,h⟩
 | x::X,ρ,h,H=>by
  obtain⟨ρ1,e1,ρ2,e2,h2⟩:=H x (ae ..) ρ h;obtain⟨ρ',e3,h3⟩:=aG7 X ρ2 h2 λy hy=>H y<|xmm _ hy
  exact⟨ρ',by simp only[aa2,e1,xbs,e2,e3],h3⟩
def name_of(n:Nd):W9 [n.d]=Z n.nm:=by cases n<;>(rw[fV];rfl)
def nab:DS:=(sIf (tB2 eqD (A2 W9<|A0 (A1 3) A3)<|A1 1) (B0<|A1 2) B8)
def bi6{n:Nd}{nm:D}(h1:G3 n.nm)(h2:as4 nm)(a0 a2:Option B)(k:D):nab [a0,‹nm›,‹k›,‹n.d›]=if same n.nm nm=true then Z (.rt k) else Z (.nx [a0,‹nm›,‹k›,‹n.d›]):=by simp only[nab,sIf,tB2,A5,A2,A0,A3,A1,name_of,bS7 h1 h2,N0,B0,B8,xbs,xms,xg0,xg1]
def ag6(l:List Nd)(j:Nat):(fW l)[j]? = (l[j]?).map fV:=by rw[D3,aI]
def au3{l:List Nd}{nm:D}(hs:∀n∈l,G3 n.nm)(hn:as4 nm)(h:∀n∈l,n.nm≠nm):F6 [↥l,nm]=Z .none:=by
 refine B2 (ρ:=[‹↥l›,‹nm›,O,O]) rfl ?_
 obtain⟨ρ',e,_⟩:=ag3 (g:=S7 2 (C4 (B5 2) (C4 (B5 3) U0))) (f:=nab) (h:=id) (I:=λ_ ρ=>∃a2 a3,ρ=[‹↥l›,‹nm›,a2,a3]) (ay8 (fW l)) 0 [‹↥l›,‹nm›,O,O] ⟨O,O,rfl⟩ (λj d hj ρ hρ=>by
  obtain⟨a2,a3,rfl⟩:=hρ;rw[aq5,ag6]at hj;cases q:l[j]? with
  | none=>rw[q]at hj;cases hj
  | some n =>
   rw[q]at hj;cases hj;have hm:=dl q;refine⟨_,rfl,[‹↥l›,‹nm›,‹.int j›,‹n.d›],?_,_,_,rfl⟩;have:=bi6 (hs n hm) hn (‹↥l›) O (.int j);rw[M7 (h n hm)]at this
   exact this)
 rw[List.map_id]at e;have s0:(X8 (bb1<|qE (A1 0)) (S7 2<|C4 (B5 2) (C4 (B5 3) U0)) nab) [‹↥l›,‹nm›,O,O]=Z (.nx ρ'):=e;exact(A6 s0).trans rfl
def ap5{l:List Nd}{nm:D}(hs:∀n∈l,G3 n.nm)(hn:G3 nm)(h:∀n∈l,n.nm≠nm):F6 [↥l,nm]=Z .none:=au3 hs hn.l h
def aF0{a b:List Nd}{n:Nd}(hs:∀n'∈a,G3 n'.nm)(hn:G3 n.nm)(h:∀n'∈a,n'.nm≠n.nm):F6 [↥(a++n::b),n.nm]=Z (.int a.length):=by
 refine B2 (ρ:=[‹↥(a++n::b)›,‹n.nm›,O,O]) rfl ?_
 have e:=aU1 (g:=S7 2 (C4 (B5 2) (C4 (B5 3) U0))) (f:=nab) (d:=.int a.length) (I:=λρ=>∃a2 a3,ρ=[‹↥(a++n::b)›,‹n.nm›,a2,a3]) (ay8 (fW (a++n::b))) a.length [‹↥(a++n::b)›,‹n.nm›,O,O] ⟨O,O,rfl⟩ (λj x hj hx ρ hρ=>by
  obtain⟨a2,a3,rfl⟩:=hρ;rw[aq5,ag6,aV hj,av hj]at hx;cases hx;have hm:=aT hj;refine⟨_,rfl,[‹↥(a++n::b)›,‹n.nm›,‹.int j›,Z (.val (a[j]).d)],?_,_,_,rfl⟩;have:=bi6 (hs _ hm) hn.l (‹↥(a++n::b)›) O (.int j);rw[M7 (h _ hm)]at this;exact this) (λx hx ρ hρ=>by
  obtain⟨a2,a3,rfl⟩:=hρ;rw[aq5,ag6,aK (ak _),bY]at hx;cases hx;refine⟨_,rfl,?_⟩;have:=bi6 hn hn.l (‹↥(a++n::b)›) O (.int a.length);rw[D4]at this
  exact this) (by rw[bb7,D3,aj,ah];simp)
 have s0:(X8 (bb1<|qE (A1 0)) (S7 2<|C4 (B5 2) (C4 (B5 3) U0)) nab) [‹↥(a++n::b)›,‹n.nm›,O,O]=Z (.rt<|.int a.length):=e;exact D9 s0
def D2(n:Nd):N1 [n.d]=Z (.bool (match n with | .group ..=>true|_=>false)):=by
 have e_tg:eqD (.str "tone") (.str "group")=Z (.bool false):=K1z;cases n with
 | layer nm m s sh lf tp mk w h l kb=>rw[fV];exact rX1<|congrArg (cG Fl.rt) bz5
 | tone nm r s sh=>rw[fV];exact rX1<|congrArg (cG Fl.rt) e_tg
 | group nm m s sh ns=>rw[fV];exact rX1<|congrArg (cG Fl.rt) bz6
def cR9(ds:List D):al8 (.tuple ds) .none=Z (.bool true):=rfl
def cS0(i:Int):al8 (.int i) .none=Z (.bool true):=rfl
def ae2{l:List Nd}{nm:D}(h:nm∉Nd.nmss l):∀n∈l,n.nm≠nm:=λn hn e=>h<|e ▸ K7 hn (G5 n)
def x0{l:List Nd}(h:∀d∈Nd.nmss l,G3 d):∀n∈l,G3 n.nm:=λn hn=>h _<|K7 hn (G5 n)
def twb(f:Nat):DS:=(sIf (G7<|A2 N1 (A0 (A1 2) A3)) (A7 (B4 3<|A2 (F8 f) (A0 (A2 E7<|A0 (A1 2) A3)<|A0 (A1 1) A3))<|sIf (tB2 al8 (A1 3)<|dC .none) (B0<|A1 3) B8) B8)
def J0{l:List Nd}{n:Nd}(h:n∈l):n.dp<=gc l:=by
 obtain⟨a,b,rfl⟩:=cD h;rw[F7,gc];grind
def bF4(nm:D)(hn:as4 nm):∀(k:Nat) (l:List Nd) (f:Nat),gc l<=k->k+1<=f->(∀d∈Nd.nmss l,G3 d)->nm∉Nd.nmss l->F8 f [↥l,nm]=Z .none:=by
 intro k
 induction k with
 | zero =>
  intro l f hd hf hs hni;obtain⟨f,rfl⟩:∃g,f=g+1:=⟨f - 1,by grind⟩;have e0:=au3 (x0 hs) hn<|ae2 hni
  obtain⟨ρ',e,a2,a3,hρ⟩:=aG7 (g:=B5 2) (f:=twb f) (I:=λρ=>∃a2 a3,ρ=[‹↥l›,‹nm›,a2,a3]) (fW l) [‹↥l›,‹nm›,O,O] ⟨O,O,rfl⟩ (λx hx ρ hρ=>by
   obtain⟨a2,a3,rfl⟩:=hρ;rw[D3]at hx;obtain⟨n,hm,rfl⟩:=aM.mp hx;refine⟨_,rfl,[‹↥l›,‹nm›,‹n.d›,a3],?_,_,_,rfl⟩;have:=J0 hm;cases n with
   | group _ _ _ _ _=>rw[gb]at this;grind
   | layer=>exists evD,twb,D2
   | tone=>exists evD,twb,D2)
  subst hρ;refine B2 (g:=K9<|F8 f) (ρ:=[‹↥l›,‹nm›,O,O]) rfl ?_;unfold twb at e
  exists evD,K9,X8,e0,aF3,e
 | succ k ih =>
  intro l f hd hf hs hni;obtain⟨f,rfl⟩:∃g,f=g+1:=⟨f - 1,by grind⟩;have e0:=au3 (x0 hs) hn<|ae2 hni
  obtain⟨ρ',e,a2,a3,hρ⟩:=aG7 (g:=B5 2) (f:=twb f) (I:=λρ=>∃a2 a3,ρ=[‹↥l›,‹nm›,a2,a3]) (fW l) [‹↥l›,‹nm›,O,O] ⟨O,O,rfl⟩ (λx hx ρ hρ=>by
   obtain⟨a2,a3,rfl⟩:=hρ;rw[D3]at hx;obtain⟨n,hm,rfl⟩:=aM.mp hx;have hdp:=J0 hm;refine⟨_,rfl,?_⟩;cases n with
   | group nm' m s sh ns =>
    rw[gb]at hdp;have sub:∀d∈Nd.nmss ns,d∈Nd.nmss l:=λd hd=>K7 hm (by rw[Nd.nms];exact xmm _ hd)
    have e1:=ih ns f (by grind) (by grind) (λd hd=>hs d<|sub d hd) (λz=>hni<|sub _ z);refine⟨[‹↥l›,‹nm›,‹fV (.group nm' m s sh ns)›,Z (.val .none)],?_,_,_,rfl⟩
    exists evD,twb,D2,aq3,e1,aF3
   | layer=>exact⟨_,by exists evD,twb,D2;rfl,_,_,rfl⟩
   | tone=>exact⟨_,by exists evD,twb,D2;rfl,_,_,rfl⟩)
  subst hρ;refine B2 (g:=K9<|F8 f) (ρ:=[‹↥l›,‹nm›,O,O]) rfl ?_;unfold twb at e
  exists evD,K9,X8,e0,aF3,e
def bY6(nm:D)(hn:G3 nm)(k:Nat)(l:List Nd)(f:Nat):gc l<=k->k+1<=f->(∀d∈Nd.nmss l,G3 d)->nm∉Nd.nmss l->F8 f [↥l,nm]=Z .none:=bF4 nm hn.l k l f
inductive Stands (a:List Nd) (n:Nd) (b:List Nd):List Nd->Prop
 | top:Stands a n b (a++n::b)
 | deep {c e:List Nd}{nm:D}{m:Man}{s:Rat}{sh:Bool}{ns:List Nd}:Stands a n b ns->Stands a n b (c ++ .group nm m s sh ns::e)
def Stands.nm{a:List Nd}{n:Nd}{b l:List Nd}(h:Stands a n b l):∀d∈n.nms,d∈Nd.nmss l:=by
 induction h with
 | top=>intro d hd;rw[B3,Nd.nmss];simp[hd]
 | deep _ ih=>intro d hd;rw[B3,Nd.nmss,Nd.nms];simp[ih d hd]
def bY5{a b:List Nd}{n:Nd}(hn:G3 n.nm){l:List Nd}(h:Stands a n b l):∀f:Nat,gc l+1<=f->(∀d∈Nd.nmss l,G3 d)->(Nd.nmss l).Nodup->F8 f [↥l,n.nm]=Z ↥(a++n::b):=by
 induction h with
 | top =>
  intro f hf hs hd;obtain⟨f,rfl⟩:∃g,f=g+1:=⟨f - 1,by grind⟩;rw[B3,Nd.nmss]at hd
  have e0:=aF0 (a:=a) (b:=b) (n:=n) (λn' hn'=>x0 hs n' (af _ hn')) hn (λn' hn' e=>by
   have d1:=(aD.mp hd).2.2
   exact d1 n'.nm (K7 hn' (G5 n')) n.nm (af _ (G5 n)) e)
  refine B2 (g:=K9<|F8 f) (ρ:=[‹↥(a++n::b)›,‹n.nm›,O,O]) rfl ?_
  exists evD,K9,e0,cS0
 | @deep c e nm m s sh ns h ih =>
  intro f hf hs hd;obtain⟨f,rfl⟩:∃g,f=g+1:=⟨f - 1,by grind⟩;rw[F7,gc,gb]at hf;have hin:=h.nm n.nm (G5 n);rw[B3,Nd.nmss,Nd.nms]at hd;have dc:=(aD.mp hd);have dg:=(aD.mp dc.2.1);have dn:=be.mp dg.1;have hc:n.nm∉Nd.nmss c:=λz=>dc.2.2 n.nm z n.nm (by simp[hin]) rfl
  have hg:nm≠n.nm:=λz=>dn.1<|z ▸ hin
  have he:n.nm∉Nd.nmss e:=λz=>dg.2.2 n.nm (by simp[hin]) n.nm z rfl
  have hsc:∀d∈Nd.nmss c,G3 d:=λd hd=>hs d (by rw[B3];simp[hd])
  have hsn:∀d∈Nd.nmss ns,G3 d:=λd hd=>hs d (by rw[B3,Nd.nmss,Nd.nms];simp[hd])
  have e0:=ap5 (l:=c ++ .group nm m s sh ns::e) (x0 hs) hn (λn' hn' z=>by
   rcases ay.mp hn' with q|q
   .exact ae2 hc n' q z
   .rcases am.mp q with rfl|q
    .exact hg z
    .exact ae2 he n' q z)
  have e1:=ih f (by grind) hsn dn.2
  have e2:=aU1 (g:=B5 2) (f:=twb f) (d:=.tuple (fW (a++n::b))) (I:=λρ=>∃a2 a3,ρ=[‹↥(c ++ .group nm m s sh ns::e)›,‹n.nm›,a2,a3]) (fW (c ++ .group nm m s sh ns::e)) c.length [‹↥(c ++ .group nm m s sh ns::e)›,‹n.nm›,O,O] ⟨O,O,rfl⟩ (λj x hj hx ρ hρ=>by
   obtain⟨a2,a3,rfl⟩:=hρ;rw[ag6,aV hj,av hj]at hx;cases hx;have hm:=aT hj;have hdp:=J0 hm;refine⟨_,rfl,?_⟩;cases q:c[j] with
   | group nm' m' s' sh' ns' =>
    rw[q]at hm hdp;rw[gb]at hdp;have sub:∀d∈Nd.nmss ns',d∈Nd.nmss c:=λd hd=>K7 hm (by rw[Nd.nms];exact xmm _ hd)
    have e3:=bY6 n.nm hn (gc ns') ns' f (ak _) (by grind) (λd hd=>hsc d<|sub d hd) (λz=>hc<|sub _ z);refine⟨[‹↥(c ++ .group nm m s sh ns::e)›,‹n.nm›,‹fV (.group nm' m' s' sh' ns')›,Z (.val .none)],?_,_,_,rfl⟩
    exists evD,twb,D2,aq3,e3,aF3
   | layer=>exact⟨_,by exists evD,twb,D2;rfl,_,_,rfl⟩
   | tone=>exact⟨_,by exists evD,twb,D2;rfl,_,_,rfl⟩) (λx hx ρ hρ=>by
   obtain⟨a2,a3,rfl⟩:=hρ;rw[ag6,aK (ak _),bY]at hx;cases hx;refine⟨_,rfl,?_⟩
   exists evD,twb,D2,aq3,e1,cR9) (by rw[D3,aj,ah];simp)
  refine B2 (g:=K9<|F8 f) (ρ:=[‹↥(c ++ .group nm m s sh ns::e)›,‹n.nm›,O,O]) rfl ?_;unfold twb at e2
  exists evD,K9,X8,e0,aF3,e2
def aD0{nm:D}{m:Man}{s:Rat}{sh:Bool}{ns ns':List Nd}:O5 [fV (.group nm m s sh ns),↥ns']=Z (fV<|.group nm m s sh ns'):=by
 rw[fV,fV];rfl
def aE9{l l':List Nd}{nm oth:D}{f:Nat}(hl:l.length<=1000)(e0:F6 [↥l,nm]=Z .none)(hz:l'.length=l.length)(H:∀(j:Nat) (hj:j < l.length),J5 f [(l[j]).d,nm,oth]=Z ((l'[j]'(by omega)).d)):
  G6 (f+1) [↥l,nm,oth]=Z ↥l':=by
 refine B2 (g:=K6<|al0 f) (ρ:=[‹↥l›,‹nm›,‹oth›]) rfl ?_
 have c:C5 1 [1,2] (M9<|A1 0) (B5 0) F9 (A2 (al0 f 1)<|A0 (A1 0) (A0 (A1 1)<|A0 (A1 2) A3)) [‹↥l›,‹nm›,‹oth›]=Z (fW l'):=by
  have q:fW l=(az l.length).map λj=>((l[j]?).map fV).getD .none:=by
   rw[D3];apply bW;intro j;rw[aI,aI];by_cases hj:j < l.length
   .simp[dw hj,av hj]
   .rw[bj (by omega),bj (by rw[aW];omega)];rfl
  have q':fW l'=(az l.length).map λj=>((l'[j]?).map fV).getD .none:=by
   rw[D3];apply bW;intro j;rw[aI,aI];by_cases hj:j < l.length
   .have hj':j < l'.length:=by omega
    simp[dw hj,av hj']
   .rw[bj (by omega),bj (by rw[aW];omega)];rfl
  rw[q'];refine V7 (l:=az l.length) (h:=λj=>((l[j]?).map fV).getD .none) (r:=[‹nm›,‹oth›]) rfl (by rw[← q];rfl) (by rw[aW];exact hl) λj hj=>?_
  have hj:=aR.mp hj;have:=H j hj;rw[av hj,av (by omega)];exact this
 simp only[K6,A7,sIf,B8,tB2,A5,A2,A0,A3,A1,dC,e0,aF3,N0,B0,V1,qN,c,xbs,xms,xg0,xg1,xft,if_false]
def af4{n:Nd}{nm oth:D}{f:Nat}(h:n.dp=0):J5 (f+1) [n.d,nm,oth]=Z n.d:=by
 refine B2 (g:=J4<|al0 f) (ρ:=[‹n.d›,‹nm›,‹oth›]) rfl ?_;cases n with
 | group=>rw[gb]at h;grind
 | layer=>exists evD,J4,D2
 | tone=>exists evD,J4,D2
def au4{nm':D}{m:Man}{s:Rat}{sh:Bool}{ns ns':List Nd}{nm oth:D}{f:Nat}(h:G6 f [↥ns,nm,oth]=Z ↥ns'):J5 (f+1) [fV (.group nm' m s sh ns),nm,oth]=Z (fV<|.group nm' m s sh ns'):=by
 refine B2 (g:=J4<|al0 f) (ρ:=[‹fV (.group nm' m s sh ns)›,‹nm›,‹oth›]) rfl ?_;have h':al0 f 0 [↥ns,nm,oth]=Z ↥ns':=h
 exists evD,J4,D2,aq3,h',aD0
def cz5(nm:D)(hn:G3 nm)(oth:D):∀(k:Nat) (l:List Nd) (f:Nat),gc l<=k->2*k+2<=f->(∀d∈Nd.nmss l,G3 d)->nm∉Nd.nmss l->l.length<=1000->Nd.thins l->G6 f [↥l,nm,oth]=Z ↥l:=by
 intro k
 induction k with
 | zero =>
  intro l f hd hf hs hni hl ht;obtain⟨f,rfl⟩:∃g,f=g+2:=⟨f - 2,by grind⟩;refine aE9 hl (ap5 (x0 hs) hn<|ae2 hni) rfl λj hj=>?_
  have:=J0 (aT hj);exact af4 (by grind)
 | succ k ih =>
  intro l f hd hf hs hni hl ht;obtain⟨f,rfl⟩:∃g,f=g+2:=⟨f - 2,by grind⟩;refine aE9 hl (ap5 (x0 hs) hn<|ae2 hni) rfl λj hj=>?_
  have hm:=aT hj;have hdp:=J0 hm;have htn:=(P3 l).mp ht _ hm;generalize l[j]=n at hm hdp htn;cases n with
  | group nm' m s sh ns =>
   rw[gb]at hdp;rw[Nd.thin]at htn;have sub:∀d∈Nd.nmss ns,d∈Nd.nmss l:=λd hd=>K7 hm (by rw[Nd.nms];exact xmm _ hd)
   exact au4 (ih ns f (by grind) (by grind) (λd hd=>hs d<|sub d hd) (λz=>hni<|sub _ z) htn.1 htn.2)
  | layer=>exact af4 rfl
  | tone=>exact af4 rfl
def cz6(nm:D)(hn:G3 nm)(oth:D)(n:Nd)(f:Nat)(hf:2*n.dp+1<=f)(hs:∀d∈n.nms,G3 d)(hni:nm∉n.nms)(ht:n.thin):J5 f [n.d,nm,oth]=Z n.d:=by
 obtain⟨f,rfl⟩:∃g,f=g+1:=⟨f - 1,by grind⟩;cases n with
 | group nm' m s sh ns =>
  rw[gb]at hf;rw[Nd.thin]at ht;rw[Nd.nms]at hs hni;exact au4 (cz5 nm hn oth (gc ns) ns f (ak _) (by grind) (λd hd=>hs d<|xmm _ hd) (λz=>hni<|xmm _ z) ht.1 ht.2)
 | layer=>exact af4 rfl
 | tone=>exact af4 rfl
structure StProps (a:List Nd) (n:Nd) (b l:List Nd):Prop where
 ok:fY l->n.Ok
 wg:n.wg<=fZ l
 dp:n.dp<=gc l
 nd:(Nd.nmss l).Nodup->(Nd.nmss (a++n::b)).Nodup
 sub:∀d∈Nd.nmss (a++n::b),d∈Nd.nmss l
 len:l.length<=1000->Nd.thins l->(a++n::b).length<=1000
def Stands.props{a b l:List Nd}{n:Nd}(h:Stands a n b l):StProps a n b l:=by
 induction h with
 | top =>
  refine⟨λo=>(R7 _).mp o n (by simp),?_,?_,λh=>h,λd h=>h,λh _=>h⟩
  .rw[aa9,fZ];grind
  .rw[F7,gc];grind
 | @deep c e nm m s sh ns h ih =>
  refine⟨λo=>?_,?_,?_,λhd=>?_,λd hd=>?_,λhl ht=>?_⟩
  .have og:=(R7 _).mp o (.group nm m s sh ns) (by simp);rw[fX]at og;exact ih.ok og.2
  .have:=ih.wg;rw[aa9,fZ,Nd.wg];grind
  .have:=ih.dp;rw[F7,gc,gb];grind
  .rw[B3,Nd.nmss,Nd.nms]at hd;exact ih.nd (be.mp (aD.mp (aD.mp hd).2.1).1).2
  .rw[B3,Nd.nmss,Nd.nms];simp[ih.sub d hd]
  .have tg:=(P3 _).mp ht (.group nm m s sh ns) (by simp);rw[Nd.thin]at tg;exact ih.len tg.1 tg.2
def alb(f:Nat):DS:=(A7 (x9 1<|A1 2)<|sIf (tB2 eqD (dIx (A8 2) ⇑0)<|dC (.str "group")) (ad9 1<|bx7 (A8 1) (qE<|A2 (K2 f) (A0 (dIx (A8 2) ⇑5) A3))) B8)
def e_tg:eqD (.str "tone") (.str "group")=Z (.bool false):=K1z
def bf0{n:Nd}(f:Nat)(h:n.dp=0)(a0:Option B)(X:List D)(hX:X.length < 1000):alb f [a0,Z (.own X),‹n.d›]=Z (.nx [a0,Z (.own<|X++[n.d]),‹n.d›]):=by
 have hx:X.length < 16777216:=by grind
 unfold alb;refine(A6 (by simp only[x9,xg0,xg1,if_pos hx,A1,xms,xw0,xw1];rfl)).trans ?_;cases n with
 | group=>rw[gb]at h;grind
 | layer=>rw[fV];exists evD,az1,bz5
 | tone=>rw[fV];exists evD,be7,e_tg
def bD5{nm:D}{m:Man}{s:Rat}{sh:Bool}{ns:List Nd}(f:Nat)(a0:Option B)(X Y:List D)(hX:X.length < 1000)(hY:Y.length < 1000)(e:K2 f [↥ns]=Z (.list Y)):alb f [a0,Z (.own X),‹fV (.group nm m s sh ns)›]=Z (.nx [a0,Z (.own<|X++[fV (.group nm m s sh ns)]++Y),‹fV (.group nm m s sh ns)›]):=by
 have hx:X.length < 16777216:=by grind
 unfold alb;refine(A6 (by simp only[x9,xg0,xg1,if_pos hx,A1,xms,xw0,xw1];rfl)).trans ?_
 have hc:bx7 (A8 1) (qE<|A2 (K2 f) (A0 (dIx (A8 2) ⇑5) A3)) [a0,Z (.own<|X++[fV (.group nm m s sh ns)]),‹fV (.group nm m s sh ns)›]=Z (X++[fV (.group nm m s sh ns)]++Y):=by
  have q2:qE (A2 (K2 f)<|A0 (dIx (A8 2) ⇑5) A3) [a0,Z (.own<|X++[fV (.group nm m s sh ns)]),‹fV (.group nm m s sh ns)›]=Z (false,Y):=by
   rw[show fV (.group nm m s sh ns)=.tuple [.str "group", nm,.str m.s,fr s,.bool sh,↥ns] by rw[fV]]
   exists evD,be6,e
  unfold bx7;rw[q2];show(if false=false/\false=false/\(X++[fV (.group nm m s sh ns)]).length+Y.length<=16777216 then Z (X++[fV (.group nm m s sh ns)]++Y) else O)=_;rw[if_pos ⟨rfl,rfl,by rw[ah];show X.length+1+Y.length<=_;grind⟩]
 have ht:tB2 eqD (dIx (A8 2) ⇑0) (dC<|.str "group") [a0,Z (.own<|X++[fV (.group nm m s sh ns)]),‹fV (.group nm m s sh ns)›]=Z true:=by
  rw[show fV (.group nm m s sh ns)=.tuple [.str "group", nm,.str m.s,fr s,.bool sh,↥ns] by rw[fV]]
  exists evD,aI7,bz6
 simp only[sIf,ht,xbs,if_true,ad9,hc,xms,xw0,xw1]
def Low(s:Str):Prop:=∀c∈s.cps.toList,97<=c/\c<=122
def Nm(d:D):Prop:=∃s:Str,d=.str s/\Low s/\1<=s.length/\s.length<=6
def cB8(c:Nat)(h1:97<=c)(h2:c<=122):inS false (.str ⟨#[c]⟩) (.str "abcdefghijklmnopqrstuvwxyz")=Z (.bool true):=by
 have h:∀k:Fin 26,cj2 ⟨#[97+k.val]⟩ "abcdefghijklmnopqrstuvwxyz" = true:=by decide +kernel
 have:=h ⟨c - 97,by omega⟩;simp only[show 97+(c - 97)=c by omega]at this;show Z (fL<|cj2 ⟨#[c]⟩ "abcdefghijklmnopqrstuvwxyz")=_;rw[this]
def aI9{α:Type}(l:List α):aW3 (l.map λ_=>fL true)=Z true:=by rw[as0 (λ_=>true)];simp
def bx6{d:D}(h:Nm d):aw7 [d]=Z (.bool true):=by
 obtain⟨s,rfl,lo,l1,l6⟩:=h
 have as:s.cps.all (· < 128)=true:=by
  rw[Array.all_eq_true'];intro c hc;have:=lo c (cK.mpr hc);exact decide_eq_true (by grind)
 have ll:s.cps.toList.length=s.length:=by unfold Str.length;simp
 have al:C5 1 [] (cj1<|A1 0) (B5 0) F9 (A5 (inS false) (A1 0)<|dC (.str "abcdefghijklmnopqrstuvwxyz")) [‹.str s›]=Z (s.cps.toList.map λ_=>.bool true):=by
  refine V7 (l:=s.cps.toList) (h:=λc=>.str ⟨#[c]⟩) (r:=[]) rfl ?_ (by grind) λc hc=>cB8 c (lo c hc).1 (lo c hc).2
  show(if s.cps.all (· < 128)=true then Z (aY1 s) else O)=_;rw[if_pos as];rfl
 have z:s.length<=16777216:=by grind
 have a':(1:Int)<=s.length:=by grind
 have b':(s.length:Int)<=6:=by grind
 refine rX1 ?_
 exists evD,aQ3,bt3,if_pos z,al,aI9,a',b',decide_true
def aZ4{i:Int}(h1:-9<=i)(h2:i<=9):w4 [.int i]=Z (.bool true):=by
 refine rX1 ?_;have w1:O6 [.int i]=Z (.bool true):=rfl
 exists evD,az7,aH8,w1,h1,h2,decide_true
def by1{mk:Option (List Rat)}{w h:Nat}{l:List Q4}(w8:w<=8)(h8:h<=8)(len:l.length=w*h)(hm:∀ms,mk=Z ms->ms.length=w*h/\∀r∈ms,Sr 4 r):aw8 [mkD mk,shD w h l]=Z (.bool true):=by
 refine rX2 ?_;cases mk with
 | none=>rfl
 | some ms =>
  obtain⟨lm,hr⟩:=hm ms rfl;have wh:w*h<=64:=bU w8 h8
  have al:∀q:Option B,C5 1 [] (M9<|A1 0) (B5 0) F9 (A2 X0<|A0 (A1 0) A3) [‹.tuple (ms.map fr)›,q]=Z (ms.map λ_=>.bool true):=λq=>by
   refine V7 (l:=ms) (h:=fr) (r:=[]) rfl rfl (by grind) λx hx=>?_
   have:=W7 (hr x hx).h (by decide)
   exists evD,this
  have i1:isB (.tuple<|ms.map fr) .none=Z (.bool false):=rfl;have n1:(((ms.map fr).length:Nat):Int)=((w*h:Nat):Int):=by rw[aj,lm]
  have n2:(((l.map fU).length:Nat):Int)=((w*h:Nat):Int):=by rw[aj,len]
  have n3:neD (.int ((w*h:Nat):Int)) (.int ((w*h:Nat):Int))=Z (.bool false):=by rw[ce0];simp
  exists evD,aQ4,mkD,shD,al,aI9,i1,n1,n2,beq_self_eq_true
def cp5{neg v:Bool}{x:D}{ds:List D}(hx:K0 x=true)(hd:ds.all K0=true)(h:inV (toV x) (ds.map toV)=v):inD neg x (.tuple ds)=Z (.bool (if neg then !v else v)):=by
 subst h;show(if K0 x=true/\ds.all K0=true then _ else _)=_;rw[if_pos ⟨hx,hd⟩]
def aS7(m:Man):inD true (.str m.s) (.tuple [.str "over", .str "multiply", .str "screen", .str "plus", .str "atop", .str "cut"])=Z (.bool false) :=
 cp5 (v:=true) rfl rfl (by cases m<;>decide +kernel)
def cv6(r:Rul):inD false (.str r.s) (.tuple [.str "turn", .str "grey", .str "round"])=Z (.bool true) :=
 cp5 (v:=true) rfl rfl (by cases r<;>decide +kernel)
mutual
def Nd.off:Nd->Prop
 | .layer _ _ _ _ lf tp _ _ _ _ kb=>-9<=lf/\lf<=9/\-9<=tp/\tp<=9/\kb<=4000
 | .tone ..=>True
 | .group _ _ _ _ ns=>ns.length<=1000/\Nd.offs ns
def Nd.offs:List Nd->Prop
 | []=>True
 | n::r=>n.off/\Nd.offs r
end
theorem ap4:∀l:List Nd,Nd.offs l↔∀n∈l,n.off
 | []=>by simp[Nd.offs]
 | n::r=>by simp[Nd.offs,ap4 r]
def strength_of(n:Nd):∃s,X1 [n.d]=Z (fr s)/\(n.Ok->Sr 4 s):=by
 cases n with
 | layer nm m s sh lf tp mk w h l kb=>exact⟨s,by rw[fV];rfl,λo=>by rw[fX]at o;exact o.1⟩
 | tone nm r s sh=>exact⟨s,by rw[fV];rfl,λo=>by rw[fX]at o;exact o⟩
 | group nm m s sh ns=>exact⟨s,by rw[fV];rfl,λo=>by rw[fX]at o;exact o.1⟩
def bG4(n:Nd):∃b,ad6 [n.d]=Z (.bool b):=by cases n<;>exact⟨_,by rw[fV];rfl⟩
def bF6(b:Bool):an8 [.bool b]=Z (.bool true):=rfl
def bM9{nm:D}{m:Man}{s:Rat}{sh:Bool}{lf tp:Int}{mk:Option (List Rat)}{w h:Nat}{l:List Q4}{kb:Nat}(o:(Nd.layer nm m s sh lf tp mk w h l kb).Ok)(f:(Nd.layer nm m s sh lf tp mk w h l kb).off):N5 [(Nd.layer nm m s sh lf tp mk w h l kb).d]=Z (.bool true):=by
 rw[fX]at o;rw[Nd.off]at f;obtain⟨hs,S,_,hm,_⟩:=o;obtain⟨f1,f2,f3,f4,f5⟩:=f;rw[fV];refine rX1 ?_;have e1:∀a b c d e f g h i:D,O2 [.tuple [a,b,c,d,e,f,g,h,i]]=Z c:=λ_ _ _ _ _ _ _ _ _=>rfl
 have e2:∀a b c d e f g h i:D,R3 [.tuple [a,b,c,d,e,f,g,h,i]]=Z i:=λ_ _ _ _ _ _ _ _ _=>rfl
 have e3:∀a b c d e f g h i:D,ai8 [.tuple [a,b,c,d,e,f,g,h,i]]=Z f:=λ_ _ _ _ _ _ _ _ _=>rfl
 have e4:∀a b c d e f g h i:D,at3 [.tuple [a,b,c,d,e,f,g,h,i]]=Z g:=λ_ _ _ _ _ _ _ _ _=>rfl
 have e5:∀a b c d e f g h i:D,aw4 [.tuple [a,b,c,d,e,f,g,h,i]]=Z h:=λ_ _ _ _ _ _ _ _ _=>rfl
 have e6:∀a b c d e f g h i:D,((([a,b,c,d,e,f,g,h,i]:List D).length:Nat):Int)=9:=λ_ _ _ _ _ _ _ _ _=>rfl
 exists evD,f8,e1,e2,e3,e4,e5,e6,beq_self_eq_true,aS7,ba9 S (by grind),aZ4 f1 f2,aZ4 f3 f4,by1 S.w8 S.h8 S.len hm
def bY8{nm:D}{r:Rul}{s:Rat}{sh:Bool}:R4 [fV (.tone nm r s sh)]=Z (.bool false):=by
 have e:eqD (.str "tone") (.str "layer")=Z (.bool false):=K1z;rw[fV];exact rX1<|congrArg (cG Fl.rt) e
def db2(n:Nd):∃ds:List D,n.d=.tuple ds/\5<=ds.length/\(∀nm r s sh,n=.tone nm r s sh->ds.length=5):=by
 cases n with
 | layer=>exact⟨_,by rw[fV],by simp,λ_ _ _ _ h=>by cases h⟩
 | tone=>exact⟨_,by rw[fV],by simp,λ_ _ _ _ _=>rfl⟩
 | group=>exact⟨_,by rw[fV],by simp,λ_ _ _ _ h=>by cases h⟩
def aC0(n:Nd)(f:Nat)(dd:D)(o:n.Ok)(hn:Nm n.nm){z:Option Fl}(h:(A7 (sIf (G7<|A2 R4 (A0 (A1 0) A3)) (B0<|A2 N5 (A0 (A1 0) A3)) B8)<|A7 (sIf (G7<|A2 N1 (A0 (A1 0) A3)) (B0<|A2 (A4 f 0) (A0 (A1 0)<|A0 (A1 1) A3)) B8) (B0<|S9 (A2 aa7<|A0 (A1 0) A3) (S9 (A5 eqD (Q5<|A8 0) ⇑5)<|A5 (inD false) (A2 ai7<|A0 (A1 0) A3) (dC<|.tuple [(.str "turn"),(.str "grey"),(.str "round")])))) [‹n.d›,‹dd›]=z):K4 (A4 f) [‹n.d›,‹dd›]=z:=by
 obtain⟨s,es,hs⟩:=strength_of n;obtain⟨b,eb⟩:=bG4 n;have en:=name_of n;have et:=bx6 hn;have eh:=W7 (hs o).h (by decide);obtain⟨ds,ed,l5,_⟩:=db2 n;unfold K4;rw[A6 (ρ':=[‹n.d›,‹dd›]),A6 (ρ':=[‹n.d›,‹dd›])]
 .exact h
 .exists evD,en,et,es,eh,eb,bF6
 .have l5':¬((ds.length:Nat):Int) < 5:=by omega
  rw[ed]
  exists evD,decide_eq_false l5'
def cK6{l:List Nd}{f:Nat}{dd:D}(hl:l.length<=1000)(H:∀n∈l,P2 f [n.d,dd]=Z (.bool true)):R6 (f+1) [↥l,dd]=Z (.bool true):=by
 refine B2 (g:=Y2<|A4 f) (ρ:=[‹↥l›,‹dd›]) rfl ?_
 have al:C5 1 [1] (M9<|A1 0) (B5 0) F9 (A2 (A4 f 1)<|A0 (A1 0) (A0 (A1 1) A3)) [‹↥l›,‹dd›]=Z (l.map λ_=>.bool true):=by
  refine V7 (l:=l) (h:=fV) (r:=[‹dd›]) rfl (by rw[D3];rfl) hl λx hx=>?_
  exact H x hx
 exists evD,Y2,al,aI9
def bQ7:∀(k:Nat) (n:Nd) (f:Nat) (dd:Nat),n.dp<=k->k<=dd->3*k+1<=f->n.Ok->n.off->(∀d∈n.nms,Nm d)->P2 f [n.d,.int dd]=Z (.bool true):=by
 intro k
 induction k with
 | zero =>
  intro n f dd hd hk hf o of hn;obtain⟨f,rfl⟩:∃g,f=g+1:=⟨f - 1,by grind⟩;refine B2 (g:=K4<|A4 f) (ρ:=[‹n.d›,‹.int dd›]) rfl (aC0 n f _ o (hn _<|G5 n) ?_);cases n with
  | group=>rw[gb]at hd;grind
  | layer nm m s sh lf tp mk w h l kb =>
   have el:=bM9 o of
   exists evD,br2,el
  | tone nm r s sh =>
   have e1:ai7 [fV (.tone nm r s sh)]=Z (.str r.s):=by rw[fV];rfl
   have e2:=D2 (.tone nm r s sh);have e3:Q5 (A8 0) [‹fV (.tone nm r s sh)›,‹.int dd›]=Z (.int 5):=by rw[fV];rfl
   have e4:eqD (.int 5) (.int 5)=Z (.bool true):=rfl;simp only[A7,B4,B0,sIf,B8,A1,dC,A5,A2,S9,A3,A0,G7,bg5,N0,xg0,xg1,xbs,xms,xw0,bY8,e2,e1,e3,e4,cu4,cv6,xft,if_true,if_false]
 | succ k ih =>
  intro n f dd hd hk hf o of hn;obtain⟨f,rfl⟩:∃g,f=g+3:=⟨f - 3,by grind⟩;by_cases hz:n.dp<=k
  .exact ih n (f+3) dd hz (by grind) (by grind) o of hn
  refine B2 (g:=K4<|A4 (f+2)) (ρ:=[‹n.d›,‹.int dd›]) rfl (aC0 n (f+2) _ o (hn _<|G5 n) ?_);cases n with
  | layer=>rw[gb]at hz;grind
  | tone=>rw[gb]at hz;grind
  | group nm m s sh ns =>
   rw[gb]at hd;rw[fX]at o;rw[Nd.off]at of;have oks:=(R7 ns).mp o.2;have ofs:=(ap4 ns).mp of.2;obtain⟨d',rfl⟩:∃d',dd=d'+1:=⟨dd - 1,by grind⟩;have ea:R6 (f+1) [↥ns,.int d']=Z (.bool true):=cK6 of.1 λn' h'=>ih n' f d' (by have:=J0 h';grind) (by grind) (by grind) (oks n' h') (ofs n' h') λd hd'=>hn d (by rw[Nd.nms];exact xmm _<|K7 h' hd')
   have eg:A4 (f+2) 0 [fV (.group nm m s sh ns),.int ((d'+1:Nat):Int)]=Z (.bool true):=by
    rw[fV];refine B2 (g:=E9<|A4 (f+1)) (ρ:=[‹.tuple [.str "group", nm,.str m.s,fr s,.bool sh,↥ns]›,‹.int ((d'+1:Nat):Int)›]) rfl ?_;have e1:∀a b c d e f:D,O2 [.tuple [a,b,c,d,e,f]]=Z c:=λ_ _ _ _ _ _=>rfl
    have e2:∀a b c d e f:D,E7 [.tuple [a,b,c,d,e,f]]=Z f:=λ_ _ _ _ _ _=>rfl
    have e3:∀a b c d e f:D,((([a,b,c,d,e,f]:List D).length:Nat):Int)=6:=λ_ _ _ _ _ _=>rfl
    have e4:(((d'+1:Nat):Int)==0)=false:=by simp;grind
    have e5:((d'+1:Nat):Int) - 1=(d':Int):=by grind
    have ea':A4 (f+1) 2 [↥ns,.int d']=Z (.bool true):=ea
    exists evD,E9,e1,e2,e3,e4,e5,beq_self_eq_true,aS7,ea'
   have e2:=D2<|.group nm m s sh ns
   exists evD,aU0,e2,eg
def nmb(f:Nat):DS:=(A7 (x9 1<|A2 W9 (A0 (A1 2) A3))<|sIf (G7<|A2 N1 (A0 (A1 2) A3)) (aR1 1<|A2 (E6 f) (A0 (A2 E7<|A0 (A1 2) A3) A3)) B8)
def cA0{n:Nd}(f:Nat)(a0:Option B)(X:List D)(hX:X.length+n.nms.length<=1000)(H:∀nm m s sh ns,n=.group nm m s sh ns->E6 f [↥ns]=Z (.list<|Nd.nmss ns)):nmb f [a0,Z (.own X),‹n.d›]=Z (.nx [a0,Z (.own<|X++n.nms),‹n.d›]):=by
 have hx:X.length < 16777216:=by grind
 have en:=name_of n;have eg:=D2 n;unfold nmb;refine(A6 (by simp only[x9,A2,A0,A3,en,xg0,xg1,if_pos hx,A1,xms,xbs,xw0,xw1];rfl)).trans ?_;cases n with
 | layer=>exists evD,eg;rw[Nd.nm,Nd.nms]
 | tone=>exists evD,eg;rw[Nd.nm,Nd.nms]
 | group nm m s sh ns =>
  have e1:E7 [fV (.group nm m s sh ns)]=Z ↥ns:=by rw[fV];rfl
  have e2:=H nm m s sh ns rfl;rw[Nd.nms]at hX;have e3:(X++[nm]).length+(Nd.nmss ns).length<=16777216:=by simp at hX ⊢;grind
  rw[Nd.nm]
  exists evD,aR1,eg,e1,e2,if_pos e3
  rw[Nd.nms,ax];rfl
def bq0{l:List Nd}{f:Nat}(hw:(Nd.nmss l).length<=1000)(H:∀n∈l,∀nm m s sh ns,n=.group nm m s sh ns->E6 f [↥ns]=Z (.list<|Nd.nmss ns)):E6 (f+1) [↥l]=Z (.list<|Nd.nmss l):=by
 obtain⟨ρ',e,a2,hρ⟩:=ag3 (g:=B5 2) (f:=nmb f) (h:=fV) (I:=λi ρ=>∃a2,ρ=[‹↥l›,Z (.own (Nd.nmss (l.take i))),a2]) l 0 [‹↥l›,Z (.own []),O] ⟨O,rfl⟩ (λj n hj ρ hρ=>by
  obtain⟨a2,rfl⟩:=hρ;rw[du];obtain⟨hjl,rfl⟩:=ao.mp hj;have ww:Nd.nmss (l.take<|j+1)=Nd.nmss (l.take j)++(l[j]).nms:=by rw[cX hjl,B3,Nd.nmss,Nd.nmss,br]
  have wl:=congrArg (λx=>(Nd.nmss x).length) (bn (j+1) l);simp only[B3,ww,ah]at wl
  exact⟨_,rfl,_,cA0 f _ _ (by grind) (H _ (aT hjl)),_,by rw[ww]⟩)
 subst hρ;rw[du,bx (ak _),← D3]at e;refine B2 (g:=ak8<|E6 f) (ρ:=[‹↥l›,O,O]) rfl ?_;have s0:(ad9 1 A3) [‹↥l›,O,O]=Z (.nx [‹↥l›,Z (.own []),O]):=rfl;have s1:(X8 (M9<|A1 0) (B5 2)<|nmb f) [‹↥l›,Z (.own []),O]=Z (.nx [‹↥l›,Z (.own<|Nd.nmss l),a2]):=e;have s2:(aR0 1<|B0 (A1 1)) [‹↥l›,Z (.own<|Nd.nmss l),a2]=Z (.rt<|.list (Nd.nmss l)):=rfl;exact(A6 s0).trans ((A6 s1).trans s2)
def cd8{n:Nd}{l:List Nd}(h:n∈l):n.nms.length<=(Nd.nmss l).length:=by
 obtain⟨a,b,rfl⟩:=cD h;rw[B3,Nd.nmss,ah,ah];grind
def names_among:∀(k:Nat) (l:List Nd) (f:Nat),gc l<=k->k+1<=f->(Nd.nmss l).length<=1000->E6 f [↥l]=Z (.list<|Nd.nmss l):=by
 intro k
 induction k with
 | zero =>
  intro l f hd hf hw;obtain⟨f,rfl⟩:∃g,f=g+1:=⟨f - 1,by grind⟩;refine bq0 hw λn hn nm m s sh ns e=>?_
  have:=J0 hn;rw[e,gb]at this;grind
 | succ k ih =>
  intro l f hd hf hw;obtain⟨f,rfl⟩:∃g,f=g+1:=⟨f - 1,by grind⟩;refine bq0 hw λn hn nm m s sh ns e=>?_
  have h1:=J0 hn;have h2:=cd8 hn;rw[e,gb]at h1;rw[e,Nd.nms,aH]at h2;exact ih ns f (by grind) (by grind) (by grind)
theorem ah7:∀L:List D,(∀d∈L,Nm d)->∃ys:List Str,L=ys.map fM/\ax2 L=Z ys
 | [],_=>⟨[],rfl,rfl⟩
 | d::L,h=>by
  obtain⟨ys,e1,e2⟩:=ah7 L λx hx=>h x<|xmm _ hx
  obtain⟨s,rfl,_⟩:=h d (ae ..);exact⟨s::ys,by rw[e1];rfl,by unfold ax2;rw[e2];rfl⟩
theorem bc5:∀(l a:List Str),(a++l).Nodup->l.foldl am8 a=a++l
 | [],a,_=>by simp
 | x::l,a,h=>by
  have hx:a.any (· == x)=false:=by
   rw[bP];intro y hy e;have e:y=x:=by simpa using e
   subst e;exact(aD.mp h).2.2 y hy y (ae ..) rfl
  rw[bA,am8,hx];simp only[xft,if_false];rw[bc5 l (a++[x]) (by rwa [ax]),ax];rfl
def aX7{l:List Nd}(hd:gc l<=3)(hw:(Nd.nmss l).length<=1000)(hn:∀d∈Nd.nmss l,Nm d)(nd:(Nd.nmss l).Nodup):O8 [↥l]=Z (.bool true):=by
 have e:=names_among 3 l 12 hd (by decide) hw;obtain⟨ys,e1,e2⟩:=ah7 _ hn
 have ny:ys.Nodup:=by
  rw[e1]at nd;exact cY.imp (λh e=>h<|congrArg fM e)<|dG.mp nd
 have ed:ddS ys=ys:=by have:=bc5 ys [] (by simpa using ny);simpa [ddS] using this
 have ly:(Nd.nmss l).length=ys.length:=by rw[e1,aj]
 have l4:ys.length<=4000:=by grind
 have es:∀q:Option B,ar5 (A8 1) [q,‹.list (Nd.nmss l)›]=Z (.int ys.length):=λq=>by
  show((ax2<|Nd.nmss l).bind λys=>if ys.length<=4000 then Z (fK (ddS ys).length) else O)=_;rw[e2,xbs,if_pos l4,ed]
 refine B2 (ρ:=[‹↥l›,O]) rfl ?_
 exists evD,T7,e,es,ly,beq_self_eq_true
def bh1{w h:Nat}(l:List Nd)(w1:1<=w)(w8:w<=8)(h1:1<=h)(h8:h<=8):o0 [C6 w h l]=Z (.bool true):=by
 have sz:∀n:Nat,1<=n->n<=8->aa8 [.int n]=Z (.bool true):=λn a b=>by
  refine rX1 ?_;have w1:O6 [.int n]=Z (.bool true):=rfl;have a':(1:Int)<=n:=by grind
  have b':(n:Int)<=8:=by grind
  exists evD,aw0,w1,a',b',decide_true
 have l3:∀a b c:D,((([a,b,c]:List D).length:Nat):Int)=3:=λ_ _ _=>rfl
 refine rX1 ?_
 exists evD,an7,C6,l3,beq_self_eq_true,sz w w1 w8,sz h h1 h8
def bV4(l:List Nd)(a:Nat):R8 (fW l) O (Z (a:Int))=fW (l.take a):=by
 unfold R8;rw[HT.sIx_none,HT.sIx_nat,List.drop_zero,D3,D3,aj,← cq,Nat.sub_zero]
 congr 1
 rcases Nat.le_total a l.length with h|h
 .rw[bJ h]
 .rw[dj h,bx (ak _),bx h]
def bV6(l:List Nd)(a:Nat):R8 (fW l) (Z (a:Int)) O=fW (l.drop a):=by
 unfold R8;rw[HT.sIx_none,HT.sIx_nat,D3,D3,aj];rcases Nat.le_total a l.length with h|h
 .rw[bJ h,← ck,bx (by rw[aj,aS];exact ak _)]
 .rw[dj h,bY,List.take_zero,cW h];rfl
def bW2(a b:List Nd)(h:a.length+b.length<=1000):B1 ↥a ↥b=Z ↥(a++b):=by
 have:=cat_tup (xs:=fW a) (ys:=fW b) (by rw[D3,D3,aj,aj];grind);have e:fW a++fW b=fW (a++b):=by simp[D3]
 rw[e]at this;exact this
def cW0{l:List Nd}{i:Nat}{n:Nd}(h:l[i]? = Z n):atI (fW l) (i:Int)=Z n.d:=by
 obtain⟨hi,_⟩:=ao.mp h;unfold atI;rw[aG1 (by grind) (by rw[D3,aj];grind),xbs,bu,ag6,h];rfl
def mn(i j:Int):Int:=if j < i then j else i
abbrev Bx:=Option<|Int×Int×Int×Int
def Bx.le(A B:Bx):Prop:=match A,B with
 | none,_=>True
 | some _,O=>False
 | some (l,t,r,b),Z (l',t',r',b')=>l'<=l/\t'<=t/\r<=r'/\b<=b'
def le_refl(A:Bx):Bx.le A A:=by
 cases A with
 | none=>exact trivial
 | some a=>show _/\_/\_/\_;grind
def le_trans{A B C:Bx}(h1:Bx.le A B)(h2:Bx.le B C):Bx.le A C:=by
 cases A with
 | none=>exact trivial
 | some a =>
  cases B with
  | none=>exact h1.elim
  | some b =>
   cases C with
   | none=>exact h2.elim
   | some c =>
    obtain⟨a1,a2,a3,a4⟩:=h1;obtain⟨b1,b2,b3,b4⟩:=h2;exact⟨dX b1 a1,dX b2 a2,dX a3 b3,dX a4 b4⟩
def bi4(q q':Q4):∃b,neD q.d q'.d=Z (.bool b)/\(b=true->q≠q'):=by
 have:∃b,neD q.d q'.d=Z (.bool b):=by
  unfold neD;rw[if_pos ⟨(Ly.q4 q 0).shaped (by decide),(Ly.q4 q' 0).shaped<|by decide⟩];exact⟨_,rfl⟩
 obtain⟨b,e⟩:=this;refine⟨b,e,λhb he=>?_⟩;subst he hb;rw[ai2 (Ly.q4 q 0) (by decide)]at e;cases e
def neB(q q':Q4):Bool:=(bi4 q q').choose
def bi5(q q':Q4):neD q.d q'.d=Z (.bool<|neB q q'):=(bi4 q q').choose_spec.1
def bL4{q q':Q4}(h:neB q q'=true):q≠q':=(bi4 q q').choose_spec.2 h
def bQ2{neg v:Bool}{x:D}{ds:List D}(hx:K0 x=true)(hd:ds.all K0=true)(h:inV (toV x) (ds.map toV)=v):inD neg x (.list ds)=Z (.bool (if neg then !v else v)):=by
 subst h;show(if K0 x=true/\ds.all K0=true then _ else _)=_;rw[if_pos ⟨hx,hd⟩]
def inK(K:List D)(d:D):Bool:=@decide (d∈K)<|bv _
def ap9{K:List D}{d:D}(h:d∈K):inK K d=true:=@decide_eq_true _ (bv _) h
def cU0{K:List D}{d:D}(h:d∉K):inK K d=false:=@decide_eq_false _ (bv _) h
def aE8{K:List D}{d:D}(h:inK K d=true):d∈K:=@of_decide_eq_true _ (bv _) h
def ai1{K:List D}{d:D}(h:inK K d=false):d∉K:=@of_decide_eq_false _ (bv _) h
def cj9(r s:Rat):fJ (fr r) (fr s)=decide (r=s):=by
 have e:=bS9 r s;unfold eqD at e;split at e
 .exact PyData.bool.inj (bq.inj e)
 .cases e
section
variable {w h:Nat}{K:List D}{p:Int×Int}
mutual
theorem bx4(c e:List Nd):∀n:Nd,∀d∈n.nms,∃a n' b,Stands a n' b (c++n::e)/\n'.nm=d
 | .layer nm m s sh lf tp mk w h l kb,d,hd=>by
  rw[Nd.nms]at hd;exact⟨c,_,e,.top,(au.mp hd).symm⟩
 | .tone nm r s sh,d,hd=>by
  rw[Nd.nms]at hd;exact⟨c,_,e,.top,(au.mp hd).symm⟩
 | .group nm m s sh ns,d,hd=>by
  rw[Nd.nms]at hd;rcases am.mp hd with q|q
  .exact⟨c,_,e,.top,q.symm⟩
  .obtain⟨a,n',b,st,en⟩:=nms_stands [] ns d q;exact⟨a,n',b,.deep st,en⟩
theorem nms_stands(c:List Nd):∀l:List Nd,∀d∈Nd.nmss l,∃a n' b,Stands a n' b (c++l)/\n'.nm=d
 | [],d,hd=>by rw[Nd.nmss]at hd;simp at hd
 | n::r,d,hd=>by
  rw[Nd.nmss]at hd;rcases ay.mp hd with q|q
  .exact bx4 c r n d q
  .have:=nms_stands (c++[n]) r d q
   rwa [ax]at this
end
end
end Sh
open Sh.Nd renaming nm→gf,near→gh,nears→gi,nms→gj,nmss→gk,thin→gp,thins→gq
namespace Sh
open PySem PySem.Spec PyProof.Rows L2 G
end Sh
namespace G
open PySem PySem.Spec PyProof.Rows L2
section
variable {X:Cx}{S:Sg}{c:Kx}
def J9:JE X e dNo:=λρ d h=>by cases h
def cp0:JQ X e qNo:=λρ t d h=>by cases h
def ap8:JN X e aNo:=λρ d h=>by cases h
def aN6:JT X e tNo:=λρ d h=>by cases h
def cT0:JW X e tNo:=λρ d h=>by cases h
def ba6:JG X e gNo:=by
 unfold JG PG
 intros
 rename_i h;obtain⟨d,ρ,ρ',H0,Hf,z,_⟩:=h;cases z
def cT7:JA X es aNo:=⟨λρ d h=>(nomatch h),λρ d h=>(nomatch h)⟩
def cC7:JTs X es tNo:=λpins s σ H Q I ⟨ρ,b,h,_⟩=>by cases h
def ab9(hu:X.A.units+64 < cLine):∀op:CmpOp,OpD X (ff op) (be2 op)
 | .Lt=>cQ9 | .LtE=>cR0 | .Gt=>cR3 | .GtE=>cR4 | .Eq=>cR5 hu | .NotEq=>cQ8 hu | .Is=>cR1 | .IsNot=>bK5 | .In=>cR2 hu | .NotIn=>bK4 hu
def bK3(hu:X.A.units+64 < cLine)(S:Sg)(c:Kx)(op:CmpOp)(b:Expr):OpD X (ff op) (opW S c op b):=by
 unfold opW;split
 .split
  .exact cz2
  .exact bx2
  .exact ab9 hu _
 .split
  .split
   .exact cz3 hu
   .exact bx3 hu
   .exact ab9 hu _
  .exact ab9 hu op
theorem aN7(h:∀e,JE X e<|f e):∀es,JA X es (evA f es)
 | []=>cG7
 | e::es=>by
  unfold evA;split
  .rename_i p;exact ci1 (h e) (aN7 h es)<|J8 p es _
  .exact cT7
theorem aT6(h:∀e,JE X e<|f e)(op:BoolOp)(pos:Pos):∀vs,JE X (.BoolOp op vs pos) (bS5 f op vs)
 | []=>J9
 | [a]=>cF4<|h a
 | a::b::r=>by
  unfold bS5;cases op
  .exact cG4 (h a) (aT6 h .And pos (b::r))
  .exact cT3 (h a) (aT6 h .Or pos (b::r))
theorem aT5(h:∀e,JT X e<|f e)(op:BoolOp)(pos:Pos):∀vs,JW X (.BoolOp op vs pos) (bS4 f op vs)
 | []=>cT0
 | [a]=>by cases op;exact cf0 (h a);exact cC5<|h a
 | a::b::r=>by
  unfold bS4;cases op
  .exact cC6 (h a) (aT5 h .And pos (b::r))
  .exact cS9 (h a) (aT5 h .Or pos (b::r))
def ak6(h:∀e,JE X e<|f e):∀o,JO X o (evO f o)
 | none=>cg1
 | some e=>cg0<|h e
def cC8(h:∀e,JT X e<|f e):∀l,JTs X l (bS2 f l)
 | []=>cf2
 | [t]=>cf1<|h t
 | _::_::_=>cC7
theorem bO5(h:∀e,JG X e<|f e):∀es,es.all pl=true->JGs X es (cI4 f es)
 | [],_=>cg5
 | e::es,p=>by
  simp only[bE,ar]at p;refine bO6 (h e) (bO5 h es p.2) ?_;have p1:=p.1;cases e<;>first|rfl|cases p1
theorem bu4:∀{es:List Expr},es.all pl=true->(ft es env).length=es.length/\(ft es env).findIdx? (·.1)=O
 | [],_=>⟨rfl,rfl⟩
 | e::es,p=>by
  simp only[bE,ar]at p;obtain⟨h1,h2⟩:=bu4 (env:=env) p.2;have p1:=p.1;have q:ft (e::es) env=(false,assign e env)::ft es env:=by cases e<;>first|rfl|cases p1
  rw[q];refine⟨by simp[h1],?_⟩;simp[List.findIdx?_cons,h2]
structure Sound (S:Sg) (r:Ev):Prop where
 e:∀{c X},Fit S c X->∀ex,JE X ex<|r.e c ex
 q:∀{c X},Fit S c X->∀ex,JQ X ex<|r.q c ex
 n:∀{c X},Fit S c X->∀ex,JN X ex<|r.n c ex
 t:∀{c X},Fit S c X->∀ex,JT X ex<|r.t c ex
 g:∀{c X},Fit S c X->∀ex,JG X ex<|r.g c ex
 b:∀{c X},Fit S c X->∀sts,JSs X sts<|r.b c sts
def Fit.hx(F:Fit S c X):∀e s,X.xe e s->False:=λe s h=>by rw[F.xe]at h;exact h
def Fit.po(F:Fit S c X):PassesOwn (fE X.prog X.w) X.A X.env X.xe:=by rw[F.xe];exact PassesOwn.never
def Fit.slot(F:Fit S c X)(h:am3 x c.N=Z i):X.N[i]? = Z x:=by rw[F.N];exact ba7 h
theorem Fit.inner(F:Fit S c X)(hn:(G.inner c tn caps scope).N.Nodup):Fit S (G.inner c tn caps scope) (F4 X (G.inner c tn caps scope).N scope C s0 H0 ex) :=
 ⟨rfl,by show relabel scope X.env=rl scope c.sc;rw[← F.sc];rfl,hn,F.calm,rfl,F.units,(λh=>by cases h),F.fns,F.css,F.bls⟩
variable {r:Ev}
def cE6(R:Sound S r)(F:Fit S c X)(tg a:Expr)(hg:Gl X "reversed")(hm:X.mg "reversed" = O):JI X tg (.Call (.Name "reversed" p) [a] [] pos) (evR S c tg a):=by
 have no:∀e:Expr,JI X tg e λ_=>O:=λe ρ ds q=>nomatch q
 unfold evR;split
 .split
  .split
   .split
    .split
     .rename_i h;simp only[ar]at h;obtain⟨rfl,h1,h2⟩:=L9 F h.1.1.1;obtain⟨rfl,h3,h4⟩:=L9 F h.1.1.2;have ht:=h.1.2;exact no _
     .exact no _
    .exact no _
   .exact no _
  .exact no _
 .exact no _
def cp2(R:Sound S r)(F:Fit S c X)(tg it:Expr):JI X tg it (evI S r c tg it):=by
 unfold evI;split
 .rename_i x p a pos;split
  .rename_i h;obtain⟨rfl,h1,h2⟩:=L9 F h;exact cE6 R F tg a h1 h2
  .split
   .rename_i h;simp only[ar]at h;obtain⟨rfl,h1,h2⟩:=L9 F h.1;exact by8 h1 h2 (R.e F a)<|J8 h.2 _ _
   .split
    .rename_i h;simp only[ar]at h;obtain⟨rfl,h1,h2⟩:=L9 F h.1.1;have ht:=h.1.2;cases tg<;>first|(exact cg4 h1 h2 (R.e F a)<|J8 h.2 _ _)|(exact nomatch ht)
    .exact bj1 (R.e F _)
 .rename_i x p a b pos;split
  .rename_i h;simp only[ar]at h;obtain⟨rfl,h1,h2⟩:=L9 F h.1.1;exact λρ ds q=>nomatch q
  .split
   .rename_i h;simp only[ar]at h;obtain⟨rfl,h1,h2⟩:=L9 F h.1.1.1;have ht:=h.1.1.2;exact λρ ds q=>nomatch q
   .exact bj1 (R.e F _)
 .split
  .exact cE5 (R.e F _)
  .exact bj1 (R.e F _)
def bt7(R:Sound S r)(F:Fit S c X)
  (h:(aC3 c.N (G.inner c (Y7 tgt) caps scope).N (Y7 tgt).length caps c.sc scope&&au6 (G.inner c (Y7 tgt) caps scope).N&&pl iter)=true) :
  CompSc X (G.inner c (Y7 tgt) caps scope).N (Y7 tgt).length caps scope/\JI X tgt iter (evI S r c tgt iter)/\(∀C s0 H0 ex,JG (F4 X (G.inner c (Y7 tgt) caps scope).N scope C s0 H0 ex) tgt<|r.g (G.inner c (Y7 tgt) caps scope) tgt) /\
  (∀C s0 H0 ex,JTs (F4 X (G.inner c (Y7 tgt) caps scope).N scope C s0 H0 ex) ifs<|bS2 (r.t<|G.inner c (Y7 tgt) caps scope) ifs)/\(∀C s0 H0 ex,JE (F4 X (G.inner c (Y7 tgt) caps scope).N scope C s0 H0 ex) elt<|r.e (G.inner c (Y7 tgt) caps scope) elt) /\
  ∀x,fu iter X.env x=pure x:=by
 simp only[ar]at h;obtain⟨⟨h1,h2⟩,h3⟩:=h;have hn:=au5 h2;exact⟨bC3 h1 F.N F.sc,cp2 R F tgt iter,λC s0 H0 ex=>R.g (F.inner hn) tgt,λC s0 H0 ex=>cC8 (R.t<|F.inner hn) ifs,λC s0 H0 ex=>R.e (F.inner hn) elt,bo9 h3 _⟩
def cT2(R:Sound S r)(F:Fit S c X)(ex:Expr):JN X ex (evC S r c ex):=by
 unfold evC;split
 .rename_i elt tgt iter ifs scope pos;dsimp only;split
  .rename_i h;obtain⟨h1,h2,h3,h4,h5,h6⟩:=bt7 (ifs:=ifs) (elt:=elt) R F h;exact cg3 h1 F.hx h2 h3 h4 h5 F.calm h6
  .exact ap8
 .exact ap8
def bv5(h:cu2 x=Z T):fk x=Z (.type T)/\x ≠ "__name__" /\ (x==("__debug__" : Str))=false:=by
 unfold cu2 at h;split at h
 .rename_i e;cases h;simp only[beq_iff_eq]at e;subst e;exact⟨bm5,by decide,by decide⟩
 .split at h
  .rename_i e;cases h;simp only[beq_iff_eq]at e;subst e;exact⟨cl6,by decide,by decide⟩
  .split at h
   .rename_i e;cases h;simp only[beq_iff_eq]at e;subst e;exact⟨cJ7,by decide,by decide⟩
   .split at h
    .rename_i e;cases h;simp only[beq_iff_eq]at e;subst e;exact⟨be5,by decide,by decide⟩
    .split at h
     .rename_i e;cases h;simp only[beq_iff_eq]at e;subst e;exact⟨bu1,by decide,by decide⟩
     .cases h
def bp0(h:pl e=true)(pos:Pos)(env:Env):(backTo pos<|fb [e] env).any (·.1)=false:=by rw[J8 h];rfl
theorem al5(pos:Pos)(env:Env):∀{es:List Expr},es.all pl=true->(fb es env).any (·.1)=false
 | [],_=>rfl
 | e::es,h=>by
  simp only[bE,ar]at h;rw[J8 h.1,bF,al5 pos env h.2];rfl
end
section
variable {X:Cx}{S:Sg}{c:Kx}{r:Ev}
def bX5(R:Sound S r)(F:Fit S c X)(a i:Expr)(pos:Pos):JE X (.Subscript a i pos) (cs2 r c a i):=by
 unfold cs2;split
 .split
  .exact bO8 (R.e F _) (ak6 (R.e F) _) (ak6 (R.e F) _)
  .split
   .exact cF1 (R.e F _) (ak6 (R.e F) _) (ak6 (R.e F) _)
   .split
    .exact cF2 (R.q F _) (ak6 (R.e F) _) (ak6 (R.e F) _)
    .exact cF3 (R.e F _) (ak6 (R.e F) _) (ak6 (R.e F) _)
 .exact cg8 (R.e F _) (bO9 bP2)
 .split
  .rename_i h;split
   .exact cF7 (R.e F _) (R.e F _) (bI3 h)
   .split
    .exact cF8 F.units (R.e F _) (R.e F _) (bI3 h)
    .exact cT4 (R.q F _) (R.e F _) (bI3 h)
  .exact J9
def bv3(R:Sound S r)(F:Fit S c X)(x:Str)(a:Expr)(p pos:Pos):JE X (.Call (.Name x p) [a] [] pos) (bf8 S r c x a):=by
 unfold bf8;split
 .exact J9
 rename_i hp;have hp:pl a=true:=by simpa using hp
 have hs:=J8 hp [] X.env;split
 .rename_i h;obtain⟨rfl,h1,h2⟩:=L9 F h;split
  .rename_i y py e ppos;split
   .rename_i hy;simp only[ar]at hy;obtain⟨rfl,g1,g2⟩:=L9 F hy.1;exact by9 h1 h2 g1 g2 (R.q F _) F.calm<|J8 hy.2 _ _
   .exact bP0 h1 h2 (R.q F _) hs
  .split
   .exact ch5 h1 h2 (R.e F a) hs
   .exact bP0 h1 h2 (R.q F a) hs
 split
 .rename_i h;obtain⟨rfl,h1,h2⟩:=L9 F h;exact cg7 h1 h2 (R.q F a) hs
 split
 .rename_i h;obtain⟨rfl,h1,h2⟩:=L9 F h;exact cG5 h1 h2 (R.q F a) F.calm hs
 split
 .rename_i h;obtain⟨rfl,h1,h2⟩:=L9 F h;exact cG3 h1 h2 (R.q F a) F.calm hs
 split
 .rename_i h;obtain⟨rfl,h1,h2⟩:=L9 F h;exact ch9 F.calm h1 h2 (R.q F a) hs
 split
 .rename_i h;obtain⟨rfl,h1,h2⟩:=L9 F h;exact bP1 h1 h2 (R.e F a) hs
 split
 .rename_i h;obtain⟨rfl,h1,h2⟩:=L9 F h;exact J9
 split
 .rename_i h;obtain⟨rfl,h1,h2⟩:=L9 F h;exact cG6 h1 h2 (R.e F a) hs
 split
 .rename_i h;obtain⟨rfl,h1,h2⟩:=L9 F h;exact J9
 split
 .rename_i h;obtain⟨rfl,h1,h2⟩:=L9 F h;exact ch0 h1 h2 (R.q F a) F.calm hs
 exact J9
def bv2(R:Sound S r)(F:Fit S c X)(x:Str)(a b:Expr)(p pos:Pos):JE X (.Call (.Name x p) [a,b] [] pos) (bf7 S r c x a b):=by
 unfold bf7;split
 .exact J9
 rename_i hp;have hp:pl a=true:=by simpa using hp
 split
 .rename_i h;obtain⟨rfl,h1,h2⟩:=L9 F h;split
  .rename_i y py;split
   .rename_i T hT;split
    .rename_i hy;obtain⟨_,g1,g2⟩:=L9 F hy;obtain⟨t1,t2,t3⟩:=bv5 hT;exact cF9 h1 h2 g1 g2 t1 (R.e F a) t2 t3 (J8 hp _ _) rfl rfl
    .exact J9
   .exact J9
  .exact J9
 split
 .exact J9
 rename_i hb;have hb:pl b=true:=by simpa using hb
 split
 .rename_i h;obtain⟨rfl,h1,h2⟩:=L9 F h;exact cg9 h1 h2 (R.e F a) (R.e F b) F.calm (J8 hp _ _) (J8 hb _ _)<|bp0 hb pos _
 split
 .rename_i h;obtain⟨rfl,h1,h2⟩:=L9 F h;exact ch3 h1 h2 (R.e F a) (R.e F b) F.calm (J8 hp _ _) (J8 hb _ _)<|bp0 hb pos _
 exact J9
theorem aI8(pos:Pos):∀l:List (Bool×Sem fR),(backTo pos l).any (·.1)=l.any (·.1)
 | []=>rfl
 | (b,t)::r=>by
  have ih:=aI8 pos r;unfold backTo at ih ⊢;rw[xmc,bF,bF,ih]
def bE9(R:Sound S r)(F:Fit S c X)(x:Str)(args:List Expr)(p pos:Pos):JE X (.Call (.Name x p) args [] pos) (bF0 S r c x args<|.Call (.Name x p) args [] pos):=by
 unfold bF0;split
 .rename_i Fn n hl;split
  .rename_i h;simp only[ar,beq_iff_eq]at h;obtain⟨⟨hg,hn⟩,hp⟩:=h;obtain⟨g1,g2⟩:=aT9 F hg;rcases F.fns _ _ _ hl with⟨k,f,fd,ps,hk,hr,hm,hkp,hb⟩|⟨hm,hb⟩
   case inr =>
    cases args with
    | nil=>cases hn;exact absurd hb.1<|bz _
    | cons e es =>
     simp only[bE,ar]at hp;exact cT6 hb F.units g1 hm (aN7 (R.e F) (e::es)) hn g2 (J8 hp.1 _ _)<|(aI8 pos _).trans (al5 pos _ hp.2)
   cases args with
   | nil=>cases hn;exact bP5 hk hr g1 hm hkp hb g2
   | cons e es =>
    simp only[bE,ar]at hp;exact ci0 hk hr g1 hm hkp hb (aN7 (R.e F) (e::es)) hn g2 (J8 hp.1 _ _)<|(aI8 pos _).trans (al5 pos _ hp.2)
  .exact J9
 .split
  .split
   .exact aG0 (R.n F _)
   .exact bv3 R F _ _ _ _
  .exact bv2 R F _ _ _ _ _
  .exact J9
def cs7(k:Const)(u:Nat)(pos:Pos):JE X (.Constant k u pos) (xCn k):=by
 unfold xCn;split
 .exact cF6
 .exact cT5
 .exact bP2
 .exact cF0
 .exact J9
def bX9(R:Sound S r)(F:Fit S c X)(a:Expr)(op:Operator)(b:Expr)(pos:Pos):JE X (.BinOp a op b pos) (ct0 r c a op b):=by
 unfold ct0;split
 .split
  .exact ac3 bK6 (R.e F _) (R.e F _)
  .exact ac3 cd6 (R.e F _) (R.e F _)
 .exact ac3 cy8 (R.e F _) (R.e F _)
 .split
  .exact ac3 aS2 (R.e F _) (R.e F _)
  .split
   .split
    .exact ac3 cd5 (R.e F _) (R.e F _)
    .exact ac3 bp6 (R.e F _) (R.e F _)
   .exact ac3 bp6 (R.e F _) (R.e F _)
 .exact ac3 cz4 (R.e F _) (R.e F _)
 .exact ac3 cz0 (R.e F _) (R.e F _)
 .exact J9
 .exact J9
def cs1(R:Sound S r)(F:Fit S c X)(op:UnaryOp)(a:Expr)(pos:Pos):JE X (.UnaryOp op a pos) (xUn r c op a):=by
 unfold xUn;split
 .exact bO9 (R.e F _)
 .exact cF5 (R.e F _)
 .exact J9
def bX8(R:Sound S r)(F:Fit S c X)(a:Expr)(ops:List CmpOp)(bs:List Expr)(pos:Pos):JE X (.Compare a ops bs pos) (cs8 S r c a ops bs):=by
 have hu:=F.units;unfold cs8;split
 .split
  .rename_i h;exact cG2 (bK3 hu S c _ _) (R.e F _) (R.e F _)<|aB7 h _
  .exact J9
 .split
  .rename_i h;exact bP4 (ab9 hu _) (ab9 hu _) (R.e F _) (R.e F _) (R.e F _)<|aB7 h _
  .exact J9
 .exact J9
def bX7(R:Sound S r)(F:Fit S c X)(o:Expr)(m:Str)(apos cpos:Pos)(args:List Expr):JE X (.Call (.Attribute o m apos) args [] cpos) (cs4 r c o m apos cpos args):=by
 have hu:=F.units;unfold cs4;split
 .split
  .rename_i h;simp only[ar,beq_iff_eq]at h;obtain⟨⟨⟨hm,hn⟩,hl⟩,hp⟩:=h;subst hm;have hs:=J8 hp [] X.env;exact ch6 (R.e F _) (R.q F _) (af7 hn _ _ _) (by rw[hs];rfl) (by simpa using hl) hs
  .split
   .rename_i h;simp only[ar,beq_iff_eq]at h;obtain⟨⟨⟨hm,hn⟩,hl⟩,hp⟩:=h;subst hm;have hs:=J8 hp [] X.env;exact bz1 hu (R.e F _) (R.e F _) (af7 hn _ _ _) (by rw[hs];rfl) (by simpa using hl) hs
   .exact J9
 .rename_i a1 b1;split
  .rename_i h;simp only[ar,beq_iff_eq]at h;obtain⟨⟨⟨⟨hm,hn⟩,hl⟩,hp⟩,hq⟩:=h;subst hm;have hs:=J8 hp [b1] X.env;rw[J8 hq [] X.env]at hs;exact ch7 hu (R.e F _) (R.e F _) (R.e F _) ⟨af7 hn _ _ _,by rw[hs];rfl,by simpa using hl,by rw[hs];rfl⟩
  .exact J9
 .exact J9
def cs9(R:Sound S r)(F:Fit S c X)(f:Expr)(args:List Expr)(kw:List fq)(pos:Pos):JE X (.Call f args kw pos) (xCl S r c f args kw pos):=by
 unfold xCl;split
 .split
  .exact bE9 R F _ _ _ _
  .exact bX7 R F _ _ _ _ _
  .exact J9
 .exact J9
def cs6(ks:List (Option Expr))(vs:List Expr)(pos:Pos):JE X (.Dict ks vs pos) (xDs ks vs):=by
 unfold xDs;split
 .rename_i ps h;split
  .rename_i q;simp only[ar,decide_eq_true_eq]at q;exact ch8 h (by intro z;rw[z]at q;exact absurd q.1<|by decide) q.2
  .exact J9
 .exact J9
def cM7(R:Sound S r)(F:Fit S c X)(ex:Expr):JE X ex (xE S r c ex):=by
 cases ex
 case Constant=>exact cs7 _ _ _
 case Dict ks vs p=>exact cs6 ks vs p
 case Name x p =>
  unfold xE;dsimp only;split
  .rename_i i h;split
   .rename_i v;obtain⟨h1,h2,h3⟩:=aB5 F v;exact cE8 i (F.slot h) h1 h2 h3
   .exact J9
  .split
   .rename_i d hd;split
    .rename_i g;obtain⟨u,k1,k2⟩:=F.css _ _ hd;obtain⟨g1,g2⟩:=aT9 F g;exact cG1 k1 g1 k2 g2
    .exact J9
   .exact J9
 case Tuple es _ _ =>
  unfold xE;dsimp only;split
  .rename_i h;exact cE9 (aN7 (R.e F) _) h
  .exact J9
 case List=>exact aG0<|R.n F _
 case ListComp=>exact aG0<|R.n F _
 case BinOp=>exact bX9 R F _ _ _ _
 case UnaryOp=>exact cs1 R F _ _ _
 case Compare=>exact bX8 R F _ _ _ _
 case BoolOp=>exact aT6 (R.e F) _ _ _
 case IfExp=>exact cG0 (R.t F _) (R.e F _)<|R.e F _
 case Subscript=>exact bX5 R F _ _ _
 case Call=>exact cs9 R F _ _ _ _
 all_goals exact J9
def cM4(R:Sound S r)(F:Fit S c X)(ex:Expr):JQ X ex (xQ S r c ex):=by
 cases ex
 case Name x p =>
  unfold xQ;dsimp only;split
  .rename_i i h;split
   .rename_i v;obtain⟨h1,h2,h3⟩:=aB5 F v;exact cE1 i (F.slot h) h1 h2 h3
   .exact cp0
  .exact bO4 (R.e F _)
 case List=>exact cE2<|R.n F _
 case ListComp=>exact cE2<|R.n F _
 case Call f as kw p =>
  unfold xQ;dsimp only;split
  .exact cE2 (R.n F _)
  .exact bO4 (R.e F _)
 all_goals exact bO4<|R.e F _
def cM5(R:Sound S r)(F:Fit S c X)(ex:Expr):JN X ex (xN S r c ex):=by
 cases ex
 case List es p =>
  unfold xN;dsimp only;split
  .rename_i h;exact cE3 (aN7 (R.e F) _) h
  .exact ap8
 case ListComp=>exact cT2 R F _
 case Call f as kw p =>
  unfold xN;dsimp only;unfold xNl;split
  .split
   .split
    .rename_i h;simp only[ar]at h;obtain⟨rfl,h1,h2⟩:=L9 F h.1;exact cg2 h1 h2 (R.q F _)<|J8 h.2 _ _
    .exact ap8
   .exact ap8
  .exact ap8
 case BinOp a op b p =>
  cases op
  case Add=>exact cE4 (R.q F _)<|R.q F _
  all_goals exact ap8
 all_goals exact ap8
def cM2(R:Sound S r)(F:Fit S c X)(ex:Expr):JT X ex (xT S r c ex):=by
 have hu:=F.units
 have oth:∀e:Expr,JT X e (if plT e then G7 (r.e c e) else tNo):=λe=>by
  split
  .rename_i h;exact cC9 (R.e F _)<|bI4 h _
  .exact aN6
 cases ex
 case Compare a ops bs p =>
  unfold xT cm7;dsimp only;split
  .split
   .rename_i h;exact cD1 (bK3 hu S c _ _) (R.e F _) (R.e F _)<|aB7 h _
   .exact aN6
  .split
   .rename_i h;exact bN8 (ab9 hu _) (ab9 hu _) (R.e F _) (R.e F _) (R.e F _)<|aB7 h _
   .exact aN6
  .exact aN6
 case BoolOp=>exact bN7<|aT5 (R.t F) _ _ _
 case UnaryOp op a p =>
  cases op
  case Not=>exact cD0<|R.t F _
  all_goals exact aN6
 all_goals exact oth _
def cM6(R:Sound S r)(F:Fit S c X)(ex:Expr):JG X ex (xG r c ex):=by
 unfold xG;split
 .split
  .rename_i i h;split
   .rename_i v;obtain⟨h1,h2⟩:=bq8 F v;exact cg6 i (by rw[F.N];exact F.nd) (F.slot h) h1 h2
   .exact ba6
  .exact ba6
 .split
  .rename_i h;obtain⟨h1,h2⟩:=bu4 (env:=X.env) h;exact cE7 (bO5 (R.g F) _ h) F.calm h1 h2
  .exact ba6
 .exact ba6
def br4{st:Stmt}{f:DS}(h:∀ρ,f ρ=O):JS X st f:=λρ fl q=>by rw[h ρ]at q;cases q
def bW5(F:Fit S c X)(h:c.df=true):X.env.blockKind=.function:=by
 unfold Env.blockKind;rw[F.sc,(F.df h).2];rfl
def aM1(elt:Expr)(gens:List Comprehension)(sc:Scope)(pv p':Pos)(x:Str)(l:Nat)(env:Env):swapsWith (.ListComp elt gens sc pv) (Z<|.Name x p') l env =
  pure (env.blockKind == .function&&env.kindOf x==Z .local&&p'.line==pv.line && !(sc.names.any λ(n,k)=>n==x&&(k == .local || k == .cell))):=rfl
def br5(R:Sound S r)(F:Fit S c X){x:Str}{p' pv p:Pos}{elt:Expr}{gens:List Comprehension}{sc:Scope}{i:Nat}(hi:am3 x c.N=Z i)(hl:(c.sc.names.lookup x==Z .local)=true)
  (h:(c.df&&p'.line==pv.line && !(sc.names.any λ(n,k)=>n==x&&(k == .local || k == .cell)))=true) :
  JS X (.Assign [.Name x p'] (.ListComp elt gens sc pv) p) (ad9 i<|evC S r c (.ListComp elt gens sc pv))/\JS X (.Assign [.Name x p'] (.ListComp elt gens sc pv) p) (aE2 i<|evC S r c (.ListComp elt gens sc pv)):=by
 unfold evC;simp only[ar]at h;have hl':X.env.scope.names.lookup x=Z .local:=by rw[F.sc];simpa using hl
 have hsw:swapsWith (.ListComp elt gens sc pv) (Z<|.Name x p') p.line X.env=pure true:=by
  rw[aM1,bW5 F h.1.1,h.1.2,h.2];unfold Env.kindOf;rw[hl'];rfl
 split
 .rename_i elt tgt iter ifs scope pos he;cases he;dsimp only;split
  .rename_i hc;obtain⟨h1,h2,h3,h4,h5,h6⟩:=bt7 (ifs:=ifs) (elt:=elt) R F hc;exact⟨cf6 i (by rw[F.N];exact F.nd) h1 F.hx h2 h3 h4 h5 (F.slot hi) hl' hsw F.calm h6,cf8 i (by rw[F.N];exact F.nd) h1 F.hx h2 h3 h4 h5 (F.slot hi) hl' hsw F.calm h6⟩
  .exact⟨br4 λρ=>rfl,br4 λρ=>rfl⟩
 .exact⟨br4 λρ=>rfl,br4 λρ=>rfl⟩
def bY0(R:Sound S r)(F:Fit S c X)(tg v:Expr)(p:Pos):JS X (.Assign [tg] v p) (ct1 S r c tg v p):=by
 have nd:X.N.Nodup:=by rw[F.N];exact F.nd
 unfold ct1;split
 .rename_i x p';split
  .exact D6
  .rename_i i hi;split
   .exact D6
   .rename_i hlo;have hlo:bM7 c x=true:=by simpa using hlo
    obtain⟨l1,l2⟩:=bq8 F hlo;split
    .rename_i elt gens sc pv;split
     .rename_i hl;split
      .rename_i h;split
       .exact(br5 R F hi hl h).1
       .exact(br5 R F hi hl h).2
      .exact D6
     .rename_i hl;refine bO1 i nd (R.e F _) (F.slot hi) l1 ?_ l2;rw[aM1]
      have:(X.env.kindOf x==Z .local)=false:=by
       unfold Env.kindOf;rw[F.sc];simpa using hl
      rw[this,cS];rfl
    .split
     .exact D6
     .rename_i hc;have hc:isC v=false:=by simpa using hc
      split
      .exact cD5 i nd (R.n F _) (F.slot hi) l1 (aF2 hc _ _ _) l2
      .exact bO1 i nd (R.e F _) (F.slot hi) l1 (aF2 hc _ _ _) l2
 .split
  .exact D6
  .rename_i i hi;split
   .rename_i h;simp only[ar,bp]at h;obtain⟨h1,h2,h3⟩:=aB5 F h.1;exact cD2 i (R.n F _) (ak6 (R.e F) _) (ak6 (R.e F) _) (F.slot hi) h1 h2 h3<|aF2 h.2 _ _ _
   .exact D6
 .rename_i x px y py kt pt;split
  .rename_i a b k2 p2;split
   .rename_i i j hi hj;split
    .rename_i h;unfold cP8 at h;simp only[ar,bp,beq_iff_eq]at h;obtain⟨⟨⟨⟨⟨⟨⟨⟨hd,ha⟩,hb⟩,hxy⟩,hl⟩,hx⟩,hy⟩,hf⟩,hcs⟩:=h;have hx':X.env.scope.names.lookup x=Z .local:=by rw[F.sc];exact hx
     have hy':X.env.scope.names.lookup y=Z .local:=by rw[F.sc];exact hy
     have hne:i≠j:=λz=>by
      subst z;have:=(F.slot hi).symm.trans (F.slot hj);cases this;simp at hxy
     refine cD4 nd (aN7 (R.e F) [a,b]) ?_ hne (F.slot hi) (F.slot hj) hx' hy' F.calm rfl;have kx:X.env.kindOf x=Z .local:=hx';have ky:X.env.kindOf y=Z .local:=hy';have st:∀e:Expr,pl e=true->(match e with | .Starred ..=>true|_=>false)=false:=λe he=>by cases e<;>first|rfl|cases he
     have sa:=st a ha;have sb:=st b hb
     have hyx:(y==x)=false:=by
      cases q:(y==x) with
      | false=>rfl
      | true=>simp only[beq_iff_eq]at q;subst q;simp at hxy
     simp only[swappedStores,aH,dq,List.head?_cons,xms,dM,Expr.pos,bQ,List.filterMap_nil,kx,ky,bW5 F hd,hf,hcs,hl,sa,sb,bF,List.any_nil];simp[List.eraseDups,List.eraseDupsBy,List.eraseDupsBy.loop,hxy,hyx];intro z;rcases z with z|z
     .cases a<;>first|exact absurd (show false=true from z) aF|exact nomatch ha
     .cases b<;>first|exact absurd (show false=true from z) aF|exact nomatch hb
    .exact D6
   .exact D6
  .exact D6
  .rename_i h1 h2;refine bO2 (R.e F _) (R.g F _) ?_ ?_ rfl
   .cases v<;>rfl
   .cases v<;>first|rfl|exact(h2 _ _ _ rfl).elim
 .rename_i es kt pt _;split
  .exact D6
  .rename_i h;refine bO2 (R.e F _) (R.g F _) ?_ ?_ rfl
   .cases v<;>rfl
   .cases v<;>first|rfl|skip
    rename_i vs k3 p3;have h:(es.length==2 || es.length==3)=false:=by simpa [bb0] using h
    unfold swappedStores;simp only[h,xnf,cJ,if_true]
 .exact D6
end
section
variable {X:Cx}{S:Sg}{c:Kx}{r:Ev}
def bX6(R:Sound S r)(F:Fit S c X)(x m:Str)(e:Expr)(p apos cpos pos:Pos)(hl:(apos.endLine==cpos.line)=true):JS X (.Expr (.Call (.Attribute (.Name x p) m apos) [e] [] cpos) pos) (cs3 r c x m e):=by
 unfold cs3;split
 .exact D6
 .rename_i i hi;split
  .rename_i h;simp only[ar]at h;obtain⟨h1,h2,h3⟩:=aB5 F h.1;have hs:=J8 h.2 [] X.env;split
   .rename_i hm;simp only[beq_iff_eq]at hm;subst hm;exact cE0 i (R.e F e) (F.slot hi) h1 h2 h3 rfl (by rw[hs];rfl) hl hs rfl
   .split
    .rename_i hm;simp only[beq_iff_eq]at hm;subst hm;exact cD8 i (R.e F e) (F.slot hi) h1 h2 h3 hl hs
    .exact D6
  .exact D6
def cs5(R:Sound S r)(F:Fit S c X)(e:Expr)(pos:Pos):JS X (.Expr e pos) (xEx r c e):=by
 unfold xEx;split
 .split
  .split
   .split
    .split
     .rename_i h;exact bX6 R F _ _ _ _ _ _ _ h
     .exact D6
    .exact D6
   .exact D6
  .exact D6
 .exact D6
def bE8(R:Sound S r)(F:Fit S c X)(st:Stmt):JS X st (xS0 S r c st):=by
 cases st
 case Return o p =>
  cases o
  .exact D6
  .exact cD3 (R.e F _)
 case If=>exact cT1 (R.t F _) (R.b F _)<|R.b F _
 case While t a o p =>
  cases o
  .exact bO0 (R.t F _) (R.b F _) F.po
  .exact D6
 case For tg it a o p =>
  cases o
  .unfold xS0 xFo;dsimp only;split
   .rename_i h;exact cD7 (cp2 R F _ _) (R.g F _) (R.b F _) F.po F.calm<|bo9 h _
   .exact D6
  .exact D6
 case Assign ts v p =>
  unfold xS0 xAs;dsimp only;split
  .exact bY0 R F _ _ _
  .exact D6
 case Expr=>exact cs5 R F _ _
 case Continue=>exact cf7
 case Break=>exact cD9
 case Pass=>exact cf5
 all_goals exact D6
theorem bR5{st:Stmt}:∀(l:List Nat) {g:DS},JS X st g->JS X st (l.foldl (λg i=>aR0 i g) g)
 | [],_,h=>h
 | i::l,_,h=>bR5 l<|cD6 i h
def cM3(R:Sound S r)(F:Fit S c X)(st:Stmt):JS X st (xS S r c st):=by
 unfold xS fzW;split
 .exact bE8 R F st
 .exact bR5 _ (bE8 R F st)
theorem bS3(h:∀st,JS X st<|f st):∀sts,JSs X sts (evB f sts)
 | []=>cf4
 | [s]=>cf3<|h s
 | s::t::G9=>bN9 (h s)<|bS3 h (t::G9)
def bZ2(R:Sound S r):Sound S (step S r) :=
 ⟨λF=>cM7 R F,λF=>cM4 R F,λF=>cM5 R F,λF=>cM2 R F,λF=>cM6 R F,λF=>bS3<|cM3 R F⟩
theorem cq0(S:Sg):∀n,Sound S (ev S n)
 | 0=>⟨λ_ _=>J9,λ_ _=>cp0,λ_ _=>ap8,λ_ _=>aN6,λ_ _=>ba6,λ_ _ ρ fl q=>by cases q⟩
 | n+1=>bZ2<|cq0 S n
end
structure Fd where
 x:Str
 st:Stmt
 ps:List Str
 N:List Str
 own:List Nat:=[]
 tx:List Nat:=[]
 dx:List Nat:=[]
 old:Bool:=false
 fz:List (Nat×List Nat):=[]
 hc:List ((Nat×Nat)×List Nat):=[]
def fdm(x:Str)(st:Stmt)(n:Nat)(N:List Str)(old:Bool:=false):Fd:={ x,st,ps:=N.take n,N,old }
def Fd.c(d:Fd):Kx:={ N:=d.N,sc:=J1 d.st,df:=true,own:=d.own,cpt:=[],tx:=d.tx,dx:=d.dx,old:=d.old,fz:=d.fz,hc:=d.hc }
def Fd.okB(d:Fd):Bool:=let sc:=J1 d.st
 sc.kind == .function && !sc.isCoroutine && !sc.isGenerator&&au6 d.N&&d.N.take d.ps.length==d.ps&&(d.ps.all λx=>match sc.names.lookup x with|some .local=>true|some .cell=>true|_=>false)&&sc.names.all λy=>match y.2 with | .free=>false|_=>true
def Fd.sc{d:Fd}(h:d.okB=true):FnScope d.N d.ps (J1 d.st):=by
 unfold Fd.okB at h;simp only[ar,bp,beq_iff_eq,bt]at h;obtain⟨⟨⟨⟨⟨⟨h1,h2⟩,h3⟩,h4⟩,h5⟩,h6⟩,h7⟩:=h;refine⟨h1,h2,h3,au5 h4,h5,λx hx=>?_,λy hy e=>?_⟩
 .have:=h6 x hx;split at this
  .rename_i q;exact .inl q
  .rename_i q;exact .inr q
  .cases this
 .have:=h7 y hy;rw[e]at this;cases this
def KF(K:ad)(x:Str)(st:Stmt):Prop:=∃(f:fT) (oc:fR) (od:Option fT) (sl:Array (Option fR)) (kV dc pm:fR) (an:Option fT) (cd ct:fR),
 aP K fg x=Z (Z<|.ref f)/\K.lookup f=Z ⟨oc,od,.func<|bT x x (g8 st) (T5 st) (J1 st) .none kV dc pm an cd ct,sl⟩/\cR K cd x=true/\bH K (.ref f)=true
def cS8{K:ad}{x:Str}{st:Stmt}{f:fT}{oc:fR}{od:Option fT}{sl:Array (Option fR)}{kV dc pm:fR}{an:Option fT}{cd ct:fR}(a:aP K fg x=Z (Z<|.ref f))
  (l:K.lookup f=Z ⟨oc,od,.func<|bT x x (g8 st) (T5 st) (J1 st) .none kV dc pm an cd ct,sl⟩) (c:cR K cd x=true) (k:bH K (.ref f)=true):KF K x st:=⟨f,oc,od,sl,kV,dc,pm,an,cd,ct,a,l,c,k⟩
abbrev Tab:=List<|Str×FnD×Nat
section
variable {P:Program}{w:World}{K:PySem.W.Frag}{mg:Str->Option Value}{base:Heap}{cs:List (Str×D)}{bl:List Str}
structure Md (K:ad) (mg:Str->Option fR) (cs:List (Str×D)) (bl:List Str):Prop where
 ns:∀x v,aP K fg x=Z (Z v)->mg x=Z v
 css:∀x d,cs.lookup x=Z d->∃u,bf1 K d u/\mg x=Z u
 bls:∀x,bl.contains x=true->mg x=O
def TOk(P:fh)(w:World)(K:ad)(mg:Str->Option fR)(base:Heap)(k:Nat)(tab:Tab):Prop:=∀x F n,tab.lookup x=Z (F,n)->(∃(f:fT) (fd:fj) (ps:List Str),
 FnOk P w K mg base CX0 k f fd ps (spF K n F)/\mg x=Z (.ref f)/\bH K (.ref f)=true/\f9 K fd ps [])\/(mg x=O/\cL8 x F n)
def TOk.nil:TOk P w K mg base 0 []:=λx F n h=>by cases h
theorem TOk.mono(T:TOk P w K mg base j tab)(h:j<=k):TOk P w K mg base k tab:=λx F n e =>(T x F n e).imp (λ⟨f,fd,ps,h1,h2,h3,h4⟩=>⟨f,fd,ps,h1.mono h,h2,h3,h4⟩) id
def UA:Nat->(List fR->Prop)->Prop
 | 0,P=>P []
 | n+1,P=>∀a,UA n λus=>P (a::us)
theorem ua:∀{n:Nat}{P:List fR->Prop},UA n P->∀us:List fR,us.length=n->P us
 | 0,_,h,[],_=>h
 | _+1,P,h,a::us,e=>ua (P:=λus=>P (a::us)) (h a) us<|Nat.succ.inj e
def Bd(d:Fd):Prop:=∀(kV doc pm:fR) (an:Option fT) (cdv ct:fR),UA d.ps.length λus=>bindArgs (bT d.x d.x (g8 d.st) (T5 d.st) (J1 d.st) .none kV doc pm an cdv ct) ⟨us,[]⟩=pure (d.ps.zip us)
def rd(tab:Tab)(cs:List (Str×D))(bl:List Str)(d:Fd):FnD:=C0 ((ev ⟨tab,cs,bl⟩ 99).b d.c<|T5 d.st) d.N.length
def ay7(M:Md K mg cs bl)(T:TOk P w K mg base k tab)(ok:d.okB=true)(Fn:Fun K d.x d.x d.st f fd):FnOk P w K mg base CX0 (k+1) f fd d.ps (spF K d.ps.length<|rd tab cs bl d):=by
 have Sc:=Fd.sc ok;refine cj4 (N:=d.N) Fn Sc λcdv A outer s H E hr=>(cq0 ⟨tab,cs,bl⟩ 99).b (c:=d.c) ?_ _
 refine⟨rfl,rfl,Sc.nd,rfl,rfl,hr.units,λ_=>⟨λ_=>rfl,Sc.kind⟩,λx F n h=>?_,M.css,M.bls⟩;exact(T x F n h).imp (λ⟨f',fd',ps,h1,h2,h3,h4⟩=>⟨k,f',fd',ps,h1,hr,h2,h3,h4⟩) id
def ag2{x:Str}{st:Stmt}(h:KF K x st)(M:Md K mg cs bl):∃(f:fT) (kV dc pm:fR) (an:Option fT) (cd ct:fR),Fun K x x st f (bT x x (g8 st) (T5 st) (J1 st) .none kV dc pm an cd ct)/\mg x=Z (.ref f):=by
 obtain⟨f,oc,od,sl,kV,dc,pm,an,cd,ct,a,l,cc,kk⟩:=h;exact⟨f,kV,dc,pm,an,cd,ct,cH9 l cc kk,M.ns _ _ a⟩
def TOk.cons{k:Nat}{tab:Tab}{x:Str}{F:FnD}{n:Nat}(T:TOk P w K mg base k tab)(h:∃(f:fT) (fd:fj) (ps:List Str),FnOk P w K mg base CX0 k f fd ps (spF K n F)/\mg x=Z (.ref f)/\bH K (.ref f)=true/\f9 K fd ps []):
  TOk P w K mg base k ((x,F,n)::tab):=λy G m e=>by
 rw[aU]at e;split at e
 .rename_i q;cases e;simp only[beq_iff_eq]at q;subst q;exact .inl h
 .exact T y G m e
def TOk.add(T:TOk P w K mg base k tab)(M:Md K mg cs bl)(d:Fd)(h:KF K d.x d.st)(F:FnD)(e:rd tab cs bl d=F:=by kernel_rfl)(ok:d.okB=true:=by kernel_rfl)(bd:Bd d:=by repeat (first|exact rfl|intro _)):TOk P w K mg base (k+1) ((d.x,F,d.ps.length)::tab):=by
 subst e;obtain⟨f,kV,dc,pm,an,cd,ct,Fn,hm⟩:=ag2 h M;exact(T.mono<|dD k).cons ⟨f,_,d.ps,ay7 M T ok Fn,hm,Fn.kp,.all<|ua (bd kV dc pm an cd ct)⟩
def TOk.rec(T:TOk P w K mg base k tab)(M:Md K mg cs bl)(d:Fd)(h:KF K d.x d.st)(F:Nat->FnD)(j:Nat)(e0:F 0=λ_=>O:=by rfl)(e:∀j,rd ((d.x,F j,d.ps.length)::tab) cs bl d=F (j+1):=by intro;kernel_rfl)(ok:d.okB=true:=by kernel_rfl)(bd:Bd d:=by repeat (first|exact rfl|intro _)):
  TOk P w K mg base (k+j) ((d.x,F j,d.ps.length)::tab):=by
 obtain⟨f,kV,dc,pm,an,cd,ct,Fn,hm⟩:=ag2 h M;have bb:f9 K _ d.ps []:=.all<|ua (bd kV dc pm an cd ct)
 have main:∀j,FnOk P w K mg base CX0 (k+j) f (bT d.x d.x (g8 d.st) (T5 d.st) (J1 d.st) .none kV dc pm an cd ct) d.ps (spF K d.ps.length<|F j):=λj=>by
  induction j with
  | zero =>
   rw[e0];exact⟨λvs H Q E h=>h.1,λA outer s H args us vs Q E hr e0 hb hv hs=>by obtain⟨_,Hf,ds,d,_,_,e,_⟩:=hs;cases e⟩
  | succ j ih =>
   rw[← e j];exact ay7 M ((T.mono<|cx k j).cons ⟨f,_,d.ps,ih,hm,Fn.kp,bb⟩) ok Fn
 exact(T.mono<|cx k j).cons ⟨f,_,d.ps,main j,hm,Fn.kp,bb⟩
def TOk.rec2(T:TOk P w K mg base k tab)(M:Md K mg cs bl)(d d':Fd)(h:KF K d.x d.st)(h':KF K d'.x d'.st)(F F':Nat->FnD)(j:Nat)(e0:F 0=λ_=>O:=by rfl)(e0':F' 0=λ_=>O:=by rfl)
  (e:∀j,rd ((d.x,F j,d.ps.length)::(d'.x,F' j,d'.ps.length)::tab) cs bl d=F (j+1):=by intro;kernel_rfl) (e':∀j,rd ((d.x,F j,d.ps.length)::(d'.x,F' j,d'.ps.length)::tab) cs bl d'=F' (j+1):=by intro;kernel_rfl) (ok:d.okB=true:=by kernel_rfl) (ok':d'.okB=true:=by kernel_rfl) (bd:Bd d:=by repeat (first|exact rfl|intro _)) (bd':Bd d':=by repeat (first|exact rfl|intro _)) :
  TOk P w K mg base (k+j) ((d.x,F j,d.ps.length)::(d'.x,F' j,d'.ps.length)::tab):=by
 obtain⟨f,kV,dc,pm,an,cd,ct,Fn,hm⟩:=ag2 h M;obtain⟨f',kV',dc',pm',an',cd',ct',Fn',hm'⟩:=ag2 h' M;have b1:f9 K _ d.ps []:=.all (ua<|bd kV dc pm an cd ct);have b2:f9 K _ d'.ps []:=.all (ua<|bd' kV' dc' pm' an' cd' ct');have none_ok:∀{f:fT}{fd:fj}{ps:List Str},FnOk P w K mg base CX0 (k+0) f fd ps (spF K ps.length λ_=>O):=λ{f fd ps} =>⟨λvs H Q E h=>h.1,λA outer s H args us vs Q E hr e0 hb hv hs=>by obtain⟨_,Hf,ds,d,_,_,e,_⟩:=hs;cases e⟩
 have main:∀j,TOk P w K mg base (k+j) ((d.x,F j,d.ps.length)::(d'.x,F' j,d'.ps.length)::tab):=λj=>by
  induction j with
  | zero=>rw[e0,e0'];exact((T.mono<|ak _).cons ⟨f',_,d'.ps,none_ok,hm',Fn'.kp,b2⟩).cons ⟨f,_,d.ps,none_ok,hm,Fn.kp,b1⟩
  | succ j ih =>
   have o1:=ay7 M ih ok Fn;have o2:=ay7 M ih ok' Fn';rw[e j]at o1;rw[e' j]at o2;exact((T.mono<|cx k (j+1)).cons ⟨f',_,d'.ps,o2,hm',Fn'.kp,b2⟩).cons ⟨f,_,d.ps,o1,hm,Fn.kp,b1⟩
 exact main j
def TOk.rec3(T:TOk P w K mg base k tab)(M:Md K mg cs bl)(d1 d2 d3:Fd)(h1:KF K d1.x d1.st)(h2:KF K d2.x d2.st)(h3:KF K d3.x d3.st)(F1 F2 F3:Nat->FnD)(j:Nat)(z1:F1 0=λ_=>O:=by rfl)(z2:F2 0=λ_=>O:=by rfl)(z3:F3 0=λ_=>O:=by rfl)
  (e1:∀j,rd ((d1.x,F1 j,d1.ps.length)::(d2.x,F2 j,d2.ps.length)::(d3.x,F3 j,d3.ps.length)::tab) cs bl d1=F1 (j+1):=by intro;kernel_rfl) (e2:∀j,rd ((d1.x,F1 j,d1.ps.length)::(d2.x,F2 j,d2.ps.length)::(d3.x,F3 j,d3.ps.length)::tab) cs bl d2=F2 (j+1):=by intro;kernel_rfl) (e3:∀j,rd ((d1.x,F1 j,d1.ps.length)::(d2.x,F2 j,d2.ps.length)::(d3.x,F3 j,d3.ps.length)::tab) cs bl d3=F3 (j+1):=by intro;kernel_rfl) (ok1:d1.okB=true:=by kernel_rfl) (ok2:d2.okB=true:=by kernel_rfl) (ok3:d3.okB=true:=by kernel_rfl) (q1:Bd d1:=by repeat (first|exact rfl|intro _)) (q2:Bd d2:=by repeat (first|exact rfl|intro _)) (q3:Bd d3:=by repeat (first|exact rfl|intro _)) :
  TOk P w K mg base (k+j) ((d1.x,F1 j,d1.ps.length)::(d2.x,F2 j,d2.ps.length)::(d3.x,F3 j,d3.ps.length)::tab):=by
 obtain⟨f1,a1,a2,a3,a4,a5,a6,Fn1,hm1⟩:=ag2 h1 M;obtain⟨f2,c1,c2,c3,c4,c5,c6,Fn2,hm2⟩:=ag2 h2 M;obtain⟨f3,g1,g2,g3,g4,g5,g6,Fn3,hm3⟩:=ag2 h3 M;have b1:f9 K _ d1.ps []:=.all (ua<|q1 a1 a2 a3 a4 a5 a6);have b2:f9 K _ d2.ps []:=.all (ua<|q2 c1 c2 c3 c4 c5 c6);have b3:f9 K _ d3.ps []:=.all (ua<|q3 g1 g2 g3 g4 g5 g6);have none_ok:∀{f:fT}{fd:fj}{ps:List Str},FnOk P w K mg base CX0 (k+0) f fd ps (spF K ps.length λ_=>O):=λ{f fd ps} =>⟨λvs H Q E h=>h.1,λA outer s H args us vs Q E hr e0 hb hv hs=>by obtain⟨_,Hf,ds,d,_,_,e,_⟩:=hs;cases e⟩
 induction j with
 | zero=>rw[z1,z2,z3];exact(((T.mono<|ak _).cons ⟨f3,_,d3.ps,none_ok,hm3,Fn3.kp,b3⟩).cons ⟨f2,_,d2.ps,none_ok,hm2,Fn2.kp,b2⟩).cons ⟨f1,_,d1.ps,none_ok,hm1,Fn1.kp,b1⟩
 | succ j ih =>
  have o1:=ay7 M ih ok1 Fn1;have o2:=ay7 M ih ok2 Fn2;have o3:=ay7 M ih ok3 Fn3;rw[e1 j]at o1;rw[e2 j]at o2;rw[e3 j]at o3;exact(((T.mono<|cx k (j+1)).cons ⟨f3,_,d3.ps,o3,hm3,Fn3.kp,b3⟩).cons ⟨f2,_,d2.ps,o2,hm2,Fn2.kp,b2⟩).cons ⟨f1,_,d1.ps,o1,hm1,Fn1.kp,b1⟩
def ce7(M:Md K mg cs bl)(T:∀base:Heap,TOk P w K mg base k tab)(d:Fd)(h:KF K d.x d.st)(e:rd tab cs bl d=F)(hm:mg d.x=Z (.ref fa))(hp:d.ps=[x]:=by rfl)(ok:d.okB=true:=by kernel_rfl)(bd:Bd d:=by repeat (first|exact rfl|intro _)):
  ∃fd:fj,(∀(s:fS) (u:fR),BindsTo s fd ⟨[u],[]⟩ [(x,u)])/\∀base:Heap,FnOk P w K mg base CX0 (k+1) fa fd [x] (spF K 1 F):=by
 subst e;obtain⟨f,kV,dc,pm,an,cd,ct,Fn,hm'⟩:=ag2 h M;cases hm.symm.trans hm';refine⟨bT d.x d.x (g8 d.st) (T5 d.st) (J1 d.st) .none kV dc pm an cd ct,λs u=>.of_eq ?_,λbase=>?_⟩
 .have:=ua (bd kV dc pm an cd ct) [u] (by rw[hp];rfl);rw[hp]at this;exact this
 .have:=ay7 M (T base) ok Fn;rw[hp]at this;exact this
end
abbrev dc9:=List<|Str×(Str->Option D)
abbrev dd1:=List<|Str×(List D->Option Str)×Nat
structure Rg where
 rf:dd1
 cl:List Str
 tb:List (Str×List (Str×Bool))
 sb:List (Str×List Str)
 nb:List (Str×List Str)
 xf:dc9
end G
namespace Sh
open PySem PySem.Spec PyProof.Rows L2 G
def bn0:DS:=(B0<|B6 (A0 (A2 ai8<|A0 (A1 0) A3)<|A0 (A2 at3<|A0 (A1 0) A3) A3))
def aK3:List D->Option D:=C0 bn0 1
def aL5:DS:=(B0<|A5 B1 (A5 B1 (E3 (A1 0) C7<|B7 ⇑2)<|B6 (A0 (A1 1) A3)) (E3 (A1 0) (B7 ⇑3) C7))
def ak9:List D->Option D:=C0 aL5 2
def aB2:DS:=(B0<|A5 B1 (A5 B1 (E3 (A1 0) C7<|B7 ⇑3)<|B6 (A0 (A1 1) A3)) (E3 (A1 0) (B7 ⇑4) C7))
def ad8:List D->Option D:=C0 aB2 2
def aW6:DS:=(B0<|A5 B1 (A5 B1 (E3 (A1 0) C7<|B7 ⇑4)<|B6 (A0 (A1 1) A3)) (E3 (A1 0) (B7 ⇑5) C7))
def at0:List D->Option D:=C0 aW6 2
def aW7:DS:=(B0<|A5 B1 (A5 B1 (E3 (A1 0) C7<|B7 ⇑5)<|A1 1) (E3 (A1 0) (B7 ⇑7) C7))
def at2:List D->Option D:=C0 aW7 2
def as5:DS:=(B0<|A5 B1 (E3 (A1 0) C7<|B7 ⇑8) (B6<|A0 (A1 1) A3))
def ad3:List D->Option D:=C0 as5 2
def az2:DS:=(A7 (B4 4<|A2 Q0 (A0 (A1 0)<|A0 (A1 1) (A0 (A1 2) A3)))<|B0 (B6<|A0 (dIx (A8 0) ⇑0) (A0 (dIx (A8 0) ⇑1)<|A0 (A5 B1 (A5 B1 (E3 (dIx (A8 0) ⇑2) C7<|B7 (A1 4))<|B6 (A0 (A1 3) A3))<|E3 (dIx (A8 0) ⇑2) (B7<|A5 B1 (A1 4) ⇑1) C7) A3)))
def ah5:List D->Option D:=C0 az2 5
def aP6:DS:=(B0<|dIx (A8 0) ⇑0)
def M4:List D->Option D:=C0 aP6 1
def az4:DS:=(B0<|dIx (A8 0) ⇑1)
def J7:List D->Option D:=C0 az4 1
def bf2:DS:=(B0<|dIx (A8 0) ⇑2)
def L4:List D->Option D:=C0 bf2 1
def bE1:DS:=(B0<|dIx (A8 0) ⇑3)
def L6:List D->Option D:=C0 bE1 1
def cL3:DS:=(B0<|dIx (A8 0) ⇑2)
def aK2:List D->Option D:=C0 cL3 1
def cL2:DS:=(B0<|dIx (A8 0) ⇑3)
def aK1:List D->Option D:=C0 cL2 1
def bX0:DS:=(B0<|dIx (A8 0) (aH8 ⇑2))
def at4:List D->Option D:=C0 bX0 1
def bX1:DS:=(B0<|dIx (A8 0) (aH8 ⇑1))
def at5:List D->Option D:=C0 bX1 1
def bX3:DS:=(B0<|A5 eqD (A2 M4<|A0 (A1 0) A3) (dC<|.str "put"))
def U8:List D->Option D:=C0 bX3 1
def bX4:DS:=(B0<|A5 eqD (A2 M4<|A0 (A1 0) A3) (dC<|.str "out"))
def o9:List D->Option D:=C0 bX4 1
def av8:DS:=(A7 (sIf (tB2 (inD true) (A1 1)<|A2 ad4 (A0 (A1 0) A3)) E1 B8)<|B0 (A2 i9<|A0 (A1 0) (A0 (A1 1) A3)))
def S1:List D->Option D:=C0 av8 2
def ah3:DS:=(A7 (B4 2<|A2 M4 (A0 (A1 1) A3))<|A7 (sIf (tB2 eqD (A1 2)<|dC (.str "manner")) (B0<|bl5 (A2 aa7<|A0 (A1 0) A3)) B8) (A7 (sIf (tB2 eqD (A1 2)<|dC (.str "place")) (B0<|A2 R4 (A0 (A1 0) A3)) B8)<|A7 (sIf (tB2 eqD (A1 2)<|dC (.str "spot")) (B0<|S9 (A2 R4<|A0 (A1 0) A3) (A2 Y6<|A0 (A2 R3<|A0 (A1 0) A3) (A0 (A2 aK2<|A0 (A1 1) A3)<|A0 (A2 aK1<|A0 (A1 1) A3) A3))) B8) (B0<|dC (.bool true))))
def w6:List D->Option D:=C0 ah3 3
def ak4:DS:=(B4 2<|A2 M4 (A0 (A1 1) A3))
def ak3:DS:=(sIf (tB2 eqD (A1 2)<|dC (.str "strength")) (B0<|A2 X1 (A0 (A1 0) A3)) B8)
def ak2:DS:=(sIf (tB2 eqD (A1 2)<|dC (.str "shown")) (B0<|A2 ad6 (A0 (A1 0) A3)) B8)
def ak1:DS:=(sIf (tB2 eqD (A1 2)<|dC (.str "manner")) (B0<|A2 O2 (A0 (A1 0) A3)) B8)
def ak0:DS:=(sIf (tB2 eqD (A1 2)<|dC (.str "place")) (B0<|A2 aK3 (A0 (A1 0) A3)) B8)
def w9:DS:=(B0<|A2 aw3 (A0 (A2 R3<|A0 (A1 0) A3)<|A0 (A2 aK2<|A0 (A1 1) A3) (A0 (A2 aK1<|A0 (A1 1) A3) A3)))
def ad0:DS:=(A7 ak4<|A7 ak3 (A7 ak2<|A7 ak1 (A7 ak0 w9)))
def W8:List D->Option D:=C0 ad0 3
def c7:DS:=(B4 2<|A2 M4 (A0 (A1 1) A3))
def Z9:DS:=(B4 3<|A2 at5 (A0 (A1 1) A3))
def Z8:DS:=(sIf (tB2 eqD (A1 2)<|dC (.str "strength")) (B0<|A2 ad8 (A0 (A1 0)<|A0 (A1 3) A3)) B8)
def Z7:DS:=(sIf (tB2 eqD (A1 2)<|dC (.str "shown")) (B0<|A2 at0 (A0 (A1 0)<|A0 (A1 3) A3)) B8)
def Z6:DS:=(sIf (tB2 eqD (A1 2)<|dC (.str "manner")) (B0<|A2 ak9 (A0 (A1 0)<|A0 (A1 3) A3)) B8)
def Z5:DS:=(sIf (tB2 eqD (A1 2)<|dC (.str "place")) (B0<|A2 at2 (A0 (A1 0)<|A0 (A1 3) A3)) B8)
def S2:DS:=(B0<|A2 ad3 (A0 (A1 0)<|A0 (A2 ah5<|A0 (A2 R3<|A0 (A1 0) A3) (A0 (A2 aK2<|A0 (A1 1) A3)<|A0 (A2 aK1<|A0 (A1 1) A3) (A0 (A1 3) A3))) A3))
def S0:DS:=(A7 c7<|A7 Z9 (A7 Z8<|A7 Z7 (A7 Z6<|A7 Z5 S2)))
def L5:List D->Option D:=C0 S0 4
def ah1:DS:=(A7 (B4 2<|A2 J7 (A0 (A1 1) A3))<|A7 (B4 3<|A2 S1 (A0 (A1 0)<|A0 (A1 2) A3)) (A7 (sIf (O9<|G7 (A2 w6<|A0 (A1 3) (A0 (A1 1) A3))) E1 B8)<|A7 (sIf (tB2 neD (A2 W8<|A0 (A1 3) (A0 (A1 1) A3))<|A2 at4 (A0 (A1 1) A3)) E1 B8) (B0<|A2 v8 (A0 (A1 0)<|A0 (A1 2) (A0 (A2 L5<|A0 (A1 3) (A0 (A1 1) A3)) A3)))))
def R1:List D->Option D:=C0 ah1 4
def as6:DS:=(A7 (sIf (tB2 eqD (A1 1)<|dC (.str "")) (B0<|dIx (A8 0) ⇑2) B8)<|A7 (B4 2<|A2 S1 (A0 (A1 0)<|A0 (A1 1) A3)) (A7 (sIf (O9<|G7 (A2 N1<|A0 (A1 2) A3)) E1 B8)<|B0 (A2 E7<|A0 (A1 2) A3)))
def Q3:List D->Option D:=C0 as6 3
def ac9:DS:=(A7 (sIf (tB2 eqD (A1 1)<|dC (.str "")) (B0<|B6 (A0 (dIx (A8 0) ⇑0)<|A0 (dIx (A8 0) ⇑1) (A0 (A1 2) A3))) B8)<|B0 (A2 v8<|A0 (A1 0) (A0 (A1 1)<|A0 (A2 O5<|A0 (A2 i9<|A0 (A1 0) (A0 (A1 1) A3)) (A0 (A1 2) A3)) A3)))
def L0:List D->Option D:=C0 ac9 3
def k9:DS:=(B4 2<|A2 J7 (A0 (A1 1) A3))
def k8:DS:=(B4 3<|A2 L4 (A0 (A1 1) A3))
def j9:DS:=(B4 4<|A2 Q3 (A0 (A1 0)<|A0 (A1 2) A3))
def al2:DS:=(sIf (tB2 gtI (A1 3)<|Q5 (A8 4)) E1 B8)
def j8:DS:=(B4 5<|A2 L0 (A0 (A1 0)<|A0 (A1 2) (A0 (A5 B1 (A5 B1 (E3 (A1 4) C7<|B7 (A1 3))<|B6 (A0 (A2 L6<|A0 (A1 1) A3) A3))<|E3 (A1 4) (B7<|A1 3) C7) A3)))
def j7:DS:=(sIf (O9<|G7 (A2 O7<|A0 (A1 5) A3)) E1 B8)
def al1:DS:=(B0<|A1 5)
def aB3:DS:=(A7 k9<|A7 k8 (A7 j9<|A7 al2 (A7 j8<|A7 j7 al1)))
def Z2:List D->Option D:=C0 aB3 6
def aB4:DS:=(A7 (B4 2<|A2 J7 (A0 (A1 1) A3))<|A7 (B4 3<|A2 L4 (A0 (A1 1) A3)) (A7 (B4 4<|A2 Q3 (A0 (A1 0)<|A0 (A1 2) A3))<|A7 (sIf (tB2 neD (E3 (A1 4) (B7<|A1 3)<|B7 (A5 B1 (A1 3) ⇑1))<|B6 (A0 (A2 L6<|A0 (A1 1) A3) A3)) E1 B8) (B0<|A2 L0 (A0 (A1 0)<|A0 (A1 2) (A0 (A5 B1 (E3 (A1 4) C7<|B7 (A1 3))<|E3 (A1 4) (B7<|A5 B1 (A1 3) ⇑1) C7) A3)))))
def Z3:List D->Option D:=C0 aB4 5
def cL4:DS:=(A7 (sIf (G7<|A2 U8 (A0 (A1 1) A3)) (B0<|A2 Z2 (A0 (A1 0)<|A0 (A1 1) A3)) B8)<|A7 (sIf (G7<|A2 o9 (A0 (A1 1) A3)) (B0<|A2 Z3 (A0 (A1 0)<|A0 (A1 1) A3)) B8) (B0<|A2 R1 (A0 (A1 0)<|A0 (A1 1) A3)))
def P6:List D->Option D:=C0 cL4 2
def bn6:DS:=(A7 (sIf (G7<|A2 U8 (A0 (A1 0) A3)) (B0<|A5 B1 (B6<|A0 (dC<|.str "out") A3) (E3 (A1 0) (B7 ⇑1) C7)) B8)<|A7 (sIf (G7<|A2 o9 (A0 (A1 0) A3)) (B0<|A5 B1 (B6<|A0 (dC<|.str "put") A3) (E3 (A1 0) (B7 ⇑1) C7)) B8) (B0<|A5 B1 (E3 (A1 0) C7<|B7 (aH8 ⇑2)) (B6<|A0 (A2 at5<|A0 (A1 0) A3) (A0 (A2 at4<|A0 (A1 0) A3) A3))))
def N3:List D->Option D:=C0 bn6 1
def aJ7(self:List D->Option D):DS:=(B0<|bt2 (qE<|A5 B1 (S8<|A0 ⇑0 A3) (S8<|C5 1 [] (M9<|A1 0) (B5 0) (tB2 eqD (dIx (A8 0) ⇑0)<|dC (.str "group")) (A5 B1 ⇑1<|A2 self (A0 (dIx (A8 0) ⇑5) A3)))))
def T2:Nat->List D->Option D
 | 0=>λ_=>O
 | k+1=>C0 (aJ7<|T2 k) 1
def O4:DS:=(A7 (ao7 (A1 1)<|S7 4 (C4 (B5 2)<|C4 (B5 3) (C4 (B5 4)<|C4 (B5 5) U0)))<|A7 (sIf (tB2 gtI (A1 4)<|Q5 (A8 0)) (B0<|dC .none) B8) (A7 (sIf (tB2 eqD (A1 2)<|dC (.str "put")) (B0<|A5 B1 (A5 B1 (E3 (A1 0) C7<|B7 (A1 4))<|B6 (A0 (A1 5) A3)) (E3 (A1 0) (B7<|A1 4) C7)) B8)<|A7 (sIf (M6 (tB2 eqD (A1 4)<|Q5 (A8 0))<|tB2 neD (dIx (A8 0)<|A1 4) (A1 5)) (B0<|dC .none) B8) (B0<|A5 B1 (E3 (A1 0) C7<|B7 (A1 4)) (E3 (A1 0) (B7<|A5 B1 (A1 4) ⇑1) C7))))
def T8:List D->Option D:=C0 O4 6
def m8:DS:=(B4 2<|bt5 (dC<|.dict (mgD [("manner", .int 2),("strength", .int 3),("shown", .int 4)])) (dIx (A8 1) ⇑0) ⇑5)
def N6:DS:=(sIf (tB2 ltI (A1 2) ⇑5) (A7 (sIf (M6 (tB2 neD (dIx (A8 0)<|A1 2)<|dIx (A8 1) ⇑2)<|p9 (tB2 eqD (dIx (A8 1) ⇑0)<|dC (.str "manner")) (tB2 eqD (dIx (A8 0) ⇑0)<|dC (.str "tone"))) (B0<|dC .none) B8)<|B0 (A5 B1 (A5 B1 (E3 (A1 0) C7<|B7 (A1 2))<|B6 (A0 (dIx (A8 1) ⇑3) A3))<|E3 (A1 0) (B7<|A5 B1 (A1 2) ⇑1) C7)) B8)
def m7:DS:=(sIf (tB2 neD (dIx (A8 0) ⇑0)<|dC (.str "layer")) (B0<|dC .none) B8)
def U3:DS:=(sIf (tB2 eqD (dIx (A8 1) ⇑0)<|dC (.str "place")) (A7 (sIf (tB2 neD (E3 (A1 0) (B7 ⇑5)<|B7 ⇑7)<|dIx (A8 1) ⇑2) (B0<|dC .none) B8)<|B0 (A5 B1 (A5 B1 (E3 (A1 0) C7<|B7 ⇑5)<|dIx (A8 1) ⇑3)<|E3 (A1 0) (B7 ⇑7) C7)) B8)
def af2:DS:=(ao7 (A1 1)<|S7 6 (C4 (B5 3)<|C4 (B5 4) (C4 (B5 5)<|C4 (B5 6) (C4 (B5 7)<|C4 (B5 8) U0))))
def af1:DS:=(ao7 (dIx (A8 0) ⇑8)<|S7 3 (C4 (B5 9)<|C4 (B5 10) (C4 (B5 11) U0)))
def Q8:DS:=(sIf (M6 (tB2 geI (A1 5)<|A1 9)<|M6 (tB2 geI (A1 6)<|A1 10) (tB2 neD (dIx (A8 11)<|A5 B1 (A5 D5 (A1 6)<|A1 9) (A1 5))<|A1 7)) (B0<|dC .none) B8)
def af0:DS:=(B4 11<|A5 B1 (A5 B1 (E3 (A1 11) C7<|B7 (A5 B1 (A5 D5 (A1 6)<|A1 9)<|A1 5))<|B6 (A0 (A1 8) A3)) (E3 (A1 11) (B7<|A5 B1 (A5 B1 (A5 D5 (A1 6)<|A1 9)<|A1 5) ⇑1) C7))
def aD5:DS:=(B0<|A5 B1 (E3 (A1 0) C7<|B7 ⇑8) (B6<|A0 (B6<|A0 (A1 9) (A0 (A1 10)<|A0 (A1 11) A3)) A3))
def v7:DS:=(A7 m8<|A7 N6 (A7 m7<|A7 U3 (A7 af2<|A7 af1 (A7 Q8<|A7 af0 aD5))))
def U1:List D->Option D:=C0 v7 12
def ay0:DS:=(ao7 (A1 0)<|S7 3 (C4 (B5 2)<|C4 (B5 3) (C4 (B5 4) U0)))
def ax9:DS:=(B4 5<|bd9 (qN<|C5 1 [] (M9<|A2 (K2 12) (A0 (A1 4) A3)) (B5 0) F9 (B6<|A0 (dIx (A8 0) ⇑1) (A0 (A1 0) A3))))
def ae7:DS:=(sIf (tB2 (inD true) (dIx (A8 1) ⇑0)<|B6 (A0 (dC<|.str "put")<|A0 (dC<|.str "out") A3)) (A7 (sIf (tB2 (G.inK true) (dIx (A8 1) ⇑1)<|A1 5) (B0<|dC .none) B8)<|A7 (B4 6<|A2 U1 (A0 (an3 (A1 5)<|dIx (A8 1) ⇑1)<|A0 (A1 1) A3)) (A7 (sIf (tB2 isB (A1 6)<|dC .none) (B0<|dC .none) B8)<|B0 (B6<|A0 (A1 2) (A0 (A1 3)<|A0 (A2 (O0 12)<|A0 (A1 4) (A0 (dIx (A8 1) ⇑1)<|A0 (B6<|A0 (A1 6) A3) A3)) A3)))) B8)
def Q6:DS:=(sIf (p9 (tB2 eqD (dIx (A8 1) ⇑0)<|dC (.str "put"))<|tB2 neD (S8<|C5 1 [5] (M9<|A2 (K2 12) (A0 (B6<|A0 (dIx (A8 1) ⇑3) A3) A3)) (B5 0) (tB2 (G.inK false) (dIx (A8 0) ⇑1)<|A1 1) (A1 0)) (S8 A3)) (B0<|dC .none) B8)
def t8:DS:=(sIf (tB2 eqD (dIx (A8 1) ⇑1)<|dC (.str "")) (B4 7<|A2 T8 (A0 (A1 4)<|A0 (A1 1) A3))<|sIf (M6 (tB2 (G.inK true) (dIx (A8 1) ⇑1)<|A1 5)<|tB2 neD (dIx (qE<|an3 (A1 5) (dIx (A8 1) ⇑1)) ⇑0) (dC<|.str "group")) (B4 7<|dC .none) (A7 (B4 8<|an3 (A1 5) (dIx (A8 1) ⇑1))<|A7 (B4 7<|A2 T8 (A0 (dIx (A8 8) ⇑5)<|A0 (A1 1) A3)) (sIf (tB2 al8 (A1 7)<|dC .none) (B4 7<|A2 (O0 12) (A0 (A1 4)<|A0 (dIx (A8 1) ⇑1) (A0 (B6<|A0 (A5 B1 (E3 (A1 8) C7<|B7 ⇑5)<|B6 (A0 (A1 7) A3)) A3) A3))) B8)))
def t7:DS:=(sIf (M6 (tB2 isB (A1 7)<|dC .none)<|tB2 gtI (A2 (T2 12)<|A0 (A1 7) A3) ⇑3) (B0<|dC .none) B8)
def ae6:DS:=(B0<|B6 (A0 (A1 2)<|A0 (A1 3) (A0 (A1 7) A3)))
def aJ6:DS:=(A7 ay0<|A7 ax9 (A7 ae7<|A7 Q6 (A7 t8<|A7 t7 ae6)))
def Y5:List D->Option D:=C0 aJ6 9
def cm4:DS:=(A7 (B4 4<|A5 B1 (S8<|A0 (B6<|A0 (dC<|.str "") (A0 (A1 2) A3)) A3) (S8<|C5 1 [] (M9<|A2 (K2 12) (A0 (A1 2) A3)) (B5 0) (tB2 eqD (dIx (A8 0) ⇑0)<|dC (.str "group")) (B6<|A0 (dIx (A8 0) ⇑1) (A0 (dIx (A8 0) ⇑5) A3))))<|A7 (ao7 (dIx (A8 4)<|A2 A9 (A0 (A1 0)<|A0 (A1 1) (A0 (Q5<|A8 4) A3)))<|S7 2 (C4 (B5 5)<|C4 (B5 6) U0)) (A7 (B4 7<|A2 Y4 (A0 (A1 0)<|A0 (A5 B1 (A1 1) ⇑10) (A0 (A1 3)<|A0 (dC<|.str "over") A3)))<|A7 (sIf (tB2 eqD (A2 A9<|A0 (A1 0) (A0 (A5 B1 (A1 1) ⇑1)<|A0 ⇑3 A3)) ⇑0) (B4 7<|B6 (A0 (dC<|.str "group")<|A0 (A1 3) (A0 (dC<|.str "plus")<|A0 (B6<|A0 ⇑1 (A0 ⇑2 A3)) (A0 (dC<|.bool true)<|A0 (B6<|A0 (A5 B1 (A5 B1 (E3 (A1 7) C7<|B7 ⇑1)<|B6 (A0 (A5 B1 (A1 3)<|dC (.str "q")) A3))<|E3 (A1 7) (B7 ⇑2) C7) A3) A3)))) B8) (B0<|B6 (A0 (dC<|.str "put")<|A0 (A1 5) (A0 (A2 A9<|A0 (A1 0) (A0 (A5 B1 (A1 1) ⇑2)<|A0 (A5 B1 (Q5<|A8 6) ⇑1) A3))<|A0 (A1 7) A3)))))
def aC6:List D->Option D:=C0 cm4 8
def ay1:DS:=(B4 4<|dIx (A8 2) ⇑2)
def X7:DS:=(B4 5<|A2 (K2 12) (A0 (A1 4) A3))
def X6:DS:=(sIf (M6 (tB2 eqD (A1 5)<|S8 A3)<|tB2 eqD (A2 A9<|A0 (A1 0) (A0 (A1 1)<|A0 ⇑4 A3)) ⇑0) (B0<|A2 aC6 (A0 (A1 0)<|A0 (A5 B1 (A1 1) ⇑20) (A0 (A1 4)<|A0 (A1 3) A3))) B8)
def ae9:DS:=(B4 6<|dIx (A8 5) (A2 A9<|A0 (A1 0) (A0 (A5 B1 (A1 1) ⇑1)<|A0 (Q5<|A8 5) A3)))
def ae8:DS:=(B4 7<|A2 A9 (A0 (A1 0)<|A0 (A5 B1 (A1 1) ⇑2) (A0 ⇑6 A3)))
def X5:DS:=(sIf (tB2 eqD (A1 7) ⇑0) (A7 (B4 8<|A5 B1 (S8<|A0 (B6<|A0 (dC<|.str "") (A0 (A1 4) A3)) A3) (S8<|C5 1 [] (M9<|A1 5) (B5 0) (tB2 eqD (dIx (A8 0) ⇑0)<|dC (.str "group")) (B6<|A0 (dIx (A8 0) ⇑1) (A0 (dIx (A8 0) ⇑5) A3))))<|A7 (ao7 (dIx (qN<|C5 1 [6] (M9<|A1 8) (B5 0) (tB2 (inD false) (A1 1)<|dIx (A8 0) ⇑1) (A1 0)) ⇑0)<|S7 2 (C4 (B5 9)<|C4 (B5 10) U0)) (B0<|B6 (A0 (dC<|.str "out")<|A0 (A1 9) (A0 (ar6 (A1 10)<|A1 6)<|A0 (A1 6) A3)))) B8)
def Q7:DS:=(sIf (M6 (tB2 eqD (A1 7) ⇑1)<|tB2 eqD (dIx (A8 6) ⇑0) (dC<|.str "tone")) (B0<|B6 (A0 (dC<|.str "shown")<|A0 (dIx (A8 6) ⇑1) (A0 (dIx (A8 6) ⇑4)<|A0 (A5 eqD (A2 A9<|A0 (A1 0) (A0 (A5 B1 (A1 1) ⇑3)<|A0 ⇑2 A3)) ⇑0) A3))) B8)
def X4:DS:=(sIf (M6 (tB2 eqD (A1 7) ⇑2)<|tB2 eqD (dIx (A8 6) ⇑0) (dC<|.str "group")) (B0<|B6 (A0 (dC<|.str "strength")<|A0 (dIx (A8 6) ⇑1) (A0 (dIx (A8 6) ⇑3)<|A0 (A2 L7<|A0 (A1 0) (A0 (A5 B1 (A1 1) ⇑4) A3)) A3))) B8)
def u6:DS:=(sIf (tB2 eqD (A1 7) ⇑3) (A7 (B4 11<|S8 (A0 (dC<|.str "over")<|A0 (dC<|.str "multiply") (A0 (dC<|.str "screen")<|A0 (dC<|.str "plus") (A0 (dC<|.str "atop")<|A0 (dC<|.str "cut") A3))))<|B0 (B6<|A0 (dC<|.str "manner") (A0 (dIx (A8 6) ⇑1)<|A0 (dIx (A8 6) ⇑2) (A0 (dIx (A8 11)<|A2 A9 (A0 (A1 0)<|A0 (A5 B1 (A1 1) ⇑3) (A0 ⇑6 A3))) A3)))) B8)
def u5:DS:=(sIf (tB2 eqD (A1 7) ⇑4) (B0<|B6 (A0 (dC<|.str "place")<|A0 (dIx (A8 6) ⇑1) (A0 (E3 (A1 6) (B7 ⇑5)<|B7 ⇑7)<|A0 (B6<|A0 (A5 ao2 (A2 A9<|A0 (A1 0) (A0 (A5 B1 (A1 1) ⇑3)<|A0 ⇑5 A3)) ⇑2) (A0 (A5 ao2 (A2 A9<|A0 (A1 0) (A0 (A5 B1 (A1 1) ⇑4)<|A0 ⇑5 A3)) ⇑2) A3)) A3))) B8)
def ab5:DS:=(ao7 (dIx (A8 6) ⇑8)<|S7 3 (C4 (B5 12)<|C4 (B5 13) (C4 (B5 14) U0)))
def ab4:DS:=(B4 15<|A2 A9 (A0 (A1 0)<|A0 (A5 B1 (A1 1) ⇑3) (A0 (A1 12) A3)))
def ab3:DS:=(B4 16<|A2 A9 (A0 (A1 0)<|A0 (A5 B1 (A1 1) ⇑4) (A0 (A1 13) A3)))
def ab1:DS:=(B0<|B6 (A0 (dC<|.str "spot")<|A0 (dIx (A8 6) ⇑1) (A0 (A1 15)<|A0 (A1 16) (A0 (dIx (A8 14)<|A5 B1 (A5 D5 (A1 16)<|A1 12) (A1 15))<|A0 (A2 Y3<|A0 (A1 0) (A0 (A5 B1 (A1 1) ⇑7) A3)) A3))))
def aa5:DS:=(A7 ay1<|A7 X7 (A7 X6<|A7 ae9 (A7 ae8<|A7 X5 (A7 Q7<|A7 X4 (A7 u6<|A7 u5 (A7 ab5<|A7 ab4 (A7 ab3 ab1)))))))
def n9:List D->Option D:=C0 aa5 17
def ah0:List D->Option Str:=cO8 (cv9 rNo (B4 2<|A2 (F8 12) (A0 (dIx (A8 0) ⇑2)<|A0 (A1 1) A3))<|cv9 (rIf (tB2 isB (A1 2)<|dC .none) (cw0 "NoName"<|cV5 Str.empty [dC (.str "no node has the name "),dRp (A1 1)]) rNo) (sIf (tB2 isB (A1 2)<|dC .none) E1 B8) rNo) 3
def Z1:DS:=(B0<|dOr (A2 U8<|A0 (A1 0) A3) (A2 o9<|A0 (A1 0) A3))
def M5:List D->Option D:=C0 Z1 1
def T0:DS:=(B0<|B6 (A0 (A2 M4<|A0 (A1 0) A3)<|A0 (A2 J7<|A0 (A1 0) A3) (A0 (A1 1)<|A0 (A2 L6<|A0 (A1 0) A3) A3)))
def T1:List D->Option D:=C0 T0 2
def Z0:DS:=(B0<|aI2 (G7<|A2 M5 (A0 (A1 0) A3)) (A2 (E6 12)<|A0 (B6<|A0 (A2 L6<|A0 (A1 0) A3) A3) A3) (S8 A3))
def P1:List D->Option D:=C0 Z0 1
def Y9:DS:=(B0<|A5 B1 (S8<|A0 (A2 J7<|A0 (A1 0) A3) A3) (A2 P1<|A0 (A1 0) A3))
def Z4:List D->Option D:=C0 Y9 1
def J3:DS:=(A7 (B4 2<|A2 Z4 (A0 (A1 1) A3))<|B0 (ck9<|qN (C5 1 [2] (M9<|A2 P1 (A0 (A1 0) A3)) (B5 0) F9<|A5 (inD false) (A1 0) (A1 1))))
def C3:List D->Option D:=C0 J3 3
def n6:DS:=(A7 (sIf (tB2 eqD (A2 M4<|A0 (A1 0) A3)<|A2 M4 (A0 (A1 1) A3)) (B0<|dC (.bool false)) B8)<|A7 (B4 2<|cl0 (A5 ao2 (A2 L4<|A0 (A1 0) A3)<|A2 L4 (A0 (A1 1) A3))) (B0<|dOr (A5 eqD (A1 2) ⇑0) (S9 (A5 eqD (A1 2) ⇑1)<|A2 U8 (A0 (A1 0) A3))))
def n8:List D->Option D:=C0 n6 3
def U6:DS:=(B0<|S9 (A2 M5<|A0 (A1 0) A3) (S9 (A2 M5<|A0 (A1 1) A3)<|A5 eqD (A2 J7<|A0 (A1 0) A3) (A2 J7<|A0 (A1 1) A3)))
def K3:List D->Option D:=C0 U6 2
def aW9:DS:=(A7 (sIf (M6 (G7<|A2 C3 (A0 (A1 0)<|A0 (A1 1) A3))<|G7 (A2 C3<|A0 (A1 1) (A0 (A1 0) A3))) (B0<|dC (.bool true)) B8)<|A7 (sIf (G7<|A2 K3 (A0 (A1 0)<|A0 (A1 1) A3)) (B0<|A2 n8 (A0 (A1 0)<|A0 (A1 1) A3)) B8) (B0<|A5 eqD (E3 (A1 0) C7<|B7 (aH8 ⇑2)) (E3 (A1 1) C7<|B7 (aH8 ⇑2))))
def aC7:List D->Option D:=C0 aW9 2
def M1:DS:=(A7 (B4 2<|A2 L4 (A0 (A1 0) A3))<|A7 (B4 3<|A2 L4 (A0 (A1 1) A3)) (A7 (sIf (p9 (G7<|A2 U8 (A0 (A1 1) A3))<|tB2 leI (A1 3) (A1 2)) (B0<|B6 (A0 (A1 1)<|A0 (A2 T1<|A0 (A1 0) (A0 (A5 B1 (A1 2) ⇑1) A3)) A3)) B8)<|A7 (sIf (p9 (G7<|A2 o9 (A0 (A1 1) A3))<|tB2 ltI (A1 3) (A1 2)) (B0<|B6 (A0 (A1 1)<|A0 (A2 T1<|A0 (A1 0) (A0 (A5 ao2 (A1 2) ⇑1) A3)) A3)) B8) (B0<|B6 (A0 (A2 T1<|A0 (A1 1) (A0 (aI2 (G7<|A2 U8 (A0 (A1 0) A3)) (A5 ao2 (A1 3) ⇑1)<|A5 B1 (A1 3) ⇑1) A3))<|A0 (A1 0) A3))))
def M3:List D->Option D:=C0 M1 4
def ah4:DS:=(A7 (sIf (G7<|A2 aC7 (A0 (A1 0)<|A0 (A1 1) A3)) (B0<|dC .none) B8)<|A7 (sIf (G7<|A2 K3 (A0 (A1 0)<|A0 (A1 1) A3)) (B0<|A2 M3 (A0 (A1 0)<|A0 (A1 1) A3)) B8) (B0<|B6 (A0 (A1 1)<|A0 (A1 0) A3)))
def R5:List D->Option D:=C0 ah4 2
end Sh
namespace Sh
open PySem G L2 Sh
inductive Rp (o o':List Nd):List Nd->List Nd->Prop
 | top:Rp o o' o o'
 | deep {c e:List Nd}{nm:D}{m:Man}{s:Rat}{sh:Bool}{ns ns':List Nd}:Rp o o' ns ns'->Rp o o' (c ++ .group nm m s sh ns::e) (c ++ .group nm m s sh ns'::e)
def u9(a b:List Nd):fY (a++b)↔fY a/\fY b:=by
 rw[R7,R7,R7];constructor
 .exact λh=>⟨λn hn=>h n<|af _ hn,λn hn=>h n<|ag _ hn⟩
 .intro h n hn;rcases ay.mp hn with q|q
  .exact h.1 n q
  .exact h.2 n q
mutual
theorem bY7:∀n:Nd,n.nms.length<=1000->n.thin
 | .layer ..,_=>by rw[gp];trivial
 | .tone ..,_=>by rw[gp];trivial
 | .group nm m s sh ns,h=>by
  rw[gj,aH]at h;rw[gp];have:=thins_of ns (by grind);exact⟨by grind,this.1⟩
theorem thins_of:∀l:List Nd,(gk l).length<=1000->gq l/\l.length<=(gk l).length
 | [],_=>by rw[gq,gk];exact⟨trivial,ak _⟩
 | n::r,h=>by
  rw[gk,ah]at h ⊢;rw[gq];have h1:=bY7 n (by grind);have h2:=thins_of r (by grind);have h3:1<=n.nms.length:=List.length_pos_iff.mpr (List.ne_nil_of_mem<|G5 n);exact⟨⟨h1,h2.1⟩,by rw[aH];grind⟩
end
def cd7{a b:List Nd}{n:Nd}{o':List Nd}(hn:G3 n.nm){l:List Nd}(h:Stands a n b l):∀f:Nat,2*gc l+2<=f->(∀d∈gk l,G3 d)->(gk l).Nodup->l.length<=1000->gq l->∃l',Rp (a++n::b) o' l l'/\G6 f [↥l,n.nm,↥o']=Z ↥l':=by
 induction h with
 | top =>
  intro f hf hs hd hl ht;obtain⟨f,rfl⟩:∃g,f=g+1:=⟨f - 1,by grind⟩;rw[B3,gk]at hd
  have e0:=aF0 (a:=a) (b:=b) (n:=n) (λn' hn'=>x0 hs n' (af _ hn')) hn (λn' hn' e=>by
   have d1:=(aD.mp hd).2.2
   exact d1 n'.nm (K7 hn' (G5 n')) n.nm (af _ (G5 n)) e)
  refine⟨_,.top,B2 (g:=K6<|al0 f) (ρ:=[‹↥(a++n::b)›,‹n.nm›,‹↥o'›]) rfl ?_⟩
  exists evD,K6,e0,cS0
 | @deep c e nm m s sh ns h ih =>
  intro f hf hs hd hl ht;obtain⟨f,rfl⟩:∃g,f=g+2:=⟨f - 2,by grind⟩;rw[F7,gc,gb]at hf;have hin:=h.nm n.nm (G5 n);rw[B3,gk,gj]at hd;have dc:=(aD.mp hd);have dg:=(aD.mp dc.2.1);have dn:=be.mp dg.1;have hc:n.nm∉gk c:=λz=>dc.2.2 n.nm z n.nm (by simp[hin]) rfl
  have hg:nm≠n.nm:=λz=>dn.1<|z ▸ hin
  have he:n.nm∉gk e:=λz=>dg.2.2 n.nm (by simp[hin]) n.nm z rfl
  have hsn:∀d∈gk ns,G3 d:=λd hd=>hs d (by rw[B3,gk,gj];simp[hd])
  have hth:=(P3 _).mp ht;have hgt:=hth (.group nm m s sh ns) (by simp);rw[gp]at hgt
  have e0:=ap5 (l:=c ++ .group nm m s sh ns::e) (x0 hs) hn (λn' hn' z=>by
   rcases ay.mp hn' with q|q
   .exact ae2 hc n' q z
   .rcases am.mp q with rfl|q
    .exact hg z
    .exact ae2 he n' q z)
  obtain⟨ns',sb,e1⟩:=ih f (by grind) hsn dn.2 hgt.1 hgt.2;refine⟨_,.deep sb,aE9 hl e0 (by simp) λj hj=>?_⟩
  have idn:∀n0∈c++e,J5 (f+1) [n0.d,n.nm,↥o']=Z n0.d:=λn0 h0=>by
   have hm:n0∈c ++ .group nm m s sh ns::e:=by
    rcases ay.mp h0 with q|q
    .exact af _ q
    .exact ag _ (xmm _ q)
   have hdp:n0.dp<=max (gc c) (gc e):=by
    rcases ay.mp h0 with q|q
    .have:=J0 q;grind
    .have:=J0 q;grind
   refine cz6 n.nm hn _ n0 (f+1) (by grind) (λd hd=>hs d<|K7 hm hd) (λz=>?_) (hth n0 hm);rcases ay.mp h0 with q|q
   .exact hc (K7 q z)
   .exact he (K7 q z)
  rcases Nat.lt_trichotomy j c.length with q|q|q
  .rw[dJ q,dJ q];exact idn _<|af _ (aT q)
  .subst q;simp only[cO (ak _),bY,List.getElem_cons_zero];exact au4 e1
  .obtain⟨i,rfl⟩:∃i,j=c.length+(i+1):=⟨j - c.length - 1,by grind⟩;have hi:i < e.length:=by simp at hj;grind
   rw[cO (by grind),cO (by grind)];simp only[Nat.add_sub_cancel_left,List.getElem_cons_succ];exact idn _<|ag _ (aT hi)
def aP2{w h:Nat}{a b l:List Nd}{n:Nd}(St:Stands a n b l)(hd:gc l<=3)(hs:∀d∈gk l,G3 d)(nd:(gk l).Nodup)(hN:(gk l).length<=1000):
  U7 [C6 w h l,n.nm]=Z ↥(a++n::b)/\ah0 [C6 w h l,n.nm]=O/\F6 [↥(a++n::b),n.nm]=Z (.int a.length) /\
  ∀o':List Nd,∃l',Rp (a++n::b) o' l l'/\S4 [C6 w h l,n.nm,↥o']=Z (C6 w h l'):=by
 have P:=St.props;obtain⟨t1,t2⟩:=thins_of l hN;have sab:∀d∈gk (a++n::b),G3 d:=λd hd=>hs d<|P.sub d hd
 have hn:G3 n.nm:=sab _ (K7 (by simp)<|G5 n);have nda:=P.nd nd;rw[B3,gk]at nda;have e0:=bY5 hn St 12 (by grind) hs nd;have e1:=aF0 (a:=a) (b:=b) (n:=n) (λn' hn'=>x0 sab n'<|af _ hn') hn (λn' hn' e=>(aD.mp nda).2.2 n'.nm (K7 hn'<|G5 n') n.nm (af _<|G5 n) e);refine⟨?_,?_,e1,λo'=>?_⟩
 .refine B2 (ρ:=[‹C6 w h l›,‹n.nm›,O]) rfl ?_
  exists evD,ah2,C6,e0,bj5
 .have st:ae3 3 [C6 w h l,n.nm]=[‹C6 w h l›,‹n.nm›,O]:=rfl;unfold ah0 cO8;rw[st]
  exists evD,C6,cv9,rIf,rNo,e0,bj5,Option.map_none
 .obtain⟨l',r,e2⟩:=cd7 (o':=o') hn St 12 (by grind) hs nd (by grind) t1;refine⟨l',r,?_⟩;refine B2 (ρ:=[‹C6 w h l›,‹n.nm›,‹↥o'›]) rfl ?_
  exists evD,f7,C6,e2
def P7{d:D}(h:Nm d):G3 d:=by
 obtain⟨s,e,o,_⟩:=h;exact⟨s,e,o⟩
def bV7(l:List Nd){i:Int}{k:Nat}(e:i=(k:Int)):R8 (fW l) O (Z i)=fW (l.take k)/\R8 (fW l) (Z i) O=fW (l.drop k):=by subst e;exact⟨bV4 l k,bV6 l k⟩
end Sh
namespace Sh
open PySem G L2
def aV3{xs ys:List D}(h:xs.length+ys.length<=16777216):B1 (.list xs) (.list ys)=Z (.list<|xs++ys):=if_pos h
def bL3(q:Q4):neB q q=false:=by
 cases h:neB q q with
 | false=>rfl
 | true=>exact absurd rfl<|bL4 h
mutual
def Nd.ws(nm:D) (oth:List Nd):Nd->Nd
 | .layer n m s sh lf tp mk w h l kb=>.layer n m s sh lf tp mk w h l kb
 | .tone n r s sh=>.tone n r s sh
 | .group n m s sh ns=>.group n m s sh<|Nd.wss nm oth ns
def Nd.wss(nm:D) (oth:List Nd):List Nd->List Nd
 | []=>[]
 | n::r=>if same n.nm nm=true then oth++Nd.wss nm oth r else n.ws nm oth::Nd.wss nm oth r
end
def cI6(a b:List Nd):fW (a++b)=fW a++fW b:=by rw[D3,D3,D3,bf]
def wsb(f:Nat):DS:=(sIf (tB2 eqD (dIx (A8 4) ⇑1)<|A1 1) (aR1 3<|A1 2)<|sIf (tB2 eqD (dIx (A8 4) ⇑0)<|dC (.str "group")) (x9 3<|A5 B1 (E3 (A1 4) C7<|B7 ⇑5) (B6<|A0 (A2 (O0 f)<|A0 (dIx (A8 4) ⇑5) (A0 (A1 1)<|A0 (A1 2) A3)) A3)) (x9 3<|A1 4))
end Sh
open Sh.Nd renaming wss→gu
namespace Sh
open PySem G L2 Sh
theorem aQ6{nm:D}(hn:G3 nm){oth:List Nd}(ho:oth.length<=1000)(f:Nat):∀(l:List Nd) (X:List D) (a0 a4:Option B),(∀n∈l,G3 n.nm)->X.length+1001*l.length<=2000000->(∀n∈l,∀nm' m s sh ns,n=.group nm' m s sh ns->O0 f [↥ns,nm,↥oth]=Z ↥(gu nm oth ns)) ->
  ∃a4',aa2 (B5 4) (wsb f) (fW l) [a0,‹nm›,‹↥oth›,Z (.own X),a4]=Z (.nx [a0,‹nm›,‹↥oth›,Z (.own<|X++fW (gu nm oth l)),a4'])
 | [],X,a0,a4,_,_,_=>⟨a4,by rw[gu,fW,br];rfl⟩
 | n::l,X,a0,a4,hs,hl,H=>by
  have hi:=cU9 (hs n<|ae ..) hn;rw[aH,Nat.mul_succ]at hl;have hx:X.length < 16777216:=by grind
  have lo:(fW oth).length<=1000:=by rw[D3,aj];exact ho
  have hx':X.length+(fW oth).length<=16777216:=by grind
  rw[fW,gu];have n1:∃ds:List D,n.d=.tuple ds/\atI ds 1=Z n.nm:=by cases n<;>exact⟨_,by rw[fV],rfl⟩
  cases q:same n.nm nm with
  | true =>
   rw[q]at hi;obtain⟨a4',e⟩:=aQ6 hn ho f l (X++fW oth) a0 (‹n.d›) (λx hx=>hs x<|xmm _ hx) (by rw[ah];grind) (λx hx=>H x<|xmm _ hx);refine⟨a4',?_⟩
   have b:wsb f [a0,‹nm›,‹↥oth›,Z (.own X),‹n.d›]=Z (.nx [a0,‹nm›,‹↥oth›,Z (.own<|X++fW oth),‹n.d›]):=by
    obtain⟨ds,ed,e1⟩:=n1;rw[ed]
    exists evD,wsb,e1,hi,aR1,if_pos hx'
   simp only[aa2,B5,xw0,xw1,xbs,b,if_true,cI6];rw[ax]at e;exact e
  | false =>
   rw[q]at hi;obtain⟨a4',e⟩:=aQ6 hn ho f l (X++[(n.ws nm oth).d]) a0 (‹n.d›) (λx hx=>hs x<|xmm _ hx) (by rw[ah];show X.length+1+_<=_;grind) (λx hx=>H x<|xmm _ hx);refine⟨a4',?_⟩
   have b:wsb f [a0,‹nm›,‹↥oth›,Z (.own X),‹n.d›]=Z (.nx [a0,‹nm›,‹↥oth›,Z (.own<|X++[(n.ws nm oth).d]),‹n.d›]):=by
    cases n with
    | layer=>rw[Nd.ws,fV];rw[gf]at hi;exists evD,wsb,aP3,az1,hi,bz5,x9,if_pos hx
    | tone=>rw[Nd.ws,fV];rw[gf]at hi;exists evD,wsb,cr6,be7,hi,e_tg,x9,if_pos hx
    | group nm' m s sh ns =>
     have e1:=H _ (ae ..) nm' m s sh ns rfl;have cut:∀a b c d e f:D,R8 [a,b,c,d,e,f] O (Z 5)=[a,b,c,d,e]:=λ_ _ _ _ _ _=>rfl
     have ct:∀a b c d e f:D,B1 (.tuple [a,b,c,d,e]) (.tuple [f])=Z (.tuple [a,b,c,d,e,f]):=λ_ _ _ _ _ _=>rfl
     rw[Nd.ws,fV,fV];rw[gf]at hi
     exists evD,wsb,bu2,aI7,be6,hi,bz6,x9,if_pos hx,E3,cut,e1,ct
   simp only[aa2,B5,xw0,xw1,xbs,b,xft,if_false,fW];rw[ax]at e;exact e
def ct2{nm:D}(hn:G3 nm){oth:List Nd}(ho:oth.length<=1000):∀(k:Nat) (l:List Nd) (f:Nat),gc l<=k->k+1<=f->l.length<=1000->gq l->(∀d∈gk l,G3 d)->O0 f [↥l,nm,↥oth]=Z ↥(gu nm oth l):=by
 have step:∀(l:List Nd) (f:Nat),l.length<=1000->(∀d∈gk l,G3 d)->(∀n∈l,∀nm' m s sh ns,n=.group nm' m s sh ns->O0 f [↥ns,nm,↥oth]=Z ↥(gu nm oth ns))->O0 (f+1) [↥l,nm,↥oth]=Z ↥(gu nm oth l):=λl f hl hs H=>by
  obtain⟨a4',e⟩:=aQ6 hn ho f l [] (‹↥l›) O (x0 hs) (by show 0+_<=_;grind) H;refine B2 (g:=bf4<|O0 f) (ρ:=[‹↥l›,‹nm›,‹↥oth›,O,O]) rfl ?_;have s1:(X8 (M9<|A1 0) (B5 4)<|wsb f) [‹↥l›,‹nm›,‹↥oth›,Z (.own []),O]=Z (.nx [‹↥l›,‹nm›,‹↥oth›,Z (.own<|[]++fW (gu nm oth l)),a4']):=e;exact(A6 (ρ':=[‹↥l›,‹nm›,‹↥oth›,Z (.own []),O]) rfl).trans ((A6 s1).trans rfl)
 intro k
 induction k with
 | zero =>
  intro l f hd hf hl ht hs;obtain⟨f,rfl⟩:∃g,f=g+1:=⟨f - 1,by grind⟩;refine step l f hl hs λn hn' nm' m s sh ns e=>?_
  have:=J0 hn';rw[e,gb]at this;grind
 | succ k ih =>
  intro l f hd hf hl ht hs;obtain⟨f,rfl⟩:∃g,f=g+1:=⟨f - 1,by grind⟩;refine step l f hl hs λn hn' nm' m s sh ns e=>?_
  have h1:=J0 hn';have h2:=(P3 l).mp ht n hn';rw[e,gb]at h1;rw[e,gp]at h2;exact ih ns f (by grind) (by grind) h2.1 h2.2 λd hd'=>hs d (K7 hn' (by rw[e,gj];exact xmm _ hd'))
mutual
theorem ct3{nm:D}{oth:List Nd}:∀n:Nd,nm∉n.nms->n.ws nm oth=n
 | .layer ..,_=>by rw[Nd.ws]
 | .tone ..,_=>by rw[Nd.ws]
 | .group nm' m s sh ns,h=>by
  rw[gj]at h;rw[Nd.ws,wt_id ns λz=>h (xmm _ z)]
theorem wt_id{nm:D}{oth:List Nd}:∀l:List Nd,nm∉gk l->gu nm oth l=l
 | [],_=>by rw[gu]
 | n::r,h=>by
  rw[gk]at h;have h1:nm∉n.nms:=λz=>h<|af _ z
  have ne:n.nm≠nm:=λz=>h1 (by rw[← z];exact G5 n)
  rw[gu,M7 ne,if_neg (by simp),ct3 n h1,wt_id r λz=>h (ag _ z)]
end
theorem bf9(nm:D)(oth:List Nd):∀a b:List Nd,gu nm oth (a++b)=gu nm oth a++gu nm oth b
 | [],b=>by rw[gu];rfl
 | n::a,b=>by
  rw[xca,gu,gu,bf9 nm oth a b];split
  .rw[ax]
  .rfl
def aL8{a b oth l l':List Nd}{n:Nd}(r:Rp (a++n::b) (a++oth++b) l l'):(gk l).Nodup->gu n.nm oth l=l':=by
 induction r with
 | top =>
  intro nd;rw[B3,gk]at nd;have d1:=aD.mp nd;have d2:=aD.mp d1.2.1;have ha:n.nm∉gk a:=λz=>d1.2.2 n.nm z n.nm (af _<|G5 n) rfl
  have hb:n.nm∉gk b:=λz=>d2.2.2 n.nm (G5 n) n.nm z rfl
  rw[bf9,wt_id a ha,gu,D4,if_pos rfl,wt_id b hb,ax]
 | @deep c e nm m s sh ns ns' r ih =>
  intro nd
  have hin:n.nm∈gk ns:=by
   have:∀{x y:List Nd},Rp (a++n::b) (a++oth++b) x y->n.nm∈gk x:=λr=>by
    induction r with
    | top=>rw[B3,gk];exact ag _<|af _ (G5 n)
    | deep _ ih=>rw[B3,gk,gj];exact ag _<|af _ (xmm _ ih)
   exact this r
  rw[B3,gk,gj]at nd;have dc:=aD.mp nd;have dg:=aD.mp dc.2.1;have dn:=be.mp dg.1;have hc:n.nm∉gk c:=λz=>dc.2.2 n.nm z n.nm (by simp[hin]) rfl
  have hg:nm≠n.nm:=λz=>dn.1<|z ▸ hin
  have he:n.nm∉gk e:=λz=>dg.2.2 n.nm (by simp[hin]) n.nm z rfl
  rw[bf9,wt_id c hc,gu,show(Nd.group nm m s sh ns).nm=nm by rw[gf],M7 hg,if_neg (by simp),Nd.ws,ih dn.2,wt_id e he]
def Rp.two{o o' l l':List Nd}(r:Rp o o' l l')(o1:List Nd):∃l1,Rp o o1 l l1/\Rp o1 o' l1 l':=by
 induction r with
 | top=>exact⟨o1,.top,.top⟩
 | deep _ ih =>
  obtain⟨l1,r1,r2⟩:=ih;exact⟨_,.deep r1,.deep r2⟩
mutual
def Nd.al:Nd->List Nd
 | .layer nm m s sh lf tp mk w h l kb=>[.layer nm m s sh lf tp mk w h l kb]
 | .tone nm r s sh=>[.tone nm r s sh]
 | .group nm m s sh ns=>.group nm m s sh ns::Nd.als ns
def Nd.als:List Nd->List Nd
 | []=>[]
 | n::r=>Nd.al n++Nd.als r
end
mutual
theorem aW4:∀n:Nd,(Nd.al n).map gf=n.nms
 | .layer ..=>by rw[Nd.al,gj];rfl
 | .tone ..=>by rw[Nd.al,gj];rfl
 | .group nm m s sh ns=>by rw[Nd.al,gj,xmc,als_nms ns];rfl
theorem als_nms:∀l:List Nd,(Nd.als l).map gf=gk l
 | []=>by rw[Nd.als,gk];rfl
 | n::r=>by rw[Nd.als,gk,bf,aW4 n,als_nms r]
end
def ai5(a b:List Nd):Nd.als (a++b)=Nd.als a++Nd.als b:=by
 induction a with
 | nil=>rw[Nd.als];rfl
 | cons n a ih=>rw[xca,Nd.als,Nd.als,ih,ax]
theorem bu7(f:Nat):∀(l:List Nd) (X:List D) (a0 a2:Option B),X.length+(Nd.als l).length<=900->(∀n∈l,∀nm' m s sh ns,n=.group nm' m s sh ns->K2 f [↥ns]=Z (.list<|(Nd.als ns).map fV)) ->
  ∃a2',aa2 (B5 2) (alb f) (fW l) [a0,Z (.own X),a2]=Z (.nx [a0,Z (.own<|X++(Nd.als l).map fV),a2'])
 | [],X,a0,a2,_,_=>⟨a2,by rw[Nd.als,fW,xmn,br];rfl⟩
 | n::l,X,a0,a2,hl,H=>by
  rw[Nd.als,ah]at hl;obtain⟨a2',e⟩:=bu7 f l (X++(Nd.al n).map fV) a0 (‹n.d›) (by rw[ah,aj];grind) (λx hx=>H x<|xmm _ hx);refine⟨a2',?_⟩
  have b:alb f [a0,Z (.own X),‹n.d›]=Z (.nx [a0,Z (.own<|X++(Nd.al n).map fV),‹n.d›]):=by
   cases n with
   | layer=>rw[Nd.al]at hl ⊢;exact bf0 f rfl a0 X (by simp at hl;grind)
   | tone=>rw[Nd.al]at hl ⊢;exact bf0 f rfl a0 X (by simp at hl;grind)
   | group nm' m s sh ns =>
    rw[Nd.al,aH]at hl;have:=bD5 (nm:=nm') (m:=m) (s:=s) (sh:=sh) f a0 X ((Nd.als ns).map fV) (by grind) (by rw[aj];grind) (H _ (ae ..) nm' m s sh ns rfl);rw[this,Nd.al,xmc,ax];rfl
  rw[fW,Nd.als,bf,← ax];simp only[aa2,B5,xw0,xw1,xbs,b];exact e
def cl9{n:Nd}{l:List Nd}(h:n∈l):(Nd.al n).length<=(Nd.als l).length:=by
 obtain⟨a,b,rfl⟩:=cD h;rw[ai5,Nd.als,ah,ah];grind
def aW2:∀(k:Nat) (l:List Nd) (f:Nat),gc l<=k->k+1<=f->(Nd.als l).length<=900->K2 f [↥l]=Z (.list<|(Nd.als l).map fV):=by
 have step:∀(l:List Nd) (f:Nat),(Nd.als l).length<=900->(∀n∈l,∀nm' m s sh ns,n=.group nm' m s sh ns->K2 f [↥ns]=Z (.list<|(Nd.als ns).map fV))->K2 (f+1) [↥l]=Z (.list<|(Nd.als l).map fV):=λl f hl H=>by
  obtain⟨a2',e⟩:=bu7 f l [] (‹↥l›) O (by show 0+_<=_;grind) H;refine B2 (g:=bu9<|K2 f) (ρ:=[‹↥l›,O,O]) rfl ?_;have s1:(X8 (M9<|A1 0) (B5 2)<|alb f) [‹↥l›,Z (.own []),O]=Z (.nx [‹↥l›,Z (.own<|[]++(Nd.als l).map fV),a2']):=e;exact(A6 (ρ':=[‹↥l›,Z (.own []),O]) rfl).trans ((A6 s1).trans rfl)
 intro k
 induction k with
 | zero =>
  intro l f hd hf hl;obtain⟨f,rfl⟩:∃g,f=g+1:=⟨f - 1,by grind⟩;refine step l f hl λn hn' nm' m s sh ns e=>?_
  have:=J0 hn';rw[e,gb]at this;grind
 | succ k ih =>
  intro l f hd hf hl;obtain⟨f,rfl⟩:∃g,f=g+1:=⟨f - 1,by grind⟩;refine step l f hl λn hn' nm' m s sh ns e=>?_
  have h1:=J0 hn';have h2:=cl9 hn';rw[e,gb]at h1;rw[e,Nd.al,aH]at h2;exact ih ns f (by grind) (by grind) (by grind)
def co6(n:Nd)(r:Rho):dIx (A8 0) ⇑1 (‹n.d›::r)=Z n.nm:=by cases n<;>(rw[fV];rfl)
def Rp.dps{o o' l l':List Nd}(r:Rp o o' l l')(h:gc o'<=gc o):gc l'<=gc l:=by
 induction r with
 | top=>exact h
 | deep _ ih=>rw[F7,F7,gc,gc,gb,gb];grind
structure Wl (l:List Nd):Prop where
 dp:gc l<=3
 hs:∀d∈gk l,G3 d
 nd:(gk l).Nodup
 nl:(gk l).length<=1000
def Wl.wt{l:List Nd}(g:Wl l){nm:D}(hn:G3 nm){oth:List Nd}(ho:oth.length<=1000):O0 12 [↥l,nm,↥oth]=Z ↥(gu nm oth l):=by
 have t:=thins_of l g.nl;have:=g.nl;exact ct2 hn ho 3 l 12 g.dp (by decide) (by grind) t.1 g.hs
theorem aU4{k:Nat}:∀l:List Nd,(∀n∈l,n.dp<=k)->gc l<=k
 | [],_=>by rw[gc];exact aO _
 | n::l,h=>by rw[gc];exact Nat.max_le.mpr ⟨h n (ae ..),aU4 l λm hm=>h m<|xmm _ hm⟩
def bs6{l' l:List Nd}(h:∀n∈l',n.dp=0\/n∈l):gc l'<=gc l:=aU4 l' λn hn=>by
 rcases h n hn with e|e
 .rw[e];exact aO _
 .exact J0 e
def aS8{d:D}(h:G3 d)(n:Nat):Ly n d:=by
 obtain⟨s,rfl,o⟩:=h;exact⟨o.ok,aO _⟩
def ba5(r:Rat):Ly 1 (fr r):=Ly.tup λx hx=>by
 simp only[am,aC,or_false]at hx;rcases hx with rfl|rfl<;>exact Ly.int _ _
def bi7(m:Man)(n:Nat):Ly n (.str m.s):=⟨by cases m<;>decide +kernel,aO _⟩
def cB4{nm:D}{m:Man}{s:Rat}{sh:Bool}{lf tp:Int}{mk:Option (List Rat)}{w h:Nat}{l:List Q4}{kb:Nat}(hn:G3 nm):Ly 5 (fV<|.layer nm m s sh lf tp mk w h l kb):=by
 rw[fV];refine Ly.tup λx hx=>?_
 simp only[am,aC,or_false]at hx;rcases hx with rfl|rfl|rfl|rfl|rfl|rfl|rfl|rfl|rfl
 .exact⟨by decide +kernel,aO _⟩
 .exact aS8 hn _
 .exact bi7 m _
 .exact(ba5 s).mono (by decide)
 .exact⟨rfl,aO _⟩
 .exact Ly.int _ _
 .exact Ly.int _ _
 .cases mk with
  | none=>exact⟨rfl,aO _⟩
  | some ms =>
   refine Ly.mono (m:=2) (Ly.tup λx hx=>?_) (by decide);obtain⟨r,_,rfl⟩:=aM.mp hx;exact ba5 r
 .exact Ly.sheet w h l
def cB2(r:Rul)(n:Nat):Ly n (.str r.s):=⟨by cases r<;>decide +kernel,aO _⟩
mutual
theorem ay5:∀n:Nd,(∀d∈n.nms,G3 d)->Ly (5+2*n.dp) n.d
 | .layer nm m s sh lf tp mk w h l kb,hs=>(cB4<|hs nm (by rw[gj];simp)).mono (by grind)
 | .tone nm r s sh,hs=>by
  rw[fV,gb];refine Ly.tup λx hx=>?_
  simp only[am,aC,or_false]at hx;rcases hx with rfl|rfl|rfl|rfl|rfl
  .exact⟨by decide +kernel,aO _⟩
  .exact aS8 (hs _ (by rw[gj];simp)) _
  .exact cB2 r _
  .exact(ba5 s).mono (by decide)
  .exact⟨rfl,aO _⟩
 | .group nm m s sh ns,hs=>by
  rw[gj]at hs;have i:=ly_nds ns λd hd=>hs d<|xmm _ hd
  rw[fV,gb];refine Ly.mono (m:=6+2*gc ns+1) (Ly.tup λx hx=>?_) (by grind);simp only[am,aC,or_false]at hx;rcases hx with rfl|rfl|rfl|rfl|rfl|rfl
  .exact⟨by decide +kernel,aO _⟩
  .exact aS8 (hs _<|ae ..) _
  .exact bi7 m _
  .exact(ba5 s).mono (by grind)
  .exact⟨rfl,aO _⟩
  .exact⟨i.1,by show PyData.depthAll (fW ns)+1<=_;grind⟩
theorem ly_nds:∀l:List Nd,(∀d∈gk l,G3 d)->PyData.canLayAll0 (fW l)=true/\PyData.depthAll (fW l)<=5+2*gc l
 | [],_=>by rw[fW];exact⟨rfl,aO _⟩
 | n::r,hs=>by
  rw[gk]at hs;obtain⟨i1,i2⟩:=ay5 n λd hd=>hs d<|af _ hd
  obtain⟨j1,j2⟩:=ly_nds r λd hd=>hs d<|ag _ hd
  rw[fW,gc];refine⟨?_,?_⟩
  .show(fN n.d&&PyData.canLayAll0 (fW r))=true;rw[i1,j1];rfl
  .show max (PyData.depth n.d) (PyData.depthAll<|fW r)<=_
   grind
end
def cB3{w h:Nat}{l:List Nd}(hs:∀d∈gk l,G3 d):Ly (7+2*gc l) (C6 w h l):=by
 have i:=ly_nds l hs;unfold C6;refine Ly.mono (m:=6+2*gc l+1) (Ly.tup λx hx=>?_) (by grind);simp only[am,aC,or_false]at hx;rcases hx with rfl|rfl|rfl
 .exact Ly.int _ _
 .exact Ly.int _ _
 .exact⟨i.1,by show PyData.depthAll (fW l)+1<=_;grind⟩
mutual
theorem bx5:∀n:Nd,n.near->n.thin->n.off
 | .layer ..,o,_=>by rw[gh]at o;rw[Nd.off];grind
 | .tone ..,_,_=>by rw[Nd.off];trivial
 | .group nm m s sh ns,o,t=>by
  rw[gh]at o;rw[gp]at t;rw[Nd.off];exact⟨t.1,nears_off' ns o t.2⟩
theorem nears_off':∀l:List Nd,gi l->gq l->Nd.offs l
 | [],_,_=>by rw[Nd.offs];trivial
 | n::r,o,t=>by
  rw[gi]at o;rw[gq]at t;rw[Nd.offs];exact⟨bx5 n o.1 t.1,nears_off' r o.2 t.2⟩
end
def bg9{a b l:List Nd}{n:Nd}(h:Stands a n b l):n∈Nd.als l:=by
 induction h with
 | top =>
  rw[ai5,Nd.als];refine ag _ (af _ ?_);cases n<;>(rw[Nd.al];simp)
 | deep _ ih =>
  rw[ai5,Nd.als,Nd.al];exact ag _<|af _ (xmm _ ih)
theorem aS4{n m:Nd}(e:n.nm=m.nm):∀{L:List Nd},(L.map gf).Nodup->n∈L->m∈L->n=m
 | [],_,h,_=>absurd h (by simp)
 | x::L,nd,hn,hm=>by
  rw[xmc]at nd;obtain⟨h1,h2⟩:=be.mp nd;rcases am.mp hn with h3|h3<;>rcases am.mp hm with h4|h4
  .exact h3.trans h4.symm
  .exact absurd (aM.mpr ⟨m,h4,by rw[← e,h3]⟩) h1
  .exact absurd (aM.mpr ⟨n,h3,by rw[e,h4]⟩) h1
  .exact aS4 e h2 h3 h4
def W5{l:List Nd}{n:Nd}(nd:(gk l).Nodup)(h:n∈Nd.als l):∃a b,Stands a n b l:=by
 have hn:n.nm∈gk l:=by rw[← als_nms];exact aM.mpr ⟨n,h,rfl⟩
 obtain⟨a,m,b,St,e⟩:=nms_stands [] l n.nm hn;rw[xna]at St;have:m=n:=aS4 e (by rw[als_nms];exact nd) (bg9 St) h;subst this;exact⟨a,b,St⟩
end Sh
open Sh.Nd renaming al→gw,als→gx
namespace Sh
open PySem G L2
mutual
def wt:D->Nat
 | .tuple xs=>1+wts xs
 | .list xs=>1+wts xs
 | _=>1
def wts:List D->Nat
 | []=>0
 | x::xs=>wt x+wts xs
end
def bV5{xs:List D}{i:Nat}(h:i < xs.length):R8 xs (Z<|(i:Int)+1) O=xs.drop (i+1):=by
 have e:((i:Int)+1)=((i+1:Nat):Int):=by grind
 rw[e];unfold R8;rw[HT.sIx_none,HT.sIx_nat,bJ h];exact bx (by rw[aS];exact ak _)
inductive De where
 | str (nm:D) (o n:Rat)
 | shw (nm:D) (o n:Bool)
 | man (nm:D) (o n:Man)
 | plc (nm:D) (a b c d:Int)
 | spt (nm:D) (x y:Nat) (o n:Q4)
 | put (pa:D) (k:Nat) (x:Nd)
 | out (pa:D) (k:Nat) (x:Nd)
def De.d:De->D
 | .str nm o n=>.tuple [.str "strength", nm,fr o,fr n]
 | .shw nm o n=>.tuple [.str "shown", nm,.bool o,.bool n]
 | .man nm o n=>.tuple [.str "manner", nm,.str o.s,.str n.s]
 | .plc nm a b c d=>.tuple [.str "place", nm,.tuple [.int a,.int b],.tuple [.int c,.int d]]
 | .spt nm x y o n=>.tuple [.str "spot", nm,.int x,.int y,o.d,n.d]
 | .put pa k x=>.tuple [.str "put", pa,.int k,x.d]
 | .out pa k x=>.tuple [.str "out", pa,.int k,x.d]
def De.nm:De->D
 | .str nm ..=>nm
 | .shw nm ..=>nm
 | .man nm ..=>nm
 | .plc nm ..=>nm
 | .spt nm ..=>nm
 | .put pa ..=>pa
 | .out pa ..=>pa
def De.isV:De->Bool
 | .put ..=>false
 | .out ..=>false
 | _=>true
def De.on:De->Nd->Option Nd
 | .str _ o n,.layer nm m s sh lf tp mk w h l kb=>if s=o then Z (.layer nm m n sh lf tp mk w h l kb) else O
 | .str _ o n,.tone nm r s sh=>if s=o then Z (.tone nm r n sh) else O
 | .str _ o n,.group nm m s sh ns=>if s=o then Z (.group nm m n sh ns) else O
 | .shw _ o n,.layer nm m s sh lf tp mk w h l kb=>if sh=o then Z (.layer nm m s n lf tp mk w h l kb) else O
 | .shw _ o n,.tone nm r s sh=>if sh=o then Z (.tone nm r s n) else O
 | .shw _ o n,.group nm m s sh ns=>if sh=o then Z (.group nm m s n ns) else O
 | .man _ o n,.layer nm m s sh lf tp mk w h l kb=>if m.s=o.s then Z (.layer nm n s sh lf tp mk w h l kb) else O
 | .man _ o n,.group nm m s sh ns=>if m.s=o.s then Z (.group nm n s sh ns) else O
 | .plc _ a b c d,.layer nm m s sh lf tp mk w h l kb=>if lf=a/\tp=b then Z (.layer nm m s sh c d mk w h l kb) else O
 | .spt _ x y o n,.layer nm m s sh lf tp mk w h l kb=>if x < w/\y < h/\neB (l.getD (y*w+x) q0) o=false then Z (.layer nm m s sh lf tp mk w h (l.set (y*w+x) n) 32) else O
 | _,_=>O
def aA1:Option Nd->D
 | none=>.none
 | some n=>n.d
def aV4{a b:List D}(h:a.length+b.length<=1000):B1 (.tuple a) (.tuple b)=Z (.tuple<|a++b):=by
 show(if a.length+b.length<=16777216 then _ else O)=_;rw[if_pos (by grind)]
def af8{x y:D}{b:Bool}(h:eqD x y=Z (.bool b)):neD x y=Z (.bool (!b)):=by
 unfold eqD at h;unfold neD;split at h
 .rename_i c;rw[if_pos c];simp only[bq.injEq,PyData.bool.injEq]at h;rw[h]
 .cases h
def au7(r s:Rat):neD (fr r) (fr s)=Z (.bool (!decide (r=s))):=af8<|bS9 r s
def au8(a b:Bool):neD (.bool a) (.bool b)=Z (.bool (!decide (a=b))):=by cases a<;>cases b<;>rfl
def bM1(m:Man):fN (.str m.s)=true:=by cases m<;>decide +kernel
def bp9(m o:Man):neD (.str m.s) (.str o.s)=Z (.bool (!decide (m.s=o.s))):=by
 refine ce2 (bM1 m) (bM1 o) ?_;by_cases e:m.s=o.s
 .rw[e];simp
 .simp[e]
def bL2(a b c d:Int):neD (.tuple [.int a,.int b]) (.tuple [.int c,.int d])=Z (.bool (!decide (a=c/\b=d))):=by
 unfold neD;rw[if_pos ⟨rfl,rfl⟩];by_cases h1:a=c<;>by_cases h2:b=d<;>simp[fJ,PyData.eqvAll,h1,h2]
def ct5{x y:Str}(hx:fN (.str x)=true)(hy:fN (.str y)=true)(h:(x==y)=false):eqD (.str x) (.str y)=Z (.bool false):=K1 hx hy h
def ct5z{x y:Str}(hx:fN (.str x)=true:=by decide +kernel)(hy:fN (.str y)=true:=by decide +kernel)(h:(x==y)=false:=by decide +kernel):eqD (.str x) (.str y)=Z (.bool false):=ct5 hx hy h
def ct6{x:Str}(hx:fN (.str x)=true):eqD (.str x) (.str x)=Z (.bool true):=K1 hx hx (by simp)
abbrev kT:List (D×D):=mgD [("manner", .int 2),("strength", .int 3),("shown", .int 4)]
def k_s:(U9 kT "strength").getD (.int 5)=.int 3:=by kernel_rfl
def k_p:(U9 kT "place").getD (.int 5)=.int 5:=by kernel_rfl
def k_t:(U9 kT "spot").getD (.int 5)=.int 5:=by kernel_rfl
abbrev c12(a b:D)(i:Option B):Rho:=[‹a›,‹b›,i,O,O,O,O,O,O,O,O,O]
def bW1{a:D}{w:Str}{xs:List D}{i:D}(hk:(U9 kT w).getD (.int 5)=i):m8 (c12 a (.tuple (.str w::xs)) O)=Z (.nx<|c12 a (.tuple (.str w::xs)) (‹i›)):=by
 have h0:atI (.str w::xs) 0=Z (.str w):=P8 (j:=0) rfl
 exists evD,m8,c12,bt5,h0,hk
def cr7(a b c d:D):L2.atI [a,b,c,d] 0=Z a:=rfl
def bu3(a b c d:D):L2.atI [a,b,c,d] 2=Z c:=rfl
def cW6(a b c d:D):L2.atI [a,b,c,d] 3=Z d:=rfl
def ao8{a b d:D}(h:v7 (c12 a b O)=Z (.rt d)):U1 [a,b]=Z d:=B2 (g:=v7) (n:=12) (ρ:=c12 a b O) rfl h
def aB8(p:Prop)[Decidable p](a b:D):(if(!decide p)=true then a else b)=if p then b else a:=by by_cases h:p<;>simp[h]
def S5(p:Prop)[Decidable p](n:Nd):aA1 (if p then Z n else O)=if p then n.d else .none:=by by_cases h:p<;>simp[h,aA1]
def dc2:eqD (.str "place") (.str "place")=Z (.bool true):=ct6 (by decide +kernel)
def ck0:eqD (.str "spot") (.str "place")=Z (.bool false):=ct5z
def da7:neD (.str "layer") (.str "layer")=Z (.bool false):=af8 cV1
def cr1(a b:D):N6 (c12 a b<|‹.int 5›)=Z (.nx<|c12 a b (‹.int 5›)):=by
 have q:decide ((5:Int) < 5)=false:=by decide
 exists evD,N6,c12,q
def cr0(xs:List D)(b:D)(i:Option B):m7 (c12 (.tuple (.str "layer" :: xs)) b i)=Z (.nx<|c12 (.tuple (.str "layer" :: xs)) b i):=by
 have h0:atI (.str "layer" :: xs) 0=Z (.str "layer"):=P8 (j:=0) rfl
 exists evD,m7,c12,h0,da7
def cV8(a:D)(xs:List D)(i:Option B):U3 (c12 a (.tuple (.str "spot" :: xs)) i)=Z (.nx<|c12 a (.tuple (.str "spot" :: xs)) i):=by
 have h0:atI (.str "spot" :: xs) 0=Z (.str "spot"):=P8 (j:=0) rfl
 exists evD,U3,c12,h0,ck0
def aI3{xs:List D}{i:Nat}(h:i<=xs.length):R8 xs O (Z (i:Int))=xs.take i/\R8 xs (Z (i:Int)) O=xs.drop i:=by
 unfold R8 HT.sIx;simp only;constructor
 .rw[if_neg (by grind)];simp only[bu,List.drop_zero,Nat.sub_zero];rw[bJ h]
 .rw[if_neg (by grind)];simp only[bu];rw[bJ h,bx (by rw[aS];grind)]
def bW0{nm':D}{m:Man}{s:Rat}{sh:Bool}{lf tp:Int}{mk:Option (List Rat)}{w h kb:Nat}{l:List Q4}(S:ShOk kb w h l)(nm:D)(x y:Nat)(o n:Q4)(hx:x<=1000)(hy:y<=1000):
  U1 [fV (.layer nm' m s sh lf tp mk w h l kb),(De.spt nm x y o n).d]=Z (aA1<|(De.spt nm x y o n).on (.layer nm' m s sh lf tp mk w h l kb)):=by
 rw[fV,De.d,De.on,S5,fV];refine ao8 ?_;have l6:∀a b c d e f:D,([a,b,c,d,e,f]:List D).length=6:=λ_ _ _ _ _ _=>rfl
 have l3:∀a b c:D,([a,b,c]:List D).length=3:=λ_ _ _=>rfl
 unfold v7;rw[A6 (bW1 k_t),A6 (cr1 _ _),A6 (cr0 _ _ _),A6 (cV8 _ _ _)];refine(A6 (by exists evD,af2,c12,l6;rfl)).trans ?_;refine(A6 (by exists evD,af1,cr3,shD,l3;rfl)).trans ?_
 have ge:∀a b:Nat,geI (.int a) (.int b)=Z (.bool<|decide (b<=a)):=λa b=>by
  show Z (fL<|decide ((b:Int)<=a))=_;rw[decide_eq_decide.mpr (Int.ofNat_le)]
 have em:D5 (.int y) (.int w)=Z (.int ((y*w:Nat):Int)):=N8 (by have:=S.w8;grind) (by have:=S.w8;grind);have ei:((y*w:Nat):Int)+(x:Int)=((y*w+x:Nat):Int):=by grind
 by_cases c1:x < w
 .by_cases c2:y < h
  .have bw:y*w+x < l.length:=by
    rw[S.len];have:(y+1)*w<=h*w:=cL _ (by grind);rw[dt]at this;rw[bZ w h];grind
   have ea:atI (l.map fU) ((y*w+x:Nat):Int)=Z (l.getD (y*w+x) q0).d:=P8 (by rw[aI,av bw,aZ,av bw];rfl);have nb:=bi5 (l.getD (y*w+x) q0) o;have d1:decide (w<=x)=false:=decide_eq_false (by grind);have d2:decide (h<=y)=false:=decide_eq_false (by grind);cases q:neB (l.getD (y*w+x) q0) o with
   | true =>
    rw[q]at nb;rw[if_neg (by rintro⟨_,_,z⟩;cases z)];exact D9 (by exists evD,Q8,ge,d1,d2,em,ei,ea,nb)
   | false =>
    rw[q]at nb;rw[if_pos ⟨c1,c2,rfl⟩];refine(A6 (by exists evD,Q8,ge,d1,d2,em,ei,ea,nb;rfl)).trans ?_;have hl:(l.map fU).length=w*h:=by rw[aj,S.len]
    have wh:w*h<=64:=bU S.w8 S.h8;have bl:y*w+x < (l.map fU).length:=by rw[aj];exact bw
    have c3:=(aI3<|cy bl).1;have c4:=(aI3<|Nat.succ_le_of_lt bl).2;have i1:((y*w+x:Nat):Int)+1=((y*w+x+1:Nat):Int):=by grind
    have k1:=aV4 (a:=(l.map fU).take<|y*w+x) (b:=[n.d]) (by rw[aA,aN];grind);have k2:=aV4 (a:=(l.map fU).take (y*w+x)++[n.d]) (b:=(l.map fU).drop<|y*w+x+1) (by rw[ah,aA,aN,aS];grind);have st:(l.map fU).take (y*w+x)++[n.d]++(l.map fU).drop (y*w+x+1)=(l.set (y*w+x) n).map fU:=by rw[cU,if_pos bw,bf,cq,xmc,ck,ax];rfl
    rw[st]at k2;refine(A6 (by exists evD,af0,E3,em,ei,i1,c3,c4,k1,k2;rfl)).trans ?_
    kernel_rfl
  .have d1:decide (w<=x)=false:=decide_eq_false (by grind);have d2:decide (h<=y)=true:=decide_eq_true (by grind);rw[if_neg (by rintro⟨_,z,_⟩;exact c2 z)];exact D9 (by exists evD,Q8,ge,d1,d2)
 .have d1:decide (w<=x)=true:=decide_eq_true (by grind);rw[if_neg (by rintro⟨z,_,_⟩;exact c1 z)];exact D9 (by exists evD,Q8,ge,d1)
def De.sz:De->Prop
 | .spt _ x y _ _=>x<=1000/\y<=1000
 | _=>True
def cl3(e:De)(n:Nd)(hv:e.isV=true)(ok:n.Ok)(hz:e.sz):U1 [n.d,e.d]=Z (aA1<|e.on n):=by
 cases e with
 | put=>cases hv
 | out=>cases hv
 | str nm o v =>
  cases n with
  | layer nm' m s sh lf tp mk w h l kb =>
   have nb:=au7 s o;rw[De.d,De.on,S5,← aB8,fV,fV];refine ao8 ((A6<|bW1 k_s).trans<|D9 ?_);generalize (!decide (s=o))=b at nb ⊢
   exists evD,N6,c12,cr4,bu3,nb
   cases b<;>kernel_rfl
  | tone nm' r s sh =>
   have nb:=au7 s o;rw[De.d,De.on,S5,← aB8,fV,fV];refine ao8 ((A6<|bW1 k_s).trans<|D9 ?_);generalize (!decide (s=o))=b at nb ⊢
   exists evD,N6,c12,cW5,bu3,nb
   cases b<;>kernel_rfl
  | group nm' m s sh ns =>
   have nb:=au7 s o;rw[De.d,De.on,S5,← aB8,fV,fV];refine ao8 ((A6<|bW1 k_s).trans<|D9 ?_);generalize (!decide (s=o))=b at nb ⊢
   exists evD,N6,c12,cr5,bu3,nb
   cases b<;>kernel_rfl
 | shw nm o v =>
  cases n with
  | layer nm' m s sh lf tp mk w h l kb =>rw[De.d,De.on,S5,fV,fV];cases o<;>cases sh<;>kernel_rfl
  | tone nm' r s sh =>rw[De.d,De.on,S5,fV,fV];cases o<;>cases sh<;>kernel_rfl
  | group nm' m s sh ns =>rw[De.d,De.on,S5,fV,fV];cases o<;>cases sh<;>kernel_rfl
 | man nm o v =>
  cases n with
  | layer nm' m s sh lf tp mk w h l kb =>rw[De.d,De.on,S5,fV,fV];cases o<;>cases m<;>kernel_rfl
  | tone nm' r s sh =>
   rw[show De.on (.man nm o v) (.tone nm' r s sh)=O from rfl,De.d,aA1,fV];cases r<;>cases o<;>kernel_rfl
  | group nm' m s sh ns =>rw[De.d,De.on,S5,fV,fV];cases o<;>cases m<;>kernel_rfl
 | plc nm a b c d =>
  cases n with
  | layer nm' m s sh lf tp mk w h l kb =>
   have nb:=bL2 lf tp a b;rw[De.d,De.on,S5,← aB8,fV,fV];have c1:R8 [.str "layer", nm',.str m.s,fr s,.bool sh,.int lf,.int tp,mkD mk,shD w h l] (Z 5) (Z 7)=[.int lf,.int tp]:=rfl;refine ao8 ((A6<|bW1 k_p).trans<|(A6<|cr1 _ _).trans ((A6<|cr0 _ _ _).trans<|D9 ?_));generalize (!decide (lf=a/\tp=b))=z at nb ⊢
   exists evD,U3,c12,E3,cr7,bu3,dc2,c1,nb
   cases z<;>kernel_rfl
  | tone nm' r s sh=>rw[show De.on (.plc nm a b c d) (.tone nm' r s sh)=O from rfl,De.d,aA1,fV];kernel_rfl
  | group nm' m s sh ns=>rw[show De.on (.plc nm a b c d) (.group nm' m s sh ns)=O from rfl,De.d,aA1,fV];kernel_rfl
 | spt nm x y o v =>
  cases n with
  | layer nm' m s sh lf tp mk w h l kb =>
   rw[fX]at ok;exact bW0 ok.2.1 nm x y o v hz.1 hz.2
  | tone nm' r s sh=>rw[show De.on (.spt nm x y o v) (.tone nm' r s sh)=O from rfl,De.d,aA1,fV];kernel_rfl
  | group nm' m s sh ns=>rw[show De.on (.spt nm x y o v) (.group nm' m s sh ns)=O from rfl,De.d,aA1,fV];kernel_rfl
def De.ls:De->List Nd->Option (List Nd)
 | .put _ k x,ns=>if k<=ns.length then Z (ns.take k++x::ns.drop k) else O
 | .out _ k x,ns=>if(ns[k]?).any (λy=>fJ y.d x.d)=true then Z (ns.take k++ns.drop (k+1)) else O
 | _,_=>O
def fnd(l:List Nd)(nm:D):Option Nd:=(gx l).find? λn=>same n.nm nm
def grp(e:De):Nd->Option Nd
 | .group nm m s sh ns=>(e.ls ns).map λns'=>.group nm m s sh ns'
 | _=>O
def De.pre(e:De)(l:List Nd):Option (List Nd) :=
 if same e.nm (.str "")=true then e.ls l else(fnd l e.nm).bind λn=>(grp e n).map λn'=>gu e.nm [n'] l
def R0(l:List Nd):De->Bool
 | .put _ _ x=>x.nms.any λd=>(gk l).any λc=>same c d
 | _=>false
def dn(l:List Nd)(e:De):Option (List Nd) :=
 if e.isV=true then(fnd l e.nm).bind λn=>(e.on n).map λn'=>gu e.nm [n'] l
 else if R0 l e=true then O
 else(e.pre l).bind λl'=>if gc l'<=3 then Z l' else O
def al7:Option (List Nd)->D
 | none=>.none
 | some l=>.tuple<|fW l
def cc4(w h:Nat):Option (List Nd)->D
 | none=>.none
 | some l=>C6 w h l
def aq7(l:List Nd)(k:Nat):(fW l).take k=fW (l.take k):=by rw[D3,D3,cq]
def aq8(l:List Nd)(k:Nat):(fW l).drop k=fW (l.drop k):=by rw[D3,D3,ck]
def aq9(a b:List Nd):fW (a++b)=fW a++fW b:=by rw[D3,D3,D3,bf]
def am6(n:Nd):fW [n]=[n.d]:=by rw[D3];rfl
def N9(l:List Nd):(fW l).length=l.length:=by rw[D3,aj]
def cM9:eqD (.str "put") (.str "put")=Z (.bool true):=ct6 (by decide +kernel)
def bY2:eqD (.str "out") (.str "put")=Z (.bool false):=ct5z
def br9(a b:Nat):gtI (.int a) (.int b)=Z (.bool<|decide (b < a)):=by
 show Z (fL<|decide ((b:Int) < a))=_;rw[decide_eq_decide.mpr (Int.ofNat_lt)]
def neN{x y:Nd}{k:Nat}(hx:Ly k x.d)(hy:Ly k y.d)(hk:k<=64):neD x.d y.d=Z (.bool (!PyData.eqv x.d y.d)):=by
 unfold neD;rw[if_pos ⟨hx.shaped hk,hy.shaped hk⟩]
def bC4{a b:List Nd}(h:a.length+b.length<=1000):B1 ↥a ↥b=Z ↥(a++b):=by rw[aq9];exact aV4 (by rw[N9,N9];exact h)
def De.isP:De->Bool
 | .put ..=>true
 | _=>false
def aN2(e:De)(ns:List Nd)(hv:e.isV=false)(hl:ns.length<=900)(hy:∀y∈ns,Ly 60 y.d)(hx:∀pa k x,e=.put pa k x\/e=.out pa k x->Ly 60 x.d):T8 [↥ns,e.d]=Z (al7<|e.ls ns):=by
 have l4:∀a b c d:D,([a,b,c,d]:List D).length=4:=λ_ _ _ _=>rfl
 have run:∀(a b d:D),O4 [‹a›,‹b›,O,O,O,O]=Z (.rt d)->T8 [a,b]=Z d:=λa b d h=>B2 (g:=O4) (ρ:=[‹a›,‹b›,O,O,O,O]) rfl h
 have gn:=br9;cases e with
 | put pa k x =>
  rw[De.d,De.ls];refine run _ _ _ ?_;have g1:=br9 k (fW ns).length;rw[N9]at g1;have c:=aI3 (xs:=fW ns) (i:=k);by_cases h:k<=ns.length
  .rw[if_pos h,al7];rw[decide_eq_false (by grind)]at g1;have c:=c (by rw[N9];exact h);rw[aq7,aq8]at c;have k1:=bC4 (a:=ns.take k) (b:=[x]) (by rw[aA,aN];grind);have k2:=bC4 (a:=ns.take k++[x]) (b:=ns.drop k) (by rw[ah,aA,aN,aS];grind);rw[am6]at k1;rw[ax,ba]at k2;have lt:decide ((ns.length:Int) < k)=false:=decide_eq_false (by grind)
   exists evD,O4,E3,l4,N9,lt,cM9,c.1,c.2,k1,k2
  .rw[if_neg h,al7];have lt:decide ((ns.length:Int) < k)=true:=decide_eq_true (by grind)
   exists evD,O4,l4,N9,lt
 | out pa k x =>
  rw[De.d,De.ls];refine run _ _ _ ?_;have xl:=hx pa k x (.inr rfl);rcases Nat.lt_trichotomy k ns.length with h|h|h
  .have lt:decide ((ns.length:Int) < k)=false:=decide_eq_false (by grind);have eq:((k:Int)==(ns.length:Int))=false:=by simp;grind
   have at1:atI (fW ns) (k:Int)=Z (ns[k]).d:=P8 (by rw[ag6,av h];rfl);have nb:=neN (hy _<|aT h) xl (by decide);rw[av h,eJ];cases q:fJ (ns[k]).d x.d with
   | false =>
    rw[q]at nb;rw[if_neg (by simp),al7]
    exists evD,O4,l4,N9,lt,bY2,eq,at1,nb
   | true =>
    rw[q]at nb;rw[if_pos rfl,al7];have c1:=(aI3 (xs:=fW ns) (i:=k) (by rw[N9];grind)).1;have c2:=(aI3 (xs:=fW ns) (i:=k+1) (by rw[N9];grind)).2;rw[aq7]at c1;rw[aq8]at c2;have k1:=bC4 (a:=ns.take k) (b:=ns.drop<|k+1) (by rw[aA,aS];grind);have i1:(k:Int)+1=((k+1:Nat):Int):=by grind
    exists evD,O4,E3,l4,N9,lt,bY2,eq,at1,nb,i1,c1,c2,k1
  .have lt:decide ((ns.length:Int) < k)=false:=decide_eq_false (by grind);have eq:((k:Int)==(ns.length:Int))=true:=by simp;grind
   rw[bj (by grind),Option.any_none,if_neg (by simp),al7]
   exists evD,O4,l4,N9,lt,bY2,eq
  .have lt:decide ((ns.length:Int) < k)=true:=decide_eq_true (by grind);rw[bj (by grind),Option.any_none,if_neg (by simp),al7]
   exists evD,O4,l4,N9,lt
 | _=>cases hv
theorem aV2{α:Type}{c:Rho->Option Bool}{e:DE}{r:Rho}{h f:α->D}{p:α->Bool}:∀(l:List α) (x:Option B),(∀a∈l,c (‹h a›::r)=Z (p a))->(∀a∈l,p a=true->e (‹h a›::r)=Z (f a))->V2 (B5 0) c e (l.map h) (x::r)=Z ((l.filter p).map f)
 | [],_,_,_=>rfl
 | a::l,x,C,H=>by
  have ih:=aV2 l (‹h a›) (λb hb=>C b<|xmm _ hb) (λb hb=>H b<|xmm _ hb);cases q:p a with
  | true =>simp only[xmc,V2,B5,xw0,xbs,C a (ae ..),q,if_true,H a (ae ..) q,ih,xms,dU q]
  | false =>
   have q':¬p a=true:=by rw[q];exact aF
   simp only[xmc,V2,B5,xw0,xbs,C a (ae ..),q,xft,if_false,ih,dW q']
def isG:Nd->Bool
 | .group ..=>true
 | _=>false
def cp3(n:Nd)(r:Rho):tB2 eqD (dIx (A8 0) ⇑0) (dC<|.str "group") (‹n.d›::r)=Z (isG n):=by
 cases n with
 | layer=>rw[fV];exists evD,az1,bz5,isG
 | tone=>rw[fV];exists evD,be7,e_tg,isG
 | group=>rw[fV];exists evD,aI7,bz6,isG
theorem br7:∀(l:List Nat),aG5 (l.map λk:Nat=>fK (k:Int))=Z (l.map λk:Nat=>(k:Int))
 | []=>rfl
 | k::l=>by
  have:=br7 l;simp only[xmc,aG5,this,xms]
def cA8(l:List Nd):mxL (0::(l.filter isG).map λn=>(n.dp:Int))=(gc l:Int):=by
 obtain⟨h1,h2⟩:=aF4 (l:=0::(l.filter isG).map λn=>(n.dp:Int)) (by simp)
 have up:mxL (0::(l.filter isG).map λn=>(n.dp:Int))<=(gc l:Int):=by
  rcases am.mp h1 with e|e
  .rw[e];grind
  .obtain⟨n,hn,e⟩:=aM.mp e;rw[← e];have:=J0 (bV.mp hn).1
   grind
 have z:=h2 0<|ae ..
 have lo:gc l<=(mxL (0::(l.filter isG).map λn=>(n.dp:Int))).toNat:=aU4 l λn hn=>by
  cases q:isG n with
  | true =>
   have:=h2 n.dp<|xmm _ (aM.mpr ⟨n,bV.mpr ⟨hn,q⟩,rfl⟩)
   grind
  | false =>
   have:n.dp=0:=by cases n<;>simp[isG]at q<;>rw[gb]
   grind
 grind
def aO4{l:List Nd}{f:Nat}(hl:l.length<=1000)(H:∀nm m s sh ns,Nd.group nm m s sh ns∈l->T2 f [↥ns]=Z (.int<|gc ns)):T2 (f+1) [↥l]=Z (.int<|gc l):=by
 refine B2 (g:=aJ7<|T2 f) (ρ:=[‹↥l›]) rfl ?_
 have c:C5 1 [] (M9<|A1 0) (B5 0) (tB2 eqD (dIx (A8 0) ⇑0)<|dC (.str "group")) (A5 B1 ⇑1<|A2 (T2 f) (A0 (dIx (A8 0) ⇑5) A3)) [‹↥l›]=Z ((l.filter isG).map λn=>fK (n.dp:Int)):=by
  unfold C5;have e:M9 (A1 0) [‹↥l›]=Z (l.map fV):=by rw[← D3];rfl
  rw[e,xbs,if_pos (by rw[aj];grind),show ag9 1 [] [Z (B.val ↥l)]=[O] from rfl];refine aV2 (h:=fV) (p:=isG) l O (λn _=>cp3 n []) λn hn hp=>?_
  cases n with
  | layer=>cases hp
  | tone=>cases hp
  | group nm m s sh ns =>
   have e:=H nm m s sh ns hn;have i1:(1:Int)+(gc ns:Int)=((1+gc ns:Nat):Int):=by grind
   rw[fV]
   exists evD,be6,e,i1,gb
 have k:=aV3 (xs:=[.int 0]) (ys:=(l.filter isG).map λn=>fK (n.dp:Int)) (by have:=dk isG l;rw[aj,aN];grind);have i:=br7 (0::(l.filter isG).map gb);rw[xmc,xmc,bM,bM]at i;have i:aG5 ([.int 0]++(l.filter isG).map λn=>fK (n.dp:Int))=Z (0::(l.filter isG).map λn=>(n.dp:Int)):=i;have x:A5 B1 (S8<|A0 ⇑0 A3) (S8<|C5 1 [] (M9<|A1 0) (B5 0) (tB2 eqD (dIx (A8 0) ⇑0)<|dC (.str "group")) (A5 B1 ⇑1<|A2 (T2 f) (A0 (dIx (A8 0) ⇑5) A3))) [‹↥l›]=Z (.list<|[.int 0]++(l.filter isG).map λn=>fK (n.dp:Int)):=by simp only[A5,S8,A0,A3,dC,xbs,xms,c,k]
 simp only[aJ7,B0,bt2,qE,x,xbs,az9,i];rw[if_neg (by simp),cA8];rfl
def ck3:∀(k:Nat) (l:List Nd) (f:Nat),gc l<=k->k+1<=f->l.length<=1000->gq l->T2 f [↥l]=Z (.int<|gc l):=by
 intro k
 induction k with
 | zero =>
  intro l f hd hf hl ht;obtain⟨f,rfl⟩:∃g,f=g+1:=⟨f - 1,by grind⟩;refine aO4 hl λnm m s sh ns hn=>?_
  have:=J0 hn;rw[gb]at this;grind
 | succ k ih =>
  intro l f hd hf hl ht;obtain⟨f,rfl⟩:∃g,f=g+1:=⟨f - 1,by grind⟩;refine aO4 hl λnm m s sh ns hn=>?_
  have h1:=J0 hn;have h2:=(P3 l).mp ht _ hn;rw[gb]at h1;rw[gp]at h2;exact ih ns f (by grind) (by grind) h2.1 h2.2
def ax3:D->Str
 | .str s=>s
 | _ => ""
def G3.is{d:D}(h:G3 d):d=.str (ax3 d):=by obtain⟨s,rfl,_⟩:=h;rfl
theorem bq5:∀(ps:List (Str×D)) (a:List (Str×D)),((a++ps).map Prod.fst).Nodup->ps.foldl (λa p=>bh5 a p.1 p.2) (a.map λp=>(fM p.1,p.2))=(a++ps).map λp=>(fM p.1,p.2)
 | [],a,_=>by simp
 | p::ps,a,h=>by
  have no:(a.map λp=>(fM p.1,p.2)).any (V0 p.1)=false:=by
   rw[bP];intro x hx;obtain⟨q,hq,rfl⟩:=aM.mp hx
   have:q.1≠p.1:=λe=>by
    rw[bf,aD]at h;exact h.2.2 _ (bS hq) _ (ae ..) e
   simp[V0,this]
  have e1:bh5 (a.map λp=>(fM p.1,p.2)) p.1 p.2=(a++[p]).map λp=>(fM p.1,p.2):=by
   unfold bh5;rw[no,if_neg (by decide),bf];rfl
  rw[bA,e1,bq5 ps (a++[p]) (by rw[ax];exact h),ax];rfl
def by0(ps:List (Str×D))(h:(ps.map Prod.fst).Nodup):mgD ps=ps.map λp=>(fM p.1,p.2):=bq5 ps [] h
def knw(l:List Nd):D:=.dict<|(gx l).map λn=>(n.nm,n.d)
def aF5{l:List Nd}(hs:∀d∈gk l,G3 d)(x:Str):U9 ((gx l).map λn=>(n.nm,n.d)) x=(fnd l<|.str x).map fV:=by
 unfold U9 fnd
 have:∀L:List Nd,(∀n∈L,G3 n.nm)->((L.map λn=>(n.nm,n.d)).find?<|V0 x).map Prod.snd=(L.find? λn=>same n.nm<|.str x).map fV:=by
  intro L
  induction L with
  | nil=>intro _;rfl
  | cons n L ih =>
   intro h;obtain⟨s,e,_⟩:=h n (ae ..);rw[xmc,bB,bB,e];by_cases q:s=x
   .subst q;rw[show V0 s (.str s,n.d)=true by simp[V0],D4];rfl
   .rw[show V0 x (.str s,n.d)=false by simp[V0,q],M7 (λz=>q (by cases z;rfl))];exact ih λm hm=>h m<|xmm _ hm
 refine this _ λn hn=>hs _ ?_
 rw[← als_nms];exact bS hn
def cC1{l:List Nd}(hs:∀d∈gk l,G3 d)(nd:(gk l).Nodup)(hl:(gx l).length<=900){src:Rho->Option (List D)}{ρ:Rho}(e:src ρ=Z ((gx l).map fV)):
  bd9 (qN<|C5 1 [] src (B5 0) F9 (B6<|A0 (dIx (A8 0) ⇑1) (A0 (A1 0) A3))) ρ=Z (knw l):=by
 have c:C5 1 [] src (B5 0) F9 (B6<|A0 (dIx (A8 0) ⇑1) (A0 (A1 0) A3)) ρ=Z ((gx l).map λn=>.tuple [n.nm,n.d]) :=
  V7 (l:=gx l) (h:=fV) (r:=[]) rfl e (by grind) λn _=>by
   have:=co6 n [];simp only[B6,A0,A3,this,A1,xg0,xbs,xms]
 have nms:∀n∈gx l,n.nm=.str (ax3 n.nm):=λn hn=>(hs _ (by rw[← als_nms];exact bS hn)).is
 have p:∀L:List Nd,(∀n∈L,n.nm=.str (ax3 n.nm))->aE6 (L.map λn=>.tuple [n.nm,n.d])=Z (L.map λn=>(ax3 n.nm,n.d)):=by
  intro L
  induction L with
  | nil=>intro _;rfl
  | cons n L ih =>
   intro h;rw[xmc,aE6,ih λm hm=>h m (xmm _ hm)];have:=h n (ae ..);rw[xmc,show bJ5 (.tuple [n.nm,n.d])=Z (ax3 n.nm,n.d) by rw[this];rfl];rfl
 have nd2:(((gx l).map λn=>(ax3 n.nm,n.d)).map Prod.fst).Nodup:=by
  rw[bM];rw[← als_nms]at nd;rw[List.Nodup,dG]at nd ⊢;refine cY.imp_of_mem (λ{a b} ha hb h e=>h ?_) nd;rw[nms a ha,nms b hb];exact congrArg fM e
 unfold bd9;have q:qN (C5 1 [] src (B5 0) F9<|B6 (A0 (dIx (A8 0) ⇑1)<|A0 (A1 0) A3)) ρ=Z (false,(gx l).map λn=>.tuple [n.nm,n.d]):=by unfold qN;rw[c];rfl
 rw[q,xbs,if_pos ⟨rfl,by rw[aj];grind⟩,p _ nms,xms,by0 _ nd2,bM];unfold knw
 congr 2
 exact List.map_congr_left λn hn=>by
  show(fM (ax3 n.nm),n.d)=_;rw[← nms n hn]
def cq1{a b:D}(ha:as4 a)(hb:as4 b):eqD a b=Z (.bool<|same a b):=by
 obtain⟨x,rfl,hx⟩:=ha;obtain⟨y,rfl,hy⟩:=hb;by_cases e:x=y
 .subst e;rw[D4];exact ct6 hx
 .rw[M7 (by intro z;cases z;exact e rfl)];exact ct5 hx hy (by simpa using e)
def G4{a b:D}:same a b=true↔a=b:=by
 constructor
 .intro h;exact dH λz=>by rw[M7 z]at h;cases h
 .intro h;rw[h];exact D4 b
def P0{l:List Nd}{nm:D}{n:Nd}(h:fnd l nm=Z n):n∈gx l/\n.nm=nm:=by
 unfold fnd at h;have q:=eK (p:=λn:Nd=>same n.nm nm) h;exact⟨dI h,G4.mp q⟩
def bR7{l:List Nd}{nm:D}(h:fnd l nm=O):nm∉gk l:=by
 unfold fnd at h;rw[List.find?_eq_none]at h;rw[← als_nms];intro z;obtain⟨n,hn,e⟩:=aM.mp z;exact h n hn<|G4.mpr e
def aG8{l:List Nd}{n:Nd}(nd:(gk l).Nodup)(h:n∈gx l):fnd l n.nm=Z n:=by
 cases e:fnd l n.nm with
 | none=>exact absurd (by rw[← als_nms];exact bS h)<|bR7 e
 | some m =>
  obtain⟨h1,h2⟩:=P0 e;rw[← als_nms]at nd;rw[aS4 h2 nd h1 h]
def aU2(l:List Nd)(nm:D):(fnd l nm).isSome=(gk l).any λc=>same c nm:=by
 unfold fnd;rw[← als_nms,dQ];cases e:(gx l).find? (λn=>same n.nm nm) with
 | none =>
  rw[List.find?_eq_none]at e
  symm
  rw[Option.isSome_none,bP];exact e
 | some n =>
  symm
  rw[cQ,bc];exact⟨n,dI e,eK (p:=λn:Nd=>same n.nm nm) e⟩
def aT7{l:List Nd}(hs:∀d∈gk l,G3 d)(x:Str)(neg:Bool):G.inK neg (.str x) (knw l)=Z (.bool (if neg then !(fnd l<|.str x).isSome else(fnd l<|.str x).isSome)):=by
 show Z (fL (if neg then !(U9 _ x).isSome else(U9 _ x).isSome))=_;rw[aF5 hs,dE]
structure Pl (l:List Nd):Prop where
 wl:Wl l
 ok:fY l
 len:(gk l).length<=500
def Pl.al{l:List Nd}(g:Pl l):(gx l).length<=500:=by
 have:=congrArg eO (als_nms l);rw[aj]at this;have:=g.len
 grind
structure Dee (e:De):Prop where
 nmo:Nm e.nm\/(e.isV=false/\e.nm=.str "")
 sz:e.sz
 nd:∀pa k x,e=.put pa k x\/e=.out pa k x->(∀d∈x.nms,G3 d)/\x.dp<=4/\x.nms.length<=100
theorem Dee.nm{e:De}(g:Dee e):as4 e.nm:=by
 rcases g.nmo with h|⟨_,h⟩
 .exact(P7 h).l
 .rw[h];exact⟨"", rfl,by decide +kernel⟩
def Dee.ly{e:De}(g:Dee e):∀pa k x,e=.put pa k x\/e=.out pa k x->Ly 60 x.d:=λpa k x h=>by
 obtain⟨h1,h2,_⟩:=g.nd pa k x h;exact(ay5 x h1).mono (by grind)
def av5:∀(k:Nat) (l:List Nd),gc l<=k->fY l->∀n∈gx l,n.Ok/\n.dp<=k/\(∀d∈n.nms,d∈gk l)/\n.nms.length<=(gk l).length:=by
 intro k
 induction k with
 | zero =>
  intro l hd ok n hn
  induction l with
  | nil=>rw[gx]at hn;cases hn
  | cons y l ih =>
   rw[gx]at hn;rw[fY]at ok;rw[gc]at hd;rcases ay.mp hn with h|h
   .cases y with
    | group=>rw[gb]at hd;grind
    | layer=>rw[gw]at h;rw[au.mp h];exact⟨ok.1,by rw[gb];exact ak _,λd hd'=>by rw[gk];exact af _ hd',by rw[gk,ah];grind⟩
    | tone=>rw[gw]at h;rw[au.mp h];exact⟨ok.1,by rw[gb];exact ak _,λd hd'=>by rw[gk];exact af _ hd',by rw[gk,ah];grind⟩
   .obtain⟨q1,q2,q3,q4⟩:=ih (by grind) ok.2 h;exact⟨q1,q2,λd hd'=>by rw[gk];exact ag _<|q3 d hd',by rw[gk,ah];grind⟩
 | succ k ih =>
  intro l hd ok n hn
  induction l with
  | nil=>rw[gx]at hn;cases hn
  | cons y l ihl =>
   rw[gx]at hn;rw[fY]at ok;rw[gc]at hd;rcases ay.mp hn with h|h
   .have own:n=y->n.Ok/\n.dp<=k+1/\(∀d∈n.nms,d∈gk (y::l))/\n.nms.length<=(gk (y::l)).length:=λe=>by
     subst e;exact⟨ok.1,by grind,λd hd'=>by rw[gk];exact af _ hd',by rw[gk,ah];grind⟩
    cases y with
    | layer=>rw[gw]at h;exact own<|au.mp h
    | tone=>rw[gw]at h;exact own<|au.mp h
    | group nm m s sh ns =>
     rw[gw]at h;rcases am.mp h with h|h
     .exact own h
     .have o:=ok.1;rw[fX]at o;rw[gb]at hd;obtain⟨q1,q2,q3,q4⟩:=ih ns (by grind) o.2 n h;refine⟨q1,by grind,λd hd'=>?_,?_⟩
      .rw[gk,gj];exact af _<|xmm _ (q3 d hd')
      .rw[gk,gj,ah,aH];grind
   .obtain⟨q1,q2,q3,q4⟩:=ihl (by grind) ok.2 h;exact⟨q1,q2,λd hd'=>by rw[gk];exact ag _<|q3 d hd',by rw[gk,ah];grind⟩
def ce1{X:List D}(h:∀x∈X,Ly 60 x):neD (.list X) (.list [])=Z (.bool (!X.isEmpty)):=by
 unfold neD;rw[if_pos ⟨(Ly.lst h).shaped (by decide),rfl⟩];cases X<;>rfl
def cp4{w:Str}{b:Bool}(h:(["put", "out"]:List Str).any (λy=>y==w)=b):inD true (.str w) (.tuple [.str "put", .str "out"])=Z (.bool (!b)):=by
 have:=ci9 true w ["put", "out"];rw[h]at this;exact this
def E2{c:Rho->Option Bool}{f g:DS}{ρ:Rho}(h:c ρ=Z true):sIf c f g ρ=f ρ:=by unfold sIf;rw[h];rfl
def C1{c:Rho->Option Bool}{f g:DS}{ρ:Rho}(h:c ρ=Z false):sIf c f g ρ=g ρ:=by unfold sIf;rw[h];rfl
abbrev r9(w h:Nat)(l:List Nd)(e:D)(a6 a7 a8:Option B):Rho:=[‹C6 w h l›,‹e›,‹.int w›,‹.int h›,‹↥l›,‹knw l›,a6,a7,a8]
def bc1{w h:Nat}{l:List Nd}{e:D}(g:Pl l):∀z,(A7 ae7<|A7 Q6 (A7 t8<|A7 t7 ae6)) (r9 w h l e O O O)=Z (.rt z)->Y5 [C6 w h l,e]=Z z:=λz hz=>by
 have l3:∀a b c:D,([a,b,c]:List D).length=3:=λ_ _ _=>rfl
 refine B2 (g:=aJ6) (ρ:=[‹C6 w h l›,‹e›,O,O,O,O,O,O,O]) rfl ?_;unfold aJ6;rw[A6 (ρ':=[‹C6 w h l›,‹e›,‹.int w›,‹.int h›,‹↥l›,O,O,O,O]) (by exists evD,ay0,C6,l3)];have al:=g.al;have eA:=aW2 3 l 12 g.wl.dp (by decide) (by grind);have k:=cC1 g.wl.hs g.wl.nd (by grind) (src:=M9<|A2 (K2 12) (A0 (A1 4) A3)) (ρ:=[‹C6 w h l›,‹e›,‹.int w›,‹.int h›,‹↥l›,O,O,O,O]) (by simp only[M9,A2,A0,A3,A1,xg0,xg1,xbs,xms,eA]);rw[A6 (ρ':=r9 w h l e O O O) (by simp only[ax9,B4,k,xbs,xms,xw0,xw1])];exact hz
def De.w:De->Str
 | .str .. => "strength"
 | .shw .. => "shown"
 | .man .. => "manner"
 | .plc .. => "place"
 | .spt .. => "spot"
 | .put .. => "put"
 | .out .. => "out"
def De.parts(e:De):∃r,e.d=.tuple (.str e.w::e.nm::r):=by cases e<;>(rw[De.d];exact⟨_,rfl⟩)
def cl7(a:D)(r:List D):L2.atI (a::r) 0=Z a:=P8 (j:=0) rfl
def aV8(a b:D)(r:List D):L2.atI (a::b::r) 1=Z b:=P8 (j:=1) rfl
def v2a:DS:=(sIf (tB2 (G.inK true) (dIx (A8 1) ⇑1)<|A1 5) (B0<|dC .none) B8)
def v2b:DS:=(B4 6<|A2 U1 (A0 (an3 (A1 5)<|dIx (A8 1) ⇑1)<|A0 (A1 1) A3))
def v2c:DS:=(sIf (tB2 isB (A1 6)<|dC .none) (B0<|dC .none) B8)
def v2d:DS:=(B0<|B6 (A0 (A1 2)<|A0 (A1 3) (A0 (A2 (O0 12)<|A0 (A1 4) (A0 (dIx (A8 1) ⇑1)<|A0 (B6<|A0 (A1 6) A3) A3)) A3)))
def cn0:ae7=sIf (tB2 (inD true) (dIx (A8 1) ⇑0)<|B6 (A0 (dC<|.str "put")<|A0 (dC<|.str "out") A3)) (A7 v2a<|A7 v2b (A7 v2c v2d)) B8:=rfl
def cH4(n:Nd):isB n.d .none=Z (.bool false):=by cases n<;>(rw[fV];rfl)
def by3(e:De)(hv:e.isV=true){w h:Nat}{l:List Nd}(g:Pl l)(de:Dee e):Y5 [C6 w h l,e.d]=Z (cc4 w h<|dn l e):=by
 obtain⟨r,er⟩:=e.parts;obtain⟨x,ex,hx⟩:=de.nm;have ip:inD true (.str e.w) (.tuple [.str "put", .str "out"])=Z (.bool true):=cp4 (b:=false) (by cases e<;>first|(cases hv;done)|(rw[De.w];decide +kernel));refine bc1 g _ ?_;have ik:=aT7 g.wl.hs x true;have lk:=aF5 g.wl.hs x;unfold dn;rw[if_pos hv,ex];rw[ex]at er;rw[er];have t2:(tB2 (inD true) (dIx (A8 1) ⇑0)<|B6 (A0 (dC<|.str "put")<|A0 (dC<|.str "out") A3)) (r9 w h l (.tuple (.str e.w :: .str x::r)) O O O)=Z true:=by exists evD,r9,cl7,ip
 refine D9 ?_;rw[cn0];refine Eq.trans (E2 t2) ?_;cases q:fnd l (.str x) with
 | none =>
  rw[q]at ik;refine D9 ?_
  exists evD,v2a,r9,aV8,ik,Option.isSome_none
  rfl
 | some n =>
  rw[q]at ik lk;obtain⟨n1,n2⟩:=P0 q;have hc:=cl3 e n hv (av5 3 l g.wl.dp g.ok n n1).1 de.sz;rw[er]at hc;refine(A6 (by exists evD,v2a,r9,aV8,ik,cQ;rfl)).trans ?_
  have ixk:an3 (A1 5) (dIx (A8 1) ⇑1) (r9 w h l (.tuple (.str e.w :: .str x::r)) O O O)=Z n.d:=by
   have k:knw l=.dict ((gx l).map λn=>(n.nm,n.d)):=rfl
   exists evD,an3,r9,aV8,k,lk
  have v1:A1 1 (r9 w h l (.tuple (.str e.w :: .str x::r)) O O O)=Z (.tuple (.str e.w :: .str x::r)):=rfl
  rw[A6 (ρ':=r9 w h l (.tuple (.str e.w :: .str x::r)) (‹aA1 (e.on n)›) O O) (by
   simp only[v2b,B4,A2,A0,A3,ixk,v1,xbs,xms,hc,r9,xw0,xw1])]
  rw[xbs];cases p:e.on n with
  | none =>
   refine D9 ?_
   exists evD,v2c,r9,aA1,bP8
   rfl
  | some n' =>
   rw[aA1];refine(A6 (by exists evD,v2c,r9,cH4;rfl)).trans ?_;have sx:G3 (.str x):=by rw[← n2];exact g.wl.hs _ (by rw[← als_nms];exact bS n1)
   have wt:=g.wl.wt sx (oth:=[n']) (by show 1<=1000;decide);rw[am6]at wt
   exists evD,v2d,r9,aV8,wt,cc4,C6
def cr9{x:Nd}(hx:∀d∈x.nms,G3 d)(hd:x.dp<=4):∀n∈gw x,Ly 60 n.d/\G3 n.nm:=by
 have key:∀(k:Nat) (l:List Nd),gc l<=k->∀n∈gx l,n.dp<=k/\∀d∈n.nms,d∈gk l:=by
  intro k
  induction k with
  | zero =>
   intro l hd n hn
   induction l with
   | nil=>rw[gx]at hn;cases hn
   | cons y l ih =>
    rw[gx]at hn;rw[gc]at hd;rcases ay.mp hn with h|h
    .cases y with
     | group=>rw[gb]at hd;grind
     | layer=>rw[gw]at h;rw[au.mp h];exact⟨by rw[gb];exact ak _,λd hd'=>by rw[gk];exact af _ hd'⟩
     | tone=>rw[gw]at h;rw[au.mp h];exact⟨by rw[gb];exact ak _,λd hd'=>by rw[gk];exact af _ hd'⟩
    .obtain⟨q2,q3⟩:=ih (by grind) h;exact⟨q2,λd hd'=>by rw[gk];exact ag _<|q3 d hd'⟩
  | succ k ih =>
   intro l hd n hn
   induction l with
   | nil=>rw[gx]at hn;cases hn
   | cons y l ihl =>
    rw[gx]at hn;rw[gc]at hd;rcases ay.mp hn with h|h
    .have own:n=y->n.dp<=k+1/\∀d∈n.nms,d∈gk (y::l):=λe=>by
      subst e;exact⟨by grind,λd hd'=>by rw[gk];exact af _ hd'⟩
     cases y with
     | layer=>rw[gw]at h;exact own<|au.mp h
     | tone=>rw[gw]at h;exact own<|au.mp h
     | group nm m s sh ns =>
      rw[gw]at h;rcases am.mp h with h|h
      .exact own h
      .rw[gb]at hd;obtain⟨q2,q3⟩:=ih ns (by grind) n h;exact⟨by grind,λd hd'=>by rw[gk,gj];exact af _<|xmm _ (q3 d hd')⟩
    .obtain⟨q2,q3⟩:=ihl (by grind) h;exact⟨q2,λd hd'=>by rw[gk];exact ag _<|q3 d hd'⟩
 intro n hn;have e1:gx [x]=gw x:=by rw[gx,gx,br]
 have e2:gk [x]=x.nms:=by rw[gk,gk,br]
 obtain⟨q1,q2⟩:=key 4 [x] (by rw[gc,gc];grind) n (by rw[e1];exact hn);rw[e2]at q2;exact⟨(ay5 n λd hd'=>hx d<|q2 d hd').mono (by grind),hx _<|q2 _ (G5 n)⟩
def bl9{l:List Nd}{x:Nd}(hx:∀d∈x.nms,G3 d)(hd:x.dp<=4):neD (.list<|((gw x).filter λn=>(fnd l n.nm).isSome).map fV) (.list [])=Z (.bool<|x.nms.any λd=>(gk l).any λc=>same c d):=by
 have h:=cr9 hx hd
 rw[ce1 λd hd'=>by
  obtain⟨n,hn,rfl⟩:=aM.mp hd'
  exact(h n (bV.mp hn).1).1]
 congr 2
 rw[← aW4,dQ,bo];simp only[bp,List.isEmpty_eq_false_iff,ne_eq,List.map_eq_nil_iff,eL,bc];constructor
 .intro z;exact dH λq=>z λn hn hs=>q ⟨n,hn,by show((gk l).any λc=>same c n.nm)=true;rw[← aU2];exact hs⟩
 .rintro⟨n,hn,hs⟩ z
  exact z n hn (by rw[aU2];exact hs)
def aS5{l:List Nd}(g:Pl l){x:Nd}(hx:∀d∈x.nms,G3 d)(hd:x.dp<=4)(hn:x.nms.length<=100){src:Rho->Option (List D)}{ρ:Rho}(hs:src ρ=Z ((gw x).map fV))(hc:ag9 1 [5] ρ=[O,‹knw l›]):
  C5 1 [5] src (B5 0) (tB2 (G.inK false) (dIx (A8 0) ⇑1)<|A1 1) (A1 0) ρ=Z (((gw x).filter λn=>(fnd l n.nm).isSome).map fV):=by
 have len:=congrArg eO (aW4 x);rw[aj]at len;unfold C5;rw[hs,xbs,if_pos (by rw[aj];grind),hc];refine aV2 (h:=fV) (f:=fV) (p:=λn=>(fnd l n.nm).isSome) (gw x) O (λn hn=>?_) λn _ _=>rfl
 have q:=((cr9 hx hd) n hn).2;have ik:=aT7 g.wl.hs (ax3 n.nm) false;rw[← q.is]at ik;have a1:=co6 n [‹knw l›];have v1:A1 1 [‹n.d›,‹knw l›]=Z (knw l):=rfl;unfold tB2 A5;rw[a1,v1,xbs,xbs,ik];rfl
def p4a:DS:=(B4 7<|A2 T8 (A0 (A1 4)<|A0 (A1 1) A3))
def p4b:DS:=(B4 8<|an3 (A1 5) (dIx (A8 1) ⇑1))
def p4c:DS:=(B4 7<|A2 T8 (A0 (dIx (A8 8) ⇑5)<|A0 (A1 1) A3))
def p4d:DS:=(sIf (tB2 al8 (A1 7)<|dC .none) (B4 7<|A2 (O0 12) (A0 (A1 4)<|A0 (dIx (A8 1) ⇑1) (A0 (B6<|A0 (A5 B1 (E3 (A1 8) C7<|B7 ⇑5)<|B6 (A0 (A1 7) A3)) A3) A3))) B8)
def cQ0:t8=sIf (tB2 eqD (dIx (A8 1) ⇑1)<|dC (.str "")) p4a (sIf (M6 (tB2 (G.inK true) (dIx (A8 1) ⇑1)<|A1 5)<|tB2 neD (dIx (qE<|an3 (A1 5) (dIx (A8 1) ⇑1)) ⇑0) (dC<|.str "group")) (B4 7<|dC .none)<|A7 p4b (A7 p4c p4d)):=rfl
def cT8{f:DE}{ρ:Rho}{d:D}(h:f ρ=Z d)(i:Int):dIx (qE f) (dC<|.int i) ρ=(az9 d).bind λq=>atI q.2 i:=by unfold dIx qE;rw[h];rfl
def bi8:as4 (.str ""):=⟨"", rfl,by decide +kernel⟩
def cB7{e:De}{ns ns':List Nd}(h:e.ls ns=Z ns'):ns'.length<=ns.length+1:=by
 cases e with
 | put pa k x =>
  rw[De.ls]at h;split at h
  .cases h;rw[ah,aH,aA,aS];grind
  .cases h
 | out pa k x =>
  rw[De.ls]at h;split at h
  .cases h;rw[ah,aA,aS];grind
  .cases h
 | _=>cases h
def da9:neD (.str "group") (.str "group")=Z (.bool false):=af8 bz6
def da8:neD (.str "layer") (.str "group")=Z (.bool true):=af8 bz5
def da6:neD (.str "tone") (.str "group")=Z (.bool true):=af8 e_tg
def cw9(e:De)(hv:e.isV=false){w h:Nat}{l:List Nd}(g:Pl l)(de:Dee e){r:List D}(er:e.d=.tuple (.str e.w::e.nm::r)):∃a8,t8 (r9 w h l (.tuple (.str e.w::e.nm::r)) O O O)=Z (.nx<|r9 w h l (.tuple (.str e.w::e.nm::r)) O (‹al7 (e.pre l)›) a8):=by
 have al:=g.al
 have t0:(tB2 eqD (dIx (A8 1) ⇑1)<|dC (.str "")) (r9 w h l (.tuple (.str e.w::e.nm::r)) O O O)=Z (same e.nm<|.str ""):=by
  have q:=cq1 de.nm bi8
  exists evD,r9,aV8,q
 have lyl:∀y∈l,Ly 60 y.d:=λy hy=>(ay5 y λd hd=>g.wl.hs d<|K7 hy hd).mono (by have:=J0 hy;have:=g.wl.dp;grind)
 have th:=thins_of l g.wl.nl;have v1:∀a6 a7 a8,A1 1 (r9 w h l (.tuple (.str e.w::e.nm::r)) a6 a7 a8)=Z (.tuple (.str e.w::e.nm::r)):=λ_ _ _=>rfl
 rw[cQ0];unfold De.pre;cases s0:same e.nm (.str "") with
 | true =>
  rw[s0]at t0;rw[if_pos rfl,E2 t0];have q:=aN2 e l hv (by have:=g.len;grind) lyl de.ly;rw[er]at q;exact⟨O,by exists evD,p4a,r9,q⟩
 | false =>
  rw[s0]at t0;rw[if_neg (by decide),C1 t0];obtain⟨x,ex,hx⟩:=de.nm;have ik:=aT7 g.wl.hs x true;have lk:=aF5 g.wl.hs x;rw[← ex]at ik lk;have k:knw l=.dict ((gx l).map λn=>(n.nm,n.d)):=rfl;have tk:(tB2 (G.inK true) (dIx (A8 1) ⇑1)<|A1 5) (r9 w h l (.tuple (.str e.w::e.nm::r)) O O O)=Z (!(fnd l e.nm).isSome):=by exists evD,r9,aV8,ik
  cases q:fnd l e.nm with
  | none =>
   rw[q]at tk;have tt:(M6 (tB2 (G.inK true) (dIx (A8 1) ⇑1)<|A1 5)<|tB2 neD (dIx (qE<|an3 (A1 5) (dIx (A8 1) ⇑1)) ⇑0) (dC<|.str "group")) (r9 w h l (.tuple (.str e.w::e.nm::r)) O O O)=Z true:=by unfold M6;rw[tk];rfl
   rw[E2 tt];exact⟨O,rfl⟩
  | some n =>
   rw[q]at tk lk;obtain⟨n1,n2⟩:=P0 q
   have ixk:∀a6 a7 a8,an3 (A1 5) (dIx (A8 1) ⇑1) (r9 w h l (.tuple (.str e.w::e.nm::r)) a6 a7 a8)=Z n.d:=λa6 a7 a8=>by
    rw[ex]
    exists evD,an3,r9,aV8,k,lk
   have tg:(tB2 neD (dIx (qE<|an3 (A1 5) (dIx (A8 1) ⇑1)) ⇑0)<|dC (.str "group")) (r9 w h l (.tuple (.str e.w::e.nm::r)) O O O)=Z (!isG n):=by
    unfold tB2 A5;rw[cT8 (ixk O O O)];cases n with
    | layer=>rw[fV];simp only[dC,xbs,az9,az1,da8,N0];rfl
    | tone=>rw[fV];simp only[dC,xbs,az9,be7,da6,N0];rfl
    | group=>rw[fV];simp only[dC,xbs,az9,aI7,da9,N0];rfl
   have tt:(M6 (tB2 (G.inK true) (dIx (A8 1) ⇑1)<|A1 5)<|tB2 neD (dIx (qE<|an3 (A1 5) (dIx (A8 1) ⇑1)) ⇑0) (dC<|.str "group")) (r9 w h l (.tuple (.str e.w::e.nm::r)) O O O)=Z (!isG n):=by unfold M6;rw[tk];simp only[cQ,xnt,xbs,xft,if_false];exact tg
   rw[xbs];cases n with
   | layer=>rw[E2 tt];exact⟨O,rfl⟩
   | tone=>rw[E2 tt];exact⟨O,rfl⟩
   | group nm m s sh ns =>
    rw[C1 tt,grp];obtain⟨o1,o2,o3,o4⟩:=av5 3 l g.wl.dp g.ok _ n1;rw[gb]at o2;rw[gj,aH]at o4
    have nl:ns.length<=500:=by
     have:=(thins_of ns (by have:=g.len;grind)).2;have:=g.len
     grind
    have lyn:∀y∈ns,Ly 60 y.d:=λy hy=>(ay5 y λd hd=>g.wl.hs d<|o3 d (by rw[gj];exact xmm _<|K7 hy hd)).mono (by have:=J0 hy;grind)
    have ql:=aN2 e ns hv (by grind) lyn de.ly;rw[er]at ql;rw[A6 (ρ':=r9 w h l (.tuple (.str e.w::e.nm::r)) O O<|‹fV (.group nm m s sh ns)›) (by simp only[p4b,B4,ixk,xbs,xms,r9,xw0,xw1])];have i5:dIx (A8 8) ⇑5 (r9 w h l (.tuple (.str e.w::e.nm::r)) O O<|‹fV (.group nm m s sh ns)›)=Z ↥ns:=by rw[fV];exists evD,r9,be6
    rw[A6 (ρ':=r9 w h l (.tuple (.str e.w::e.nm::r)) O (‹al7 (e.ls ns)›)<|‹fV (.group nm m s sh ns)›) (by simp only[p4c,B4,A2,A0,A3,i5,v1,xbs,xms,ql,r9,xw0,xw1])];refine⟨‹fV (.group nm m s sh ns)›,?_⟩;cases p:e.ls ns with
    | none =>
     rw[al7]
     exists evD,p4d,r9,aF3,Option.map_none,al7
    | some ns' =>
     have ln:=cB7 p;have sx:G3 e.nm:=by rw[← n2];exact g.wl.hs _ (by rw[← als_nms];exact bS n1)
     have wt:=g.wl.wt sx (oth:=[.group nm m s sh ns']) (by show 1<=1000;decide);rw[am6,fV]at wt;have c5:R8 [.str "group", nm,.str m.s,fr s,.bool sh,↥ns] O (Z 5)=[.str "group", nm,.str m.s,fr s,.bool sh]:=rfl;have k5:=aV4 (a:=[.str "group", nm,.str m.s,fr s,.bool sh]) (b:=[↥ns']) (by show 6<=1000;decide);have k5:B1 (.tuple [.str "group", nm,.str m.s,fr s,.bool sh]) (.tuple [↥ns'])=Z (.tuple [.str "group", nm,.str m.s,fr s,.bool sh,↥ns']):=k5;rw[al7,fV]
     exists evD,p4d,r9,E3,cR9,c5,k5,aV8,wt,xms,al7
def Stands.rp{a b l:List Nd}{n:Nd}(h:Stands a n b l)(o':List Nd):∃l',Rp (a++n::b) o' l l':=by
 induction h with
 | top=>exact⟨_,.top⟩
 | deep _ ih=>obtain⟨l',r⟩:=ih;exact⟨_,.deep r⟩
def am5{l:List Nd}(nd:(gk l).Nodup){nm:D}{n:Nd}(h:fnd l nm=Z n):∃a b,Stands a n b l/\∀n',Rp (a++n::b) (a++[n']++b) l (gu nm [n'] l):=by
 obtain⟨h1,h2⟩:=P0 h;obtain⟨a,b,St⟩:=W5 nd h1;refine⟨a,b,St,λn'=>?_⟩;obtain⟨l',r⟩:=St.rp (a++[n']++b);rw[← h2,aL8 r nd];exact r
def bL0{w h:Nat}{a b l:List Nd}{n:Nd}(g:Wl l)(St:Stands a n b l):i9 [C6 w h l,n.nm]=Z n.d:=by
 obtain⟨e1,_,e2,_⟩:=aP2 (w:=w) (h:=h) St g.dp g.hs g.nd g.nl;have i2:atI (fW (a++n::b)) (a.length:Int)=Z n.d:=cW0 (by rw[aK (ak _),bY];rfl);refine B2 (ρ:=[‹C6 w h l›,‹n.nm›,O]) rfl ?_
 exists evD,as7,e1,e2,i2
def aX4{w h:Nat}{a b l:List Nd}{n:Nd}(g:Wl l)(St:Stands a n b l)(o:Nd):v8 [C6 w h l,n.nm,o.d]=Z (C6 w h<|gu n.nm [o] l):=by
 obtain⟨e1,e0,e2,put⟩:=aP2 (w:=w) (h:=h) St g.dp g.hs g.nd g.nl;obtain⟨l',r,ep⟩:=put (a++[o]++b);have P:=St.props
 have hz:(a++n::b).length<=1000:=by
  have h0:(gk (a++n::b)).length<=1000:=aQ (List.Nodup.length_le_of_subset (P.nd g.nd) P.sub) g.nl;exact aQ (thins_of _ h0).2 h0
 rw[ah,aH]at hz;have c1:=(bV7 (a++n::b) (i:=(a.length:Int)) rfl).1;have c2':=(bV7 (a++n::b) (i:=(a.length:Int)+1) (k:=a.length+1)<|by grind).2;rw[List.take_left]at c1;rw[show(a++n::b).drop (a.length+1)=b by rw[show a++n::b=(a++[n])++b by simp,List.drop_left' (by simp)]]at c2';have k1:=bW2 a [o] (by simp;grind);have k2:=bW2 (a++[o]) b (by rw[ah];simp;grind);have d1:fW [o]=[o.d]:=by rw[fW,fW]
 rw[d1]at k1;rw[aL8 r g.nd];refine B2 (ρ:=[‹C6 w h l›,‹n.nm›,‹o.d›,O,O]) rfl ?_
 exists evD,az3,e1,e2,E3,c1,c2',k1,k2,ep
def bQ1{l:List Nd}(hs:∀d∈gk l,G3 d){nm:D}(hn:G3 nm):inD true nm (.list<|gk l)=Z (.bool (!(fnd l nm).isSome)):=by
 have fl:(gk l).all K0=true:=by
  rw[bt];intro d hd;obtain⟨s,rfl,_⟩:=hs d hd;rfl
 have f1:K0 nm=true:=by obtain⟨s,rfl,_⟩:=hn;rfl
 show(if K0 nm=true/\(gk l).all K0=true then Z (fL (if true=true then !inV (toV nm) ((gk l).map toV) else inV (toV nm) ((gk l).map toV))) else O)=_;rw[if_pos ⟨f1,fl⟩,aU2]
 have:inV (toV nm) ((gk l).map toV)=(gk l).any λc=>same c nm:=by
  unfold inV;rw[dQ,bo,bc,bc];obtain⟨x,rfl,_⟩:=hn;constructor
  .rintro⟨d,hd,q⟩
   obtain⟨s,rfl,_⟩:=hs d hd;refine⟨_,hd,?_⟩;have q:(s==x)=true:=q;simp only[beq_iff_eq]at q;rw[q];exact D4 _
  .rintro⟨d,hd,q⟩
   refine⟨d,hd,?_⟩;have:=G4.mp q;subst this;show(x==x)=true;simp
 rw[this];rfl
def cA1{w h:Nat}{l:List Nd}(g:Wl l):ad4 [C6 w h l]=Z (.list<|gk l):=by
 have e:=names_among 3 l 12 g.dp (by decide) g.nl;refine rX1 ?_
 exists evD,aJ4,C6,e
def cY6{w h:Nat}{l:List Nd}(g:Wl l){nm:D}(hn:Nm nm):(tB2 (inD true) (A1 1)<|A2 ad4 (A0 (A1 0) A3)) [‹C6 w h l›,‹nm›]=Z (!(fnd l nm).isSome):=by
 have e1:=cA1 (w:=w) (h:=h) g;have e2:=bQ1 g.hs<|P7 hn
 exists evD,e1,e2
def aL9{w h:Nat}{l:List Nd}(g:Wl l){nm:D}(hn:Nm nm){n:Nd}(hf:fnd l nm=Z n):S1 [C6 w h l,nm]=Z n.d:=by
 have t:=cY6 (w:=w) (h:=h) g hn;rw[hf]at t;obtain⟨h1,h2⟩:=P0 hf;obtain⟨a,b,St⟩:=W5 g.nd h1;have f1:=bL0 (w:=w) (h:=h) g St;rw[h2]at f1;refine rX2<|(A6<|(C1 t).trans rfl).trans ?_
 exists evD,f1
def ao0(e:De):M4 [e.d]=Z (.str e.w):=by
 obtain⟨r,er⟩:=e.parts;rw[er];refine rX1 ?_
 exists evD,aP6,cl7
def V4(e:De):J7 [e.d]=Z e.nm:=by
 obtain⟨r,er⟩:=e.parts;rw[er];refine rX1 ?_
 exists evD,az4,aV8
def De.old:De->D
 | .str _ o _=>fr o
 | .shw _ o _=>.bool o
 | .man _ o _=>.str o.s
 | .plc _ a b _ _=>.tuple [.int a,.int b]
 | .spt _ _ _ o _=>o.d
 | .put _ k _=>.int k
 | .out _ k _=>.int k
def De.new:De->D
 | .str _ _ n=>fr n
 | .shw _ _ n=>.bool n
 | .man _ _ n=>.str n.s
 | .plc _ _ _ c d=>.tuple [.int c,.int d]
 | .spt _ _ _ _ n=>n.d
 | .put _ _ x=>x.d
 | .out _ _ x=>x.d
def cy7(e:De):at4 [e.d]=Z e.old:=by cases e<;>(rw[De.d,De.old];rfl)
def cA3(e:De):at5 [e.d]=Z e.new:=by cases e<;>(rw[De.d,De.new];rfl)
def ew{x y:Str}{b:Bool}(hx:fN (.str x)=true)(hy:fN (.str y)=true)(h:(x==y)=b):eqD (.str x) (.str y)=Z (.bool b):=K1 hx hy h
def ewz{x y:Str}{b:Bool}(hx:fN (.str x)=true:=by decide +kernel)(hy:fN (.str y)=true:=by decide +kernel)(h:(x==y)=b:=by decide +kernel):eqD (.str x) (.str y)=Z (.bool b):=ew hx hy h
def dd6:eqD (.str "strength") (.str "strength")=Z (.bool true):=ewz
def dd5:eqD (.str "strength") (.str "spot")=Z (.bool false):=ewz
def dd8:eqD (.str "shown") (.str "strength")=Z (.bool false):=ewz
def dd7:eqD (.str "manner") (.str "strength")=Z (.bool false):=ewz
def cp8:eqD (.str "spot") (.str "strength")=Z (.bool false):=ewz
def cp9:eqD (.str "spot") (.str "shown")=Z (.bool false):=ewz
def bS1:eqD (.str "spot") (.str "manner")=Z (.bool false):=ewz
def cU8:eqD (.str "spot") (.str "spot")=Z (.bool true):=ewz
def De.has:De->Nd->Bool
 | .man ..,.tone ..=>false
 | .plc ..,.tone ..=>false
 | .plc ..,.group ..=>false
 | .spt ..,.tone ..=>false
 | .spt ..,.group ..=>false
 | .spt _ x y _ _,.layer _ _ _ _ _ _ _ w h _ _=>decide (x < w/\y < h)
 | _,_=>true
def cv5{a b d:D}(h:ah3 [‹a›,‹b›,O]=Z (.rt d)):w6 [a,b]=Z d:=B2 (g:=ah3) (ρ:=[‹a›,‹b›,O]) rfl h
def cM1(nm:D)(x y:Nat)(o n:Q4):aK2 [(De.spt nm x y o n).d]=Z (.int x)/\aK1 [(De.spt nm x y o n).d]=Z (.int y):=by rw[De.d];exact⟨rfl,rfl⟩
def cH5(e:De)(hv:e.isV=true)(n:Nd):w6 [n.d,e.d]=Z (.bool<|e.has n):=by
 cases e with
 | put=>cases hv
 | out=>cases hv
 | spt nm x y o v =>
  cases n with
  | layer nm' m s sh lf tp mk w h l kb =>
   obtain⟨x1,x2⟩:=cM1 nm x y o v;have w0:=ao0<|.spt nm x y o v
   have hp:Y6 [shD w h l,.int x,.int y]=Z (.bool<|decide (x < w/\y < h)):=by
    rw[show shD w h l=.tuple [.int w,.int h,.tuple (l.map fU)] from rfl,aq0 w h (.tuple<|l.map fU) x y]
    congr 2
    exact decide_eq_decide.mpr ⟨λz=>⟨by grind,by grind⟩,λz=>⟨by grind,by grind,by grind,by grind⟩⟩
   refine cv5 ((A6 (by exists evD,w0;rfl)).trans ?_)
   exists evD,De.w,bS1,ck0,cU8,br2,aT4,x1,x2,hp;rfl
  | _=>rw[fV,De.d];kernel_rfl
 | _=>cases n<;>(rw[fV,De.d];kernel_rfl)
def cH6{e:De}(hv:e.isV=true){n:Nd}(h:e.has n=false):e.on n=O:=by
 cases e with
 | put=>cases hv
 | out=>cases hv
 | str=>cases n<;>cases h
 | shw=>cases n<;>cases h
 | man=>cases n<;>first|rfl|cases h
 | plc=>cases n<;>first|rfl|cases h
 | spt nm x y o v =>
  cases n with
  | layer nm' m s sh lf tp mk w h' l kb =>
   have h:decide (x < w/\y < h')=false:=h;have h:=of_decide_eq_false h;show(if x < w/\y < h'/\_ then _ else O)=_;rw[if_neg λz=>h ⟨z.1,z.2.1⟩]
  | tone=>rfl
  | group=>rfl
abbrev v3(a b:D)(w:Str):Rho:=[‹a›,‹b›,‹.str w›]
def cv3{a b d:D}(h:ad0 [‹a›,‹b›,O]=Z (.rt d)):W8 [a,b]=Z d:=B2 (g:=ad0) (ρ:=[‹a›,‹b›,O]) rfl h
def cv4{a b d:D}(h:S0 [‹a›,‹b›,O,O]=Z (.rt d)):L5 [a,b]=Z d:=B2 (g:=S0) (ρ:=[‹a›,‹b›,O,O]) rfl h
def sk{W w:Str}{f g:DS}{ρ:Rho}{i:Nat}(hρ:A1 i ρ=Z (.str w))(h:eqD (.str w) (.str W)=Z (.bool false)):A7 (sIf (tB2 eqD (A1 i)<|dC (.str W)) f B8) g ρ=g ρ:=by
 refine A6 ?_;unfold sIf tB2 A5;rw[hρ,xbs];show((eqD (.str w)<|.str W).bind N0).bind _=_;rw[h];rfl
abbrev yL(nm':D)(m:Man)(s:Rat)(sh:Bool)(lf tp:Int)(mk:Option (List Rat))(w h:Nat)(l:List Q4):List D:=[.str "layer", nm',.str m.s,fr s,.bool sh,.int lf,.int tp,mkD mk,shD w h l]
def VO(e:De)(n:Nd):Prop:=∃v b,W8 [n.d,e.d]=Z v/\neD v e.old=Z (.bool b)/\(b=true->e.on n=O)/\(b=false->∃n',e.on n=Z n'/\L5 [n.d,e.d]=Z n'.d)
def ct9(e:De)(hv:e.isV=true)(n:Nd)(ok:n.Ok)(hz:e.sz)(hh:e.has n=true):VO e n:=by
 have w:=ao0 e;have nw:=cA3 e
 have fin:∀(p:Prop) [Decidable p] (m:Nd) (v:D),e.on n=(if p then Z m else O)->W8 [n.d,e.d]=Z v->neD v e.old=Z (.bool (!decide p))->L5 [n.d,e.d]=Z m.d->VO e n:=λp _ m v h1 h2 h3 h4=>by
  refine⟨v,!decide p,h2,h3,λhb=>?_,λhb=>⟨m,?_,h4⟩⟩
  .rw[h1,if_neg (by simpa using hb)]
  .rw[h1,if_pos (by simpa using hb)]
 have s0:∀z,(A7 ak3 (A7 ak2 (A7 ak1 (A7 ak0 w9)))) (v3 n.d e.d e.w)=Z (.rt z)->W8 [n.d,e.d]=Z z:=λz hz=>cv3 (by
  unfold ad0
  refine(A6 (by exists evD,ak4,De.w,v3,w;rfl)).trans ?_;exact hz)
 have s1:∀z,(A7 Z8 (A7 Z7 (A7 Z6 (A7 Z5 S2)))) [‹n.d›,‹e.d›,‹.str e.w›,‹e.new›]=Z (.rt z)->L5 [n.d,e.d]=Z z:=λz hz=>cv4 (by
  unfold S0;refine(A6 (by exists evD,c7,w;rfl)).trans ?_
  refine(A6 (by exists evD,Z9,nw;rfl)).trans ?_;exact hz)
 cases e with
 | put=>cases hv
 | out=>cases hv
 | str nm o v =>
  cases n with
  | layer nm' m s sh lf tp mk w' h l kb=>exact fin (s=o) _ (fr s) (by rw[De.on]) (by rw[fV,De.d];kernel_rfl) (au7 s o) (by rw[fV,fV,De.d];kernel_rfl)
  | tone nm' r s sh=>exact fin (s=o) _ (fr s) (by rw[De.on]) (by rw[fV,De.d];kernel_rfl) (au7 s o) (by rw[fV,fV,De.d];kernel_rfl)
  | group nm' m s sh ns=>exact fin (s=o) _ (fr s) (by rw[De.on]) (by rw[fV,De.d];kernel_rfl) (au7 s o) (by rw[fV,fV,De.d];kernel_rfl)
 | shw nm o v =>
  cases n with
  | layer nm' m s sh lf tp mk w' h l kb=>exact fin (sh=o) _ (.bool sh) (by rw[De.on]) (by rw[fV,De.d];kernel_rfl) (au8 sh o) (by rw[fV,fV,De.d];kernel_rfl)
  | tone nm' r s sh=>exact fin (sh=o) _ (.bool sh) (by rw[De.on]) (by rw[fV,De.d];kernel_rfl) (au8 sh o) (by rw[fV,fV,De.d];kernel_rfl)
  | group nm' m s sh ns=>exact fin (sh=o) _ (.bool sh) (by rw[De.on]) (by rw[fV,De.d];kernel_rfl) (au8 sh o) (by rw[fV,fV,De.d];kernel_rfl)
 | man nm o v =>
  cases n with
  | tone=>cases hh
  | layer nm' m s sh lf tp mk w' h l kb=>exact fin (m.s=o.s) _ (.str m.s) (by rw[De.on]) (by rw[fV,De.d];kernel_rfl) (bp9 m o) (by rw[fV,fV,De.d];kernel_rfl)
  | group nm' m s sh ns=>exact fin (m.s=o.s) _ (.str m.s) (by rw[De.on]) (by rw[fV,De.d];kernel_rfl) (bp9 m o) (by rw[fV,fV,De.d];kernel_rfl)
 | plc nm a b c d =>
  cases n with
  | tone=>cases hh
  | group=>cases hh
  | layer nm' m s sh lf tp mk w' h l kb=>exact fin (lf=a/\tp=b) _ (.tuple [.int lf,.int tp]) (by rw[De.on]) (by rw[fV,De.d];kernel_rfl) (bL2 lf tp a b) (by rw[fV,fV,De.d];kernel_rfl)
 | spt nm x y o v =>
  obtain⟨x1,x2⟩:=cM1 nm x y o v;cases n with
  | tone=>cases hh
  | group=>cases hh
  | layer nm' m s sh lf tp mk w' h l kb =>
   have hh:=of_decide_eq_true (show decide (x < w'/\y < h)=true from hh);rw[fX]at ok;have S:=ok.2.1;have sa:=bh0 S x y
   have aq:atQ w' h l x y=l.getD (y*w'+x) q0:=by
    unfold atQ;rw[if_pos ⟨by grind,by grind,by grind,by grind⟩];have:(y:Int)*w'+x=((y*w'+x:Nat):Int):=by rw[eM,bI]
    rw[this,bu]
   rw[aq]at sa;have nb:=bi5 (l.getD (y*w'+x) q0) o
   have nb:neD (l.getD (y*w'+x) q0).d o.d=Z (.bool (!decide (x < w'/\y < h/\neB (l.getD (y*w'+x) q0) o=false))):=by
    rw[nb]
    congr 2
    cases neB (l.getD (y*w'+x) q0) o<;>simp[hh]
   refine fin (x < w'/\y < h/\neB (l.getD (y*w'+x) q0) o=false) _ (l.getD (y*w'+x) q0).d (by rw[De.on]) (s0 _<|(sk rfl cp8).trans ((sk rfl cp9).trans<|(sk rfl bS1).trans ((sk rfl ck0).trans (by exists evD,w9,De.w,v3,aT4,x1,x2,sa)))) nb<|s1 _ ((sk rfl cp8).trans<|(sk rfl cp9).trans ((sk rfl bS1).trans<|(sk rfl ck0).trans ?_))
   have bw:y*w'+x < l.length:=by
    rw[S.len];have:(y+1)*w'<=h*w':=cL _ (by grind);rw[dt]at this;rw[bZ w' h];grind
   have nu:=aM9 (w:=w') (h:=h) (x:=x) (y:=y) (.tuple<|l.map fU) S.w8 S.h8 ⟨by grind,by grind,by grind,by grind⟩;have ei:(y:Int)*w'+x=((y*w'+x:Nat):Int):=by rw[eM,bI]
   rw[ei]at nu;have wh:w'*h<=64:=bU S.w8 S.h8;have hl:(l.map fU).length=w'*h:=by rw[aj,S.len]
   have bl:y*w'+x < (l.map fU).length:=by rw[aj];exact bw
   have c3:=(aI3<|cy bl).1;have c4:=(aI3<|Nat.succ_le_of_lt bl).2;have i1:((y*w'+x:Nat):Int)+1=((y*w'+x+1:Nat):Int):=by grind
   have k1:=aV4 (a:=(l.map fU).take<|y*w'+x) (b:=[v.d]) (by rw[aA,aN];grind);have k2:=aV4 (a:=(l.map fU).take (y*w'+x)++[v.d]) (b:=(l.map fU).drop<|y*w'+x+1) (by rw[ah,aA,aN,aS];grind);have st:(l.map fU).take (y*w'+x)++[v.d]++(l.map fU).drop (y*w'+x+1)=(l.set (y*w'+x) v).map fU:=by rw[cU,if_pos bw,bf,cq,xmc,ck,ax];rfl
   rw[st]at k2
   have sp:ah5 [shD w' h l,.int x,.int y,v.d]=Z (shD w' h<|l.set (y*w'+x) v):=by
    refine B2 (ρ:=[‹shD w' h l›,‹.int x›,‹.int y›,‹v.d›,O]) rfl ?_
    exists evD,az2,shD,E3,nu,i1,c3,c4,k1,k2
   have c5:R8 (yL nm' m s sh lf tp mk w' h l) O (Z 8)=[.str "layer", nm',.str m.s,fr s,.bool sh,.int lf,.int tp,mkD mk]:=rfl;have k3:=aV4 (a:=[.str "layer", nm',.str m.s,fr s,.bool sh,.int lf,.int tp,mkD mk]) (b:=[shD w' h (l.set (y*w'+x) v)]) (by show 9<=1000;decide)
   have ws:ad3 [fV (.layer nm' m s sh lf tp mk w' h l kb),shD w' h (l.set (y*w'+x) v)]=Z (fV<|.layer nm' m s sh lf tp mk w' h (l.set (y*w'+x) v) 32):=by
    rw[fV,fV];refine rX2 ?_;simp only[as5,E3,B0,A5,B6,A0,A3,A1,C7,B7,dC,aO0,xbs,xms,xg0,xg1,c5,k3];rfl
   exists evD,S2,De.w,De.new,aT4,x1,x2,sp,ws
end Sh
open Sh.De renaming d→gy,on→gz,ls→gA
namespace Sh
open PySem G L2
def cK8(l:List Nd)(dd:Nat):(l.all λn=>decide (n.dp<=dd))=decide (gc l<=dd):=by
 rw[bo,bt,decide_eq_true_iff];constructor
 .intro h;exact aU4 l λn hn=>of_decide_eq_true<|h n hn
 .intro h n hn;exact decide_eq_true<|aQ (J0 hn) h
def cr8{l:List Nd}{f dd:Nat}(hl:l.length<=1000)(H:∀n∈l,P2 f [n.d,.int dd]=Z (.bool<|decide (n.dp<=dd))):R6 (f+1) [↥l,.int dd]=Z (.bool<|decide (gc l<=dd)):=by
 refine B2 (g:=Y2<|A4 f) (ρ:=[‹↥l›,‹.int dd›]) rfl ?_
 have al:C5 1 [1] (M9<|A1 0) (B5 0) F9 (A2 (A4 f 1)<|A0 (A1 0) (A0 (A1 1) A3)) [‹↥l›,‹.int dd›]=Z (l.map λn=>.bool<|decide (n.dp<=dd)):=by
  refine V7 (l:=l) (h:=fV) (r:=[‹.int dd›]) rfl (by rw[D3];rfl) hl λx hx=>?_
  exact H x hx
 have aa:=as0 (λn:Nd=>decide (n.dp<=dd)) l;rw[cK8]at aa
 exists evD,Y2,al,aa
def cU3:∀(dd:Nat) (n:Nd) (f:Nat),3*dd+2<=f->n.Ok->n.off->(∀d∈n.nms,Nm d)->P2 f [n.d,.int dd]=Z (.bool<|decide (n.dp<=dd)):=by
 intro dd
 induction dd with
 | zero =>
  intro n f hf o of hn;obtain⟨f,rfl⟩:∃g,f=g+2:=⟨f - 2,by grind⟩;cases n with
  | group nm m s sh ns =>
   rw[gb,decide_eq_false (by grind)];refine B2 (g:=K4<|A4 (f+1)) (ρ:=[‹fV (.group nm m s sh ns)›,‹.int 0›]) rfl<|aC0 _ (f+1) _ o (hn _<|G5 _) ?_
   have eg:A4 (f+1) 0 [fV (.group nm m s sh ns),.int 0]=Z (.bool false):=by
    rw[fV];refine B2 (g:=E9<|A4 f) (ρ:=[‹.tuple [.str "group", nm,.str m.s,fr s,.bool sh,↥ns]›,‹.int 0›]) rfl ?_;have e1:∀a b c d e f:D,O2 [.tuple [a,b,c,d,e,f]]=Z c:=λ_ _ _ _ _ _=>rfl
    have e3:∀a b c d e f:D,((([a,b,c,d,e,f]:List D).length:Nat):Int)=6:=λ_ _ _ _ _ _=>rfl
    exists evD,E9,e1,e3,beq_self_eq_true,aS7
   have e2:=D2 (.group nm m s sh ns);have eg:A4 (f+1) 0 [fV (.group nm m s sh ns),.int 0]=Z (.bool false):=eg
   exists evD,aU0,e2,eg
  | _=>rw[gb];exact bQ7 0 _ (f+2) 0 (by rw[gb];exact ak _) (ak _) (by grind) o of hn
 | succ dd ih =>
  intro n f hf o of hn;obtain⟨f,rfl⟩:∃g,f=g+3:=⟨f - 3,by grind⟩;cases n with
  | group nm m s sh ns =>
   refine B2 (g:=K4<|A4 (f+2)) (ρ:=[‹fV (.group nm m s sh ns)›,‹.int ((dd+1:Nat):Int)›]) rfl (aC0 _ (f+2) _ o (hn _<|G5 _) ?_);rw[fX]at o;rw[Nd.off]at of;have oks:=(R7 ns).mp o.2;have ofs:=(ap4 ns).mp of.2;have ea:R6 (f+1) [↥ns,.int dd]=Z (.bool<|decide (gc ns<=dd)):=cr8 of.1 λn' h'=>ih n' f (by grind) (oks n' h') (ofs n' h') λd hd'=>hn d (by rw[gj];exact xmm _<|K7 h' hd')
   have eg:A4 (f+2) 0 [fV (.group nm m s sh ns),.int ((dd+1:Nat):Int)]=Z (.bool<|decide (gc ns<=dd)):=by
    rw[fV];refine B2 (g:=E9<|A4 (f+1)) (ρ:=[‹.tuple [.str "group", nm,.str m.s,fr s,.bool sh,↥ns]›,‹.int ((dd+1:Nat):Int)›]) rfl ?_;have e1:∀a b c d e f:D,O2 [.tuple [a,b,c,d,e,f]]=Z c:=λ_ _ _ _ _ _=>rfl
    have e2:∀a b c d e f:D,E7 [.tuple [a,b,c,d,e,f]]=Z f:=λ_ _ _ _ _ _=>rfl
    have e3:∀a b c d e f:D,((([a,b,c,d,e,f]:List D).length:Nat):Int)=6:=λ_ _ _ _ _ _=>rfl
    have e4:(((dd+1:Nat):Int)==0)=false:=by simp;grind
    have e5:((dd+1:Nat):Int) - 1=(dd:Int):=by grind
    have ea':A4 (f+1) 2 [↥ns,.int dd]=Z (.bool<|decide (gc ns<=dd)):=ea
    exists evD,E9,e1,e2,e3,e4,e5,beq_self_eq_true,aS7,ea'
   have e2:=D2 (.group nm m s sh ns);have ed:decide (gb (.group nm m s sh ns)<=dd+1)=decide (gc ns<=dd):=by rw[gb];exact decide_eq_decide.mpr ⟨λh=>by grind,λh=>by grind⟩
   rw[ed]
   exists evD,aU0,e2,eg
  | _=>rw[gb,decide_eq_true (aO _)];exact bQ7 0 _ (f+3) (dd+1) (by rw[gb];exact ak _) (aO _) (by grind) o of hn
theorem cq5:∀(l a:List Str),(l.foldl am8 a).length<=a.length+l.length/\((l.foldl am8 a).length=a.length+l.length->a.Nodup->(a++l).Nodup)
 | [],a=>⟨ak _,λ_ h=>by simpa using h⟩
 | x::l,a=>by
  rw[bA,aH];obtain⟨h1,h2⟩:=cq5 l (am8 a x);have hl:=bT8 a x;cases q:a.any (· == x) with
  | true =>
   rw[q,if_pos rfl]at hl;exact⟨by grind,λe=>by grind⟩
  | false =>
   rw[q,if_neg (by simp)]at hl;have ed:am8 a x=a++[x]:=by unfold am8;rw[q];rfl
   refine⟨by grind,λe na=>?_⟩
   have:=h2 (by grind) (by
    rw[ed,aD];refine⟨na,by simp,λy hy z hz e=>?_⟩;rw[au.mp hz]at e;rw[bP]at q
    exact q y hy (by simp[e]))
   rw[ed,ax]at this;exact this
open Classical in
def bF3{l:List Nd}(hd:gc l<=3)(hw:(gk l).length<=1000)(hn:∀d∈gk l,Nm d):O8 [↥l]=Z (.bool<|decide (gk l).Nodup):=by
 by_cases nd:(gk l).Nodup
 .rw[decide_eq_true nd];exact aX7 hd hw hn nd
 .rw[decide_eq_false nd];have e:=names_among 3 l 12 hd (by decide) hw;obtain⟨ys,e1,e2⟩:=ah7 _ hn;have ly:(gk l).length=ys.length:=by rw[e1,aj]
  have l4:ys.length<=4000:=by grind
  have es:∀q:Option B,ar5 (A8 1) [q,‹.list (gk l)›]=Z (.int (ddS ys).length):=λq=>by
   show((ax2<|gk l).bind λys=>if ys.length<=4000 then Z (fK (ddS ys).length) else O)=_;rw[e2,xbs,if_pos l4]
  have lt:(((ddS ys).length:Int)==(ys.length:Int))=false:=by
   obtain⟨h1,h2⟩:=cq5 ys []
   have:¬(ddS ys).length=ys.length:=λz=>nd (by
    rw[e1];have:=h2 (by show(ddS ys).length=0+ys.length;grind) List.nodup_nil;rw[xna]at this
    exact cY.map _ (λa b h e=>h (by cases e;rfl)) this)
   simp;grind
  refine B2 (ρ:=[‹↥l›,O]) rfl ?_
  exists evD,T7,e,es,ly,lt
structure Pc (w h:Nat) (l:List Nd):Prop where
 w1:1<=w
 w8:w<=8
 h1:1<=h
 h8:h<=8
 ok:fY l
 off:Nd.offs l
 nm:∀d∈gk l,Nm d
 nl:(gk l).length<=1000
open Classical in
def aM7{w h:Nat}{l:List Nd}(g:Pc w h l):O7 [C6 w h l]=Z (.bool<|decide (gc l<=3)&&decide (gk l).Nodup):=by
 have e1:=bh1 l g.w1 g.w8 g.h1 g.h8;have oks:=(R7 l).mp g.ok;have ofs:=(ap4 l).mp g.off;have hl:=(thins_of l g.nl).2;have nl:=g.nl;have e2:R6 12 [↥l,.int 3]=Z (.bool<|decide (gc l<=3)):=cr8 (f:=11) (dd:=3) (by grind) λn hn'=>cU3 3 n 11 (by decide) (oks n hn') (ofs n hn') λd hd'=>g.nm d<|K7 hn' hd'
 refine rX1 ?_;unfold C6 at e1 ⊢;by_cases hd:gc l<=3
 .have e3:=bF3 hd g.nl g.nm;rw[decide_eq_true hd]at e2 ⊢
  exists evD,ad2,e1,e2,e3,dF
 .rw[decide_eq_false hd]at e2 ⊢
  exists evD,ad2,e1,e2,dy
end Sh
namespace Sh
open PySem G L2
structure Gp (N:Nat) (l:List Nd):Prop where
 ok:fY l
 nr:gi l
 dp:gc l<=3
 nm:∀d∈gk l,Nm d
 nd:(gk l).Nodup
 len:(gk l).length<=N
def Gp.wl{N:Nat}{l:List Nd}(g:Gp N l)(hN:N<=400):Wl l:=⟨g.dp,λd hd=>P7<|g.nm d hd,g.nd,by have:=g.len;omega⟩
def Gp.pl{N:Nat}{l:List Nd}(g:Gp N l)(hN:N<=400):Pl l:=⟨g.wl hN,g.ok,by have:=g.len;omega⟩
def De.gv:De->Prop
 | .str _ _ n=>Sr 4 n
 | .plc _ _ _ c d=>(-2<=c/\c<=2)/\-2<=d/\d<=2
 | .spt _ _ _ _ n=>n.ok 8
 | .put _ _ x=>x.Ok/\x.near/\x.nms.Nodup
 | _=>True
structure Dg (e:De):Prop where
 de:Dee e
 gv:e.gv
 nd:∀pa k x,e=.put pa k x\/e=.out pa k x->(∀d∈x.nms,Nm d)/\x.nms.length<=100
def co4{e:De}(g:e.gv){n n':Nd}(h:e.on n=Z n')(ok:n.Ok)(nr:n.near):n'.Ok/\n'.near/\n'.nms=n.nms/\n'.dp=n.dp/\n'.nm=n.nm:=by
  cases e with
  | plc nm a b c d =>
    cases n with
    | layer nm' m s sh lf tp mk w h' l kb =>
      rw[gz]at h;split at h
      . cases h;rw[fX]at ok ⊢;rw[gh]at nr ⊢;exact⟨ok,⟨g.1.1,g.1.2,g.2.1,g.2.2,nr.2.2.2.2⟩,by rw[gj,gj],by rw[gb,gb],by rw[gf,gf]⟩
      . cases h
    | tone=>cases h
    | group=>cases h
  | spt nm x y o v =>
    cases n with
    | layer nm' m s sh lf tp mk w h' l kb =>
      rw[gz]at h;split at h
      . cases h
        rw[fX]at ok ⊢;rw[gh]at nr ⊢
        have o8:∀q∈l.set (y*w+x) v,q.ok 8:=λq hq=>by
          rcases List.mem_or_eq_of_mem_set hq with z|z
          . exact nr.2.2.2.2.2.2.2 q z
          . rw[z];exact g
        obtain⟨k1,S,k3,k4,k5⟩:=ok;refine⟨⟨k1,⟨S.w1,S.w8,S.h1,S.h8,by rw[List.length_set,S.len],λq hq=>Spot.mono (o8 q hq)<|by decide⟩,λq hq=>cq2<|o8 q hq,k4,by decide⟩,⟨nr.1,nr.2.1,nr.2.2.1,nr.2.2.2.1,by decide,nr.2.2.2.2.2.1,nr.2.2.2.2.2.2.1,o8⟩,by rw[gj,gj],by rw[gb,gb],by rw[gf,gf]⟩
      . cases h
    | tone=>cases h
    | group=>cases h
  | _ =>
    cases n<;>first
      | (cases h;done)
      | (rw[gz]at h;split at h
         . cases h;rw[fX]at ok ⊢;rw[gh]at nr ⊢;exact⟨by first|exact ok|exact⟨g,ok.2⟩|exact g,by first|exact nr|trivial,by rw[gj,gj],by rw[gb,gb],by rw[gf,gf]⟩
         . cases h)
def aa0(n:Nd)(l:List Nd):fY (n::l)↔n.Ok/\fY l:=by rw[fY]
def P4(a b:List Nd):gi (a++b)↔gi a/\gi b:=by
 rw[T9,T9,T9];constructor
 .exact λh=>⟨λn hn=>h n<|af _ hn,λn hn=>h n<|ag _ hn⟩
 .intro h n hn;rcases ay.mp hn with q|q
  .exact h.1 n q
  .exact h.2 n q
def Rp.oks{o o' l l':List Nd}(r:Rp o o' l l')(h:fY o->fY o'):fY l->fY l':=by
 induction r with
 | top=>exact h
 | deep _ ih =>
  intro k;rw[u9,aa0,fX]at k ⊢;exact⟨k.1,⟨k.2.1.1,ih k.2.1.2⟩,k.2.2⟩
def Rp.nears{o o' l l':List Nd}(r:Rp o o' l l')(h:gi o->gi o'):gi l->gi l':=by
 induction r with
 | top=>exact h
 | deep _ ih =>
  intro k;rw[P4,gi,gh]at k ⊢;exact⟨k.1,ih k.2.1,k.2.2⟩
def Rp.oksO{o o' l l':List Nd}(r:Rp o o' l l'):fY l->fY o:=by
 induction r with
 | top=>exact id
 | deep _ ih=>intro k;rw[u9,aa0,fX]at k;exact ih k.2.1.2
def Rp.nearsO{o o' l l':List Nd}(r:Rp o o' l l'):gi l->gi o:=by
 induction r with
 | top=>exact id
 | deep _ ih=>intro k;rw[P4,gi,gh]at k;exact ih k.2.1
def Rp.symm{o o' l l':List Nd}(r:Rp o o' l l'):Rp o' o l' l:=by
 induction r with
 | top=>exact .top
 | deep _ ih=>exact .deep ih
def Rp.perm{o o' l l':List Nd}{X:List D}(r:Rp o o' l l')(h:(gk o').Perm (X++gk o)):(gk l').Perm (X++gk l):=by
 induction r with
 | top=>exact h
 | @deep c e nm m s sh ns ns' _ ih =>
  rw[B3,B3,gk,gk,gj,gj];have h1:(nm::gk ns').Perm (X++nm::gk ns):=(List.Perm.cons nm ih).trans List.perm_middle.symm;have h2:(nm::gk ns'++gk e).Perm (X++(nm::gk ns++gk e)):=by rw[← ax];exact h1.append_right _
  refine(List.Perm.append_left _ h2).trans ?_;exact bN ..
def Rp.same{o o' l l':List Nd}(r:Rp o o' l l')(h:gk o'=gk o):gk l'=gk l:=by
 induction r with
 | top=>exact h
 | deep _ ih=>rw[B3,B3,gk,gk,gj,gj,ih]
def Rp.dpsEq{o o' l l':List Nd}(r:Rp o o' l l')(h:gc o'=gc o):gc l'=gc l:=by
 induction r with
 | top=>exact h
 | deep _ ih=>rw[F7,F7,gc,gc,gb,gb,ih]
def Rp.dpsLe{o o' l l':List Nd}(r:Rp o o' l l'):gc l'<=gc l+gc o':=by
 induction r with
 | top=>omega
 | deep _ ih=>rw[F7,F7,gc,gc,gb,gb];omega
def cU5{N:Nat}{l:List Nd}(g:Gp N l){e:De}(ge:e.gv){nm:D}{n n':Nd}(hf:fnd l nm=Z n)(ho:e.on n=Z n'):Gp N (gu nm [n'] l):=by
 obtain⟨a,b,St,R⟩:=am5 g.nd hf;have r:=R n';have h1:=r.oksO g.ok;have h2:=r.nearsO g.nr;rw[u9,aa0]at h1;rw[P4,gi]at h2;obtain⟨q1,q2,q3,q4,q5⟩:=co4 ge ho h1.2.1 h2.2.1;have e1:gk (a++[n']++b)=gk (a++n::b):=by rw[ax,ba,B3,B3,gk,gk,q3]
 have e2:gc (a++[n']++b)=gc (a++n::b):=by rw[ax,ba,F7,F7,gc,gc,q4]
 have e3:=r.same e1;refine⟨r.oks (λ_=>?_) g.ok,r.nears (λ_=>?_) g.nr,by rw[r.dpsEq e2];exact g.dp,by rw[e3];exact g.nm,by rw[e3];exact g.nd,by rw[e3];exact g.len⟩
 .rw[ax,ba,u9,aa0];exact⟨h1.1,q1,h1.2.2⟩
 .rw[ax,ba,P4,gi];exact⟨h2.1,q2,h2.2.2⟩
def v5:Nd->Option (List Nd)
 | .group _ _ _ _ ns=>Z ns
 | _=>O
def inn(ns':List Nd):Nd->Nd
 | .group nm m s sh _=>.group nm m s sh ns'
 | n=>n
def kd(l:List Nd)(pa:D):Option (List Nd):=if same pa (.str "")=true then Z l else(fnd l pa).bind v5
def wk(l:List Nd)(pa:D)(ns':List Nd):List Nd:=if same pa (.str "")=true then ns' else match fnd l pa with
 | some n=>gu pa [inn ns' n] l
 | none=>l
def au1(e:De)(l:List Nd):e.pre l=(kd l e.nm).bind λns=>(e.ls ns).map (wk l e.nm):=by
 unfold De.pre kd;cases s0:same e.nm (.str "") with
 | true =>
  rw[if_pos rfl,if_pos rfl,xbs];have:wk l e.nm=id:=by funext ns';unfold wk;rw[s0,if_pos rfl];rfl
  rw[this,Option.map_id];rfl
 | false =>
  rw[if_neg (by simp),if_neg (by simp)];cases q:fnd l e.nm with
  | none=>rfl
  | some n =>
   rw[xbs,xbs];cases n with
   | layer=>rfl
   | tone=>rfl
   | group nm m s sh ns =>
    rw[grp,v5,xbs,Option.map_map]
    congr 1
    funext ns'
    unfold wk;rw[s0,if_neg (by simp),q];rfl
def Rp.into{a b l l':List Nd}{nm:D}{m:Man}{s:Rat}{sh:Bool}{ns ns':List Nd}(r:Rp (a ++ .group nm m s sh ns::b) (a++[.group nm m s sh ns']++b) l l'):Rp ns ns' l l':=by
 rw[ax,ba]at r;generalize ho:a++Nd.group nm m s sh ns::b=o at r;generalize ho':a++Nd.group nm m s sh ns'::b=o' at r
 induction r with
 | top=>subst ho ho';exact .deep .top
 | deep _ ih=>exact .deep ih
def aF9{l:List Nd}(nd:(gk l).Nodup){pa:D}{ns:List Nd}(h:kd l pa=Z ns)(ns':List Nd):Rp ns ns' l (wk l pa ns'):=by
 unfold kd at h;unfold wk;cases s0:same pa (.str "") with
 | true=>rw[s0,if_pos rfl]at h;cases h;rw[if_pos rfl];exact .top
 | false =>
  rw[s0,if_neg (by simp)]at h;rw[if_neg (by simp)];obtain⟨n,q,hn⟩:=xbo h;rw[q];cases n with
  | layer=>cases hn
  | tone=>cases hn
  | group nm m s sh ms =>
   cases hn;obtain⟨a,b,St,R⟩:=am5 nd q;exact(R<|.group nm m s sh ns').into
def cS5{pa:D}(hp:Nm pa\/pa=.str ""):as4 pa:=by
 rcases hp with h|h
 .exact(P7 h).l
 .rw[h];exact bi8
def cR6{pa:D}(hp:Nm pa\/pa=.str "")(s0:same pa (.str "")=false):Nm pa:=by
 rcases hp with h|h
 .exact h
 .rw[h,D4]at s0;cases s0
def cP9{a:D}{r:Rho}{pa:D}(hp:Nm pa\/pa=.str ""):(tB2 eqD (A1 1)<|dC (.str "")) (‹a›::‹pa›::r)=Z (same pa<|.str ""):=by
 have q:=cq1 (cS5 hp) bi8
 exists evD,q
def aM8{w h:Nat}{l:List Nd}(g:Wl l){pa:D}(hp:Nm pa\/pa=.str ""){ns:List Nd}(hk:kd l pa=Z ns):Q3 [C6 w h l,pa]=Z ↥ns:=by
 refine B2 (ρ:=[‹C6 w h l›,‹pa›,O]) rfl ?_;have t0:=cP9 (a:=C6 w h l) (r:=[O]) hp;unfold kd at hk;cases s0:same pa (.str "") with
 | true =>
  rw[s0]at t0 hk;rw[if_pos rfl]at hk;cases hk;refine D9<|(E2 t0).trans ?_
  exists evD,C6
 | false =>
  rw[s0]at t0 hk;rw[if_neg (by simp)]at hk;obtain⟨n,q,hn⟩:=xbo hk;have f1:=aL9 (w:=w) (h:=h) g (cR6 hp s0) q;have ig:=D2 n;cases n with
  | layer=>cases hn
  | tone=>cases hn
  | group nm m s sh ms =>
   cases hn;refine(A6<|(C1 t0).trans rfl).trans ((A6 (by exists evD,f1;rfl)).trans<|(A6 (by exists evD,ig;rfl)).trans ?_)
   exists evD,aq3
def aC9{w h:Nat}{l:List Nd}(g:Wl l){pa:D}(hp:Nm pa\/pa=.str ""){ns:List Nd}(hk:kd l pa=Z ns)(ns':List Nd):L0 [C6 w h l,pa,↥ns']=Z (C6 w h<|wk l pa ns'):=by
 refine B2 (ρ:=[‹C6 w h l›,‹pa›,‹↥ns'›]) rfl ?_;have t0:=cP9 (a:=C6 w h l) (r:=[‹↥ns'›]) hp;unfold kd at hk;unfold wk;cases s0:same pa (.str "") with
 | true =>
  rw[s0]at t0;rw[if_pos rfl];refine D9<|(E2 t0).trans ?_
  exists evD,C6
 | false =>
  rw[s0]at t0 hk;rw[if_neg (by simp)]at hk ⊢;obtain⟨n,q,hn⟩:=xbo hk;rw[q];obtain⟨h1,h2⟩:=P0 q;obtain⟨a,b,St⟩:=W5 g.nd h1;cases n with
  | layer=>cases hn
  | tone=>cases hn
  | group nm m s sh ms =>
   cases hn;have f1:=bL0 (w:=w) (h:=h) g St;have f2:=aX4 (w:=w) (h:=h) g St (.group nm m s sh ns');rw[h2]at f1 f2;have wi:=aD0 (nm:=nm) (m:=m) (s:=s) (sh:=sh) (ns:=ns) (ns':=ns');refine(A6<|(C1 t0).trans rfl).trans ?_
   exists evD,f1,wi,f2,inn
def nmV{e:De}(d:Dg e)(hv:e.isV=true):Nm e.nm:=by
 rcases d.de.nmo with h|⟨h,_⟩
 .exact h
 .rw[hv]at h;cases h
def cI8{w h N:Nat}{l:List Nd}(g:Gp N l)(hN:N<=400){e:De}(d:Dg e)(hv:e.isV=true){l':List Nd}(hk:dn l e=Z l'):R1 [C6 w h l,e.d]=Z (C6 w h l'):=by
 have W:=g.wl hN;have tg:=V4 e;unfold dn at hk;rw[if_pos hv]at hk;obtain⟨n,q,hk⟩:=xbo hk;have f1:=aL9 (w:=w) (h:=h) W (nmV d hv) q;obtain⟨n1,n2⟩:=P0 q;have ok:=(av5 3 l g.dp g.ok n n1).1;have hh:=cH5 e hv n;cases qh:e.has n with
 | false=>rw[cH6 hv qh]at hk;cases hk
 | true =>
  rw[qh]at hh;obtain⟨v,b,v1,v2,v3,v4⟩:=ct9 e hv n ok d.de.sz qh;have ol:=cy7 e;cases b with
  | true=>rw[v3 rfl]at hk;cases hk
  | false =>
   obtain⟨n',o1,o2⟩:=v4 rfl;rw[o1]at hk;cases hk;obtain⟨a,b,St⟩:=W5 g.nd n1;have k1:=aX4 (w:=w) (h:=h) W St n';rw[n2]at k1;refine B2 (ρ:=[‹C6 w h l›,‹e.d›,O,O]) rfl ?_;refine(A6 (by exists evD,tg;rfl)).trans ((A6 (by exists evD,f1;rfl)).trans<|(A6 (by exists evD,hh;rfl)).trans ((A6 (by exists evD,v1,ol,v2;rfl)).trans ?_))
   exists evD,o2,k1
def Rp.sub{o o' l l':List Nd}(r:Rp o o' l l'):(∀d∈gk o,d∈gk l)/\(gk o).length<=(gk l).length/\gc o<=gc l:=by
 induction r with
 | top=>exact⟨λ_ h=>h,ak _,ak _⟩
 | deep _ ih =>
  rw[B3,gk,gj,F7,gc,gb];refine⟨λd hd=>ag _<|af _ (xmm _<|ih.1 d hd),?_,by grind⟩;rw[ah,ah,aH];grind
def V6{N:Nat}{l:List Nd}(g:Gp N l)(hN:N<=400){pa:D}{ns:List Nd}(h:kd l pa=Z ns):ns.length<=400/\(∀d∈gk ns,d∈gk l)/\gc ns<=3/\fY ns/\gi ns:=by
 have r:=aF9 g.nd h ns;obtain⟨s1,s2,s3⟩:=r.sub;have:=g.len;have t:=thins_of ns (by grind);have:=g.dp;exact⟨by grind,s1,by grind,r.oksO g.ok,r.nearsO g.nr⟩
def ai0{ns:List Nd}{k:Nat}{y:Nd}(h:ns[k]? = Z y):ns=ns.take k++y::ns.drop (k+1):=by
 obtain⟨hk,e⟩:=ao.mp h;rw[← e,List.getElem_cons_drop,bn]
def au0{N:Nat}{l:List Nd}(g:Gp N l)(hN:N<=400){pa:D}{k:Nat}{x:Nd}(d:Dg (.put pa k x)){ns:List Nd}(hk:kd l pa=Z ns)(hl:k<=ns.length):
  fY (wk l pa (ns.take k++x::ns.drop k))/\gi (wk l pa (ns.take k++x::ns.drop k))/\(gk<|wk l pa (ns.take k++x::ns.drop k)).Perm (x.nms++gk l)/\gc (wk l pa (ns.take k++x::ns.drop k))<=7:=by
 have r:=aF9 g.nd hk (ns.take k++x::ns.drop k);obtain⟨f1,f2,f3,f4,f5⟩:=V6 g hN hk;obtain⟨o1,o2,o3⟩:=d.gv;have e:ns=ns.take k++ns.drop k:=(bn k ns).symm;have h4:fY (ns.take k)/\fY (ns.drop k):=(u9 _ _).mp (by rw[← e];exact f4);have h5:gi (ns.take k)/\gi (ns.drop k):=(P4 _ _).mp (by rw[← e];exact f5);have h3:gc (ns.take k)<=3/\gc (ns.drop k)<=3:=by rw[e,F7]at f3;grind
 refine⟨r.oks (λ_=>?_) g.ok,r.nears (λ_=>?_) g.nr,r.perm ?_,?_⟩
 .rw[u9,aa0];exact⟨h4.1,o1,h4.2⟩
 .rw[P4,gi];exact⟨h5.1,o2,h5.2⟩
 .conv=>rhs;rw[e]
  rw[B3,B3,gk];exact bN ..
 .have:=r.dpsLe;have:=(d.de.nd pa k x<|.inl rfl).2.1;have:=g.dp;rw[F7,gc]at *
  grind
def af6{l:List Nd}{x:Nd}(n1:x.nms.Nodup)(n2:(gk l).Nodup):(x.nms++gk l).Nodup↔(x.nms.any λd=>(gk l).any λc=>same c d)=false:=by
 rw[aD,bP];constructor
 .rintro⟨_,_,h⟩ d hd z
  obtain⟨c,hc,e⟩:=bc.mp z;exact h d hd c hc (G4.mp e).symm
 .intro h;refine⟨n1,n2,λa ha b hb e=>h a ha<|bc.mpr ⟨b,hb,G4.mpr e.symm⟩⟩
def cH7{N:Nat}{l:List Nd}(g:Gp N l)(hN:N<=400){pa:D}{k:Nat}{x:Nd}(d:Dg (.put pa k x)){l':List Nd}(h:dn l (.put pa k x)=Z l'):Gp (N+x.nms.length) l':=by
 unfold dn at h;rw[if_neg (by intro z;cases z)]at h;split at h
 .cases h
 .rename_i c;obtain⟨l1,h1,h2⟩:=xbo h;rw[au1]at h1;obtain⟨ns,k1,k2⟩:=xbo h1;obtain⟨ns',k3,k4⟩:=xmo k2;rw[gA]at k3;split at k3
  .rename_i hl;cases k3;split at h2
   .rename_i dp;cases h2;obtain⟨f1,f2,f3,f4⟩:=au0 g hN d k1 hl;have k4:wk l pa (ns.take k++x::ns.drop k)=l':=k4;rw[k4]at f1 f2 f3
    have c:(x.nms.any λd=>(gk l).any λc=>same c d)=false:=by
     cases q:(x.nms.any λd=>(gk l).any λc=>same c d) with
     | false=>rfl
     | true=>exact absurd q c
    refine⟨f1,f2,dp,λy hy=>?_,f3.symm.nodup<|(af6 d.gv.2.2 g.nd).mpr c,?_⟩
    .rcases ay.mp (f3.mem_iff.mp hy) with z|z
     .exact(d.nd pa k x<|.inl rfl).1 y z
     .exact g.nm y z
    .have:=f3.length_eq;rw[ah]at this;have:=g.len
     grind
   .cases h2
  .cases k3
def cH8{N:Nat}{l:List Nd}(g:Gp N l)(hN:N<=400){pa:D}{k:Nat}{x:Nd}{l':List Nd}(h:dn l (.out pa k x)=Z l'):Gp N l':=by
 unfold dn at h;rw[if_neg (by intro z;cases z),if_neg (by simp[R0])]at h;obtain⟨l1,h1,h2⟩:=xbo h;rw[au1]at h1;obtain⟨ns,k1,k2⟩:=xbo h1;obtain⟨ns',k3,k4⟩:=xmo k2;rw[gA]at k3;split at k3
 .rename_i hy;cases k3;split at h2
  .rename_i dp;cases h2;have k4:wk l pa (ns.take k++ns.drop (k+1))=l':=k4
   obtain⟨y,ey,_⟩:∃y,ns[k]? = Z y/\True:=by
    cases q:ns[k]? with
    | none=>rw[q]at hy;cases hy
    | some y=>exact⟨y,rfl,trivial⟩
   have es:=ai0 ey;have r:=aF9 g.nd (show kd l pa=Z ns from k1) (ns.take k++ns.drop (k+1));rw[k4]at r;obtain⟨f1,f2,f3,f4,f5⟩:=V6 g hN k1;rw[es,u9,aa0]at f4;rw[es,P4,gi]at f5
   have P:=r.symm.perm (X:=y.nms) (by
    conv=>lhs;rw[es]
    rw[B3,B3,gk]
    exact bN ..)
   have nd:=P.nodup g.nd;refine⟨r.oks (λ_=>?_) g.ok,r.nears (λ_=>?_) g.nr,dp,λz hz=>g.nm z<|P.mem_iff.mpr (ag _ hz),(aD.mp nd).2.1,?_⟩
   .rw[u9];exact⟨f4.1,f4.2.2⟩
   .rw[P4];exact⟨f5.1,f5.2.2⟩
   .have:=P.length_eq;rw[ah]at this;have:=g.len
    grind
  .cases h2
 .cases k3
def De.pn:De->Nat
 | .put _ _ x=>x.nms.length
 | _=>0
def ar1{N:Nat}{l:List Nd}(g:Gp N l)(hN:N<=400){e:De}(d:Dg e){l':List Nd}(h:dn l e=Z l'):Gp (N+e.pn) l':=by
 have up:∀{M:Nat},Gp M l'->M<=N+e.pn->Gp (N+e.pn) l':=λq hm=>⟨q.ok,q.nr,q.dp,q.nm,q.nd,aQ q.len hm⟩
 cases hv:e.isV with
 | true =>
  unfold dn at h;rw[if_pos hv]at h;obtain⟨n,h1,h2⟩:=xbo h;obtain⟨n',h3,h4⟩:=xmo h2;rw[← h4];rw[← h4]at up;exact up (cU5 g d.gv h1 h3) (by grind)
 | false =>
  cases e with
  | put pa k x=>exact up (cH7 g hN d h)<|ak _
  | out pa k x=>exact up (cH8 g hN h) (by grind)
  | _=>cases hv
def De.isO:De->Bool
 | .out ..=>true
 | _=>false
def aa1(e:De):U8 [e.d]=Z (.bool e.isP)/\o9 [e.d]=Z (.bool e.isO):=by cases e<;>(rw[gy];exact⟨by kernel_rfl,by kernel_rfl⟩)
abbrev s6(w h:Nat)(l:List Nd)(e:De)(a b c d:Option B):Rho:=[‹C6 w h l›,‹e.d›,a,b,c,d]
structure Sz (w h:Nat):Prop where
 w1:1<=w
 w8:w<=8
 h1:1<=h
 h8:h<=8
def co3{e:De}(d:Dg e):Nm e.nm\/e.nm=.str "" := by
 rcases d.de.nmo with h|⟨_,h⟩
 .exact .inl h
 .exact .inr h
def bT3{l:List Nd}{pa:D}{k:Nat}{x:Nd}:dn l (.put pa k x)=if R0 l (.put pa k x)=true then O else((kd l pa).bind λns=>((De.put pa k x).ls ns).map<|wk l pa).bind λl'=>if gc l'<=3 then Z l' else O:=by
 unfold dn;rw[if_neg (by intro z;cases z),au1];rfl
def cI9{l:List Nd}{pa:D}{k:Nat}{x:Nd}:dn l (.out pa k x)=((kd l pa).bind λns=>((De.out pa k x).ls ns).map<|wk l pa).bind λl'=>if gc l'<=3 then Z l' else O:=by
 unfold dn;rw[if_neg (by intro z;cases z),if_neg (by simp[R0]),au1];rfl
def cP5{w h N:Nat}(S:Sz w h){l:List Nd}(g:Gp N l)(hN:N<=400){pa:D}{k:Nat}{x:Nd}(d:Dg (.put pa k x)){ns:List Nd}(q:kd l pa=Z ns)(hl:k<=ns.length):
  O7 [C6 w h (wk l pa (ns.take k++x::ns.drop k))]=Z (.bool (dn l<|.put pa k x).isSome)/\∀l',dn l (.put pa k x)=Z l'->l'=wk l pa (ns.take k++x::ns.drop k):=by
 obtain⟨u1,u2,u3,u4⟩:=au0 g hN d q hl;have dnE:dn l (.put pa k x)=if R0 l (.put pa k x)=true then O else if gc (wk l pa (ns.take k++x::ns.drop k))<=3 then Z (wk l pa (ns.take k++x::ns.drop k)) else O:=by rw[bT3,q,xbs,gA,if_pos hl,xms,xbs]
 generalize wk l pa (ns.take k++x::ns.drop k)=l1 at u1 u2 u3 u4 dnE ⊢;have len:=u3.length_eq;rw[ah]at len;have xl:=(d.nd pa k x<|.inl rfl).2;have gl:=g.len;have nl:(gk l1).length<=1000:=by grind
 have pb:=aM7 (w:=w) (h:=h) (l:=l1) ⟨S.w1,S.w8,S.h1,S.h8,u1,nears_off' l1 u2 (thins_of l1 nl).1,λy hy=>by
  rcases ay.mp (u3.mem_iff.mp hy) with z|z
  .exact(d.nd pa k x<|.inl rfl).1 y z
  .exact g.nm y z,nl⟩
 have nc:=(af6 (x:=x) d.gv.2.2 g.nd);have ci:R0 l (.put pa k x)=(x.nms.any λd=>(gk l).any λc=>same c d):=rfl;rw[pb,dnE,ci];cases qc:(x.nms.any λd=>(gk l).any λc=>same c d) with
 | true =>
  have:¬(gk l1).Nodup:=λz=>by
   have:=nc.mp (u3.nodup z);rw[qc]at this;cases this
  rw[if_pos rfl];exact⟨by simp[this],λl' z=>nomatch z⟩
 | false =>
  have:(gk l1).Nodup:=u3.symm.nodup (nc.mpr qc);rw[if_neg (by simp)];by_cases hd:gc l1<=3
  .rw[if_pos hd];exact⟨by simp[this,hd],λl' z=>by cases z;rfl⟩
  .rw[if_neg hd];exact⟨by simp[hd],λl' z=>nomatch z⟩
def bH5{w h N:Nat}{l:List Nd}(g:Gp N l)(hN:N<=400){pa:D}{k:Nat}{x:Nd}{ns:List Nd}(q:kd l pa=Z ns)(hl:k<=ns.length):(A0 (A1 0)<|A0 (A1 2) (A0 (A5 B1 (A5 B1 (E3 (A1 4) C7<|B7 (A1 3))<|B6 (A0 (A2 L6<|A0 (A1 1) A3) A3))<|E3 (A1 4) (B7<|A1 3) C7) A3)) (s6 w h l (.put pa k x) (‹pa›) (‹.int k›) (‹↥ns›) O)=Z [C6 w h l,pa,↥(ns.take k++x::ns.drop k)]:=by
 have no:L6 [(De.put pa k x).d]=Z x.d:=by rw[gy];rfl
 obtain⟨m1,_⟩:=V6 g hN q;have c:=aI3 (xs:=fW ns) (i:=k) (by rw[N9];exact hl);rw[aq7,aq8]at c;have k1:=bC4 (a:=ns.take k) (b:=[x]) (by rw[aA,aN];grind);have k2:=bC4 (a:=ns.take k++[x]) (b:=ns.drop k) (by rw[ah,aA,aN,aS];grind);rw[am6]at k1;rw[ax,ba]at k2
 exists evD,s6,E3,no,c.1,c.2,k1,k2
def cw2{w h:Nat}{l:List Nd}{e:De}{a:Option B}{k:Nat}{ns:List Nd}:(tB2 gtI (A1 3)<|Q5 (A8 4)) (s6 w h l e a (‹.int k›) (‹↥ns›) O)=Z (decide (ns.length < k)):=by
 have e:decide ((ns.length:Int) < (k:Int))=decide (ns.length < k):=decide_eq_decide.mpr (by omega)
 exists evD,s6,N9,e
def bT1{w h N:Nat}(S:Sz w h){l:List Nd}(g:Gp N l)(hN:N<=400){pa:D}{k:Nat}{x:Nd}(d:Dg (.put pa k x)){l':List Nd}(hk:dn l (.put pa k x)=Z l'):Z2 [C6 w h l,(De.put pa k x).d]=Z (C6 w h l'):=by
 have W:=g.wl hN;have hp:Nm pa\/pa=.str "" := co3 d;have tg:J7 [(De.put pa k x).d]=Z pa:=V4 (.put pa k x);have nu:L4 [(De.put pa k x).d]=Z (.int k):=by rw[gy];rfl
 have hk0:=hk;rw[bT3]at hk;split at hk
 .cases hk
 obtain⟨z1,e1,_⟩:=xbo hk;obtain⟨ns,q,e2⟩:=xbo e1
 have hl:k<=ns.length:=by
  rw[gA]at e2;split at e2
  .assumption
  .cases e2
 have f1:=aM8 (w:=w) (h:=h) W hp q;have t3:=cw2 (w:=w) (h:=h) (l:=l) (e:=.put pa k x) (a:=‹pa›) (k:=k) (ns:=ns);rw[decide_eq_false (by grind)]at t3;have w1:=aC9 (w:=w) (h:=h) W hp q (ns.take k++x::ns.drop k);obtain⟨b1,b2⟩:=cP5 S g hN d q hl;rw[hk0]at b1;rw[b2 l' hk0];refine B2 (ρ:=s6 w h l (.put pa k x) O O O O) rfl ?_;refine(A6 (by exists evD,k9,s6,tg;rfl)).trans ((A6 (by exists evD,k8,nu;rfl)).trans<|(A6 (by exists evD,j9,f1)).trans ((A6<|(C1 t3).trans rfl).trans ?_));refine(A6 (ρ':=s6 w h l (.put pa k x) (‹pa›) (‹.int k›) (‹↥ns›)<|‹C6 w h (wk l pa (ns.take k++x::ns.drop k))›) ?_).trans ((A6 (by exists evD,j7,s6,b1,cQ;rfl)).trans rfl);simp only[j8,B4,A2,bH5 g hN q hl,xbs,w1,xms,s6,xw0,xw1]
abbrev s5(w h:Nat)(l:List Nd)(e:De)(a b c:Option B):Rho:=[‹C6 w h l›,‹e.d›,a,b,c]
def cQ1{w h N:Nat}{l:List Nd}(g:Gp N l)(hN:N<=400){pa:D}{k:Nat}{x:Nd}(d:Dg (.out pa k x)){ns:List Nd}(q:kd l pa=Z ns):(tB2 neD (E3 (A1 4) (B7<|A1 3)<|B7 (A5 B1 (A1 3) ⇑1))<|B6 (A0 (A2 L6<|A0 (A1 1) A3) A3)) (s5 w h l (.out pa k x) (‹pa›) (‹.int k›)<|‹↥ns›)=Z (!(ns[k]?).any λy=>fJ y.d x.d):=by
 have no:L6 [(De.out pa k x).d]=Z x.d:=by rw[gy];rfl
 obtain⟨m1,m2,m3,m4,m5⟩:=V6 g hN q;have i1:(k:Int)+1=((k+1:Nat):Int):=by grind
 have lyx:=d.de.ly pa k x (.inr rfl);have lyn:∀y∈ns,Ly 60 y.d:=λy hy=>(ay5 y λz hz=>P7<|g.nm z (m2 z<|K7 hy hz)).mono (by have:=J0 hy;grind)
 have cs:R8 (fW ns) (Z (k:Int)) (Z ((k+1:Nat):Int))=fW ((ns.drop k).take 1):=by
  unfold R8;rw[HT.sIx_nat,HT.sIx_nat,N9];rcases bL k ns.length with z|z
  .rw[bJ (by grind),bJ (by grind),show k+1 - k=1 by grind,aq8,aq7]
  .rw[dj (by grind),dj (by grind),bY,List.take_zero,cF z];rfl
 have nb:neD ↥((ns.drop k).take 1) (.tuple [x.d])=Z (.bool (!(ns[k]?).any λy=>fJ y.d x.d)):=by
  cases e:ns[k]? with
  | none =>
   have:ns.drop k=[]:=cF (List.getElem?_eq_none_iff.mp e);rw[this];unfold neD;rw[if_pos ⟨rfl,(Ly.tup (n:=60) λz hz=>by rw[au.mp hz];exact lyx).shaped<|by decide⟩];rfl
  | some y =>
   obtain⟨hk,ey⟩:=ao.mp e;have:(ns.drop k).take 1=[y]:=by rw[bG hk,ey];rfl
   rw[this,am6];unfold neD;have ly:=lyn y (by rw[← ey];exact aT hk);rw[if_pos ⟨(Ly.tup (n:=60) λz hz=>by rw[au.mp hz];exact ly).shaped (by decide),(Ly.tup (n:=60) λz hz=>by rw[au.mp hz];exact lyx).shaped<|by decide⟩]
   congr 2
   simp[fJ,PyData.eqvAll]
 exists evD,s5,E3,no,i1,cs,nb
def bT2{w h N:Nat}{l:List Nd}(g:Gp N l)(hN:N<=400){pa:D}{k:Nat}{x:Nd}(d:Dg (.out pa k x)){l':List Nd}(hk:dn l (.out pa k x)=Z l'):Z3 [C6 w h l,(De.out pa k x).d]=Z (C6 w h l'):=by
 have W:=g.wl hN;have hp:Nm pa\/pa=.str "" := co3 d;have tg:J7 [(De.out pa k x).d]=Z pa:=V4 (.out pa k x);have nu:L4 [(De.out pa k x).d]=Z (.int k):=by rw[gy];rfl
 rw[cI9]at hk;obtain⟨z1,e1,e3⟩:=xbo hk;obtain⟨ns,q,e2⟩:=xbo e1
 have e3:l'=z1:=by
  split at e3
  .cases e3;rfl
  .cases e3
 subst e3;have f1:=aM8 (w:=w) (h:=h) W hp q;have t3:=cQ1 (w:=w) (h:=h) g hN d q;rw[gA]at e2;cases qa:(ns[k]?).any λy=>fJ y.d x.d with
 | false=>rw[qa]at e2;cases e2
 | true =>
  rw[qa,if_pos rfl]at e2;cases e2;rw[qa]at t3
  obtain⟨y,ey⟩:∃y,ns[k]? = Z y:=by
   cases e:ns[k]? with
   | none=>rw[e]at qa;cases qa
   | some y=>exact⟨y,rfl⟩
  have hk:k < ns.length:=(ao.mp ey).1;obtain⟨m1,_⟩:=V6 g hN q;have i1:(k:Int)+1=((k+1:Nat):Int):=by grind
  have ca:=(aI3 (xs:=fW ns) (i:=k) (by rw[N9];grind)).1;have cb:=(aI3 (xs:=fW ns) (i:=k+1) (by rw[N9];grind)).2;rw[aq7]at ca;rw[aq8]at cb;have k1:=bC4 (a:=ns.take k) (b:=ns.drop<|k+1) (by rw[aA,aS];grind);have w1:=aC9 (w:=w) (h:=h) W hp q (ns.take k++ns.drop (k+1));refine B2 (ρ:=s5 w h l (.out pa k x) O O O) rfl ?_;refine(A6 (by exists evD,s5,tg;rfl)).trans ((A6 (by exists evD,nu;rfl)).trans<|(A6 (by exists evD,f1)).trans ((A6<|(C1 t3).trans rfl).trans ?_))
  exists evD,s5,E3,i1,ca,cb,k1,w1
def ai4{w h N:Nat}(S:Sz w h){l:List Nd}(g:Gp N l)(hN:N<=400){e:De}(d:Dg e){l':List Nd}(hl:dn l e=Z l'):P6 [C6 w h l,e.d]=Z (C6 w h l'):=by
 obtain⟨i1,i2⟩:=aa1 e;refine rX2 ?_;cases hv:e.isV with
 | true =>
  have f1:=cI8 (w:=w) (h:=h) g hN d hv hl;have z1:e.isP=false:=by cases e<;>first|rfl|cases hv
  have z2:e.isO=false:=by cases e<;>first|rfl|cases hv
  rw[z1]at i1;rw[z2]at i2;refine(A6 (by exists evD,i1;rfl)).trans ((A6 (by exists evD,i2;rfl)).trans ?_)
  exists evD,f1
 | false =>
  cases e with
  | put pa k x =>
   have f1:=bT1 S g hN d hl;exact D9 (by exists evD,i1,De.isP,f1)
  | out pa k x =>
   have f1:=bT2 (w:=w) (h:=h) g hN d hl;exact(A6 (by exists evD,i1,De.isP;rfl)).trans (D9 (by exists evD,i2,De.isO,f1))
  | _=>cases hv
def bw3{N:Nat}{l:List Nd}(g:Gp N l)(hN:N<=400){e:De}(d:Dg e){l':List Nd}(hp:e.pre l=Z l'):gc l'<=10/\(gk l').length<=500:=by
 rw[au1]at hp;obtain⟨ns,k1,k2⟩:=xbo hp;obtain⟨ns',k3,k4⟩:=xmo k2;cases e with
 | put pa k x =>
  rw[gA]at k3;split at k3
  .rename_i hl;cases k3;obtain⟨f1,f2,f3,f4⟩:=au0 g hN d k1 hl;have k4:wk l pa (ns.take k++x::ns.drop k)=l':=k4;rw[k4]at f3 f4;have:=f3.length_eq;rw[ah]at this;have:=(d.nd pa k x<|.inl rfl).2;have:=g.len;exact⟨by grind,by grind⟩
  .cases k3
 | out pa k x =>
  rw[gA]at k3;split at k3
  .rename_i hy;cases k3;have k4:wk l pa (ns.take k++ns.drop (k+1))=l':=k4;have r:=aF9 g.nd (show kd l pa=Z ns from k1) (ns.take k++ns.drop (k+1));rw[k4]at r
   obtain⟨y,ey⟩:∃y,ns[k]? = Z y:=by
    cases q:ns[k]? with
    | none=>rw[q]at hy;cases hy
    | some y=>exact⟨y,rfl⟩
   have es:=ai0 ey
   have P:=r.symm.perm (X:=y.nms) (by
    conv=>lhs;rw[es]
    rw[B3,B3,gk]
    exact bN ..)
   have:=P.length_eq;rw[ah]at this
   have dp:=r.dps (bs6 λn hn=>.inr (by
    rcases ay.mp hn with z|z
    .exact bC z
    .exact bD z))
   have:=g.len;have:=g.dp;exact⟨by grind,by grind⟩
  .cases k3
 | _=>cases k3
def V5{p:D->D->Option D}{f g:DE}{ρ:Rho}{x y:D}{b:Bool}(hf:f ρ=Z x)(hg:g ρ=Z y)(h:p x y=Z (.bool b)):tB2 p f g ρ=Z b:=by unfold tB2 A5;rw[hf,hg,xbs,xbs,h];rfl
def bM6{a:Rho->Option (List D)}{ρ:Rho}{xs:List D}(h:a ρ=Z xs):S8 a ρ=Z (.list xs):=by unfold S8;rw[h];rfl
def bq9{w h N:Nat}{l:List Nd}(g:Gp N l)(hN:N<=400){e:De}(d:Dg e):Y5 [C6 w h l,e.d]=Z (cc4 w h<|dn l e):=by
 have G0:=g.pl hN;cases hv:e.isV with
 | true=>exact by3 e hv G0 d.de
 | false =>
  obtain⟨r,er⟩:=e.parts;have wp:e.w = "put" \/ e.w = "out" := by cases e<;>first|(cases hv;done)|exact .inl rfl|exact .inr rfl
  have ip:inD true (.str e.w) (.tuple [.str "put", .str "out"])=Z (.bool false):=cp4 (b:=true) (by rcases wp with z|z<;>(rw[z];decide +kernel));refine bc1 G0 _ ?_;rw[er];have t2:(tB2 (inD true) (dIx (A8 1) ⇑0)<|B6 (A0 (dC<|.str "put")<|A0 (dC<|.str "out") A3)) (r9 w h l (.tuple (.str e.w::e.nm::r)) O O O)=Z false:=by exists evD,r9,cl7,ip
  rw[cn0,A6 ((C1 t2).trans rfl)]
  have s3:Q6 (r9 w h l (.tuple (.str e.w::e.nm::r)) O O O)=if R0 l e=true then Z (.rt .none) else Z (.nx<|r9 w h l (.tuple (.str e.w::e.nm::r)) O O O):=by
   cases e with
   | put pa k x =>
    rw[gy]at er;injection er with er
    have er:r=[.int k,x.d]:=by
     injection er with _ er
     injection er with _ er
     exact er.symm
    subst er;obtain⟨x1,x2,x3⟩:=d.de.nd pa k x (.inl rfl);have t3:(tB2 eqD (dIx (A8 1) ⇑0)<|dC (.str "put")) (r9 w h l (.tuple [.str "put", pa,.int k,x.d]) O O O)=Z true:=by exists evD,r9,cr7,cM9
    have al:=congrArg eO (aW4 x);rw[aj]at al;have e1:gx [x]=gw x:=by rw[gx,gx,br]
    have eA:=aW2 4 [x] 12 (by rw[gc,gc];grind) (by decide) (by rw[e1];grind);rw[am6,e1]at eA;have src:M9 (A2 (K2 12)<|A0 (B6<|A0 (dIx (A8 1) ⇑3) A3) A3) (r9 w h l (.tuple [.str "put", pa,.int k,x.d]) O O O)=Z ((gw x).map fV):=by exists evD,r9,cW6,eA
    have cm:=aS5 G0 x1 x2 x3 src rfl;have ne:=bl9 (l:=l) x1 x2;have t4:(tB2 neD (S8<|C5 1 [5] (M9<|A2 (K2 12) (A0 (B6<|A0 (dIx (A8 1) ⇑3) A3) A3)) (B5 0) (tB2 (G.inK false) (dIx (A8 0) ⇑1)<|A1 1) (A1 0))<|S8 A3) (r9 w h l (.tuple [.str "put", pa,.int k,x.d]) O O O)=Z (R0 l<|.put pa k x):=by exact V5 (bM6 cm) (bM6 rfl) ne
    have t5:(p9 (tB2 eqD (dIx (A8 1) ⇑0)<|dC (.str "put"))<|tB2 neD (S8<|C5 1 [5] (M9<|A2 (K2 12) (A0 (B6<|A0 (dIx (A8 1) ⇑3) A3) A3)) (B5 0) (tB2 (G.inK false) (dIx (A8 0) ⇑1)<|A1 1) (A1 0)) (S8 A3)) (r9 w h l (.tuple [.str "put", pa,.int k,x.d]) O O O)=Z (R0 l<|.put pa k x):=by unfold p9;rw[t3];exact t4
    show Q6 (r9 w h l (.tuple [.str "put", pa,.int k,x.d]) O O O)=_;unfold Q6;cases qc:R0 l (.put pa k x) with
    | true=>rw[qc]at t5;rw[E2 t5];rfl
    | false=>rw[qc]at t5;rw[C1 t5];rfl
   | out pa k x =>
    have t3:(tB2 eqD (dIx (A8 1) ⇑0)<|dC (.str "put")) (r9 w h l (.tuple (.str "out" :: pa::r)) O O O)=Z false:=by exists evD,r9,cl7,bY2
    have t5:∀T,(p9 (tB2 eqD (dIx (A8 1) ⇑0)<|dC (.str "put")) T) (r9 w h l (.tuple (.str "out" :: pa::r)) O O O)=Z false:=λT=>by unfold p9;rw[t3];rfl
    show Q6 (r9 w h l (.tuple (.str "out" :: pa::r)) O O O)=_;unfold Q6;rw[C1 (t5 _)];rfl
   | _=>cases hv
  unfold dn;rw[if_neg (by rw[hv];simp)];cases qc:R0 l e with
  | true=>rw[qc,if_pos rfl]at s3;rw[if_pos rfl];exact D9 s3
  | false =>
   rw[qc,if_neg (by simp)]at s3;rw[if_neg (by simp),A6 s3];obtain⟨a8,s4⟩:=cw9 (w:=w) (h:=h) e hv G0 d.de er;rw[A6 s4];cases qp:e.pre l with
   | none =>
    rw[al7,Option.bind_none];refine D9 ?_
    exists evD,t7,r9,bP8
    rfl
   | some l' =>
    obtain⟨b1,b2⟩:=bw3 g hN d qp;have th:=thins_of l' (by grind);have dp:=ck3 10 l' 12 b1 (by decide) (by grind) th.1
    have t6:(M6 (tB2 isB (A1 7)<|dC .none)<|tB2 gtI (A2 (T2 12)<|A0 (A1 7) A3) ⇑3) (r9 w h l (.tuple (.str e.w::e.nm::r)) O (‹↥l'›) a8)=Z (decide (3 < gc l')):=by
     have e3:decide ((3:Int) < (gc l':Int))=decide (3 < gc l'):=decide_eq_decide.mpr (by grind)
     exists evD,r9,bj5,dp,e3
    rw[al7,xbs];unfold t7;by_cases h3:gc l'<=3
    .rw[decide_eq_false (by grind)]at t6;rw[if_pos h3,A6 ((C1 t6).trans rfl)]
     exists evD,ae6,r9,cc4,C6
    .rw[decide_eq_true (by grind)]at t6;rw[if_neg h3];refine D9 ((E2 t6).trans ?_);rfl
def De.inv:De->De
 | .str nm o n=>.str nm n o
 | .shw nm o n=>.shw nm n o
 | .man nm o n=>.man nm n o
 | .plc nm a b c d=>.plc nm c d a b
 | .spt nm x y o n=>.spt nm x y n o
 | .put pa k x=>.out pa k x
 | .out pa k x=>.put pa k x
def ci6(e:De):e.inv.inv=e:=by cases e<;>rfl
def ag8(e:De):N3 [e.d]=Z e.inv.d:=by cases e<;>(rw[De.inv,gy,gy];kernel_rfl)
def cB0{m o:Man}(h:m.s=o.s):m=o:=by cases m<;>cases o<;>first|rfl|(exact absurd h<|by decide +kernel)
def cA4{a b:Q4}(h:neB a b=false):a=b:=by
 have e:=bi5 a b;rw[h]at e;unfold neD at e;split at e
 .simp only[bq.injEq,PyData.bool.injEq,Bool.not_eq_false']at e;have e:PyData.eqvAll [fr a.c,fr a.x,fr a.y,fr a.z] [fr b.c,fr b.x,fr b.y,fr b.z]=true:=e;simp only[PyData.eqvAll,cj9]at e;cases a;cases b;simp only[Q4.mk.injEq];simp at e;exact⟨e.1,e.2.1,e.2.2.1,e.2.2.2⟩
 .cases e
def cd1{e:De}{n n':Nd}(h:e.on n=Z n')(ok:n.Ok):∃n2,e.inv.on n'=Z n2/\n2.d=n.d:=by
  cases e with
  | spt nm x y o v =>
    cases n with
    | layer nm' m s sh lf tp mk w h' l kb =>
      rw[gz]at h;split at h
      . rename_i q
        cases h;obtain⟨q1,q2,q3⟩:=q;have q3:=cA4 q3;rw[fX]at ok;have S:=ok.2.1
        have bw:y*w+x < l.length:=by
          rw[S.len];have:(y+1)*w<=h'*w:=cL _ (by omega);rw[dt]at this;rw[bZ w h'];omega
        have nn:neB v v=false:=by
          cases z:neB v v with
          | false=>rfl
          | true=>exact absurd rfl<|bL4 z
        refine⟨.layer nm' m s sh lf tp mk w h' ((l.set (y*w+x) v).set (y*w+x) o) 32,?_,?_⟩
        . have c3:neB ((l.set (y*w+x) v).getD (y*w+x) q0) v=false:=by rw[aZ,aJ bw];exact nn
          rw[De.inv,gz,if_pos ⟨q1,q2,c3⟩]
        . have:(l.set (y*w+x) v).set (y*w+x) o=l:=by
            rw[List.set_set,← q3,aZ,av bw,dM,List.set_getElem_self bw]
          rw[this,fV,fV]
      . cases h
    | tone=>cases h
    | group=>cases h
  | _ =>
    cases n<;>first
      | (cases h;done)
      | (rw[gz]at h;split at h
         . rename_i q;cases h;first|subst q|(have:=cB0 q;subst this)|(obtain⟨q1,q2⟩:=q;subst q1 q2)
           exact⟨_,by rw[De.inv,gz];first|exact if_pos rfl|exact if_pos ⟨rfl,rfl⟩,by rw[fV]⟩
         . cases h)
def Rp.refl'{a b l:List Nd}{n:Nd}(h:Stands a n b l):Rp (a++n::b) (a++[n]++b) l l:=by
 rw[ax,ba]
 induction h with
 | top=>exact .top
 | deep _ ih=>exact .deep ih
def Rp.dsE{o o' l l':List Nd}(r:Rp o o' l l')(h:fW o=fW o'):fW l=fW l':=by
 induction r with
 | top=>exact h
 | deep _ ih=>rw[aq9,aq9,fW,fW,fV,fV,ih]
def Rp.alsO{o o' l l':List Nd}(r:Rp o o' l l'){x:Nd}(h:x∈gx o'):x∈gx l':=by
 induction r with
 | top=>exact h
 | deep _ ih=>rw[ai5,gx,gw];exact ag _<|af _ (xmm _ ih)
def N4(n:Nd):n∈gw n:=by cases n<;>simp[gw]
def aX3{l:List Nd}(nd:(gk l).Nodup){nm:D}{n:Nd}(h:fnd l nm=Z n):gu nm [n] l=l:=by
 obtain⟨h1,h2⟩:=P0 h;obtain⟨a,b,St⟩:=W5 nd h1;rw[← h2];exact aL8 (Rp.refl' St) nd
def bs4{l:List Nd}(nd:(gk l).Nodup){nm:D}{n n1:Nd}(h:fnd l nm=Z n)(e1:n1.nm=nm)(nd1:(gk<|gu nm [n1] l).Nodup):fnd (gu nm [n1] l) nm=Z n1:=by
 obtain⟨a,b,St,R⟩:=am5 nd h;have m:n1∈gx (gu nm [n1] l):=(R n1).alsO (by rw[ax,ba,ai5,gx];exact ag _<|af _ (N4 n1));have:=aG8 nd1 m;rw[e1]at this;exact this
def bn8{l:List Nd}(nd:(gk l).Nodup){nm:D}{n n1:Nd}(h:fnd l nm=Z n)(e1:n1.nm=nm)(nd1:(gk<|gu nm [n1] l).Nodup)(n2:Nd):gu nm [n2] (gu nm [n1] l)=gu nm [n2] l:=by
 obtain⟨a,b,St,R⟩:=am5 nd h;obtain⟨h1,h2⟩:=P0 h;obtain⟨l2,r1,r2⟩:=(R n1).symm.two (a++[n2]++b);have r1':Rp (a++n1::b) (a++[n2]++b) (gu nm [n1] l) l2:=by rw[ax,ba]at r1;exact r1
 have w1:=aL8 r1' nd1;rw[e1]at w1;have w2:=aL8 r2.symm nd;rw[h2]at w2;rw[w1,w2]
def ct4{l:List Nd}(nd:(gk l).Nodup){nm:D}{n n1 n2:Nd}(h:fnd l nm=Z n)(e:n1.d=n2.d):fW (gu nm [n1] l)=fW (gu nm [n2] l):=by
 obtain⟨a,b,St,R⟩:=am5 nd h;obtain⟨h1,h2⟩:=P0 h;obtain⟨l2,r1,r2⟩:=(R n1).symm.two (a++[n2]++b);have w2:=aL8 r2.symm nd;rw[h2]at w2;rw[w2];refine r1.dsE ?_;rw[ax,ax,ba,ba,aq9,aq9,fW,fW,e]
def bP9(ns:List Nd)(n:Nd):(inn ns n).nm=n.nm:=by cases n<;>rfl
def ci8(ns ms:List Nd)(n:Nd):inn ms (inn ns n)=inn ms n:=by cases n<;>rfl
def bN4{l:List Nd}(nd:(gk l).Nodup){pa:D}{ns:List Nd}(h:kd l pa=Z ns){ns':List Nd}(nd1:(gk<|wk l pa ns').Nodup):kd (wk l pa ns') pa=Z ns'/\(∀ms,wk (wk l pa ns') pa ms=wk l pa ms):=by
 unfold kd at h ⊢;cases s0:same pa (.str "") with
 | true =>
  have:∀l ms,wk l pa ms=ms:=λl ms=>by unfold wk;rw[s0,if_pos rfl]
  rw[if_pos rfl,this];exact⟨rfl,λms=>by rw[this,this]⟩
 | false =>
  rw[s0,if_neg (by simp)]at h;obtain⟨n,q,hn⟩:=xbo h;have e:∀ms,wk l pa ms=gu pa [inn ms n] l:=λms=>by unfold wk;rw[s0,if_neg (by simp),q]
  rw[e]at nd1;have n0:=(P0 q).2;have f1:=bs4 nd q (by rw[bP9];exact n0) nd1;rw[if_neg (by simp),e,f1];constructor
  .cases n with
   | layer=>cases hn
   | tone=>cases hn
   | group=>rfl
  .intro ms;have:wk (gu pa [inn ns' n] l) pa ms=gu pa [inn ms (inn ns' n)] (gu pa [inn ns' n] l):=by unfold wk;rw[s0,if_neg (by simp),f1]
   rw[this,e,ci8,bn8 nd q (by rw[bP9];exact n0) nd1]
def bo0{l:List Nd}(nd:(gk l).Nodup){pa:D}{ns:List Nd}(h:kd l pa=Z ns):wk l pa ns=l:=by
 unfold kd at h;unfold wk;cases s0:same pa (.str "") with
 | true=>rw[s0,if_pos rfl]at h;cases h;rfl
 | false =>
  rw[s0,if_neg (by simp)]at h;rw[if_neg (by simp)];obtain⟨n,q,hn⟩:=xbo h;rw[q]
  have:inn ns n=n:=by
   cases n with
   | layer=>rfl
   | tone=>rfl
   | group=>cases hn;rfl
  show gu pa [inn ns n] l=l;rw[this];exact aX3 nd q
def cq3{l:List Nd}{e:De}(hv:e.isV=false):dn l e=if R0 l e=true then O else(kd l e.nm).bind λns=>((e.ls ns).map<|wk l e.nm).bind λl'=>if gc l'<=3 then Z l' else O:=by
 unfold dn;rw[if_neg (by rw[hv];simp),au1];split
 .rfl
 .cases kd l e.nm<;>rfl
def bs8{l l':List Nd}{e:De}(hv:e.isV=false)(h:dn l e=Z l'):R0 l e=false/\∃ns ns',kd l e.nm=Z ns/\e.ls ns=Z ns'/\l'=wk l e.nm ns'/\gc l'<=3:=by
 rw[cq3 hv]at h;split at h
 .cases h
 .rename_i c;obtain⟨ns,h1,h2⟩:=xbo h;obtain⟨l1,h3,h4⟩:=xbo h2;obtain⟨ns',h5,h6⟩:=xmo h3;split at h4
  .rename_i dp;cases h4;exact⟨by simpa using c,ns,ns',h1,h5,h6.symm,dp⟩
  .cases h4
def bs9{l:List Nd}{e:De}(hv:e.isV=false)(c:R0 l e=false){ns ns':List Nd}(h1:kd l e.nm=Z ns)(h2:e.ls ns=Z ns')(dp:gc (wk l e.nm ns')<=3):dn l e=Z (wk l e.nm ns'):=by rw[cq3 hv,c,if_neg (by simp),h1,xbs,h2,xms,xbs,if_pos dp]
def bt0{N:Nat}{l:List Nd}(g:Gp N l)(hN:N<=400){e:De}(d:Dg e){l':List Nd}(h:dn l e=Z l')(ho:∀pa k x,e=.out pa k x->∃ns,kd l pa=Z ns/\ns[k]? = Z x):∃l2,dn l' e.inv=Z l2/\fW l2=fW l:=by
 have g':=ar1 g hN d h;cases hv:e.isV with
 | true =>
  unfold dn at h;rw[if_pos hv]at h;obtain⟨n,h1,h2⟩:=xbo h;obtain⟨n',h3,h4⟩:=xmo h2;obtain⟨m1,m2⟩:=P0 h1;have ok:=(av5 3 l g.dp g.ok n m1).1
  have nr:n.near:=by
   obtain⟨a,b,St,R⟩:=am5 g.nd h1;have:=(R n).nearsO g.nr;rw[P4,gi]at this;exact this.2.1
  obtain⟨_,_,_,_,q5⟩:=co4 d.gv h3 ok nr;obtain⟨n2,h5,h6⟩:=cd1 h3 ok;have iv:e.inv.isV=true:=by cases e<;>first|rfl|cases hv
  have inm:e.inv.nm=e.nm:=by cases e<;>rfl
  rw[← h4]at g' ⊢;have f1:=bs4 g.nd h1 (q5.trans m2) g'.nd;refine⟨gu e.nm [n2]<|gu e.nm [n'] l,?_,?_⟩
  .unfold dn;rw[if_pos iv,inm,f1,xbs,h5];rfl
  .rw[bn8 g.nd h1 (q5.trans m2) g'.nd,ct4 g.nd h1 h6,aX3 g.nd h1]
 | false =>
  obtain⟨c,ns,ns',k1,k2,k3,k4⟩:=bs8 hv h;subst k3;obtain⟨w1,w2⟩:=bN4 g.nd k1 g'.nd;cases e with
  | put pa k x =>
   rw[gA]at k2;split at k2
   .rename_i hl;cases k2;have rf:fJ x.d x.d=true:=SeqAt.eqv_refl x.d (d.de.ly pa k x<|.inl rfl).1
    have ls:(De.out pa k x).ls (ns.take k++x::ns.drop k)=Z ns:=by
     rw[gA];have e1:(ns.take k++x::ns.drop k)[k]? = Z x:=by rw[aK (by rw[aA];omega),aA,bJ hl,bY];rfl
     have e2:(ns.take k++x::ns.drop k).take k=ns.take k:=by rw[dr (by rw[aA];omega),List.take_take,Nat.min_self]
     have e3:(ns.take k++x::ns.drop k).drop (k+1)=ns.drop k:=by rw[List.drop_append,aA,bJ hl,cF (by rw[aA];omega),show k+1 - k=1 by omega];rfl
     rw[e1,eJ,rf,if_pos rfl,e2,e3,bn]
    have sf:wk (wk l pa (ns.take k++x::ns.drop k)) pa ns=l:=(w2 ns).trans (bo0 g.nd k1);refine⟨l,?_,rfl⟩;have:=bs9 (l:=wk l pa (ns.take k++x::ns.drop k)) (e:=.out pa k x) rfl rfl w1 ls (by rw[show(De.out pa k x).nm=pa from rfl,sf];exact g.dp);rw[show(De.out pa k x).nm=pa from rfl,sf]at this;exact this
   .cases k2
  | out pa k x =>
   obtain⟨ms,o1,o2⟩:=ho pa k x rfl;have k1:kd l pa=Z ns:=k1;rw[k1]at o1;cases o1;have hk:k < ns.length:=(ao.mp o2).1;rw[gA]at k2;split at k2
   .cases k2;have es:=ai0 o2
    have ls:(De.put pa k x).ls (ns.take k++ns.drop (k+1))=Z ns:=by
     rw[gA,if_pos (by rw[ah,aA];omega)];have e2:(ns.take k++ns.drop (k+1)).take k=ns.take k:=by rw[dr (by rw[aA];omega),List.take_take,Nat.min_self]
     have e3:(ns.take k++ns.drop (k+1)).drop k=ns.drop (k+1):=by rw[List.drop_append,aA,bJ (by omega),cF (by rw[aA];omega),bY];rfl
     rw[e2,e3,← es]
    have sf:wk (wk l pa<|ns.take k++ns.drop (k+1)) pa ns=l:=(w2 ns).trans<|bo0 g.nd k1
    have cl:R0 (wk l pa<|ns.take k++ns.drop (k+1)) (.put pa k x)=false:=by
     have r:=aF9 g.nd k1<|ns.take k++ns.drop (k+1)
     have P:=r.symm.perm (X:=x.nms) (by
      conv=>lhs;rw[es]
      rw[B3,B3,gk]
      exact bN ..)
     have nd:=P.nodup g.nd;exact(af6 (aD.mp nd).1 g'.nd).mp nd
    refine⟨l,?_,rfl⟩;have:=bs9 (l:=wk l pa<|ns.take k++ns.drop (k+1)) (e:=.put pa k x) rfl cl w1 ls (by rw[show(De.put pa k x).nm=pa from rfl,sf];exact g.dp);rw[show(De.put pa k x).nm=pa from rfl,sf]at this;exact this
   .cases k2
  | _=>cases hv
def bj0:Nd->List Nd
 | .group _ _ _ _ ns=>ns
 | _=>[]
def Y8(z:D×List Nd):D:=.tuple [z.1,↥z.2]
def par(l:List Nd):List (D×List Nd):=(.str "", l)::((gx l).filter isG).map λn=>(n.nm,bj0 n)
def aZ2{src:Rho->Option (List D)}{ρ:Rho}{l:List Nd}(hs:src ρ=Z ((gx l).map fV))(hl:(gx l).length<=500):
  C5 1 [] src (B5 0) (tB2 eqD (dIx (A8 0) ⇑0)<|dC (.str "group")) (B6<|A0 (dIx (A8 0) ⇑1) (A0 (dIx (A8 0) ⇑5) A3)) ρ=Z (((gx l).filter isG).map λn=>Y8 (n.nm,bj0 n)):=by
 unfold C5;rw[hs,xbs,if_pos (by rw[aj];grind),show ag9 1 [] ρ=[O] from rfl];refine aV2 (h:=fV) (p:=isG) (gx l) O (λn _=>cp3 n []) λn _ hp=>?_
 cases n with
 | layer=>cases hp
 | tone=>cases hp
 | group nm m s sh ns=>rw[fV];exists evD,bu2,be6,Y8,bj0,gf
def bp3(l:List Nd)(hl:(gx l).length<=500):B1 (.list [Y8 (.str "", l)]) (.list<|((gx l).filter isG).map λn=>Y8 (n.nm,bj0 n))=Z (.list<|(par l).map Y8):=by
 have e:(par l).map Y8=[Y8 (.str "", l)]++(((gx l).filter isG).map λn=>Y8 (n.nm,bj0 n)):=by unfold par;rw[xmc,bM];rfl
 rw[e];have:=dk isG (gx l);exact aV3 (by rw[aN,aj];grind)
def cc3{l:List Nd}{z:D×List Nd}(h:z∈par l):(z=(.str "", l))\/∃nm m s sh ns,Nd.group nm m s sh ns∈gx l/\z=(nm,ns):=by
 unfold par at h;rcases am.mp h with h|h
 .exact .inl h
 .obtain⟨n,hn,rfl⟩:=aM.mp h;obtain⟨h1,h2⟩:=bV.mp hn;cases n with
  | layer=>cases h2
  | tone=>cases h2
  | group nm m s sh ns=>exact .inr ⟨nm,m,s,sh,ns,h1,by rw[gf,bj0]⟩
def cy0{l:List Nd}{nm:D}{m:Man}{s:Rat}{sh:Bool}{ns:List Nd}(h:Nd.group nm m s sh ns∈gx l):(nm,ns)∈par l:=by
 unfold par;refine xmm _ (aM.mpr ⟨_,bV.mpr ⟨h,rfl⟩,?_⟩);rw[gf,bj0]
def co5{d:D}(h:Nm d):same d (.str "")=false:=by
 obtain⟨s,rfl,_,h1,_⟩:=h;refine M7 λz=>?_
 cases z;exact absurd h1 (by decide)
def bi1{N:Nat}{l:List Nd}(g:Gp N l){z:D×List Nd}(h:z∈par l):kd l z.1=Z z.2/\(Nm z.1\/z.1=.str ""):=by
 rcases cc3 h with rfl|⟨nm,m,s,sh,ns,h1,rfl⟩
 .unfold kd;rw[D4,if_pos rfl];exact⟨rfl,.inr rfl⟩
 .have f:=aG8 g.nd h1;rw[gf]at f;have n1:Nm nm:=g.nm _ (by rw[← als_nms];exact aM.mpr ⟨_,h1,by rw[gf]⟩);unfold kd;rw[co5 n1,if_neg (by simp),f];exact⟨rfl,.inl n1⟩
def cK7:∀(k:Nat) (l:List Nd),gc l<=k->∀n∈gx l,n∈l\/∃nm m s sh ns,Nd.group nm m s sh ns∈gx l/\n∈ns:=by
 intro k
 induction k with
 | zero =>
  intro l hd n hn
  induction l with
  | nil=>rw[gx]at hn;cases hn
  | cons y l ih =>
   rw[gx]at hn ⊢;rw[gc]at hd;rcases ay.mp hn with h|h
   .cases y with
    | group=>rw[gb]at hd;omega
    | layer=>rw[gw]at h;exact .inl (by rw[au.mp h];exact ae ..)
    | tone=>rw[gw]at h;exact .inl (by rw[au.mp h];exact ae ..)
   .rcases ih (by omega) h with z|⟨nm,m,s,sh,ns,z1,z2⟩
    .exact .inl (xmm _ z)
    .exact .inr ⟨nm,m,s,sh,ns,ag _ z1,z2⟩
 | succ k ih =>
  intro l hd n hn
  induction l with
  | nil=>rw[gx]at hn;cases hn
  | cons y l ihl =>
   rw[gx]at hn ⊢;rw[gc]at hd;rcases ay.mp hn with h|h
   .cases y with
    | layer=>rw[gw]at h;exact .inl (by rw[au.mp h];exact ae ..)
    | tone=>rw[gw]at h;exact .inl (by rw[au.mp h];exact ae ..)
    | group nm m s sh ns =>
     rw[gw]at h ⊢;rcases am.mp h with h|h
     .exact .inl (by rw[h];exact ae ..)
     .rw[gb]at hd;rcases ih ns (by omega) n h with z|⟨nm',m',s',sh',ns',z1,z2⟩
      .exact .inr ⟨nm,m,s,sh,ns,af _<|ae ..,z⟩
      .exact .inr ⟨nm',m',s',sh',ns',af _<|xmm _ z1,z2⟩
   .rcases ihl (by omega) h with z|⟨nm',m,s,sh,ns,z1,z2⟩
    .exact .inl (xmm _ z)
    .exact .inr ⟨nm',m,s,sh,ns,ag _ z1,z2⟩
def cy1{N:Nat}{l:List Nd}(g:Gp N l){n:Nd}(h:n∈gx l):∃z∈par l,n∈z.2:=by
 rcases cK7 3 l g.dp n h with z|⟨nm,m,s,sh,ns,z1,z2⟩
 .exact⟨(.str "", l),by unfold par;exact ae ..,z⟩
 .exact⟨(nm,ns),cy0 z1,z2⟩
def bN6{l:List Nd}(nd:(gk l).Nodup){pa:D}{ns:List Nd}(h:kd l pa=Z ns){n:Nd}(hn:n∈ns):n∈gx l:=by
 have r:=(aF9 nd h ns).symm;refine Rp.alsO r ?_;obtain⟨a,b,rfl⟩:=cD hn;rw[ai5,gx];exact ag _<|af _ (N4 n)
def Gp.ly{N:Nat}{l:List Nd}(g:Gp N l){n:Nd}(h:n∈gx l):Ly 30 n.d:=by
 obtain⟨_,q2,q3,_⟩:=av5 3 l g.dp g.ok n h;exact(ay5 n λd hd=>P7<|g.nm d (q3 d hd)).mono (by grind)
def Gp.nr1{N:Nat}{l:List Nd}(g:Gp N l){n:Nd}(h:n∈gx l):n.Ok/\n.near/\n.dp<=3/\(∀d∈n.nms,Nm d)/\n.nms.length<=N/\n.nms.Nodup/\Nm n.nm:=by
 obtain⟨q1,q2,q3,q4⟩:=av5 3 l g.dp g.ok n h;obtain⟨a,b,St⟩:=W5 g.nd h;have r:=Rp.refl' St;have nr:=r.nearsO g.nr;rw[P4,gi]at nr;have nd:(gk (a++n::b)).Nodup:=St.props.nd g.nd;rw[B3,gk]at nd;exact⟨q1,nr.2.1,q2,λd hd=>g.nm d<|q3 d hd,aQ q4 g.len,(aD.mp (aD.mp nd).2.1).1,g.nm _<|q3 _ (G5 n)⟩
def bS6{y n:Nd}(hy:G3 y.nm)(hn:G3 n.nm)(h:fJ y.d n.d=true):y.nm=n.nm:=by
 have key:∀(a b:D) (r:List D) (a' b':D) (r':List D),fJ (.tuple (a::b::r)) (.tuple (a'::b'::r'))=true->fJ b b'=true:=λa b r a' b' r' h=>by
  simp only[fJ,PyData.eqvAll,ar]at h;revert h;cases fJ a a'<;>cases fJ b b'<;>simp
 have hb:fJ y.nm n.nm=true:=by cases y<;>cases n<;>(rw[fV,fV]at h;exact key _ _ _ _ _ _ h)
 obtain⟨s,e1,_⟩:=hy;obtain⟨t,e2,_⟩:=hn;rw[e1,e2]at hb ⊢;have hb:(s==t)=true:=hb;simp only[beq_iff_eq]at hb;rw[hb]
def bQ0{d:D}{ks:List D}(hd:Ly 30 d)(hk:∀x∈ks,Ly 30 x)(ht:∃xs,d=.tuple xs)(hks:∀x∈ks,∃xs,x=.tuple xs):inD false d (.tuple ks)=Z (.bool<|ks.any λy=>fJ y d):=by
 obtain⟨xs,rfl⟩:=ht;have sx:=hd.shaped (by decide);have sd:ks.all fI=true:=by rw[bt];exact λx hx=>(hk x hx).shaped (by decide)
 show(if K0 (.tuple xs)=true/\ks.all K0=true then Z (fL (if false=true then !inV (toV<|.tuple xs) (ks.map toV) else inV (toV<|.tuple xs) (ks.map toV))) else if K0 (.tuple xs)=false/\fI (.tuple xs)=true/\ks.all isS=true then Z (fL false) else if fI (.tuple xs)=true/\(PyData.tuple xs).depth<=60/\ks.all fI=true then Z (fL (if false=true then !(ks.any λy=>fJ y<|.tuple xs) else ks.any λy=>fJ y<|.tuple xs)) else O)=_;rw[if_neg (by intro z;cases z.1)];cases ks with
 | nil=>rw[if_pos ⟨rfl,sx,rfl⟩];rfl
 | cons k ks =>
  obtain⟨ys,rfl⟩:=hks k (ae ..);rw[if_neg (by intro z;have:=z.2.2;rw[bE]at this;cases this),if_pos ⟨sx,aQ hd.2 (by decide),sd⟩];rfl
def ixN{a:Rho->Option (List D)}{ρ:Rho}{xs:List D}(h:a ρ=Z xs)(i:Int):dIx (qN a) (dC<|.int i) ρ=atI xs i:=by unfold dIx qN;rw[h];rfl
def bL5(n:Nd):∃xs,n.d=.tuple xs:=by cases n<;>(rw[fV];exact⟨_,rfl⟩)
structure Dw (l:List Nd) (nm:Str) (e:De):Prop where
 dg:Dg e
 di:Dg e.inv
 fit:e.isP=false->∃l',dn l e=Z l'
 out:∀pa k x,e=.out pa k x->∃ns,kd l pa=Z ns/\ns[k]? = Z x
 put:∀pa k x,e=.put pa k x->(x.nms=[.str nm]\/x.nms=[.str nm,.str (nm ++ "q")])/\x.dp<=1/\∃ns,kd l pa=Z ns/\k<=ns.length
abbrev en(ns:List Int)(at':Nat)(w h:Nat)(l:List Nd)(nm:Str)(a4 a5 a6 a7 a8 a9 a10 a12 a13 a14 a15 a16:Option B):Rho:=[‹scr ns›,‹.int at'›,‹C6 w h l›,‹.str nm›,a4,a5,a6,a7,a8,a9,a10,O,a12,a13,a14,a15,a16]
abbrev eN(ns:List Int)(at':Nat)(w h:Nat)(l:List Nd)(nm:Str)(x:D)(t:Nat):Rho:=en ns at' w h l nm (‹↥l›) (‹.list ((gx l).map fV)›) (‹x›) (‹.int t›) O O O O O O O O
abbrev eP(ns:List Int)(at':Nat)(w h:Nat)(l:List Nd)(nm:Str)(x:D)(t:Nat):Rho:=en ns at' w h l nm (‹↥l›) (‹.list ((gx l).map fV)›) (‹x›) (‹.int t›) (‹.list ((par l).map Y8)›) O O O O O O O
abbrev eZ(ns:List Int)(at':Nat)(w h:Nat)(l:List Nd)(nm:Str)(x:D)(t:Nat)(z:D×List Nd):Rho:=en ns at' w h l nm (‹↥l›) (‹.list ((gx l).map fV)›) (‹x›) (‹.int t›) (‹.list ((par l).map Y8)›) (‹z.1›) (‹↥z.2›) O O O O O
def ag5{N:Nat}{l:List Nd}(g:Gp N l){nm:Str}{e:De}(hv:e.isV=true){n n':Nd}(hn:n∈gx l)(he:e.nm=n.nm)(ho:e.on n=Z n')(g1:e.gv)(g2:e.inv.gv)(sz:e.sz):Dw l nm e:=by
 have nn:=(g.nr1 hn).2.2.2.2.2.2;have f:=aG8 g.nd hn;have noP:∀pa k x,¬(e=.put pa k x\/e=.out pa k x):=λpa k x z=>by rcases z with z|z<;>(rw[z]at hv;cases hv)
 have noP':∀pa k x,¬(e.inv=.put pa k x\/e.inv=.out pa k x):=λpa k x z=>by cases e<;>first|(cases hv;done)|(rcases z with z|z<;>cases z)
 refine⟨⟨⟨.inl<|he ▸ nn,sz,λpa k x z=>(noP pa k x z).elim⟩,g1,λpa k x z=>(noP pa k x z).elim⟩,⟨⟨.inl ?_,?_,λpa k x z=>(noP' pa k x z).elim⟩,g2,λpa k x z=>(noP' pa k x z).elim⟩,λ_=>?_,λpa k x z=>(noP pa k x<|.inr z).elim,λpa k x z=>(noP pa k x<|.inl z).elim⟩
 .have:e.inv.nm=e.nm:=by cases e<;>rfl
  rw[this,he];exact nn
 .cases e<;>first|exact trivial|exact sz
 .refine⟨gu e.nm [n'] l,?_⟩;unfold dn;rw[if_pos hv,he,f,xbs,ho];rfl
def cY4{N:Nat}{l:List Nd}(g:Gp N l)(hN:N<=60)(ns:List Int)(at':Nat)(w h:Nat)(nm:Str){n:Nd}(hn:n∈gx l)(t:Nat)(ht:((t:Int)==0)=true):∃e:De,X5 (eN ns at' w h l nm (n.d) t)=Z (.rt e.d)/\Dw l nm e:=by
 have l6:=(g.pl<|by grind).al;have src:M9 (A1 5) (eN ns at' w h l nm (n.d) t)=Z ((gx l).map fV):=rfl;have pc:=aZ2 src (by grind);have cc:=bp3 l (by grind)
 have lyz:∀z∈par l,∀x∈fW z.2,Ly 30 x/\∃xs,x=.tuple xs:=λz hz x hx=>by
  rw[D3]at hx;obtain⟨m,hm,rfl⟩:=aM.mp hx;exact⟨g.ly<|bN6 g.nd (bi1 g hz).1 hm,bL5 m⟩
 have inn:∀z∈par l,inD false n.d ↥z.2=Z (.bool<|(fW z.2).any λy=>fJ y n.d):=λz hz =>bQ0 (g.ly hn) (λx hx=>(lyz z hz x hx).1) (bL5 n) λx hx=>(lyz z hz x hx).2
 have pl:(par l).length<=501:=by
  unfold par;rw[aH,aj];have:=dk isG<|gx l
  grind
 have cm:C5 1 [6] (M9<|A1 8) (B5 0) (tB2 (inD false) (A1 1)<|dIx (A8 0) ⇑1) (A1 0) (eP ns at' w h l nm (n.d) t)=Z (((par l).filter λz=>(fW z.2).any λy=>fJ y n.d).map Y8):=by
  refine ce3 (h:=Y8) (p:=λz=>(fW z.2).any λy=>fJ y n.d) (r:=[‹n.d›]) rfl rfl (by grind) (λz hz=>?_) λz hz=>rfl
  have i1:dIx (A8 0) ⇑1 [‹Y8 z›,‹n.d›]=Z ↥z.2:=rfl;simp only[tB2,A5,A1,i1,xg0,xg1,xbs,xms,inn z hz,N0]
 have mem:∃z∈par l,((fW z.2).any λy=>fJ y n.d)=true:=by
  obtain⟨z,hz,hm⟩:=cy1 g hn;exact⟨z,hz,bc.mpr ⟨n.d,by rw[D3];exact bS hm,SeqAt.eqv_refl n.d (g.ly hn).1⟩⟩
 obtain⟨z,G9,hzr⟩:∃z G9,((par l).filter λz=>(fW z.2).any λy=>fJ y n.d)=z::G9:=by
  cases e:(par l).filter λz=>(fW z.2).any λy=>fJ y n.d with
  | nil =>
   obtain⟨z,h1,h2⟩:=mem;rw[eL]at e;exact absurd h2<|e z h1
  | cons z G9=>exact⟨z,G9,rfl⟩
 have hz:z∈par l/\((fW z.2).any λy=>fJ y n.d)=true:=bV.mp (by rw[hzr];exact ae ..);rw[hzr]at cm;obtain⟨kz,nz⟩:=bi1 g hz.1
 obtain⟨j,jl,ej,yj,ey,eyn⟩:∃j,j < (fW z.2).length/\(fW z.2).findIdx? (λy=>fJ y n.d)=Z j/\∃y,z.2[j]? = Z y/\fJ y.d n.d=true:=by
  cases e:(fW z.2).findIdx? (λy=>fJ y n.d) with
  | none =>
   rw[List.findIdx?_eq_none_iff]at e;obtain⟨x,hx,h⟩:=bc.mp hz.2;rw[e x hx]at h;cases h
  | some j =>
   obtain⟨h1,h2,_⟩:=cj.mp e;have h1':j < z.2.length:=by rw[← N9];exact h1
   refine⟨j,h1,rfl,z.2[j],av h1',?_⟩
   have:(fW z.2)[j]=(z.2[j]).d:=by
    have q:=ag6 z.2 j;rw[av h1,av h1']at q;exact bq.inj q
   rw[← this];exact h2
 have jl':j < z.2.length:=by rw[← N9];exact jl
 have yn:yj=n:=by
  have my:yj∈gx l:=bN6 g.nd kz (dl ey);have e:=bS6 (P7 (g.nr1 my).2.2.2.2.2.2) (P7 (g.nr1 hn).2.2.2.2.2.2) eyn;have nd:=g.nd;rw[← als_nms]at nd;exact aS4 e nd my hn
 subst yn
 have e3:ar6 (A1 10) (A1 6) (eZ ns at' w h l nm yj.d t z)=Z (.int j):=by
  show(if fI yj.d=true/\yj.d.depth<=60/\(fW z.2).all fI=true then((fW z.2).findIdx? λy=>fJ y yj.d).map (λ(j:Nat)=>fK (j:Int)) else O)=_
  have sh:(fW z.2).all fI=true:=by
   rw[bt];intro x hx;exact(lyz z hz.1 x hx).1.shaped (by decide)
  rw[if_pos ⟨(g.ly hn).shaped (by decide),aQ (g.ly hn).2 (by decide),sh⟩,ej];rfl
 obtain⟨k1,k2,k3,k4,k5,k6,k7⟩:=g.nr1 hn;have nn:=g.len;refine⟨.out z.1 j yj,?_,?_⟩
 .have c0:(tB2 eqD (A1 7) ⇑0) (eN ns at' w h l nm (yj.d) t)=Z true:=by simp only[tB2,A5,A1,dC,xg0,xg1,xbs,xms,aH0,ht,N0]
  refine(E2 c0).trans ((A6 (ρ':=eP ns at' w h l nm yj.d t) ?_).trans<|(A6 (ρ':=eZ ns at' w h l nm yj.d t z) ?_).trans ?_)
  .simp only[B4,A5,S8,pc,A0,A3,B6,dC,A1,eN,en,xg0,xg1,xbs,xms];exact(congrArg (cG _) cc).trans rfl
  .unfold ao7;rw[ixN cm,show atI ((z::G9).map Y8) 0=Z (Y8 z) from P8 (j:=0) rfl];rfl
  .rw[gy];simp only[B0,B6,A0,A3,e3,dC,A1,xg0,xg1,xbs,xms]
 .have nmo:∀e:De,e.isV=false->e.nm=z.1->Nm e.nm\/(e.isV=false/\e.nm=.str ""):=λe hv he=>by
   rw[he];rcases nz with q|q
   .exact .inl q
   .exact .inr ⟨hv,q⟩
  have dnd:∀e:De,(e=.out z.1 j yj\/e=.put z.1 j yj)->(∀pa k x,e=.put pa k x\/e=.out pa k x->x=yj):=λe he pa k x hx=>by rcases he with rfl|rfl<;>rcases hx with hx|hx<;>cases hx<;>rfl
  refine⟨⟨⟨nmo _ rfl rfl,trivial,λpa k x hx=>?_⟩,trivial,λpa k x hx=>?_⟩,⟨⟨nmo _ rfl rfl,trivial,λpa k x hx=>?_⟩,⟨k1,k2,k6⟩,λpa k x hx=>?_⟩,λ_=>?_,λpa k x hx=>?_,λpa k x hx=>by cases hx⟩
  .rw[dnd _ (.inl rfl) pa k x hx];exact⟨λd hd=>P7<|k4 d hd,by grind,by grind⟩
  .rw[dnd _ (.inl rfl) pa k x hx];exact⟨k4,by grind⟩
  .rw[dnd _ (.inr rfl) pa k x hx];exact⟨λd hd=>P7<|k4 d hd,by grind,by grind⟩
  .rw[dnd _ (.inr rfl) pa k x hx];exact⟨k4,by grind⟩
  .have ls:(De.out z.1 j yj).ls z.2=Z (z.2.take j++z.2.drop (j+1)):=by
    rw[gA,ey,eJ,SeqAt.eqv_refl yj.d (g.ly hn).1,if_pos rfl]
   have dp:gc (wk l z.1<|z.2.take j++z.2.drop (j+1))<=3:=by
    have r:=aF9 g.nd kz (z.2.take j++z.2.drop (j+1));refine aQ (r.dps<|bs6 λn hn=>.inr ?_) g.dp;rcases ay.mp hn with q|q
    .exact bC q
    .exact bD q
   exact⟨_,bs9 (e:=.out z.1 j yj) rfl rfl kz ls dp⟩
  .cases hx;exact⟨z.2,kz,ey⟩
def Nd.ren(d:D):Nd->Nd
 | .layer _ m s sh lf tp mk w h l kb=>.layer d m s sh lf tp mk w h l kb
 | .tone _ r s sh=>.tone d r s sh
 | .group _ m s sh ns=>.group d m s sh ns
def cv7(d:D){n:Nd}(h0:n.dp=0)(ok:n.Ok)(nr:n.near):(n.ren d).Ok/\(n.ren d).near/\(n.ren d).dp=0/\(n.ren d).nms=[d]:=by
 cases n with
 | group=>rw[gb]at h0;grind
 | layer=>rw[Nd.ren];rw[fX]at ok ⊢;rw[gh]at nr ⊢;exact⟨ok,nr,by rw[gb],by rw[gj]⟩
 | tone=>rw[Nd.ren];rw[fX]at ok ⊢;rw[gh];exact⟨ok,trivial,by rw[gb],by rw[gj]⟩
def br8:Sr 4 av0:=aM3 (cj3.mono<|by decide)
def da5{nm:Str}(h:Nm (.str nm))(h5:nm.length<=5):Nm (.str<|nm ++ "q")/\B1 (.str nm) (.str "q")=Z (.str<|nm ++ "q")/\(.str nm:D)≠.str (nm ++ "q"):=by
 obtain⟨s,e,lo,l1,l6⟩:=h;cases e;have e0:(nm++("q" : Str)).cps=nm.cps++#[113]:=rfl;have ln:(nm++("q" : Str)).length=nm.length+1:=bO ..;refine⟨⟨_,rfl,λc hc=>?_,by grind,by grind⟩,?_,λz=>?_⟩
 .rw[e0,cN]at hc;rcases ay.mp hc with q|q
  .exact lo c q
  .have:c=113:=by simpa using q
   grind
 .show(if nm.length+1<=16777216 then _ else O)=_;rw[if_pos (by grind)]
 .have z:nm=nm ++ "q" := by injection z
  have:=congrArg Str.length z
  grind
def bz8{N:Nat}{l:List Nd}(g:Gp N l)(hN:N<=60)(ns:List Int)(hn:ns.length<=63)(at':Nat)(ha:at' < 2 ^ 17){nm:Str}(hnm:Nm (.str nm))(h5:nm.length<=5):∃e:De,aC6 [scr ns,.int at',↥l,.str nm]=Z e.d/\Dw l nm e/\e.isP=true:=by
 have l6:=(g.pl<|by grind).al;have eA:=aW2 3 l 12 g.dp (by decide) (by grind);have src:M9 (A2 (K2 12)<|A0 (A1 2) A3) [‹scr ns›,‹.int at'›,‹↥l›,‹.str nm›,O,O,O,O]=Z ((gx l).map fV):=by simp only[M9,A2,A0,A3,A1,xg0,xg1,xbs,xms,eA]
 have pc:=aZ2 src (by grind);have cc:=bp3 l (by grind);have pl:((par l).map Y8).length=(par l).length:=aj ..;have ppos:0 < (par l).length:=by unfold par;simp
 obtain⟨t,et,lt⟩:=K8 ns hn (e:=(at':Int)) (m':=(((par l).map Y8).length:Nat)) at' (par l).length rfl (by rw[pl]) (by grind) ppos;obtain⟨z,hz,ez⟩:∃z∈par l,atI ((par l).map Y8) (t:Int)=Z (Y8 z):=⟨(par l)[t],aT lt,P8 (by rw[aI,av lt];rfl)⟩;obtain⟨kz,nz⟩:=bi1 g hz;have zl4:z.2.length<=400:=(V6 g (by grind) kz).1;have l2:∀a b:D,([a,b]:List D).length=2:=λ_ _=>rfl
 obtain⟨n,en,no,nd,_,nnm,nnr⟩:=br0 ns hn (at'+10) (by grind) (.str nm) .over
 have en:Y4 [scr ns,.int ((at':Int)+10),.str nm,.str "over"]=Z n.d:=by
  have:((at'+10:Nat):Int)=(at':Int)+10:=by grind
  rw[← this];exact en
 have nms:n.nms=[.str nm]:=by
  cases n with
  | group=>rw[gb]at nd;grind
  | layer=>rw[gf]at nnm;rw[gj,nnm]
  | tone=>rw[gf]at nnm;rw[gj,nnm]
 obtain⟨c,ec,_⟩:=drw ns hn at' 1 3 (by grind);obtain⟨q1,q2,q3⟩:=da5 hnm h5
 obtain⟨x,x1,x2,x3,x4,s3⟩:∃x:Nd,x.Ok/\x.near/\(x.nms=[.str nm]\/x.nms=[.str nm,.str (nm ++ "q")])/\x.dp<=1/\(sIf (tB2 eqD (A2 A9<|A0 (A1 0) (A0 (A5 B1 (A1 1) ⇑1)<|A0 ⇑3 A3)) ⇑0) (B4 7<|B6 (A0 (dC<|.str "group")<|A0 (A1 3) (A0 (dC<|.str "plus")<|A0 (B6<|A0 ⇑1 (A0 ⇑2 A3)) (A0 (dC<|.bool true)<|A0 (B6<|A0 (A5 B1 (A5 B1 (E3 (A1 7) C7<|B7 ⇑1)<|B6 (A0 (A5 B1 (A1 3)<|dC (.str "q")) A3))<|E3 (A1 7) (B7 ⇑2) C7) A3) A3)))) B8) [‹scr ns›,‹.int at'›,‹↥l›,‹.str nm›,‹.list ((par l).map Y8)›,‹z.1›,‹↥z.2›,‹n.d›]=Z (.nx [‹scr ns›,‹.int at'›,‹↥l›,‹.str nm›,‹.list ((par l).map Y8)›,‹z.1›,‹↥z.2›,‹x.d›]):=by
  cases q:((c:Int)==0) with
  | false =>
   refine⟨n,no,nnr,.inl nms,by grind,?_⟩
   exists evD,ec,q
  | true =>
   obtain⟨r1,r2,r3,r4⟩:=cv7 (.str<|nm ++ "q") nd no nnr
   obtain⟨r,G9,hr,hr2,hrl⟩:∃a r,n.d=.tuple (a :: .str nm::r)/\(n.ren<|.str (nm ++ "q")).d=.tuple (a :: .str (nm ++ "q")::r)/\r.length<=14:=by
    cases n with
    | group=>rw[gb]at nd;grind
    | layer nm'=>rw[gf]at nnm;subst nnm;rw[Nd.ren,fV,fV];exact⟨_,_,rfl,rfl,by show 7<=14;decide⟩
    | tone nm'=>rw[gf]at nnm;subst nnm;rw[Nd.ren,fV,fV];exact⟨_,_,rfl,rfl,by show 3<=14;decide⟩
   refine⟨.group (.str nm) .plus av0 true [n.ren (.str<|nm ++ "q")],?_,?_,.inr ?_,?_,?_⟩
   .rw[fX,fY,fY];exact⟨br8,r1,trivial⟩
   .rw[gh,gi,gi];exact⟨r2,trivial⟩
   .rw[gj,gk,gk,r4];rfl
   .rw[gb,gc,gc,r3];decide
   .have c1:R8 (r :: .str nm::G9) O (Z 1)=[r]:=cV6 r _
    have c2:R8 (r :: .str nm::G9) (Z 2) O=G9:=by
     have:=bV5 (xs:=r :: .str nm::G9) (i:=1) (by simp);exact this
    have k1:=aV4 (a:=[r]) (b:=[.str (nm ++ "q")]) (by show 2<=1000;decide);have k2:=aV4 (a:=[r]++[.str (nm ++ "q")]) (b:=G9) (by show 2+G9.length<=1000;grind);have k2:B1 (.tuple<|[r]++[.str (nm ++ "q")]) (.tuple G9)=Z (.tuple (r :: .str (nm ++ "q")::G9)):=k2;rw[fV,fW,fW,hr,hr2,bs3];have a1:E3 (A1 7) C7 (B7 ⇑1) [‹scr ns›,‹.int at'›,‹↥l›,‹.str nm›,‹.list ((par l).map Y8)›,‹z.1›,‹↥z.2›,‹.tuple (r :: .str nm::G9)›]=Z (.tuple [r]):=congrArg (λq=>Z<|PyData.tuple q) c1;have a2:E3 (A1 7) (B7 ⇑2) C7 [‹scr ns›,‹.int at'›,‹↥l›,‹.str nm›,‹.list ((par l).map Y8)›,‹z.1›,‹↥z.2›,‹.tuple (r :: .str nm::G9)›]=Z (.tuple G9):=congrArg (λq=>Z<|PyData.tuple q) c2;simp only[sIf,tB2,A5,A2,A0,A3,A1,dC,xg0,xg1,xbs,xms,n5,ec,aH0,q,N0,if_true,B4,B6,a1,a2,q2,k1,k2,xw0,xw1];rfl
 have zl:(fW z.2).length=z.2.length:=N9 z.2;obtain⟨u,eu,lu⟩:=K8 ns hn (e:=(at':Int)+2) (m':=((fW z.2).length:Nat)+1) (at'+2) (z.2.length+1) (by grind) (by rw[zl];grind) (by grind) (by grind)
 have xn:(∀d∈x.nms,Nm d)/\x.nms.length<=2/\x.nms.Nodup:=by
  rcases x3 with e|e<;>rw[e]
  .exact⟨λd hd=>by rw[au.mp hd];exact hnm,by simp,by simp⟩
  .refine⟨λd hd=>?_,by simp,?_⟩
   .rcases am.mp hd with hd|hd
    .rw[hd];exact hnm
    .rw[au.mp hd];exact q1
   .rw[be];exact⟨λz=>q3<|au.mp z,by simp⟩
 have nmo:∀e:De,e.isV=false->e.nm=z.1->Nm e.nm\/(e.isV=false/\e.nm=.str ""):=λe hv he=>by
  rw[he];rcases nz with q|q
  .exact .inl q
  .exact .inr ⟨hv,q⟩
 have dnd:∀e:De,(e=.out z.1 u x\/e=.put z.1 u x)->(∀pa k y,e=.put pa k y\/e=.out pa k y->y=x):=λe he pa k y hy=>by rcases he with rfl|rfl<;>rcases hy with hy|hy<;>cases hy<;>rfl
 refine⟨.put z.1 u x,B2 (ρ:=[‹scr ns›,‹.int at'›,‹↥l›,‹.str nm›,O,O,O,O]) rfl ?_,⟨⟨⟨nmo _ rfl rfl,trivial,λpa k y hy=>?_⟩,⟨x1,x2,xn.2.2⟩,λpa k y hy=>?_⟩,⟨⟨nmo _ rfl rfl,trivial,λpa k y hy=>?_⟩,trivial,λpa k y hy=>?_⟩,λh=>(by cases h),λpa k y hy=>(by cases hy),λpa k y hy=>?_⟩,rfl⟩
 .refine(A6 (ρ':=[‹scr ns›,‹.int at'›,‹↥l›,‹.str nm›,‹.list ((par l).map Y8)›,O,O,O]) ?_).trans ?_
  .simp only[B4,A5,S8,pc,A0,A3,B6,dC,A1,xg0,xg1,xbs,xms];exact(congrArg (cG _) cc).trans rfl
  refine(A6 (by exists evD,et,ez,Y8,l2;rfl)).trans ?_;refine(A6 (by exists evD,en;rfl)).trans ?_;rw[A6 s3,gy]
  exists evD,eu
 .rw[dnd _ (.inr rfl) pa k y hy];exact⟨λd hd=>P7<|xn.1 d hd,by grind,by have:=xn.2.1;grind⟩
 .rw[dnd _ (.inr rfl) pa k y hy];exact⟨xn.1,by have:=xn.2.1;grind⟩
 .rw[dnd _ (.inl rfl) pa k y hy];exact⟨λd hd=>P7<|xn.1 d hd,by grind,by have:=xn.2.1;grind⟩
 .rw[dnd _ (.inl rfl) pa k y hy];exact⟨xn.1,by have:=xn.2.1;grind⟩
 .cases hy;exact⟨x3,x4,z.2,kz,by grind⟩
def cY3{N:Nat}{l:List Nd}(g:Gp N l)(hN:N<=60)(ns:List Int)(hn:ns.length<=63)(at':Nat)(ha:at' < 2 ^ 17)(w h:Nat)(nm:Str){n:Nd}(hm:n∈gx l)(t:Nat)(ht:((t:Int)==0)=false):∃e:De,(A7 X5<|A7 Q7 (A7 X4<|A7 u6 (A7 u5<|A7 ab5 (A7 ab4<|A7 ab3 ab1)))) (eN ns at' w h l nm n.d t)=Z (.rt e.d)/\Dw l nm e/\e.isV=true:=by
 have s5:X5 (eN ns at' w h l nm n.d t)=Z (.nx<|eN ns at' w h l nm n.d t):=by
  have c0:(tB2 eqD (A1 7) ⇑0) (eN ns at' w h l nm n.d t)=Z false:=by simp only[tB2,A5,A1,dC,xg0,xg1,xbs,xms,aH0,ht,N0]
  unfold X5 sIf;rw[c0];rfl
 rw[A6 s5];obtain⟨o1,o2,o3,o4,o5,o6,o7⟩:=g.nr1 hm;obtain⟨x,ex,lx⟩:=drw ns hn at' 3 2 (by grind);obtain⟨r,er,hr⟩:=aE0 ns hn (e:=(at':Int)+4) (at'+4) (by grind) (by grind);obtain⟨y,ey,ly⟩:=drw ns hn at' 3 6 (by grind);obtain⟨m6,em6⟩:=cS1 y ly;obtain⟨u,eu,lu⟩:=drw ns hn at' 3 5 (by grind);obtain⟨v,ev,lv⟩:=drw ns hn at' 4 5 (by grind);obtain⟨q,eq,oq⟩:=aX0 ns (at'+7) hn (by grind)
 have eq:Y3 [scr ns,.int ((at':Int)+7)]=Z q.d:=by
  have:((at'+7:Nat):Int)=(at':Int)+7:=by grind
  rw[← this];exact eq
 have hr:=aM3 hr;cases n with
 | tone nm' rr s sh =>
  refine⟨.shw nm' sh<|(x:Int)==0,D9 ?_,ag5 g rfl hm (by rw[gf];rfl) (by rw[gz,if_pos rfl]) trivial trivial trivial,rfl⟩;rw[fV,gy];cases q1:((t:Int)==1)<;>exists evD,Q7,eN,en,q1,be7,cr6,cW4,cV0,ex
 | group nm' m s sh ms =>
  rw[fX]at o1;cases q1:((t:Int)==1) with
  | true =>
   refine⟨.shw nm' sh<|(x:Int)==0,D9 ?_,ag5 g rfl hm (by rw[gf];rfl) (by rw[gz,if_pos rfl]) trivial trivial trivial,rfl⟩;rw[fV,gy]
   exists evD,Q7,eN,en,q1,aI7,bu2,cW3,ex
  | false =>
   refine⟨.str nm' s r,(A6 (ρ':=(eN ns at' w h l nm (.tuple [.str "group", nm',.str m.s,fr s,.bool sh,↥ms]) t)) ?_).trans<|D9 ?_,ag5 g rfl hm (by rw[gf];rfl) (by rw[gz,if_pos rfl]) hr o1.1 trivial,rfl⟩
   .rw[fV];exists evD,Q7,eN,en,q1,aI7,dc4
   .rw[gy];cases q2:((t:Int)==2)<;>exists evD,X4,eN,en,q2,aI7,bu2,cr5,bz6,er
 | layer nm' m s sh lf tp mk w' h' l' kb =>
  rw[fX]at o1;rw[gh]at o2;obtain⟨p1,p2,_⟩:=o1;cases q1:((t:Int)==1) with
  | true =>
   refine⟨.shw nm' sh<|(x:Int)==0,D9 ?_,ag5 g rfl hm (by rw[gf];rfl) (by rw[gz,if_pos rfl]) trivial trivial trivial,rfl⟩;rw[fV,gy]
   exists evD,Q7,eN,en,q1,az1,aP3,cW1,ex
  | false =>
   rw[A6 (ρ':=(eN ns at' w h l nm (.tuple<|yL nm' m s sh lf tp mk w' h' l') t)) (by rw[fV];exists evD,Q7,eN,en,q1,az1,dc3)];cases q2:((t:Int)==2) with
   | true =>
    refine⟨.str nm' s r,D9 ?_,ag5 g rfl hm (by rw[gf];rfl) (by rw[gz,if_pos rfl]) hr p1 trivial,rfl⟩;rw[gy]
    exists evD,X4,eN,en,q2,az1,aP3,cr4,er
   | false =>
    rw[A6 (ρ':=(eN ns at' w h l nm (.tuple<|yL nm' m s sh lf tp mk w' h' l') t)) (by exists evD,X4,eN,en,q2,az1,bz5)];cases q3:((t:Int)==3) with
    | true =>
     refine⟨.man nm' m m6,D9 ?_,ag5 g rfl hm (by rw[gf];rfl) (by rw[gz,if_pos rfl]) trivial trivial trivial,rfl⟩;rw[gy]
     exists evD,u6,eN,en,q3,aP3,cW2,ey,em6
    | false =>
     rw[A6 (ρ':=(eN ns at' w h l nm (.tuple<|yL nm' m s sh lf tp mk w' h' l') t)) (by exists evD,u6,eN,en,q3)];cases q4:((t:Int)==4) with
     | true =>
      refine⟨.plc nm' lf tp ((u:Int) - 2)<|(v:Int) - 2,D9 ?_,ag5 g rfl hm (by rw[gf];rfl) (by rw[gz,if_pos ⟨rfl,rfl⟩]) ⟨⟨by grind,by grind⟩,by grind,by grind⟩ ⟨⟨o2.1,o2.2.1⟩,o2.2.2.1,o2.2.2.2.1⟩ trivial,rfl⟩;have sl:E3 (A1 6) (B7 ⇑5) (B7 ⇑7) (eN ns at' w h l nm (.tuple<|yL nm' m s sh lf tp mk w' h' l') t)=Z (.tuple [.int lf,.int tp]):=rfl;rw[gy];simp only[u5,eN,en,sIf,B0,tB2,N0,B6,A0,A3,sl,A5,dC,A2,dIx,A8,aO0,A1,xg0,xg1,xbs,xms,aH0,n5,q4,az9,aP3,eu,ev,aX9,if_true]
     | false =>
      rw[A6 (ρ':=(eN ns at' w h l nm (.tuple<|yL nm' m s sh lf tp mk w' h' l') t)) (by exists evD,u5,eN,en,q4)];obtain⟨w1,w8,h1,h8,len,_⟩:=p2;obtain⟨b1,b2,b3,b4,b5,w3,h3,o8⟩:=o2;obtain⟨a,ea,la⟩:=K8 ns hn (e:=(at':Int)+3) (m':=(w':Int)) (at'+3) w' (by grind) rfl (by grind) (by grind);obtain⟨b,eb,lb⟩:=K8 ns hn (e:=(at':Int)+4) (m':=(h':Int)) (at'+4) h' (by grind) rfl (by grind) (by grind)
      have bw:b*w'+a < l'.length:=by
       rw[len];have:(b+1)*w'<=h'*w':=cL _ (by grind);rw[bZ w' h'];rw[dt]at this
       grind
      have em:D5 (.int b) (.int w')=Z (.int ((b*w':Nat):Int)):=N8 (by grind) (by grind)
      have ei:atI (l'.map fU) (((b*w':Nat):Int)+(a:Int))=Z (l'[b*w'+a]).d:=by
       rw[← eM];exact P8 (by rw[aI,av bw];rfl)
      have l3:∀a b c:D,([a,b,c]:List D).length=3:=λ_ _ _=>rfl
      refine⟨.spt nm' a b (l'[b*w'+a]) q,?_,ag5 g rfl hm (by rw[gf];rfl) (by rw[gz,if_pos ⟨la,lb,?_⟩]) oq (o8 _<|aT bw) ⟨by grind,by grind⟩,rfl⟩
      .rw[A6 (ρ':=(en ns at' w h l nm (‹↥l›) (‹.list ((gx l).map fV)›) (‹.tuple (yL nm' m s sh lf tp mk w' h' l')›) (‹.int t›) O O O (‹.int w'›) (‹.int h'›) (‹.tuple (l'.map fU)›) O O)) (by exists evD,ab5,eN,en,cr3,shD,l3)];rw[A6 (ρ':=(en ns at' w h l nm (‹↥l›) (‹.list ((gx l).map fV)›) (‹.tuple (yL nm' m s sh lf tp mk w' h' l')›) (‹.int t›) O O O (‹.int w'›) (‹.int h'›) (‹.tuple (l'.map fU)›) (‹.int a›) O)) (by exists evD,ab4,eN,en,ea)];rw[A6 (ρ':=(en ns at' w h l nm (‹↥l›) (‹.list ((gx l).map fV)›) (‹.tuple (yL nm' m s sh lf tp mk w' h' l')›) (‹.int t›) O O O (‹.int w'›) (‹.int h'›) (‹.tuple (l'.map fU)›) (‹.int a›)<|‹.int b›)) (by exists evD,ab3,eN,en,eb)];rw[gy]
       exists evD,ab1,eN,en,em,ei,eq,aP3
      .rw[aZ,av bw];exact bL3 _
def aH1{N:Nat}{l:List Nd}(g:Gp N l)(hN:N<=60)(ns:List Int)(hn:ns.length<=63)(at':Nat)(ha:at' < 2 ^ 16)(w h:Nat){nm:Str}(hnm:Nm (.str nm))(h5:nm.length<=5):∃e:De,n9 [scr ns,.int at',C6 w h l,.str nm]=Z e.d/\Dw l nm e:=by
 have l6:=(g.pl<|by grind).al;have eA:=aW2 3 l 12 g.dp (by decide) (by grind);have fin:∀e:De,aa5 (en ns at' w h l nm O O O O O O O O O O O O)=Z (.rt e.d)->Dw l nm e->∃e:De,n9 [scr ns,.int at',C6 w h l,.str nm]=Z e.d/\Dw l nm e:=λd h1 h2=>⟨d,B2 rfl h1,h2⟩
 have s0:ay1 (en ns at' w h l nm O O O O O O O O O O O O)=Z (.nx<|en ns at' w h l nm (‹↥l›) O O O O O O O O O O O):=rfl
 have eX:eqD (.list<|(gx l).map fV) (.list [])=Z (.bool ((gx l).map fV).isEmpty):=by
  unfold eqD
  rw[if_pos ⟨(Ly.lst (n:=30) λx hx=>by
   obtain⟨n,hn',rfl⟩:=aM.mp hx
   exact g.ly hn').shaped (by decide),rfl⟩]
  cases(gx l).map fV<;>rfl
 obtain⟨c,ec,lc⟩:=K8 ns hn (e:=(at':Int)) (m':=4) at' 4 rfl rfl (by grind) (by decide);obtain⟨dp,ep,hp,_⟩:=bz8 g hN ns hn (at'+20) (by grind) hnm h5
 have ep:aC6 [scr ns,.int ((at':Int)+20),↥l,.str nm]=Z dp.d:=by
  have:((at'+20:Nat):Int)=(at':Int)+20:=by grind
  rw[← this];exact ep
 cases q0:((gx l).map fV).isEmpty with
 | true =>
  rw[q0]at eX;refine fin dp ?_ hp;unfold aa5;rw[A6 s0];refine(A6 (by exists evD,X7,eN,en,eA;rfl)).trans ?_;exact D9 (by exists evD,X6,eN,en,eX,ep)
 | false =>
  rw[q0]at eX;cases q1:((c:Int)==0) with
  | true =>
   refine fin dp ?_ hp;unfold aa5;rw[A6 s0];refine(A6 (by exists evD,X7,eN,en,eA;rfl)).trans ?_;exact D9 (by exists evD,X6,eN,en,eX,ec,q1,ep)
  | false =>
   have pos:0 < (gx l).length:=by
    cases e:gx l with
    | nil=>rw[e]at q0;cases q0
    | cons a b=>rw[aH];grind
   obtain⟨i,ei,li⟩:=K8 ns hn (e:=(at':Int)+1) (m':=(((gx l).map fV).length:Nat)) (at'+1) (gx l).length (by grind) (by rw[aj]) (by grind) pos;have hm:(gx l)[i]∈gx l:=aT li;have ai:atI ((gx l).map fV) (i:Int)=Z ((gx l)[i]).d:=P8 (by rw[aI,av li];rfl);generalize (gx l)[i]=n at hm ai;obtain⟨t,et,lt⟩:=drw ns hn at' 2 6 (by grind);cases q2:((t:Int)==0) with
   | true =>
    obtain⟨d,e1,e2⟩:=cY4 g hN ns at' w h nm hm t q2;refine fin d ?_ e2;unfold aa5;rw[A6 s0];refine(A6 (by exists evD,X7,eN,en,eA;rfl)).trans ?_;refine(A6 (by exists evD,X6,eN,en,eX,ec,q1;rfl)).trans ?_;refine(A6 (by exists evD,ae9,eN,en,ei,ai;rfl)).trans ?_;refine(A6 (by exists evD,ae8,eN,en,et;rfl)).trans ?_;exact D9 e1
   | false =>
    obtain⟨d,e1,e2,_⟩:=cY3 g hN ns hn at' (by grind) w h nm hm t q2;refine fin d ?_ e2;unfold aa5;rw[A6 s0];refine(A6 (by exists evD,X7,eN,en,eA;rfl)).trans ?_;refine(A6 (by exists evD,X6,eN,en,eX,ec,q1;rfl)).trans ?_;refine(A6 (by exists evD,ae9,eN,en,ei,ai;rfl)).trans ?_;refine(A6 (by exists evD,ae8,eN,en,et;rfl)).trans ?_;exact e1
def cz8{N:List D}{many:Nat}{b:Bool}(hm:many<=14)(hP:∀i,i < many->∃y,N[i]? = Z (.str<|nmS b i y)/\SOk y/\y.length<=4):∀j,j < many->∃y:Str,N[j]? = Z (.str<|nmS b j y)/\Nm (.str<|nmS b j y)/\(nmS b j y).length<=5:=λj hj=>by
 obtain⟨y,e1,e2,e3⟩:=hP j hj
 have ln:(nmS b j y).length=y.length+1:=by
  have lc:(ltr j).cps.size=1:=rfl;cases b
  .show(y.cps++(ltr j).cps).size=_;rw[bO,lc];rfl
  .show((ltr j).cps++y.cps).size=_;rw[bO,lc,Nat.add_comm];rfl
 exact⟨y,e1,⟨_,rfl,cd9 b (by grind) e2,by grind,by grind⟩,by grind⟩
def cU6{N:List D}{b:Bool}{l:List Nd}(hl:NOk N 2 4 l)(hP:∀j,j < 6->∃y:Str,N[j]? = Z (.str<|nmS b j y)/\Nm (.str<|nmS b j y)/\(nmS b j y).length<=5):Gp 6 l/\∀d∈gk l,∃(j:Nat) (y:Str),j < 6/\d=.str (nmS b j y):=by
 obtain⟨is,q1,q2,q3⟩:=hl.ix
 have gd:∀j,j < 6->∃y:Str,N.getD j .none=.str (nmS b j y)/\Nm (.str<|nmS b j y):=λj hj=>by
  obtain⟨y,e1,e2,_⟩:=hP j hj;exact⟨y,by rw[aZ,e1];rfl,e2⟩
 have nm6:∀d∈gk l,∃(j:Nat) (y:Str),j < 6/\d=.str (nmS b j y)/\Nm d:=λd hd=>by
  rw[q1]at hd;obtain⟨j,hj,rfl⟩:=aM.mp hd;have j6:j < 6:=by have:=q3 j hj;omega
  obtain⟨y,e1,e2⟩:=gd j j6;exact⟨j,y,j6,e1,by rw[e1];exact e2⟩
 refine⟨⟨hl.ok,hl.nr,by have:=hl.dp;omega,λd hd=>(nm6 d hd).choose_spec.choose_spec.2.2,?_,?_⟩,λd hd=>?_⟩
 .rw[q1];refine dG.mpr (cY.imp_of_mem (λ{i j} hi hj ne e=>?_) q2);obtain⟨y,e1,_⟩:=gd i (by have:=q3 i hi;omega);obtain⟨z,e2,_⟩:=gd j (by have:=q3 j hj;omega);rw[e1,e2]at e;exact ne (bp8 (b:=b)<|by injection e)
 .rw[q1,aj];have:=List.Nodup.length_le_of_subset (l₂:=az 6) q2 λj hj=>aR.mpr (by have:=q3 j hj;omega)
  rw[aW]at this;omega
 .obtain⟨j,y,h1,h2,_⟩:=nm6 d hd;exact⟨j,y,h1,h2⟩
def bM4{w h:Nat}{N:Nat}{l:List Nd}(g:Gp N l):Ly 20 (C6 w h l):=(cB3 λd hd=>P7<|g.nm d hd).mono (by have:=g.dp;grind)
def co8{e:De}(d:Dg e):Ly 30 e.d:=by
 have q:∀n,Ly n e.nm:=λn=>by obtain⟨s,e1,e2⟩:=d.de.nm;rw[e1];exact⟨e2,aO _⟩
 have st:∀(x:Str) (n:Nat),fN (.str x)=true->Ly n (.str x):=λx n hx=>⟨hx,aO _⟩
 have bl:∀(b:Bool) (n:Nat),Ly n (.bool b):=λb n=>⟨rfl,aO _⟩
 have two:∀i j:Int,Ly 5 (.tuple [.int i,.int j]):=λi j=>(Ly.tup (n:=0) λy hy=>by
  simp only[am,aC,or_false]at hy
  rcases hy with rfl|rfl<;>exact Ly.int _ _).mono (by decide)
 have lx:∀pa k x,e=.put pa k x\/e=.out pa k x->Ly 20 x.d:=λpa k x h=>(ay5 x (d.de.nd pa k x h).1).mono (by have:=(d.de.nd pa k x h).2.1;grind)
 cases e with
 | spt nm x y o n=>rw[gy];exact(Ly.tup (n:=5) λz hz=>by
   simp only[am,aC,or_false]at hz
   rcases hz with rfl|rfl|rfl|rfl|rfl|rfl<;>first|exact st _ _ (by decide +kernel)|exact q _|exact Ly.int _ _|exact Ly.q4 _ 3).mono (by decide)
 | _=>rw[gy];exact(Ly.tup (n:=20) λz hz=>by
   simp only[am,aC,or_false]at hz
   rcases hz with rfl|rfl|rfl|rfl<;>first|exact st _ _ (by decide +kernel)|exact q _|exact Ly.int _ _|exact bl _ _|exact bi7 _ _|exact(two _ _).mono (by decide)|exact(ba5 _).mono (by decide)|exact lx _ _ _ (.inl rfl)|exact lx _ _ _ (.inr rfl)).mono (by decide)
def De.car:De->List D
 | .put _ _ x=>x.nms
 | .out _ _ x=>x.nms
 | _=>[]
def De.no:De->Nat
 | .put _ k _=>k
 | .out _ k _=>k
 | _=>0
def De.wn(k:Nat):De->De
 | .put pa _ x=>.put pa k x
 | .out pa _ x=>.out pa k x
 | e=>e
def De.bg:De->List D
 | .str nm _ _=>[.str "strength", nm]
 | .shw nm _ _=>[.str "shown", nm]
 | .man nm _ _=>[.str "manner", nm]
 | .plc nm _ _ _ _=>[.str "place", nm]
 | .spt nm x y _ _=>[.str "spot", nm,.int x,.int y]
 | .put pa _ _=>[.str "put", pa]
 | .out pa _ _=>[.str "out", pa]
def tch(a b:De):Bool:=inK b.car a.nm || (inK a.car b.nm || a.car.any λx=>inK b.car x)
def X9(a b:De):Bool:=!a.isV&&(!b.isV&&same a.nm b.nm)
def nhd(a b:De):Bool:=if a.isP=b.isP then false else decide (a.no=b.no) || (decide (a.no=b.no+1\/b.no=a.no+1)&&a.isP)
def hld(a b:De):Bool:=tch a b || (if X9 a b=true then nhd a b else same (.tuple a.bg) (.tuple b.bg))
def swp(a b:De):De×De:=if b.isP=true/\b.no<=a.no then(b,a.wn<|a.no+1) else if b.isO=true/\b.no < a.no then(b,a.wn<|a.no - 1) else(b.wn (if a.isP=true then b.no - 1 else b.no+1),a)
def exc(a b:De):Option (De×De):=if hld a b=true then O else if X9 a b=true then Z (swp a b) else Z (b,a)
def cy2:Option (De×De)->D
 | none=>.none
 | some z=>.tuple [z.1.d,z.2.d]
structure Dx (e:De):Prop where
 nm:as4 e.nm
 nd:∀pa k x,e=.put pa k x\/e=.out pa k x->(∀d∈x.nms,G3 d)/\x.dp<=4/\x.nms.length<=100
def Dee.dx{e:De}(d:Dee e):Dx e:=⟨d.nm,d.nd⟩
theorem Dx.car{e:De}(d:Dx e):(∀x∈e.car,as4 x)/\e.car.length<=100:=by
 cases e with
 | put pa k x=>obtain⟨h1,_,h3⟩:=d.nd pa k x (.inl rfl);exact⟨λy hy=>(h1 y hy).l,h3⟩
 | out pa k x=>obtain⟨h1,_,h3⟩:=d.nd pa k x (.inr rfl);exact⟨λy hy=>(h1 y hy).l,h3⟩
 | _=>exact⟨λx hx=>(aC hx).elim,by show 0<=100;decide⟩
def db8{d:D}{K:List D}(hd:as4 d)(hK:∀x∈K,as4 x):inD false d (.list K)=Z (.bool<|inK K d):=by
 obtain⟨s,rfl,_⟩:=hd;have fl:K.all K0=true:=bt.mpr λx hx=>by obtain⟨t,rfl,_⟩:=hK x hx;rfl
 by_cases h:(fM s:D)∈K
 .rw[ap9 h];exact bQ2 (v:=true) rfl fl<|bc.mpr ⟨.str s,aM.mpr ⟨.str s,h,rfl⟩,beq_self_eq_true s⟩
 .rw[cU0 h];refine bQ2 (v:=false) rfl fl (bP.mpr λy hy=>?_);obtain⟨x,hx,rfl⟩:=aM.mp hy;obtain⟨t,rfl,_⟩:=hK x hx;show ¬(t==s)=true;intro e;exact h (by rw[← eq_of_beq e];exact hx)
def cH1(e:De):(e.isP || e.isO) = !e.isV:=by cases e<;>rfl
def bh6(e:De):M5 [e.d]=Z (.bool (!e.isV)):=by
 obtain⟨i1,i2⟩:=aa1 e;refine B2 (g:=Z1) (ρ:=[‹e.d›]) rfl ?_;rw[← cH1];cases h1:e.isP<;>(rw[h1]at i1;exists evD,Z1,i1,i2,cJ,cr)
def aI6{e:De}(d:Dx e):P1 [e.d]=Z (.list e.car):=by
 have i:=bh6 e;have t:(G7<|A2 M5 (A0 (A1 0) A3)) [‹e.d›]=Z (!e.isV):=by exists evD,i
 have key:∀x:Nd,x.dp<=4->x.nms.length<=100->E6 12 [.tuple [x.d]]=Z (.list x.nms):=λx h1 h2=>by
  have e0:gk [x]=x.nms:=by rw[gk,gk,br]
  have:=names_among 4 [x] 12 (by rw[gc,gc];grind) (by decide) (by rw[e0];grind)
  rwa [e0,am6]at this
 refine B2 (g:=Z0) (ρ:=[‹e.d›]) rfl ?_;unfold Z0 B0 aI2;rw[t,xbs];cases e with
 | put pa k x =>
  obtain⟨_,h2,h3⟩:=d.nd pa k x (.inl rfl);have n:L6 [(De.put pa k x).d]=Z x.d:=by rw[gy];rfl
  rw[show(!(De.put pa k x).isV)=true from rfl,if_pos rfl]
  exists evD,n,key x h2 h3,De.car
 | out pa k x =>
  obtain⟨_,h2,h3⟩:=d.nd pa k x (.inr rfl);have n:L6 [(De.out pa k x).d]=Z x.d:=by rw[gy];rfl
  rw[show(!(De.out pa k x).isV)=true from rfl,if_pos rfl]
  exists evD,n,key x h2 h3,De.car
 | _=>rfl
def bg6{e:De}(d:Dx e):Z4 [e.d]=Z (.list (e.nm::e.car)):=by
 have c:=aI6 d;have t:=V4 e;have k:=aV3 (xs:=[e.nm]) (ys:=e.car) (by have:=d.car.2;simp;grind);refine B2 (g:=Y9) (ρ:=[‹e.d›]) rfl ?_
 exists evD,Y9,c,t,k
def cK5{α:Type}(l:List α)(p:α->Bool):bW8 (l.map λx=>fL<|p x)=Z (l.any p):=by
 induction l with
 | nil=>rfl
 | cons x l ih=>rw[xmc,bW8,ih,bF];rfl
def bo3{a b:De}(da:Dx a)(db:Dx b):C3 [a.d,b.d]=Z (.bool<|a.car.any λx=>inK (b.nm::b.car) x):=by
 have c:=aI6 da;have t:=bg6 db;refine B2 (g:=J3) (ρ:=[‹a.d›,‹b.d›,O]) rfl ?_;unfold J3;refine(A6 (by exists evD,t;rfl)).trans ?_
 have cp:C5 1 [2] (M9<|A2 P1 (A0 (A1 0) A3)) (B5 0) F9 (A5 (inD false) (A1 0)<|A1 1) [‹a.d›,‹b.d›,‹.list (b.nm::b.car)›]=Z (a.car.map λx=>.bool<|inK (b.nm::b.car) x):=by
  refine V7 (l:=a.car) (h:=λx=>x) (r:=[‹.list (b.nm::b.car)›]) rfl (by exists evD,c,List.map_id') (by have:=da.car.2;omega) λx hx=>?_
  have:=db8 (d:=x) (K:=b.nm::b.car) (da.car.1 x hx) (λy hy=>by
   rcases am.mp hy with rfl|hy
   .exact db.nm
   .exact db.car.1 y hy)
  exists evD,this
 unfold B0 ck9 qN;rw[cp];simp only[xms,xbs,cK5,if_neg (show ¬(false=true) from by decide)]
def bK1{a b:De}(da:Dx a)(db:Dx b):K3 [a.d,b.d]=Z (.bool<|X9 a b):=by
 have i1:=bh6 a;have i2:=bh6 b;have t1:=V4 a;have t2:=V4 b
 have q:eqD a.nm b.nm=Z (.bool<|same a.nm b.nm):=by
  obtain⟨s,e1,h1⟩:=da.nm;obtain⟨t,e2,h2⟩:=db.nm;rw[e1,e2];by_cases h:s=t
  .subst h;rw[D4];exact K1 h1 h2 (by simp)
  .rw[M7 (by intro z;injection z with z;exact h z)];exact K1 h1 h2 (by simpa using h)
 refine B2 (g:=U6) (ρ:=[‹a.d›,‹b.d›]) rfl ?_;unfold X9;cases h1:a.isV<;>cases h2:b.isV<;>(rw[h1]at i1;rw[h2]at i2;exists evD,U6,i1,i2,t1,t2,q,dF,dy)
def bg7(a b:De):((a.car.any λx=>inK (b.nm::b.car) x) || (b.car.any λx=>inK (a.nm::a.car) x))=tch a b:=by
 unfold tch;rw[bo];simp only[Bool.or_eq_true,bc];constructor
 .rintro(⟨x,h1,h2⟩|⟨x,h1,h2⟩)
  .rcases am.mp (aE8 h2) with z|z
   .exact .inr (.inl<|ap9 (by rw[← z];exact h1))
   .exact .inr (.inr ⟨x,h1,ap9 z⟩)
  .rcases am.mp (aE8 h2) with z|z
   .exact .inl (ap9 (by rw[← z];exact h1))
   .exact .inr (.inr ⟨x,z,ap9 h1⟩)
 .rintro(h|h|⟨x,h1,h2⟩)
  .exact .inr ⟨a.nm,aE8 h,ap9 ae⟩
  .exact .inl ⟨b.nm,aE8 h,ap9 ae⟩
  .exact .inl ⟨x,h1,ap9<|xmm _ (aE8 h2)⟩
def Pln(d:D):Prop:=(∃s,d=.str s)\/∃i,d=.int i
def cb3{a b:D}(ha:Pln a)(hb:Pln b):fJ a b=same a b:=by
 rcases ha with⟨s,rfl⟩|⟨i,rfl⟩<;>rcases hb with⟨t,rfl⟩|⟨j,rfl⟩
 .by_cases h:s=t
  .subst h;rw[D4];show(s==s)=true;simp
  .rw[M7 (by intro z;injection z with z;exact h z)];show(s==t)=false;simpa using h
 .rw[M7 (by intro z;cases z)];rfl
 .rw[M7 (by intro z;cases z)];rfl
 .by_cases h:i=j
  .subst h;rw[D4];show(i==i)=true;simp
  .rw[M7 (by intro z;injection z with z;exact h z)];show(i==j)=false;simpa using h
theorem aY8:∀{a b:List D},(∀x∈a,Pln x)->(∀x∈b,Pln x)->(PyData.eqvAll a b=true↔a=b)
 | [],[],_,_=>by simp[PyData.eqvAll]
 | [],_::_,_,_=>by simp[PyData.eqvAll]
 | _::_,[],_,_=>by simp[PyData.eqvAll]
 | x::a,y::b,ha,hb=>by
  have e:=cb3 (ha x ae) (hb y ae);have r:=aY8 (λz hz=>ha z<|xmm _ hz) (λz hz=>hb z<|xmm _ hz);simp only[PyData.eqvAll,ar,e,G4,r,List.cons.injEq]
def aB6{e:De}(d:Dx e):(∀x∈e.bg,Pln x)/\∀x∈e.bg,Ly 0 x:=by
 obtain⟨s,hs,ls⟩:=d.nm
 have k:∀w:Str,fN (.str w)=true->(∀x∈([.str w,e.nm]:List D),Pln x)/\∀x∈([.str w,e.nm]:List D),Ly 0 x:=λw hw=>by
  constructor<;>(intro x hx;simp only[am,aC,or_false]at hx;rcases hx with rfl|rfl)
  .exact .inl ⟨_,rfl⟩
  .exact .inl ⟨s,hs⟩
  .exact⟨hw,ak _⟩
  .rw[hs];exact⟨ls,ak _⟩
 cases e with
 | spt nm x y o n =>
  have k:=k "spot" (by decide +kernel);constructor<;>(intro z hz;rw[De.bg]at hz;simp only[am,aC,or_false]at hz;rcases hz with rfl|rfl|rfl|rfl)
  .exact k.1 _ (by simp)
  .exact k.1 _ (by simp[De.nm])
  .exact .inr ⟨_,rfl⟩
  .exact .inr ⟨_,rfl⟩
  .exact k.2 _ (by simp)
  .exact k.2 _ (by simp[De.nm])
  .exact Ly.int _ _
  .exact Ly.int _ _
 | str=>exact k "strength" (by decide +kernel)
 | shw=>exact k "shown" (by decide +kernel)
 | man=>exact k "manner" (by decide +kernel)
 | plc=>exact k "place" (by decide +kernel)
 | put=>exact k "put" (by decide +kernel)
 | out=>exact k "out" (by decide +kernel)
def ca9{a b:De}(da:Dx a)(db:Dx b):eqD (.tuple a.bg) (.tuple b.bg)=Z (.bool<|same (.tuple a.bg) (.tuple b.bg)):=by
 have la:Ly 1 (.tuple a.bg):=Ly.tup (aB6 da).2;have lb:Ly 1 (.tuple b.bg):=Ly.tup (aB6 db).2;unfold eqD;rw[if_pos ⟨la.shaped (by decide),lb.shaped<|by decide⟩]
 have:fJ (.tuple a.bg) (.tuple b.bg)=same (.tuple a.bg) (.tuple b.bg):=by
  rw[bo,G4];have:=aY8 (aB6 da).1 (aB6 db).1;constructor
  .intro h;rw[this.mp h]
  .intro h;injection h with h;exact this.mpr h
 rw[this]
def bI0(e:De){ρ:Rho}{i:Nat}(h:A1 i ρ=Z e.d):E3 (A1 i) C7 (B7<|aH8 ⇑2) ρ=Z (.tuple e.bg):=by
 unfold E3;rw[h];cases e<;>(rw[gy];rfl)
def cM8{a b:De}(ha:a.isV=false)(hb:b.isV=false):eqD (.str a.w) (.str b.w)=Z (.bool<|decide (a.isP=b.isP)):=by
 cases a with
 | put pa k x =>
  cases b with
  | put pb j y=>exact K1 (x := "put") (y := "put") (b:=true) (by decide +kernel) (by decide +kernel) (by decide +kernel)
  | out pb j y=>exact K1 (x := "put") (y := "out") (b:=false) (by decide +kernel) (by decide +kernel) (by decide +kernel)
  | _=>cases hb
 | out pa k x =>
  cases b with
  | put pb j y=>exact K1 (x := "out") (y := "put") (b:=false) (by decide +kernel) (by decide +kernel) (by decide +kernel)
  | out pb j y=>exact K1 (x := "out") (y := "out") (b:=true) (by decide +kernel) (by decide +kernel) (by decide +kernel)
  | _=>cases hb
 | _=>cases ha
def bj3{e:De}(h:e.isV=false):e.isO = !e.isP:=by cases e<;>first|rfl|cases h
def bp7{e:De}(h:e.isV=false):L4 [e.d]=Z (.int e.no):=by
 cases e with
 | put pa k x=>rw[gy];rfl
 | out pa k x=>rw[gy];rfl
 | _=>cases h
def cm8{e:De}(h:e.isV=false)(k:Nat):T1 [e.d,.int k]=Z (e.wn k).d:=by
 have w:=ao0 e;have t:=V4 e;cases e with
 | put pa j x =>
  have n:L6 [(De.put pa j x).d]=Z x.d:=by rw[gy];rfl
  refine B2 (g:=T0) (ρ:=[Z (.val (De.put pa j x).d),‹.int k›]) rfl ?_
  exists evD,T0,w,t,n
  rw[De.wn,gy];rfl
 | out pa j x =>
  have n:L6 [(De.out pa j x).d]=Z x.d:=by rw[gy];rfl
  refine B2 (g:=T0) (ρ:=[Z (.val (De.out pa j x).d),‹.int k›]) rfl ?_
  exists evD,T0,w,t,n
  rw[De.wn,gy];rfl
 | _=>cases h
def cX7(p q:Nat):(.int (if(p:Int) - q < 0 then -((p:Int) - q) else(p:Int) - q):D)=.int ((p - q+(q - p):Nat):Int):=by
 congr 1
 split<;>grind
def cR7{a b:De}(ha:a.isV=false)(hb:b.isV=false):n8 [a.d,b.d]=Z (.bool<|nhd a b):=by
 have w1:=ao0 a;have w2:=ao0 b;have n1:=bp7 ha;have n2:=bp7 hb;have q:=cM8 ha hb;obtain⟨i1,_⟩:=aa1 a;have t:(tB2 eqD (A2 M4<|A0 (A1 0) A3)<|A2 M4 (A0 (A1 1) A3)) [‹a.d›,‹b.d›,O]=Z (decide (a.isP=b.isP)):=by exists evD,w1,w2,q
 refine B2 (g:=n6) (ρ:=[‹a.d›,‹b.d›,O]) rfl ?_;unfold n6 nhd;by_cases h:a.isP=b.isP
 .rw[decide_eq_true h]at t;rw[if_pos h];exact D9<|(E2 t).trans rfl
 .rw[decide_eq_false h]at t;rw[if_neg h,A6 ((C1 t).trans rfl)]
  have e0:eqD (.int ((a.no - b.no+(b.no - a.no):Nat):Int)) (.int 0)=Z (.bool<|decide (a.no=b.no)):=by
   rw[aH0];congr 2;rw[bo];simp;grind
  have e1:eqD (.int ((a.no - b.no+(b.no - a.no):Nat):Int)) (.int 1)=Z (.bool<|decide (a.no=b.no+1\/b.no=a.no+1)):=by
   rw[aH0];congr 2;rw[bo];simp;grind
  rw[A6 (ρ':=[‹a.d›,‹b.d›,‹.int ((a.no - b.no+(b.no - a.no):Nat):Int)›]) (by
   exists evD,cl0,n1,n2
   rw[cX7])]
  cases h1:decide (a.no=b.no)<;>cases h2:decide (a.no=b.no+1\/b.no=a.no+1)<;>(rw[h1]at e0;rw[h2]at e1;exists evD,e0,e1,i1,cJ,cr,dF,dy)
def bQ6{a b:De}(da:Dx a)(db:Dx b):aC7 [a.d,b.d]=Z (.bool<|hld a b):=by
 have s1:=bo3 da db;have s2:=bo3 db da;have o:=bK1 da db;have pq:=ca9 da db;have p1:=bI0 a (ρ:=[‹a.d›,‹b.d›]) (i:=0) rfl;have p2:=bI0 b (ρ:=[‹a.d›,‹b.d›]) (i:=1) rfl
 have t1:(M6 (G7<|A2 C3 (A0 (A1 0)<|A0 (A1 1) A3))<|G7 (A2 C3<|A0 (A1 1) (A0 (A1 0) A3))) [‹a.d›,‹b.d›]=Z (tch a b):=by
  rw[← bg7 a b];generalize (a.car.any λx=>inK (b.nm::b.car) x)=x at *;generalize (b.car.any λx=>inK (a.nm::a.car) x)=y at *;cases x<;>exists evD,s1,s2,cJ,cr
 have t2:(G7<|A2 K3 (A0 (A1 0)<|A0 (A1 1) A3)) [‹a.d›,‹b.d›]=Z (X9 a b):=by exists evD,o
 refine B2 (g:=aW9) (ρ:=[‹a.d›,‹b.d›]) rfl ?_;unfold aW9 hld;cases h1:tch a b with
 | true=>rw[h1]at t1;exact D9<|(E2 t1).trans rfl
 | false =>
  rw[h1]at t1;rw[A6 ((C1 t1).trans rfl),cr];cases h2:X9 a b with
  | true =>
   rw[h2]at t2;unfold X9 at h2;simp only[ar,bp]at h2;have nh:=cR7 h2.1 h2.2.1;refine D9 ((E2 t2).trans ?_);rw[if_pos rfl]
   exists evD,nh
  | false =>
   rw[h2]at t2;rw[A6 ((C1 t2).trans rfl),if_neg (by simp)];unfold B0 A5;rw[p1,p2];simp only[xbs,pq,xms]
def cO5{a b:De}(ha:a.isV=false)(hb:b.isV=false)(hn:nhd a b=false):M3 [a.d,b.d]=Z (.tuple [(swp a b).1.d,(swp a b).2.d]):=by
 have n1:=bp7 ha;have n2:=bp7 hb;obtain⟨i1,_⟩:=aa1 a;obtain⟨i3,i4⟩:=aa1 b;have W1:=cm8 ha;have W2:=cm8 hb
 have t1:(p9 (G7<|A2 U8 (A0 (A1 1) A3))<|tB2 leI (A1 3) (A1 2)) [‹a.d›,‹b.d›,‹.int a.no›,‹.int b.no›]=Z (decide (b.isP=true/\b.no<=a.no)):=by
  cases h:b.isP with
  | true =>
   rw[h]at i3
   exists evD,i3
   congr 1
   rw[bo];simp
  | false =>
   rw[h]at i3
   exists evD,i3
   congr 1
 have t2:(p9 (G7<|A2 o9 (A0 (A1 1) A3))<|tB2 ltI (A1 3) (A1 2)) [‹a.d›,‹b.d›,‹.int a.no›,‹.int b.no›]=Z (decide (b.isO=true/\b.no < a.no)):=by
  cases h:b.isO with
  | true =>
   rw[h]at i4
   exists evD,i4
   congr 1
   rw[bo];simp
  | false =>
   rw[h]at i4
   exists evD,i4
   congr 1
 refine B2 (g:=M1) (ρ:=[‹a.d›,‹b.d›,O,O]) rfl ?_;unfold M1;refine(A6 (by exists evD,n1;rfl)).trans ?_;refine(A6 (by exists evD,n2;rfl)).trans ?_;unfold swp;by_cases h1:b.isP=true/\b.no<=a.no
 .rw[decide_eq_true h1]at t1;rw[if_pos h1];refine D9 ((E2 t1).trans ?_);have c:B1 (.int (a.no:Int)) (.int 1)=Z (.int ((a.no+1:Nat):Int)):=by rw[n5];rfl
  have W:=W1 (a.no+1);simp only[B0,B6,A2,A5,A0,A3,A1,dC,xg0,xg1,xbs,xms,c,W]
 .rw[decide_eq_false h1]at t1;rw[if_neg h1,A6 ((C1 t1).trans rfl)];by_cases h2:b.isO=true/\b.no < a.no
  .rw[decide_eq_true h2]at t2;rw[if_pos h2];refine D9 ((E2 t2).trans ?_);have c:ao2 (.int (a.no:Int)) (.int 1)=Z (.int ((a.no - 1:Nat):Int)):=by rw[aX9];congr 2;have:=h2.2;grind
   have W:=W1 (a.no - 1);simp only[B0,B6,A2,A5,A0,A3,A1,dC,xg0,xg1,xbs,xms,c,W]
  .rw[decide_eq_false h2]at t2;rw[if_neg h2,A6 ((C1 t2).trans rfl)];cases h3:a.isP with
   | true =>
    rw[h3]at i1
    have pos:1<=b.no:=by
     have o:=bj3 hb;unfold nhd at hn;rw[h3]at hn;cases hp:b.isP with
     | true =>
      have:¬b.no<=a.no:=λz=>h1 ⟨hp,z⟩
      grind
     | false =>
      rw[hp]at hn o;have:¬b.no < a.no:=λz=>h2 ⟨o,z⟩
      simp at hn
      grind
    have c:ao2 (.int (b.no:Int)) (.int 1)=Z (.int ((b.no - 1:Nat):Int)):=by rw[aX9];congr 2;grind
    have W:=W2 (b.no - 1);rw[if_pos rfl];simp only[B0,B6,A2,A5,aI2,G7,bg5,A0,A3,A1,dC,xg0,xg1,xbs,xms,i1,if_true,c,W]
   | false =>
    rw[h3]at i1;have c:B1 (.int (b.no:Int)) (.int 1)=Z (.int ((b.no+1:Nat):Int)):=by rw[n5];rfl
    have W:=W2 (b.no+1);rw[if_neg (by simp)];simp only[B0,B6,A2,A5,aI2,G7,bg5,A0,A3,A1,dC,xg0,xg1,xbs,xms,i1,if_neg (show ¬(false=true) from by decide),c,W]
def bR9{a b:De}(da:Dx a)(db:Dx b):R5 [a.d,b.d]=Z (cy2<|exc a b):=by
 have hd:=bQ6 da db;have o:=bK1 da db;have t1:(G7<|A2 aC7 (A0 (A1 0)<|A0 (A1 1) A3)) [‹a.d›,‹b.d›]=Z (hld a b):=by exists evD,hd
 have t2:(G7<|A2 K3 (A0 (A1 0)<|A0 (A1 1) A3)) [‹a.d›,‹b.d›]=Z (X9 a b):=by exists evD,o
 refine B2 (g:=ah4) (ρ:=[‹a.d›,‹b.d›]) rfl ?_;unfold ah4 exc;cases h1:hld a b with
 | true=>rw[h1]at t1;rw[if_pos rfl];exact D9<|(E2 t1).trans rfl
 | false =>
  rw[h1]at t1;rw[A6 ((C1 t1).trans rfl),if_neg (by simp)];cases h2:X9 a b with
  | true =>
   rw[h2]at t2;have h3:=h2;unfold X9 at h3;simp only[ar,bp]at h3;unfold hld at h1;rw[h2,if_pos rfl,cM]at h1;have sw:=cO5 h3.1 h3.2.1 h1.2;refine D9 ((E2 t2).trans ?_);rw[if_pos rfl]
   exists evD,sw
   rfl
  | false =>
   rw[h2]at t2;rw[A6 ((C1 t2).trans rfl),if_neg (by simp)];rfl
def ax0(e:De)(k:Nat):(e.wn k).nm=e.nm/\(e.wn k).car=e.car/\(e.wn k).isV=e.isV/\(e.wn k).isP=e.isP/\(e.wn k).isO=e.isO:=by cases e<;>exact⟨rfl,rfl,rfl,rfl,rfl⟩
def cm9{e:De}(h:e.isV=false)(k:Nat):(e.wn k).no=k:=by cases e<;>first|rfl|cases h
def ae1(e:De)(k j:Nat):(e.wn k).wn j=e.wn j:=by cases e<;>rfl
def T3(e:De):e.wn e.no=e:=by cases e<;>rfl
def aD4(a b:De):tch a b=tch b a:=by rw[← bg7,← bg7,Bool.or_comm]
def aM4(a b:D):same a b=same b a:=by rw[bo,G4,G4];exact⟨Eq.symm,Eq.symm⟩
def au2(a b:De):X9 a b=X9 b a:=by
 unfold X9;rw[aM4];cases a.isV<;>cases b.isV<;>rfl
def cu3(a b:De)(j k:Nat):tch (a.wn j) (b.wn k)=tch a b/\X9 (a.wn j) (b.wn k)=X9 a b:=by
 obtain⟨a1,a2,a3,_⟩:=ax0 a j;obtain⟨b1,b2,b3,_⟩:=ax0 b k;unfold tch X9;rw[a1,a2,a3,b1,b2,b3];exact⟨rfl,rfl⟩
def aX8{a b:De}(ha:a.isV=false)(hb:b.isV=false)(hn:nhd a b=false):nhd (swp a b).1 (swp a b).2=false/\swp (swp a b).1 (swp a b).2=(a,b)/\∃j k,swp a b=(b.wn j,a.wn k):=by
 have oa:=bj3 ha;have ob:=bj3 hb;have A:∀k,(a.wn k).isP=a.isP/\(a.wn k).isO=a.isO/\(a.wn k).no=k:=λk=>⟨(ax0 a k).2.2.2.1,(ax0 a k).2.2.2.2,cm9 ha k⟩
 have B:∀k,(b.wn k).isP=b.isP/\(b.wn k).isO=b.isO/\(b.wn k).no=k:=λk=>⟨(ax0 b k).2.2.2.1,(ax0 b k).2.2.2.2,cm9 hb k⟩
 have key:∀j k:Nat,swp a b=(b.wn j,a.wn k)->nhd (b.wn j) (a.wn k)=false->(swp (b.wn j)<|a.wn k).1.no=a.no->(swp (b.wn j)<|a.wn k).2.no=b.no->nhd (swp a b).1 (swp a b).2=false/\swp (swp a b).1 (swp a b).2=(a,b)/\∃j k,swp a b=(b.wn j,a.wn k):=λj k h1 h2 h3 h4=>by
  rw[h1];refine⟨h2,?_,j,k,rfl⟩
  have:∃p q,swp (b.wn j) (a.wn k)=(a.wn p,b.wn q):=by
   unfold swp;split
   .exact⟨k,_,by rw[ae1]⟩
   .split
    .exact⟨k,_,by rw[ae1]⟩
    .exact⟨_,j,by rw[ae1]⟩
  obtain⟨p,q,e⟩:=this;rw[e]at h3 h4 ⊢;rw[(A p).2.2]at h3;rw[(B q).2.2]at h4;rw[h3,h4,T3,T3]
 unfold nhd at hn;cases pa:a.isP<;>cases pb:b.isP<;>rw[pa]at oa A<;>rw[pb]at ob B<;>rw[pa,pb]at hn<;>simp at hn
 .
  by_cases h:b.no < a.no
  .refine key b.no (a.no - 1) ?_ ?_ ?_ ?_
   .unfold swp;rw[pb,ob,if_neg (by simp),if_pos ⟨rfl,h⟩,T3]
   .unfold nhd;rw[(A _).1,(B _).1,if_pos rfl]
   .unfold swp;simp only[(A _).1,(A _).2.1,(B _).1,(A _).2.2,(B _).2.2,oa];rw[if_neg (by simp),if_neg (by simp;grind)];simp only[ae1,(A _).2.2];simp;grind
   .unfold swp;simp only[(A _).1,(A _).2.1,(B _).1,(A _).2.2,(B _).2.2,oa];rw[if_neg (by simp),if_neg (by simp;grind)];simp only[(B _).2.2]
  .refine key (b.no+1) a.no ?_ ?_ ?_ ?_
   .unfold swp;rw[pb,ob,pa,if_neg (by simp),if_neg (by simp;grind),T3];rfl
   .unfold nhd;rw[(A _).1,(B _).1,if_pos rfl]
   .unfold swp;simp only[(A _).1,(A _).2.1,(B _).1,(A _).2.2,(B _).2.2,oa];rw[if_neg (by simp),if_pos ⟨rfl,by grind⟩];simp only[(A _).2.2]
   .unfold swp;simp only[(A _).1,(A _).2.1,(B _).1,(A _).2.2,(B _).2.2,oa];rw[if_neg (by simp),if_pos ⟨rfl,by grind⟩];simp only[ae1,(B _).2.2];grind
 .
  by_cases h:b.no<=a.no
  .refine key b.no (a.no+1) ?_ ?_ ?_ ?_
   .unfold swp;rw[pb,if_pos ⟨rfl,h⟩,T3]
   .unfold nhd;rw[(A _).1,(B _).1,(A _).2.2,(B _).2.2,if_neg (by simp)];simp;grind
   .unfold swp;simp only[(A _).1,(A _).2.1,(B _).1,(A _).2.2,(B _).2.2,oa];rw[if_neg (by simp),if_neg (by simp;grind)];simp only[ae1,(A _).2.2];simp
   .unfold swp;simp only[(A _).1,(A _).2.1,(B _).1,(A _).2.2,(B _).2.2,oa];rw[if_neg (by simp),if_neg (by simp;grind)];simp only[(B _).2.2]
  .refine key (b.no+1) a.no ?_ ?_ ?_ ?_
   .unfold swp;rw[pb,ob,pa,if_neg (by simp;grind),if_neg (by simp),T3];rfl
   .unfold nhd;rw[(A _).1,(B _).1,(A _).2.2,(B _).2.2,if_neg (by simp)];simp;grind
   .unfold swp;simp only[(A _).1,(A _).2.1,(B _).1,(A _).2.2,(B _).2.2,oa];rw[if_neg (by simp),if_pos ⟨rfl,by grind⟩];simp only[(A _).2.2]
   .unfold swp;simp only[(A _).1,(A _).2.1,(B _).1,(A _).2.2,(B _).2.2,oa];rw[if_neg (by simp),if_pos ⟨rfl,by grind⟩];simp only[ae1,(B _).2.2];grind
 .
  by_cases h:b.no < a.no
  .refine key b.no (a.no - 1) ?_ ?_ ?_ ?_
   .unfold swp;rw[pb,ob,if_neg (by simp),if_pos ⟨rfl,h⟩,T3]
   .unfold nhd;rw[(A _).1,(B _).1,(A _).2.2,(B _).2.2,if_neg (by simp)];simp;grind
   .unfold swp;simp only[(A _).1,(A _).2.1,(B _).1,(A _).2.2,(B _).2.2,oa];rw[if_neg (by simp;grind),if_neg (by simp)];simp only[ae1,(A _).2.2];simp;grind
   .unfold swp;simp only[(A _).1,(A _).2.1,(B _).1,(A _).2.2,(B _).2.2,oa];rw[if_neg (by simp;grind),if_neg (by simp)];simp only[(B _).2.2]
  .refine key (b.no - 1) a.no ?_ ?_ ?_ ?_
   .unfold swp;rw[pb,ob,pa,if_neg (by simp),if_neg (by simp;grind),T3];rfl
   .unfold nhd;rw[(A _).1,(B _).1,(A _).2.2,(B _).2.2,if_neg (by simp)];simp;grind
   .unfold swp;simp only[(A _).1,(A _).2.1,(B _).1,(A _).2.2,(B _).2.2,oa];rw[if_pos (by simp;grind)];simp only[(A _).2.2]
   .unfold swp;simp only[(A _).1,(A _).2.1,(B _).1,(A _).2.2,(B _).2.2,oa];rw[if_pos (by simp;grind)];simp only[ae1,(B _).2.2];grind
 .
  by_cases h:b.no<=a.no
  .refine key b.no (a.no+1) ?_ ?_ ?_ ?_
   .unfold swp;rw[pb,if_pos ⟨rfl,h⟩,T3]
   .unfold nhd;rw[(A _).1,(B _).1,if_pos rfl]
   .unfold swp;simp only[(A _).1,(A _).2.1,(B _).1,(A _).2.2,(B _).2.2,oa];rw[if_neg (by simp;grind),if_neg (by simp)];simp only[ae1,(A _).2.2];simp
   .unfold swp;simp only[(A _).1,(A _).2.1,(B _).1,(A _).2.2,(B _).2.2,oa];rw[if_neg (by simp;grind),if_neg (by simp)];simp only[(B _).2.2]
  .refine key (b.no - 1) a.no ?_ ?_ ?_ ?_
   .unfold swp;rw[pb,ob,pa,if_neg (by simp;grind),if_neg (by simp),T3];rfl
   .unfold nhd;rw[(A _).1,(B _).1,if_pos rfl]
   .unfold swp;simp only[(A _).1,(A _).2.1,(B _).1,(A _).2.2,(B _).2.2,oa];rw[if_pos (by simp;grind)];simp only[(A _).2.2]
   .unfold swp;simp only[(A _).1,(A _).2.1,(B _).1,(A _).2.2,(B _).2.2,oa];rw[if_pos (by simp;grind)];simp only[ae1,(B _).2.2];grind
def bS0{a b c e:De}(h:exc a b=Z (c,e)):exc c e=Z (a,b)/\∃j k,c=b.wn j/\e=a.wn k:=by
 unfold exc hld at h;cases ht:tch a b with
 | true=>rw[ht,cJ,if_pos rfl]at h;cases h
 | false =>
  rw[ht,cr]at h;cases ho:X9 a b with
  | false =>
   rw[ho,if_neg (show ¬(false=true) by decide),if_neg (show ¬(false=true) by decide)]at h;cases hs:same (.tuple a.bg) (.tuple b.bg) with
   | true=>rw[hs,if_pos rfl]at h;cases h
   | false =>
    rw[hs,if_neg (by decide)]at h;cases h;refine⟨?_,b.no,a.no,(T3 b).symm,(T3 a).symm⟩;unfold exc hld;rw[aD4,ht,au2,ho,aM4,cr,if_neg (show ¬(false=true) by decide),hs,if_neg (by decide),if_neg (by decide)]
  | true =>
   rw[ho,if_pos rfl,if_pos rfl]at h;cases hn:nhd a b with
   | true=>rw[hn,if_pos rfl]at h;cases h
   | false =>
    rw[hn,if_neg (by decide)]at h;have hv:=ho;unfold X9 at hv;simp only[ar,bp]at hv;obtain⟨s1,s2,j,k,s3⟩:=aX8 hv.1 hv.2.1 hn;injection h with h
    rw[h]at s1 s2 s3;injection s3 with s3 s4
    refine⟨?_,j,k,s3,s4⟩;have t:=cu3 b a j k;rw[← s3,← s4]at t;unfold exc hld;rw[t.1,t.2,aD4,au2,ht,ho,cr,if_pos rfl,if_pos rfl];rw[show nhd c e=false from s1,if_neg (by decide),show swp c e=(a,b) from s2]
mutual
def Nd.ap(nm:D) (f:Nd->Nd):Nd->Nd
 | .layer n m s sh lf tp mk w h l kb=>if same n nm=true then f (.layer n m s sh lf tp mk w h l kb) else .layer n m s sh lf tp mk w h l kb
 | .tone n r s sh=>if same n nm=true then f (.tone n r s sh) else .tone n r s sh
 | .group n m s sh ns=>if same n nm=true then f (.group n m s sh ns) else .group n m s sh (Nd.aps nm f ns)
def Nd.aps(nm:D) (f:Nd->Nd):List Nd->List Nd
 | []=>[]
 | n::r=>Nd.ap nm f n::Nd.aps nm f r
end
def mkd(F:List Nd->List Nd):Nd->Nd
 | .group n m s sh ns=>.group n m s sh<|F ns
 | .layer n m s sh lf tp mk w h l kb=>.layer n m s sh lf tp mk w h l kb
 | .tone n r s sh=>.tone n r s sh
def ag0(F:List Nd->List Nd)(n:Nd):(mkd F n).nm=n.nm:=by cases n<;>rfl
def aS6(F G':List Nd->List Nd)(n:Nd):mkd F (mkd G' n)=mkd (λl=>F<|G' l) n:=by cases n<;>rfl
def M0{nm:D}{f:Nd->Nd}{n:Nd}(h:n.nm=nm):Nd.ap nm f n=f n:=by cases n<;>(rw[Nd.ap,if_pos (by rw[← h];exact D4 _)])
def G8{nm:D}{f:Nd->Nd}{n:Nd}(h:n.nm≠nm):Nd.ap nm f n=mkd (Nd.aps nm f) n:=by
 have hs:∀d:D,d≠nm->¬same d nm=true:=λd hd=>by rw[M7 hd];simp
 cases n with
 | layer n=>rw[Nd.ap,if_neg (hs n h)];rfl
 | tone n=>rw[Nd.ap,if_neg (hs n h)];rfl
 | group n=>rw[Nd.ap,if_neg (hs n h)];rfl
theorem g9(nm:D)(f:Nd->Nd):∀l:List Nd,Nd.aps nm f l=l.map (Nd.ap nm f)
 | []=>by rw[Nd.aps];rfl
 | n::r=>by rw[Nd.aps,xmc,g9 nm f r]
def bu5(nm:D)(f:Nd->Nd)(a b:List Nd):Nd.aps nm f (a++b)=Nd.aps nm f a++Nd.aps nm f b:=by rw[g9,g9,g9,bf]
mutual
theorem aP4{nm:D}{f:Nd->Nd}:∀n:Nd,nm∉n.nms->Nd.ap nm f n=n
 | .layer n m s sh lf tp mk w h l kb,hn=>by
  rw[gj]at hn;rw[G8 (by intro z;exact hn (by rw[← z];exact au.mpr rfl))];rfl
 | .tone n r s sh,hn=>by
  rw[gj]at hn;rw[G8 (by intro z;exact hn (by rw[← z];exact au.mpr rfl))];rfl
 | .group n m s sh ns,hn=>by
  rw[gj]at hn;rw[G8 (by intro z;exact hn (by rw[← z];exact ae)),mkd,aps_id ns λz=>hn (xmm _ z)]
theorem aps_id{nm:D}{f:Nd->Nd}:∀l:List Nd,nm∉gk l->Nd.aps nm f l=l
 | [],_=>by rw[Nd.aps]
 | n::r,hn=>by
  rw[gk]at hn;rw[Nd.aps,aP4 n λz=>hn (af _ z),aps_id r λz=>hn (ag _ z)]
end
def cK4{f:Nd->Nd}{a b l l':List Nd}{n:Nd}(r:Rp (a++n::b) (a++[f n]++b) l l'):(gk l).Nodup->Nd.aps n.nm f l=l':=by
 induction r with
 | top =>
  intro nd;rw[B3,gk]at nd;have d1:=aD.mp nd;have d2:=aD.mp d1.2.1;have ha:n.nm∉gk a:=λz=>d1.2.2 n.nm z n.nm (af _<|G5 n) rfl
  have hb:n.nm∉gk b:=λz=>d2.2.2 n.nm (G5 n) n.nm z rfl
  rw[bu5,aps_id a ha,Nd.aps,M0 rfl,aps_id b hb,ax];rfl
 | @deep c e nm m s sh ns ns' r ih =>
  intro nd
  have hin:n.nm∈gk ns:=by
   have:∀{x y:List Nd},Rp (a++n::b) (a++[f n]++b) x y->n.nm∈gk x:=λr=>by
    induction r with
    | top=>rw[B3,gk];exact ag _<|af _ (G5 n)
    | deep _ ih=>rw[B3,gk,gj];exact ag _<|af _ (xmm _ ih)
   exact this r
  rw[B3,gk,gj]at nd;have dc:=aD.mp nd;have dg:=aD.mp dc.2.1;have dn:=be.mp dg.1;have hc:n.nm∉gk c:=λz=>dc.2.2 n.nm z n.nm (by simp[hin]) rfl
  have hg:nm≠n.nm:=λz=>dn.1<|z ▸ hin
  have he:n.nm∉gk e:=λz=>dg.2.2 n.nm (by simp[hin]) n.nm z rfl
  rw[bu5,aps_id c hc,Nd.aps,G8 (show(Nd.group nm m s sh ns).nm≠n.nm from hg),mkd,ih dn.2,aps_id e he]
def aW0{l:List Nd}(nd:(gk l).Nodup){nm:D}{n:Nd}(h:fnd l nm=Z n)(f:Nd->Nd):gu nm [f n] l=Nd.aps nm f l:=by
 obtain⟨a,b,St,R⟩:=am5 nd h
 have hn:n.nm=nm:=by
  have:=eK h;exact G4.mp this
 rw[← cK4 (R<|f n) nd,hn]
def aW1{na nb:D}(ne:na≠nb){f g:Nd->Nd}(fn:∀n,n.nm=na->(f n).nm=na)(gn:∀n,n.nm=nb->(g n).nm=nb)
  (cf:∀n,n.nm=na->f (mkd (Nd.aps nb g) n)=mkd (Nd.aps nb g) (f n)) (cg:∀n,n.nm=nb->g (mkd (Nd.aps na f) n)=mkd (Nd.aps na f) (g n))
  (n:Nd) (H:∀ns,v5 n=Z ns->Nd.aps na f (Nd.aps nb g ns)=Nd.aps nb g (Nd.aps na f ns)):Nd.ap na f (Nd.ap nb g n)=Nd.ap nb g (Nd.ap na f n):=by
 by_cases ha:n.nm=na
 .have hb:n.nm≠nb:=λz=>ne (ha.symm.trans z)
  rw[G8 hb,M0 (f:=f) (by rw[ag0];exact ha),M0 (f:=f) ha,G8 (f:=g) (by rw[fn n ha];exact ne),cf n ha]
 .by_cases hb:n.nm=nb
  .rw[M0 (f:=g) hb,G8 (f:=f) (by rw[gn n hb];exact λz=>ne z.symm),G8 ha,M0 (f:=g) (by rw[ag0];exact hb),cg n hb]
  .rw[G8 hb,G8 ha,G8 (f:=f) (by rw[ag0];exact ha),G8 (f:=g) (by rw[ag0];exact hb)];cases n with
   | layer=>rfl
   | tone=>rfl
   | group nm m s sh ns=>rw[mkd,mkd,mkd,mkd,H ns rfl]
mutual
theorem cl8{na nb:D}(ne:na≠nb) {f g:Nd->Nd}(fn:∀n,n.nm=na->(f n).nm=na) (gn:∀n,n.nm=nb->(g n).nm=nb)
  (cf:∀n,n.nm=na->f (mkd (Nd.aps nb g) n)=mkd (Nd.aps nb g) (f n)) (cg:∀n,n.nm=nb->g (mkd (Nd.aps na f) n)=mkd (Nd.aps na f) (g n)):∀n:Nd,Nd.ap na f (Nd.ap nb g n)=Nd.ap nb g (Nd.ap na f n)
 | .layer n m s sh lf tp mk w h l kb=>aW1 ne fn gn cf cg _ λns h=>by cases h
 | .tone n r s sh=>aW1 ne fn gn cf cg _ λns h=>by cases h
 | .group n m s sh ns=>aW1 ne fn gn cf cg _ λms h=>by
  have e:ns=ms:=by injection h
  rw[← e];exact aps_comm ne fn gn cf cg ns
theorem aps_comm{na nb:D}(ne:na≠nb) {f g:Nd->Nd}(fn:∀n,n.nm=na->(f n).nm=na) (gn:∀n,n.nm=nb->(g n).nm=nb)
  (cf:∀n,n.nm=na->f (mkd (Nd.aps nb g) n)=mkd (Nd.aps nb g) (f n)) (cg:∀n,n.nm=nb->g (mkd (Nd.aps na f) n)=mkd (Nd.aps na f) (g n)):∀l:List Nd,Nd.aps na f (Nd.aps nb g l)=Nd.aps nb g (Nd.aps na f l)
 | []=>by rw[Nd.aps,Nd.aps,Nd.aps]
 | n::r=>by rw[Nd.aps,Nd.aps,Nd.aps,Nd.aps,cl8 ne fn gn cf cg n,aps_comm ne fn gn cf cg r]
end
mutual
theorem bW7{nm:D}{f g:Nd->Nd}(gn:∀n,n.nm=nm->(g n).nm=nm):∀n:Nd,Nd.ap nm f (Nd.ap nm g n)=Nd.ap nm (λz=>f<|g z) n
 | .layer n m s sh lf tp mk w h l kb=>by
  by_cases hn:(Nd.layer n m s sh lf tp mk w h l kb).nm=nm
  .rw[M0 (f:=g) hn,M0 (f:=f) (gn _ hn),M0 hn]
  .rw[G8 hn,G8 hn];exact G8 hn
 | .tone n r s sh=>by
  by_cases hn:(Nd.tone n r s sh).nm=nm
  .rw[M0 (f:=g) hn,M0 (f:=f) (gn _ hn),M0 hn]
  .rw[G8 hn,G8 hn];exact G8 hn
 | .group n m s sh ns=>by
  by_cases hn:(Nd.group n m s sh ns).nm=nm
  .rw[M0 (f:=g) hn,M0 (f:=f) (gn _ hn),M0 hn]
  .rw[G8 hn,G8 hn,G8 (f:=f) (by rw[ag0];exact hn),aS6];show Nd.group n m s sh (Nd.aps nm f<|Nd.aps nm g ns)=Nd.group n m s sh (Nd.aps nm (λz=>f<|g z) ns);rw[aps_twice gn ns]
theorem aps_twice{nm:D}{f g:Nd->Nd}(gn:∀n,n.nm=nm->(g n).nm=nm):∀l:List Nd,Nd.aps nm f (Nd.aps nm g l)=Nd.aps nm (λz=>f<|g z) l
 | []=>by rw[Nd.aps,Nd.aps,Nd.aps]
 | n::r=>by rw[Nd.aps,Nd.aps,Nd.aps,bW7 gn n,aps_twice gn r]
end
def vf(e:De)(n:Nd):Nd:=(e.on n).getD n
def lf:De->List Nd->List Nd
 | .put _ k x,ns=>ns.take k++x::ns.drop k
 | .out _ k _,ns=>ns.take k++ns.drop (k+1)
 | _,ns=>ns
def act(e:De)(l:List Nd):List Nd:=if e.isV=true then Nd.aps e.nm (vf e) l else if same e.nm (.str "")=true then lf e l else Nd.aps e.nm (mkd<|lf e) l
def cS4{e:De}{ns ns':List Nd}(h:e.ls ns=Z ns'):ns'=lf e ns:=by
 cases e with
 | put pa k x =>
  rw[gA]at h;split at h
  .cases h;rfl
  .cases h
 | out pa k x =>
  rw[gA]at h;split at h
  .cases h;rfl
  .cases h
 | _=>cases h
def av1{l:List Nd}(nd:(gk l).Nodup){e:De}{l':List Nd}(h:dn l e=Z l'):l'=act e l:=by
 unfold act;cases hv:e.isV with
 | true =>
  rw[if_pos rfl];unfold dn at h;rw[if_pos hv]at h;obtain⟨n,q,h⟩:=xbo h;obtain⟨n',q',rfl⟩:=xmo h;rw[← aW0 nd q (vf e)];unfold vf;rw[q'];rfl
 | false =>
  rw[if_neg (by simp)];obtain⟨_,ns,ns',h1,h2,rfl,_⟩:=bs8 hv h;rw[cS4 h2];unfold kd at h1;unfold wk;cases s0:same e.nm (.str "") with
  | true =>
   rw[s0,if_pos rfl]at h1;cases h1;rw[if_pos rfl,if_pos rfl]
  | false =>
   rw[s0,if_neg (by simp)]at h1;obtain⟨n,q,hn⟩:=xbo h1;rw[if_neg (by simp),if_neg (by simp),q,← aW0 nd q (mkd<|lf e)];cases n with
   | layer=>cases hn
   | tone=>cases hn
   | group nm m s sh ms=>cases hn;rfl
def bi9{e:De}{nb:D}{g:Nd->Nd}(h:nb∉e.car)(ns:List Nd):lf e (Nd.aps nb g ns)=Nd.aps nb g (lf e ns):=by
 cases e with
 | put pa k x=>rw[lf,lf,g9,g9,bf,xmc,cq,ck,aP4 x h]
 | out pa k x=>rw[lf,lf,g9,g9,bf,cq,ck]
 | _=>rfl
def cy6(e:De)(F:List Nd->List Nd)(n:Nd):e.on (mkd F n)=(e.on n).map (mkd F):=by
 cases e<;>cases n<;>first
  | rfl
  | (simp only[mkd,gz];first|rfl|(split<;>rfl))
def bg0(e:De)(F:List Nd->List Nd)(n:Nd):vf e (mkd F n)=mkd F (vf e n):=by
 unfold vf;rw[cy6];cases e.on n<;>rfl
def cQ7{e:De}{n n':Nd}(h:e.on n=Z n'):n'.nm=n.nm:=by
 cases e<;>cases n<;>first
  | cases h
  | (rw[gz]at h;split at h<;>first|(cases h;rfl)|cases h)
def cN0(e:De)(n:Nd):(vf e n).nm=n.nm:=by
 unfold vf;cases q:e.on n with
 | none=>rfl
 | some n'=>exact cQ7 q
def nf(e:De):Nd->Nd:=if e.isV=true then vf e else mkd (lf e)
def aZ6(e:De)(n:Nd):(nf e n).nm=n.nm:=by
 unfold nf;split
 .exact cN0 e n
 .exact ag0 _ n
def co7{e:De}{nb:D}(h:nb∉e.car)(g:Nd->Nd)(n:Nd):nf e (mkd (Nd.aps nb g) n)=mkd (Nd.aps nb g) (nf e n):=by
 unfold nf;split
 .exact bg0 e _ n
 .rw[aS6,aS6];cases n with
  | group nm m s sh ns=>show Nd.group nm m s sh (lf e<|Nd.aps nb g ns)=Nd.group nm m s sh (Nd.aps nb g<|lf e ns);rw[bi9 h]
  | _=>rfl
def rot(e:De):Bool:=!e.isV&&same e.nm (.str "")
def W6(e:De)(l:List Nd):act e l=if rot e=true then lf e l else Nd.aps e.nm (nf e) l:=by
 unfold act rot nf;cases e.isV<;>cases same e.nm (.str "")<;>rfl
def bD8{a b:De}(ne:a.nm≠b.nm)(t:tch a b=false)(l:List Nd):act b (act a l)=act a (act b l):=by
 unfold tch at t;simp only[cM]at t;have ha:=ai1 t.1;have hb:=ai1 t.2.1;rw[W6,W6,W6,W6];cases ra:rot a<;>cases rb:rot b
 .simp only[if_neg (show ¬(false=true) by decide)];exact aps_comm (λz=>ne z.symm) (λn hn=>by rw[aZ6];exact hn) (λn hn=>by rw[aZ6];exact hn) (λn _=>co7 ha (nf a) n) (λn _=>co7 hb (nf b) n) l
 .simp only[if_neg (show ¬(false=true) by decide),if_true];exact bi9 ha l
 .simp only[if_neg (show ¬(false=true) by decide),if_true];exact(bi9 hb l).symm
 .unfold rot at ra rb;simp only[ar]at ra rb;exact absurd ((G4.mp ra.2).trans (G4.mp rb.2).symm) ne
def cn:De->Nd->Prop
 | .str _ o _,.layer _ _ s _ _ _ _ _ _ _ _=>s=o
 | .str _ o _,.tone _ _ s _=>s=o
 | .str _ o _,.group _ _ s _ _=>s=o
 | .shw _ o _,.layer _ _ _ sh _ _ _ _ _ _ _=>sh=o
 | .shw _ o _,.tone _ _ _ sh=>sh=o
 | .shw _ o _,.group _ _ _ sh _=>sh=o
 | .man _ o _,.layer _ m _ _ _ _ _ _ _ _ _=>m.s=o.s
 | .man _ o _,.group _ m _ _ _=>m.s=o.s
 | .plc _ a b _ _,.layer _ _ _ _ lf tp _ _ _ _ _=>lf=a/\tp=b
 | .spt _ x y o _,.layer _ _ _ _ _ _ _ w h l _=>x < w/\y < h/\neB (l.getD (y*w+x) q0) o=false
 | _,_=>False
def up:De->Nd->Nd
 | .str _ _ v,.layer nm m _ sh lf tp mk w h l kb=>.layer nm m v sh lf tp mk w h l kb
 | .str _ _ v,.tone nm r _ sh=>.tone nm r v sh
 | .str _ _ v,.group nm m _ sh ns=>.group nm m v sh ns
 | .shw _ _ v,.layer nm m s _ lf tp mk w h l kb=>.layer nm m s v lf tp mk w h l kb
 | .shw _ _ v,.tone nm r s _=>.tone nm r s v
 | .shw _ _ v,.group nm m s _ ns=>.group nm m s v ns
 | .man _ _ v,.layer nm _ s sh lf tp mk w h l kb=>.layer nm v s sh lf tp mk w h l kb
 | .man _ _ v,.group nm _ s sh ns=>.group nm v s sh ns
 | .plc _ _ _ c d,.layer nm m s sh _ _ mk w h l kb=>.layer nm m s sh c d mk w h l kb
 | .spt _ x y _ v,.layer nm m s sh lf tp mk w h l _=>.layer nm m s sh lf tp mk w h (l.set (y*w+x) v) 32
 | _,n=>n
def bK2(e:De)(n:Nd):(cn e n->e.on n=Z (up e n))/\(¬cn e n->e.on n=O):=by
 cases e<;>cases n<;>first
  | exact⟨λh=>h.elim,λ_=>rfl⟩
  | (refine⟨λh=>?_,λh=>?_⟩<;>(simp only[cn]at h;simp only[gz];first|rw[if_pos h];rfl|rw[if_neg h]))
def K5(e:De)(n:Nd):(cn e n->vf e n=up e n)/\(¬cn e n->vf e n=n):=by
 obtain⟨h1,h2⟩:=bK2 e n;unfold vf;exact⟨λh=>by rw[h1 h];rfl,λh=>by rw[h2 h];rfl⟩
def cu{a b:De}(ha:a.isV=true)(hb:b.isV=true)(hw:a.w≠b.w)(n:Nd):(cn b (up a n)↔cn b n)/\up b (up a n)=up a (up b n):=by
 cases a<;>first
  | (cases ha;done)
  | (cases b<;>first
   | (cases hb;done)
   | exact absurd rfl hw
   | (cases n<;>exact⟨Iff.rfl,rfl⟩))
def cN1{a b:De}(ha:a.isV=true)(hb:b.isV=true)(hw:a.w≠b.w)(n:Nd):vf b (vf a n)=vf a (vf b n):=by
 obtain⟨c1,c2⟩:=cu ha hb hw n;obtain⟨d1,d2⟩:=cu hb ha (λz=>hw z.symm) n;by_cases ca:cn a n<;>by_cases cb:cn b n
 .rw[(K5 a n).1 ca,(K5 b n).1 cb,(K5 b _).1 (c1.mpr cb),(K5 a _).1 (d1.mpr ca),c2]
 .rw[(K5 a n).1 ca,(K5 b n).2 cb,(K5 b _).2 (λz=>cb<|c1.mp z),(K5 a n).1 ca]
 .rw[(K5 a n).2 ca,(K5 b n).1 cb,(K5 a _).2 (λz=>ca<|d1.mp z)]
 .rw[(K5 a n).2 ca,(K5 b n).2 cb,(K5 a n).2 ca]
def aG6{w x y x' y':Nat}(h1:x < w)(h2:x' < w)(ne:¬(x=x'/\y=y')):y*w+x≠y'*w+x':=by
 intro z;have e1:(y*w+x) % w=x:=by rw[bZ,Nat.mul_add_mod,Nat.mod_eq_of_lt h1]
 have e2:(y'*w+x') % w=x':=by rw[bZ,Nat.mul_add_mod,Nat.mod_eq_of_lt h2]
 have e3:x=x':=by rw[← e1,z,e2]
 subst e3;have e4:y*w=y'*w:=by grind
 exact ne ⟨rfl,Nat.eq_of_mul_eq_mul_right (by grind) e4⟩
def aq2{l:List Q4}{i j:Nat}(ne:i≠j)(v:Q4):(l.set i v).getD j q0=l.getD j q0:=by rw[aZ,aZ,aG ne]
def ct7(nm nm':D)(x y x' y':Nat)(o v o' v':Q4)(ne:¬(x=x'/\y=y'))(n:Nd):vf (.spt nm' x' y' o' v') (vf (.spt nm x y o v) n)=vf (.spt nm x y o v) (vf (.spt nm' x' y' o' v') n):=by
 cases n with
 | tone=>rfl
 | group=>rfl
 | layer d m s sh lf tp mk w h l kb =>
  have key:∀(x y x' y':Nat) (o v o':Q4) (v':Q4) (nm nm':D),¬(x=x'/\y=y')->cn (.spt nm x y o v) (.layer d m s sh lf tp mk w h l kb)->(cn (.spt nm' x' y' o' v') (up (.spt nm x y o v)<|.layer d m s sh lf tp mk w h l kb)↔cn (.spt nm' x' y' o' v') (.layer d m s sh lf tp mk w h l kb)):=λx y x' y' o v o' v' nm nm' ne c=>by
   simp only[cn,up]at c ⊢;constructor
   .rintro⟨h1,h2,h3⟩
    refine⟨h1,h2,?_⟩
    rwa [aq2 (aG6 c.1 h1 ne)]at h3
   .rintro⟨h1,h2,h3⟩
    refine⟨h1,h2,?_⟩
    rwa [aq2 (aG6 c.1 h1 ne)]
  by_cases ca:cn (.spt nm x y o v) (.layer d m s sh lf tp mk w h l kb)<;>by_cases cb:cn (.spt nm' x' y' o' v') (.layer d m s sh lf tp mk w h l kb)
  .have k1:=key x y x' y' o v o' v' nm nm' ne ca;have k2:=key x' y' x y o' v' o v nm' nm (λz=>ne ⟨z.1.symm,z.2.symm⟩) cb;rw[(K5 _ _).1 ca,(K5 _ _).1 cb,(K5 _ _).1 (k1.mpr cb),(K5 _ _).1 (k2.mpr ca)];simp only[up];simp only[cn]at ca cb;rw[List.set_comm _ _ (aG6 ca.1 cb.1 ne)]
  .have k1:=key x y x' y' o v o' v' nm nm' ne ca;rw[(K5 _ _).1 ca,(K5 _<|.layer d m s sh lf tp mk w h l kb).2 cb,(K5 _ _).2 (λz=>cb<|k1.mp z),(K5 _ _).1 ca]
  .have k2:=key x' y' x y o' v' o v nm' nm (λz=>ne ⟨z.1.symm,z.2.symm⟩) cb;rw[(K5 _<|.layer d m s sh lf tp mk w h l kb).2 ca,(K5 _ _).1 cb,(K5 _ _).2 (λz=>ca<|k2.mp z)]
  .rw[(K5 _<|.layer d m s sh lf tp mk w h l kb).2 ca,(K5 _<|.layer d m s sh lf tp mk w h l kb).2 cb,(K5 _<|.layer d m s sh lf tp mk w h l kb).2 ca]
def cV9{a b:De}(ha:a.isV=true)(hb:b.isV=true)(hn:a.nm=b.nm)(hg:a.bg≠b.bg):a.w≠b.w\/∃nm x y o v nm' x' y' o' v',a=.spt nm x y o v/\b=.spt nm' x' y' o' v'/\¬(x=x'/\y=y'):=by
 by_cases hw:a.w=b.w
 .right
  cases a<;>first
   | (cases ha;done)
   | (cases b<;>first
    | (cases hb;done)
    | (exfalso;rw[De.w,De.w]at hw;exact absurd hw<|by decide +kernel)
    | exact absurd (by rw[De.bg,De.bg];exact congrArg (λz=>[_,z]) hn) hg
    | (refine⟨_,_,_,_,_,_,_,_,_,_,rfl,rfl,λz=>hg ?_⟩;rw[De.bg,De.bg,z.1,z.2];exact congrArg (λz=>[_,z,_,_]) hn))
 .exact .inl hw
def bY3{a b:De}(ha:a.isV=true)(hb:b.isV=true)(hn:a.nm=b.nm)(hg:a.bg≠b.bg)(n:Nd):vf b (vf a n)=vf a (vf b n):=by
 rcases cV9 ha hb hn hg with h|⟨nm,x,y,o,v,nm',x',y',o',v',rfl,rfl,h⟩
 .exact cN1 ha hb h n
 .exact ct7 nm nm' x y x' y' o v o' v' h n
def bD7{a b:De}(hn:a.nm=b.nm)(hv:a.isV=true\/b.isV=true)(hne:a.isV=true->same a.nm (.str "")=false)(hbe:b.isV=true->same b.nm (.str "")=false)(hg:a.bg≠b.bg)(l:List Nd):act b (act a l)=act a (act b l):=by
 have sn:same a.nm (.str "")=false:=by
  rcases hv with h|h
  .exact hne h
  .rw[hn];exact hbe h
 have sb:same b.nm (.str "")=false:=by rw[← hn];exact sn
 have ra:rot a=false:=by unfold rot;rw[sn,cS]
 have rb:rot b=false:=by unfold rot;rw[sb,cS]
 rw[W6,W6,W6,W6,ra,rb];simp only[if_neg (show ¬(false=true) by decide)];rw[hn,aps_twice λn h=>by rw[aZ6];exact h,aps_twice λn h=>by rw[aZ6];exact h]
 congr 1
 funext n
 unfold nf;cases va:a.isV<;>cases vb:b.isV
 .rcases hv with h|h
  .rw[va]at h;cases h
  .rw[vb]at h;cases h
 .simp only[if_true,if_neg (show ¬(false=true) by decide)];exact bg0 b _ n
 .simp only[if_true,if_neg (show ¬(false=true) by decide)];exact(bg0 a _ n).symm
 .simp only[if_true];exact bY3 va vb hn hg n
mutual
def fn1(nb:D):Nd->Option Nd
 | .layer n m s sh lf tp mk w h l kb=>if same n nb=true then Z (.layer n m s sh lf tp mk w h l kb) else O
 | .tone n r s sh=>if same n nb=true then Z (.tone n r s sh) else O
 | .group n m s sh ns=>if same n nb=true then Z (.group n m s sh ns) else fns nb ns
def fns(nb:D):List Nd->Option Nd
 | []=>O
 | n::r=>(fn1 nb n).or<|fns nb r
end
theorem aq4(nb:D):∀a b:List Nd,fns nb (a++b)=(fns nb a).or (fns nb b)
 | [],b=>by rw[fns];rfl
 | n::a,b=>by rw[xca,fns,fns,aq4 nb a b,Option.or_assoc]
mutual
theorem cI2(nb:D):∀n:Nd,(gw n).find? (λm=>same m.nm nb)=fn1 nb n
 | .layer n m s sh lf tp mk w h l kb=>by
  rw[gw,fn1,bB,List.find?_nil];show(match same n nb with|true=>_|false=>_)=_;cases same n nb<;>rfl
 | .tone n r s sh=>by
  rw[gw,fn1,bB,List.find?_nil];show(match same n nb with|true=>_|false=>_)=_;cases same n nb<;>rfl
 | .group n m s sh ns=>by
  rw[gw,fn1,bB,← fns_al nb ns];show(match same n nb with|true=>_|false=>_)=_;cases same n nb<;>rfl
theorem fns_al(nb:D):∀l:List Nd,(gx l).find? (λm=>same m.nm nb)=fns nb l
 | []=>by rw[gx,fns];rfl
 | n::r=>by rw[gx,fns,List.find?_append,cI2 nb n,fns_al nb r]
end
def ac6(l:List Nd)(nb:D):fnd l nb=fns nb l:=fns_al nb l
def ag4{nb:D}{n:Nd}(h:n.nm=nb):fn1 nb n=Z n:=by cases n<;>(rw[fn1,if_pos (by rw[← h];exact D4 _)])
def F0:Nd->List Nd
 | .group _ _ _ _ ns=>ns
 | .layer _ _ _ _ _ _ _ _ _ _ _=>[]
 | .tone _ _ _ _=>[]
def n4{nb:D}{n:Nd}(h:n.nm≠nb):fn1 nb n=fns nb (F0 n):=by
 have hs:∀d:D,d≠nb->¬same d nb=true:=λd hd=>by rw[M7 hd];simp
 cases n with
 | layer n=>rw[fn1,if_neg (hs n h),F0,fns]
 | tone n=>rw[fn1,if_neg (hs n h),F0,fns]
 | group n=>rw[fn1,if_neg (hs n h),F0]
mutual
theorem bj8{nb:D}:∀n:Nd,nb∉n.nms->fn1 nb n=O
 | .layer n m s sh lf tp mk w h l kb,hn=>by
  rw[gj]at hn;rw[n4 (by intro z;exact hn (by rw[← z];exact au.mpr rfl)),F0,fns]
 | .tone n r s sh,hn=>by
  rw[gj]at hn;rw[n4 (by intro z;exact hn (by rw[← z];exact au.mpr rfl)),F0,fns]
 | .group n m s sh ns,hn=>by
  rw[gj]at hn;rw[n4 (by intro z;exact hn (by rw[← z];exact ae)),F0,fns_no ns λz=>hn (xmm _ z)]
theorem fns_no{nb:D}:∀l:List Nd,nb∉gk l->fns nb l=O
 | [],_=>by rw[fns]
 | n::r,hn=>by
  rw[gk]at hn;rw[fns,bj8 n λz=>hn (af _ z),fns_no r λz=>hn (ag _ z)];rfl
end
mutual
theorem cj5{nb:D}{m:Nd}:∀n:Nd,fn1 nb n=Z m->(∀d∈m.nms,d∈n.nms)/\m.nm=nb
 | .layer n q s sh lf tp mk w h l kb,hf=>by
  rw[fn1]at hf;split at hf
  .rename_i hs;cases hf;exact⟨λ_ h=>h,G4.mp hs⟩
  .cases hf
 | .tone n r s sh,hf=>by
  rw[fn1]at hf;split at hf
  .rename_i hs;cases hf;exact⟨λ_ h=>h,G4.mp hs⟩
  .cases hf
 | .group n q s sh ns,hf=>by
  rw[fn1]at hf;split at hf
  .rename_i hs;cases hf;exact⟨λ_ h=>h,G4.mp hs⟩
  .obtain⟨h1,h2⟩:=fns_sub ns hf;exact⟨λd hd=>by rw[gj];exact xmm _<|h1 d hd,h2⟩
theorem fns_sub{nb:D}{m:Nd}:∀l:List Nd,fns nb l=Z m->(∀d∈m.nms,d∈gk l)/\m.nm=nb
 | [],hf=>by rw[fns]at hf;cases hf
 | n::r,hf=>by
  rw[fns]at hf;rw[gk];cases q:fn1 nb n with
  | some z =>
   rw[q]at hf;cases hf;obtain⟨h1,h2⟩:=cj5 n q;exact⟨λd hd=>af _<|h1 d hd,h2⟩
  | none =>
   rw[q]at hf;obtain⟨h1,h2⟩:=fns_sub r hf;exact⟨λd hd=>ag _<|h1 d hd,h2⟩
end
def bN1(n:Nd):n.nms=n.nm::gk (F0 n):=by
 cases n with
 | layer=>rw[gj,F0,gk];rfl
 | tone=>rw[gj,F0,gk];rfl
 | group=>rw[gj,F0];rfl
def aG9{na nb:D}(ne:na≠nb){f:Nd->Nd}(fn:∀n,n.nm=na->(f n).nm=na)(n:Nd)(H:n.nm=na->fns nb (F0<|f n)=fns nb (F0 n))(nd:n.nms.Nodup)
  (ih:fns nb (Nd.aps na f<|F0 n)=(fns nb<|F0 n).map (Nd.ap na f)):fn1 nb (Nd.ap na f n)=(fn1 nb n).map (Nd.ap na f):=by
 by_cases ha:n.nm=na
 .have hb:n.nm≠nb:=λz=>ne (ha.symm.trans z)
  rw[M0 ha,n4 (by rw[fn n ha];exact ne),n4 hb,H ha];cases q:fns nb (F0 n) with
  | none=>rfl
  | some m =>
   obtain⟨h1,_⟩:=fns_sub _ q;rw[bN1]at nd;have:na∉m.nms:=λz=>(be.mp nd).1 (by rw[ha];exact h1 na z)
   rw[xms,aP4 m this]
 .rw[G8 ha];by_cases hb:n.nm=nb
  .rw[ag4 (by rw[ag0];exact hb),ag4 hb,xms,G8 ha]
  .rw[n4 (by rw[ag0];exact hb),n4 hb,← ih];cases n with
   | group=>rfl
   | layer=>show fns nb []=fns nb (Nd.aps na f []);rw[Nd.aps]
   | tone=>show fns nb []=fns nb (Nd.aps na f []);rw[Nd.aps]
def bJ6{α β:Type}(a b:Option α)(f:α->β):(a.or b).map f=(a.map f).or (b.map f):=by cases a<;>rfl
mutual
theorem cI1{na nb:D}(ne:na≠nb) {f:Nd->Nd}(fn:∀n,n.nm=na->(f n).nm=na):∀n:Nd,(∀m∈gw n,m.nm=na->fns nb (F0<|f m)=fns nb (F0 m))->n.nms.Nodup->fn1 nb (Nd.ap na f n)=(fn1 nb n).map (Nd.ap na f)
 | .layer n m s sh lf tp mk w h l kb,H,nd=>aG9 ne fn _ (H _<|N4 _) nd (by show fns nb (Nd.aps na f [])=(fns nb []).map _;rw[Nd.aps,fns];rfl)
 | .tone n r s sh,H,nd=>aG9 ne fn _ (H _<|N4 _) nd (by show fns nb (Nd.aps na f [])=(fns nb []).map _;rw[Nd.aps,fns];rfl)
 | .group n m s sh ns,H,nd=>aG9 ne fn _ (H _ (N4 _)) nd (fns_ap ne fn ns (λm hm=>H m (by rw[gw];exact xmm _ hm)) (by rw[gj]at nd;exact(be.mp nd).2))
theorem fns_ap{na nb:D}(ne:na≠nb) {f:Nd->Nd}(fn:∀n,n.nm=na->(f n).nm=na):∀l:List Nd,(∀m∈gx l,m.nm=na->fns nb (F0<|f m)=fns nb (F0 m))->(gk l).Nodup->fns nb (Nd.aps na f l)=(fns nb l).map (Nd.ap na f)
 | [],_,_=>by rw[Nd.aps,fns];rfl
 | n::r,H,nd=>by
  rw[gk]at nd;have d:=aD.mp nd;rw[Nd.aps,fns,fns,cI1 ne fn n (λm hm=>H m (by rw[gx];exact af _ hm)) d.1,fns_ap ne fn r (λm hm=>H m (by rw[gx];exact ag _ hm)) d.2.1,bJ6]
end
mutual
theorem bR8{na:D}{f:Nd->Nd}(fn:∀n,n.nm=na->(f n).nm=na):∀n:Nd,fn1 na (Nd.ap na f n)=(fn1 na n).map f
 | .layer n m s sh lf tp mk w h l kb=>by
  by_cases hn:(Nd.layer n m s sh lf tp mk w h l kb).nm=na
  .rw[M0 hn,ag4 (fn _ hn),ag4 hn];rfl
  .rw[G8 hn,mkd,n4 hn,F0,fns];rfl
 | .tone n r s sh=>by
  by_cases hn:(Nd.tone n r s sh).nm=na
  .rw[M0 hn,ag4 (fn _ hn),ag4 hn];rfl
  .rw[G8 hn,mkd,n4 hn,F0,fns];rfl
 | .group n m s sh ns=>by
  by_cases hn:(Nd.group n m s sh ns).nm=na
  .rw[M0 hn,ag4 (fn _ hn),ag4 hn];rfl
  .rw[G8 hn,mkd,n4 (show(Nd.group n m s sh<|Nd.aps na f ns).nm≠na from hn),n4 hn,F0,F0,fns_self fn ns]
theorem fns_self{na:D}{f:Nd->Nd}(fn:∀n,n.nm=na->(f n).nm=na):∀l:List Nd,fns na (Nd.aps na f l)=(fns na l).map f
 | []=>by rw[Nd.aps,fns];rfl
 | n::r=>by rw[Nd.aps,fns,fns,bR8 fn n,fns_self fn r,bJ6]
end
def okl:De->List Nd->Prop
 | .put _ k _,ns=>k<=ns.length
 | .out _ k x,ns=>ns[k]? = Z x
 | _,_=>False
def okn(e:De)(n:Nd):Prop:=if e.isV=true then cn e n else ∃ns,v5 n=Z ns/\okl e ns
def okd(e:De)(l:List Nd):Prop:=if rot e=true then okl e l else ∃n,fns e.nm l=Z n/\okn e n
def af3{ns:List Nd}{k:Nat}{x:Nd}(h:ns[k]? = Z x):ns=ns.take k++x::ns.drop (k+1):=ai0 h
def bR6{e:De}{nb:D}(h:nb∉e.car){ns:List Nd}(o:okl e ns):fns nb (lf e ns)=fns nb ns:=by
 cases e with
 | put pa k x =>rw[lf,aq4,fns,bj8 x h,dz,← aq4,bn]
 | out pa k x =>
  have e:=af3 (show ns[k]? = Z x from o)
  conv=>rhs;rw[e]
  rw[lf,aq4,aq4,fns,bj8 x h,dz]
 | _=>cases o
mutual
theorem bK9{na:D}{f:Nd->Nd}(fn:∀n,n.nm=na->(f n).nm=na):∀n:Nd,na∈n.nms->na∈(Nd.ap na f n).nms
 | .layer n m s sh lf tp mk w h l kb,hn=>by
  rw[gj,au]at hn;have h0:(Nd.layer n m s sh lf tp mk w h l kb).nm=na:=hn.symm;have e:=G5 (f<|.layer n m s sh lf tp mk w h l kb);rw[fn _ h0]at e;rw[M0 h0];exact e
 | .tone n r s sh,hn=>by
  rw[gj,au]at hn;have h0:(Nd.tone n r s sh).nm=na:=hn.symm;have e:=G5 (f<|.tone n r s sh);rw[fn _ h0]at e;rw[M0 h0];exact e
 | .group n m s sh ns,hn=>by
  by_cases h0:(Nd.group n m s sh ns).nm=na
  .have e:=G5 (f<|.group n m s sh ns);rw[fn _ h0]at e;rw[M0 h0];exact e
  .rw[gj]at hn;rw[G8 h0,mkd,gj];rcases am.mp hn with z|z
   .exact absurd z.symm h0
   .exact xmm _ (nmss_ap fn ns z)
theorem nmss_ap{na:D}{f:Nd->Nd}(fn:∀n,n.nm=na->(f n).nm=na):∀l:List Nd,na∈gk l->na∈gk (Nd.aps na f l)
 | [],hn=>by rw[gk]at hn;exact(aC hn).elim
 | n::r,hn=>by
  rw[gk]at hn;rw[Nd.aps,gk];rcases ay.mp hn with z|z
  .exact af _ (bK9 fn n z)
  .exact ag _ (nmss_ap fn r z)
end
def bu6{na:D}{f:Nd->Nd}(fn:∀n,n.nm=na->(f n).nm=na){y x:Nd}(hx:na∉x.nms):Nd.ap na f y=x↔y=x:=by
 constructor
 .intro h;have:na∉y.nms:=λz=>hx (by rw[← h];exact bK9 fn y z)
  rw[← h,aP4 y this]
 .rintro rfl
  exact aP4 y hx
def aS1{b:De}{na:D}{f:Nd->Nd}(fn:∀n,n.nm=na->(f n).nm=na)(h:na∉b.car)(ns:List Nd):okl b (Nd.aps na f ns)↔okl b ns:=by
 rw[g9];cases b with
 | put pa k x=>show k<=(ns.map _).length↔k<=ns.length;rw[aj]
 | out pa k x =>
  show(ns.map _)[k]? = Z x↔ns[k]? = Z x;rw[aI];cases ns[k]? with
  | none=>exact⟨λz=>(by cases z),λz=>(by cases z)⟩
  | some y =>
   show Z (Nd.ap na f y)=Z x↔Z y=Z x;constructor
   .intro z;injection z with z;rw[(bu6 fn h).mp z]
   .intro z;injection z with z;rw[(bu6 fn h).mpr z]
 | _=>exact Iff.rfl
def bV9(e:De)(F:List Nd->List Nd)(n:Nd):cn e (mkd F n)↔cn e n:=by cases e<;>cases n<;>exact Iff.rfl
def au9(F:List Nd->List Nd)(n:Nd):v5 (mkd F n)=(v5 n).map F:=by cases n<;>rfl
def bN2(e:De)(n:Nd):v5 (up e n)=v5 n:=by cases e<;>cases n<;>rfl
def aF7(e:De)(n:Nd):v5 (vf e n)=v5 n:=by
 by_cases h:cn e n
 .rw[(K5 e n).1 h,bN2]
 .rw[(K5 e n).2 h]
def aB9(n:Nd):F0 n=(v5 n).getD []:=by cases n<;>rfl
def cd2{b:De}{na:D}{f:Nd->Nd}(fn:∀n,n.nm=na->(f n).nm=na)(h:na∉b.car)(n:Nd):okn b (mkd (Nd.aps na f) n)↔okn b n:=by
 unfold okn;split
 .exact bV9 b _ n
 .rw[au9];cases v5 n with
  | none=>exact⟨λ⟨_,z,_⟩=>(by cases z),λ⟨_,z,_⟩=>(by cases z)⟩
  | some ns =>
   constructor
   .rintro⟨ms,z,o⟩;cases z;exact⟨ns,rfl,(aS1 fn h ns).mp o⟩
   .rintro⟨ms,z,o⟩;cases z;exact⟨_,rfl,(aS1 fn h ns).mpr o⟩
def ce8{a:De}{n:Nd}(o:okn a n){nb:D}(h:nb∉a.car):fns nb (F0<|nf a n)=fns nb (F0 n):=by
 unfold okn at o;unfold nf;rw[aB9,aB9];split at o
 .rename_i hv;rw[if_pos hv,aF7]
 .rename_i hv;obtain⟨ns,e,o⟩:=o;rw[if_neg hv,au9,e];exact bR6 h o
def aZ3{a b:De}(hn:a.nm=b.nm)(hv:a.isV=true\/b.isV=true)(hg:a.bg≠b.bg){n:Nd}(o:okn a n):okn b (nf a n)↔okn b n:=by
 unfold okn at o;unfold okn nf;cases va:a.isV<;>cases vb:b.isV
 .rcases hv with h|h
  .rw[va]at h;cases h
  .rw[vb]at h;cases h
 .simp only[if_true,if_neg (show ¬(false=true) by decide)];exact bV9 b _ n
 .simp only[if_true,if_neg (show ¬(false=true) by decide)];rw[aF7]
 .rw[va,if_pos rfl]at o;simp only[if_true];rw[(K5 a n).1 o];rcases cV9 va vb hn hg with h|⟨nm,x,y,o',v,nm',x',y',o'',v',rfl,rfl,h⟩
  .exact(cu va vb h n).1
  .cases n with
   | tone=>cases o
   | group=>cases o
   | layer d m s sh lf tp mk w h' l kb =>
    simp only[cn,up]at o ⊢;constructor
    .rintro⟨h1,h2,h3⟩
     refine⟨h1,h2,?_⟩
     rwa [aq2 (aG6 o.1 h1 h)]at h3
    .rintro⟨h1,h2,h3⟩
     refine⟨h1,h2,?_⟩
     rwa [aq2 (aG6 o.1 h1 h)]
def bL1(e:De):∀n,n.nm=e.nm->(nf e n).nm=e.nm:=λn h=>by rw[aZ6];exact h
def bp5{a b:De}{l:List Nd}(nd:(gk l).Nodup)(oa:okd a l)(t:tch a b=false)(no:X9 a b=false)(hg:a.nm=b.nm->a.bg≠b.bg):okd b (act a l)↔okd b l:=by
 unfold tch at t;simp only[cM]at t;have ha:=ai1 t.1;have hb:=ai1 t.2.1;rw[W6];unfold okd at oa ⊢;cases ra:rot a<;>cases rb:rot b
 .rw[ra,if_neg (by decide)]at oa;simp only[if_neg (show ¬(false=true) by decide)];obtain⟨n,hn,on⟩:=oa;by_cases e:a.nm=b.nm
  .have hv:a.isV=true\/b.isV=true:=by
    cases va:a.isV with
    | true=>exact .inl rfl
    | false =>
     cases vb:b.isV with
     | true=>exact .inr rfl
     | false =>
      unfold X9 at no;rw[va,vb,e,D4]at no;cases no
   rw[← e,fns_self (bL1 a) l,hn];constructor
   .rintro⟨m,z,o⟩;cases z;exact⟨n,rfl,(aZ3 e hv (hg e) on).mp o⟩
   .rintro⟨m,z,o⟩;cases z;exact⟨_,rfl,(aZ3 e hv (hg e) on).mpr o⟩
  .have H:∀m∈gx l,m.nm=a.nm->fns b.nm (F0<|nf a m)=fns b.nm (F0 m):=λm hm h=>by
    have:=aG8 nd hm;rw[ac6,h,hn]at this;cases this;exact ce8 on hb
   rw[fns_ap e (bL1 a) l H nd];cases q:fns b.nm l with
   | none=>exact⟨λ⟨_,z,_⟩=>(by cases z),λ⟨_,z,_⟩=>(by cases z)⟩
   | some m =>
    have mn:=(fns_sub l q).2;have ne:m.nm≠a.nm:=by rw[mn];exact λz=>e z.symm
    have k:=cd2 (bL1 a) ha m;rw[← G8 ne]at k;constructor
    .rintro⟨m',z,o⟩;cases z;exact⟨m,rfl,k.mp o⟩
    .rintro⟨m',z,o⟩;cases z;exact⟨_,rfl,k.mpr o⟩
 .simp only[if_neg (show ¬(false=true) by decide),if_true];exact aS1 (bL1 a) ha l
 .rw[ra,if_pos rfl]at oa;simp only[if_neg (show ¬(false=true) by decide),if_true];rw[bR6 hb oa]
 .unfold rot at ra rb;simp only[ar,bp]at ra rb;unfold X9 at no;rw[ra.1,rb.1,G4.mp ra.2,G4.mp rb.2,D4]at no;cases no
def cV7{e:De}{n n':Nd}(h:e.on n=Z n'):cn e n:=by
 by_cases c:cn e n
 .exact c
 .rw[(bK2 e n).2 c]at h;cases h
def cn5{e:De}(h:e.isV=true):rot e=false:=by unfold rot;rw[h];rfl
def aE7{l l':List Nd}{e:De}(h:dn l e=Z l')(ho:∀pa k x,e=.out pa k x->∃ns,kd l pa=Z ns/\ns[k]? = Z x):okd e l:=by
 unfold okd;cases hv:e.isV with
 | true =>
  rw[cn5 hv,if_neg (by decide)];unfold dn at h;rw[if_pos hv]at h;obtain⟨n,q,h⟩:=xbo h;obtain⟨n',q',_⟩:=xmo h;refine⟨n,by rw[← ac6];exact q,?_⟩;unfold okn;rw[if_pos hv];exact cV7 q'
 | false =>
  obtain⟨_,ns,ns',h1,h2,_,_⟩:=bs8 hv h
  have ok:okl e ns:=by
   cases e with
   | put pa k x =>
    rw[gA]at h2;split at h2
    .assumption
    .cases h2
   | out pa k x =>
    obtain⟨ms,q,z⟩:=ho pa k x rfl;rw[show kd l (De.out pa k x).nm=kd l pa from rfl,q]at h1;cases h1;exact z
   | _=>cases hv
  have rr:rot e=same e.nm (.str ""):=by unfold rot;rw[hv];rfl
  rw[rr];unfold kd at h1;cases s0:same e.nm (.str "") with
  | true=>rw[s0,if_pos rfl]at h1;cases h1;rw[if_pos rfl];exact ok
  | false =>
   rw[s0,if_neg (by decide)]at h1;rw[if_neg (by decide)];obtain⟨n,q,hn⟩:=xbo h1;refine⟨n,by rw[← ac6];exact q,?_⟩;unfold okn;rw[hv,if_neg (by decide)];exact⟨ns,hn,ok⟩
def bi3{e:De}{l:List Nd}(hv:e.isV=false)(o:okd e l):∃ns,kd l e.nm=Z ns/\okl e ns:=by
 unfold okd at o;have rr:rot e=same e.nm (.str ""):=by unfold rot;rw[hv];rfl
 rw[rr]at o;unfold kd;cases s0:same e.nm (.str "") with
 | true=>rw[s0,if_pos rfl]at o;exact⟨l,by rw[if_pos rfl],o⟩
 | false =>
  rw[s0,if_neg (by decide)]at o;obtain⟨n,q,o⟩:=o;unfold okn at o;rw[hv,if_neg (by decide)]at o;obtain⟨ns,z,o⟩:=o;exact⟨ns,by rw[if_neg (by decide),ac6,q];exact z,o⟩
def bN5{e:De}{l ns:List Nd}(hv:e.isV=false)(h1:kd l e.nm=Z ns)(ok:okl e ns):okd e l:=by
 unfold okd;have rr:rot e=same e.nm (.str ""):=by unfold rot;rw[hv];rfl
 rw[rr];unfold kd at h1;cases s0:same e.nm (.str "") with
 | true=>rw[s0,if_pos rfl]at h1;cases h1;rw[if_pos rfl];exact ok
 | false =>
  rw[s0,if_neg (by decide)]at h1;rw[if_neg (by decide)];obtain⟨n,q,hn⟩:=xbo h1;refine⟨n,by rw[← ac6];exact q,?_⟩;unfold okn;rw[hv,if_neg (by decide)];exact⟨ns,hn,ok⟩
def aJ1{e:De}{l ns:List Nd}(nd:(gk l).Nodup)(hv:e.isV=false)(h1:kd l e.nm=Z ns):wk l e.nm (lf e ns)=act e l:=by
 unfold act;rw[hv,if_neg (by decide)];unfold kd at h1;unfold wk;cases s0:same e.nm (.str "") with
 | true =>
  rw[s0,if_pos rfl]at h1;cases h1;rw[if_pos rfl,if_pos rfl]
 | false =>
  rw[s0,if_neg (by decide)]at h1;obtain⟨n,q,hn⟩:=xbo h1;rw[if_neg (by decide),if_neg (by decide),q,← aW0 nd q (mkd<|lf e)];cases n with
  | layer=>cases hn
  | tone=>cases hn
  | group nm m s sh ms=>cases hn;rfl
def aH2{e:De}{l:List Nd}(nd:(gk l).Nodup)(o:okd e l)(c:R0 l e=false)(lx:∀pa k x,e=.out pa k x->Ly 60 x.d)(dp:e.isV=false->gc (act e l)<=3):dn l e=Z (act e l):=by
 cases hv:e.isV with
 | true =>
  unfold okd at o;rw[cn5 hv,if_neg (by decide)]at o;obtain⟨n,q,o⟩:=o;unfold okn at o;rw[if_pos hv]at o
  have:dn l e=Z (gu e.nm [up e n] l):=by
   unfold dn;rw[if_pos hv,ac6,q,xbs,(bK2 e n).1 o];rfl
  rw[this,← av1 nd this]
 | false =>
  obtain⟨ns,h1,ok⟩:=bi3 hv o
  have ls:e.ls ns=Z (lf e ns):=by
   cases e with
   | put pa k x=>rw[gA,if_pos (show k<=ns.length from ok)];rfl
   | out pa k x =>
    have z:ns[k]? = Z x:=ok;rw[gA,z];show(if fJ x.d x.d=true then _ else _)=_;rw[SeqAt.eqv_refl x.d (lx pa k x rfl).1,if_pos rfl];rfl
   | _=>cases hv
  have w:=aJ1 nd hv h1;rw[← w];exact bs9 hv c h1 ls (by rw[w];exact dp hv)
mutual
theorem cz9{na:D}{f:Nd->Nd}{C:List D}:∀n:Nd,(∀m∈gw n,m.nm=na->(∀d∈(f m).nms,d∈m.nms\/d∈C)/\∀d∈m.nms,d∈(f m).nms\/d∈C)->(∀d∈(Nd.ap na f n).nms,d∈n.nms\/d∈C)/\∀d∈n.nms,d∈(Nd.ap na f n).nms\/d∈C
 | .layer n m s sh lf tp mk w h l kb,H=>by
  by_cases h0:(Nd.layer n m s sh lf tp mk w h l kb).nm=na
  .rw[M0 h0];exact H _ (N4 _) h0
  .rw[G8 h0,mkd];exact⟨λd hd=>.inl hd,λd hd=>.inl hd⟩
 | .tone n r s sh,H=>by
  by_cases h0:(Nd.tone n r s sh).nm=na
  .rw[M0 h0];exact H _ (N4 _) h0
  .rw[G8 h0,mkd];exact⟨λd hd=>.inl hd,λd hd=>.inl hd⟩
 | .group n m s sh ns,H=>by
  by_cases h0:(Nd.group n m s sh ns).nm=na
  .rw[M0 h0];exact H _ (N4 _) h0
  .obtain⟨k1,k2⟩:=nmss_to (na:=na) (f:=f) (C:=C) ns λm hm=>H m (by rw[gw];exact xmm _ hm)
   rw[G8 h0,mkd,gj,gj];constructor
   .intro d hd;rcases am.mp hd with z|z
    .exact .inl (by rw[z];exact ae)
    .exact(k1 d z).imp (xmm _) id
   .intro d hd;rcases am.mp hd with z|z
    .exact .inl (by rw[z];exact ae)
    .exact(k2 d z).imp (xmm _) id
theorem nmss_to{na:D}{f:Nd->Nd}{C:List D}:∀l:List Nd,(∀m∈gx l,m.nm=na->(∀d∈(f m).nms,d∈m.nms\/d∈C)/\∀d∈m.nms,d∈(f m).nms\/d∈C)->(∀d∈gk (Nd.aps na f l),d∈gk l\/d∈C)/\∀d∈gk l,d∈gk (Nd.aps na f l)\/d∈C
 | [],_=>by rw[Nd.aps];exact⟨λd hd=>.inl hd,λd hd=>.inl hd⟩
 | n::r,H=>by
  obtain⟨k1,k2⟩:=cz9 (na:=na) (f:=f) (C:=C) n λm hm=>H m (by rw[gx];exact af _ hm)
  obtain⟨k3,k4⟩:=nmss_to (na:=na) (f:=f) (C:=C) r λm hm=>H m (by rw[gx];exact ag _ hm)
  rw[Nd.aps,gk,gk];constructor
  .intro d hd;rcases ay.mp hd with z|z
   .exact(k1 d z).imp (af _) id
   .exact(k3 d z).imp (ag _) id
  .intro d hd;rcases ay.mp hd with z|z
   .exact(k2 d z).imp (af _) id
   .exact(k4 d z).imp (ag _) id
end
def co9{e:De}{ns:List Nd}(o:okl e ns):(∀d∈gk (lf e ns),d∈gk ns\/d∈e.car)/\∀d∈gk ns,d∈gk (lf e ns)\/d∈e.car:=by
 cases e with
 | put pa k x =>
  have e:gk ns=gk (ns.take k)++gk (ns.drop k):=by rw[← B3,bn]
  rw[lf,B3,gk,e];constructor
  .intro d hd;simp only[ay]at hd ⊢;rcases hd with z|z|z
   .exact .inl (.inl z)
   .exact .inr z
   .exact .inl (.inr z)
  .intro d hd;simp only[ay]at hd ⊢;rcases hd with z|z
   .exact .inl (.inl z)
   .exact .inl (.inr<|.inr z)
 | out pa k x =>
  have e:gk ns=gk (ns.take k)++(x.nms++gk (ns.drop<|k+1)):=by
   conv=>lhs;rw[af3 (show ns[k]? = Z x from o)]
   rw[B3,gk]
  rw[lf,B3,e];constructor
  .intro d hd;simp only[ay]at hd ⊢;rcases hd with z|z
   .exact .inl (.inl z)
   .exact .inl (.inr<|.inr z)
  .intro d hd;simp only[ay]at hd ⊢;rcases hd with z|z|z
   .exact .inl (.inl z)
   .exact .inr z
   .exact .inl (.inr z)
 | _=>cases o
def ct8(e:De)(n:Nd):(vf e n).nms=n.nms:=by
 by_cases h:cn e n
 .rw[(K5 e n).1 h];cases e<;>cases n<;>first|rfl|(simp only[up,gj])
 .rw[(K5 e n).2 h]
def cR8{e:De}{n:Nd}(o:okn e n):(∀d∈(nf e n).nms,d∈n.nms\/d∈e.car)/\∀d∈n.nms,d∈(nf e n).nms\/d∈e.car:=by
 unfold okn at o;unfold nf;split at o
 .rename_i hv;rw[if_pos hv,ct8];exact⟨λd hd=>.inl hd,λd hd=>.inl hd⟩
 .rename_i hv;rw[if_neg hv];obtain⟨ns,q,o⟩:=o;cases n with
  | layer=>cases q
  | tone=>cases q
  | group nm m s sh ms =>
   cases q;obtain⟨k1,k2⟩:=co9 o;rw[mkd,gj,gj];constructor
   .intro d hd;rcases am.mp hd with z|z
    .exact .inl (by rw[z];exact ae)
    .exact(k1 d z).imp (xmm _) id
   .intro d hd;rcases am.mp hd with z|z
    .exact .inl (by rw[z];exact ae)
    .exact(k2 d z).imp (xmm _) id
def aS0{l:List Nd}(nd:(gk l).Nodup){nm:D}{n:Nd}(h:fns nm l=Z n){m:Nd}(hm:m∈gx l)(e:m.nm=nm):m=n:=by
 have:=aG8 nd hm;rw[ac6,e,h]at this;injection this with this
 exact this.symm
def as1{e:De}{l:List Nd}(nd:(gk l).Nodup)(o:okd e l):(∀d∈gk (act e l),d∈gk l\/d∈e.car)/\∀d∈gk l,d∈gk (act e l)\/d∈e.car:=by
 rw[W6];unfold okd at o;split at o
 .rename_i h;rw[if_pos h];exact co9 o
 .rename_i h;rw[if_neg h];obtain⟨n,q,o⟩:=o;refine nmss_to l λm hm em=>?_
  rw[aS0 nd q hm em];exact cR8 o
mutual
def lv1(nb:D):Nd->Option Nat
 | .layer n _ _ _ _ _ _ _ _ _ _=>if same n nb=true then Z 1 else O
 | .tone n _ _ _=>if same n nb=true then Z 1 else O
 | .group n _ _ _ ns=>if same n nb=true then Z 1 else(lvs nb ns).map (·+1)
def lvs(nb:D):List Nd->Option Nat
 | []=>O
 | n::r=>(lv1 nb n).or<|lvs nb r
end
def x5{nb:D}{n:Nd}(h:n.nm=nb):lv1 nb n=Z 1:=by cases n<;>(rw[lv1,if_pos (by rw[← h];exact D4 _)])
def V8{nb:D}{n:Nd}(h:n.nm≠nb):lv1 nb n=(lvs nb<|F0 n).map (·+1):=by
 have hs:∀d:D,d≠nb->¬same d nb=true:=λd hd=>by rw[M7 hd];simp
 cases n with
 | layer n=>rw[lv1,if_neg (hs n h),F0,lvs];rfl
 | tone n=>rw[lv1,if_neg (hs n h),F0,lvs];rfl
 | group n=>rw[lv1,if_neg (hs n h),F0]
theorem ap6(nb:D):∀a b:List Nd,lvs nb (a++b)=(lvs nb a).or (lvs nb b)
 | [],b=>by rw[lvs];rfl
 | n::a,b=>by rw[xca,lvs,lvs,ap6 nb a b,Option.or_assoc]
mutual
theorem aS9{nb:D}:∀n:Nd,nb∉n.nms->lv1 nb n=O
 | .layer n m s sh lf tp mk w h l kb,hn=>by
  rw[gj]at hn;rw[V8 (by intro z;exact hn (by rw[← z];exact au.mpr rfl)),F0,lvs];rfl
 | .tone n r s sh,hn=>by
  rw[gj]at hn;rw[V8 (by intro z;exact hn (by rw[← z];exact au.mpr rfl)),F0,lvs];rfl
 | .group n m s sh ns,hn=>by
  rw[gj]at hn;rw[V8 (by intro z;exact hn (by rw[← z];exact ae)),F0,lvs_no ns λz=>hn (xmm _ z)];rfl
theorem lvs_no{nb:D}:∀l:List Nd,nb∉gk l->lvs nb l=O
 | [],_=>by rw[lvs]
 | n::r,hn=>by
  rw[gk]at hn;rw[lvs,aS9 n λz=>hn (af _ z),lvs_no r λz=>hn (ag _ z)];rfl
end
def bM5{e:De}{nb:D}(h:nb∉e.car){ns:List Nd}(o:okl e ns):lvs nb (lf e ns)=lvs nb ns:=by
 cases e with
 | put pa k x =>rw[lf,ap6,lvs,aS9 x h,dz,← ap6,bn]
 | out pa k x =>
  have e:=af3 (show ns[k]? = Z x from o)
  conv=>rhs;rw[e]
  rw[lf,ap6,ap6,lvs,aS9 x h,dz]
 | _=>cases o
mutual
theorem cB5{na nb:D}{f:Nd->Nd}(fn:∀n,n.nm=na->(f n).nm=na):∀n:Nd,(∀m∈gw n,m.nm=na->lvs nb (F0<|f m)=lvs nb (F0 m))->lv1 nb (Nd.ap na f n)=lv1 nb n
 | .layer n m s sh lf tp mk w h l kb,H=>by
  by_cases h0:(Nd.layer n m s sh lf tp mk w h l kb).nm=na
  .rw[M0 h0];by_cases hb:na=nb
   .rw[x5 (by rw[fn _ h0];exact hb),x5 (by rw[h0];exact hb)]
   .rw[V8 (by rw[fn _ h0];exact hb),V8 (by rw[h0];exact hb),H _ (N4 _) h0]
  .rw[G8 h0,mkd]
 | .tone n r s sh,H=>by
  by_cases h0:(Nd.tone n r s sh).nm=na
  .rw[M0 h0];by_cases hb:na=nb
   .rw[x5 (by rw[fn _ h0];exact hb),x5 (by rw[h0];exact hb)]
   .rw[V8 (by rw[fn _ h0];exact hb),V8 (by rw[h0];exact hb),H _ (N4 _) h0]
  .rw[G8 h0,mkd]
 | .group n m s sh ns,H=>by
  by_cases h0:(Nd.group n m s sh ns).nm=na
  .rw[M0 h0];by_cases hb:na=nb
   .rw[x5 (by rw[fn _ h0];exact hb),x5 (by rw[h0];exact hb)]
   .rw[V8 (by rw[fn _ h0];exact hb),V8 (by rw[h0];exact hb),H _ (N4 _) h0]
  .rw[G8 h0,mkd,lv1,lv1,lvs_ap fn ns λm hm=>H m (by rw[gw];exact xmm _ hm)]
theorem lvs_ap{na nb:D}{f:Nd->Nd}(fn:∀n,n.nm=na->(f n).nm=na):∀l:List Nd,(∀m∈gx l,m.nm=na->lvs nb (F0<|f m)=lvs nb (F0 m))->lvs nb (Nd.aps na f l)=lvs nb l
 | [],_=>by rw[Nd.aps]
 | n::r,H=>by rw[Nd.aps,lvs,lvs,cB5 fn n λm hm=>H m (by rw[gx];exact af _ hm),lvs_ap fn r λm hm=>H m (by rw[gx];exact ag _ hm)]
end
def cm2{e:De}{l:List Nd}(nd:(gk l).Nodup)(o:okd e l){nb:D}(h:nb∉e.car):lvs nb (act e l)=lvs nb l:=by
 rw[W6];unfold okd at o;split at o
 .rename_i q;rw[if_pos q];exact bM5 h o
 .rename_i q';rw[if_neg q'];obtain⟨n,q,o⟩:=o;refine lvs_ap (bL1 e) l λm hm em=>?_
  rw[aS0 nd q hm em];unfold okn at o;unfold nf;rw[aB9,aB9];split at o
  .rename_i hv;rw[if_pos hv,aF7]
  .rename_i hv;obtain⟨ns,e',o⟩:=o;rw[if_neg hv,au9,e'];exact bM5 h o
mutual
theorem bq6{nb:D}:∀n:Nd,nb∈n.nms->∃v,lv1 nb n=Z v
 | .layer n m s sh lf tp mk w h l kb,hn=>by
  rw[gj,au]at hn;exact⟨1,x5 hn.symm⟩
 | .tone n r s sh,hn=>by
  rw[gj,au]at hn;exact⟨1,x5 hn.symm⟩
 | .group n m s sh ns,hn=>by
  by_cases h0:(Nd.group n m s sh ns).nm=nb
  .exact⟨1,x5 h0⟩
  .rw[gj]at hn;rcases am.mp hn with z|z
   .exact absurd z.symm h0
   .obtain⟨v,e⟩:=lvs_has ns z;exact⟨v+1,by rw[V8 h0,F0,e];rfl⟩
theorem lvs_has{nb:D}:∀l:List Nd,nb∈gk l->∃v,lvs nb l=Z v
 | [],hn=>by rw[gk]at hn;exact(aC hn).elim
 | n::r,hn=>by
  rw[gk]at hn;rw[lvs];cases q:lv1 nb n with
  | some v=>exact⟨v,rfl⟩
  | none =>
   rcases ay.mp hn with z|z
   .obtain⟨v,e⟩:=bq6 n z;rw[q]at e;cases e
   .obtain⟨v,e⟩:=lvs_has r z;exact⟨v,by rw[e];rfl⟩
end
def Y1(nm:D)(m:Man)(s:Rat)(sh:Bool)(ns:List Nd):(Nd.group nm m s sh ns).dp=gc ns+1:=by rw[gb];grind
def aa3(n:Nd)(r:List Nd):gc (n::r)=max n.dp (gc r):=by rw[gc]
def bs7(ns:List Nd)(k:Nat)(y:Nd):gc (ns.take k++y::ns.drop k)=max (gc ns) y.dp:=by
 have e:gc ns=max (gc<|ns.take k) (gc<|ns.drop k):=by rw[← F7,bn]
 rw[F7,aa3,e]
 ac_rfl
mutual
theorem cI7{pb:D}{k:Nat}{y:Nd}:∀(n:Nd) (v:Nat),n.nms.Nodup->lv1 pb n=Z v->(∀m∈gw n,m.nm=pb->∃ns,v5 m=Z ns)->(Nd.ap pb (mkd<|lf (.put pb k y)) n).dp=max n.dp (v+y.dp)
 | .layer n m s sh lf' tp mk w h l kb,v,nd,e,H=>by
  by_cases h0:(Nd.layer n m s sh lf' tp mk w h l kb).nm=pb
  .obtain⟨ns,z⟩:=H _ (N4 _) h0;cases z
  .rw[V8 h0,F0,lvs]at e;cases e
 | .tone n r s sh,v,nd,e,H=>by
  by_cases h0:(Nd.tone n r s sh).nm=pb
  .obtain⟨ns,z⟩:=H _ (N4 _) h0;cases z
  .rw[V8 h0,F0,lvs]at e;cases e
 | .group n m s sh ns,v,nd,e,H=>by
  by_cases h0:(Nd.group n m s sh ns).nm=pb
  .rw[x5 h0]at e;injection e with e
   rw[M0 h0,mkd,Y1,Y1,lf,bs7]
   first|grind|omega
  .rw[V8 h0,F0]at e;obtain⟨u,q,e⟩:=xmo e;rw[gj]at nd;have:=dps_put (k:=k) (y:=y) ns u (be.mp nd).2 q λm hm=>H m (by rw[gw];exact xmm _ hm)
   rw[G8 h0,mkd,Y1,Y1,this]
   first|grind|omega
theorem dps_put{pb:D}{k:Nat}{y:Nd}:∀(l:List Nd) (v:Nat),(gk l).Nodup->lvs pb l=Z v->(∀m∈gx l,m.nm=pb->∃ns,v5 m=Z ns)->gc (Nd.aps pb (mkd<|lf (.put pb k y)) l)=max (gc l) (v+y.dp)
 | [],v,_,e,_=>by rw[lvs]at e;cases e
 | n::r,v,nd,e,H=>by
  rw[gk]at nd;have d:=aD.mp nd;rw[lvs]at e;rw[Nd.aps,aa3,aa3];cases q:lv1 pb n with
  | some u =>
   rw[q]at e;injection e with e
   have pn:pb∈n.nms:=by
    by_cases z:pb∈n.nms
    .exact z
    .rw[aS9 n z]at q;cases q
   rw[aps_id r (λz=>d.2.2 pb pn pb z rfl),cI7 n u d.1 q λm hm=>H m (by rw[gx];exact af _ hm)]
   first|ac_rfl|(subst e;ac_rfl)|grind
  | none =>
   rw[q]at e;have pn:pb∉n.nms:=λz=>by obtain⟨u,w⟩:=bq6 n z;rw[q]at w;cases w
   rw[aP4 n pn,dps_put r v d.2.1 e λm hm=>H m (by rw[gx];exact ag _ hm)]
   first|ac_rfl|grind
end
mutual
theorem ck1{na:D}{f:Nd->Nd}:∀n:Nd,(∀m∈gw n,m.nm=na->(f m).dp<=m.dp)->(Nd.ap na f n).dp<=n.dp
 | .layer n m s sh lf tp mk w h l kb,H=>by
  by_cases h0:(Nd.layer n m s sh lf tp mk w h l kb).nm=na
  .rw[M0 h0];exact H _ (N4 _) h0
  .rw[G8 h0,mkd];exact ak _
 | .tone n r s sh,H=>by
  by_cases h0:(Nd.tone n r s sh).nm=na
  .rw[M0 h0];exact H _ (N4 _) h0
  .rw[G8 h0,mkd];exact ak _
 | .group n m s sh ns,H=>by
  by_cases h0:(Nd.group n m s sh ns).nm=na
  .rw[M0 h0];exact H _ (N4 _) h0
  .have:=dps_less (na:=na) (f:=f) ns λm hm=>H m (by rw[gw];exact xmm _ hm)
   rw[G8 h0,mkd,Y1,Y1];grind
theorem dps_less{na:D}{f:Nd->Nd}:∀l:List Nd,(∀m∈gx l,m.nm=na->(f m).dp<=m.dp)->gc (Nd.aps na f l)<=gc l
 | [],_=>by rw[Nd.aps];exact ak _
 | n::r,H=>by
  have h1:=ck1 (na:=na) (f:=f) n λm hm=>H m (by rw[gx];exact af _ hm)
  have h2:=dps_less (na:=na) (f:=f) r λm hm=>H m (by rw[gx];exact ag _ hm)
  rw[Nd.aps,aa3,aa3];grind
end
def bM8{pa:D}{k:Nat}{x:Nd}{ns:List Nd}(o:okl (.out pa k x) ns):gc (lf (.out pa k x) ns)<=gc ns:=by
 have e:=af3 (show ns[k]? = Z x from o)
 conv=>rhs;rw[e]
 rw[lf,F7,F7,aa3];grind
def cm1{pa:D}{k:Nat}{x:Nd}{l:List Nd}(nd:(gk l).Nodup)(o:okd (.out pa k x) l):gc (act (.out pa k x) l)<=gc l:=by
 rw[W6];unfold okd at o;split at o
 .rename_i h;rw[if_pos h];exact bM8 o
 .rename_i h;rw[if_neg h];obtain⟨n,q,o⟩:=o;refine dps_less l λm hm em=>?_
  rw[aS0 nd q hm em];obtain⟨ns,e,o⟩:=o;cases n with
  | layer=>cases e
  | tone=>cases e
  | group nm m' s sh ms =>
   cases e;show(mkd (lf<|.out pa k x)<|.group nm m' s sh ns).dp<=_;rw[mkd,Y1,Y1];have:=bM8 o
   grind
def lev(pb:D)(l:List Nd):Nat:=if same pb (.str "")=true then 0 else(lvs pb l).getD 0
def aC4{pb:D}{k:Nat}{y:Nd}{l:List Nd}(nd:(gk l).Nodup)(o:okd (.put pb k y) l):gc (act (.put pb k y) l)=max (gc l) (lev pb l+y.dp):=by
 have rr:rot (.put pb k y)=same pb (.str ""):=by unfold rot;rfl
 rw[W6];unfold okd at o;unfold lev;rw[rr]at o ⊢;cases s0:same pb (.str "") with
 | true=>rw[if_pos rfl,if_pos rfl,lf,bs7];grind
 | false =>
  rw[s0,if_neg (by decide)]at o;rw[if_neg (by decide),if_neg (by decide)];obtain⟨n,q,o⟩:=o
  have pin:pb∈gk l:=by
   obtain⟨h1,h2⟩:=fns_sub l q;have:=h1 _ (G5 n);rw[h2]at this;exact this
  obtain⟨v,e⟩:=lvs_has l pin;have hn:nf (.put pb k y)=mkd (lf<|.put pb k y):=rfl;rw[hn,e]
  exact dps_put l v nd e λm hm em=>by
   rw[aS0 nd q hm em];obtain⟨ns,e,_⟩:=o;exact⟨ns,e⟩
def bu8{e:De}{l:List Nd}(nd:(gk l).Nodup)(o:okd e l){nb:D}(h:nb∉e.car):lev nb (act e l)=lev nb l:=by
 unfold lev;rw[cm2 nd o h]
def R9(l:List Nd)(e:De):R0 l e=false↔(e.isP=true->∀d∈e.car,d∉gk l):=by
 cases e with
 | put pa k x =>
  show(x.nms.any λd=>(gk l).any λc=>same c d)=false↔(true=true->∀d∈x.nms,d∉gk l);rw[bP];constructor
  .intro h _ d hd z;exact h d hd<|bc.mpr ⟨d,z,D4 d⟩
  .intro h d hd z;obtain⟨c,hc,e⟩:=bc.mp z;rw[G4.mp e]at hc;exact h rfl d hd hc
 | _=>exact⟨λ_ z=>(by cases z),λ_=>rfl⟩
def ar8{l l':List Nd}{e:De}(h:dn l e=Z l'):R0 l e=false:=by
 cases hv:e.isV with
 | true=>cases e<;>first|rfl|cases hv
 | false=>exact(bs8 hv h).1
def bF8{a b:De}(t:tch a b=false):a.nm∉b.car/\b.nm∉a.car/\∀d∈a.car,d∉b.car:=by
 unfold tch at t;simp only[cM,bP]at t;exact⟨ai1 t.1,ai1 t.2.1,λd hd z=>t.2.2 d hd<|ap9 z⟩
def cq4{e:De}(d:Dg e)(hv:e.isV=true):same e.nm (.str "")=false:=by
 rcases d.de.nmo with h|⟨h,_⟩
 .exact co5 h
 .rw[hv]at h;cases h
def Exa(l:List Nd)(e:De):Prop:=∀pa k x,e=.out pa k x->∃ns,kd l pa=Z ns/\ns[k]? = Z x
def bc0{l:List Nd}(nd:(gk l).Nodup){e:De}(hv:e.isV=false)(o:okd e l){z:Nat}(d3:gc l<=3)(hp:∀pa k y,e=.put pa k y->lev pa l+y.dp<=3):gc (act e l)<=3:=by
 cases e with
 | put pa k y=>rw[aC4 nd o];have:=hp pa k y rfl;grind
 | out pa k y=>exact aQ (cm1 nd o) d3
 | _=>cases hv
def bT5{N:Nat}{l:List Nd}(g:Gp N l)(hN:N<=200){a b:De}(da:Dg a)(db:Dg b){l1 l2:List Nd}(h1:dn l a=Z l1)(h2:dn l1 b=Z l2)(xa:Exa l a)(xb:Exa l1 b)(t:tch a b=false)(no:X9 a b=false)(hg:a.nm=b.nm->a.bg≠b.bg):∃m1,dn l b=Z m1/\dn m1 a=Z l2:=by
 have pa:a.pn<=100:=by
  cases a with
  | put pa k x=>exact(da.3 pa k x<|.inl rfl).2
  | _=>show 0<=100;decide
 have g1:=ar1 g (by grind) da h1;have g2:=ar1 g1 (by grind) db h2;have e1:=av1 g.nd h1;have e2:=av1 g1.nd h2;obtain⟨t1,t2,t3⟩:=bF8 t;have oa:=aE7 h1 xa;have ob1:=aE7 h2 xb;have ob:okd b l:=(bp5 g.nd oa t no hg).mp (by rw[← e1];exact ob1);have lxa:∀pa k x,a=.out pa k x->Ly 60 x.d:=λpa k x h=>da.de.ly pa k x<|.inr h
 have lxb:∀pa k x,b=.out pa k x->Ly 60 x.d:=λpa k x h=>db.de.ly pa k x<|.inr h
 have n1:=as1 g.nd oa;have n2:=as1 g.nd ob
 have cb:R0 l b=false:=(R9 l b).mpr λhp d hd z=>by
  rcases n1.2 d z with q|q
  .rw[← e1]at q;exact(R9 l1 b).mp (ar8 h2) hp d hd q
  .exact t3 d q hd
 have q1:dn l b=Z (act b l):=aH2 g.nd ob cb lxb λhv=>bc0 (z:=0) g.nd hv ob g.dp λpb k y e=>by
  subst e;have h3:=g2.dp;have lv:lev pb l1=lev pb l:=by rw[e1];exact bu8 g.nd oa t2
  rw[e2,aC4 g1.nd ob1,lv]at h3
  grind
 have gm:=ar1 g (by grind) db q1;have oa':okd a (act b l):=(bp5 g.nd ob (by rw[aD4];exact t) (by rw[au2];exact no) λe z=>hg e.symm z.symm).mpr oa
 have ca:R0 (act b l) a=false:=(R9 _ a).mpr λhp d hd z=>by
  rcases n2.1 d z with q|q
  .exact(R9 l a).mp (ar8 h1) hp d hd q
  .exact t3 d hd q
 have cm:act a (act b l)=l2:=by
  rw[e2,e1];by_cases e:a.nm=b.nm
  .have hv:a.isV=true\/b.isV=true:=by
    cases va:a.isV with
    | true=>exact .inl rfl
    | false =>
     cases vb:b.isV with
     | true=>exact .inr rfl
     | false =>
      unfold X9 at no;rw[va,vb,e,D4]at no;cases no
   exact(bD7 e hv (cq4 da) (cq4 db) (hg e) l).symm
  .exact(bD8 e t l).symm
 refine⟨_,q1,?_⟩;rw[← cm];exact aH2 gm.nd oa' ca lxa λ_=>by rw[cm];exact g2.dp
def T4{ns:List Nd}{k:Nat}(h:k<=ns.length)(x:Nd)(i:Nat):(ns.take k++x::ns.drop k)[i]? = if i < k then ns[i]? else if i=k then Z x else ns[i - 1]?:=by
 have hl:(ns.take k).length=k:=by rw[aA];grind
 by_cases h1:i < k
 .rw[if_pos h1,aV (by grind),dB,if_pos h1]
 .rw[if_neg h1,aK (by grind),hl];by_cases h2:i=k
  .rw[if_pos h2,h2,bY];rfl
  .rw[if_neg h2];obtain⟨j,hj⟩:∃j,i - k=j+1:=⟨i - k - 1,by grind⟩;rw[hj,xg1,List.getElem?_drop]
   congr 1;grind
def U4{ns:List Nd}{k:Nat}(h:k < ns.length)(i:Nat):(ns.take k++ns.drop (k+1))[i]? = if i < k then ns[i]? else ns[i+1]?:=by
 have hl:(ns.take k).length=k:=by rw[aA];grind
 by_cases h1:i < k
 .rw[if_pos h1,aV (by grind),dB,if_pos h1]
 .rw[if_neg h1,aK (by grind),hl,List.getElem?_drop]
  congr 1;grind
def ac4{ns:List Nd}{k:Nat}(h:k<=ns.length)(x:Nd):(ns.take k++x::ns.drop k).length=ns.length+1:=by rw[ah,aH,aA,aS];grind
def ab7{ns:List Nd}{k:Nat}(h:k < ns.length):(ns.take k++ns.drop (k+1)).length=ns.length - 1:=by rw[ah,aA,aS];grind
def ai3{ns:List Nd}{k:Nat}{x:Nd}(h:ns[k]? = Z x):k < ns.length:=(ao.mp h).1
def ii{ns:List Nd}{p q:Nat}(hp:p<=ns.length)(hq:q<=p)(x y:Nd):lf (.put .none q y) (lf (.put .none p x) ns)=lf (.put .none (p+1) x) (lf (.put .none q y) ns):=by
 simp only[lf];refine bW λi=>?_
 rw[T4 (by rw[ac4 hp];omega),T4 (k:=p+1) (by rw[ac4 (by omega)];omega)];simp only[T4 hp,T4 (show q<=ns.length by omega)]
 repeat' split
 all_goals first|rfl|omega|(congr 1;omega)
def io{ns:List Nd}{p q:Nat}(hp:p<=ns.length)(hq:q < p)(x y:Nd):lf (.out .none q y) (lf (.put .none p x) ns)=lf (.put .none (p - 1) x) (lf (.out .none q y) ns):=by
 simp only[lf];refine bW λi=>?_
 rw[U4 (by rw[ac4 hp];grind),T4 (k:=p - 1) (by rw[ab7 (by grind)];grind)];simp only[T4 hp,U4 (show q < ns.length by grind)]
 repeat' split
 all_goals first|rfl|grind|(congr 1;grind)
def io'{ns:List Nd}{p q:Nat}(hp:p<=q)(hq:q < ns.length)(x y:Nd):lf (.out .none (q+1) y) (lf (.put .none p x) ns)=lf (.put .none p x) (lf (.out .none q y) ns):=by
 simp only[lf];refine bW λi=>?_
 rw[U4 (k:=q+1) (by rw[ac4 (by grind)];grind),T4 (ns:=ns.take q++ns.drop (q+1)) (k:=p) (by rw[ab7 hq];grind)];simp only[T4 (show p<=ns.length by grind),U4 hq]
 repeat' split
 all_goals first|rfl|grind|(congr 1;grind)
def oo{ns:List Nd}{p q:Nat}(hp:p < ns.length)(hq:q < p)(x y:Nd):lf (.out .none q y) (lf (.out .none p x) ns)=lf (.out .none (p - 1) x) (lf (.out .none q y) ns):=by
 simp only[lf];refine bW λi=>?_
 rw[U4 (by rw[ab7 hp];omega),U4 (k:=p - 1) (by rw[ab7 (by omega)];omega)];simp only[U4 hp,U4 (show q < ns.length by omega)]
 repeat' split
 all_goals first|rfl|omega|(congr 1;omega)
def bG1{a b:De}(ha:a.isV=false)(hb:b.isV=false){ns:List Nd}(oa:okl a ns)(ob:okl b (lf a ns))(hn:nhd a b=false):okl (swp a b).1 ns/\okl (swp a b).2 (lf (swp a b).1 ns)/\lf (swp a b).2 (lf (swp a b).1 ns)=lf b (lf a ns):=by
 cases a with
 | put pa p x =>
  have hp:p<=ns.length:=oa;cases b with
  | put pb q y =>
   have hq:q<=(ns.take p++x::ns.drop p).length:=ob;rw[ac4 hp]at hq;by_cases h:q<=p
   .have e:swp (.put pa p x) (.put pb q y)=(.put pb q y,.put pa (p+1) x):=by unfold swp;rw[if_pos ⟨rfl,h⟩];rfl
    rw[e];refine⟨show q<=ns.length by grind,?_,(ii hp h x y).symm⟩;show p+1<=(ns.take q++y::ns.drop q).length;rw[ac4 (by grind)];grind
   .have e:swp (.put pa p x) (.put pb q y)=(.put pb (q - 1) y,.put pa p x):=by
     unfold swp;rw[if_neg (λz=>h z.2),if_neg (λz=>by cases z.1)];rfl
    rw[e];refine⟨show q - 1<=ns.length by grind,?_,?_⟩
    .show p<=(ns.take (q - 1)++y::ns.drop (q - 1)).length;rw[ac4 (by grind)];grind
    .have:=ii (p:=q - 1) (q:=p) (ns:=ns) (by grind) (by grind) y x;rw[show q - 1+1=q by grind]at this;exact this
  | out pb q y =>
   have hq:(ns.take p++x::ns.drop p)[q]? = Z y:=ob
   have nq:p≠q/\p≠q+1/\q≠p+1:=by
    have hn':(decide (p=q) || (decide (p=q+1\/q=p+1)&&true))=false:=by
     unfold nhd at hn;rw[if_neg (show ¬((De.put pa p x).isP=(De.out pb q y).isP) by intro z;cases z)]at hn;exact hn
    simp at hn'
    grind
   rw[T4 hp]at hq;by_cases h:q < p
   .have e:swp (.put pa p x) (.out pb q y)=(.out pb q y,.put pa (p - 1) x):=by
     unfold swp;rw[if_neg (λz=>by cases z.1),if_pos ⟨rfl,h⟩];rfl
    rw[if_pos h]at hq;have lq:=ai3 hq;rw[e];refine⟨hq,?_,(io hp h x y).symm⟩;show p - 1<=(ns.take q++ns.drop (q+1)).length;rw[ab7 lq];grind
   .have e:swp (.put pa p x) (.out pb q y)=(.out pb (q - 1) y,.put pa p x):=by
     unfold swp;rw[if_neg (λz=>by cases z.1),if_neg (λz=>h z.2)];rfl
    rw[if_neg h,if_neg (by grind)]at hq;have lq:=ai3 hq;rw[e];refine⟨hq,?_,?_⟩
    .show p<=(ns.take (q - 1)++ns.drop (q - 1+1)).length;rw[ab7 lq];grind
    .have:=io' (p:=p) (q:=q - 1) (ns:=ns) (by grind) lq x y;rw[show q - 1+1=q by grind]at this;exact this.symm
  | _=>cases hb
 | out pa p x =>
  have hx:ns[p]? = Z x:=oa;have hp:=ai3 hx;cases b with
  | put pb q y =>
   have hq:q<=(ns.take p++ns.drop (p+1)).length:=ob;rw[ab7 hp]at hq
   have nq:p≠q:=by
    have hn':(decide (p=q) || (decide (p=q+1\/q=p+1)&&false))=false:=by
     unfold nhd at hn;rw[if_neg (show ¬((De.out pa p x).isP=(De.put pb q y).isP) by intro z;cases z)]at hn;exact hn
    simp at hn'
    grind
   by_cases h:q<=p
   .have e:swp (.out pa p x) (.put pb q y)=(.put pb q y,.out pa (p+1) x):=by unfold swp;rw[if_pos ⟨rfl,h⟩];rfl
    rw[e];refine⟨show q<=ns.length by grind,?_,io' (by grind) hp y x⟩;show(ns.take q++y::ns.drop q)[p+1]? = Z x;rw[T4 (by grind),if_neg (by grind),if_neg (by grind)];exact hx
   .have e:swp (.out pa p x) (.put pb q y)=(.put pb (q+1) y,.out pa p x):=by
     unfold swp;rw[if_neg (λz=>h z.2),if_neg (λz=>by cases z.1)];rfl
    rw[e];refine⟨show q+1<=ns.length by grind,?_,?_⟩
    .show(ns.take (q+1)++y::ns.drop (q+1))[p]? = Z x;rw[T4 (by grind),if_pos (by grind)];exact hx
    .have:=io (p:=q+1) (q:=p) (ns:=ns) (by grind) (by grind) y x;exact this
  | out pb q y =>
   have hq:(ns.take p++ns.drop (p+1))[q]? = Z y:=ob;rw[U4 hp]at hq;by_cases h:q < p
   .have e:swp (.out pa p x) (.out pb q y)=(.out pb q y,.out pa (p - 1) x):=by
     unfold swp;rw[if_neg (λz=>by cases z.1),if_pos ⟨rfl,h⟩];rfl
    rw[if_pos h]at hq;rw[e];refine⟨hq,?_,(oo hp h x y).symm⟩;show(ns.take q++ns.drop (q+1))[p - 1]? = Z x;rw[U4 (by grind),if_neg (by grind),show p - 1+1=p by grind];exact hx
   .have e:swp (.out pa p x) (.out pb q y)=(.out pb (q+1) y,.out pa p x):=by
     unfold swp;rw[if_neg (λz=>by cases z.1),if_neg (λz=>h z.2)];rfl
    rw[if_neg h]at hq;have lq:=ai3 hq;rw[e];refine⟨hq,?_,?_⟩
    .show(ns.take (q+1)++ns.drop (q+1+1))[p]? = Z x;rw[U4 lq,if_pos (by grind)];exact hx
    .exact oo (p:=q+1) (q:=p) lq (by grind) y x
  | _=>cases hb
 | _=>cases ha
def bn9{e:De}(d:Dg e)(k:Nat):Dg (e.wn k):=by
 cases e with
 | put pa j x =>
  refine⟨⟨d.de.nmo,trivial,λpb i y z=>?_⟩,d.gv,λpb i y z=>?_⟩
  .rcases z with z|z<;>cases z;exact d.de.nd _ _ _<|.inl rfl
  .rcases z with z|z<;>cases z;exact d.nd _ _ _<|.inl rfl
 | out pa j x =>
  refine⟨⟨d.de.nmo,trivial,λpb i y z=>?_⟩,trivial,λpb i y z=>?_⟩
  .rcases z with z|z<;>cases z;exact d.de.nd _ _ _<|.inr rfl
  .rcases z with z|z<;>cases z;exact d.nd _ _ _<|.inr rfl
 | _=>exact d
def bT4{N:Nat}{l:List Nd}(g:Gp N l)(hN:N<=200){a b:De}(da:Dg a)(db:Dg b){l1 l2:List Nd}(h1:dn l a=Z l1)(h2:dn l1 b=Z l2)(xa:Exa l a)(xb:Exa l1 b)(t:tch a b=false)(no:X9 a b=true)(hn:nhd a b=false):∃m1,dn l (swp a b).1=Z m1/\dn m1 (swp a b).2=Z l2:=by
 unfold X9 at no;simp only[ar,bp]at no;obtain⟨va,vb,hs⟩:=no;have hs:=G4.mp hs
 have pa:a.pn<=100:=by
  cases a with
  | put pa k x=>exact(da.3 pa k x<|.inl rfl).2
  | _=>show 0<=100;decide
 have g1:=ar1 g (by grind) da h1;have g2:=ar1 g1 (by grind) db h2;have e1:=av1 g.nd h1;have e2:=av1 g1.nd h2;obtain⟨t1,t2,t3⟩:=bF8 t;have oa:=aE7 h1 xa;have ob1:=aE7 h2 xb;obtain⟨ns,k1,o1⟩:=bi3 va oa;have w1:=aJ1 g.nd va k1;obtain⟨k2,W2⟩:=bN4 g.nd k1 (ns':=lf a ns) (by rw[w1,← e1];exact g1.nd);rw[w1,← e1]at k2 W2;obtain⟨ms,k3,o3⟩:=bi3 vb ob1;rw[← hs,k2]at k3;cases k3;obtain⟨L1,L2,L3⟩:=bG1 va vb o1 o3 hn;obtain⟨_,_,j,k,sw⟩:=aX8 va vb hn;rw[sw]at L1 L2 L3 ⊢;simp only at L1 L2 L3 ⊢;obtain⟨c1,c2,c3,c4,_⟩:=ax0 b j;obtain⟨f1,f2,f3,f4,_⟩:=ax0 a k;have dc:=bn9 db j;have df:=bn9 da k;have kc:kd l (b.wn j).nm=Z ns:=by rw[c1,← hs];exact k1
 have oc:okd (b.wn j) l:=bN5 (by rw[c3];exact vb) kc L1;have n1:=as1 g.nd oa;have n2:=as1 g.nd oc
 have cb:R0 l (b.wn j)=false:=(R9 l _).mpr λhp d hd z=>by
  rw[c2]at hd;rw[c4]at hp;rcases n1.2 d z with q|q
  .rw[← e1]at q;exact(R9 l1 b).mp (ar8 h2) hp d hd q
  .exact t3 d q hd
 have q1:dn l (b.wn j)=Z (act (b.wn j) l):=aH2 g.nd oc cb (λpa k x h=>dc.de.ly pa k x<|.inr h) λhv=>bc0 (z:=0) g.nd hv oc g.dp λpb i y e=>by
  cases b with
  | put pb' q y' =>
   cases e;have h3:=g2.dp;have lv:lev pb l1=lev pb l:=by rw[e1];exact bu8 g.nd oa t2
   rw[e2,aC4 g1.nd ob1,lv]at h3
   grind
  | out=>cases e
  | _=>cases vb
 have gm:=ar1 g (by grind) dc q1;have wc:=aJ1 g.nd (e:=b.wn j) (by rw[c3];exact vb) kc;obtain⟨k4,W4⟩:=bN4 g.nd kc (ns':=lf (b.wn j) ns) (by rw[wc];exact gm.nd);rw[wc]at k4 W4;have nmE:(a.wn k).nm=(b.wn j).nm:=by rw[f1,c1,hs]
 have of':okd (a.wn k) (act (b.wn j) l):=bN5 (by rw[f3];exact va) (by rw[nmE];exact k4) L2
 have ca:R0 (act (b.wn j) l) (a.wn k)=false:=(R9 _ _).mpr λhp d hd z=>by
  rw[f2]at hd;rw[f4]at hp;rcases n2.1 d z with q|q
  .exact(R9 l a).mp (ar8 h1) hp d hd q
  .rw[c2]at q;exact t3 d hd q
 have cm:act (a.wn k) (act (b.wn j) l)=l2:=by rw[← aJ1 gm.nd (e:=a.wn k) (by rw[f3];exact va) (by rw[nmE];exact k4),L3,nmE,W4,e2,← aJ1 g1.nd vb (by rw[← hs];exact k2),← hs,W2,c1,← hs]
 refine⟨_,q1,?_⟩;rw[← cm];exact aH2 gm.nd of' ca (λpa k x h=>df.de.ly pa k x<|.inr h) λ_=>by rw[cm];exact g2.dp
def ck2{N:Nat}{l:List Nd}(g:Gp N l)(hN:N<=200){a b:De}(da:Dg a)(db:Dg b){l1 l2:List Nd}(h1:dn l a=Z l1)(h2:dn l1 b=Z l2)(xa:Exa l a)(xb:Exa l1 b){c e:De}(hx:exc a b=Z (c,e)):∃m1,dn l c=Z m1/\dn m1 e=Z l2:=by
 unfold exc hld at hx;cases ht:tch a b with
 | true=>rw[ht,cJ,if_pos rfl]at hx;cases hx
 | false =>
  rw[ht,cr]at hx;cases ho:X9 a b with
  | false =>
   rw[ho,if_neg (show ¬(false=true) by decide),if_neg (show ¬(false=true) by decide)]at hx;cases hs:same (.tuple a.bg) (.tuple b.bg) with
   | true=>rw[hs,if_pos rfl]at hx;cases hx
   | false =>
    rw[hs,if_neg (by decide)]at hx;cases hx;exact bT5 g hN da db h1 h2 xa xb ht ho λ_ z=>by rw[z,D4]at hs;cases hs
  | true =>
   rw[ho,if_pos rfl,if_pos rfl]at hx;cases hn:nhd a b with
   | true=>rw[hn,if_pos rfl]at hx;cases hx
   | false =>
    rw[hn,if_neg (by decide)]at hx;injection hx with hx
    have:=bT4 g hN da db h1 h2 xa xb ht ho hn;rw[hx]at this;exact this
end Sh
open Sh.Nd renaming ap→gB,aps→gC
namespace Lk82
open PySem PySem.Spec PyProof.Rows L2 G Sh
def top(i:Nat):Stmt:=PySem.Challenge.pw_glazework_k82_whole_exchanged.main.body.getD i<|.Pass ⟨0,0,0,0⟩
def bX2:DS:=(A7 (B4 1<|A2 aj0 (A0 (A1 0)<|A0 ⇑0 (A0 ⇑14 A3)))<|A7 (B4 2<|A2 v9 (A0 (A1 0)<|A0 ⇑50 (A0 ⇑4<|A0 (E3 (A1 1) C7<|B7 ⇑6) A3))) (A7 (X8 (L8<|aI0 ⇑1 (aH9 ⇑4<|Q5 (A8 0))) (B5 3)<|A7 (B4 4<|A2 n9 (A0 (A1 0)<|A0 (A5 B1 ⇑800<|A5 D5 ⇑420 (A1 3)) (A0 (A1 2)<|A0 (dIx (A8 1)<|A5 B1 ⇑6 (A5 D5 ⇑2<|A1 3)) A3))) (A7 (sIf (tB2 isB (A2 Y5<|A0 (A1 2) (A0 (A1 4) A3))<|dC .none) (B4 4<|B6 (A0 (dC<|.str "put")<|A0 (dC<|.str "") (A0 ⇑0<|A0 (B6<|A0 (dC<|.str "tone") (A0 (dIx (A8 1)<|A5 B1 ⇑6 (A5 D5 ⇑2<|A1 3))<|A0 (dC<|.str "grey") (A0 (B6<|A0 ⇑1 (A0 ⇑2 A3))<|A0 (dC<|.bool true) A3))) A3))) B8)<|A7 (B4 5<|A2 P6 (A0 (A1 2)<|A0 (A1 4) A3)) (A7 (B4 6<|A2 n9 (A0 (A1 0)<|A0 (A5 B1 ⇑1010<|A5 D5 ⇑420 (A1 3)) (A0 (A1 5)<|A0 (dIx (A8 1)<|A5 B1 ⇑7 (A5 D5 ⇑2<|A1 3)) A3)))<|A7 (sIf (tB2 isB (A2 Y5<|A0 (A1 5) (A0 (A1 6) A3))<|dC .none) (B4 6<|B6 (A0 (dC<|.str "put")<|A0 (dC<|.str "") (A0 ⇑0<|A0 (B6<|A0 (dC<|.str "tone") (A0 (dIx (A8 1)<|A5 B1 ⇑7 (A5 D5 ⇑2<|A1 3))<|A0 (dC<|.str "grey") (A0 (B6<|A0 ⇑1 (A0 ⇑2 A3))<|A0 (dC<|.bool true) A3))) A3))) B8) (A7 (B4 7<|A2 P6 (A0 (A1 5)<|A0 (A1 6) A3))<|A7 (sIf (M6 (tB2 al8 (A2 O7<|A0 (A1 7) A3)<|dC (.bool true))<|tB2 neD (A2 P6<|A0 (A1 7) (A0 (A2 N3<|A0 (A1 6) A3) A3)) (A1 5)) (B0<|dC (.bool false)) B8) (A7 (sIf (M6 (tB2 neD (A2 N3<|A0 (A2 N3<|A0 (A1 4) A3) A3)<|A1 4)<|tB2 neD (A2 P6<|A0 (A1 5) (A0 (A2 N3<|A0 (A1 4) A3) A3)) (A1 2)) (B0<|dC (.bool false)) B8)<|A7 (B4 8<|A2 R5 (A0 (A1 4)<|A0 (A1 6) A3)) (A7 (sIf (tB2 al8 (A1 8)<|dC .none) (sIf (M6 (tB2 neD (A2 P6<|A0 (A2 P6<|A0 (A1 2) (A0 (dIx (A8 8) ⇑0) A3)) (A0 (dIx (A8 8) ⇑1) A3))<|A1 7)<|tB2 neD (A2 R5<|A0 (dIx (A8 8) ⇑0) (A0 (dIx (A8 8) ⇑1) A3)) (B6<|A0 (A1 4) (A0 (A1 6) A3))) (B0<|dC (.bool false)) B8) B8)<|B4 2 (A1 7)))))))<|B0 (dC<|.bool true)))
def bv0:List D->Option D:=C0 bX2 9
end Lk82
namespace Lk82
open PySem G L2 Sh
def mA{k:Nat}(hk:k < 4):D5 (.int 420) (.int (k:Int))=Z (.int<|420*(k:Int)):=by rcases k with _|_|_|_|k<;>first|rfl|grind
def mB{k:Nat}(hk:k < 4):D5 (.int 2) (.int (k:Int))=Z (.int<|2*(k:Int)):=by rcases k with _|_|_|_|k<;>first|rfl|omega
def bI7{w h N:Nat}(S:Sz w h){l:List Nd}(g:Gp N l)(hN:N<=400):O7 [C6 w h l]=Z (.bool true):=by
 have nl:(gk l).length<=1000:=by have:=g.len;grind
 rw[aM7 (w:=w) (h:=h) (l:=l) ⟨S.w1,S.w8,S.h1,S.h8,g.ok,nears_off' l g.nr (thins_of l nl).1,g.nm,nl⟩]
 congr 2
 simp[g.dp,g.nd]
def fr0(nm:Str):De:=.put (.str "") 0<|.tone (.str nm) .grey av0 true
def cp7(nm:Str):(fr0 nm).d=.tuple [.str "put", .str "", .int 0,.tuple [.str "tone", .str nm,.str "grey", .tuple [.int 1,.int 2],.bool true]]:=by
 unfold fr0;rw[gy,fV,bs3];rfl
def cV3{nm:Str}(h:Nm (.str nm)):Dg (fr0 nm)/\Dg (fr0 nm).inv:=by
 have n1:(Nd.tone (.str nm) .grey av0 true).nms=[.str nm]:=by rw[gj]
 have dp:(Nd.tone (.str nm) .grey av0 true).dp=0:=by rw[gb]
 have de:∀e:De,e.isV=false->e.nm=.str "" -> (∀pa k x,e=.put pa k x\/e=.out pa k x->x=.tone (.str nm) .grey av0 true)->e.sz->Dee e/\(∀pa k x,e=.put pa k x\/e=.out pa k x->(∀d∈x.nms,Nm d)/\x.nms.length<=100):=λe hv hn hx hz=>by
  refine⟨⟨.inr ⟨hv,hn⟩,hz,λpa k x z=>?_⟩,λpa k x z=>?_⟩
  .rw[hx pa k x z,dp,n1];exact⟨λd hd=>by rw[au]at hd;rw[hd];exact P7 h,by decide,by simp⟩
  .rw[hx pa k x z,n1];exact⟨λd hd=>by rw[au]at hd;rw[hd];exact h,by simp⟩
 obtain⟨d1,d2⟩:=de (fr0 nm) rfl rfl (λpa k x z=>by rcases z with z|z<;>cases z;rfl) trivial;obtain⟨d3,d4⟩:=de (fr0 nm).inv rfl rfl (λpa k x z=>by rcases z with z|z<;>cases z;rfl) trivial;refine⟨⟨d1,⟨?_,?_,?_⟩,d2⟩,⟨d3,trivial,d4⟩⟩
 .rw[fX];exact br8
 .rw[gh];trivial
 .rw[n1];simp
def Qn(b:Bool)(m:Nat)(l:List Nd):Prop:=∀d∈gk l,∃(j:Nat) (y:Str),(j < m\/j=16)/\d=.str (nmS b j y)
def da3(b:Bool)(j:Nat)(y:Str):∃(i:Nat) (z:Str),(i=j\/i=16)/\nmS b j y ++ "q" = nmS b i z:=by
 cases b with
 | true =>
  refine⟨j,y ++ "q", .inl rfl,?_⟩;show(⟨((ltr j).cps++y.cps)++("q" : Str).cps⟩:Str)=⟨(ltr j).cps++(y.cps++("q" : Str).cps)⟩;rw[Array.append_assoc]
 | false =>
  refine⟨16,nmS false j y,.inr rfl,?_⟩;have:("q" : Str)=ltr 16:=by decide +kernel
  rw[this];rfl
def fresh{b:Bool}{m:Nat}{l:List Nd}(Q:Qn b m l)(hm:m < 14)(y:Str):(.str (nmS b m y):D)∉gk l:=λz=>by
 obtain⟨j,y',h,e⟩:=Q _ z;injection e with e
 have:=bp8 e
 grind
def pick{M m:Nat}{b:Bool}{l:List Nd}(g:Gp M l)(hM:M<=40)(Q:Qn b m l)(hm:m < 14){y:Str}(hnm:Nm (.str<|nmS b m y)){e:De}(D:Dw l (nmS b m y) e):∃a l1,((∃z,dn l e=Z z)/\a=e\/dn l e=O/\a=fr0 (nmS b m y))/\dn l a=Z l1/\Dg a/\Dg a.inv/\Exa l a/\Gp (M+2) l1/\Qn b (m+1) l1:=by
 have grow:∀N N' l,N<=N'->Gp N l->Gp N' l:=λN N' l h g=>⟨g.ok,g.nr,g.dp,g.nm,g.nd,aQ g.len h⟩
 have fin:∀a l1,dn l a=Z l1->Dg a->Dg a.inv->Exa l a->a.pn<=2->(∀d∈a.car,d∈gk l\/∃(j:Nat) (z:Str),(j < m+1\/j=16)/\d=.str (nmS b j z))->dn l a=Z l1/\Dg a/\Dg a.inv/\Exa l a/\Gp (M+2) l1/\Qn b (m+1) l1:=λa l1 h da di xa pn hc=>by
  refine⟨h,da,di,xa,grow _ _ _ (by grind) (ar1 g (by grind) da h),λd hd=>?_⟩
  have old:∀d∈gk l,∃(j:Nat) (z:Str),(j < m+1\/j=16)/\d=.str (nmS b j z):=λd hd=>by
   obtain⟨j,z,h1,h2⟩:=Q d hd;exact⟨j,z,by grind,h2⟩
  rw[av1 g.nd h]at hd;rcases(as1 g.nd<|aE7 h xa).1 d hd with z|z
  .exact old d z
  .rcases hc d z with q|q
   .exact old d q
   .exact q
 cases q:dn l e with
 | some l1 =>
  refine⟨e,l1,.inl ⟨⟨l1,rfl⟩,rfl⟩,fin e l1 q D.dg D.di D.out ?_ λd hd=>?_⟩
  .cases e with
   | put pa k x =>
    show x.nms.length<=2;rcases(D.put pa k x rfl).1 with q|q<;>(rw[q];simp)
   | _=>show 0<=2;decide
  .cases e with
   | put pa k x =>
    right
    have hd:d∈x.nms:=hd;rcases(D.put pa k x rfl).1 with q|q<;>(rw[q]at hd;simp only[am,aC,or_false]at hd)
    .exact⟨m,y,by grind,hd⟩
    .rcases hd with z|z
     .exact⟨m,y,by grind,z⟩
     .obtain⟨i,u,h1,h2⟩:=da3 b m y;exact⟨i,u,by grind,by rw[z,h2]⟩
   | out pa k x =>
    left
    obtain⟨ns,h1,h2⟩:=D.out pa k x rfl;have sub:=(V6 g (by grind) h1).2.1;have hd:d∈x.nms:=hd;refine sub d ?_;rw[af3 h2,B3,gk];exact ag _<|af _ hd
   | _=>exact(aC hd).elim
 | none =>
  obtain⟨dg,di⟩:=cV3 hnm;have n1:(Nd.tone (.str<|nmS b m y) .grey av0 true).nms=[.str (nmS b m y)]:=by rw[gj]
  have xa:Exa l (fr0<|nmS b m y):=λpa k x z=>by cases z
  have rr:rot (fr0<|nmS b m y)=true:=by
   show(!false&&same (.str "") (.str ""))=true;rw[D4];rfl
  have o:okd (fr0<|nmS b m y) l:=by
   unfold okd;rw[rr,if_pos rfl];exact aO _
  have c:R0 l (fr0<|nmS b m y)=false:=(R9 l _).mpr λ_ d hd z=>by
   have hd:d∈(Nd.tone (.str<|nmS b m y) .grey av0 true).nms:=hd;rw[n1,au]at hd;rw[hd]at z;exact fresh Q hm y z
  have d:=aH2 g.nd o c (λpa k x z=>by cases z) λ_=>by
   have:gc (act (fr0<|nmS b m y) l)=_:=aC4 g.nd o;rw[this];have e0:(Nd.tone (.str<|nmS b m y) .grey av0 true).dp=0:=by rw[gb]
   have l0:lev (.str "") l=0:=by unfold lev;rw[D4,if_pos rfl]
   rw[e0,l0];have:=g.dp
   grind
  refine⟨_,_,.inr ⟨rfl,rfl⟩,fin _ _ d dg di xa ?_ λz hz=>.inr ⟨m,y,by grind,?_⟩⟩
  .show(Nd.tone (.str<|nmS b m y) .grey av0 true).nms.length<=2;rw[n1];simp
  .have hz:z∈(Nd.tone (.str<|nmS b m y) .grey av0 true).nms:=hz
   rwa [n1,au]at hz
def lb0:DS:=(B4 4<|A2 n9 (A0 (A1 0)<|A0 (A5 B1 ⇑800<|A5 D5 ⇑420 (A1 3)) (A0 (A1 2)<|A0 (dIx (A8 1)<|A5 B1 ⇑6 (A5 D5 ⇑2<|A1 3)) A3)))
def lb1:DS:=(sIf (tB2 isB (A2 Y5<|A0 (A1 2) (A0 (A1 4) A3))<|dC .none) (B4 4<|B6 (A0 (dC<|.str "put")<|A0 (dC<|.str "") (A0 ⇑0<|A0 (B6<|A0 (dC<|.str "tone") (A0 (dIx (A8 1)<|A5 B1 ⇑6 (A5 D5 ⇑2<|A1 3))<|A0 (dC<|.str "grey") (A0 (B6<|A0 ⇑1 (A0 ⇑2 A3))<|A0 (dC<|.bool true) A3))) A3))) B8)
def lb2:DS:=(B4 5<|A2 P6 (A0 (A1 2)<|A0 (A1 4) A3))
def lb3:DS:=(B4 6<|A2 n9 (A0 (A1 0)<|A0 (A5 B1 ⇑1010<|A5 D5 ⇑420 (A1 3)) (A0 (A1 5)<|A0 (dIx (A8 1)<|A5 B1 ⇑7 (A5 D5 ⇑2<|A1 3)) A3)))
def lb4:DS:=(sIf (tB2 isB (A2 Y5<|A0 (A1 5) (A0 (A1 6) A3))<|dC .none) (B4 6<|B6 (A0 (dC<|.str "put")<|A0 (dC<|.str "") (A0 ⇑0<|A0 (B6<|A0 (dC<|.str "tone") (A0 (dIx (A8 1)<|A5 B1 ⇑7 (A5 D5 ⇑2<|A1 3))<|A0 (dC<|.str "grey") (A0 (B6<|A0 ⇑1 (A0 ⇑2 A3))<|A0 (dC<|.bool true) A3))) A3))) B8)
def lb5:DS:=(B4 7<|A2 P6 (A0 (A1 5)<|A0 (A1 6) A3))
def lb6:DS:=(sIf (M6 (tB2 al8 (A2 O7<|A0 (A1 7) A3)<|dC (.bool true))<|tB2 neD (A2 P6<|A0 (A1 7) (A0 (A2 N3<|A0 (A1 6) A3) A3)) (A1 5)) (B0<|dC (.bool false)) B8)
def lb7:DS:=(sIf (M6 (tB2 neD (A2 N3<|A0 (A2 N3<|A0 (A1 4) A3) A3)<|A1 4)<|tB2 neD (A2 P6<|A0 (A1 5) (A0 (A2 N3<|A0 (A1 4) A3) A3)) (A1 2)) (B0<|dC (.bool false)) B8)
def lb8:DS:=(B4 8<|A2 R5 (A0 (A1 4)<|A0 (A1 6) A3))
def lb9:DS:=(sIf (tB2 al8 (A1 8)<|dC .none) (sIf (M6 (tB2 neD (A2 P6<|A0 (A2 P6<|A0 (A1 2) (A0 (dIx (A8 8) ⇑0) A3)) (A0 (dIx (A8 8) ⇑1) A3))<|A1 7)<|tB2 neD (A2 R5<|A0 (dIx (A8 8) ⇑0) (A0 (dIx (A8 8) ⇑1) A3)) (B6<|A0 (A1 4) (A0 (A1 6) A3))) (B0<|dC (.bool false)) B8) B8)
def db4:DS:=(B4 2<|A1 7)
def lb:DS:=(A7 lb0<|A7 lb1 (A7 lb2<|A7 lb3 (A7 lb4<|A7 lb5 (A7 lb6<|A7 lb7 (A7 lb8<|A7 lb9 db4)))))
abbrev r9'(ns:List Int)(N:List D)(w h:Nat)(l:List Nd)(k:Nat)(a4 a5 a6 a7 a8:Option B):Rho:=[‹scr ns›,‹.list N›,‹C6 w h l›,‹.int k›,a4,a5,a6,a7,a8]
def cB1{n:Nat}{a b:De}(ha:Ly n a.d)(hb:Ly n b.d):Ly (n+1) (.tuple [a.d,b.d]):=Ly.tup λx hx=>by
 simp only[am,aC,or_false]at hx;rcases hx with rfl|rfl
 .exact ha
 .exact hb
def bJ7{a b:Rho->Option Bool}{ρ:Rho}(h1:a ρ=Z false)(h2:b ρ=Z false):M6 a b ρ=Z false:=by unfold M6;rw[h1,h2];rfl
def cS7(ns:List Int)(hn:ns.length<=63){N:List D}{b0:Bool}(NV:∀j,j < 14->∃y:Str,N[j]? = Z (.str<|nmS b0 j y)/\Nm (.str<|nmS b0 j y)/\(nmS b0 j y).length<=5){w h:Nat}(S:Sz w h){M k:Nat}{l:List Nd}(g:Gp M l)(hM:M<=30)(hk:k < 4)(Q:Qn b0 (6+2*k) l)(a4 a5 a6 a7 a8:Option B):∃(l':List Nd) (b4 b5 b6 b7 b8:Option B),lb (r9' ns N w h l k a4 a5 a6 a7 a8)=Z (.nx<|r9' ns N w h l' k b4 b5 b6 b7 b8)/\Gp (M+4) l'/\Qn b0 (6+2*(k+1)) l':=by
 obtain⟨y6,e6,h6,s6⟩:=NV (6+2*k) (by grind);obtain⟨y7,e7,h7,s7⟩:=NV (7+2*k) (by grind)
 have i6:atI N (6+2*(k:Int))=Z (.str<|nmS b0 (6+2*k) y6):=by
  have:=P8 (j:=6+2*k) e6
  rwa [show((6+2*k:Nat):Int)=6+2*(k:Int) by grind]at this
 have i7:atI N (7+2*(k:Int))=Z (.str<|nmS b0 (7+2*k) y7):=by
  have:=P8 (j:=7+2*k) e7
  rwa [show((7+2*k:Nat):Int)=7+2*(k:Int) by grind]at this
 obtain⟨a,ea,Da⟩:=aH1 g (by grind) ns hn (800+420*k) (by grind) w h h6 s6;rw[show((800+420*k:Nat):Int)=800+420*(k:Int) by grind]at ea;have ld:=bq9 (w:=w) (h:=h) g (by grind) Da.dg;obtain⟨A,l1,ch1,d1,DA,DAi,XA,g1,Q1⟩:=pick g (by grind) Q (by grind) h6 Da;have fA:=ai4 S g (by grind) DA d1;obtain⟨b,eb,Db⟩:=aH1 g1 (by grind) ns hn (1010+420*k) (by grind) w h h7 s7;rw[show((1010+420*k:Nat):Int)=1010+420*(k:Int) by grind]at eb;have ld2:=bq9 (w:=w) (h:=h) g1 (by grind) Db.dg;have Q1:Qn b0 (7+2*k) l1:=by rw[show 7+2*k=6+2*k+1 by grind];exact Q1
 obtain⟨C,l2,ch2,d2,DC,DCi,XC,g2,Q2⟩:=pick g1 (by grind) Q1 (by grind) h7 Db;have fC:=ai4 S g1 (by grind) DC d2;have pt:=bI7 S g2 (by grind);obtain⟨z1,bk1,ds1⟩:=bt0 g1 (by grind) DC d2 XC;have fB1:=ai4 S g2 (by grind) DCi bk1;have fB1:P6 [C6 w h l2,C.inv.d]=Z (C6 w h l1):=by rw[fB1];unfold C6;rw[ds1]
 obtain⟨z2,bk2,ds2⟩:=bt0 g (by grind) DA d1 XA;have fB2:=ai4 S g1 (by grind) DAi bk2;have fB2:P6 [C6 w h l1,A.inv.d]=Z (C6 w h l):=by rw[fB2];unfold C6;rw[ds2]
 have cA:=ag8 A;have cA2:=ag8 A.inv;rw[ci6]at cA2;have cC:=ag8 C;have x1:=bR9 DA.de.dx DC.de.dx;have lA:=co8 DA;have lC:=co8 DC;have tp:∀z:List Nd,isB (C6 w h z) .none=Z (.bool false):=λz=>rfl
 refine⟨l2,‹A.d›,‹C6 w h l1›,‹C.d›,‹C6 w h l2›,‹cy2 (exc A C)›,?_,⟨g2.ok,g2.nr,g2.dp,g2.nm,g2.nd,by have:=g2.len;grind⟩,by rw[show 6+2*(k+1)=7+2*k+1 by grind];exact Q2⟩;unfold lb;refine(A6 (by exists evD,lb0,r9',mB hk,mA hk,i6,ea;rfl)).trans ?_;refine(A6 (f:=lb1) (ρ':=r9' ns N w h l k (‹A.d›) a5 a6 a7 a8) ?_).trans ?_
 .rcases ch1 with⟨⟨z,hz⟩,hA⟩|⟨hz,hA⟩
  .rw[hz]at ld;rw[hA];exact(C1<|V5 (by exists evD,r9',ld;rfl) (by rfl) (by rfl)).trans rfl
  .rw[hz]at ld;refine(E2<|V5 (by exists evD,r9',ld;rfl) (by rfl) (by rfl)).trans ?_;rw[hA,cp7]
   exists evD,r9',mB hk,mA hk,i6
 refine(A6 (by exists evD,lb2,r9',fA;rfl)).trans ?_;refine(A6 (by exists evD,lb3,r9',mA hk,mB hk,i7,eb;rfl)).trans ?_;refine(A6 (f:=lb4) (ρ':=r9' ns N w h l k (‹A.d›) (‹C6 w h l1›) (‹C.d›) a7 a8) ?_).trans ?_
 .rcases ch2 with⟨⟨z,hz⟩,hA⟩|⟨hz,hA⟩
  .rw[hz]at ld2;rw[hA];exact(C1<|V5 (by exists evD,r9',ld2;rfl) (by rfl) (by rfl)).trans rfl
  .rw[hz]at ld2;refine(E2<|V5 (by exists evD,r9',ld2;rfl) (by rfl) (by rfl)).trans ?_;rw[hA,cp7]
   exists evD,r9',mB hk,mA hk,i7
 refine(A6 (by exists evD,lb5,r9',fC;rfl)).trans ?_;refine(A6 (f:=lb6)<|(C1<|bJ7 (V5 (by exists evD,r9',pt;rfl) (by rfl)<|by rfl) (V5 (by exists evD,r9',cC,fB1;rfl) (by rfl)<|ai2 (bM4 g1) (by decide))).trans rfl).trans ?_;refine(A6 (f:=lb7)<|(C1<|bJ7 (V5 (by exists evD,r9',cA,cA2) (by rfl)<|ai2 lA (by decide)) (V5 (by exists evD,r9',cA,fB2;rfl) (by rfl)<|ai2 (bM4 g) (by decide))).trans rfl).trans ?_;refine(A6 (by exists evD,lb8,r9',x1;rfl)).trans ?_;refine(A6 (f:=lb9) (ρ':=r9' ns N w h l k (‹A.d›) (‹C6 w h l1›) (‹C.d›) (‹C6 w h l2›)<|‹cy2 (exc A C)›) ?_).trans rfl;cases q:exc A C with
 | none=>exact(C1<|V5 (x:=.none) (by rfl) (by rfl) (by rfl)).trans rfl
 | some z =>
  obtain⟨c,e⟩:=z;obtain⟨bk,j,i,hc,he⟩:=bS0 q;obtain⟨m1,q1,q2⟩:=ck2 g (by grind) DA DC d1 d2 XA XC q;have Dc:Dg c:=by rw[hc];exact bn9 DC j
  have De':Dg e:=by rw[he];exact bn9 DA i
  have gm:=ar1 g (by grind) Dc q1
  have pn:c.pn<=100:=by
   cases c with
   | put pa k x=>exact(Dc.3 pa k x<|.inl rfl).2
   | _=>show 0<=100;decide
  have f1:=ai4 S g (by grind) Dc q1;have f2:=ai4 S gm (by grind) De' q2;have y:=bR9 (a:=c) (b:=e) Dc.de.dx De'.de.dx;rw[bk]at y;refine(E2<|V5 (x:=.tuple [c.d,e.d]) (by rfl) (by rfl) (by rfl)).trans ((C1<|bJ7 (V5 ?_ (by rfl)<|ai2 (bM4 (w:=w) (h:=h) g2) (by decide)) (V5 ?_ (by rfl)<|ai2 (cB1 lA lC) (by decide))).trans rfl)
  .show((P6 [C6 w h l,c.d]).bind λx=>Z [x,e.d]).bind P6=_;rw[f1];exact f2
  .show R5 [c.d,e.d]=_;rw[y];rfl
theorem br1(ns:List Int)(hn:ns.length<=63){N:List D}{b0:Bool}(NV:∀j,j < 14->∃y:Str,N[j]? = Z (.str<|nmS b0 j y)/\Nm (.str<|nmS b0 j y)/\(nmS b0 j y).length<=5){w h:Nat}(S:Sz w h):∀(n k M:Nat) (l:List Nd),k+n<=4->Gp M l->M+4*n<=30->Qn b0 (6+2*k) l->∀a3 a4 a5 a6 a7 a8,∃ρ',aa2 (B5 3) lb ((List.range' k n).map λk:Nat=>fK k) [‹scr ns›,‹.list N›,‹C6 w h l›,a3,a4,a5,a6,a7,a8]=Z (.nx ρ')
 | 0,k,M,l,_,_,_,_,a3,a4,a5,a6,a7,a8=>⟨_,by simp[aa2];rfl⟩
 | n+1,k,M,l,hk,g,hM,Q,a3,a4,a5,a6,a7,a8=>by
  obtain⟨l',b4,b5,b6,b7,b8,e,g',Q'⟩:=cS7 ns hn NV S g (by grind) (k:=k) (by grind) Q a4 a5 a6 a7 a8;obtain⟨ρ',r⟩:=br1 ns hn NV S n (k+1) (M+4) l' (by grind) g' (by grind) Q' (‹.int k›) b4 b5 b6 b7 b8;refine⟨ρ',?_⟩;rw[dO,xmc,aa2];have g1:B5 3 (.int k) [‹scr ns›,‹.list N›,‹C6 w h l›,a3,a4,a5,a6,a7,a8]=Z (r9' ns N w h l k a4 a5 a6 a7 a8):=rfl;show(B5 3 (.int k) _).bind _=_;rw[g1,xbs,e];simp only[xbs];exact r
def main:∀ns:List Int,ns.length<=63->bv0 [.list (ns.map fK)]=Z (.bool true):=by
 intro ns hn;obtain⟨N,eN,hN,b,hP⟩:=bL6 ns hn 0 14 (by decide) (by decide);have eN:aj0 [scr ns,.int 0,.int 14]=Z (.list N):=eN;have cu:R8 N O (Z 6)=N.take 6:=(aI3 (i:=6)<|by grind).1;obtain⟨w,h,l,ep,hl,hw,hh⟩:=bh9 ns hn 50 4 (by decide) (by decide) (N.take 6) (by rw[aA];grind);have ep:v9 [scr ns,.int 50,.int 4,.list (N.take 6)]=Z (C6 w h l):=ep;have nv:=cz8 (by decide) hP
 obtain⟨g,nm6⟩:=cU6 hl (b:=b) (λj hj=>by
  obtain⟨y,e1,e2⟩:=nv j (by grind)
  exact⟨y,by rw[dB,if_pos hj];exact e1,e2⟩)
 have S:Sz w h:=⟨by grind,by grind,by grind,by grind⟩
 have Q:Qn b (6+2*0) l:=λd hd=>by
  obtain⟨j,y,h1,h2⟩:=nm6 d hd;exact⟨j,y,.inl h1,h2⟩
 refine B2 (g:=bX2) (ρ:=[‹scr ns›,O,O,O,O,O,O,O,O]) rfl ?_;unfold bX2;refine(A6 (by exists evD,eN;rfl)).trans ?_;refine(A6 (by exists evD,E3,cu,ep;rfl)).trans ?_
 obtain⟨m,em,hm⟩:∃m:Nat,(aI0 ⇑1<|aH9 ⇑4 (Q5<|A8 0)) [‹scr ns›,‹.list N›,‹C6 w h l›,O,O,O,O,O,O]=Z (.int m)/\m<=4:=by
  have e0:(Q5<|A8 0) [‹scr ns›,‹.list N›,‹C6 w h l›,O,O,O,O,O,O]=Z (.int ((ns.map fK).length:Nat)):=rfl;rw[aj]at e0;refine⟨max 1<|min 4 ns.length,?_,by grind⟩;unfold aI0 aH9;rw[e0];show Z (fK (if(if(ns.length:Int) < 4 then(ns.length:Int) else 4) > 1 then(if(ns.length:Int) < 4 then(ns.length:Int) else 4) else 1))=_
  congr 2
  split<;>split<;>grind
 obtain⟨ρ',lp⟩:=br1 ns hn (b0:=b) nv S m 0 6 l (by grind) g (by grind) Q O O O O O O
 have s2:(X8 (L8<|aI0 ⇑1 (aH9 ⇑4<|Q5 (A8 0))) (B5 3) lb) [‹scr ns›,‹.list N›,‹C6 w h l›,O,O,O,O,O,O]=Z (.nx ρ'):=by
  unfold X8;rw[u7 em (by grind),xbs,List.range_eq_range'];exact lp
 show(A7 (X8 (L8<|aI0 ⇑1 (aH9 ⇑4<|Q5 (A8 0))) (B5 3) lb)<|B0 (dC<|.bool true)) _=_;rw[A6 (ρ':=ρ') s2];rfl
end Lk82
namespace Lk82
open PySem PySem.Spec PyProof.Rows L2 G Sh
def S6{K:ad}(x:Str)(t:Tok):bf1 K (.str x) (.str x t):=⟨.str x,⟨t,rfl⟩,λ_=>rfl⟩
def zcs:List (Str×D):=[("MANNERS", (.tuple [(.str "over"),(.str "multiply"),(.str "screen"),(.str "plus"),(.str "atop"),(.str "cut")])),("RULES", (.tuple [(.str "turn"),(.str "grey"),(.str "round")])),("CLEAR", (.tuple [(.tuple [(.int 0),(.int 1)]),(.tuple [(.int 0),(.int 1)]),(.tuple [(.int 0),(.int 1)]),(.tuple [(.int 0),(.int 1)])])),("GREATEST", (.int 8)),("LETTERS", (.str "abcdefghijklmnopqrstuvwxyz")),("DEEPEST", (.int 3)),("FARTHEST", (.int 9))]
def zbl:List Str:=["abs", "all", "any", "bool", "dict", "enumerate", "int", "isinstance", "len", "max", "min", "range", "set", "str", "tuple"]
def tb0:Tab:=[]
def bB5:Fd:={ fdm "is_spot" (top 35) 1 ["thing"] true with hc:=[((79,15),[0])] }
def bB7:Fd:={ fdm "is_name" (top 49) 1 ["thing"] with tx:=[0] }
def bd7:Fd:={ fdm "are_nodes" (top 56) 2 ["thing", "deepest"] with hc:=[((139,44),[1])] }
def aL0:Fd:={ fdm "names_among" (top 57) 1 ["nodes", "names", "node"] with own:=[1],fz:=[(146,[1])] }
def aj6:Fd:={ fdm "nodes_with_others" (top 64) 3 ["nodes", "name", "others"] with hc:=[((176,17),[1,2])] }
def W0:Fd:={ fdm "some_carried_name_is_touched" (top 95) 2 ["one", "other", "touched"] with hc:=[((305,15),[2])] }
def bU4:Fd:={ fdm "_law_spot" (top 109) 2 ["_law_script", "_law_at", "_law_cover"] true with hc:=[((360,33),[2,0,1])] }
def bA8:Fd:={ fdm "_law_sheet" (top 110) 4 ["_law_script", "_law_at", "_law_wide", "_law_high", "_law_spots"] with hc:=[((362,17),[0,1])] }
def bB1:Fd:={ fdm "_law_names" (top 111) 3 ["_law_script", "_law_at", "_law_many", "_law_is_first", "_law_found", "_law_k", "_law_word"] with own:=[4],tx:=[6],fz:=[(373,[4])],hc:=[((370,28),[0,1,5])] }
def bU6:Fd:={ fdm "_law_leaf" (top 112) 4 ["_law_script", "_law_at", "_law_name", "_law_main", "_law_strength", "_law_is_shown", "_law_manner", "_law_wide", "_law_high", "_law_mask", "_law_left", "_law_top", "_law_sheet_here"] with hc:=[((386,26),[0,1])] }
def bB0:Fd:={ fdm "_law_nodes" (top 113) 4 ["_law_script", "_law_at", "_law_most", "_law_names_here", "_law_main", "_law_many", "_law_found", "_law_k", "_law_first", "_law_last", "_law_strength", "_law_manner", "_law_group"] with own:=[6],hc:=[((396,17),[0,4,3,1])] }
def ck7:Fd:={ fdm "_law_all" (top 115) 1 ["_law_nodes_here", "_law_found", "_law_node"] with own:=[1],fz:=[(415,[1])] }
def bU3:Fd:={ fdm "_law_with" (top 116) 3 ["_law_nodes_here", "_law_name", "_law_others", "_law_found", "_law_node"] with own:=[3] }
def bU7:Fd:={ fdm "_law_done" (top 120) 2 ["_law_picture_here", "_law_deed_here", "_law_wide", "_law_high", "_law_nodes_here", "_law_known", "_law_other", "_law_found", "_law_parent"] with dx:=[5],hc:=[((465,38),[5])] }
def bU9:Fd:={ fdm "_law_deed" (top 122) 4 ["_law_script", "_law_at", "_law_picture_here", "_law_name", "_law_nodes_here", "_law_known", "_law_node", "_law_way", "_law_parents", "_law_parent", "_law_some", "_law_manners", "_law_wide", "_law_high", "_law_spots", "_law_x", "_law_y"] with hc:=[((495,33),[6])] }
def cq6:Fd:=fdm "law" (top 123) 1 ["_law_script", "_law_names_here", "_law_picture_here", "_law_k", "_law_one", "_law_amid", "_law_other", "_law_behind", "_law_both"]
structure Qs (K:ad):Prop where
 aa:KF K "is_whole" (top 5)
 ab:KF K "common_divisor" (top 6)
 ac:KF K "is_share" (top 7)
 ad:KF K "is_at_most" (top 8)
 ae:KF K "kind_of" (top 10)
 af:KF K "is_layer" (top 11)
 ag:KF K "is_group" (top 12)
 ah:KF K "is_tone" (top 13)
 ai:KF K "name_of" (top 14)
 aj:KF K "manner_of" (top 15)
 ak:KF K "rule_of" (top 16)
 al:KF K "strength_of" (top 17)
 am:KF K "is_shown" (top 18)
 an:KF K "left_of" (top 19)
 ao:KF K "top_of" (top 20)
 ap:KF K "mask_of" (top 21)
 aq:KF K "sheet_of" (top 22)
 ar:KF K "inner_nodes" (top 23)
 au:KF K "place_of" (top 24)
 av:KF K "with_manner" (top 25)
 aw:KF K "with_strength" (top 26)
 ax:KF K "with_shown" (top 27)
 ay:KF K "with_place" (top 28)
 az:KF K "with_sheet" (top 29)
 a0:KF K "with_inner_nodes" (top 30)
 a1:KF K "is_spot" (top 35)
 a2:KF K "is_size" (top 38)
 a3:KF K "is_sized" (top 39)
 a4:KF K "is_sheet" (top 40)
 a5:KF K "has_place" (top 41)
 a6:KF K "number_of_place" (top 42)
 a7:KF K "spot_at" (top 43)
 a8:KF K "with_spot" (top 44)
 a9:KF K "is_name" (top 49)
 ba:KF K "is_truth" (top 50)
 bb:KF K "is_offset" (top 51)
 bc:KF K "is_mask" (top 52)
 bd:KF K "is_layer_of_parts" (top 53)
 be:KF K "is_group_of_nodes" (top 54)
 bf:KF K "has_node_form" (top 55)
 bg:KF K "are_nodes" (top 56)
 bh:KF K "names_among" (top 57)
 bi:KF K "are_names_unlike" (top 58)
 bj:KF K "is_picture" (top 59)
 bk:KF K "names_in" (top 60)
 bl:KF K "number_among" (top 61)
 bm:KF K "tuple_with" (top 62)
 bn:KF K "nodes_beside" (top 63)
 bo:KF K "nodes_with_others" (top 64)
 bp:KF K "node_with_others" (top 65)
 bq:KF K "with_nodes_beside" (top 66)
 br:KF K "node_named" (top 67)
 bs:KF K "with_node" (top 68)
 bt:KF K "word_of" (top 70)
 bu:KF K "target_of" (top 71)
 bv:KF K "number_of" (top 72)
 bw:KF K "node_of" (top 73)
 bx:KF K "x_of" (top 74)
 bz:KF K "y_of" (top 75)
 b0:KF K "old_of" (top 76)
 b1:KF K "new_of" (top 77)
 b2:KF K "is_put" (top 78)
 b3:KF K "is_out" (top 79)
 b4:KF K "is_put_or_out" (top 80)
 b5:KF K "with_number" (top 81)
 b6:KF K "node_to_change" (top 82)
 b7:KF K "has_value" (top 83)
 b8:KF K "value_in" (top 84)
 b9:KF K "with_new_value" (top 85)
 ca:KF K "with_value_changed" (top 86)
 cb:KF K "nodes_of_parent" (top 87)
 cc:KF K "with_nodes_of_parent" (top 88)
 cd:KF K "with_node_put" (top 89)
 ce:KF K "with_node_out" (top 90)
 cf:KF K "done" (top 91)
 cg:KF K "contrary" (top 92)
 ch:KF K "names_carried" (top 93)
 ci:KF K "names_touched" (top 94)
 cj:KF K "some_carried_name_is_touched" (top 95)
 ck:KF K "numbers_hold" (top 96)
 cl:KF K "have_one_parent" (top 97)
 cm:KF K "holds" (top 98)
 cn:KF K "exchanged_of_one_parent" (top 99)
 co:KF K "exchanged" (top 100)
 cp:KF K "_law_cell" (top 102)
 cq:KF K "_law_drawn" (top 103)
 cr:KF K "_law_made" (top 104)
 cs:KF K "_law_times" (top 106)
 ct:KF K "_law_share" (top 108)
 cu:KF K "_law_spot" (top 109)
 cv:KF K "_law_sheet" (top 110)
 cw:KF K "_law_names" (top 111)
 cx:KF K "_law_leaf" (top 112)
 cy:KF K "_law_nodes" (top 113)
 cz:KF K "_law_picture" (top 114)
 c0:KF K "_law_all" (top 115)
 c1:KF K "_law_with" (top 116)
 c2:KF K "_law_deep" (top 117)
 c3:KF K "_law_listed" (top 118)
 c4:KF K "_law_changed" (top 119)
 c5:KF K "_law_done" (top 120)
 c6:KF K "_law_put" (top 121)
 c7:KF K "_law_deed" (top 122)
 c8:KF K "law" (top 123)
def cY0{P:fh}{w:World}{K:ad}{mg:Str->Option fR}(M:Md K mg zcs zbl)(q:Qs K):∃tab,rd tab zcs zbl cq6=bv0/\∀base:Heap,TOk P w K mg base 177 tab:=by
 refine⟨?tab,?e,λbase=>?t⟩
 case t =>
  have t:TOk P w K mg base 0 tb0:=TOk.nil;have t:=t.add M (fdm "is_whole" (top 5) 1 ["thing"] true) q.aa O6;have t:=t.add M (fdm "common_divisor" (top 6) 2 ["one", "other", "left_over"] true) q.ab O1;have t:=t.add M (fdm "is_share" (top 7) 1 ["thing", "top", "under"] true) q.ac X0;have t:=t.add M (fdm "is_at_most" (top 8) 2 ["one", "other"] true) q.ad ad7;have t:=t.add M (fdm "kind_of" (top 10) 1 ["node"]) q.ae aj1;have t:=t.add M (fdm "is_layer" (top 11) 1 ["node"]) q.af R4;have t:=t.add M (fdm "is_group" (top 12) 1 ["node"]) q.ag N1;have t:=t.add M (fdm "is_tone" (top 13) 1 ["node"]) q.ah aa7;have t:=t.add M (fdm "name_of" (top 14) 1 ["node"]) q.ai W9;have t:=t.add M (fdm "manner_of" (top 15) 1 ["node"]) q.aj O2;have t:=t.add M (fdm "rule_of" (top 16) 1 ["tone"]) q.ak ai7;have t:=t.add M (fdm "strength_of" (top 17) 1 ["node"]) q.al X1;have t:=t.add M (fdm "is_shown" (top 18) 1 ["node"]) q.am ad6;have t:=t.add M (fdm "left_of" (top 19) 1 ["layer"]) q.an ai8;have t:=t.add M (fdm "top_of" (top 20) 1 ["layer"]) q.ao at3;have t:=t.add M (fdm "mask_of" (top 21) 1 ["layer"]) q.ap aw4;have t:=t.add M (fdm "sheet_of" (top 22) 1 ["layer"]) q.aq R3;have t:=t.add M (fdm "inner_nodes" (top 23) 1 ["group"]) q.ar E7;have t:=t.add M (fdm "place_of" (top 24) 1 ["layer"]) q.au aK3;have t:=t.add M (fdm "with_manner" (top 25) 2 ["node", "manner"]) q.av ak9;have t:=t.add M (fdm "with_strength" (top 26) 2 ["node", "strength"]) q.aw ad8;have t:=t.add M (fdm "with_shown" (top 27) 2 ["node", "shown"]) q.ax at0;have t:=t.add M (fdm "with_place" (top 28) 2 ["layer", "place"]) q.ay at2;have t:=t.add M (fdm "with_sheet" (top 29) 2 ["layer", "sheet"]) q.az ad3;have t:=t.add M (fdm "with_inner_nodes" (top 30) 2 ["group", "nodes"]) q.a0 O5;have t:=t.add M bB5 q.a1 aj2;have t:=t.add M (fdm "is_size" (top 38) 1 ["thing"]) q.a2 aa8;have t:=t.add M (fdm "is_sized" (top 39) 1 ["thing"]) q.a3 o0;have t:=t.add M (fdm "is_sheet" (top 40) 1 ["thing", "spots"]) q.a4 an9;have t:=t.add M (fdm "has_place" (top 41) 3 ["sheet", "x", "y"]) q.a5 Y6;have t:=t.add M (fdm "number_of_place" (top 42) 3 ["sheet", "x", "y"]) q.a6 Q0;have t:=t.add M (fdm "spot_at" (top 43) 3 ["sheet", "x", "y"]) q.a7 aw3;have t:=t.add M (fdm "with_spot" (top 44) 4 ["sheet", "x", "y", "spot", "number"]) q.a8 ah5;have t:=t.add M bB7 q.a9 aw7;have t:=t.add M (fdm "is_truth" (top 50) 1 ["thing"]) q.ba an8;have t:=t.add M (fdm "is_offset" (top 51) 1 ["thing"]) q.bb w4;have t:=t.add M (fdm "is_mask" (top 52) 2 ["thing", "sheet"]) q.bc aw8;have t:=t.add M (fdm "is_layer_of_parts" (top 53) 1 ["thing"]) q.bd N5;have t:=TOk.rec3 t M (fdm "is_group_of_nodes" (top 54) 2 ["thing", "deepest"]) (fdm "has_node_form" (top 55) 2 ["thing", "deepest"]) bd7 q.be q.bf q.bg aj9 P2 R6 12;have t:=TOk.rec t M aL0 q.bh E6 12;have t:=t.add M (fdm "are_names_unlike" (top 58) 1 ["nodes", "names"]) q.bi O8;have t:=t.add M (fdm "is_picture" (top 59) 1 ["thing"]) q.bj O7;have t:=t.add M (fdm "names_in" (top 60) 1 ["picture"]) q.bk ad4;have t:=t.add M (fdm "number_among" (top 61) 2 ["nodes", "name", "number", "node"]) q.bl F6;have t:=TOk.rec t M (fdm "tuple_with" (top 62) 2 ["nodes", "name", "node", "told"]) q.bm F8 12;have t:=t.add M (fdm "nodes_beside" (top 63) 2 ["picture", "name", "nodes"]) q.bn U7;have t:=TOk.rec2 t M aj6 (fdm "node_with_others" (top 65) 3 ["node", "name", "others"]) q.bo q.bp G6 J5 12;have t:=t.add M (fdm "with_nodes_beside" (top 66) 3 ["picture", "name", "others"]) q.bq S4;have t:=t.add M (fdm "node_named" (top 67) 2 ["picture", "name", "nodes"]) q.br i9;have t:=t.add M (fdm "with_node" (top 68) 3 ["picture", "name", "node", "nodes", "number"]) q.bs v8;have t:=t.add M (fdm "word_of" (top 70) 1 ["deed"]) q.bt M4;have t:=t.add M (fdm "target_of" (top 71) 1 ["deed"]) q.bu J7;have t:=t.add M (fdm "number_of" (top 72) 1 ["deed"]) q.bv L4;have t:=t.add M (fdm "node_of" (top 73) 1 ["deed"]) q.bw L6;have t:=t.add M (fdm "x_of" (top 74) 1 ["deed"]) q.bx aK2;have t:=t.add M (fdm "y_of" (top 75) 1 ["deed"]) q.bz aK1;have t:=t.add M (fdm "old_of" (top 76) 1 ["deed"]) q.b0 at4;have t:=t.add M (fdm "new_of" (top 77) 1 ["deed"]) q.b1 at5;have t:=t.add M (fdm "is_put" (top 78) 1 ["deed"]) q.b2 U8;have t:=t.add M (fdm "is_out" (top 79) 1 ["deed"]) q.b3 o9;have t:=t.add M (fdm "is_put_or_out" (top 80) 1 ["deed"]) q.b4 M5;have t:=t.add M (fdm "with_number" (top 81) 2 ["deed", "number"]) q.b5 T1;have t:=t.add M (fdm "node_to_change" (top 82) 2 ["picture", "name"]) q.b6 S1;have t:=t.add M (fdm "has_value" (top 83) 2 ["node", "deed", "word"]) q.b7 w6;have t:=t.add M (fdm "value_in" (top 84) 2 ["node", "deed", "word"]) q.b8 W8;have t:=t.add M (fdm "with_new_value" (top 85) 2 ["node", "deed", "word", "new"]) q.b9 L5;have t:=t.add M (fdm "with_value_changed" (top 86) 2 ["picture", "deed", "name", "node"]) q.ca R1;have t:=t.add M (fdm "nodes_of_parent" (top 87) 2 ["picture", "parent", "node"]) q.cb Q3;have t:=t.add M (fdm "with_nodes_of_parent" (top 88) 3 ["picture", "parent", "nodes"]) q.cc L0;have t:=t.add M (fdm "with_node_put" (top 89) 2 ["picture", "deed", "parent", "number", "nodes", "told"]) q.cd Z2;have t:=t.add M (fdm "with_node_out" (top 90) 2 ["picture", "deed", "parent", "number", "nodes"]) q.ce Z3;have t:=t.add M (fdm "done" (top 91) 2 ["picture", "deed"]) q.cf P6;have t:=t.add M (fdm "contrary" (top 92) 1 ["deed"]) q.cg N3;have t:=t.add M (fdm "names_carried" (top 93) 1 ["deed"]) q.ch P1;have t:=t.add M (fdm "names_touched" (top 94) 1 ["deed"]) q.ci Z4;have t:=t.add M W0 q.cj C3;have t:=t.add M (fdm "numbers_hold" (top 96) 2 ["one", "other", "apart"]) q.ck n8;have t:=t.add M (fdm "have_one_parent" (top 97) 2 ["one", "other"]) q.cl K3;have t:=t.add M (fdm "holds" (top 98) 2 ["one", "other"]) q.cm aC7;have t:=t.add M (fdm "exchanged_of_one_parent" (top 99) 2 ["one", "other", "number", "other_number"]) q.cn M3;have t:=t.add M (fdm "exchanged" (top 100) 2 ["one", "other"]) q.co R5;have t:=t.add M (fdm "_law_cell" (top 102) 2 ["_law_script", "_law_k"] true) q.cp aK4;have t:=t.add M (fdm "_law_drawn" (top 103) 3 ["_law_script", "_law_k", "_law_many", "_law_cell_here"] true) q.cq A9;have t:=t.add M (fdm "_law_made" (top 104) 2 ["_law_top", "_law_under", "_law_one", "_law_by"] true) q.cr aa6;have t:=t.add M (fdm "_law_times" (top 106) 2 ["_law_one", "_law_other"] true) q.cs aw5;have t:=t.add M (fdm "_law_share" (top 108) 2 ["_law_script", "_law_at", "_law_under", "_law_drawn_here"] true) q.ct L7;have t:=t.add M bU4 q.cu Y3;have t:=t.add M bA8 q.cv ai9;have t:=t.add M bB1 q.cw aj0;have t:=t.add M bU6 q.cx Y4;have t:=t.add M bB0 q.cy aw6;have t:=t.add M (fdm "_law_picture" (top 114) 4 ["_law_script", "_law_at", "_law_most", "_law_names_here", "_law_wide", "_law_high"]) q.cz v9;have t:=TOk.rec t M ck7 q.c0 K2 12;have t:=TOk.rec t M bU3 q.c1 O0 12;have t:=TOk.rec t M (fdm "_law_deep" (top 117) 1 ["_law_nodes_here"]) q.c2 T2 12;have t:=t.add M (fdm "_law_listed" (top 118) 2 ["_law_nodes_here", "_law_deed_here", "_law_word", "_law_parent", "_law_number", "_law_node"]) q.c3 T8;have t:=t.add M (fdm "_law_changed" (top 119) 2 ["_law_node", "_law_deed_here", "_law_at", "_law_word", "_law_name", "_law_x", "_law_y", "_law_old", "_law_new", "_law_wide", "_law_high", "_law_spots"]) q.c4 U1;have t:=t.add M bU7 q.c5 Y5;have t:=t.add M (fdm "_law_put" (top 121) 4 ["_law_script", "_law_at", "_law_nodes_here", "_law_name", "_law_parents", "_law_parent", "_law_some", "_law_leaf_here"]) q.c6 aC6;have t:=t.add M bU9 q.c7 n9;exact t
 case e=>kernel_rfl
def zmd{K:ad}{h:Heap}{mg:Str->Option fR}{q0 q1 q2t0 q2t1 q2t2 q2t3 q2:fT}{y0 y1 y2t0 y2t1 y2t2 y2t3 y2:Array (Option fR)}{g0t0 g0t1 g0t2 g0t3 g0t4 g0t5 g1t0 g1t1 g1t2 g2t0t0 g2t0t1 g2t1t0 g2t1t1 g2t2t0 g2t2t1 g2t3t0 g2t3t1 g3 g4 g5 g6:Tok}{n0 n1 n2t0 n2t1 n2t2 n2t3 n2:Nat}(X:K.In h)(G:h.Ns fg mg)(p0:aP K fg "MANNERS" = Z (Z<|.ref q0))(r0:K.lookup q0=Z ⟨.type "tuple", O,.seq #[.str "over" g0t0,.str "multiply" g0t1,.str "screen" g0t2,.str "plus" g0t3,.str "atop" g0t4,.str "cut" g0t5] n0,y0⟩)(p1:aP K fg "RULES" = Z (Z<|.ref q1))(r1:K.lookup q1=Z ⟨.type "tuple", O,.seq #[.str "turn" g1t0,.str "grey" g1t1,.str "round" g1t2] n1,y1⟩)(p2:aP K fg "CLEAR" = Z (Z<|.ref q2))(r2:K.lookup q2=Z ⟨.type "tuple", O,.seq #[.ref q2t0,.ref q2t1,.ref q2t2,.ref q2t3] n2,y2⟩)(r2t3:K.lookup q2t3=Z ⟨.type "tuple", O,.seq #[.int 0 g2t3t0,.int 1 g2t3t1] n2t3,y2t3⟩)(r2t2:K.lookup q2t2=Z ⟨.type "tuple", O,.seq #[.int 0 g2t2t0,.int 1 g2t2t1] n2t2,y2t2⟩)(r2t1:K.lookup q2t1=Z ⟨.type "tuple", O,.seq #[.int 0 g2t1t0,.int 1 g2t1t1] n2t1,y2t1⟩)(r2t0:K.lookup q2t0=Z ⟨.type "tuple", O,.seq #[.int 0 g2t0t0,.int 1 g2t0t1] n2t0,y2t0⟩)(p3:aP K fg "GREATEST" = Z (Z<|.int 8 g3))(p4:aP K fg "LETTERS" = Z (Z<|.str "abcdefghijklmnopqrstuvwxyz" g4))(p5:aP K fg "DEEPEST" = Z (Z<|.int 3 g5))(p6:aP K fg "FARTHEST" = Z (Z<|.int 9 g6))(z0:aP K fg "abs" = Z O)(z1:aP K fg "all" = Z O)(z2:aP K fg "any" = Z O)(z3:aP K fg "bool" = Z O)(z4:aP K fg "dict" = Z O)(z5:aP K fg "enumerate" = Z O)(z6:aP K fg "int" = Z O)(z7:aP K fg "isinstance" = Z O)(z8:aP K fg "len" = Z O)(z9:aP K fg "max" = Z O)(z10:aP K fg "min" = Z O)(z11:aP K fg "range" = Z O)(z12:aP K fg "set" = Z O)(z13:aP K fg "str" = Z O)(z14:aP K fg "tuple" = Z O):Md K mg zcs zbl:=by
 refine⟨λx v e=>cw X G e,λx d e=>?_,λx e=>?_⟩
 .unfold zcs at e;rw[aU]at e;split at e
  .rename_i q;cases e;simp only[beq_iff_eq]at q;subst q;exact⟨_,(m9 r0 rfl rfl rfl (by show 6<=1000;decide)<|D0 (S6 "over" g0t0) (D0 (S6 "multiply" g0t1)<|D0 (S6 "screen" g0t2) (D0 (S6 "plus" g0t3)<|D0 (S6 "atop" g0t4) (D0 (S6 "cut" g0t5) V9)))),cw X G p0⟩
  rw[aU]at e;split at e
  .rename_i q;cases e;simp only[beq_iff_eq]at q;subst q;exact⟨_,(m9 r1 rfl rfl rfl (by show 3<=1000;decide)<|D0 (S6 "turn" g1t0) (D0 (S6 "grey" g1t1)<|D0 (S6 "round" g1t2) V9)),cw X G p1⟩
  rw[aU]at e;split at e
  .rename_i q;cases e;simp only[beq_iff_eq]at q;subst q;exact⟨_,(m9 r2 rfl rfl rfl (by show 4<=1000;decide)<|D0 (m9 r2t0 rfl rfl rfl (by show 2<=1000;decide)<|D0 (Q9 0 g2t0t0) (D0 (Q9 1 g2t0t1) V9)) (D0 (m9 r2t1 rfl rfl rfl (by show 2<=1000;decide)<|D0 (Q9 0 g2t1t0) (D0 (Q9 1 g2t1t1) V9))<|D0 (m9 r2t2 rfl rfl rfl (by show 2<=1000;decide)<|D0 (Q9 0 g2t2t0) (D0 (Q9 1 g2t2t1) V9)) (D0 (m9 r2t3 rfl rfl rfl (by show 2<=1000;decide)<|D0 (Q9 0 g2t3t0) (D0 (Q9 1 g2t3t1) V9)) V9))),cw X G p2⟩
  rw[aU]at e;split at e
  .rename_i q;cases e;simp only[beq_iff_eq]at q;subst q;exact⟨_,(Q9 8 g3),cw X G p3⟩
  rw[aU]at e;split at e
  .rename_i q;cases e;simp only[beq_iff_eq]at q;subst q;exact⟨_,(S6 "abcdefghijklmnopqrstuvwxyz" g4),cw X G p4⟩
  rw[aU]at e;split at e
  .rename_i q;cases e;simp only[beq_iff_eq]at q;subst q;exact⟨_,(Q9 3 g5),cw X G p5⟩
  rw[aU]at e;split at e
  .rename_i q;cases e;simp only[beq_iff_eq]at q;subst q;exact⟨_,(Q9 9 g6),cw X G p6⟩
  cases e
 .unfold zbl at e;simp only[List.contains_cons,List.contains_nil,Bool.or_false,Bool.or_eq_true,beq_iff_eq]at e;rcases e with e|e|e|e|e|e|e|e|e|e|e|e|e|e|e
  .subst e;exact aX X G z0
  .subst e;exact aX X G z1
  .subst e;exact aX X G z2
  .subst e;exact aX X G z3
  .subst e;exact aX X G z4
  .subst e;exact aX X G z5
  .subst e;exact aX X G z6
  .subst e;exact aX X G z7
  .subst e;exact aX X G z8
  .subst e;exact aX X G z9
  .subst e;exact aX X G z10
  .subst e;exact aX X G z11
  .subst e;exact aX X G z12
  .subst e;exact aX X G z13
  .subst e;exact aX X G z14
def cM0{l:PySem.W.OpenLaw}{q:fh}{loose:List Str}{XP:(Str->Option fR)->Heap->Prop}{YP:World->Heap->Prop}{d:DefRec}{K:Params->ad}(hn:l.most=Z 63)(hdf:d.params.defaults=[])
  (hY:∀(w:World) (h:Heap),YP w h->(K w.params).In h) (hd:d.name = "law")
  (F:∀(w:World) (mg:Str->Option fR) (h:Heap),(K w.params).In h->h.Ns fg mg->Md (K w.params) mg zcs zbl)
  (Q:∀w:World,Qs<|K w.params)
  (M:∀ns:List Int,ns.length<=63->bv0 [.list (ns.map fK)]=Z (.bool true)) :
  PySem.W.WalkO q loose XP YP l.row.toRowW d [] (λf vs=>PySem.call f vs) :=
 L2.bY1 (n:=63) (k:=178) (x := "_law_script") (CX:=λ_=>CX0) (sp:=λw=>spF (K w.params) 1 bv0) hn (by decide) hdf ⟨rfl,by decide,by decide⟩ hY
  (λw mg fa h hk hg hm=>by
   have N:=F w mg h hk hg;have q:=Q w;rw[hd]at hm;obtain⟨_,e,t⟩:=cY0 N q;obtain⟨fd,b1,b2⟩:=ce7 N t cq6 q.c8 e hm
   exact⟨fd,b1,λbase _ _=>b2 base⟩)
  (λw H a ns hl _ hS=>⟨rfl,H,[.list (ns.map fK)],.bool true,E8.refl _,⟨.ref a,[],rfl,⟨a,_,rfl,hS,Reps.ints ns⟩,rfl⟩,M ns hl,λv H' Hf' g r=>r⟩) λ_ _ _ _ _ z=>z
end Lk82
namespace PySem.W.Fast
def tw17587255696275508055:=()
def tw3711855175275426008:=()
def tw2060686091740353340:=()
def tw1887587298674401171:=()
def tw5544345100774683421:=()
def tw7184936399913774093:=()
def tw713579929262591777:=()
def tw5496399023951382198:=()
def tw5501295826879888621:=()
def tw5202481178274780367:=()
def tw1896273095592361877:=()
def tw7704643641685860830:=()
def tw6575753218293980509:=()
def tw16874685260170919260:=()
def tw7870006360689114784:=()
def tw4484051200901070282:=()
def tw17825555691349764112:=()
def tw17792766603150698016:=()
def tw14371973698130401795:=()
def tw14097283152715511235:=()
def tw11558957899549135988:=()
def tw11068704246093080396:=()
def tw10068549044855579929:=()
def tw9843294427663415139:=()
def tw1769854127721645324:=()
def tw128884835153733373:=()
def tw4313057706512633708:=()
def tw12716745893034294773:=()
def tw425760522461277340:=()
def tw8984055795656072220:=()
def tw11092442802948653025:=()
def tw1652066405757671773:=()
def tw13568735171311811311:=()
def tw2950280735482069782:=()
def tw8726025740080873746:=()
def tw6244858748472339601:=()
def tw2371136069100425401:=()
def tw1114042731233625999:=()
def tw13686407725812181424:=()
def tw18440083889413271047:=()
def tw11498378189314655334:=()
def tw9960341354629369757:=()
def tw3822414366605777337:=()
def tw12813207749996145974:=()
def tw17533983610563999213:=()
def tw1632153370256502741:=()
def tw18128566176626159160:=()
def tw11710597057301618745:=()
def tw3861719258285895293:=()
def tw11529402330959871103:=()
def tw15896804435370295271:=()
def tw13869760668171926090:=()
def tw7910021682253934391:=()
def tw3652741752607437827:=()
def tw2873620647258682421:=()
def tw12598390566931559470:=()
def tw4519798131884588026:=()
def tw12385677664538654472:=()
def tw2260867365159686932:=()
def tw15334533503316756966:=()
def tw8678123338175308802:=()
def tw4299229404674562625:=()
def tw1006792380880100276:=()
def tw14978807066475249076:=()
def tw5270575627763578299:=()
def tw3522931138579313297:=()
def tw17684963125129116495:=()
def tw10918090890731005722:=()
def tw8235096764404469992:=()
def tw6994144620626400362:=()
def tw5542120333796409097:=()
def tw2284366332199638961:=()
def tw1758779497097140544:=()
def tw15040088466679399243:=()
def tw14845777086994101901:=()
def tw11185327722416780811:=()
def tw10471239513817838409:=()
def tw7412904596461729866:=()
def tw6669075794080487486:=()
def tw6525962112061926918:=()
def tw1925975180984139852:=()
def tw3567602200021639399:=()
def tw14794588390564630698:=()
def tw864048922335595817:=()
def tw7325499689332823744:=()
def tw6968599553293834202:=()
def tw5763070709555723590:=()
def tw17485191631626843383:=()
def tw5932898782335537152:=()
def tw4821970056167523498:=()
def tw15789842940523301923:=()
def tw14737584115524204104:=()
def tw10499871241175125710:=()
def tw2692351573889972831:=()
def tw4532774255419096347:=()
def tw208181517795891765:=()
def tw12908213709557704580:=()
def tw12068068217112140577:=()
def tw6486185587324662728:=()
def tw481977727195533284:=()
def tw9950565258152203496:=()
def tw8797597511021564678:=()
def tw49112489262164505:=()
def tw18246283535619065096:=()
def tw14343412720480956065:=()
def tw10906258942963925921:=()
def tw1591003793156563847:=()
def tw14922232915646948141:=()
def tw11036866248623554362:=()
def tw10452965998707492580:=()
def tw18263883928535028852:=()
def tw15803023223475762921:=()
def tw14838533842492828054:=()
def tw9516144220101476453:=()
def tw8150820445714055499:=()
def tw5491406913228598848:=()
def tw7972060885062787431:=()
def tw4068350335487143456:=()
def tw14034099202777903365:=()
def tw10743794794090369567:=()
def tw5511008707345812914:=()
def tw14795110994321013489:=()
def tw12277540149667516735:=()
def tw5248199653910593251:=()
def tw17423358388838917640:=()
def tw1571108487104282822:=()
def tw15513057847186534747:=()
def tw14597958831914718441:=()
def tw10704832806967517491:=()
def tw9463872131421724731:=()
def tw6909318139506436959:=()
def tw468071246836974166:=()
def tw2044149851242655876:=()
def tw18265557334907804488:=()
def tw15370580162427516089:=()
def tw13978486537477810985:=()
def tw13268864742072713006:=()
def tw11769550014241300993:=()
def tw8716293975473356811:=()
def tw5132685364848427522:=()
def tw13561084318888400756:=()
def tw1345931955835124580:=()
def tw13444765169112896064:=()
def tw12277619315412711693:=()
def tw7674972477764104951:=()
def tw5127300092777767128:=()
def tw11261372123523458460:=()
def tw9663011761586827786:=()
def tw6918202240810087857:=()
def tw6570544924237896602:=()
def tw596163066721449796:=()
def tw4224422564910297583:=()
def tw18391330673914172619:=()
def tw13743159676977858627:=()
def tw13249782513845231883:=()
def tw13031156663499015045:=()
def tw1100655859174009865:=()
def tw1092988733389310679:=()
def tw5962796165453096021:=()
def tw16526325402880498626:=()
def tw2655013357514263168:=()
def tw6145183369792275759:=()
def tw3416510454139803052:=()
def tw2211837897037471856:=()
def tw16919384305307893226:=()
def tw10986290661776538741:=()
def tw10678840575852432206:=()
def tw892367119705641224:=()
def tw8120869609725759917:=()
def tw7800203813845909795:=()
def tw7330924894498517996:=()
def tw300809640462700682:=()
def tw1642870063623194043:=()
def tw12739632013436473912:=()
def tw10240665954819285783:=()
def tw17494807215383825889:=()
def tw3602110270993385594:=()
def tw3722292306544379865:=()
def tw597869383766974898:=()
def tw4032523741514346813:=()
def tw17827667808011276963:=()
def tw14957969460583168962:=()
def tw9600828180687521999:=()
def tw9353155300784028737:=()
def tw9345686235873668583:=()
def tw8239597622263572248:=()
def tw7869033747652977720:=()
def tw776301595306311488:=()
def tw6829688730128999293:=()
def tw6780541794979155186:=()
def tw6002499094464230702:=()
def tw5857133406324504466:=()
def tw4507963238478768623:=()
def tw444650200153687528:=()
def tw4057778993194127177:=()
def tw3995375083082002275:=()
def tw3783107992251673191:=()
def tw3132581303504083092:=()
def tw2686497828512569571:=()
def tw2627552837488939858:=()
def tw231813760531361047:=()
def tw17963646760101582938:=()
def tw17052602743028215116:=()
def tw16989751041619500846:=()
def tw16908267004171822533:=()
def tw16537453937757184454:=()
def tw1605367982547582041:=()
def tw15491443806752625600:=()
def tw15453045441974511220:=()
def tw14768967296107731339:=()
def tw14626353075771959862:=()
def tw14451219665546817541:=()
def tw14286280042426268257:=()
def tw13999444250600977022:=()
def tw12715363782750961815:=()
def tw13865800986458127112:=()
def tw5387464547325298426:=()
def tw15722288527306379950:=()
def tw18135198534330939593:=()
def tw3302399703845740623:=()
def tw11592286854035790631:=()
def tw10142618637676083821:=()
def tw8199189022898706180:=()
def tw5048602186436810932:=()
def tw15805953613581060313:=()
def tw7963310505709766063:=()
def tw4182206175127179158:=()
def tw18405724560058661317:=()
def tw13686874912872409048:=()
def tw3828953672103155938:=()
def tw8732637974691014466:=()
def tw8472468444588815755:=()
def tw7436149614465329259:=()
def tw4525012481062319199:=()
def tw221894445729212487:=()
def tw1828711254516353299:=()
def tw17031411939208737203:=()
def tw12707842881417756234:=()
def tw10420727780231533990:=()
def tw9978839463325833855:=()
def tw9956649742936034120:=()
def tw9922443540224927849:=()
def tw9900933495586373637:=()
def tw9864056001562082816:=()
def tw9835493059877445924:=()
def tw9835447981893466113:=()
def tw9768346331621846318:=()
def tw9606796193382495023:=()
def tw9583623616514963144:=()
def tw94010514521521207:=()
def tw9284447467496964120:=()
def tw9247182325699635421:=()
def tw9144359893943903074:=()
def tw9143107759126091916:=()
def tw9043812776290089451:=()
def tw899532712291999899:=()
def tw8962755324122238614:=()
def tw8960009570407266406:=()
def tw8838183202888320096:=()
def tw8790747001425021945:=()
def tw8389273681005852433:=()
def tw8261487715132052318:=()
def tw8216638302759993103:=()
def tw8135031190357700073:=()
def tw7973020282108641339:=()
def tw7962151523536131783:=()
def tw7954460926659814066:=()
def tw7778233332359085476:=()
def tw7678067892096087224:=()
def tw7654601708260125978:=()
def tw7497849536057626002:=()
def tw7303898123607048576:=()
def tw7073699353993360462:=()
def tw6871834396236843257:=()
def tw6867405538155785537:=()
def tw6812692373662332538:=()
def tw6777121531702696174:=()
def tw6769044677450177522:=()
def tw6743639707887127484:=()
def tw6696103286981330149:=()
def tw6665593952444407188:=()
def tw665722044339904682:=()
def tw6655215370982587169:=()
def tw66552058927041116:=()
def tw6548923230846009168:=()
def tw6440466475847052588:=()
def tw6200521075676818333:=()
def tw6054080992122460526:=()
def tw5882472921114576165:=()
def tw577322625774546705:=()
def tw5639952798211741588:=()
def tw5621541073665695507:=()
def tw5575580195028259574:=()
def tw5269509706707190417:=()
def tw5253164063321609325:=()
def tw5088645775331272897:=()
def tw5025778848262520392:=()
def tw4943726812250055750:=()
def tw4940061548913083989:=()
def tw4880152757857109877:=()
def tw4808840233274832198:=()
def tw4704397120592971600:=()
def tw4626774131230681918:=()
def tw4620172430177760911:=()
def tw4483195470061759808:=()
def tw4390293227476887556:=()
def tw4278558007571986377:=()
def tw4248898341213400500:=()
def tw4220862575425024:=()
def tw4138162377911186899:=()
def tw4136077724223632636:=()
def tw4119035817200788526:=()
def tw4010185459528788143:=()
def tw3998885663778711959:=()
def tw3993363896694879482:=()
def tw3923735825300030633:=()
def tw3914280273972269214:=()
def tw3786032079693671946:=()
def tw3630062025368209400:=()
def tw3602997642970677759:=()
def tw3505577854774919564:=()
def tw3450296493375434304:=()
def tw3281361491627383834:=()
def tw3204658408922776160:=()
def tw2774954798564150104:=()
def tw2766680258489655300:=()
def tw2686286737270030749:=()
def tw2664926858112622975:=()
def tw25175848035473073:=()
def tw2451617355752923907:=()
def tw24388902750590826:=()
def tw2437136303011403376:=()
def tw2377088264784930985:=()
def tw234217005284966079:=()
def tw2210438892109228122:=()
def tw2012409617831826628:=()
def tw1913992666638766906:=()
def tw18443868751729017747:=()
def tw18373828376211914136:=()
def tw1834765975739077713:=()
def tw18243498031642906149:=()
def tw1796472106294846565:=()
def tw17657253781498509458:=()
def tw17632339982897739136:=()
def tw1583662383711598457:=()
def tw5278466349821625914:=()
def tw1244355645020703548:=()
def tw16025692505514719972:=()
def tw5963378384022783998:=()
def tw998054859829164283:=()
def tw8366921911610241609:=()
def tw6108149361114668690:=()
def tw18140267612234715193:=()
def tw10976039917435522594:=()
def tw6924149090698379758:=()
def tw10850331320461100573:=()
def tw7366085890116563471:=()
def tw16442690079432509615:=()
def tw8785729581697381012:=()
def tw3145541275265139836:=()
def tw10339489804755639100:=()
def tw13566316429212449094:=()
def tw10633806180825298742:=()
def tw8161861848041613075:=()
def tw16084220375560086159:=()
def tw4428513318782109844:=()
def tw2900615041116117033:=()
def tw1580782094461009593:=()
def tw8230472663623597564:=()
def tw2492073566292597016:=()
def tw17450484304637641176:=()
def tw12788800861689642511:=()
def tw5104247650305414544:=()
def tw11400418938222274597:=()
def tw1458519215258787348:=()
def tw11172577973755249149:=()
def tw10269769843460817783:=()
def tw4561936870452229117:=()
def tw1745914642434154062:=()
def tw8122601573779075159:=()
def tw9858292074668804473:=()
def tw1178365375857489599:=()
def tw16758521404922341883:=()
def tw13169342832670304895:=()
def tw5792310743956756462:=()
def tw934325354372804169:=()
def tw3968146332924566624:=()
def tw10520952020051722485:=()
def tw11889877547609896894:=()
def tw293823727600373796:=()
def tw13016192586208206326:=()
def tw12894000944770612164:=()
def tw13922367790564501958:=()
def tw11542770897409235380:=()
def tw17480188469424700784:=()
def tw1012845860677587327:=()
def tw4108835565175497714:=()
def tw13627039220990600403:=()
def tw11576521858376872587:=()
def tw18386741154689951803:=()
def tw2548462376878289833:=()
def tw8770782843747499493:=()
def tw6769772896356219257:=()
def tw16672076501263975892:=()
def tw10289268156861274385:=()
def tw14676378024831552027:=()
def tw1492729667528504517:=()
def tw3307488618748627367:=()
def tw14145645373554246446:=()
def tw10855749315535445996:=()
def tw6811500030662127694:=()
def tw17440959341273335033:=()
def tw4690909771793762212:=()
def tw10081686997090623510:=()
def tw6323603986818790602:=()
def tw13959037803968131902:=()
def tw8855533006554969048:=()
def tw6072159607750984904:=()
def tw7438776452660625615:=()
def tw2450592679667389830:=()
def tw4610311962755054162:=()
def tw12946031856536191995:=()
def tw17216846910968081129:=()
def tw9801641660797376631:=()
def tw14843866477045089498:=()
def tw15143536096729578462:=()
def tw13040667821845953812:=()
def tw13988058939877897311:=()
def tw1023939301928669106:=()
def tw11900951216262143613:=()
def tw4380534553991147490:=()
def tw11627087011339012322:=()
def tw7913672552122704814:=()
def tw725330485002643650:=()
def tw10013260207053732883:=()
def tw9151897189388041065:=()
def tw14431581239386672327:=()
def tw59921758837072252:=()
def tw10347626972907790991:=()
def tw87370793315900974:=()
def tw4579119092545000913:=()
def tw10573100222811246903:=()
def tw3053394707735732134:=()
def tw13234526012937560957:=()
def tw12195067657962322537:=()
def tw5574773130877349814:=()
def tw10063665623892961459:=()
def tw7142288123779060550:=()
def tw2339484061491331461:=()
def tw241315192697846192:=()
def tw16718680717428967456:=()
def tw5149091964039013904:=()
def tw16751136426292301340:=()
def tw2597064217726327647:=()
def tw17392189132183055160:=()
def tw17705254184228689293:=()
def tw4716235060063407062:=()
def tw11329281738008830683:=()
def tw14811582910819561663:=()
def tw18343289815290254938:=()
def tw1963556343336357306:=()
def tw266146051967066667:=()
def tw11506460425526513338:=()
def tw11155724698109516770:=()
def tw17872444158435279724:=()
def tw15132739810183032295:=()
def tw14362364115023196956:=()
def tw17384472961190887932:=()
def tw14554376242787975912:=()
def tw10725559757450847998:=()
def tw14991012191244261207:=()
def tw13768466342638528109:=()
def tw9471097581531371704:=()
def tw12046920141950922744:=()
def tw9929932093547437481:=()
def tw16498057908141223291:=()
def tw9700430107341555893:=()
def tw8292296132986727626:=()
def tw15049575323647068500:=()
def tw8795548291914049975:=()
def tw900020511413925071:=()
def tw12020691039046431326:=()
def tw6884888296597502721:=()
def tw16252886201442211779:=()
def tw17793144873665034270:=()
def tw13621917764812639641:=()
def tw17335388635579650634:=()
def tw10221431422334725913:=()
def tw891751489282510080:=()
def tw16104164058928479374:=()
def tw2692085584775148832:=()
def tw5549975510952176663:=()
def tw10939000832393581439:=()
def tw13159474722301088886:=()
def tw14663735894739407313:=()
def tw14287423831997634392:=()
def tw13902090197928992917:=()
def tw1636927704804784221:=()
def tw7488066380328182027:=()
def tw15557411177756194473:=()
def tw13567566149074519594:=()
def tw15404099599856116840:=()
def tw16108637747643243171:=()
def tw14134392719574928281:=()
def tw8187181683516211243:=()
def tw923663712955643374:=()
def tw8193532693401754297:=()
def tw12089055997484434374:=()
def tw17491719528291339541:=()
def tw252000669350540573:=()
def tw7228759362264046482:=()
def tw17128255918231502908:=()
def tw892239548823679228:=()
def tw7141369097035876845:=()
def tw9521585328100689910:=()
def tw4842817582175058097:=()
def tw15801615959857480259:=()
def tw3694477158563474064:=()
def tw5198729428983864485:=()
def tw17407083876190179732:=()
def tw10108076490845012958:=()
def tw12074133298243686440:=()
def tw11534604187180960126:=()
def tw4922393329225143966:=()
def tw15136096330264363681:=()
def tw14668456829387110076:=()
def tw2451884014716899916:=()
def tw6465300065776653856:=()
def tw5628679663982012862:=()
def tw4165055122006850192:=()
def tw9439526614052431080:=()
def tw14125799738327566213:=()
def tw8635114482439476042:=()
def tw15112701184506288512:=()
def tw17979043288904830808:=()
def tw4317953540442981861:=()
def tw10574115340087491593:=()
def tw13004089740562465398:=()
def tw8178462183388179363:=()
def tw9458746876734560791:=()
def tw2582997358680794117:=()
def tw2684000568491384083:=()
def tw13777207395063029161:=()
def tw7795852738118772596:=()
def tw2732787835723241082:=()
def tw193257627739437151:=()
def tw9267952577037577292:=()
def tw16510596160242841817:=()
def tw12233769641421960101:=()
def tw3366398172283713607:=()
def tw1108533391180175904:=()
def tw794973992975095462:=()
def tw5243042121790065240:=()
def tw14219257343305626844:=()
def tw5351886796777865840:=()
def tw8648208117329100059:=()
def tw7310834687883802557:=()
def tw16207953789136531744:=()
def tw15665805430281186723:=()
def tw13250793570436813156:=()
def tw7876374279017872675:=()
def tw2065646826228674192:=()
def tw4317149261256163473:=()
def tw16884752054028890173:=()
def tw18393116389063463459:=()
def tw3545919668832955588:=()
def tw1758287567446362164:=()
def tw10976776481229075276:=()
def tw5633272220172650587:=()
def tw1057981624097482457:=()
def tw9074848060735380582:=()
def tw14097185675134490548:=()
def tw18390022288513260731:=()
def tw14296229324692504220:=()
def tw8827280039559847841:=()
def tw16904372924895780034:=()
def tw453353925598667765:=()
def tw11079869918374672005:=()
def tw18186980959825087141:=()
def tw5905138853966617730:=()
def tw11905150905234778882:=()
def tw15124709699420226513:=()
def tw15062981440698050557:=()
def tw17678671296879639405:=()
def tw7010854987225056222:=()
def tw12021933718402397187:=()
def tw16365101565471628585:=()
def tw256190190447676445:=()
def tw7283422550814448920:=()
def tw2971256519613961561:=()
def tw11046172702034513923:=()
def tw6544778592101542325:=()
def tw8824403066232460515:=()
def tw11342406971707854706:=()
def tw15111502019535540510:=()
def tw2660217815745380603:=()
def tw4533344470176038413:=()
def tw600766518593326541:=()
def tw16141720566645747319:=()
def tw6102657627286240322:=()
def tw1629995489897347526:=()
def tw1859182262894353957:=()
def tw1052668614700164262:=()
def tw372209932666012290:=()
end PySem.W.Fast
namespace Lk82
open PySem PySem.W PyProof.Rows
set_option maxHeartbeats 0 in
open_top head for PySem.Challenge.rw_glazework_k82_whole_exchanged
end Lk82
open PySem PySem.W PyProof.Rows
set_option maxRecDepth 100000 in
set_option maxHeartbeats 0 in
theorem PySem.Challenge.cw_glazework_k82_whole_exchanged_holds : PySem.Challenge.rw_glazework_k82_whole_exchanged.Holds := by
 refine Lk82.head ?_
 k_fill
 refine Lk82.cM0 (l:=PySem.Challenge.rw_glazework_k82_whole_exchanged) rfl rfl (λw h Y=>PySem.W.kIn_of Y) rfl ?F ?Q Lk82.main
 case F =>
  intro w mg h KX G
  refine' Lk82.zmd KX G ?p0 ?r0 ?p1 ?r1 ?p2 ?r2 ?r2t3 ?r2t2 ?r2t1 ?r2t0 ?p3 ?p4 ?p5 ?p6 ?z0 ?z1 ?z2 ?z3 ?z4 ?z5 ?z6 ?z7 ?z8 ?z9 ?z10 ?z11 ?z12 ?z13 ?z14
  (case p0=>k_is);(case r0=>k_is);(case p1=>k_is);(case r1=>k_is);(case p2=>k_is);(case r2=>k_is);(case r2t3=>k_is);(case r2t2=>k_is);(case r2t1=>k_is);(case r2t0=>k_is);(case p3=>k_is);(case p4=>k_is);(case p5=>k_is);(case p6=>k_is);(case z0=>k_is);(case z1=>k_is);(case z2=>k_is);(case z3=>k_is);(case z4=>k_is);(case z5=>k_is);(case z6=>k_is);(case z7=>k_is);(case z8=>k_is);(case z9=>k_is);(case z10=>k_is);(case z11=>k_is);(case z12=>k_is);(case z13=>k_is);(case z14=>k_is)
 case Q =>
  intro w;constructor
  all_goals (refine' G.cS8 ?a ?l ?c ?k;(case a=>k_is);(case l=>k_is);(case c=>k_is);(case k=>k_is))
