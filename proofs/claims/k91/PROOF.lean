import PyProof.Rows.All
import Wide.All
import OpenK.AllK
import Wide.FinOn
import Lean
import PyProof.EqAt
import PyProof.EqKinds
import PyProof.TupleCall
import PySem.Challenge.RW_glazework_k91_whole_read
abbrev La:=@List
abbrev Ob:=@Option
local macro_rules
 | `(#[$xs,*])=>`(⟨$xs,*⟩)
local macro_rules
 | `(∅)=>`((by decide +kernel))
open Option renaming none->Z,some->Oa
open Bool renaming and_eq_true->ae,false_ne_true->aX,false_eq_true->be,not_eq_true'->bj,and_false->bq,eq_iff_iff->bv,true_and->bS,and_self->bU,false_and->ce,or_eq_true->cy,and_true->cz,true_bne->cM,or_false->cZ,false_bne->du,and_assoc->dw,false_or->eD
open PySem.W renaming Frag->af,nsIn->aJ,keepIn->aN,mg_none_of->aR,fnOf->bB,excIn->bQ,mg_of->bV,codeIn->cf
open List renaming length_cons->ag,length_map->ai,length_append->aj,getElem?_eq_some_iff->am,mem_cons->ao,size_toArray->aq,append_nil->ar,append_assoc->au,replicate->av,mem_append_right->aw,getElem?_set_ne->ax,all_eq_true->ay,getElem?_append_left->az,mem_singleton->aB,getElem?_set_self->aD,mem_append->aE,lookup_cons->aF,getElem?_map->aH,getElem?_append_right->aK,getElem?_eq_getElem->aL,not_mem_nil->aM,map_append->aO,mem_cons_self->aQ,mem_append_left->aS,length_nil->aU,mem_map->aV,length_take->aW,take_of_length_le->aY,all_cons->aZ,length_drop->bc,range->bf,getElem?_replicate->bh,length_range->bo,map_map->bw,length_set->bC,getElem_mem->bD,suffix_refl->bE,mem_range->bF,getElem?_set->bH,replicate_succ->bI,map_congr_left->bJ,lookup->bK,length_replicate->bN,length_singleton->bW,getD_eq_getElem?_getD->bY,flatten_cons->bZ,drop_eq_getElem_cons->cb,mem_filter->cr,take_sublist->cA,getElem?_eq_none->cF,take_append_drop->cG,mem_of_mem_drop->cJ,any_cons->cN,mem_or_eq_of_mem_set->cP,getElem?_zip_eq_some->cQ,nodup_cons->cR,nil_suffix->cS,tail_cons->cU,count_append->cV,map_cons->cX,length->cY,drop_suffix->db,mem_of_getElem?->de,mem_of_mem_take->dh,foldl_cons->dj,infix_refl->dl,eq_nil_of_length_eq_zero->dm,filterMap_cons->dq,foldl->dt,drop_zero->dv,mem_filterMap->dy,mem_replicate->dD,ext_getElem?->dF,isEmpty_cons->dH,map_drop->dI,map_take->dJ,append_eq_append_iff->dL,drop_length->dN,map_reverse->dP,length_tail->dR,map_set->dU,of_mem_zip->dY,drop_eq_nil_of_le->ez,drop_drop->eB
open Nat renaming le_refl->ak,zero_le->aA,lt_of_lt_of_le->aG,le_trans->aI,ne_of_lt->aP,lt_irrefl->bu,le_succ->bM,lt_or_ge->bP,gcd->bR,mul_le_mul->cg,lt_succ_self->ci,le_max_right->cj,succ_le_succ->ck,le_of_lt->cn,sub_self->cq,le_max_left->cu,pow_le_pow_right->cI,le_add_right->cK,gcd_pos_of_pos_right->cT,ne_of_gt->dn,lt_of_le_of_lt->dz,pos_of_ne_zero->dA,lt_succ_of_lt->dE,mod_lt->dQ,le_of_eq->dS,toDigits->dW,toDigits_of_lt_base->dX,div_le_self->ei,min_eq_left->eA
open Classical renaming byContradiction->aT
open Option renaming some->bg,isSome_iff_exists->dM,bind_some->dO,map_some->dZ
open Int renaming natCast_nonneg->bx,toNat_natCast->bO,natCast_mul->dk,natAbs_natCast->dB
open Array renaming getElem?_eq_some_iff->bX,size_append->cD,mem_toList_iff->cH,length_toList->cL,getElem?_toList->da,getElem?_eq_getElem->dG
open PySem renaming wpAny_bind->eF,wpAny_pure->eG,wpAny_mono->eJ,wpAny_newObj_type->eK,wpAny_truthy_bool->eM,wpAny_field->eP,starEach->eQ,sizeLine->eR,sizeLine_eq->eT,compareOp->eU,mainGlobals->eW,Program->eX,Around->eY,FuncData->eZ,bootBuiltins->fe,binaryOp->ff,Keyword->fh,assignEach->fi,foldedSetIterable->fj,call_meets->fk,attributeBase->fq,wpAny->ft,model->fu
open PySem.Heap renaming get?_push_of_some->fv,lt_size->fw,get?_push_size->fx
open PySem.SeqAt renaming shaped->fy
open PySem.PyData renaming eqv->fA,int->fB,bool->fC,str->fD,canLay0->fE
open PySem.Value renaming ref->fF,none->fG
open PySem.NameKind renaming free->fH
open PySem.Str renaming empty->fI
open PySem renaming Value->fJ
open PySem renaming Shared->fK
open PySem renaming Addr->fL
set_option compiler.extract_closed false
noncomputable section
set_option autoImplicit true
set_option Elab.async false
set_option linter.all false
set_option maxRecDepth 100000
def xbo{y z:Type}{o:Ob y}{f:y->Ob z}{b:z}(h:o.bind f=Oa b):∃a,o=Oa a/\f a=Oa b:=Option.bind_eq_some_iff.mp h
def xmo{y z:Type}{o:Ob y}{f:y->z}{b:z}(h:o.map f=Oa b):∃a,o=Oa a/\f a=b:=Option.map_eq_some_iff.mp h
def xmm{y:Type}{a:y}{l:La y}(b:y)(h:a∈l):a∈b::l:=List.mem_cons_of_mem b h
namespace L2
open PySem PySem.Spec PyProof.Rows
abbrev Key:=Sum Int Str
noncomputable def cf7:Key->fJ->Bool
 | .inl k,v=>Value.isInt k v
 | .inr x,v=>Value.isStrOf x v
noncomputable def cT0(w:World):Key->Int
 | .inl k=>hashInt k
 | .inr x=>hashStr w x
def K3:∀{k:Key}{v:fJ},cf7 k v=true->(∃i t,k=Sum.inl i/\v=Value.int i t)\/(∃x t,k=Sum.inr x/\v=Value.str x t)
 | .inl i,v,h=>by
  obtain⟨t,e⟩:=Value.isInt_shape (k:=i) (v:=v) h;exact .inl #[i,t,rfl,e]
 | .inr x,v,h=>by
  obtain⟨t,e⟩:=Value.isStrOf_shape (x:=x) (v:=v) h;exact .inr #[x,t,rfl,e]
def ct9(a b:Int):decide ((Sum.inl a:Key)=Sum.inl b)=(a==b):=by
 by_cases e:a=b
 .subst e;simp
 .have h:¬(Sum.inl a:Key)=Sum.inl b:=λq=>e (Sum.inl.inj q)
  rw[decide_eq_false h];exact(beq_eq_false_iff_ne.mpr e).symm
def ct6(a b:Str):decide ((Sum.inr a:Key)=Sum.inr b)=decide (a=b):=by
 by_cases e:a=b
 .subst e;simp
 .have h:¬(Sum.inr a:Key)=Sum.inr b:=λq=>e (Sum.inr.inj q)
  rw[decide_eq_false h,decide_eq_false e]
def ct8(a:Int)(b:Str):decide ((Sum.inl a:Key)=Sum.inr b)=false:=decide_eq_false λq=>nomatch q
def ct7(a:Str)(b:Int):decide ((Sum.inr a:Key)=Sum.inl b)=false:=decide_eq_false λq=>nomatch q
def av5(prog:eX)(w:World):PySem.KeyKind prog w Key where
 is:=cf7
 hash:=cT0 w
 inj:=λv a b ha hb=>by
  rcases K3 ha with⟨i,t,rfl,rfl⟩|⟨x,t,rfl,rfl⟩
  .rcases K3 hb with⟨j,u,rfl,e⟩|⟨y,u,rfl,e⟩
   .injection e with e1 _;rw[e1]
   .exact nomatch e
  .rcases K3 hb with⟨j,u,rfl,e⟩|⟨y,u,rfl,e⟩
   .exact nomatch e
   .injection e with e1 _;rw[e1]
 byValue:=λk v h=>by rcases K3 h with⟨i,t,rfl,rfl⟩|⟨x,t,rfl,rfl⟩<;>rfl
 pyHash:=λhv h=>by
  rcases K3 hv with⟨i,t,rfl,rfl⟩|⟨x,t,rfl,rfl⟩
  .exact wpAny_pyHash_int h
  .exact wpAny_pyHash_str h
 eqBool:=λhu hv h=>by
  rcases K3 hu with⟨i,t,rfl,rfl⟩|⟨x,t,rfl,rfl⟩
  .rcases K3 hv with⟨j,u,rfl,rfl⟩|⟨y,u,rfl,rfl⟩
   .rw[ct9]at h;exact wpAny_eqBool_int h
   .rw[ct8]at h;exact SeqAt.EqAt.int_str i t y u _ _ _ _ h
  .rcases K3 hv with⟨j,u,rfl,rfl⟩|⟨y,u,rfl,rfl⟩
   .rw[ct7]at h;exact SeqAt.EqAt.str_int x t j u _ _ _ _ h
   .rw[ct6]at h;exact wpAny_eqBool_str h
 «strs»:=λk x t v h=>by
  rcases K3 h with⟨i,u,rfl,e⟩|⟨y,u,rfl,e⟩
  .exact nomatch e
  .injection e with e1 _
   subst e1;cases v<;>rfl
inductive V where
 | non|bl (b:Bool)|int (i:Int)|str (x:Str)|byt (b:Array UInt8)|flt (b:UInt64)|ref (a:fL)|ty (n:String)
 deriving DecidableEq
def J3:V->fJ->Prop
 | .non,u=>u=fG
 | .bl b,u=>u=Value.bool b
 | .int i,u=>∃t,u=Value.int i t
 | .str x,u=>∃t,u=Value.str x t
 | .byt b,u=>∃t,u=Value.bytes b t
 | .flt b,u=>∃t,u=Value.float b t
 | .ref a,u=>u=fF a
 | .ty n,u=>u=Value.type n
abbrev F4:La V->La fJ->Prop:=Paired J3
theorem F4.length(r:F4 xs us):xs.length=us.length:=Paired.length r
theorem F4.get:∀{xs:La V}{us:La fJ}{i:Nat}{x:V},F4 xs us->xs[i]? = Oa x->∃u,us[i]? = Oa u/\J3 x u
 | _,_,_,_,.nil,e=>by simp at e
 | _,_,0,_,.cons r _,e=>by simp at e;subst e;exact#[_,rfl,r]
 | _,_,i+1,x,.cons _ t,e=>by
  obtain⟨u,h1,h2⟩:=F4.get (i:=i) (x:=x) t (by simpa using e);exact#[u,by simpa using h1,h2]
theorem F4.set(r:J3 x u):∀{xs:La V}{us:La fJ}(i:Nat),F4 xs us->F4 (xs.set i x) (us.set i u)
 | _,_,_,.nil=>.nil
 | _,_,0,.cons _ t=>.cons r t
 | _,_,i+1,.cons q t=>.cons q<|F4.set r i t
theorem F4.append:∀{xs ys:La V}{us ws:La fJ},F4 xs us->F4 ys ws->F4 (xs++ys) (us++ws)
 | _,_,_,_,.nil,s=>s
 | _,_,_,_,.cons r t,s=>.cons r<|F4.append t s
theorem F4.take:∀{xs:La V}{us:La fJ}(n:Nat),F4 xs us->F4 (xs.take n) (us.take n)
 | _,_,0,_=>.nil
 | _,_,_+1,.nil=>.nil
 | _,_,n+1,.cons r t=>.cons r<|F4.take n t
theorem F4.drop:∀{xs:La V}{us:La fJ}(n:Nat),F4 xs us->F4 (xs.drop n) (us.drop n)
 | _,_,0,r=>r
 | _,_,_+1,.nil=>.nil
 | _,_,n+1,.cons _ t=>F4.drop n t
def aD8:Ob V->Ob fJ->Prop
 | some v,Oa u=>J3 v u
 | none,Z=>True
 | _,_=>False
def KV{y:Type}:La (y×V)->La (y×fJ)->Prop:=Paired λ(p:y×V) (q:y×fJ)=>p.1=q.1/\J3 p.2 q.2
noncomputable def kV:Key->V
 | .inl i=>.int i
 | .inr x=>.str x
inductive HO where
 /-- a list -/
 | lst (xs:List V)
 /-- a tuple (never changes) -/
 | tup (xs:List V)
 /-- a dict whose keys are ints and texts;one whose keys are tuples of ints and texts (the empty one is both) -/
 | dK (kvs:List (Key×V))|dT (kvs:List (List Key×V))
 /-- a set of ints: its members,its size -/
 | set (S:Int->Bool) (n:Nat)
 /-- an instance of the class at C,its dict at dx,its attributes -/
 | ins (C dx:fL) (fs:List (Str×V))
 /-- the dict of the instance at x -/
 | own (x:fL)
 /-- the dict of an exception -/
 | xd (fs:List (Str×V))
 /-- a bound method,f of x -/
 | met (f x:fL)
 /-- a range object lo,lo+1,.. below hi -/
 | rng (lo hi:Int)
 /-- a thing that is known to the object (the script;a dict while a loop walks it): read,never written while it is so -/
 | frz (o:Obj) (u:HO)
 /-- a code object's table -/
 | tbl (ps:Array fJ)
 /-- any other thing,by what is true of its one object (a def of one's own: SetO a S n:=HO.ext λh=>..) -/
 | ext (φ:Heap->Prop)
abbrev Hp:=fL->Ob HO
noncomputable def upd(H:Hp)(a:fL)(o:HO):Hp:=λb=>if b=a then Oa o else H b
def C9:upd H a o a=Oa o:=by unfold upd;rw[if_pos rfl]
def D0(h:b≠a):upd H a o b=H b:=by unfold upd;rw[if_neg h]
def D9{H:Hp}{a b:fL}{o:HO}(h:H a=Oa o)(h':H b=Z):a≠b:=by intro e;subst e;rw[h]at h';cases h'
def aD7(h:Heap)(a:fL)(items:Array fJ):Prop:=∃o,h.get? a=Oa o/\o.cls=.type "tuple" /\ (∃n,o.data=.seq items n)/\o.dict=Z
def aD7.tup{h:Heap}{a:fL}{items:Array fJ}(p:aD7 h a items):IsTup h a items:=let#[o,e,c,d,_]:=p;#[o,e,c,d]
def aD7.new(h:Heap)(items:Array fJ)(n:Nat:=0):aD7 (h.push { cls:=.type "tuple", data:=.seq items n }) h.objs.size items:=#[_,fx _ rfl,rfl,#[_,rfl],rfl]
section
variable (P:Program) (w:World)
def P8(H:Hp)(h:Heap)(a:fL):HO->Prop
 | .lst xs=>xs.length<=eR/\∃(its:La fJ) (n:Nat),F4 xs its/\h.get? a=Oa { cls:=.type "list", data:=.seq its.toArray n }
 | .tup xs=>xs.length<=eR/\∃its:La fJ,F4 xs its/\aD7 h a its.toArray
 | .dK kvs=>kvs.length<=eR/\(a==sysModules)=false/\∃vs,KV kvs vs/\h.DictOf (av5 P w) a vs
 | .dT kvs=>kvs.length<=eR/\(a==sysModules)=false/\∃xs:La (La Key×fL×fJ),
   Paired (λ(p:La Key×V) (q:La Key×fL×fJ)=>p.1=q.1/\H q.2.1=Oa (.tup<|p.1.map kV)/\J3 p.2 q.2.2) kvs xs /\
   ∃o es ep,h.get? a=Oa o/\o.ExactDict/\o.data=.dict es ep/\es.toList=xs.map (entryOfKey<|tupleKind (av5 P w))/\(xs.map (·.1)).Nodup
 | .set S n=>h.SetOf (intKind P w) a S n
 | .ins C dx fs=>H dx=Oa (.own a)/\fs.length<=1000/\dx≠a/\h.get? a=Oa (PySem.W.instObj C dx) /\
   ∃mA,h.Ns1 dx mA/\(∀f,aD8 (fs.lookup f)<|mA f)/\PySem.Within mA (fs.map (·.1))
 | .own _=>∃o,h.get? a=Oa o
 | .xd fs=>∃mA,h.Ns1 a mA/\∀f,aD8 (fs.lookup f)<|mA f
 | .rng lo hi=>∃t u v,h.get? a=Oa { cls:=.type "range", data:=.fields (List.toArray [.int lo t,.int hi u,.int 1 v]) }
 | .frz o u=>h.get? a=Oa o/\P8 H h a u
 | .tbl ps=>h.get? a=Oa { cls:=.none,data:=.fields ps }
 | .met f x=>h.get? a=Oa (PySem.W.methodObj (.ref f)<|.ref x)
 | .ext y=>y h/\(∃o,h.get? a=Oa o)/\∀h1 h2:Heap,y h1->(∀o,h1.get? a=Oa o->h2.get? a=Oa o)->y h2
def HOk(H:Hp)(h:Heap):Prop:=∀a o,H a=Oa o->P8 P w H h a o
end
section
variable {P:Program}{w:World}{H H':Hp}{h h':Heap}{a:Addr}{o:HO}
theorem P8.lt(x:P8 P w H h a o):a < h.objs.size:=by
 cases o with
 | lst xs=>obtain⟨_,_,_,_,e⟩:=x;exact fw e
 | tup xs=>obtain⟨_,_,_,p⟩:=x;exact p.tup.lt
 | dK kvs=>obtain⟨_,_,_,_,o,_,_,e,_⟩:=x;exact fw e
 | dT kvs=>obtain⟨_,_,_,_,o,_,_,e,_⟩:=x;exact fw e
 | set S n=>obtain⟨o,_,_,_,e,_⟩:=x;exact fw e
 | ins C dx fs=>obtain⟨_,_,_,e,_⟩:=x;exact fw e
 | own y=>obtain⟨_,e⟩:=x;exact fw e
 | xd fs=>obtain⟨_,⟨_,_,_,e,_⟩,_⟩:=x;exact fw e
 | rng lo hi=>obtain⟨_,_,_,e⟩:=x;exact fw e
 | frz ob u=>obtain⟨e,_⟩:=x;exact fw e
 | tbl ps=>exact fw (show h.get? a=Oa _ from x)
 | met f y=>exact fw (show h.get? a=Oa _ from x)
 | ext z=>obtain⟨_,⟨_,e⟩,_⟩:=x;exact fw e
theorem Paired.mapP{y z:Type}{F G:y->z->Prop}:∀{l₁:La y}{l₂:La z},Paired F l₁ l₂->(∀a b,F a b->G a b)->Paired G l₁ l₂
 | _,_,.nil,_=>.nil
 | _,_,.cons r t,f=>.cons (f _ _ r)<|Paired.mapP t f
def P8.stay(x:P8 P w H h a o)(k:∀b u,(b=a\/H b=Oa (.own a))->h.get? b=Oa u->h'.get? b=Oa u)
  (ho:∀b,H b=Oa (.own a)->H' b=Oa (.own a)) (ht:∀b xs,H b=Oa (.tup xs)->H' b=Oa (.tup xs)):P8 P w H' h' a o:=by
 induction o with
 | lst xs=>obtain⟨z,its,n,r,e⟩:=x;exact#[z,its,n,r,k _ _ (.inl rfl) e]
 | tup xs=>obtain⟨z,its,r,ob,e,c⟩:=x;exact#[z,its,r,ob,k _ _ (.inl rfl) e,c]
 | dK kvs=>obtain⟨z,y,vs,r,ob,es,ep,e,c⟩:=x;exact#[z,y,vs,r,ob,es,ep,k _ _ (.inl rfl) e,c]
 | dT kvs =>
  obtain⟨z,y,xs,r,ob,es,ep,e,c⟩:=x;exact#[z,y,xs,Paired.mapP r λp q z=>#[z.1,ht _ _ z.2.1,z.2.2],ob,es,ep,k _ _ (.inl rfl) e,c]
 | set S n=>obtain⟨ob,es,ep,t,e,c⟩:=x;exact#[ob,es,ep,t,k _ _ (.inl rfl) e,c]
 | ins C dx fs =>
  obtain⟨d,z,ne,e,mA,⟨od,es,ep,e2,c⟩,r⟩:=x;exact#[ho _ d,z,ne,k _ _ (.inl rfl) e,mA,#[od,es,ep,k _ _ (.inr d) e2,c],r]
 | own y=>obtain⟨ob,e⟩:=x;exact#[ob,k _ _ (.inl rfl) e]
 | xd fs=>obtain⟨mA,⟨od,es,ep,e,c⟩,r⟩:=x;exact#[mA,#[od,es,ep,k _ _ (.inl rfl) e,c],r]
 | rng lo hi=>obtain⟨t,u,v,e⟩:=x;exact#[t,u,v,k _ _ (.inl rfl) e]
 | frz ob u ih=>obtain⟨e,q⟩:=x;exact#[k _ _ (.inl rfl) e,ih q]
 | tbl ps =>
  have e:h.get? a=Oa { cls:=.none,data:=.fields ps }:=x;show h'.get? a=Oa { cls:=.none,data:=.fields ps };exact k a _ (.inl rfl) e
 | met f y =>
  have e:h.get? a=Oa (PySem.W.methodObj (.ref f)<|.ref y):=x;show h'.get? a=Oa (PySem.W.methodObj (.ref f)<|.ref y);exact k a _ (.inl rfl) e
 | ext j=>obtain⟨p,⟨o,e⟩,st⟩:=x;exact#[st _ _ p λo q=>k _ _ (.inl rfl) q,#[o,k _ _ (.inl rfl) e],st]
theorem HOk.lt(x:HOk P w H h)(e:H a=Oa o):a < h.objs.size:=(x a o e).lt
def HOk.fresh(x:HOk P w H h)(e:h.objs.size<=a):H a=Z:=by
 cases q:H a with
 | none=>rfl
 | some u=>exact absurd (aG (x.lt q) e)<|bu _
def HOk.kept(x:HOk P w H h)(k:∀b u,h.get? b=Oa u->h'.get? b=Oa u):HOk P w H h':=λa o e =>(x a o e).stay (λb u _ q=>k b u q) (λ_ q=>q) λ_ _ q=>q
def HOk.laid(x:HOk P w H h)(k:∀b u,h.get? b=Oa u->h'.get? b=Oa u)(hp:h.objs.size<=a)(new:P8 P w (upd H a o) h' a o):HOk P w (upd H a o) h':=λb u e=>by
 have hn:=x.fresh hp;by_cases hb:b=a
 .subst hb;rw[C9]at e;cases e;exact new
 .rw[D0 hb]at e;exact(x b u e).stay (λc v _ q=>k c v q) (λc q=>by rw[D0 (D9 q hn)];exact q) λc xs q=>by rw[D0 (D9 q hn)];exact q
end
def Rd(H:Hp)(a:fL)(u:HO):Prop:=H a=Oa u\/∃o,H a=Oa (.frz o u)
def Rd.ok(r:Rd H a u)(x:HOk P w H h):P8 P w H h a u:=by
 rcases r with r|⟨o,r⟩
 .exact x a u r
 .obtain⟨_,q⟩:=x a _ r;exact q
def Mut:Ob HO->Prop
 | some (.lst _)=>True
 | some (.dK _)=>True
 | some (.dT _)=>True
 | some (.set _ _)=>True
 | some (.ins _ _ _)=>True
 | some (.ext _)=>True
 | _=>False
section
variable {P:Program}{w:World}{H:Hp}{h h':Heap}{x e:Addr}{o':HO}
def HOk.write(ok:HOk P w H h)(mu:Mut (H x))(he:e=x\/H e=Oa (.own x))(k:∀b u,b≠e->h.get? b=Oa u->h'.get? b=Oa u)(heo:∃u,h'.get? e=Oa u)
  (new:P8 P w (upd H x o') h' x o'):HOk P w (upd H x o') h':=λb u q=>by
 have nown:∀c y,H c=Oa (.own y)->c≠x:=λc y r z=>by subst z;rw[r]at mu;exact mu
 have ntup:∀c xs,H c=Oa (.tup xs)->c≠x:=λc xs r z=>by subst z;rw[r]at mu;exact mu
 by_cases hb:b=x
 .subst hb;rw[C9]at q;cases q;exact new
 .rw[D0 hb]at q;by_cases hbe:b=e
  .have q':H b=Oa (.own x):=by
    rcases he with z|z
    .exact absurd (hbe.trans z) hb
    .rw[hbe];exact z
   rw[q]at q';cases q';obtain⟨v,hv⟩:=heo;exact#[v,by rw[hbe];exact hv]
  .refine(ok b u q).stay (λc v hc r=>k c v ?_ r) (λc r=>by rw[D0 (nown c b r)];exact r) λc xs r=>by rw[D0 (ntup c xs r)];exact r
   rcases hc with rfl|hc
   .exact hbe
   .rintro rfl
    rcases he with z|z
    .exact nown c b hc z
    .rw[hc]at z;cases z;exact hb rfl
end
structure Un (fs ex:List fL) (H H':Hp) (h h':Heap):Prop where
 keep:∀b o,h.get? b=Oa o->H b=Z->b∉fs->b∉ex->h'.get? b=Oa o
 slot:∀b o,h.get? b=Oa o->H b=Z->b∈fs->b∉ex->∃sl,h'.get? b=Oa { o with slots:=sl }
 free:∀b o,h.get? b=Oa o->H b=Z->b∉ex->H' b=Z
 there:∀b o,h.get? b=Oa o->b∉ex->∃o',h'.get? b=Oa o'
 tups:∀b xs,H b=Oa (.tup xs)->H' b=Oa (.tup xs)
 frzs:∀b o u,H b=Oa (.frz o u)->H' b=Oa (.frz o u)
 tbls:∀b ps,H b=Oa (.tbl ps)->∃more,H' b=Oa (.tbl<|ps++more)
section
variable {fs fs' ex ex':La Addr}{H H1 H2:Hp}{h h1 h2 h':Heap}{a x e:Addr}{o:HO}
def Un.any(u:Un fs ex H H1 h h1)(q:h.get? b=Oa ob)(n:H b=Z)(hx:b∉ex):∃sl,h1.get? b=Oa { ob with slots:=sl }:=by
 by_cases hb:b∈fs
 .exact u.slot b ob q n hb hx
 .exact#[ob.slots,u.keep b ob q n hb hx]
def Un.kept(k:∀b u,h.get? b=Oa u->h'.get? b=Oa u):Un fs ex H H h h' :=
 #[λb ob q _ _ _=>k b ob q,λb ob q _ _ _=>#[ob.slots,k b ob q],λ_ _ _ n _=>n,λb ob q _=>#[ob,k b ob q],λ_ _ q=>q,λ_ _ _ q=>q,λ_ ps q=>#[(List.toArray []),by rw[q];simp]]
def Un.refl:Un fs ex H H h h:=Un.kept λ_ _ q=>q
def Un.laid(k:∀b u,h.get? b=Oa u->h'.get? b=Oa u)(hp:h.objs.size<=a)(hn:H a=Z):Un fs ex H (upd H a o) h h' where
 keep:=λb u q _ _ _=>k b u q
 slot:=λb u q _ _ _=>#[u.slots,k b u q]
 free:=λb u q n _=>by rw[D0 (aP<|aG (fw q) hp)];exact n
 there:=λb u q _=>#[u,k b u q]
 tups:=λb xs q=>by rw[D0 (D9 q hn)];exact q
 frzs:=λb u xs q=>by rw[D0 (D9 q hn)];exact q
 tbls:=λb ps q=>#[(List.toArray []),by rw[D0 (D9 q hn),q];simp]
def Un.write(mu:Mut (H x))(he:e=x\/H e=Oa (.own x))(k:∀b u,b≠e->h.get? b=Oa u->h'.get? b=Oa u)(heo:∃u,h'.get? e=Oa u):Un fs ex H (upd H x o) h h':=by
 have hx:∀b,H b=Z->b≠x:=λb n z=>by subst z;rw[n]at mu;exact mu
 have hb:∀b,H b=Z->b≠e:=λb n z=>by
  subst z;rcases he with r|r
  .exact hx b n r
  .rw[n]at r;cases r
 have hm:∀b u,H b=Oa u->¬Mut (Oa u)->b≠x:=λb u q nm z=>by subst z;rw[q]at mu;exact nm mu
 refine#[λb u q n _ _=>k b u (hb b n) q,λb u q n _ _=>#[u.slots,k b u (hb b n) q],λb u q n _=>by rw[D0 (hx b n)];exact n,λb u q _=>?_,
  λb xs q=>by rw[D0 (hm b _ q λz=>z)];exact q,λb u xs q=>by rw[D0 (hm b _ q λz=>z)];exact q,λb ps q=>#[(List.toArray []),by rw[D0 (hm b _ q λz=>z),q];simp]]
 by_cases hbe:b=e
 .subst hbe;exact heo
 .exact#[u,k b u hbe q]
end
noncomputable def trk(h:Heap)(H:Hp):La fL:=(bf h.objs.size).filter λa=>(H a).isSome
def aL9(h:Heap)(H:Hp):Heap:=PySem.W.hideAll h<|trk h H
def bq0(h:Heap)(H:Hp):(aL9 h H).objs.size=h.objs.size:=PySem.W.hideAll_size _ _
def bJ2(e:h.get? b=Oa o)(n:H b=Z):(aL9 h H).get? b=Oa o :=
 PySem.W.hideAll_get _ e λhm=>by
  have q:(H b).isSome=true:=(cr.mp hm).2;rw[n]at q;simp at q
def bV3(e:(aL9 h H).get? b=Oa o):h.get? b=Oa o/\H b=Z:=by
 have e':h.get? b=Oa o:=PySem.W.of_hideAll (trk h H) e;refine#[e',?_];cases q:H b with
 | none=>rfl
 | some x =>
  have hm:b∈trk h H:=cr.mpr #[bF.mpr<|fw e',by simp[q]];have z:(aL9 h H).get? b=Z:=PySem.W.hideAll_none (trk h H) hm;rw[z]at e;cases e
noncomputable def cb4(g h:Heap)(L:fL):La (fL×Obj):=(bf h.objs.size).filterMap λa=>if a=L\/(g.get? a).isSome=true then Z else(h.get? a).map λo=>(a,o)
noncomputable def W5(g h:Heap)(L d:fL):La (fL×Obj):=(cb4 g h L).filter λp=>decide (p.1≠d)
structure Mod (K:af) (mg:Str->Option fJ) (base:Heap):Prop where
 kin:K.In base
 glob:base.Ns eW mg
 blt:∃mb,base.Ns builtinsNs mb/\∀x:Str,x ≠ "__name__" -> mb x=fe x
 nolimit:base.NoLimit
structure Cx where
 prog:eX
 w:World
 K:af
 mg:Str->Option fJ
 base:Heap
 A:eY
 N:List Str
 s₀:fK
 H₀:Hp
 env:Env
 outer:List Env
 stack:List Env
 ex:List fL
 fn:Str->Bool
 calm:Bool
 pn:List (fL×Obj)
 xe:fJ->fK->Prop
noncomputable def frs(l:La Env):La fL:=l.filterMap (·.frame)
abbrev Cx.fs(X:Cx):La fL:=frs X.outer
def Vis(sc:Scope)(x:Str):Prop:=sc.names.lookup x=Oa .local\/sc.names.lookup x=Oa .cell\/sc.names.lookup x=Oa .free
def Loc(sc:Scope)(x:Str):Prop:=sc.names.lookup x=Oa .local\/sc.names.lookup x=Oa .cell
def cV9(env:Env)(h:Heap)(m:Str->Ob fJ)(x:Str)(u:fJ):Prop :=
 (env.kindOf x=Oa .local/\m x=Oa u)\/((env.kindOf x=Oa .cell\/env.kindOf x=Oa .free)/\∃c,env.cells.lookup x=Oa c/\h.IsCell c (Oa u))
structure Cx.Ok (X:Cx):Prop where
 mod:Mod X.K X.mg X.base
 kind:X.env.scope.kind=.function
 glob:X.env.globals=eW
 blt:X.env.builtins=builtinsNs
 above:X.s₀.heap.objs.size<=X.env.locals
 inj:∀x y c,X.env.cells.lookup x=Oa c->X.env.cells.lookup y=Oa c->x=y
 has:∀x,(X.env.kindOf x=Oa .cell\/X.env.kindOf x=Oa .free)->∃c,X.env.cells.lookup x=Oa c
 cab:∀x c,X.fn x=true->X.env.cells.lookup x=Oa c->X.s₀.heap.objs.size<=c
 hd:X.calm=true->X.A.handled=Z
 frames:X.A.frames=Oa X.stack
 stk:X.stack=X.outer\/(X.stack=X.env::X.outer/\X.env.frame=Oa X.env.locals)
 exf:∀b∈X.ex,b≠X.env.locals/\∀x c,X.env.cells.lookup x=Oa c->c≠b
 bs:∀b o,X.base.get? b=Oa o->X.s₀.heap.get? b=Oa o/\X.H₀ b=Z
 bsz:X.base.objs.size<=X.s₀.heap.objs.size
 noex:∀b o,X.base.get? b=Oa o->b∉X.ex
 exfs:∀b∈X.ex,b∉X.fs
 funs:X.s₀.heap.FunFrames X.base X.outer
 frf:∀b∈X.fs,X.H₀ b=Z
structure Inv (X:Cx) (za:List (fL×Obj)) (σ:List (Option V)) (H:Hp) (s:fK):Prop where
 ok:X.Ok
 os:s.os=X.s₀.os
 bare:AllBare s.gens
 base:Un X.fs X.ex X.H₀ H X.s₀.heap s.heap
 loc:∃m,s.heap.Ns X.env.locals m/\∀(i:Nat) (x:Str) (v:V),X.N[i]? = Oa x->σ[i]? = Oa (Oa v)->Vis X.env.scope x->∃u,J3 v u/\cV9 X.env s.heap m x u
 cell:∀x c,X.env.cells.lookup x=Oa c->∃v,s.heap.IsCell c v
 free:H X.env.locals=Z
 freeC:∀x c,X.env.cells.lookup x=Oa c->H c=Z
 pin:∀p∈X.pn++za,s.heap.get? p.1=Oa p.2/\H p.1=Z/\p.1≠X.env.locals/\p.1∉X.fs/\∀v,p.2.data≠.cell v
 hok:HOk X.prog X.w H s.heap
 len:σ.length=X.N.length
section
variable {X:Cx}{za:La (Addr×Obj)}{g:La (Ob V)}{H H':Hp}{s:Shared}{h':Heap}
def Cx.Ok.nofr(ok:X.Ok)(e:X.base.get? b=Oa o):b∉X.fs:=λhb=>by
 have:=(ok.funs.mem hb).1;rw[e]at this;cases this
theorem Inv.bs(I:Inv X za g H s):∀b o,X.base.get? b=Oa o->s.heap.get? b=Oa o/\H b=Z:=λb o e =>#[I.base.keep b o (I.ok.bs b o e).1 (I.ok.bs b o e).2 (I.ok.nofr e)<|I.ok.noex b o e,I.base.free b o (I.ok.bs b o e).1 (I.ok.bs b o e).2<|I.ok.noex b o e]
def Inv.bk(I:Inv X za g H s):∀b o,X.base.get? b=Oa o->s.heap.get? b=Oa o:=λb o e=>(I.bs b o e).1
theorem Inv.mod(I:Inv X za g H s):Mod X.K X.mg X.base:=I.ok.mod
def Inv.kIn(I:Inv X za g H s):X.K.In s.heap:=I.ok.mod.kin.keeps I.bk
theorem Inv.lt(I:Inv X za g H s):X.env.locals < s.heap.objs.size:=let#[_,hn,_]:=I.loc;hn.lt
def Inv.sz(I:Inv X za g H s):X.s₀.heap.objs.size<=s.heap.objs.size:=aI I.ok.above<|cn I.lt
def Inv.nofs(I:Inv X za g H s)(h:s.heap.objs.size<=a):a∉X.fs:=λhb=>by
 obtain⟨_,o,ho,_⟩:=I.ok.funs.mem hb;exact absurd (aG (fw ho)<|aI I.sz h)<|bu _
def Inv.cne(I:Inv X za g H s):∀x c,X.env.cells.lookup x=Oa c->c≠X.env.locals:=λx c e z=>by
 obtain⟨v,o,ho,hd⟩:=I.cell x c e;obtain⟨m,⟨o',es,ep,ho',hd',_⟩,_⟩:=I.loc;rw[z,ho']at ho;cases ho;rw[hd']at hd;cases hd
theorem Inv.funs(I:Inv X za g H s):s.heap.FunFrames X.base X.outer:=by
 have all:∀(l:La Env),(∀b∈frs l,b∈X.fs)->X.s₀.heap.FunFrames X.base l->s.heap.FunFrames X.base l:=by
  intro l
  induction l with
  | nil=>intro _ _;trivial
  | cons env r ih =>
   intro hs hl;obtain⟨hk,⟨L,o,hf,hn,ho,hd⟩,hr⟩:=hl;have hL:L∈X.fs:=hs L (by unfold frs;rw[dq,hf];exact aQ);obtain⟨sl,e⟩:=I.base.slot L o ho (I.ok.frf L hL) hL λz=>I.ok.exfs L z hL
   exact#[hk,#[L,_,hf,hn,e,hd],ih (λb hb=>hs b (by unfold frs;rw[dq,hf];exact xmm _ hb)) hr]
 exact all X.outer (λ_ hb=>hb) I.ok.funs
theorem Inv.stack(I:Inv X za g H s):s.heap.FunFrames X.base X.stack:=by
 rcases I.ok.stk with e|⟨e,hf⟩
 .rw[e];exact I.funs
 .rw[e];obtain⟨m,hn,_⟩:=I.loc;refine .cons (by rw[I.ok.kind];decide) hf hn ?_ I.funs;exact Heap.get?_none_of_le<|aI I.ok.bsz I.ok.above
def Inv.stkSub(I:Inv X za g H s):∀b∈frs X.stack,b∈X.env.locals::X.fs:=λb hb=>by
 rcases I.ok.stk with e|⟨e,hf⟩
 .rw[e]at hb;exact xmm _ hb
 .rw[e]at hb;unfold frs at hb;rw[dq,hf]at hb;exact hb
def Inv.stkFree(I:Inv X za g H s):∀b∈frs X.stack,H b=Z:=λb hb=>by
 rcases ao.mp (I.stkSub b hb) with e|hb
 .rw[e];exact I.free
 .obtain⟨_,o,ho,_⟩:=I.ok.funs.mem hb;exact I.base.free b o ho (I.ok.frf b hb) λz=>I.ok.exfs b z hb
def Inv.step{g':Array GenState}{t':Nat}{d':Drawn}{ch:La fL}(I:Inv X za g H s)
  (hch:∀b∈ch,(b∈X.ex\/X.s₀.heap.objs.size<=b)/\b≠X.env.locals/\(∀x c,X.env.cells.lookup x=Oa c->c≠b)/\∀p∈X.pn++za,p.1≠b)
  (keep:∀b o,b≠X.env.locals->b∉X.fs->b∉ch->s.heap.get? b=Oa o->H b=Z->h'.get? b=Oa o)
  (slot:∀b o,b≠X.env.locals->b∈X.fs->b∉ch->s.heap.get? b=Oa o->H b=Z->∃sl,h'.get? b=Oa { o with slots:=sl }) (free:∀b o,b∉ch->s.heap.get? b=Oa o->H b=Z->H' b=Z)
  (there:∀b o,b∉ch->s.heap.get? b=Oa o->∃o',h'.get? b=Oa o')
  (tups:∀b xs,H b=Oa (.tup xs)->H' b=Oa (.tup xs)) (frzs:∀b o u,H b=Oa (.frz o u)->H' b=Oa (.frz o u)) (tbls:∀b ps,H b=Oa (.tbl ps)->∃more,H' b=Oa (.tbl<|ps++more))
  (ns:∀m,s.heap.Ns X.env.locals m->h'.Ns X.env.locals m) (hok:HOk X.prog X.w H' h') (hg:AllBare g') :
  Inv X za g H' { s with heap:=h',gens:=g',drawn:=d',toks:=t' }:=by
 have neL:∀b o,X.s₀.heap.get? b=Oa o->b≠X.env.locals:=λb o e=>aP<|aG (fw e) I.ok.above
 have neC:∀b o,X.s₀.heap.get? b=Oa o->b∉X.ex->b∉ch:=λb o e hx hb=>by
  rcases(hch b hb).1 with z|z
  .exact hx z
  .exact absurd (aG (fw e) z) (bu _)
 have cellK:∀x c,X.env.cells.lookup x=Oa c->∀v,s.heap.IsCell c v->h'.IsCell c v:=λx c e v #[o,ho,hd]=>by
  have nch:c∉ch:=λz=>(hch c z).2.2.1 x c e rfl
  by_cases hc:c∈X.fs
  .obtain⟨sl,q⟩:=slot c o (I.cne x c e) hc nch ho (I.freeC x c e);exact#[_,q,hd]
  .exact#[o,keep c o (I.cne x c e) hc nch ho<|I.freeC x c e,hd]
 refine#[I.ok,I.os,hg,#[λb o e n hb hx=>?_,λb o e n hb hx=>?_,λb o e n hx=>?_,λb o e hx=>?_,λb xs e=>tups b xs<|I.base.tups b xs e,λb o xs e=>frzs b o xs<|I.base.frzs b o xs e,λb ps e=>?_],?_,λx c e=>?_,?_,λx c e=>?_,λp hp=>?_,hok,I.len]
 .exact keep b o (neL b o e) hb (neC b o e hx) (I.base.keep b o e n hb hx) (I.base.free b o e n hx)
 .obtain⟨sl,e1⟩:=I.base.slot b o e n hb hx;obtain⟨sl',e2⟩:=slot b _ (neL b o e) hb (neC b o e hx) e1 (I.base.free b o e n hx);exact#[sl',e2]
 .obtain⟨o',e1⟩:=I.base.there b o e hx;exact free b o' (neC b o e hx) e1<|I.base.free b o e n hx
 .obtain⟨o',e1⟩:=I.base.there b o e hx;exact there b o' (neC b o e hx) e1
 .obtain⟨m1,e1⟩:=I.base.tbls b ps e;obtain⟨m2,e2⟩:=tbls b _ e1;exact#[m1++m2,by rw[e2,Array.append_assoc]]
 .obtain⟨m,hn,hl⟩:=I.loc;refine#[m,ns m hn,λi x v e1 e2 e3=>?_];obtain⟨u,r,l⟩:=hl i x v e1 e2 e3;refine#[u,r,?_];rcases l with l|⟨k,c,e,z⟩
  .exact .inl l
  .exact .inr #[k,c,e,cellK x c e _ z]
 .obtain⟨v,z⟩:=I.cell x c e;exact#[v,cellK x c e v z]
 .obtain⟨m,⟨o,_,_,ho,_⟩,_⟩:=I.loc;exact free _ o (λz=>(hch _ z).2.1 rfl) ho I.free
 .obtain⟨v,o,ho,hd⟩:=I.cell x c e;exact free c o (λz=>(hch c z).2.2.1 x c e rfl) ho<|I.freeC x c e
 .obtain⟨e,n,ne,nf,d⟩:=I.pin p hp;have nch:p.1∉ch:=λz=>(hch p.1 z).2.2.2 p hp rfl
  exact#[keep p.1 p.2 ne nf nch e n,free p.1 p.2 nch e n,ne,nf,d]
def Inv.un{t':Nat}(I:Inv X za g H s)(u:Un X.fs [] H H' s.heap h')(hok:HOk X.prog X.w H' h'):Inv X za g H' { s with heap:=h',toks:=t' }:=by
 obtain⟨m,⟨o,es,ep,ho,r⟩,_⟩:=id I.loc;obtain⟨sl,hL⟩:=u.any ho I.free (by simp)
 exact I.step (g':=s.gens) (d':=s.drawn) (ch:=[]) (λ_ z=>nomatch z) (λb o _ hb _ e n=>u.keep b o e n hb (by simp)) (λb o _ hb _ e n=>u.slot b o e n hb (by simp)) (λb o _ e n=>u.free b o e n (by simp)) (λb o _ e=>u.there b o e (by simp)) u.tups u.frzs u.tbls (λm' hm=>by
  obtain⟨o',es',ep',ho',r'⟩:=hm;rw[ho]at ho';cases ho'
  exact#[_,es',ep',hL,r']) hok I.bare
def Inv.call{g':Array GenState}{t':Nat}{d':Drawn}{ch:La fL}(I:Inv X za g H s)(u:Un (frs X.stack) ch H H' s.heap h')(hok:HOk X.prog X.w H' h')(hg:AllBare g')
  (hch:∀b∈ch,(b∈X.ex\/X.s₀.heap.objs.size<=b)/\b≠X.env.locals/\(∀x c,X.env.cells.lookup x=Oa c->c≠b)/\∀p∈X.pn++za,p.1≠b) :
  Inv X za g H' { s with heap:=h',gens:=g',drawn:=d',toks:=t' }:=by
 obtain⟨m,⟨o,es,ep,ho,r⟩,_⟩:=id I.loc;obtain⟨sl,hL⟩:=u.any ho I.free λz=>(hch _ z).2.1 rfl
 exact I.step (ch:=ch) hch (λb o hL hb hc e n=>u.keep b o e n (λz=>(ao.mp (I.stkSub b z)).elim hL hb) hc) (λb o _ _ hc e n=>u.any e n hc) (λb o hc e n=>u.free b o e n hc) (λb o hc e=>u.there b o e hc) u.tups u.frzs u.tbls (λm' hm=>by
  obtain⟨o',es',ep',ho',r'⟩:=hm;rw[ho]at ho';cases ho'
  exact#[_,es',ep',hL,r']) hok hg
def Inv.turned{t':Nat}{it:fL}(I:Inv X za g H s)(k:∀b o,b≠it->s.heap.get? b=Oa o->h'.get? b=Oa o)(hn:H it=Z)(hL:it≠X.env.locals)
  (h1:it∈X.ex\/X.s₀.heap.objs.size<=it) (h2:∀x c,X.env.cells.lookup x=Oa c->c≠it) (h3:∀p∈X.pn++za,p.1≠it):Inv X za g H { s with heap:=h',toks:=t' }:=by
 have nit:∀b u,H b=Oa u->b≠it:=λb u e z=>by rw[z,hn]at e;cases e
 refine I.step (g':=s.gens) (d':=s.drawn) (ch:=[it]) (λb hb=>?_) (λb o _ _ hc e _=>k b o (λz=>hc<|by simp[z]) e) (λb o _ _ hc e _=>#[o.slots,k b o (λz=>hc<|by simp[z]) e]) (λ_ _ _ _ n=>n)
  (λb o hc e=>#[o,k b o (λz=>hc<|by simp[z]) e]) (λ_ _ e=>e) (λ_ _ _ e=>e) (λb ps e=>#[(List.toArray []),by rw[e];simp]) (λm hm=>?_) (λb u e=>?_) I.bare
 .have e:b=it:=by simpa using hb
  subst e;exact#[h1,hL,h2,h3]
 .obtain⟨o,es,ep,ho,r⟩:=hm;exact#[o,es,ep,k _ o (Ne.symm hL) ho,r]
 .refine(I.hok b u e).stay (λc v hc q=>k c v ?_ q) (λ_ q=>q) λ_ _ q=>q
  rcases hc with z|z
  .rw[z];exact nit b u e
  .exact nit c _ z
def Inv.tok(I:Inv X za g H s)(t:Nat):Inv X za g H { s with toks:=t }:=I.un (h':=s.heap) (t':=t) Un.refl I.hok
theorem Inv.kept(I:Inv X za g H s)(k:∀b u,s.heap.get? b=Oa u->h'.get? b=Oa u):Inv X za g H { s with heap:=h',toks:=t' }:=I.un (Un.kept k)<|I.hok.kept k
theorem Inv.laid(I:Inv X za g H s)(k:∀b u,s.heap.get? b=Oa u->h'.get? b=Oa u)(hp:s.heap.objs.size<=a)(new:P8 X.prog X.w (upd H a o) h' a o):
  Inv X za g (upd H a o) { s with heap:=h',toks:=t' }:=I.un (Un.laid k hp<|I.hok.fresh hp)<|I.hok.laid k hp new
theorem Inv.write(I:Inv X za g H s)(mu:Mut (H x))(he:e=x\/H e=Oa (.own x))(k:∀b u,b≠e->s.heap.get? b=Oa u->h'.get? b=Oa u)(heo:∃u,h'.get? e=Oa u)
  (new:P8 X.prog X.w (upd H x o) h' x o):Inv X za g (upd H x o) { s with heap:=h',toks:=t' }:=I.un (Un.write mu he k heo)<|I.hok.write mu he k heo new
def Inv.pins_of(I:Inv X za g H s)(h:∀p∈pins',s.heap.get? p.1=Oa p.2/\H p.1=Z/\p.1≠X.env.locals/\p.1∉X.fs/\∀v,p.2.data≠.cell v):Inv X pins' g H s :=
 #[I.ok,I.os,I.bare,I.base,I.loc,I.cell,I.free,I.freeC,λp hp=>(aE.mp hp).elim (λz=>I.pin p<|aS _ z)<|h p,I.hok,I.len]
def aS1{N:La Str}(hN:N.Nodup){i j:Nat}{x:Str}(a:N[i]? = Oa x)(b:N[j]? = Oa x):i=j:=by
 obtain⟨h1,e1⟩:=am.mp a;obtain⟨h2,e2⟩:=am.mp b;exact(List.getElem_inj hN).mp (e1.trans e2.symm)
def aE6(I:Inv X za g H s)(hN:X.N.Nodup)(hi:X.N[i]? = Oa x)(hx:Loc X.env.scope x)(r:J3 v u)
  (h:∀s',Inv X za (g.set i<|Oa v) H s'->(∃a,Heap.SameBut a s.heap s'.heap/\(a=X.env.locals\/X.env.cells.lookup x=Oa a))->Q () s') (hf:X.fn x=true\/X.env.scope.names.lookup x=Oa .local:=by first|exact .inl rfl|exact .inr rfl|assumption):ft M A (storeName X.env x u) Q E s:=by
 obtain⟨m,hn,hl⟩:=id I.loc;have hcls:(X.env.scope.kind == .class || (X.env.scope.kind == .module&&X.env.locals != X.env.globals))=false:=by rw[I.ok.kind];rfl
 have hiσ:i < g.length:=by rw[I.len];exact(am.mp hi).1
 have cne:=I.cne
 have tracked:∀{a:fL}{h':Heap},(∃o,s.heap.get? a=Oa o/\H a=Z)->Heap.SameBut a s.heap h'->HOk X.prog X.w H h':=λ{a h'} ha hs b ob e=>by
  obtain⟨_,_,hfree⟩:=ha;refine(I.hok b ob e).stay (λc w' hc q=>(hs.2 c ?_).trans q) (λ_ q=>q) λ_ _ q=>q
  rintro rfl
  rcases hc with rfl|hc
  .rw[hfree]at e;cases e
  .rw[hfree]at hc;cases hc
 rcases hx with hk|hk
 .refine wpAny_storeName_local hk hn (λh' hn' hs=>?_) hcls;obtain⟨oL,_,_,hoL,_⟩:=id hn;refine h _ #[I.ok,I.os,I.bare,#[λb o e n hb hx=>?_,λb o e n hb hx=>?_,I.base.free,λb o e hx=>?_,I.base.tups,I.base.frzs,I.base.tbls],#[_,hn',λj y v' e1 e2 e3=>?_],λy c e=>?_,I.free,I.freeC,λp hp=>?_,tracked #[oL,hoL,I.free] hs,by simpa using I.len] #[_,hs,.inl rfl]
  .exact(hs.2 b<|aP (aG (fw e) I.ok.above)).trans (I.base.keep b o e n hb hx)
  .obtain⟨sl,e1⟩:=I.base.slot b o e n hb hx;exact#[sl,(hs.2 b<|aP (aG (fw e) I.ok.above)).trans e1]
  .obtain⟨o',e1⟩:=I.base.there b o e hx;exact#[o',(hs.2 b<|aP (aG (fw e) I.ok.above)).trans e1]
  .by_cases hj:j=i
   .subst hj;rw[hi]at e1;cases e1;rw[aD hiσ]at e2;cases e2;exact#[u,r,.inl #[hk,by simp]]
   .rw[ax (Ne.symm hj)]at e2;obtain⟨u',r',q⟩:=hl j y v' e1 e2 e3;refine#[u',r',?_];rcases q with⟨k,e⟩|⟨k,c,e,z⟩
    .refine .inl #[k,?_];have:y≠x:=λe=>hj (aS1 hN e1<|e ▸ hi)
     simp[this,e]
    .exact .inr #[k,c,e,z.sameBut hs<|cne y c e]
  .obtain⟨w',z⟩:=I.cell y c e;exact#[w',z.sameBut hs<|cne y c e]
  .obtain⟨e,n,ne,nf,d⟩:=I.pin p hp;exact#[(hs.2 p.1 ne).trans e,n,ne,nf,d]
 .have hfn:X.fn x=true:=by
   rcases hf with z|z
   .exact z
   .rw[z]at hk;cases hk
  obtain⟨c,hc⟩:=I.ok.has x (.inl hk);obtain⟨w',z⟩:=I.cell x c hc;refine wpAny_storeName_cell I.ok.kind hk hc z (λh' hc' hs=>?_);obtain⟨oc,hoc,hocd⟩:=id z;refine h { s with heap:=h' } #[I.ok,I.os,I.bare,#[λb o e n hb hx=>?_,λb o e n hb hx=>?_,I.base.free,λb o e hx=>?_,I.base.tups,I.base.frzs,I.base.tbls],#[m,hn.sameBut hs<|Ne.symm (cne x c hc),λj y v' e1 e2 e3=>?_],λy c' e=>?_,I.free,I.freeC,λp hp=>?_,tracked #[oc,hoc,I.freeC x c hc] hs,by simpa using I.len] #[c,hs,.inr hc]
  .exact(hs.2 b<|aP (aG (fw e)<|I.ok.cab x c hfn hc)).trans (I.base.keep b o e n hb hx)
  .obtain⟨sl,e1⟩:=I.base.slot b o e n hb hx;exact#[sl,(hs.2 b<|aP (aG (fw e)<|I.ok.cab x c hfn hc)).trans e1]
  .obtain⟨o',e1⟩:=I.base.there b o e hx;exact#[o',(hs.2 b<|aP (aG (fw e)<|I.ok.cab x c hfn hc)).trans e1]
  .by_cases hj:j=i
   .subst hj;rw[hi]at e1;cases e1;rw[aD hiσ]at e2;cases e2;exact#[u,r,.inr #[.inl hk,c,hc,hc']]
   .rw[ax (Ne.symm hj)]at e2;obtain⟨u',r',q⟩:=hl j y v' e1 e2 e3;refine#[u',r',?_];rcases q with q|⟨k,c',e,z'⟩
    .exact .inl q
    .refine .inr #[k,c',e,z'.sameBut hs ?_]
     rintro rfl
     exact hj<|aS1 hN e1 (I.ok.inj _ _ _ e hc ▸ hi)
  .by_cases hcc:c'=c
   .subst hcc;exact#[_,hc']
   .obtain⟨w2,z2⟩:=I.cell y c' e;exact#[w2,z2.sameBut hs hcc]
  .obtain⟨e,n,ne,nf,d⟩:=I.pin p hp;refine#[(hs.2 p.1 ?_).trans e,n,ne,nf,d];intro q;rw[q,hoc]at e;have q':oc=p.2:=bg.inj e;exact d w' (by rw[<- q'];exact hocd)
def ab7(I:Inv X za g H s)(hN:X.N.Nodup)(hi:X.N[i]? = Oa x)(hx:Loc X.env.scope x)(r:J3 v u)
  (h:∀s',Inv X za (g.set i<|Oa v) H s'->Q () s') (hf:X.fn x=true\/X.env.scope.names.lookup x=Oa .local:=by first|exact .inl rfl|exact .inr rfl|assumption):ft M A (storeName X.env x u) Q E s :=
 aE6 I hN hi hx r (λs' I' _=>h s' I') hf
def Inv.call'(I:Inv X za g H s)(ho:s'.os=s.os)(u:Un (frs X.stack) ch H H' s.heap s'.heap)(hok:HOk X.prog X.w H' s'.heap)(hg:AllBare s'.gens)
  (hch:∀b∈ch,(b∈X.ex\/X.s₀.heap.objs.size<=b)/\b≠X.env.locals/\(∀x c,X.env.cells.lookup x=Oa c->c≠b)/\∀p∈X.pn++za,p.1≠b):Inv X za g H' s':=by
 obtain⟨h',g',d',t',o'⟩:=s';have e:o'=s.os:=ho;subst e;exact I.call (g':=g') (t':=t') (d':=d') u hok hg hch
end
abbrev XK:=fJ->Ob fL->Hp->Prop
abbrev St:=La<|Ob V
abbrev VK:=V->Hp->Prop
abbrev TE:=St->Hp->VK->Prop
abbrev TT:=St->Hp->(Bool->Hp->Prop)->Prop
abbrev TA:=St->Hp->(La V->Hp->Prop)->Prop
structure Ends where
 nx:St->Hp->Prop
 rt:VK
 bk:St->Hp->Prop:=λ_ _=>False
 ct:St->Hp->Prop:=λ_ _=>False
abbrev TS:=Ends->St->Hp->Prop
def EP(X:Cx)(za:La (fL×Obj))(y:St)(Q:VK)(u:fJ)(s':fK):Prop:=∃v H',Inv X za y H' s'/\J3 v u/\Q v H'
def TP(X:Cx)(za:La (fL×Obj))(y:St)(Q:Bool->Hp->Prop)(b:Bool)(s':fK):Prop:=∃H',Inv X za y H' s'/\Q b H'
def AP(X:Cx)(za:La (fL×Obj))(y:St)(Q:La V->Hp->Prop)(us:La fJ)(s':fK):Prop:=∃vs H',Inv X za y H' s'/\F4 vs us/\Q vs H'
def SP(X:Cx)(za:La (fL×Obj))(D:Ends)(f:Flow)(s':fK):Prop :=
 match f with
 | .next=>∃σ' H',Inv X za σ' H' s'/\D.nx σ' H'
 | .brk=>∃σ' H',Inv X za σ' H' s'/\D.bk σ' H'
 | .cont=>∃σ' H',Inv X za σ' H' s'/\D.ct σ' H'
 | .ret u=>∃v σ' H',Inv X za σ' H' s'/\J3 v u/\D.rt v H'
def PE(X:Cx)(e:Expr)(t:TE):Prop :=
 ∀(za:La (fL×Obj)) (s:fK) (y:St) (H:Hp) (Q:VK),Inv X za y H s->t y H Q->ft (fu X.prog X.w) X.A (eval e X.env) (EP X za y Q) X.xe s
def PT(X:Cx)(e:Expr)(t:TT):Prop :=
 ∀(za:La (fL×Obj)) (s:fK) (y:St) (H:Hp) (Q:Bool->Hp->Prop),Inv X za y H s->t y H Q->ft (fu X.prog X.w) X.A (isTrue e X.env<|eval e X.env) (TP X za y Q) X.xe s
def PW(X:Cx)(e:Expr)(t:TT):Prop :=
 ∀(whole:Sem fJ) (za:La (fL×Obj)) (s:fK) (y:St) (H:Hp) (Q:Bool->Hp->Prop),Inv X za y H s->t y H Q->ft (fu X.prog X.w) X.A (isTrue e X.env whole) (TP X za y Q) X.xe s
def PW.pt(h:PW X e t):PT X e t:=h _
def PA(X:Cx)(es:La Expr)(t:TA):Prop :=
 ∀(pos:Pos) (za:La (fL×Obj)) (s:fK) (y:St) (H:Hp) (Q:La V->Hp->Prop),Inv X za y H s->t y H Q->ft (fu X.prog X.w) X.A (spliced<|backTo pos (eQ es X.env)) (AP X za y Q) X.xe s
def PS(X:Cx)(st:Stmt)(t:TS):Prop :=
 ∀(za:La (fL×Obj)) (s:fK) (y:St) (H:Hp) (D:Ends),Inv X za y H s->t D y H->ft (fu X.prog X.w) X.A (exec st X.env) (SP X za D) X.xe s
def PSs(X:Cx)(st:La Stmt)(t:TS):Prop :=
 ∀(za:La (fL×Obj)) (s:fK) (y:St) (H:Hp) (D:Ends),Inv X za y H s->t D y H->ft (fu X.prog X.w) X.A (execs st X.env) (SP X za D) X.xe s
def thn{y:Type}{t:Sem y}{Q Q':y->fK->Prop}{M:Model}{A:eY}{E:fJ->fK->Prop}{s:fK}(h:ft M A t Q E s)(hQ:∀a s,Q a s->Q' a s):ft M A t Q' E s:=eJ h hQ λ_ _ x=>x
section
variable {X:Cx}
def cE6(i:Nat):TE:=λy H Q=>∃v,y[i]? = Oa (Oa v)/\Q v H
def tC(v:V):TE:=λ_ H Q=>Q v H
def P4(hN:X.N[i]? = Oa x)(hv:Vis X.env.scope x)(hd:(x==("__debug__":Str))=false:=by decide)(hcd:(x==("__classdict__":Str))=false:=by decide):PE X (.Name x pos) (cE6 i):=by
 intro za s y H Q I h;obtain⟨v,e,h⟩:=h;obtain⟨m,hn,hl⟩:=I.loc;obtain⟨u,r,l⟩:=hl i x v hN e hv;have fin:EP X za y Q u s:=#[v,H,I,r,h];rcases l with⟨hk,hm⟩|⟨hk,c,hc,hcell⟩
 .exact wpAny_Name (wpAny_loadName_local I.ok.kind hk hn hm fin) hd
 .rcases hk with hk|hk
  .exact wpAny_Name (wpAny_loadName_cell I.ok.kind hk hc hcell fin) hd
  .exact wpAny_Name (wpAny_loadName_free I.ok.kind hk hc hcell fin hcd) hd
def cp3{i j pos}:PE X (.Constant (.int i) j pos) (tC<|.int i):=λ_ _ _ H _ I h=>wpAny_Constant_int #[.int i,H,I.tok _,#[_,rfl],h]
def cH2{b j pos}:PE X (.Constant (.bool b) j pos) (tC<|.bl b):=λ_ _ _ H _ I h=>Constant_bool #[.bl b,H,I,rfl,h]
def cp1{j pos}:PE X (.Constant .none j pos) (tC .non):=λ_ _ _ H _ I h=>Constant_none #[.non,H,I,rfl,h]
def co8{x j pos}:PE X (.Constant (.str x) j pos) (tC<|.str x):=λ_ _ _ H _ I h=>Calls.Constant_str #[.str x,H,I.tok _,#[_,rfl],h]
def Gl(X:Cx)(x:Str):Prop:=X.env.kindOf x=Oa .globalImplicit
def X4(I:Inv X za y H s)(hg:Gl X x)(hm:X.mg x=Oa u)(h:Q u s)
  (hd:(x==("__debug__":Str))=false:=by decide):ft (fu X.prog X.w) X.A (eval (.Name x pos) X.env) Q E s :=
 Calls.Name_function_global I.ok.kind hg (Calls.loadGlobal_global (by rw[I.ok.glob];exact I.mod.glob.keeps I.bk) hm h) hd
def ay4(I:Inv X za y H s)(hg:Gl X x)(hm:X.mg x=Z)(hv:fe x=Oa u)(h:Q u s)
  (hn:x ≠ "__name__" := by decide) (hd:(x==("__debug__":Str))=false:=by decide):ft (fu X.prog X.w) X.A (eval (.Name x pos) X.env) Q E s:=by
 obtain⟨mb,h1,h2⟩:=I.mod.blt;exact Calls.Name_function_global I.ok.kind hg (Calls.loadGlobal_builtin (by rw[I.ok.glob];exact I.mod.glob.keeps I.bk) hm (by rw[I.ok.blt];exact h1.keeps I.bk) ((h2 x hn).trans hv) h) hd
def bU1(hg:Gl X x)(hm:X.mg x=Oa u)(r:J3 v u)(hd:(x==("__debug__":Str))=false:=by decide):PE X (.Name x pos) (tC v) :=
 λ_ _ _ H _ I h=>X4 I hg hm #[v,H,I,r,h] hd
def bh5(hg:Gl X x)(hm:X.mg x=Z)(hv:fe x=Oa u)(r:J3 v u)(hn:x ≠ "__name__" := by decide)(hd:(x==("__debug__":Str))=false:=by decide):PE X (.Name x pos) (tC v) :=
 λ_ _ _ H _ I h=>ay4 I hg hm hv #[v,H,I,r,h] hn hd
variable {a b:Expr}{ta tb:TE}{pos:Pos}
variable {tA tB':TT}{W5:La Expr}
def cQ7(t u:TT):TT:=λy H Q=>t y H λc H1=>if c=true then u y H1 Q else Q false H1
def tOr(t u:TT):TT:=λy H Q=>t y H λc H1=>if c=true then Q true H1 else u y H1 Q
def cQ2(t:TT):TT:=λy H Q=>t y H λc H1=>Q (!c) H1
def bg8(ha:PT X a tA):PW X (.BoolOp .And [a] pos) tA:=by
 intro wh za s y H Q I h;refine isTrue_and (thn (ha za s y H Q I h) λc s1 e=>?_);cases c with
 | true=>exact isTrue_and_nil e
 | false=>exact e
def bA4(ha:PT X a tA):PW X (.BoolOp .Or [a] pos) tA:=by
 intro wh za s y H Q I h;refine isTrue_or (thn (ha za s y H Q I h) λc s1 e=>?_);cases c with
 | false=>exact isTrue_or_nil e
 | true=>exact e
def aJ6(ha:PT X a tA)(hb:PW X (.BoolOp .And (b::W5) pos) tB'):PW X (.BoolOp .And (a::b::W5) pos) (cQ7 tA tB'):=by
 intro wh za s y H Q I h;refine isTrue_and (thn (ha za s y H _ I h) λc s1 w=>?_);obtain⟨H1,I1,q1⟩:=w;cases c with
 | true=>exact hb wh za s1 y H1 Q I1 q1
 | false=>exact#[H1,I1,q1]
def bg7(ha:PT X a tA)(hb:PW X (.BoolOp .Or (b::W5) pos) tB'):PW X (.BoolOp .Or (a::b::W5) pos) (tOr tA tB'):=by
 intro wh za s y H Q I h;refine isTrue_or (thn (ha za s y H _ I h) λc s1 w=>?_);obtain⟨H1,I1,q1⟩:=w;cases c with
 | true=>exact#[H1,I1,q1]
 | false=>exact hb wh za s1 y H1 Q I1 q1
def bA5(ha:PT X a tA):PT X (.UnaryOp .Not a pos) (cQ2 tA):=by
 intro za s y H Q I h;exact isTrue_not<|ha za s y H (λc H1=>Q (!c) H1) I h
def cF3(ta tb:TE):TE:=λy H Q=>ta y H λx H1=>∃c,x=.bl c/\if c=true then tb y H1 Q else Q (.bl false) H1
def cE8(ta:TE):TE:=λy H Q=>ta y H λx H1=>∃c,x=.bl c/\Q (.bl (!c)) H1
def co9{op}(h:PE X a t):PE X (.BoolOp op [a] pos) t:=λza s y H Q I hw=>BoolOp_one<|h za s y H Q I hw
def bB7(ha:PE X a ta)(hb:PE X (.BoolOp .And (b::W5) pos) tb):PE X (.BoolOp .And (a::b::W5) pos) (cF3 ta tb):=by
 intro za s y H Q I h;refine BoolOp_and (thn (ha za s y H _ I h) λv s1 w=>?_);obtain⟨x,H1,I1,r1,q1⟩:=w;obtain⟨c,rfl,q1⟩:=q1;cases r1;refine eM ?_;cases c with
 | true=>exact hb za s1 y H1 Q I1 q1
 | false=>exact#[.bl false,H1,I1,rfl,q1]
def cp0(ha:PE X a ta):PE X (.UnaryOp .Not a pos) (cE8 ta):=by
 intro za s y H Q I h;refine UnaryOp_ (thn (ha za s y H _ I h) λv s1 w=>?_);obtain⟨x,H1,I1,r1,q1⟩:=w;obtain⟨c,rfl,q1⟩:=q1;cases r1;exact not_of<|eM #[.bl (!c),H1,I1,rfl,q1]
def tIf(t:TT)(ta tb:TE):TE:=λy H Q=>t y H λc H1=>if c=true then ta y H1 Q else tb y H1 Q
def aR3(hc:PT X c tA)(ha:PE X a ta)(hb:PE X b tb):PE X (.IfExp c a b pos) (tIf tA ta tb):=by
 intro za s y H Q I h;refine wpAny_IfExp (thn (hc za s y H _ I h) λd s1 w=>?_);obtain⟨H1,I1,q1⟩:=w;cases d with
 | true=>exact ha za s1 y H1 Q I1 q1
 | false=>exact hb za s1 y H1 Q I1 q1
end
def SqL(K:af)(H:Hp)(a:fL)(xs:La V):Prop :=
 Rd H a (.lst xs) \/
  ∃(o:Obj) (its:Array fJ) (n:Nat),K.lookup a=Oa o/\o.cls=.type "list" /\ o.dict=Z/\o.data=.seq its n/\its.size<=eR/\F4 xs its.toList
def SqT(K:af)(H:Hp)(a:fL)(xs:La V):Prop :=
 Rd H a (.tup xs) \/
  ∃(o:Obj) (its:Array fJ) (n:Nat),K.lookup a=Oa o/\o.cls=.type "tuple" /\ o.dict=Z/\o.data=.seq its n/\its.size<=eR/\F4 xs its.toList
noncomputable def cV5:fJ->Ob V
 | .none=>Oa .non
 | .bool b=>Oa<|.bl b
 | .int i _=>Oa<|.int i
 | .str x _=>Oa<|.str x
 | .bytes b _=>Oa<|.byt b
 | .float b _=>Oa<|.flt b
 | .ref a=>Oa<|.ref a
 | .type n=>Oa<|.ty n
 | _=>Z
def J3.abs(r:J3 x u):cV5 u=Oa x:=by
 cases x with
 | non=>cases r;rfl
 | bl _=>cases r;rfl
 | int _=>obtain⟨t,rfl⟩:=r;rfl
 | str _=>obtain⟨t,rfl⟩:=r;rfl
 | byt _=>obtain⟨t,rfl⟩:=r;rfl
 | flt _=>obtain⟨t,rfl⟩:=r;rfl
 | ref _=>cases r;rfl
 | ty _=>cases r;rfl
theorem J3.inj(r:J3 x u)(q:J3 y u):x=y:=bg.inj<|r.abs.symm.trans q.abs
theorem F4.inj:∀{xs ys:La V}{us:La fJ},F4 xs us->F4 ys us->xs=ys
 | _,_,_,.nil,.nil=>rfl
 | _,_,_,.cons r t,.cons r' t'=>by rw[r.inj r',F4.inj t t']
section
variable {X:Cx}{za:La (Addr×Obj)}{y:St}{H:Hp}{s:Shared}{a:Addr}{xs ys:La V}
def SqL.of{K:af}(h:H a=Oa (.lst xs)):SqL K H a xs:=.inl<|.inl h
def SqT.of{K:af}(h:H a=Oa (.tup xs)):SqT K H a xs:=.inl<|.inl h
def Inv.list(I:Inv X za y H s)(h:SqL X.K H a xs):∃its:La fJ,F4 xs its/\PlainL s.heap a its.toArray/\xs.length<=eR:=by
 rcases h with h|⟨o,its,n,hk,hc,hd,hs,hz,r⟩
 .obtain⟨z,its,n,r,e⟩:=h.ok I.hok;exact#[its,r,#[_,n,e,rfl,rfl,rfl],z]
 .refine#[its.toList,r,#[o,n,I.kIn a o hk,hc,hd,by simpa using hs],?_];have e:=r.length;simp only[cL]at e;omega
def Inv.tupN(I:Inv X za y H s)(h:SqT X.K H a xs):∃its:La fJ,F4 xs its/\aD7 s.heap a its.toArray/\xs.length<=eR:=by
 rcases h with h|⟨o,its,n,hk,hc,hd,hs,hz,r⟩
 .obtain⟨z,its,r,p⟩:=h.ok I.hok;exact#[its,r,p,z]
 .refine#[its.toList,r,#[o,I.kIn a o hk,hc,#[n,by simpa using hs],hd],?_];have e:=r.length;simp only[cL]at e;omega
def Inv.tuple(I:Inv X za y H s)(h:SqT X.K H a xs):∃its:La fJ,F4 xs its/\IsTup s.heap a its.toArray/\xs.length<=eR :=
 let#[its,r,p,z]:=I.tupN h;#[its,r,p.tup,z]
def Inv.list_inj(I:Inv X za y H s)(h:SqL X.K H a xs)(h':SqL X.K H a ys):xs=ys:=by
 obtain⟨its,r,⟨o,n,e,_,_,d⟩,_⟩:=I.list h;obtain⟨its',r',⟨o',n',e',_,_,d'⟩,_⟩:=I.list h';rw[e]at e';cases e';rw[d]at d';injection d' with d1 _
 have:its=its':=by simpa using congrArg Array.toList d1
 subst this;exact r.inj r'
def Inv.tuple_inj(I:Inv X za y H s)(h:SqT X.K H a xs)(h':SqT X.K H a ys):xs=ys:=by
 obtain⟨its,r,⟨o,e,_,n,d⟩,_⟩:=I.tuple h;obtain⟨its',r',⟨o',e',_,n',d'⟩,_⟩:=I.tuple h';rw[e]at e';cases e';rw[d]at d';injection d' with d1 _
 have:its=its':=by simpa using congrArg Array.toList d1
 subst this;exact r.inj r'
end
abbrev Cx.wish(X:Cx)(E:fJ->fK->Prop):Cx:={ X with xe:=E }
theorem Cx.Ok.wish{X:Cx}(ok:X.Ok)(E:fJ->fK->Prop):(X.wish E).Ok :=
 #[ok.mod,ok.kind,ok.glob,ok.blt,ok.above,ok.inj,ok.has,ok.cab,ok.hd,ok.frames,ok.stk,ok.exf,ok.bs,ok.bsz,ok.noex,ok.exfs,ok.funs,ok.frf]
def Cx.Ok.unwish{X:Cx}{E:fJ->fK->Prop}(ok:(X.wish E).Ok):X.Ok :=
 #[ok.mod,ok.kind,ok.glob,ok.blt,ok.above,ok.inj,ok.has,ok.cab,ok.hd,ok.frames,ok.stk,ok.exf,ok.bs,ok.bsz,ok.noex,ok.exfs,ok.funs,ok.frf]
section
variable {X:Cx}{za:La (Addr×Obj)}{y:St}{H:Hp}{s:Shared}{E:Value->Shared->Prop}
theorem Inv.wish(I:Inv X za y H s)(E:fJ->fK->Prop):Inv (X.wish E) za y H s:=#[I.ok.wish E,I.os,I.bare,I.base,I.loc,I.cell,I.free,I.freeC,I.pin,I.hok,I.len]
theorem Inv.unwish(I:Inv (X.wish E) za y H s):Inv X za y H s:=#[I.ok.unwish,I.os,I.bare,I.base,I.loc,I.cell,I.free,I.freeC,I.pin,I.hok,I.len]
theorem SP.unwish(h:SP (X.wish E) za D f s'):SP X za D f s':=by
 cases f with
 | next=>obtain⟨σ',H',I,q⟩:=h;exact#[σ',H',I.unwish,q]
 | brk=>obtain⟨σ',H',I,q⟩:=h;exact#[σ',H',I.unwish,q]
 | cont=>obtain⟨σ',H',I,q⟩:=h;exact#[σ',H',I.unwish,q]
 | ret u=>obtain⟨v,σ',H',I,r,q⟩:=h;exact#[v,σ',H',I.unwish,r,q]
end
section
variable {X:Cx}{st:Stmt}{W5:La Stmt}{t u:TS}{e:Expr}{te:TE}{pos:Pos}
def cc5:TS:=λD y H=>D.nx y H
def cP9(t u:TS):TS:=λD y H=>t { D with nx:=u D } y H
def bh0:PSs X [] cc5:=λ_ _ y H _ I h=>wpAny_execs_nil #[y,H,I,h]
def Y2(h1:PS X st t)(h2:PSs X W5 u):PSs X (st::W5) (cP9 t u):=by
 intro za s y H D I h;refine wpAny_execs_cons (thn (h1 za s y H { D with nx:=u D } I h) λf s1 q=>?_);cases f with
 | next =>
  obtain⟨σ',H',I',q⟩:=q;exact h2 za s1 σ' H' D I' q
 | ret v=>exact q
 | brk=>exact q
 | cont=>exact q
def aJ7(h1:PS X st t):PSs X [st] t:=by
 intro za s y H D I h;refine wpAny_execs_cons (thn (h1 za s y H D I h) λf s1 q=>?_);cases f with
 | next=>exact wpAny_execs_nil q
 | ret v=>exact q
 | brk=>exact q
 | cont=>exact q
def bT3:PS X (.Pass pos) cc5:=λ_ _ y H _ I h=>wpAny_Pass #[y,H,I,h]
def Inv.quiet(I:Inv X za y H s):interactive X.env=false:=by simp[interactive,I.ok.kind]
def cF0(te:TE):TS:=λD y H=>te y H λ_ H1=>D.nx y H1
def am1(he:PE X e te)(hs:swapsWith e Z pos.line X.env=pure false:=by rfl):PS X (.Expr e pos) (cF0 te):=by
 intro za s y H D I h;exact wpAny_Expr_any (thn (he za s y H _ I h) λv s1 #[x,H1,I1,r1,q1]=>#[y,H1,I1,q1]) I.quiet hs
def cQ0(te:TE):TS:=λD y H=>te y H D.rt
def aY7(he:PE X e te):PS X (.Return (Oa e) pos) (cQ0 te):=by
 intro za s y H D I h;exact wpAny_Return_some<|thn (he za s y H _ I h) λv s1 #[x,H1,I1,r1,q1]=>#[x,y,H1,I1,r1,q1]
def cQ4(c:TT)(t u:TS):TS:=λD y H=>c y H λb H1=>if b=true then t D y H1 else u D y H1
def bh2(hc:PT X c tc)(ha:PSs X a t)(hb:PSs X b u):PS X (.If c a b pos) (cQ4 tc t u):=by
 intro za s y H D I h;refine wpAny_If (thn (hc za s y H _ I h) λd s1 w=>?_);obtain⟨H1,I1,q1⟩:=w;cases d with
 | true=>exact ha za s1 y H1 D I1 q1
 | false=>exact hb za s1 y H1 D I1 q1
def cm3:TS:=λ_ _ _=>False
def O8:PSs X sts cm3:=λ_ _ _ _ _ _ h=>h.elim
end
abbrev TG:=V->St->Hp->(St->Hp->Prop)->Prop
abbrev TGs:=La V->St->Hp->(St->Hp->Prop)->Prop
def PG(X:Cx)(target:Expr)(t:TG):Prop :=
 ∀(za:La (fL×Obj)) (s:fK) (y:St) (H:Hp) (v:V) (u:fJ) (Q:St->Hp->Prop),Inv X za y H s->J3 v u->t v y H Q ->
  ft (fu X.prog X.w) X.A (assign target X.env u) (λ_ s'=>∃σ' H',Inv X za σ' H' s'/\Q σ' H') X.xe s
def PGs(X:Cx)(ts:La Expr)(t:TGs):Prop :=
 ∀(za:La (fL×Obj)) (s:fK) (y:St) (H:Hp) (vs:La V) (us:La fJ) (Q:St->Hp->Prop),Inv X za y H s->F4 vs us->t vs y H Q ->
  ft (fu X.prog X.w) X.A (assignInOrder ((fi ts X.env).map (·.2)) us) (λ_ s'=>∃σ' H',Inv X za σ' H' s'/\Q σ' H') X.xe s
abbrev cV7:=V->V->V->Hp->(Hp->Prop)->Prop
def cV8(X:Cx)(t:cV7):Prop :=
 ∀(za:La (fL×Obj)) (s:fK) (y:St) (H:Hp) (o i v:V) (ov iv u:fJ) (Q:Hp->Prop),Inv X za y H s->J3 o ov->J3 i iv->J3 v u->t o i v H Q ->
  ft (fu X.prog X.w) X.A (setItem ov iv u) (λ_ s'=>∃H',Inv X za y H' s'/\Q H') X.xe s
section
variable {X:Cx}{pos:Pos}
def cg5(i:Nat):TG:=λv y H Q=>Q (y.set i<|Oa v) H
def bT9(hN:X.N.Nodup)(hi:X.N[i]? = Oa x)(hx:Loc X.env.scope x)(hf:X.fn x=true\/X.env.scope.names.lookup x=Oa .local:=by first|exact .inl rfl|exact .inr rfl|assumption):PG X (.Name x pos) (cg5 i):=by
 intro za s y H v u Q I r h;exact wpAny_assign_Name<|ab7 I hN hi hx r (λs' I'=>#[_,H,I',h]) hf
def cT8:TGs:=λvs y H Q=>vs=[]/\Q y H
def cN1(t:TG)(u:TGs):TGs:=λvs y H Q=>∃v r,vs=v::r/\t v y H λσ' H'=>u r σ' H' Q
def bT8:PGs X [] cT8:=by
 intro za s y H vs us Q I r h;obtain⟨e,h⟩:=h;subst e;cases r;exact assignInOrder_nil #[y,H,I,h]
def bB1(h1:PG X e t)(h2:PGs X es u)
  (hs:(fi (e::es) X.env).map (·.2)=assign e X.env::(fi es X.env).map (·.2):=by rfl):PGs X (e::es) (cN1 t u):=by
 intro za s y H vs us Q I r h;obtain⟨v,vr,e1,h⟩:=h;subst e1;cases r with
 | cons r rr =>
  rw[hs];refine assignInOrder_cons (thn (h1 za s y H _ _ _ I r h) λ_ s1 w=>?_);obtain⟨σ1,H1,I1,q1⟩:=w;exact h2 za s1 σ1 H1 _ _ Q I1 rr q1
def cT7(K:af)(n:Nat)(t:TGs):TG:=λv y H Q=>∃a xs,v=.ref a/\SqT K H a xs/\xs.length=n/\t xs y H Q
def co7(hc:X.calm=true)(h:PGs X es t)
  (hn:(fi es X.env).length=n:=by rfl) (hst:(fi es X.env).findIdx? (·.1)=Z:=by rfl):PG X (.Tuple es k pos) (cT7 X.K n t):=by
 intro za s y H v u Q I r hw;obtain⟨a,xs,e1,hq,hl,hw⟩:=hw;subst e1;cases r;obtain⟨its,rv,ht,hz⟩:=I.tuple hq;refine assign_Tuple_tuple (I.ok.hd hc) ht (by simp[hn,<- hl,rv.length]) hst λh' hx=>?_
 have I1:Inv X za y H { s with heap:=h' }:=I.kept (t':=s.toks) λb o e=>hx b o (aP<|fw e) e
 exact h za _ y H xs _ Q I1 (by simpa using rv) hw
def cF2(te:TE)(g:TG):TS:=λD y H=>te y H λx H1=>g x y H1 D.nx
def co3(he:PE X e te)(hg:PG X tg g)(hs:swapsWithSole [tg] e pos.line X.env=pure false:=by rfl)(hw:swappedStores [tg] e X.env=pure Z:=by rfl)
  (h1:(fi [tg] X.env).map (·.2)=[assign tg X.env]:=by rfl):PS X (.Assign [tg] e pos) (cF2 te g):=by
 intro za s y H D I h;refine wpAny_Assign_stores (thn (he za s y H _ I h) λv s1 w=>?_) hs hw;obtain⟨x,H1,I1,r1,q1⟩:=w;rw[h1];exact thn (hg za s1 y H1 x v _ I1 r1 q1) λ_ s2 q=>q
def ao8(hN:X.N.Nodup)(hi:X.N[i]? = Oa x)(hx:Loc X.env.scope x)(he:PE X e te)(hs:swapsWith e (Oa<|.Name x pos') pos.line X.env=pure false:=by rfl)(hf:X.fn x=true\/X.env.scope.names.lookup x=Oa .local:=by first|exact .inl rfl|exact .inr rfl|assumption):
  PS X (.Assign [.Name x pos'] e pos) (cF2 te<|cg5 i):=by
 intro za s z H D I h;refine wpAny_Assign_Name (thn (he za s z H _ I h) λv s1 w=>?_) hs;obtain⟨y,H1,I1,r1,q1⟩:=w;exact ab7 I1 hN hi hx r1 (λs2 I2=>#[_,H1,I2,q1]) hf
def cQ1(i j:Nat)(ta:TA):TS:=λD y H=>ta y H λvs H1=>∃v w,vs=[v,w]/\D.nx ((y.set i<|Oa v).set j<|Oa w) H1
def co0{kt k2 pt2}(hc:X.calm=true)(hN:X.N.Nodup)(hi:X.N[i]? = Oa x)(hj:X.N[j]? = Oa y)(hij:i≠j)
  (hx:X.env.scope.names.lookup x=Oa .local) (hy:X.env.scope.names.lookup y=Oa .local) (ha:PA X [a,b] ta)
  (hw:swappedStores [.Tuple [.Name x px,.Name y py] kt pt] (.Tuple [a,b] k2 pt2) X.env=pure (Oa [x,y]))
  (hs:swapsWithSole [.Tuple [.Name x px,.Name y py] kt pt] (.Tuple [a,b] k2 pt2) pos.line X.env=pure false:=by rfl) :
  PS X (.Assign [.Tuple [.Name x px,.Name y py] kt pt] (.Tuple [a,b] k2 pt2) pos) (cQ1 i j ta):=by
 intro za s z H D I h;rw[exec_Assign_arm];refine eF (wpAny_standAt ?_);rw[hs];refine eF (eG ?_);rw[if_neg (by decide)];refine eF (Tuple_<|thn (ha _ za s z H _ I h) λus s1 u=>?_);obtain⟨vs,H1,I1,r1,q1⟩:=u;obtain⟨v,w,e1,q1⟩:=q1;subst e1
 obtain⟨u1,u2,rfl,rv,rw'⟩:∃u1 u2,us=[u1,u2]/\J3 v u1/\J3 w u2:=by
  cases r1 with
  | cons p q =>
   cases q with
   | cons p' q' =>
    cases q';exact#[_,_,rfl,p,p']
 refine eK ?_ (by show 2<=eR;decide);have I2:Inv X za z H1 { s1 with heap:=s1.heap.push { cls:=.type "tuple", data:=.seq [u1,u2].toArray } }:=I1.kept (t':=s1.toks) λb o e=>fv _ e
 rw[hw];refine eF (eG ?_);show ft (fu X.prog X.w) X.A (do rule "assign.swapped-stores";let items <- unpackItems (.ref s1.heap.objs.size) 2 Z;assignInOrder [λv=>bindName X.env y v,λv=>bindName X.env x v] items.reverse;pure Flow.next) _ _ _;refine eF (wpAny_rule<|eF (unpackItems_tuple (items:=(List.toArray [u1,u2])) (I.ok.hd hc) (IsTup.new s1.heap _) λh' hx'=>?_));have I3:=I2.kept (h':=h') (t':=s1.toks) λb o e=>hx' b o (aP<|fw e) e
 show ft _ _ (assignInOrder [λv=>bindName X.env y v,λv=>bindName X.env x v] [u2,u1] >>= λ_=>pure Flow.next) _ _ _;refine eF (assignInOrder_cons<|wpAny_bindName (ab7 I3 hN hj (.inl hy) rw' (λs2 I4=>?_)<|.inr hy));refine assignInOrder_cons (wpAny_bindName<|ab7 I4 hN hi (.inl hx) rv (λs3 I5=>assignInOrder_nil<|eG ?_) (.inr hx));rw[List.set_comm _ _ (Ne.symm hij)]at I5;exact#[_,H1,I5,q1]
end
section
variable {X:Cx}{pos:Pos}
def cm2(c:TT)(tb:TS):TS:=λD y H=>∃W:Nat->St->Hp->Prop,(∃m,W m y H)/\∀m y H,W m y H ->
 c y H λb H1=>if b=true then ∃N:St->Hp->Prop,(∀σ' H',N σ' H'->∃m',m' < m/\W m' σ' H')/\tb { D with nx:=N,ct:=N,bk:=D.nx } y H1 else D.nx y H1
def aR1(hp:PassesOwn (fu X.prog X.w) X.A X.env X.xe)(hc:PT X c tc)(hb:PSs X body tb):PS X (.While c body [] pos) (cm2 tc tb):=by
 intro za s z H D I h;obtain⟨W,⟨m0,w0⟩,turn⟩:=h;refine wpAny_While<|codeAny_whileLoop (λn s'=>∃σ' H',Inv X za σ' H' s'/\W n σ' H') ?_ m0 #[z,H,I,w0]
 rintro n s1 ⟨σ1,H1,I1,w1⟩
 refine wpAny_passesOwn hp (thn (hc za s1 σ1 H1 _ I1<|turn n σ1 H1 w1) λb s2 y=>?_);obtain⟨H2,I2,q2⟩:=y;cases b with
 | true =>
  obtain⟨N,hN,q2⟩:=q2;rw[if_pos rfl];refine wpAny_passesOwn hp (thn (hb za s2 σ1 H2 _ I2 q2) λf s3 q3=>?_);cases f with
  | next =>
   obtain⟨σ3,H3,I3,n3⟩:=q3;obtain⟨m',hm,w3⟩:=hN σ3 H3 n3;exact#[m',hm,σ3,H3,I3,w3]
  | cont =>
   obtain⟨σ3,H3,I3,n3⟩:=q3;obtain⟨m',hm,w3⟩:=hN σ3 H3 n3;exact#[m',hm,σ3,H3,I3,w3]
  | brk=>exact q3
  | ret v=>exact q3
 | false =>
  rw[if_neg aX];exact wpAny_execs_nil #[σ1,H2,I2,q2]
end
structure It where
 go:Nat->Hp->Prop
 yld:Nat->Hp->V->Hp->Prop
 stop:Nat->Hp->Prop
def aB9(X:Cx)(za:La (fL×Obj))(H:Hp)(b:fL):Prop :=
 H b=Z/\b≠X.env.locals/\b∉X.fs/\(b∈X.ex\/X.s₀.heap.objs.size<=b)/\(∀x c,X.env.cells.lookup x=Oa c->c≠b)/\∀p∈X.pn++za,p.1≠b
def Inv.fpOk(I:Inv X za y H s)(hb:s.heap.objs.size<=b)(hn:H' b=Z):aB9 X za H' b:=by
 refine#[hn,dn<|aG I.lt hb,I.nofs hb,.inr<|aI I.sz hb,λx c e z=>?_,λp hp z=>?_]
 .obtain⟨v,q⟩:=I.cell x c e;exact absurd (aG q.lt (by rw[z];exact hb))<|bu _
 .exact absurd (aG (fw (I.pin p hp).1) (by rw[z];exact hb)) (bu _)
structure Turn (P:eX) (w:World) (K:af) (tg:Expr) (J:It) (fp:List fL) (it:fL) (tn:Nat->Heap->Prop):Prop where
 mem:it∈fp
 obj:∀i h,tn i h->∀b∈fp,∃o,h.get? b=Oa o/\∀v,o.data≠.cell v
 keep:∀i h h',tn i h->(∀b∈fp,∀o,h.get? b=Oa o->h'.get? b=Oa o)->tn i h'
 item:∀(X:Cx),X.prog=P->X.w=w->X.K=K->X.calm=true->∀(i:Nat) (za:List (fL×Obj)) (s:fK) (σ:St) (H:Hp) (E:fJ->fK->Prop),Inv X za σ H s->(∀b∈fp,aB9 X za H b)->tn i s.heap->J.go i H ->
  ft (fu P w) X.A (pyNext (.ref it)) (λr s1=>∃u,r=Oa u /\
   ft (fu P w) X.A (letOwnedTupleGo tg (.ref it) u) (λ_ s2=>∃x H',Inv X za σ H' s2/\J3 x u/\J.yld i H x H'/\tn (i+1) s2.heap/\∀b∈fp,H' b=Z) E s1) E s
 done:∀(X:Cx),X.prog=P->X.w=w->X.K=K->X.calm=true->∀(i:Nat) (za:List (fL×Obj)) (s:fK) (σ:St) (H:Hp) (E:fJ->fK->Prop),Inv X za σ H s->(∀b∈fp,aB9 X za H b)->tn i s.heap->J.stop i H ->
  ft (fu P w) X.A (pyNext<|.ref it) (λr s1=>r=Z/\Inv X za σ H s1) E s
 self:∀(A:eY) (i:Nat) (s:fK) (Q:fJ->fK->Prop) (E:fJ->fK->Prop),tn i s.heap->Q (.ref it) s->ft (fu P w) A (pyIter<|.ref it) Q E s
abbrev TI:=St->Hp->(It->Hp->Prop)->Prop
def PIE(X:Cx)(za:La (fL×Obj))(y:St)(tg:Expr)(R:It->Hp->Prop)(itv:fJ)(s2:fK):Prop :=
 ∃(it:fL) (fp:La fL) (tn:Nat->Heap->Prop) (J:It) (H':Hp),itv=.ref it/\Inv X za y H' s2/\Turn X.prog X.w X.K tg J fp it tn/\tn 0 s2.heap/\(∀b∈fp,aB9 X za H' b)/\R J H'
def PI(X:Cx)(tg iter:Expr)(wi:TI):Prop :=
 ∀(za:La (fL×Obj)) (s:fK) (y:St) (H:Hp) (R:It->Hp->Prop),Inv X za y H s->wi y H R ->
  ft (fu X.prog X.w) X.A (eval iter X.env) (λv s1=>ft (fu X.prog X.w) X.A (pyIter v) (PIE X za y tg R) X.xe s1) X.xe s
def bk4(ho:s.heap.get? it=Oa o)(hc:o.cls=.type n)(hd:o.data=.fields vs)
    (hn:["enumerate","zip","dict_itemiterator","dict_reverseitemiterator","odict_iterator","itertools.zip_longest","itertools.pairwise"].contains n=false) (hQ:Q () s):ft M A (letOwnedTupleGo tg (.ref it) u) Q E s:=by
  unfold letOwnedTupleGo
  cases tg<;>first
    | exact eG hQ
    | (cases u<;>first
        | exact eG hQ
        | (refine eF (wpAny_load ho ?_)
           rw[hc,hd];show ft M A (if(["enumerate","zip","dict_itemiterator","dict_reverseitemiterator","odict_iterator","itertools.zip_longest","itertools.pairwise"].contains n&&vs[0]? == Oa (rawInt _))=true then _ else _) Q E s;rw[if_neg (by intro h;rw[hn,ce]at h;cases h)]
           exact eG hQ))
noncomputable def Itl(K:af)(a:fL):It :=
 #[λi H=>∃xs x,SqL K H a xs/\xs[i]? = Oa x,λi H x H'=>H'=H/\∀xs,SqL K H a xs->xs[i]? = Oa x,λi H=>∃xs,SqL K H a xs/\xs.length<=i]
noncomputable def Itt(K:af)(a:fL):It :=
 #[λi H=>∃xs x,SqT K H a xs/\xs[i]? = Oa x,λi H x H'=>H'=H/\∀xs,SqT K H a xs->xs[i]? = Oa x,λi H=>∃xs,SqT K H a xs/\xs.length<=i]
noncomputable def Itr(lo:Int)(n:Nat):It:=#[λi _=>i < n,λi H x H'=>H'=H/\x=.int (lo+i),λi _=>n<=i]
def bn2{P:eX}{w:World}{K:af}{tg:Expr}(a it:fL):Turn P w K tg (Itl K a) [it] it (λi h=>h.IsListIter it a i) where
 mem:=by simp
 obj:=λi h st b hb=>by
  have e:b=it:=by simpa using hb
  subst e;obtain⟨o,e,c,d⟩:=st;exact#[o,e,λv z=>by rw[d]at z;cases z]
 keep:=λi h h' st k=>st.at λo e=>k it (by simp) o e
 item:=by
  intro X hP hw hK hc i za s y H E I hf st hg;subst hP hw hK;obtain⟨xs,x,hq,hx⟩:=hg;obtain⟨its,rv,p,hz⟩:=I.list hq;obtain⟨u,hu,ru⟩:=rv.get hx;obtain⟨f0,f1,f2,f3,f4,f5⟩:=hf it (by simp);refine wpAny_pyNext_list_item st p.isList (x:=u) (by simpa using hu) λh' st' sb=>?_
  have I1:Inv X za y H { s with heap:=h' }:=I.turned (t':=s.toks) (λb o hb e=>(sb.2 b hb).trans e) f0 f1 f3 f4 f5;obtain⟨o,e,c,d⟩:=id st';exact#[u,rfl,bk4 (s:={ s with heap:=h' }) e c d (by decide) #[x,H,I1,ru,#[rfl,λys hy=>by rw[I.list_inj hy hq];exact hx],st',λb hb=>(hf b hb).1]]
 done:=by
  intro X hP hw hK hc i za s y H E I hf st hg;subst hP hw hK;obtain⟨xs,hq,hx⟩:=hg;obtain⟨its,rv,p,hz⟩:=I.list hq;obtain⟨f0,f1,f2,f3,f4,f5⟩:=hf it (by simp);have hl:=rv.length;exact wpAny_pyNext_list_end (I.ok.hd hc) st p.isList (by simp;omega) λh' eb=>#[rfl,I.turned (t':=s.toks) (λb o hb e=>eb b o hb e) f0 f1 f3 f4 f5]
 self:=λ_ _ _ _ _ st h=>wpAny_pyIter_listiter st h
def aX4{P:eX}{w:World}{K:af}{tg:Expr}(a it:fL):Turn P w K tg (Itt K a) [it] it (λi h=>h.IsTupleIter it a i) where
 mem:=by simp
 obj:=λi h st b hb=>by
  have e:b=it:=by simpa using hb
  subst e;obtain⟨o,e,c,d⟩:=st;exact#[o,e,λv z=>by rw[d]at z;cases z]
 keep:=λi h h' st k=>st.at λo e=>k it (by simp) o e
 item:=by
  intro X hP hw hK hc i za s y H E I hf st hg;subst hP hw hK;obtain⟨xs,x,hq,hx⟩:=hg;obtain⟨its,rv,p,hz⟩:=I.tuple hq;obtain⟨u,hu,ru⟩:=rv.get hx;obtain⟨f0,f1,f2,f3,f4,f5⟩:=hf it (by simp);refine wpAny_pyNext_tuple_item st (show s.heap.IsTuple a its.toArray from p) (x:=u) (by simpa using hu) λh' st' sb=>?_
  have I1:Inv X za y H { s with heap:=h' }:=I.turned (t':=s.toks) (λb o hb e=>(sb.2 b hb).trans e) f0 f1 f3 f4 f5;obtain⟨o,e,c,d⟩:=id st';exact#[u,rfl,bk4 (s:={ s with heap:=h' }) e c d (by decide) #[x,H,I1,ru,#[rfl,λys hy=>by rw[I.tuple_inj hy hq];exact hx],st',λb hb=>(hf b hb).1]]
 done:=by
  intro X hP hw hK hc i za s y H E I hf st hg;subst hP hw hK;obtain⟨xs,hq,hx⟩:=hg;obtain⟨its,rv,p,hz⟩:=I.tuple hq;obtain⟨f0,f1,f2,f3,f4,f5⟩:=hf it (by simp);have hl:=rv.length;exact wpAny_pyNext_tuple_end (I.ok.hd hc) st (show s.heap.IsTuple a its.toArray from p) (by simp;omega) λh' eb=>#[rfl,I.turned (t':=s.toks) (λb o hb e=>eb b o hb e) f0 f1 f3 f4 f5]
 self:=λ_ _ _ _ _ st h=>wpAny_pyIter_tupleiter st h
def aX5{P:eX}{w:World}{K:af}{tg:Expr}(it:fL)(lo:Int)(n:Nat):Turn P w K tg (Itr lo n) [it] it (λi h=>IsRangeIter h it (lo+(i:Nat)*1) ((n:Int) - (i:Nat)) 1) where
 mem:=by simp
 obj:=λi h st b hb=>by
  have e:b=it:=by simpa using hb
  subst e
  exact#[_,st,λv z=>by
   have z':Data.fields _=Data.cell v:=z
   cases z']
 keep:=λi h h' st k=>k it (by simp) _ st
 item:=by
  intro X hP hw hK hc i za s y H E I hf st hg;subst hP hw hK;obtain⟨f0,f1,f2,f3,f4,f5⟩:=hf it (by simp);have W:=Walks.range (prog:=X.prog) (w:=X.w) (I.ok.hd hc) it lo 1 n;refine W.item i s _ _ hg st λv h' tk hv st' kk=>?_
  obtain⟨t,rfl⟩:=hv;have I1:Inv X za y H { s with heap:=h',toks:=tk }:=I.turned (λb o hb e=>kk b o (by simpa using hb) e) f0 f1 f3 f4 f5;refine#[_,rfl,bk4 (s:={ s with heap:=h',toks:=tk }) (n := "range_iterator") st' rfl rfl (by decide) #[.int<|lo+i,H,I1,#[t,?_],#[rfl,rfl],st',λb hb=>(hf b hb).1]];rw[Int.mul_one]
 done:=by
  intro X hP hw hK hc i za s y H E I hf st hg;subst hP hw hK;obtain⟨f0,f1,f2,f3,f4,f5⟩:=hf it (by simp);exact wpAny_pyNext_range_end (I.ok.hd hc) st (by have:n<=i:=hg;omega) λh' eb=>#[rfl,I.turned (t':=s.toks) (λb o hb e=>eb b o hb e) f0 f1 f3 f4 f5]
 self:=λ_ _ _ _ _ st h=>wpAny_pyIter_rangeiter st h
section
variable {X:Cx}{tg:Expr}
def cM8(K:af)(tl:TE):TI:=λy H R=>tl y H λx H1=>∃a,x=.ref a/\(∃xs,SqL K H1 a xs)/\R (Itl K a) H1
def cT4(K:af)(tl:TE):TI:=λy H R=>tl y H λx H1=>∃a,x=.ref a/\(∃xs,SqT K H1 a xs)/\R (Itt K a) H1
def bT7{l:Expr}{tl:TE}(hl:PE X l tl):PI X tg l (cM8 X.K tl):=by
 intro za s y H R I h;refine thn (hl za s y H _ I h) λv s1 w=>?_
 obtain⟨x,H1,I1,r1,q1⟩:=w;obtain⟨a,e,⟨xs,hq⟩,q⟩:=q1;subst e;cases r1;obtain⟨its,rv,p,hz⟩:=I1.list hq;refine wpAny_pyIter_list p.isList ?_;refine#[s1.heap.objs.size,[s1.heap.objs.size],_,_,H1,rfl,I1.kept (t':=s1.toks) λb o e=>fv _ e,bn2 a _,#[_,fx _ rfl,rfl,rfl],λb hb=>?_,q];have e:b=s1.heap.objs.size:=by simpa using hb
 subst e;exact I1.fpOk (ak _)<|I1.hok.fresh (ak _)
def co6{l:Expr}{tl:TE}(hl:PE X l tl):PI X tg l (cT4 X.K tl):=by
 intro za s y H R I h;refine thn (hl za s y H _ I h) λv s1 w=>?_
 obtain⟨x,H1,I1,r1,q1⟩:=w;obtain⟨a,e,⟨xs,hq⟩,q⟩:=q1;subst e;cases r1;obtain⟨its,rv,p,hz⟩:=I1.tuple hq;refine wpAny_pyIter_tuple (show s1.heap.IsTuple a its.toArray from p) ?_;refine#[s1.heap.objs.size,[s1.heap.objs.size],_,_,H1,rfl,I1.kept (t':=s1.toks) λb o e=>fv _ e,aX4 a _,#[_,fx _ rfl,rfl,rfl],λb hb=>?_,q];have e:b=s1.heap.objs.size:=by simpa using hb
 subst e;exact I1.fpOk (ak _)<|I1.hok.fresh (ak _)
def bA2{za:La (fL×Obj)}{y:St}{H:Hp}{s:fK}{R:It->Hp->Prop}{E:fJ->fK->Prop}{lo hi:Int}{t u v:Tok}{tk:Nat}(I:Inv X za y H s)(h1:-(2 ^ 62)<=lo)(h2:lo < 2 ^ 62)(h3:-(2 ^ 62)<=hi)(h4:hi < 2 ^ 62)
  (q:R (Itr lo (hi - lo).toNat) H):ft (fu X.prog X.w) X.A (pyIter<|.ref s.heap.objs.size) (PIE X za y tg R) E { s with heap:=s.heap.push { cls:=.type "range", data:=.fields (List.toArray [.int lo t,.int hi u,.int 1 v]) },toks:=tk }:=by
 refine wpAny_pyIter_range (IsRange.new ..) (small_one h1 h2 h3 h4) ?_;have I1:Inv X za y H { s with heap:=s.heap.push { cls:=.type "range", data:=.fields (List.toArray [.int lo t,.int hi u,.int 1 v]) },toks:=tk }:=I.kept λb o e=>fv _ e
 refine#[(s.heap.push { cls:=.type "range", data:=.fields (List.toArray [.int lo t,.int hi u,.int 1 v]) }).objs.size,[(s.heap.push { cls:=.type "range", data:=.fields (List.toArray [.int lo t,.int hi u,.int 1 v]) }).objs.size],_,_,H,rfl,
  I1.kept (t':=tk) λb o e=>fv _ e,aX5 _ lo (hi - lo).toNat,?_,λb hb=>?_,q]
 .have e1:lo+((0:Nat):Int)*1=lo:=by simp
  have e2:(((hi - lo).toNat:Nat):Int) - ((0:Nat):Int)=Builtin.Range.rangeSize lo hi 1:=by rw[rangeSize_one];split<;>omega
  show IsRangeIter _ _ (lo+((0:Nat):Int)*1) ((((hi - lo).toNat:Nat):Int) - ((0:Nat):Int)) 1;rw[e1,e2];exact fx _ rfl
 .have e:b=(s.heap.push { cls:=.type "range", data:=.fields (List.toArray [.int lo t,.int hi u,.int 1 v]) }).objs.size:=by simpa using hb
  subst e;exact I1.fpOk (ak _)<|I1.hok.fresh (ak _)
def cM7(ta:TA):TI:=λy H R=>ta y H λvs H1=>∃j:Int,vs=[.int j]/\-(2 ^ 62)<=j/\j < 2 ^ 62/\R (Itr 0 j.toNat) H1
def bo0{a:Expr}{ta:TA}{p pos:Pos}(hg:Gl X "range")(hm:X.mg "range" = Z)(ha:PA X [a] ta)(hs:eQ [a] X.env=[(false,eval a X.env)]:=by rfl):PI X tg (.Call (.Name "range" p) [a] [] pos) (cM7 ta):=by
 intro za s y H R I h;refine Call_ (ay4 I hg hm boot_range<|PyProof.Rows.callWith_type1 (thn (ha pos za s y H _ I h) λus s1 w=>?_) hs rfl);obtain⟨vs,H1,I1,r1,q1⟩:=w;obtain⟨j,e,q1,q2,q⟩:=q1;subst e;cases r1 with
 | cons r rr =>
  cases rr;obtain⟨t,rfl⟩:=r;exact call_range_1 (bA2 I1 (by omega) (by omega) q1 q2<|by simpa using q)
def cQ5(wi:TI)(g:TG)(tb:TS):TS:=λD y H=>wi y H λJ H1=>∃W:Nat->Nat->St->Hp->Prop,(∃m,W 0 m y H1)/\∀i m y H,W i m y H ->
 (J.stop i H/\D.nx y H)\/(J.go i H/\∃N:St->Hp->Prop,(∀σ' H',N σ' H'->∃m',m' < m/\W (i+1) m' σ' H')/\∀x H',J.yld i H x H'->g x y H' λσ2 H2=>tb { D with nx:=N,ct:=N,bk:=D.nx } σ2 H2)
noncomputable def ax7(fp:La fL)(h:Heap):La (fL×Obj):=fp.filterMap λb=>(h.get? b).map λo=>(b,o)
def u5(hb:b∈fp)(e:h.get? b=Oa o):(b,o)∈ax7 fp h:=dy.mpr #[b,hb,by rw[e];rfl]
def bo4(hp:p∈ax7 fp h):p.1∈fp/\h.get? p.1=Oa p.2:=by
 obtain⟨b,hb,e⟩:=dy.mp hp;cases q:h.get? b with
 | none=>rw[q]at e;cases e
 | some o =>
  rw[q]at e;have e':(b,o)=p:=bg.inj e;subst e';exact#[hb,q]
def Inv.pinned(I:Inv X za y H s)(hf:∀b∈fp,aB9 X za H b)(ho:∀b∈fp,∃o,s.heap.get? b=Oa o/\∀v,o.data≠.cell v):Inv X (za++ax7 fp s.heap) y H s :=
 I.pins_of λp hp=>(aE.mp hp).elim (λz=>I.pin p<|aw _ z) λz=>by
  obtain⟨hb,e⟩:=bo4 z;obtain⟨f0,f1,f2,_⟩:=hf p.1 hb;obtain⟨o,e',d⟩:=ho p.1 hb;rw[e]at e';cases e';exact#[e,f0,f1,f2,d]
def Inv.unpinned(I:Inv X (za++pl) y H s):Inv X za y H s:=I.pins_of λp hp=>I.pin p<|aw _ (aS _ hp)
inductive LpI (X:Cx) (za:List (fL×Obj)) (tn:Nat->Heap->Prop) (fp:List fL) (W:Nat->Nat->St->Hp->Prop) (n:Nat) (s':fK):Prop
 | mk {i σ' H'} (I:Inv X za σ' H' s') (t:tn i s'.heap) (f:∀b∈fp,H' b=Z) (w:W i n σ' H'):LpI X za tn fp W n s'
def co1(hp:PassesOwn (fu X.prog X.w) X.A X.env X.xe)(hc:X.calm=true)(hi:PI X tg iter wi)(hg:PG X tg g)(hb:PSs X body tb)
  (hs:∀x,fj iter X.env x=pure x:=by intro _;rfl):PS X (.For tg iter body [] pos) (cQ5 wi g tb):=by
 intro za s z H D I h;refine wpAny_For (thn (hi za s z H _ I h) λv s1 h1=>thn h1 λitv s2 h2=>?_) hs;obtain⟨it,fp,tn,J,H2,e,I2,T,st2,f2,W,⟨m0,w0⟩,turn⟩:=h2;subst e;have stat:∀{H':Hp},(∀b∈fp,H' b=Z)->∀b∈fp,aB9 X za H' b:=λhn b hb=>#[hn b hb,(f2 b hb).2]
 refine codeAny_forLoop_any (LpI X za tn fp W) ?_ m0 #[I2,st2,λb hb=>(f2 b hb).1,w0]
 rintro n s3 ⟨I3,st3,fr3,w3⟩
 rename_i i σ3 H3;rcases turn i n σ3 H3 w3 with⟨stop,qn⟩|⟨go,N,hN,step⟩
 .refine wpAny_passesOwn hp (thn (T.done X rfl rfl rfl hc i za s3 σ3 H3 X.xe I3 (stat fr3) st3 stop) λr s4 y=>?_);obtain⟨hr,I4⟩:=y;subst hr;exact wpAny_execs_nil #[σ3,H3,I4,qn]
 .refine wpAny_passesOwn hp (thn (T.item X rfl rfl rfl hc i za s3 σ3 H3 X.xe I3 (stat fr3) st3 go) λr s4 y=>?_);obtain⟨u,hr,h4⟩:=y;subst hr;refine wpAny_passesOwn hp (thn h4 λ_ s5 y=>?_);obtain⟨x,H5,I5,r5,y5,st5,fr5⟩:=y;have I5':=I5.pinned (stat fr5) (T.obj _ _ st5);refine wpAny_passesOwn hp (thn (hg _ s5 σ3 H5 x u _ I5' r5<|step x H5 y5) λ_ s6 y=>?_);obtain⟨σ6,H6,I6,q6⟩:=y;refine wpAny_passesOwn hp (thn (hb _ s6 σ6 H6 _ I6 q6) λf s7 q7=>?_)
  have again:∀{σ7:St}{H7:Hp},Inv X (za++ax7 fp s5.heap) σ7 H7 s7->N σ7 H7->∃m,m < n/\LpI X za tn fp W m s7:=λ{σ7 H7} I7 n7=>by
   obtain⟨m',hm,w7⟩:=hN σ7 H7 n7;refine#[m',hm,I7.unpinned,T.keep _ _ _ st5 λb hb o e=>(I7.pin (b,o)<|aw _ (aw _<|u5 hb e)).1,λb hb=>?_,w7];obtain⟨o,e,d⟩:=T.obj _ _ st5 b hb;exact(I7.pin (b,o)<|aw _ (aw _<|u5 hb e)).2.1
  cases f with
  | next=>obtain⟨σ7,H7,I7,n7⟩:=q7;exact again I7 n7
  | cont=>obtain⟨σ7,H7,I7,n7⟩:=q7;exact again I7 n7
  | brk=>obtain⟨σ7,H7,I7,q7⟩:=q7;exact#[σ7,H7,I7.unpinned,q7]
  | ret v=>obtain⟨x7,σ7,H7,I7,r7,q7⟩:=q7;exact#[x7,σ7,H7,I7.unpinned,r7,q7]
end
abbrev R2:=V->V->Hp->VK->Prop
def OpR(X:Cx)(f:fJ->fJ->Sem fJ)(r:R2):Prop :=
 ∀(za:La (fL×Obj)) (s:fK) (z:St) (H:Hp) (x y:V) (v u:fJ) (Q:VK),Inv X za z H s->J3 x v->J3 y u->r x y H Q ->
  ft (fu X.prog X.w) X.A (f v u) (EP X za z Q) X.xe s
def UnR(X:Cx)(f:fJ->Sem fJ)(r:V->Hp->VK->Prop):Prop :=
 ∀(za:La (fL×Obj)) (s:fK) (y:St) (H:Hp) (x:V) (v:fJ) (Q:VK),Inv X za y H s->J3 x v->r x H Q ->
  ft (fu X.prog X.w) X.A (f v) (EP X za y Q) X.xe s
def W4(X:Cx)(f:fJ)(r:La V->Hp->VK->Prop):Prop :=
 ∀(za:La (fL×Obj)) (s:fK) (y:St) (H:Hp) (xs:La V) (us:La fJ) (Q:VK),Inv X za y H s->F4 xs us->r xs H Q ->
  ft (fu X.prog X.w) X.A (call f us) (EP X za y Q) X.xe s
def cV6(X:Cx)(r:V->Hp->(Bool->Hp->Prop)->Prop):Prop :=
 ∀(za:La (fL×Obj)) (s:fK) (y:St) (H:Hp) (x:V) (v:fJ) (Q:Bool->Hp->Prop),Inv X za y H s->J3 x v->r x H Q ->
  ft (fu X.prog X.w) X.A (truthy v) (TP X za y Q) X.xe s
def tOp(r:R2)(ta tb:TE):TE:=λz H Q=>ta z H λx H1=>tb z H1 λy H2=>r x y H2 Q
def tUn(r:V->Hp->VK->Prop)(ta:TE):TE:=λy H Q=>ta y H λx H1=>r x H1 Q
def rI(C:Int->Int->Prop)(g:Int->Int->V):R2:=λx y H Q=>∃i j,x=.int i/\y=.int j/\C i j/\Q (g i j) H
def rI0(g:Int->Int->V):R2:=λx y H Q=>∃i j,x=.int i/\y=.int j/\Q (g i j) H
def rU(g:Int->V):V->Hp->VK->Prop:=λx H Q=>∃i,x=.int i/\Q (g i) H
section
variable {X:Cx}{a b c:Expr}{ta tb tc:TE}{pos:Pos}
def cB1(ha:PE X a ta)(hb:PE X b tb){za:La (fL×Obj)}{s:fK}{z:St}{H:Hp}{R:V->V->Hp->Prop}(I:Inv X za z H s)
  (h:ta z H λx H1=>tb z H1 λy H2=>R x y H2) {Q:fJ->fK->Prop}{f:fJ->fJ->Sem fJ}
  (hf:∀v u s2 x y H2,Inv X za z H2 s2->J3 x v->J3 y u->R x y H2->ft (fu X.prog X.w) X.A (f v u) Q X.xe s2) :
  ft (fu X.prog X.w) X.A (eval a X.env) (λv s₁=>ft (fu X.prog X.w) X.A (eval b X.env) (λu s₂=>ft (fu X.prog X.w) X.A (f v u) Q X.xe s₂) X.xe s₁) X.xe s:=by
 refine thn (ha za s z H _ I h) λv s1 p=>?_
 obtain⟨x,H1,I1,r1,q1⟩:=p;refine thn (hb za s1 z H1 _ I1 q1) λu s2 p=>?_
 obtain⟨y,H2,I2,r2,q2⟩:=p;exact hf v u s2 x y H2 I2 r1 r2 q2
def bB3(ho:OpR X (ff op) r)(ha:PE X a ta)(hb:PE X b tb):PE X (.BinOp a op b pos) (tOp r ta tb):=by
 intro za s z H Q I h;exact wpAny_BinOp<|cB1 ha hb I h λv u s2 x y H2 I2 rx ry q=>ho za s2 z H2 x y v u Q I2 rx ry q
def cG9(ho:UnR X (unaryOp op) r)(ha:PE X a ta):PE X (.UnaryOp op a pos) (tUn r ta):=by
 intro za s y H Q I h;exact UnaryOp_<|thn (ha za s y H _ I h) λv s1 #[x,H1,I1,r1,q1]=>ho za s1 y H1 x v Q I1 r1 q1
def opI{f:fJ->fJ->Sem fJ}{C:Int->Int->Prop}{g:Int->Int->Int}
  (rule:∀(i j:Int) (t u:Tok) (s:fK) (Q:fJ->fK->Prop) (E:fJ->fK->Prop),C i j->Q (.int (g i j) s.toks) { s with toks:=s.toks+1 }->ft (fu X.prog X.w) X.A (f (.int i t)<|.int j u) Q E s) :
  OpR X f (rI C λi j=>.int<|g i j):=by
 intro za s z H x y v u Q I rx ry h;obtain⟨i,j,rfl,rfl,hc,q⟩:=h;obtain⟨t,rfl⟩:=rx;obtain⟨t',rfl⟩:=ry;exact rule i j t t' s _ _ hc #[.int<|g i j,H,I.tok _,#[_,rfl],q]
def cI0{f:fJ->fJ->Sem fJ}{g:Int->Int->Int}
  (rule:∀(i j:Int) (t u:Tok) (s:fK) (Q:fJ->fK->Prop) (E:fJ->fK->Prop),Q (.int (g i j) s.toks) { s with toks:=s.toks+1 }->ft (fu X.prog X.w) X.A (f (.int i t)<|.int j u) Q E s) :
  OpR X f (rI0 λi j=>.int<|g i j):=by
 intro za s z H x y v u Q I rx ry h;obtain⟨i,j,rfl,rfl,q⟩:=h;obtain⟨t,rfl⟩:=rx;obtain⟨t',rfl⟩:=ry;exact rule i j t t' s _ _ #[.int<|g i j,H,I.tok _,#[_,rfl],q]
def bU9{f:fJ->fJ->Sem fJ}{g:Int->Int->Bool}
  (rule:∀(i j:Int) (t u:Tok) (s:fK) (Q:fJ->fK->Prop) (E:fJ->fK->Prop),Q (.bool<|g i j) s->ft (fu X.prog X.w) X.A (f (.int i t)<|.int j u) Q E s) :
  OpR X f (rI0 λi j=>.bl<|g i j):=by
 intro za s z H x y v u Q I rx ry h;obtain⟨i,j,rfl,rfl,q⟩:=h;obtain⟨t,rfl⟩:=rx;obtain⟨t',rfl⟩:=ry;exact rule i j t t' s _ _ #[.bl<|g i j,H,I,rfl,q]
def cW0(i j:Int):Prop:=0<=j/\j<=1000000/\i.natAbs < 2 ^ 64
def bC1:OpR X (ff .Add) (rI0 λi j=>.int<|i+j):=cI0 λ_ _ _ _ _ _ _ q=>add_int q
def cp8:OpR X (ff .Sub) (rI0 λi j=>.int<|i - j):=cI0 λ_ _ _ _ _ _ _ q=>sub_int q
def cq0:OpR X (ff .Mod) (rI (λ_ j=>0 < j) λi j=>.int<|i % j):=opI λi j _ _ _ _ _ hc q=>by
 have h1:(0:Int) < j:=hc;exact mod_int' (by omega) (by rw[Int.fmod_eq_emod_of_nonneg i (by omega)];exact q)
def cp9:OpR X (ff .Pow) (rI cW0 λi j=>.int<|i ^ j.toNat):=opI λ_ _ _ _ _ _ _ hc q=>pow_int_small hc.1 hc.2.1 hc.2.2 q
def unI{f:fJ->Sem fJ}{g:Int->Int}
  (rule:∀(i:Int) (t:Tok) (s:fK) (Q:fJ->fK->Prop) (E:fJ->fK->Prop),Q (.int (g i) s.toks) { s with toks:=s.toks+1 }->ft (fu X.prog X.w) X.A (f<|.int i t) Q E s) :
  UnR X f (rU λi=>.int<|g i):=by
 intro za s y H x v Q I rx h;obtain⟨i,rfl,q⟩:=h;obtain⟨t,rfl⟩:=rx;exact rule i t s _ _ #[.int<|g i,H,I.tok _,#[_,rfl],q]
def ck5:UnR X (unaryOp .USub) (rU λi=>.int (-i)):=unI λ_ _ _ _ _ q=>neg_int q
end
section
variable {X:Cx}{a b c:Expr}{ta tb tc:TE}{pos:Pos}
def aM0(I:Inv X za y H s)(q:Q (.bl k) H)(e:k=k'):EP X za y Q (.bool k') s:=by
 subst e;exact#[.bl k,H,I,rfl,q]
def cH6:OpR X (eU .Lt) (rI0 λi j=>.bl<|decide (i < j)):=bU9 λ_ _ _ _ _ _ _ q=>lt_int q
def cH7:OpR X (eU .LtE) (rI0 λi j=>.bl<|decide (i<=j)):=bU9 λ_ _ _ _ _ _ _ q=>le_int q
def cH8:OpR X (eU .Gt) (rI0 λi j=>.bl<|decide (j < i)):=bU9 λ_ _ _ _ _ _ _ q=>gt_int q
def cH9:OpR X (eU .GtE) (rI0 λi j=>.bl<|decide (j<=i)):=bU9 λ_ _ _ _ _ _ _ q=>ge_int q
def bo1:OpR X (eU .In) (λx y H Q=>∃i j,x=.str i/\y=.str j/\Q (.bl (!(Builtin.Str.occurrences j i 0 j.length 1).isEmpty)) H):=by
 intro za s z H x y v u Q I rx ry h;obtain⟨i,j,rfl,rfl,q⟩:=h;obtain⟨t,rfl⟩:=rx;obtain⟨t',rfl⟩:=ry;exact in_str<|aM0 I q rfl
def cq1:OpR X (eU .Is) (λx y H Q=>y=.non/\Q (.bl<|decide (x=.non)) H):=by
 intro za s z H x y v u Q I rx ry h;obtain⟨rfl,q⟩:=h;cases ry;refine is_none_gen<|aM0 I q ?_
 cases x<;>first
  | (cases rx;rfl)
  | (obtain⟨t,rfl⟩:=rx;rfl)
def bU6:OpR X (eU .IsNot) (λx y H Q=>y=.non/\Q (.bl (!decide (x=.non))) H):=by
 intro za s z H x y v u Q I rx ry h;obtain⟨rfl,q⟩:=h;cases ry;refine isnot_none_gen<|aM0 I q ?_
 cases x<;>first
  | (cases rx;rfl)
  | (obtain⟨t,rfl⟩:=rx;rfl)
def aK1:OpR X (eU .NotIn) (λx y H Q=>∃i j,x=.str i/\y=.str j/\Q (.bl (!(!(Builtin.Str.occurrences j i 0 j.length 1).isEmpty))) H):=by
 intro za s z H x y v u Q I rx ry h;obtain⟨i,j,rfl,rfl,q⟩:=h;obtain⟨t,rfl⟩:=rx;obtain⟨t',rfl⟩:=ry;exact notIn_str<|aM0 I q rfl
def aK4(b:Expr)(h:op≠.In:=by decide)(h2:op≠.NotIn:=by decide):behindInMarks op b=false:=by
 have e1:(op==CmpOp.In)=false:=by cases op<;>first|rfl|exact absurd rfl h
 have e2:(op==CmpOp.NotIn)=false:=by cases op<;>first|rfl|exact absurd rfl h2
 cases b<;>simp[behindInMarks,e1,e2]
def bh4(ho:OpR X (eU op) r)(ha:PE X a ta)(hb:PE X b tb)(hm:behindInMarks op b=false):PE X (.Compare a [op] [b] pos) (tOp r ta tb):=by
 intro za s z H Q I h;exact wpAny_Compare1 (cB1 ha hb I h λv u s2 x y H2 I2 rx ry q=>ho za s2 z H2 x y v u Q I2 rx ry q) hm
def cc4(t:TE):TT:=λy H Q=>t y H λx H'=>∃k,x=.bl k/\Q k H'
def bg9(ho:OpR X (eU op) r)(ha:PE X a ta)(hb:PE X b tb)(hm:behindInMarks op b=false):PT X (.Compare a [op] [b] pos) (cc4<|tOp r ta tb):=by
 intro za s w H Q I h;refine wpAny_isTrue_Compare1 (thn (ha za s w H _ I h) λv s1 #[x,H1,I1,r1,q1]=>thn (hb za s1 w H1 _ I1 q1) λu s2 #[y,H2,I2,r2,q2] =>thn (ho za s2 w H2 x y v u _ I2 r1 r2 q2) λc s3 #[z,H3,I3,r3,k,e,q3]=>?_) hm;subst e;cases r3;exact eM #[H3,I3,q3]
def bx7(r r':R2)(ta tb tc:TE):TE:=λw H Q=>ta w H λx H1=>tb w H1 λy H2=>r x y H2 λz H3=>∃k,z=.bl k /\
 (if k=true then tc w H3 λw' H4=>r' y w' H4 Q else Q (.bl false) H3)
def aR4(ho:OpR X (eU op) r)(ho':OpR X (eU op') r')(ha:PE X a ta)(hb:PE X b tb)(hc:PE X c tc)
  (hm:lastMarks [op,op'] [b,c]=false:=by with_unfolding_all rfl):PE X (.Compare a [op,op'] [b,c] pos) (bx7 r r' ta tb tc):=by
 intro za s w H Q I h;refine Compare_chain (thn (ha za s w H _ I h) λv s1 #[x,H1,I1,r1,q1]=>chain_link<|thn (hb za s1 w H1 _ I1 q1) λu s2 #[y,H2,I2,r2,q2] =>thn (ho za s2 w H2 x y v u _ I2 r1 r2 q2) λd s3 #[z,H3,I3,r3,k,e,q3]=>?_) hm;subst e;cases r3;refine eM ?_;cases k with
 | false=>exact ite_ff #[.bl false,H3,I3,rfl,q3]
 | true=>exact ite_tt<|chain_last (thn (hc za s3 w H3 _ I3 q3) λw' s4 #[z',H4,I4,r4,q4]=>ho' za s4 w H4 y z' u w' Q I4 r2 r4 q4)
def aR0(ho:OpR X (eU op) r)(ho':OpR X (eU op') r')(ha:PE X a ta)(hb:PE X b tb)(hc:PE X c tc)
  (hm:lastMarks [op,op'] [b,c]=false:=by with_unfolding_all rfl):PT X (.Compare a [op,op'] [b,c] pos) (cc4<|bx7 r r' ta tb tc):=by
 intro za s q H Q I h;refine isTrue_chain (thn (ha za s q H _ I h) λv s1 #[x,H1,I1,r1,q1]=>test_link<|thn (hb za s1 q H1 _ I1 q1) λu s2 #[y,H2,I2,r2,q2] =>thn (ho za s2 q H2 x y v u _ I2 r1 r2 q2) λd s3 #[z,H3,I3,r3,k,e,q3]=>?_) hm;subst e;cases r3;refine eM ?_;cases k with
 | false =>
  obtain⟨k',e',q'⟩:=q3;cases e';exact ite_ff #[H3,I3,q']
 | true =>
  refine ite_tt (test_last<|thn (hc za s3 q H3 _ I3 q3) λw' s4 #[z',H4,I4,r4,q4]=>thn (ho' za s4 q H4 y z' u w' _ I4 r2 r4 q4) λd' s5 w=>?_);obtain⟨z2,H5,I5,r5,k2,e2,q5⟩:=w;subst e2;cases r5;exact eM #[H5,I5,q5]
def cO7(K:af)(x:V)(H:Hp)(k:Bool):Prop :=
 match x with
 | .non=>k=false
 | .bl b=>k=b
 | .int i=>k=(i != 0)
 | .str y=>y.length<=eR/\k=((y.length:Int) != 0)
 | .byt y=>y.size<=eR/\k=((y.size:Int) != 0)
 | .ref p=>(∃xs,SqL K H p xs/\k = !xs.isEmpty)\/(∃xs,SqT K H p xs/\k = !xs.isEmpty)\/∃kvs,H p=Oa (.dK kvs)/\k = !kvs.isEmpty
 | _=>False
def bb3{y:Type}{kvs:La (y×V)}{vs:La (y×fJ)}(r:KV kvs vs):(!vs.isEmpty) = !kvs.isEmpty:=by cases r<;>rfl
def ay9(r:F4 xs its):(!its.toArray.isEmpty) = !xs.isEmpty:=by cases r<;>simp
def ak2:(eR:Nat) < 2 ^ 63:=by rw[eT];decide
def cl8:cV6 X (λx H Q=>∃k,cO7 X.K x H k/\Q k H):=by
 intro za s z H x v Q I rx h;obtain⟨k,e,q⟩:=h;have hl:=ak2;have hs:eR=16777216:=eT;cases x with
 | non =>
  cases rx;have e':k=false:=e;subst e';exact truthy_none #[H,I,q]
 | bl b =>
  cases rx;have e':k=b:=e;subst e';exact eM #[H,I,q]
 | int i =>
  obtain⟨t,rfl⟩:=rx;have e':k=(i != 0):=e;subst e';exact PySem.P.truthy_int #[H,I,q]
 | str y =>
  obtain⟨t,rfl⟩:=rx;obtain⟨hy,e'⟩:y.length<=eR/\k=((y.length:Int) != 0):=e;subst e';exact PySem.P.truthy_str (by omega) #[H,I.tok _,q]
 | byt y =>
  obtain⟨t,rfl⟩:=rx;obtain⟨hy,e'⟩:y.size<=eR/\k=((y.size:Int) != 0):=e;subst e';exact PySem.W.truthy_bytes (by omega) #[H,I.tok _,q]
 | ref p =>
  cases rx;have e':(∃xs,SqL X.K H p xs/\k = !xs.isEmpty)\/(∃xs,SqT X.K H p xs/\k = !xs.isEmpty)\/∃kvs,H p=Oa (.dK kvs)/\k = !kvs.isEmpty:=e;rcases e' with⟨xs,hx,e'⟩|⟨xs,hx,e'⟩|⟨kvs,hx,e'⟩
  .subst e';obtain⟨its,r,pl,hz⟩:=I.list hx;have hlen:=r.length;exact wpAny_truthy_list pl.isList (by simp only[aq];omega) #[H,I.tok _,by rw[ay9 r];exact q]
  .subst e';obtain⟨its,r,pl,hz⟩:=I.tuple hx;have hlen:=r.length;exact truthy_tuple pl (by simp only[aq];omega) #[H,I.tok _,by rw[ay9 r];exact q]
  .subst e';obtain⟨hz,hS,vs,r,m⟩:kvs.length<=eR/\(p==sysModules)=false/\∃vs,KV kvs vs/\s.heap.DictOf (av5 X.prog X.w) p vs:=I.hok p _ hx;have hlen:kvs.length=vs.length:=Paired.length r;exact wpAny_truthy_dict hS m (by omega) #[H,I.tok _,by rw[bb3 r];exact q]
 | _=>exact(show False from e).elim
def aQ9(ha:PE X a ta)(he:∀whole,isTrue a X.env whole=(do let v <- whole;standAt a.pos;holding [v] (truthy v))):
  PT X a (λy H Q=>ta y H λx H'=>∃k,cO7 X.K x H' k/\Q k H'):=by
 intro za s y H Q I h;exact isTrue_plain (thn (ha za s y H _ I h) λv s1 #[x,H1,I1,r1,q1]=>cl8 za s1 y H1 x v Q I1 r1 q1)<|he _
def aZ1:OpR X (ff .Add) (λx y H Q=>∃i j,x=.str i/\y=.str j/\i.length+j.length<=eR/\Q (.str<|i++j) H):=by
 intro za s z H x y v u Q I rx ry h;obtain⟨i,j,rfl,rfl,hz,q⟩:=h;obtain⟨t,rfl⟩:=rx;obtain⟨t',rfl⟩:=ry;exact add_str (λt' tk=>#[.str<|i++j,H,I.tok _,#[_,rfl],q]) hz
def aa5(r:F4 [x] us):∃u,us=[u]/\J3 x u:=by
 cases r with
 | cons r1 r2=>cases r2;exact#[_,rfl,r1]
def bv5(r:F4 [x,y] us):∃u w',us=[u,w']/\J3 x u/\J3 y w':=by
 cases r with
 | cons r1 r2 =>
  cases r2 with
  | cons r3 r4=>cases r4;exact#[_,_,rfl,r1,r3]
def bs6(hc:X.calm=true):W4 X (.builtin "max") (λxs H Q=>∃i j,xs=[.int i,.int j]/\Q (.int (if j > i then j else i)) H):=by
 intro za s y H xs us Q I r h;obtain⟨i,j,rfl,q⟩:=h;obtain⟨u,w',rfl,⟨t,rfl⟩,⟨t',rfl⟩⟩:=bv5 r;refine max_two_ints (I.ok.hd hc) λh' tk k=>#[_,H,I.kept k,?_,q]
 by_cases hj:j > i
 .rw[if_pos hj,if_pos hj];exact#[_,rfl]
 .rw[if_neg hj,if_neg hj];exact#[_,rfl]
def aG4:W4 X (.type "int") (λxs H Q=>(∃i,xs=[.int i]/\Q (.int i) H)\/∃k,xs=[.bl k]/\Q (.int (if k then 1 else 0)) H):=by
 intro za s y H xs us Q I r h;rcases h with⟨i,rfl,q⟩|⟨k,rfl,q⟩
 .obtain⟨u,rfl,t,rfl⟩:=aa5 r;exact call_int_int #[.int i,H,I,#[_,rfl],q]
 .obtain⟨u,rfl,r1⟩:=aa5 r;cases r1;exact call_int_bool #[.int (if k then 1 else 0),H,I.tok _,#[_,rfl],q]
def aM9:W4 X (.type "str") (λxs H Q=>∃i,xs=[.int i]/\i.natAbs.log2 < 1920/\Q (.str<|toString i) H):=by
 intro za s y H xs us Q I r h;obtain⟨i,rfl,hz,q⟩:=h;obtain⟨u,rfl,t,rfl⟩:=aa5 r;exact PySem.P.str_of_int hz #[.str _,H,I.tok _,#[_,rfl],q]
end
structure ObjM (h:Heap) (x dx C:fL) (mA:Str->Option fJ):Prop where
 obj:h.get? x=Oa (PySem.W.instObj C dx)
 ns:h.Ns1 dx mA
 ne:dx≠x
def bp3{h:Heap}{dx:fL}{mA:Str->Ob fJ}(n:h.Ns1 dx mA):∃od,h.get? dx=Oa od/\∀name,PySem.W.lookIn name od=Oa (mA name):=by
 obtain⟨o,es,ep,ho,hd,hk,_,hm⟩:=n;refine#[o,ho,λname=>?_];have e:=hm name;unfold nsFind findBy at e;rw[<- Array.find?_toList]at e;unfold PySem.W.lookIn;rw[hd];dsimp only;split
 .rename_i y q;rw[q]at e;exact congrArg Oa e
 .rename_i q;rw[q]at e
  have a:es.toList.any (·.refKey)=false:=by
   rw[List.any_eq_false];intro y hy;obtain⟨z,t,hkey⟩:=hk y (cH.mp hy);simp[DictEntry.refKey,hkey]
  have a':¬es.toList.any (·.refKey)=true:=by rw[a];exact aX
  rw[if_neg a'];exact congrArg Oa e
def ObjM.look(I:ObjM h x dx C mA):∃od,PySem.W.InstAt h x (PySem.W.instObj C dx) C (Oa od)/\∀name,PySem.W.lookIn name od=Oa (mA name) :=
 let#[od,ho,hl]:=bp3 I.ns
 #[od,#[I.obj,rfl,rfl,ho],hl]
section
variable {prog:Program}{w:World}{A:Around}{E:Value->Shared->Prop}{s:Shared}{K:PySem.W.Frag}{x dx C f:Addr}{mA:Str->Ob Value}{name:Str}{v:Value}
def bZ5(X:K.In s.heap)(I:ObjM s.heap x dx C mA)(hg:PySem.W.plainGet K C name=true)(hh:PySem.W.hasDictIn K C=true)
  (ha:PySem.W.findIn K (.ref C) name=Oa Z) (hv:mA name=Oa v) (hv':PySem.W.handedIn v=true) (h:Q v { s with toks:=s.toks+1 }) :
  ft (fu prog w) A (getAttr (.ref x) name expr) Q E s:=by
 obtain⟨od,J,hl⟩:=I.look;exact PySem.W.get_value X J (PySem.W.plainGet_of hg).1 (PySem.W.findObj_own hh ha rfl<|by rw[hl,hv]) hv' h
def bJ8(X:K.In s.heap)(I:ObjM s.heap x dx C mA)(hg:PySem.W.plainGet K C name=true)
  (hf:PySem.W.findIn K (.ref C) name=Oa (Oa<|.ref f)) (ht:PySem.W.isFn K (.ref f)=true) (hv:mA name=Z) (h:Q (.ref f,[.ref x]) s) :
  ft (fu prog w) A (getMethod (.ref x) name pl) Q E s:=by
 obtain⟨od,J,hl⟩:=I.look;exact PySem.W.method_fn X J (PySem.W.plainGet_of hg).1 (PySem.W.plainGet_of hg).2 hf (beq_iff_eq.mp ht) (by show(PySem.W.lookIn name od).map (·.isSome)=Oa false;rw[hl,hv];rfl) h
def bR8(X:K.In s.heap)(I:ObjM s.heap x dx C mA)
  (hs:PySem.W.findIn K (.ref C) "__setattr__" = Oa (Oa<|.builtin "object.__setattr__")) (hp:PySem.W.plainOver K C=true) (ht:PySem.W.takerIn K C name=Oa Z) (hh:PySem.W.hasDictIn K C=true)
  (hw:PySem.Within mA ns) (hsz:ns.length<=eR)
  (h:∀h',ObjM h' x dx C (λy=>if y=name then Oa v else mA y)->Heap.SameBut dx s.heap h'->Q () { s with heap:=h',toks:=s.toks+2 }) :
  ft (fu prog w) A (setAttr (.ref x) name v) Q E s:=by
 obtain⟨od,J,hl⟩:=I.look;refine PySem.W.set_plain X J hs (PySem.W.osa_open (s:={ s with toks:=s.toks+1 }) (r:=Z) X J hp ht λb=>?_);obtain⟨cd,hc,hd'⟩:=PySem.W.any_some hh;have hx:s.heap.get? x=Oa #[.ref C,Oa dx,.plain,(List.toArray [])]:=I.obj;refine eF (eG<|eF (eF<|wpAny_loadPart hx (eF<|PySem.W.Looks.here (s:={ s with toks:=s.toks+1 }) (PySem.W.looks_clsIn X hc) ?_)));rw[hd'];refine eG (a:=Oa dx) (eF<|eG (eF ?_));refine wpAny_nsSet1 (s:={ s with toks:=s.toks+1 }) I.ns λh' hn2 hs2=>?_
 obtain⟨oD,esD,epD,hoD,hdD,hcD⟩:=hn2.count (PySem.Within.cons name v hw);refine eF (wpAny_lookBehind hoD (by rw[hdD];exact pastItsLine_dict<|aI hcD (by rw[ag];omega)) ?_);exact eG<|h _ #[(hs2.2 _<|Ne.symm I.ne).trans I.obj,hn2,I.ne] hs2
def bD8(X:K.In s.heap)(hm:PySem.W.makesIn K C=true)
  (hi:PySem.W.findIn K (.ref C) "__init__" = Oa (Oa<|.ref f)) (hf:PySem.W.typeIn K (.ref f)=Oa (.type "function"))
  (h:codeAny (fu prog w) (A.under (.builtin "type.__call__" #[.ref C::vs,kw])) (.call (.ref f) #[.ref (s.heap.objs.size+1)::vs,kw]) (PySem.W.InitBack (s.heap.objs.size+1) R)
   { s with heap:=(s.heap.push PySem.W.emptyDict).push (PySem.W.instObj C s.heap.objs.size) }) :
  codeAny (fu prog w) A (.call (.ref C) #[vs,kw]) R s:=by
 obtain⟨hh,g,d,t,os⟩:=s;exact PySem.W.make_core (PySem.W.makes_of X hm) (PySem.W.looks_findIn X hi) (λself=>PySem.W.bind_fn X self hf) (.inl rfl) h
end
noncomputable def m4(f:Str)(v:V):La (Str×V)->La (Str×V)
 | []=>[(f,v)]
 | (g,x)::r=>if g=f then(g,v)::r else(g,x)::m4 f v r
theorem ar8(f g:Str)(v:V):∀fs:La (Str×V),(m4 f v fs).lookup g=if g=f then Oa v else fs.lookup g
 | []=>by
  show bK g [(f,v)]=_;by_cases h:g=f
  .have hb:(g==f)=true:=beq_iff_eq.mpr h;simp only[bK,hb,if_pos h]
  .have hb:(g==f)=false:=beq_eq_false_iff_ne.mpr h;simp only[bK,hb,if_neg h]
 | (k,x)::r=>by
  have ih:=ar8 f g v r;rw[show m4 f v ((k,x)::r)=(if k=f then(k,v)::r else(k,x)::m4 f v r) from rfl];by_cases hk:k=f
  .rw[if_pos hk];by_cases h:g=k
   .have hb:(g==k)=true:=beq_iff_eq.mpr h;simp only[bK,hb,if_pos (h.trans hk)]
   .have hb:(g==k)=false:=beq_eq_false_iff_ne.mpr h;simp only[bK,hb,if_neg (λe:g=f=>h<|e.trans hk.symm)]
  .rw[if_neg hk];by_cases h:g=k
   .have hb:(g==k)=true:=beq_iff_eq.mpr h;simp only[bK,hb,if_neg (λe:g=f=>hk<|h.symm.trans e)]
   .have hb:(g==k)=false:=beq_eq_false_iff_ne.mpr h;simp only[bK,hb];exact ih
theorem ap3(f:Str)(v:V):∀fs:La (Str×V),f∈(m4 f v fs).map (·.1)/\∀g,g∈fs.map (·.1)->g∈(m4 f v fs).map (·.1)
 | []=>#[by simp[m4],λg h=>by simp at h]
 | (k,x)::r=>by
  obtain⟨i1,i2⟩:=ap3 f v r;rw[show m4 f v ((k,x)::r)=(if k=f then(k,v)::r else(k,x)::m4 f v r) from rfl];by_cases hk:k=f
  .rw[if_pos hk];subst hk;exact#[by simp,λg h=>by simpa using h]
  .rw[if_neg hk];refine#[?_,λg h=>?_]
   .rw[cX];exact xmm _ i1
   .rw[cX]at h |-;rcases ao.mp h with e|e
    .exact ao.mpr (.inl e)
    .exact xmm _ (i2 g e)
theorem ar9(f:Str)(v:V):∀fs:La (Str×V),(m4 f v fs).length<=fs.length+1
 | []=>by simp[m4]
 | (k,x)::r=>by
  have ih:=ar9 f v r;rw[show m4 f v ((k,x)::r)=(if k=f then(k,v)::r else(k,x)::m4 f v r) from rfl];by_cases hk:k=f
  .rw[if_pos hk,ag,ag];omega
  .rw[if_neg hk,ag,ag];omega
def aD8.some_of(r:aD8 (Oa v) o):∃u,o=Oa u/\J3 v u:=by
 cases o with
 | none=>exact(show False from r).elim
 | some u=>exact#[u,rfl,r]
def aD8.none_of(r:aD8 Z o):o=Z:=by
 cases o with
 | none=>rfl
 | some u=>exact(show False from r).elim
def bq2(r:J3 v u):PySem.W.handedIn u=true:=by
 cases v with
 | non=>cases(show u=fG from r);rfl
 | bl b=>cases(show u=Value.bool b from r);rfl
 | int i=>obtain⟨t,e⟩:=(show ∃t,u=Value.int i t from r);cases e;rfl
 | str x=>obtain⟨t,e⟩:=(show ∃t,u=Value.str x t from r);cases e;rfl
 | byt b=>obtain⟨t,e⟩:=(show ∃t,u=Value.bytes b t from r);cases e;rfl
 | flt b=>obtain⟨t,e⟩:=(show ∃t,u=Value.float b t from r);cases e;rfl
 | ref a=>cases(show u=fF a from r);rfl
 | ty n=>cases(show u=Value.type n from r);rfl
section
variable {P:Program}{w:World}{H H':Hp}{h h':Heap}{a C dx:Addr}{fs fs':La (Str×V)}
def aL6(hok:HOk P w H h)(e:H a=Oa (.ins C dx fs)):∃mA,ObjM h a dx C mA/\(∀f,aD8 (fs.lookup f)<|mA f)/\PySem.Within mA (fs.map (·.1))/\fs.length<=1000/\H dx=Oa (.own a):=by
 obtain⟨d,z,ne,ob,mA,n,r,q⟩:=(show P8 P w H h a (.ins C dx fs) from hok a _ e);exact#[mA,#[ob,n,ne],r,q,z,d]
end
structure Cls (K:af) (C:fL):Prop where
 pg:PySem.W.plainGet K C fI=true
 hd:PySem.W.hasDictIn K C=true
 po:PySem.W.plainOver K C=true
 sa:PySem.W.findIn K (.ref C) "__setattr__" = Oa (Oa<|.builtin "object.__setattr__")
def Cls.get{K:af}{C:fL}(c:Cls K C)(f:Str):PySem.W.plainGet K C f=true:=c.pg
def ak6(K:af)(C:fL)(f:Str):Prop:=PySem.W.findIn K (.ref C) f=Oa Z
def ak6.taker{K:af}{C:fL}{f:Str}(n:ak6 K C f):PySem.W.takerIn K C f=Oa Z:=by
 unfold PySem.W.takerIn;rw[show PySem.W.findIn K (.ref C) f=Oa Z from n];rfl
structure Meth (K:af) (C:fL) (m:Str) (f:fL):Prop where
 at_:PySem.W.findIn K (.ref C) m=Oa (Oa<|.ref f)
 fn:PySem.W.isFn K (.ref f)=true
 kp:aN K (.ref f)=true
section
variable {X:Cx}{za:La (Addr×Obj)}{p:St}{H:Hp}{s:Shared}{a C dx:Addr}{fs:La (Str×V)}{f:Str}{v:V}{A:Around}{E:Value->Shared->Prop}
def bb8(I:Inv X za p H s)(e:H a=Oa (.ins C dx fs))(c:Cls X.K C)(n:ak6 X.K C f)(l:fs.lookup f=Oa v)
  (h:∀u s',Inv X za p H s'->J3 v u->Q u s'):ft (fu X.prog X.w) A (getAttr (.ref a) f b) Q E s:=by
 obtain⟨mA,O,r,_,_,_⟩:=aL6 I.hok e;obtain⟨u,hu,ru⟩:=aD8.some_of (v:=v) (o:=mA f) (by rw[<- l];exact r f);exact bZ5 I.kIn O (c.get f) c.hd n hu (bq2 ru)<|h u _ (I.tok _) ru
def az1(I:Inv X za p H s)(e:H a=Oa (.ins C dx fs))(c:Cls X.K C)(k:Meth X.K C m g)(l:fs.lookup m=Z)
  (h:Q (.ref g,[.ref a]) s):ft (fu X.prog X.w) A (getMethod (.ref a) m pl) Q E s:=by
 obtain⟨mA,O,r,_,_,_⟩:=aL6 I.hok e;have hn:mA m=Z:=aD8.none_of (by rw[<- l];exact r m);exact bJ8 I.kIn O (c.get m) k.at_ k.fn hn h
def aX9(I:Inv X za p H s)(e:H a=Oa (.ins C dx fs))(c:Cls X.K C)(n:ak6 X.K C f)(hl:fs.length < 1000)(ry:J3 y u)
  (h:∀s',Inv X za p (upd H a<|.ins C dx (m4 f y fs)) s'->Q () s'):ft (fu X.prog X.w) A (setAttr (.ref a) f u) Q E s:=by
 obtain⟨mA,O,r,wi,_,ho⟩:=aL6 I.hok e;have hz:(fs.map (·.1)).length<=eR:=by rw[ai,eT];omega
 refine bR8 I.kIn O c.sa c.po n.taker c.hd wi hz λh' O' sb=>h _ ?_
 have hd:∃o,h'.get? dx=Oa o:=let#[o,_,_,e',_]:=O'.ns;#[o,e']
 refine I.write (x:=a) (e:=dx) (by rw[e];exact True.intro) (.inr ho) (λb q hb z=>(sb.2 b hb).trans z) hd ?_;refine#[by rw[D0 O.ne];exact ho,?_,O.ne,O'.obj,_,O'.ns,λg=>?_,λg hg=>?_]
 .have:=ar9 f y fs;omega
 .show aD8 ((m4 f y fs).lookup g) (if g=f then Oa u else mA g);rw[ar8];by_cases q:g=f
  .rw[if_pos q,if_pos q];exact ry
  .rw[if_neg q,if_neg q];exact r g
 .by_cases q:g=f
  .rw[q];exact(ap3 f y fs).1
  .refine(ap3 f y fs).2 g (wi g λz=>hg ?_);show(if g=f then Oa u else mA g)=Z;rw[if_neg q];exact z
def Inv.made(I:Inv X za p H s):Inv X za p (upd (upd H s.heap.objs.size<|.own (s.heap.objs.size+1)) (s.heap.objs.size+1)<|.ins C s.heap.objs.size [])
  { s with heap:=(s.heap.push PySem.W.emptyDict).push (PySem.W.instObj C s.heap.objs.size) }:=by
 have e1:(s.heap.push PySem.W.emptyDict).get? s.heap.objs.size=Oa PySem.W.emptyDict:=fx s.heap rfl
 have e2:((s.heap.push PySem.W.emptyDict).push<|PySem.W.instObj C s.heap.objs.size).get? (s.heap.objs.size+1)=Oa (PySem.W.instObj C s.heap.objs.size):=by
  have:=fx (s.heap.push PySem.W.emptyDict) (o:=PySem.W.instObj C s.heap.objs.size) rfl
  rwa [Heap.size_push]at this
 have e3:(s.heap.push PySem.W.emptyDict).Ns s.heap.objs.size (λ_=>Z):=#[PySem.W.emptyDict,(List.toArray []),_,e1,rfl,(λe he=>absurd he<|by simp),λ_=>rfl];have I1:=I.laid (a:=s.heap.objs.size) (o:=.own<|s.heap.objs.size+1) (h':=s.heap.push PySem.W.emptyDict) (t':=s.toks) (λb u q=>fv _ q) (ak _) #[_,e1];refine I1.laid (a:=s.heap.objs.size+1) (o:=.ins C s.heap.objs.size []) (t':=s.toks) (λb u q=>fv _ q) (dS<|Heap.size_push _ _) ?_;have ne:s.heap.objs.size≠s.heap.objs.size+1:=aP (ci _);refine#[by rw[D0 ne,C9],aA _,ne,e2,λ_=>Z,(Heap.Ns1.of_empty e3).at λo q=>fv _ q,λ_=>True.intro,λy hy=>absurd rfl hy]
def cb2(hb:fq e f env (eval e env)=eval e env)
  (h:ft (fu prog w) A (eval e env) (λo s₁=>ft (fu prog w) A (getAttr o f true) Q E s₁) E s):ft (fu prog w) A (eval (.Attribute e f pos) env) Q E s :=
 Attribute_any_ h (by rw[arm_eval_Attribute,hb])
end
def cQ6(K:af)(ta:TE)(f:Str):TE:=λy H Q=>ta y H λx H1=>∃a C dx fs v,x=.ref a/\H1 a=Oa (.ins C dx fs)/\Cls K C/\ak6 K C f/\fs.lookup f=Oa v/\Q v H1
def cR3(K:af)(ta tv:TE)(f:Str):TS:=λD z H=>tv z H λy H1=>ta z H1 λx H2=>∃a C dx fs,x=.ref a/\H2 a=Oa (.ins C dx fs)/\Cls K C/\ak6 K C f/\fs.length < 1000 /\
 D.nx z (upd H2 a<|.ins C dx (m4 f y fs))
section
variable {X:Cx}{o e value:Expr}{f:Str}{pos pos' tpos:Pos}{ta tv:TE}
def cp4(he:PE X e ta)(hb:fq e f X.env (eval e X.env)=eval e X.env):PE X (.Attribute e f pos) (cQ6 X.K ta f):=by
 intro za s y H Q I h;refine cb2 hb (thn (he za s y H _ I h) λu s1 w=>?_);obtain⟨x,H1,I1,rx,a,C,dx,fs,v,ex,ea,c,n,l,q⟩:=w;subst ex;obtain rfl:u=fF a:=rx;exact bb8 I1 ea c n l λu' s2 I2 ru=>#[v,H1,I2,ru,q]
def co2(ha:PE X o ta)(hv:PE X value tv)(hs:swapsWith value (Oa<|.Attribute o f pos') pos.line X.env=pure false):PS X (.Assign [.Attribute o f pos'] value pos) (cR3 X.K ta tv f):=by
 intro za s z H D I h;refine plainObj_wpAny_Assign_Attribute (thn (hv za s z H _ I h) λu s1 #[y,H1,I1,ry,q]=>thn (ha za s1 z H1 _ I1 q) λov s2 w=>?_) hs;obtain⟨x,H2,I2,rx,a,C,dx,fs,ex,ea,c,n,l,q2⟩:=w;subst ex;obtain rfl:ov=fF a:=rx;exact aX9 I2 ea c n l ry λs3 I3=>#[z,_,I3,q2]
def ce8(he:PE X e te)(I:Inv X za z H s)
  (h:te z H λx H1=>∃a C dx fs g,x=.ref a/\H1 a=Oa (.ins C dx fs)/\Cls X.K C/\Meth X.K C m g/\fs.lookup m=Z /\
   ∀s1,Inv X za z H1 s1->ft (fu X.prog X.w) X.A (callWith pos (.ref g) [.ref a] (backTo pos (eQ args X.env)) (backToKw pos (keywordEach [] X.env))) Q X.xe s1)
  (ht:eval (.Call (.Attribute e m apos) args [] pos) X.env=(do
   let ov <- eval e X.env
   standAt apos.atName
   let(f,first) <- holding [ov] (getMethod ov m pl)
   callWith pos f first (backTo pos (eQ args X.env)) (backToKw pos (keywordEach [] X.env)))) :
  ft (fu X.prog X.w) X.A (eval (.Call (.Attribute e m apos) args [] pos) X.env) Q X.xe s:=by
 refine PySem.W.methodCall_KW (pl:=pl) (thn (he za s z H _ I h) λu s1 y=>?_) ht;obtain⟨x,H1,I1,rx,a,C,dx,fs,g,ex,ea,c,k,l,q⟩:=y;subst ex;obtain rfl:u=fF a:=rx;exact az1 I1 ea c k l<|q s1 I1
end
structure Room (k:Nat) (A:eY):Prop where
 hd:A.handled=Z
 dp:A.depth+3*k+5 < recursionLimit
 un:A.units+16*k+200 < cLine
def Room.mono(r:Room k A)(h:j<=k):Room j A:=#[r.hd,by have:=r.dp;omega,by have:=r.un;omega]
theorem Room.deeper(r:Room (k+1) A)(env:Env):Room k (A.deeper env) :=
 #[r.hd,by have:=r.dp;show A.depth+1+3*k+5 < _;omega,by have:=r.un;show A.units+3+16*k+200 < _;omega]
def aZ8{A:eY}{C:fL}{us:La fJ}{kw:La (Str×fJ)}:(A.under<|.builtin "type.__call__" #[.ref C::us,kw]).depth=A.depth+1:=by first|rfl|simp[Around.under,Code.weight,Code.isCreation,Code.isGuard,Code.isCaller,Code.frames,Code.isFrame,guardIds]
def aZ7{A:eY}{C:fL}{us:La fJ}{kw:La (Str×fJ)}:(A.under<|.builtin "type.__call__" #[.ref C::us,kw]).units=A.units+1:=by first|rfl|simp[Around.under,Code.cUnits,Code.frames,Code.isFrame]
def Room.make(r:Room (k+1) A)(C:fL)(us:La fJ)(kw:La (Str×fJ)):Room k (A.under<|.builtin "type.__call__" #[.ref C::us,kw]) :=
 #[r.hd,by have:=r.dp;rw[aZ8];omega,by have:=r.un;rw[aZ7];omega]
theorem Room.depth(r:Room k A):A.depth < recursionLimit:=by have:=r.dp;omega
theorem Room.units(r:Room k A):A.units+64 < cLine:=by have:=r.un;omega
def bQ9:TA:=λ_ H Q=>Q [] H
def cF1(ta:TE)(tr:TA):TA:=λy H Q=>ta y H λx H1=>tr y H1 λxs H2=>Q (x::xs) H2
section
variable {X:Cx}{e:Expr}{es:La Expr}{te:TE}{t:TA}{pos:Pos}
def G6:PA X [] bQ9:=λ_ _ _ _ H Q I h=>Calls.spliced_nil #[[],H,I,.nil,h]
def E6(ha:PE X e te)(hr:PA X es t)(hs:eQ (e::es) X.env=(false,eval e X.env)::eQ es X.env:=by rfl):PA X (e::es) (cF1 te t):=by
 intro pos za s y H Q I h;rw[hs];show ft _ _ (spliced ((false,eval e X.env)::backTo pos (eQ es X.env))) _ _ s;refine Calls.spliced_cons (thn (ha za s y H _ I h) λu s1 w=>?_);obtain⟨x,H1,I1,r1,q1⟩:=w;exact thn (hr pos za s1 y H1 _ I1 q1) λus s2 #[xs,H2,I2,r2,q2]=>#[x::xs,H2,I2,.cons r1 r2,q2]
def cP8(t:TA):TE:=λy H Q=>t y H λxs H1=>xs.length<=eR/\∀p,H1 p=Z->Q (.ref p) (upd H1 p<|.tup xs)
def cQ3(t:TA):TE:=λy H Q=>t y H λxs H1=>xs.length<=eR/\∀p,H1 p=Z->Q (.ref p) (upd H1 p<|.lst xs)
def bB2{x1}(h:PA X es t):PE X (.Tuple es x1 pos) (cP8 t):=by
 intro za s y H Q I hq;refine wpAny_Tuple_spliced (thn (h pos za s y H _ I hq) λus s1 #[xs,H1,I1,r,z,q]=>#[by rw[<- r.length];exact z,?_]);have hf:H1 s1.heap.objs.size=Z:=I1.hok.fresh (ak _);refine#[.ref s1.heap.objs.size,upd H1 s1.heap.objs.size<|.tup xs,I1.laid (t':=s1.toks) (λb u e=>fv _ e) (ak _) ?_,rfl,q _ hf];exact#[z,us,r,#[_,fx _ rfl,rfl,#[_,rfl],rfl]]
def cp2(h:PA X es t):PE X (.List es pos) (cQ3 t):=by
 intro za s y H Q I hq;refine wpAny_List_spliced (thn (h pos za s y H _ I hq) λus s1 #[xs,H1,I1,r,z,q]=>#[by rw[<- r.length];exact z,?_]);have hf:H1 s1.heap.objs.size=Z:=I1.hok.fresh (ak _);refine#[.ref s1.heap.objs.size,upd H1 s1.heap.objs.size<|.lst xs,I1.laid (t':=s1.toks) (λb u e=>fv _ e) (ak _) ?_,rfl,q _ hf];exact#[z,us,0,r,fx _ rfl]
end
abbrev Sp:=La V->Hp->VK->XK->Prop
abbrev CXT:=La Env->Hp->fK->XK->fJ->fK->Prop
structure Env0 (P:eX) (w:World) (K:af) (mg:Str->Option fJ) (base:Heap) (A:eY) (outer:List Env) (s:fK) (H:Hp):Prop where
 frames:A.frames=Oa outer
 mod:Mod K mg base
 bs:∀b o,base.get? b=Oa o->s.heap.get? b=Oa o/\H b=Z
 bsz:base.objs.size<=s.heap.objs.size
 funs:s.heap.FunFrames base outer
 frf:∀b∈frs outer,H b=Z
 hok:HOk P w H s.heap
 bare:AllBare s.gens
def CE(outer:La Env)(P:eX)(w:World)(H:Hp)(s:fK)(Q:VK)(u:fJ)(s':fK):Prop :=
 ∃v H',s'.os=s.os/\AllBare s'.gens/\Un (frs outer) [] H H' s.heap s'.heap/\HOk P w H' s'.heap/\J3 v u/\Q v H'
def CR(CX:CXT)(outer:La Env)(P:eX)(w:World)(H:Hp)(s:fK)(Q:VK)(E:XK)(r:Result)(s':fK):Prop :=
 match r with
 | .ok (.ret u)=>CE outer P w H s Q u s'
 | .ok _=>False
 | .error e=>CX outer H s E e s'
structure FnOk (P:eX) (w:World) (K:af) (mg:Str->Option fJ) (base:Heap) (CX:CXT) (k:Nat) (f:fL) (fd:eZ) (ps:List Str) (sp:Sp):Prop where
 len:∀vs H Q E,sp vs H Q E->vs.length=ps.length
 run:∀(A:eY) (outer:List Env) (s:fK) (H:Hp) (args:Args) (us:List fJ) (vs:List V) (Q:VK) (E:XK),Room k A->Env0 P w K mg base A outer s H->BindsTo s fd args (ps.zip us)->F4 vs us->sp vs H Q E ->
  codeAny (fu P w) A (.call (.ref f) args) (CR CX outer P w H s Q E) s
theorem FnOk.mono{P:eX}{w:World}{K:af}{mg:Str->Ob fJ}{base:Heap}{CX:CXT}{j k:Nat}{f:fL}{fd:eZ}{ps:La Str}{sp:Sp}(F:FnOk P w K mg base CX j f fd ps sp)(h:j<=k):
  FnOk P w K mg base CX k f fd ps sp:=#[F.len,λA outer s H args us vs Q E hr=>F.run A outer s H args us vs Q E<|hr.mono h]
def Env0.make{P:eX}{w:World}{K:af}{mg:Str->Ob fJ}{base:Heap}{A:eY}{outer:La Env}{s:fK}{H:Hp}(e:Env0 P w K mg base A outer s H)(C:fL)(us:La fJ)(kw:La (Str×fJ)):
  Env0 P w K mg base (A.under<|.builtin "type.__call__" #[.ref C::us,kw]) outer s H:=#[by first|exact e.frames|(simpa [Around.under,Code.envs,Code.isFrame,pushEnvs] using e.frames),e.mod,e.bs,e.bsz,e.funs,e.frf,e.hok,e.bare]
section
variable {X:Cx}{za:La (Addr×Obj)}{y:St}{H:Hp}{s s':Shared}
def Inv.env0(I:Inv X za y H s):Env0 X.prog X.w X.K X.mg X.base X.A X.stack s H :=
 #[I.ok.frames,I.ok.mod,I.bs,aI I.ok.bsz I.sz,I.stack,I.stkFree,I.hok,I.bare]
def Inv.after(I:Inv X za y H s)(h:CE X.stack X.prog X.w H s Q u s'):EP X za y Q u s':=by
 obtain⟨v,H',os,bare,un,hok,r,q⟩:=h;obtain⟨hh,g,d,t,os'⟩:=s';obtain rfl:os'=s.os:=os;exact#[v,H',I.call (h':=hh) (g':=g) (d':=d) (t':=t) (ch:=[]) un hok bare (λb z=>absurd z<|by simp),r,q]
end
def cc7(sp:Sp)(dvs:La V)(E:XK)(t:TA):TE:=λy H Q=>t y H λvs H1=>sp (vs++dvs) H1 Q E
def cE9(C:fL)(m:Str)(sp:Sp)(dvs:La V)(E:XK)(ta:TE)(t:TA):TE:=λy H Q=>ta y H λx H1=>∃a dx fs,x=.ref a/\H1 a=Oa (.ins C dx fs)/\fs.lookup m=Z /\
 t y H1 λvs H2=>sp (x::(vs++dvs)) H2 Q E
def cc6(C:fL)(sp:Sp)(dvs:La V)(E:XK)(t:TA):TE:=λy H Q=>t y H λvs H1=>∀x dx,H1 x=Z->H1 dx=Z->dx≠x ->
 sp (.ref x::(vs++dvs)) (upd (upd H1 dx<|.own x) x<|.ins C dx []) (λv H2=>v=.non/\Q (.ref x) H2) E
def K0(K:af)(fd:eZ)(ps:La Str)(ds:La fJ):Prop :=
 ∀(s:fK) (us:La fJ),K.In s.heap->(us++ds).length=ps.length->BindsTo s fd #[us,[]] (ps.zip<|us++ds)
def K0.all{K:af}{fd:eZ}{ps:La Str}(h:∀us:La fJ,us.length=ps.length->bindArgs fd #[us,[]]=pure (ps.zip us)):K0 K fd ps []:=λs us _ hl=>by
 rw[ar]at hl |-;exact .of_eq<|h us hl
def x6(CX:CXT)(X:Cx)(E:XK):Prop:=∀(za:La (fL×Obj)) (y:St) (H:Hp) (s:fK) (e:fJ) (s':fK),Inv X za y H s->CX X.stack H s E e s'->X.xe e s'
section
variable {X:Cx}{CX:CXT}{k:Nat}{f C:Addr}{fd:FuncData}{ps:La Str}{sp:Sp}{dvs:La V}{ds:La Value}{E:XK}{x m:Str}{p pos apos:Pos}{e o:Expr}{es:La Expr}{ta:TE}{t:TA}
def aY2(F:FnOk X.prog X.w X.K X.mg X.base CX k f fd ps sp)(hr:Room k X.A)(hb:K0 X.K fd ps ds)(hd:F4 dvs ds)(hx:x6 CX X E)
  (I:Inv X za y H s) (r:F4 vs us) (h:sp (vs++dvs) H Q E):ft (fu X.prog X.w) X.A (call (.ref f) us) (EP X za y Q) X.xe s:=by
 have r2:F4 (vs++dvs) (us++ds):=r.append hd;have hl:(us++ds).length=ps.length:=by rw[<- r2.length];exact F.len _ _ _ _ h
 refine wpAny_call (codeAny_mono (F.run X.A X.stack s H #[us,[]] (us++ds) (vs++dvs) Q E hr I.env0 (hb s us I.kIn hl) r2 h) λr s' hq=>?_);cases r with
 | error e=>exact hx za y H s e s' I hq
 | ok fl =>
  cases fl with
  | ret u=>exact I.after hq
  | next=>exact False.elim hq
  | brk=>exact False.elim hq
  | cont=>exact False.elim hq
def am3(F:FnOk X.prog X.w X.K X.mg X.base CX k f fd ps sp)(hr:Room k X.A)(hg:Gl X x)(hm:X.mg x=Oa (.ref f))(hk:aN X.K (.ref f)=true)(hb:K0 X.K fd ps ds)(hd:F4 dvs ds)(hx:x6 CX X E)
  (ha:PA X (e::es) t) (hdb:(x==("__debug__":Str))=false:=by decide) (he:eQ (e::es) X.env=(false,eval e X.env)::eQ es X.env:=by rfl) (hpl:(backTo pos<|eQ es X.env).any (·.1)=false:=by rfl) :
  PE X (.Call (.Name x p) (e::es) [] pos) (cc7 sp dvs E t):=by
 intro za s y H Q I h;refine wpAny_Call_Name_kw (X4 I hg hm ?_ hdb);refine PySem.W.callWith_K (h₀:=X.base) I.ok.mod.kin hk (thn (ha pos za s y H _ I h) λus s1 #[vs,H1,I1,r,q]=>#[I1.kIn,?_]) he hpl;exact aY2 F hr hb hd hx I1 r q
def bB6(F:FnOk X.prog X.w X.K X.mg X.base CX k f fd ps sp)(hr:Room k X.A)(hg:Gl X x)(hm:X.mg x=Oa (.ref f))(hk:aN X.K (.ref f)=true)(hb:K0 X.K fd ps ds)(hd:F4 dvs ds)(hx:x6 CX X E)
  (hdb:(x==("__debug__":Str))=false:=by decide):PE X (.Call (.Name x p) [] [] pos) (cc7 sp dvs E bQ9):=by
 intro za s y H Q I h;refine wpAny_Call_Name_kw (X4 I hg hm ?_ hdb);exact PySem.W.callWith_K0 I.kIn hk<|aY2 (us:=[]) F hr hb hd hx I .nil h
def bB4(he:PE X o ta)(c:Cls X.K C)(hm:Meth X.K C m f)(F:FnOk X.prog X.w X.K X.mg X.base CX k f fd ps sp)(hr:Room k X.A)(hb:K0 X.K fd ps ds)(hd:F4 dvs ds)(hx:x6 CX X E)
  (ht:eval (.Call (.Attribute o m apos) [] [] pos) X.env=(do
   let ov <- eval o X.env
   standAt apos.atName
   let(f,first) <- holding [ov] (getMethod ov m pl)
   callWith pos f first (backTo pos (eQ [] X.env)) (backToKw pos (keywordEach [] X.env))):=by rfl) :
  PE X (.Call (.Attribute o m apos) [] [] pos) (cE9 C m sp dvs E ta bQ9):=by
 intro za s z H Q I h;refine PySem.W.methodCall_KW (pl:=pl) (thn (he za s z H _ I h) λu s1 y=>?_) ht;obtain⟨x,H1,I1,rx,a,dx,fs,ex,ea,l,q⟩:=y;subst ex;obtain rfl:u=fF a:=rx;refine az1 I1 ea c hm l ?_;exact PySem.W.callWith_K0 (first:=[.ref a]) I1.kIn hm.kp<|aY2 (us:=[.ref a]) (vs:=[.ref a]) F hr hb hd hx I1 (.cons rfl .nil) q
structure Mk (K:af) (C f:fL):Prop where
 makes:PySem.W.makesIn K C=true
 init:PySem.W.findIn K (.ref C) "__init__" = Oa (Oa<|.ref f)
 fn:PySem.W.isFn K (.ref f)=true
 kp:aN K (.ref C)=true
def aQ4(M:Mk X.K C f)(F:FnOk X.prog X.w X.K X.mg X.base CX k f fd ps sp)(hr:Room (k+1) X.A)(hb:K0 X.K fd ps ds)(hd:F4 dvs ds)
  (hx:x6 CX X E) (I:Inv X za y H s) (r:F4 vs us)
  (h:∀x dx,H x=Z->H dx=Z->dx≠x->sp (.ref x::(vs++dvs)) (upd (upd H dx<|.own x) x<|.ins C dx []) (λv H2=>v=.non/\Q (.ref x) H2) E) :
  ft (fu X.prog X.w) X.A (call (.ref C) us) (EP X za y Q) X.xe s:=by
 have hq:=h (s.heap.objs.size+1) s.heap.objs.size (I.hok.fresh<|bM _) (I.hok.fresh<|ak _) (aP<|ci _);have I2:=Inv.made (C:=C) I;have r2:F4 (V.ref (s.heap.objs.size+1)::(vs++dvs)) (fF (s.heap.objs.size+1)::(us++ds)):=.cons rfl<|r.append hd
 have hl:(fF (s.heap.objs.size+1)::us++ds).length=ps.length:=by
  have e:=r2.length;rw[F.len _ _ _ _ hq]at e;exact e.symm
 refine wpAny_call (bD8 (f:=f) I.kIn M.makes M.init (beq_iff_eq.mp M.fn) (codeAny_mono (F.run _ X.stack _ _ #[fF (s.heap.objs.size+1)::us,[]] (fF (s.heap.objs.size+1)::(us++ds)) _ _ E (hr.make C us [])
  (I2.env0.make C us []) (hb _ (fF (s.heap.objs.size+1)::us) I2.kIn hl) r2 hq) λr s' hq'=>?_))
 cases r with
 | error e=>exact hx za y _ _ e s' I2 hq'
 | ok fl =>
  cases fl with
  | ret u =>
   obtain⟨v,H',I3,rv,ev,q3⟩:=I2.after hq';subst ev;exact#[rv,#[V.ref<|s.heap.objs.size+1,H',I3,rfl,q3]]
  | next=>exact False.elim hq'
  | brk=>exact False.elim hq'
  | cont=>exact False.elim hq'
def bU0(M:Mk X.K C f)(F:FnOk X.prog X.w X.K X.mg X.base CX k f fd ps sp)(hr:Room (k+1) X.A)(hg:Gl X x)(hm:X.mg x=Oa (.ref C))(hb:K0 X.K fd ps ds)(hd:F4 dvs ds)(hx:x6 CX X E)
  (ha:PA X (e::es) t) (hdb:(x==("__debug__":Str))=false:=by decide) (he:eQ (e::es) X.env=(false,eval e X.env)::eQ es X.env:=by rfl) (hpl:(backTo pos<|eQ es X.env).any (·.1)=false:=by rfl) :
  PE X (.Call (.Name x p) (e::es) [] pos) (cc6 C sp dvs E t):=by
 intro za s y H Q I h;refine wpAny_Call_Name_kw (X4 I hg hm ?_ hdb);refine PySem.W.callWith_K (h₀:=X.base) I.ok.mod.kin M.kp (thn (ha pos za s y H _ I h) λus s1 #[vs,H1,I1,r,q]=>#[I1.kIn,?_]) he hpl;exact aQ4 M F hr hb hd hx I1 r q
def bB5(M:Mk X.K C f)(F:FnOk X.prog X.w X.K X.mg X.base CX k f fd ps sp)(hr:Room (k+1) X.A)(hg:Gl X x)(hm:X.mg x=Oa (.ref C))(hb:K0 X.K fd ps ds)(hd:F4 dvs ds)(hx:x6 CX X E)
  (hdb:(x==("__debug__":Str))=false:=by decide):PE X (.Call (.Name x p) [] [] pos) (cc6 C sp dvs E bQ9):=by
 intro za s y H Q I h;refine wpAny_Call_Name_kw (X4 I hg hm ?_ hdb);exact PySem.W.callWith_K0 I.kIn M.kp<|aQ4 (us:=[]) M F hr hb hd hx I .nil h
end
structure FnScope (N P:List Str) (sc:Scope):Prop where
 kind:sc.kind=.function
 co:sc.isCoroutine=false
 gen:sc.isGenerator=false
 nd:N.Nodup
 pre:N.take P.length=P
 par:∀x∈P,sc.names.lookup x=Oa .local\/sc.names.lookup x=Oa .cell
 nofree:∀y∈sc.names,y.2≠.free
theorem aG5{kindOf:Str->Ob NameKind}{x:Str}:∀{binds:La (Str×fJ)}{m:Str->Ob fJ},(∀v,(x,v)∉binds)->bindL kindOf binds m x=m x
 | [],_,_=>rfl
 | (n,v)::r,m,h=>by
  unfold bindL;rw[aG5 λw hw=>h w (xmm _ hw)];split
  .have:x≠n:=by rintro rfl;exact h v aQ
   simp[this]
  .rfl
theorem aG7{kindOf:Str->Ob NameKind}{x:Str}:∀{binds:La (Str×fJ)}{m:Str->Ob fJ},(∀v,(x,v)∉binds)->bindC kindOf binds m x=m x
 | [],_,_=>rfl
 | (n,v)::r,m,h=>by
  unfold bindC;rw[aG7 λw hw=>h w (xmm _ hw)];split
  .rfl
  .have:x≠n:=by rintro rfl;exact h v aQ
   simp[this]
theorem aG6{kindOf:Str->Ob NameKind}{x:Str}{v:fJ}:∀{P:La Str}{vs:La fJ}{i:Nat}{m:Str->Ob fJ},P.Nodup->P[i]? = Oa x->vs[i]? = Oa v->kindOf x=Oa .local ->
  bindL kindOf (P.zip vs) m x=Oa v
 | [],_,_,_,_,h,_,_=>by simp at h
 | _::_,[],_,_,_,_,h,_=>by simp at h
 | p::P,w::vs,0,m,nd,h1,h2,hk=>by
  simp at h1 h2;subst h1;subst h2;show bindL kindOf ((p,w)::P.zip vs) m p=_;unfold bindL;rw[aG5 λv hv=>(cR.mp nd).1 (dY hv).1,if_pos hk];simp
 | p::P,w::vs,i+1,m,nd,h1,h2,hk=>by
  show bindL kindOf ((p,w)::P.zip vs) m x=_;unfold bindL;exact aG6 (i:=i) (cR.mp nd).2 (by simpa using h1) (by simpa using h2) hk
theorem aG8{kindOf:Str->Ob NameKind}{x:Str}{v:fJ}:∀{P:La Str}{vs:La fJ}{i:Nat}{m:Str->Ob fJ},P.Nodup->P[i]? = Oa x->vs[i]? = Oa v->kindOf x≠Oa .local ->
  bindC kindOf (P.zip vs) m x=Oa v
 | [],_,_,_,_,h,_,_=>by simp at h
 | _::_,[],_,_,_,_,h,_=>by simp at h
 | p::P,w::vs,0,m,nd,h1,h2,hk=>by
  simp at h1 h2;subst h1;subst h2;show bindC kindOf ((p,w)::P.zip vs) m p=_;unfold bindC;rw[aG7 λv hv=>(cR.mp nd).1 (dY hv).1,if_neg hk];simp
 | p::P,w::vs,i+1,m,nd,h1,h2,hk=>by
  show bindC kindOf ((p,w)::P.zip vs) m x=_;unfold bindC;exact aG8 (i:=i) (cR.mp nd).2 (by simpa using h1) (by simpa using h2) hk
noncomputable def start(N:La Str)(vs:La V):St:=vs.map Oa++av (N.length - vs.length) Z
noncomputable def aV0(CX:CXT)(P:eX)(w:World)(K:af)(mg:Str->Ob fJ)(base:Heap)(N:La Str)(qual:Str)(scope:Scope)(f:fL)(cd:fJ)(A:eY)(outer:La Env)(s:fK)(H:Hp)(E:XK):Cx where
 prog:=P
 w:=w
 K:=K
 mg:=mg
 base:=base
 A:=A.deeper<|envOfC qual scope s.heap.objs.size f cd
 N:=N
 s₀:=s
 H₀:=H
 env:=envOfC qual scope s.heap.objs.size f cd
 outer:=outer
 stack:=envOfC qual scope s.heap.objs.size f cd::outer
 ex:=[]
 calm:=true
 fn:=λ_=>true
 pn:=[]
 xe:=λe s'=>ft (fu P w) (A.deeper<|envOfC qual scope s.heap.objs.size f cd) (leaving (envOfC qual scope s.heap.objs.size f cd) e) (λ_ s''=>CX outer H s E e s'') (λe' s''=>CX outer H s E e' s'') s'
def aV4{sc:Scope}{n:Nat}{x:Str}(h:sc.names.lookup x=Oa .cell):∃c,(cellsFrom n sc.names []).lookup x=Oa c:=by
 have q:=PySem.W.cellsFrom_some sc.names n [] (.inl h);exact dM.mp q
def bp7{CX:CXT}{P:eX}{w:World}{K:af}{mg:Str->Ob fJ}{base:Heap}{N ps:La Str}{qual:Str}{scope:Scope}{f:fL}{cd:fJ}{A:eY}{outer:La Env}{s s1:fK}{H:Hp}{E:XK}{us:La fJ}{vs:La V}
  (S:FnScope N ps scope) (hd:A.handled=Z) (e0:Env0 P w K mg base A outer s H) (hl:vs.length=ps.length) (r:F4 vs us)
  (x:InCallC s s.heap.objs.size (bindL (envOfC qual scope s.heap.objs.size f cd).kindOf (ps.zip us) λ_=>Z) (cellsFrom (s.heap.objs.size+1) scope.names []) (bindC (envOfC qual scope s.heap.objs.size f cd).kindOf (ps.zip us) λ_=>Z) s1) :
  Inv (aV0 CX P w K mg base N qual scope f cd A outer s H E) [] (start N vs) H s1:=by
 have hpl:ps.length<=N.length:=by have:=congrArg cY S.pre;rw[aW]at this;omega
 obtain⟨h1,tk,rfl,hk⟩:=x.done;have noA:∀b:fL,b∉(aV0 CX P w K mg base N qual scope f cd A outer s H E).ex:=λb z=>absurd (show b∈([]:La fL) from z) (by simp)
 refine#[#[e0.mod,S.kind,rfl,rfl,ak _,λy z c h1 h2=>?_,λy hy=>?_,λy c _ h=>?_,λ_=>hd,Around.frames_deeper e0.frames,.inr #[rfl,rfl],λb z=>absurd z (noA b),e0.bs,e0.bsz,λb _ _=>noA b,λb z=>absurd z (noA b),e0.funs,e0.frf],
  rfl,e0.bare,Un.kept hk,#[_,x.toInCall.ns,λi y v h1 h2 h3=>?_],λy c h=>#[_,x.cell y c h],e0.hok.fresh (ak _),λy c h=>?_,λp hp=>absurd (show p∈([]:La (fL×Obj)) from hp) (by simp),e0.hok.kept hk,?_]
 .exact name_of_addr x.apart (PySem.mem_of_lookup h1) (PySem.mem_of_lookup h2)
 .have hy:scope.names.lookup y=Oa .cell\/scope.names.lookup y=Oa .free:=hy;rcases hy with hy|hy
  .exact aV4 hy
  .exact absurd rfl (S.nofree _<|PySem.mem_of_lookup hy)
 .exact cn (x.above y c<|PySem.mem_of_lookup h)
 .have hi:i < vs.length:=by
   unfold start at h2;by_cases hi:i < vs.length
   .exact hi
   .rw[aK (by simpa using hi)]at h2;rw[bh]at h2;split at h2<;>cases h2
  have ha:vs[i]? = Oa v:=by
   unfold start at h2;rw[az (by simpa using hi),aH]at h2;cases e:vs[i]? with
   | none=>rw[e]at h2;cases h2
   | some a=>rw[e]at h2;cases h2;rfl
  obtain⟨u,hu,rv⟩:=r.get ha;have hp:ps[i]? = Oa y:=by rw[<- S.pre,List.getElem?_take_of_lt (by omega)];exact h1
  have ndP:ps.Nodup:=by rw[<- S.pre];exact S.nd.sublist<|cA _ _
  refine#[u,rv,?_];rcases S.par y (de hp) with k|k
  .exact .inl #[k,aG6 ndP hp hu k]
  .obtain⟨c,e⟩:=aV4 (n:=s.heap.objs.size+1) k;refine .inr #[.inl k,c,e,?_];have q:=x.cell y c e;rw[aG8 ndP hp hu (by show scope.names.lookup y≠_;rw[k];decide)]at q;exact q
 .exact e0.hok.fresh (cn<|x.above y c (PySem.mem_of_lookup h))
 .unfold start;show _=N.length;rw[aj,ai,bN];omega
def aT6{CX:CXT}{P:eX}{w:World}{K:af}{mg:Str->Ob fJ}{base:Heap}{k:Nat}{f:fL}{name qual:Str}{params:Arguments}{body:La Stmt}{scope:Scope}{dV kV doc pm cdv ct oc:fJ}{an od:Ob fL}
  {osl:Array (Ob fJ)}{N ps:La Str}{sp:Sp}(lk:K.lookup f=Oa #[oc,od,.func<|bB name qual params body scope dV kV doc pm an cdv ct,osl]) (hcd:cf K cdv qual=true) (S:FnScope N ps scope)
  (len:∀vs H Q E,sp vs H Q E->vs.length=ps.length)
  (hbody:∀(A:eY) (outer:La Env) (s:fK) (H:Hp) (vs:La V) (Q:VK) (E:XK),Room k (A.deeper (envOfC qual scope s.heap.objs.size f cdv))->sp vs H Q E ->
   ∃t,PSs (aV0 CX P w K mg base N qual scope f cdv A outer s H E) body t/\t { nx:=λ_ H'=>Q .non H',rt:=Q } (start N vs) H) :
  FnOk P w K mg base CX (k+1) f (bB name qual params body scope dV kV doc pm an cdv ct) ps sp:=by
 refine#[len,λA outer s H args us vs Q E hr e0 hb r hsp=>?_];have hl:=len _ _ _ _ hsp;have KX:K.In s.heap:=e0.mod.kin.keeps λb o e=>(e0.bs b o e).1
 have lim:s.heap.NoLimit:=e0.mod.nolimit.keeps λb o e=>(e0.bs b o e).1
 have hkind:∀y∈ps.zip us,scope.names.lookup y.1=Oa .local\/(scope.names.lookup y.1=Oa .cell/\((cellsFrom (s.heap.objs.size+1) scope.names []).lookup y.1).isSome=true):=λ#[n,v] hy=>by
  rcases S.par n (dY hy).1 with q|q
  .exact .inl q
  .exact .inr #[q,PySem.W.cellsFrom_some _ _ _<|.inl q]
 refine codeAny_call_function hr.depth (KX _ _ lk) rfl S.co S.gen rfl (PySem.W.codeRec_of KX hcd) (hb _ _ _ _ ?_);refine wpAny_newFunctionEnv_cells S.kind hkind λenv he s1 x=>?_
 subst he;refine#[lim.keeps x.toInCall.keep,codeAny_func ?_];obtain⟨t,ht,hq⟩:=hbody A outer s H vs Q E (hr.deeper _) hsp;have I:Inv (aV0 CX P w K mg base N qual scope f cdv A outer s H E) [] (start N vs) H s1:=bp7 S hr.hd e0 hl r x;refine eJ (ht [] s1 (start N vs) H _ I hq) (λfl s' hs=>?_) λe s' hs=>hs
 have fin:∀{σ':St}{H':Hp}{v:V}{u:fJ},Inv (aV0 CX P w K mg base N qual scope f cdv A outer s H E) [] σ' H' s'->J3 v u->Q v H'->CE outer P w H s Q u s' :=
  λ{σ' H' v u} J rv q=>#[v,H',J.os,J.bare,J.base,J.hok,rv,q]
 cases fl with
 | ret u =>
  obtain⟨v,σ',H',J,rv,q⟩:=hs;exact fin J rv q
 | next =>
  obtain⟨σ',H',J,q⟩:=hs;exact fin (v:=V.non) (u:=fG) J rfl q
 | brk =>
  obtain⟨_,_,_,q⟩:=hs;exact False.elim q
 | cont =>
  obtain⟨_,_,_,q⟩:=hs;exact False.elim q
section
variable {X:Cx}{x:Str}{p pos:Pos}{e:Expr}{es:La Expr}{t:TA}{id T:String}{r:La V->Hp->VK->Prop}
def tCB(r:La V->Hp->VK->Prop)(t:TA):TE:=λy H Q=>t y H λvs H1=>r vs H1 Q
def O2(hc:W4 X (.builtin id) r)(hg:Gl X x)(hm:X.mg x=Z)(hv:fe x=Oa (.builtin id))(ha:PA X (e::es) t)(hn:x ≠ "__name__" := by decide)(hdb:(x==("__debug__":Str))=false:=by decide)
  (he:eQ (e::es) X.env=(false,eval e X.env)::eQ es X.env:=by rfl) (hpl:(backTo pos<|eQ es X.env).any (·.1)=false:=by rfl):PE X (.Call (.Name x p) (e::es) [] pos) (tCB r t):=by
 intro za s y H Q I h;refine wpAny_Call_Name_kw (ay4 I hg hm hv ?_ hn hdb);exact PyProof.Rows.callWith_builtin1 (thn (ha pos za s y H _ I h) λus s1 #[vs,H1,I1,r1,q1]=>hc za s1 y H1 vs us Q I1 r1 q1) he hpl
def R7(hc:W4 X (.type T) r)(hg:Gl X x)(hm:X.mg x=Z)(hv:fe x=Oa (.type T))(ha:PA X (e::es) t)(hn:x ≠ "__name__" := by decide)(hdb:(x==("__debug__":Str))=false:=by decide)
  (he:eQ (e::es) X.env=(false,eval e X.env)::eQ es X.env:=by rfl) (hpl:(backTo pos<|eQ es X.env).any (·.1)=false:=by rfl):PE X (.Call (.Name x p) (e::es) [] pos) (tCB r t):=by
 intro za s y H Q I h;refine wpAny_Call_Name_kw (ay4 I hg hm hv ?_ hn hdb);exact PyProof.Rows.callWith_type1 (thn (ha pos za s y H _ I h) λus s1 #[vs,H1,I1,r1,q1]=>hc za s1 y H1 vs us Q I1 r1 q1) he hpl
end
end L2
namespace HT
open PySem PyProof.Rows
section
variable {prog:Program}{w:World}{A:Around}{E:Value->Shared->Prop}{s:Shared}
def cat_tup(ht:IsTup s.heap t vs.toArray)(hb:IsTup s.heap b ws.toArray)(hv:vs≠[])
  (h1:ws=[]->Q (.ref t) s) (h2:ws≠[]->Q (.ref s.heap.objs.size) { s with heap:=s.heap.push { cls:=.type "tuple", data:=.seq (vs++ws).toArray } })
  (hsz:vs.length+ws.length<=eR):ft (fu prog w) A (ff .Add (.ref t)<|.ref b) Q E s:=by
 obtain⟨⟨cls,dd,data,sl⟩,ho,hc,n,hd⟩:=id ht;obtain⟨⟨cls2,dd2,data2,sl2⟩,ho2,hc2,n2,hd2⟩:=id hb;simp only at hc hd hc2 hd2;subst hc hd hc2 hd2;have e:vs.toArray++ws.toArray=(vs++ws).toArray:=by simp
 by_cases hw:ws=[]
 .exact concat_meets #[_,ho,rfl] #[_,ho2,rfl] noFill_tuple_add seq_tuple_add PySem.F.slot_tuple_add PySem.F.entry_tuple_add (PySem.F.args_tuple_add_2 _ _)
   (tuple_addW1 t b vs.toArray ws.toArray n n2 dd dd2 sl sl2 (by simpa using hv)<|by simp[hw]) #[ho,ho2,h1 hw]
 .refine concat_meets #[_,ho,rfl] #[_,ho2,rfl] noFill_tuple_add seq_tuple_add PySem.F.slot_tuple_add PySem.F.entry_tuple_add (PySem.F.args_tuple_add_2 _ _)
   (tuple_addW2 t b vs.toArray ws.toArray n n2 dd dd2 sl sl2 (by simpa using hv) (by simpa using hw) (by rw[aq,aq];exact hsz)) #[ho,ho2,?_]
  rw[e];exact h2 hw
noncomputable def sIx(n d:Nat):Ob Int->Nat
 | none=>d
 | some v=>if v < 0 then(v+(n:Int)).toNat else min v.toNat n
def sIx_nat(n d k:Nat):sIx n d (Oa (k:Int))=min k n:=by
 show(if(k:Int) < 0 then((k:Int)+(n:Int)).toNat else min (k:Int).toNat n)=min k n;rw[if_neg (by omega),bO]
def cm9(n d:Nat)(hd:d<=n)(o:Ob Int):sIx n d o<=n:=by
 cases o with
 | none=>exact hd
 | some v =>
  show(if v < 0 then(v+(n:Int)).toNat else min v.toNat n)<=n;by_cases hv:v < 0
  .rw[if_pos hv];omega
  .rw[if_neg hv];exact Nat.min_le_right _ _
def bl6(v:Int)(n d:Nat):(if v < 0 then max (v+(n:Int)) 0 else min v (n:Int))=((sIx n d (Oa v):Nat):Int):=by
 show(if v < 0 then max (v+(n:Int)) 0 else min v (n:Int))=(((if v < 0 then(v+(n:Int)).toNat else min v.toNat n):Nat):Int);by_cases hv:v < 0
 .simp only[if_pos hv];omega
 .simp only[if_neg hv];omega
def be3(lo hi:Ob Int)(n:Nat):Builtin.Slice.sliceAdjust lo hi 1 (n:Int)=(((sIx n 0 lo:Nat):Int),((sIx n n hi:Nat):Int)):=by
 have h1:¬((1:Int) < 0):=by omega
 unfold Builtin.Slice.sliceAdjust;simp only[h1,if_false];refine Prod.ext ?_ ?_
 .cases lo with
  | none=>rfl
  | some v=>exact bl6 v n 0
 .cases hi with
  | none=>rfl
  | some v=>exact bl6 v n n
def aY8(i j:Nat):Builtin.Slice.slicePlaces (i:Int) (j:Int) 1=j - i:=by
 unfold Builtin.Slice.slicePlaces;have h1:(1:Int) > 0:=by omega
 simp only[h1,if_true,Int.ediv_one];split<;>omega
def ax0(p:IsPart v o)(h:Q o s):ft (fu prog w) A (Builtin.Slice.slicePartIndex v) Q E s:=by
 cases p with
 | none=>exact slicePart_none h
 | int i t=>exact slicePart_int h
def sliceApplied_gen{sl:fL}{vl vu:fJ}{lo hi:Ob Int}{n:Nat}{Q:Int×Int×Nat->fK->Prop}(hs:s.heap.IsSliceOf sl vl vu .none)(pl:IsPart vl lo)(pu:IsPart vu hi)
  (h:Q (((sIx n 0 lo:Nat):Int),1,sIx n n hi - sIx n 0 lo) s):ft (fu prog w) A (Builtin.Slice.sliceApplied (.ref sl)<|pure (n:Int)) Q E s:=by
 obtain⟨os,hos,hcs,hds⟩:=id hs;unfold Builtin.Slice.sliceApplied Builtin.Slice.sliceFields;refine eF (eF<|eP hos hds (x:=vl) rfl (eF<|eP hos hds (x:=vu) rfl (eF<|eP hos hds (x:=.none) rfl (eG ?_))));refine eF (slicePart_none ?_);show ft _ _ (if((1:Int)==0)=true then _ else _) _ _ s;rw[if_neg (by decide)];refine eF (ax0 pl<|eF (ax0 pu<|eF (eG ?_)));show ft _ _ (match Builtin.Slice.sliceAdjust lo hi 1 (n:Int) with|(lo,hi)=>pure (lo,(1:Int),Builtin.Slice.slicePlaces lo hi 1)) _ _ s;rw[be3 lo hi n];show ft _ _ (pure (((sIx n 0 lo:Nat):Int),(1:Int),Builtin.Slice.slicePlaces ((sIx n 0 lo:Nat):Int) ((sIx n n hi:Nat):Int) 1)) _ _ s;rw[aY8];exact eG h
def bB0(xs:Array fJ)(i k:Nat):((bf k).filterMap λ(m:Nat)=>xs[((i:Int)+(m:Int)*1).toNat]?).toArray=((xs.toList.drop i).take k).toArray:=by
 have e:(λ(m:Nat)=>xs[((i:Int)+(m:Int)*1).toNat]?)=λm=>xs[i+m]?:=by
  funext m
  have:((i:Int)+(m:Int)*1).toNat=i+m:=by omega
  rw[this]
 rw[e];have:=pick_run xs i k;rw[List.filterMap_map]at this;have e2:((λx=>xs[x]?) ∘ λx=>i+x)=λm=>xs[i+m]?:=rfl
 rw[e2]at this;rw[this]
def getItem_tuple_cut{t sl:fL}{items:Array fJ}{vl vu:fJ}{lo hi:Ob Int}{Q:fJ->fK->Prop}(ht:IsTup s.heap t items)(hs:s.heap.IsSliceOf sl vl vu .none)(pl:IsPart vl lo)(pu:IsPart vu hi)
  (hw:¬(sIx items.size 0 lo=0/\sIx items.size items.size hi=items.size))
  (h:Q (.ref s.heap.objs.size) { s with heap:=s.heap.push { cls:=.type "tuple", data:=.seq ((items.toList.drop<|sIx items.size 0 lo).take<|sIx items.size items.size hi - sIx items.size 0 lo).toArray } })
  (hsz:items.size<=eR):ft (fu prog w) A (getItem (.ref t)<|.ref sl) Q E s:=by
 have htake:sizeOk (.seq ((items.toList.drop<|sIx items.size 0 lo).take<|sIx items.size items.size hi - sIx items.size 0 lo).toArray):=by
  show((items.toList.drop<|sIx items.size 0 lo).take<|sIx items.size items.size hi - sIx items.size 0 lo).toArray.size<=eR;rw[aq,aW,bc,cL];omega
 have hj:sIx items.size items.size hi<=items.size:=cm9 _ _ (ak _) hi;obtain⟨os,hos,hcs,hds⟩:=id hs;have hTs:s.TypeIs (.ref sl) "slice" := #[os,hos,hcs];unfold getItem
 try with_reducible refine wpAny_holding ?_
 first|refine eF (eG ?_)|skip
 refine eF (wpAny_sequenceKey ht.typeIs (by decide) ?_)
 refine eF (wpAny_callSpecial?_slot (name:=Str.ofString "__getitem__") ht.typeIs PyProof.Rows.slot_tuple_getitem
  (wpAny_call_entry PyProof.Rows.slot_tuple_getitem ht.typeIs entry_tuple_getitem ?_ (args_tuple_getitem _ _)))
 show ft _ _ (Builtin.Tuple.tupleItemsOf (.ref t) >>= _) _ _ s;refine eF (tupleItemsOf_ ht ?_);refine eF (wpAny_typeOf hTs ?_);rw[if_pos (by decide)];refine eF<|sliceApplied_gen hs pl pu ?_
 have hno:¬((((sIx items.size 0 lo:Nat):Int)==0&&(1:Int)==1&&(sIx items.size items.size hi - sIx items.size 0 lo)==items.size)=true):=by
  intro q;rw[ae,ae]at q;have q1:((sIx items.size 0 lo:Nat):Int)=0:=eq_of_beq q.1.1;have q2:sIx items.size items.size hi - sIx items.size 0 lo=items.size:=eq_of_beq q.2;exact hw #[by omega,by omega]
 show ft _ _ (if(((sIx items.size 0 lo:Nat):Int)==0&&(1:Int)==1&&(sIx items.size items.size hi - sIx items.size 0 lo)==items.size)=true then _ else _) _ _ s;rw[if_neg hno,bB0]
 first
  | exact eF (m:=Builtin.Tuple.tupleExact _)<|eK (eG #[_,rfl,eG h]) htake
  | exact eF (m:=Builtin.Tuple.tupleExact _)<|eK (eF<|eG (eG #[_,rfl,eG h])) htake
  | exact eF<|eF (m:=Builtin.Tuple.tupleExact _) (eK (eG<|eG #[_,rfl,eG h]) htake)
  | exact eF<|eF (m:=Builtin.Tuple.tupleExact _) (eK (eG #[_,rfl,eG h]) htake)
end
end HT
namespace L2
open PySem PySem.Spec PyProof.Rows
abbrev TO:=St->Hp->(Ob Int->Hp->Prop)->Prop
def PO(X:Cx)(e:Ob Expr)(t:TO):Prop :=
 ∀(za:La (fL×Obj)) (s:fK) (y:St) (H:Hp) (Q:Ob Int->Hp->Prop),Inv X za y H s->t y H Q ->
  ft (fu X.prog X.w) X.A (evalPart e X.env) (λu s'=>∃o H',Inv X za y H' s'/\IsPart u o/\Q o H') X.xe s
def bQ8:TO:=λ_ H Q=>Q Z H
def cE7(t:TE):TO:=λy H Q=>t y H λx H1=>∃i,x=.int i/\Q (Oa i) H1
section
variable {X:Cx}{e:Expr}{te:TE}{lo hi:Ob Expr}{tl th:TO}{pos p2:Pos}
def bT5:PO X Z bQ8:=by
 intro za s y H Q I h;rw[evalPart_none];exact eG #[Z,H,I,.none,h]
def bT4(h:PE X e te):PO X (Oa e) (cE7 te):=by
 intro za s y H Q I hw;rw[evalPart_some];refine thn (h za s y H _ I hw) λu s1 w=>?_
 obtain⟨x,H1,I1,r1,q1⟩:=w;obtain⟨i,rfl,q⟩:=q1;obtain⟨t,rfl⟩:=r1;exact#[Oa i,H1,I1,.int i t,q]
def SlR(X:Cx)(r:V->Ob Int->Ob Int->Hp->VK->Prop):Prop :=
 ∀(za:La (fL×Obj)) (s:fK) (y:St) (H:Hp) (x:V) (v vl vu:fJ) (lo hi:Ob Int) (sl:fL) (Q:VK),Inv X za y H s->J3 x v->s.heap.IsSliceOf sl vl vu .none->IsPart vl lo->IsPart vu hi->r x lo hi H Q ->
  ∃T id,typeLookup (.type T) "__getitem__" = pure (Oa<|.builtin id)/\s.TypeIs v T/\ft (fu X.prog X.w) X.A (getItem v<|.ref sl) (EP X za y Q) X.xe s
def SlR.or(h:SlR X r)(h':SlR X r'):SlR X (λx lo hi H Q=>r x lo hi H Q\/r' x lo hi H Q):=by
 intro za s y H x v vl vu lo hi sl Q I rx hs pl pu q;rcases q with q|q
 .exact h za s y H x v vl vu lo hi sl Q I rx hs pl pu q
 .exact h' za s y H x v vl vu lo hi sl Q I rx hs pl pu q
def tSl(r:V->Ob Int->Ob Int->Hp->VK->Prop)(te:TE)(tl th:TO):TE:=λy H Q=>te y H λx H1=>tl y H1 λl H2=>th y H2 λu H3=>r x l u H3 Q
def am2(hr:SlR X r)(he:PE X e te)(hl:PO X lo tl)(hu:PO X hi th):PE X (.Subscript e (.Slice lo hi Z p2) pos) (tSl r te tl th):=by
 intro za s z H Q I h;refine Subscript_ (thn (he za s z H _ I h) λv s1 y=>?_);obtain⟨x,H1,I1,r1,q1⟩:=y;refine wpAny_Slice (thn (hl za s1 z H1 _ I1 q1) λvl s2 #[l,H2,I2,pl,q2]=>thn (hu za s2 z H2 _ I2 q2) λvu s3 y=>?_);obtain⟨u,H3,I3,pu,q3⟩:=y;rw[evalPart_none];refine eG ?_;have I4:Inv X za z H3 { s3 with heap:=s3.heap.push { cls:=.type "slice", data:=.fields (List.toArray [vl,vu,.none]) } }:=I3.kept (t':=s3.toks) λb ob q=>fv _ q
 obtain⟨T,id,hT,ht,hg⟩:=hr za { s3 with heap:=s3.heap.push { cls:=.type "slice", data:=.fields (List.toArray [vl,vu,.none]) } } z H3 x v vl vu l u s3.heap.objs.size Q I4 r1 (Heap.IsSliceOf.new ..) pl pu q3;show ft (fu X.prog X.w) X.A (subscriptTail e (.Slice lo hi Z p2) v<|.ref s3.heap.objs.size) (EP X za z Q) X.xe { s3 with heap:=s3.heap.push { cls:=.type "slice", data:=.fields (List.toArray [vl,vu,.none]) } };exact tail_any (ops:=[.ref s3.heap.objs.size,v]) ht hT hg (by with_unfolding_all rfl)
def aV1(xs:La V)(lo hi:Ob Int):La V:=(xs.drop<|HT.sIx xs.length 0 lo).take<|HT.sIx xs.length xs.length hi - HT.sIx xs.length 0 lo
def as6(xs:La V)(lo hi:Ob Int):(aV1 xs lo hi).length<=xs.length:=by
 unfold aV1;rw[aW,bc];omega
def cR4(K:af):V->Ob Int->Ob Int->Hp->VK->Prop:=λx lo hi H Q=>∃a xs,x=.ref a/\SqT K H a xs /\
 ¬(HT.sIx xs.length 0 lo=0/\HT.sIx xs.length xs.length hi=xs.length)/\∀p,H p=Z->Q (.ref p) (upd H p<|.tup (aV1 xs lo hi))
def cm6:SlR X (cR4 X.K):=by
 intro za s y H x v vl vu lo hi sl Q I rx hs pl pu h;obtain⟨a,xs,rfl,hx,hw,q⟩:=h;cases rx;obtain⟨its,r,ht,hz⟩:=I.tuple hx;have hlen:its.toArray.size=xs.length:=by rw[aq];exact r.length.symm
 refine#["tuple", _,PyProof.Rows.slot_tuple_getitem.lookup,ht.typeIs,?_];refine HT.getItem_tuple_cut ht hs pl pu (by rw[hlen];exact hw) ?_ (by rw[hlen];exact hz);rw[hlen];refine#[.ref s.heap.objs.size,_,I.laid (t':=s.toks) (o:=.tup<|aV1 xs lo hi) (λb ob q=>fv _ q) (ak _) ?_,rfl,q _<|I.hok.fresh (ak _)];exact#[aI (as6 xs lo hi) hz,_,(r.drop<|HT.sIx xs.length 0 lo).take<|HT.sIx xs.length xs.length hi - HT.sIx xs.length 0 lo,aD7.new _ _]
def cG7(K:af):R2:=λx y H Q=>∃a b xs ys,x=.ref a/\y=.ref b/\SqT K H a xs/\SqT K H b ys/\xs≠[]/\xs.length+ys.length<=eR /\
 (ys=[]->Q (.ref a) H)/\(ys≠[]->∀p,H p=Z->Q (.ref p) (upd H p<|.tup (xs++ys)))
def F4.nil_iff(r:F4 xs us):us=[]↔xs=[]:=by
 cases r with
 | nil=>simp
 | cons _ _=>simp
def bU8:OpR X (ff .Add) (cG7 X.K):=by
 intro za s r H x y v u Q I rx ry h;obtain⟨a,b,xs,ys,rfl,rfl,ha,hb,hx,hz,q1,q2⟩:=h;cases rx;cases ry;obtain⟨its,r1,p1,_⟩:=I.tuple ha;obtain⟨its2,r2,p2,_⟩:=I.tuple hb;refine HT.cat_tup p1 p2 (λz=>hx<|r1.nil_iff.mp z) (λz=>#[.ref a,H,I,rfl,q1<|r2.nil_iff.mp z]) (λz=>?_) (by rw[<- r1.length,<- r2.length];exact hz);refine#[.ref s.heap.objs.size,_,I.laid (t':=s.toks) (o:=.tup<|xs++ys) (λb ob q=>fv _ q) (ak _) ?_,rfl,q2 (λw=>z<|r2.nil_iff.mpr w) _<|I.hok.fresh (ak _)];exact#[by rw[aj];exact hz,_,r1.append r2,aD7.new _ _]
end
noncomputable def ixN(n:Nat)(i:Int):Ob Nat:=if 0<=i then(if i < n then Oa i.toNat else Z) else if -(n:Int)<=i then Oa (i+n).toNat else Z
def atI{y:Type}(xs:La y)(i:Int):Ob y:=(ixN xs.length i).bind λj=>xs[j]?
def bk0(h:ixN n i=Oa j):seqIndex? i n=Oa j/\j < n/\-(n:Int)<=i/\i < n:=by
 unfold ixN at h;by_cases h0:0<=i
 .rw[if_pos h0]at h;by_cases h1:i < n
  .rw[if_pos h1]at h;have e:i.toNat=j:=bg.inj h;exact#[by rw[seqIndex_of h0 h1,e],by omega,by omega,h1]
  .rw[if_neg h1]at h;cases h
 .rw[if_neg h0]at h;by_cases h1:-(n:Int)<=i
  .rw[if_pos h1]at h;have e:(i+n).toNat=j:=bg.inj h;exact#[by rw[seqIndex_neg (by omega) h1,e],by omega,h1,by omega]
  .rw[if_neg h1]at h;cases h
def aN5{y:Type}{xs:La y}{i:Int}{v:y}(h:atI xs i=Oa v):∃j,seqIndex? i xs.length=Oa j/\xs[j]? = Oa v/\j < xs.length/\-(xs.length:Int)<=i/\i < xs.length:=by
 unfold atI at h;cases e:ixN xs.length i with
 | none=>rw[e]at h;cases h
 | some j =>
  rw[e]at h;obtain⟨h1,h2,h3,h4⟩:=bk0 e;exact#[j,h1,h,h2,h3,h4]
def L4{y:Type}{xs:La y}{j:Nat}{v:y}(h:xs[j]? = Oa v):atI xs (j:Int)=Oa v:=by
 have hj:j < xs.length:=(am.mp h).1
 have e:ixN xs.length (j:Int)=Oa j:=by
  unfold ixN;rw[if_pos (by omega),if_pos (by omega)];simp
 unfold atI;rw[e];exact h
def af3(b:Expr):Prop:=∀o i,subscripted b false o i=operate [o,i] (getItem o i)
def IxR(X:Cx)(r:R2):Prop :=
 ∀(value slice:Expr) (za:La (fL×Obj)) (s:fK) (z:St) (H:Hp) (x y:V) (v u:fJ) (Q:VK),Inv X za z H s->J3 x v->J3 y u->r x y H Q ->
  subscripted slice false v u=operate [v,u] (getItem v u)->ft (fu X.prog X.w) X.A (subscriptTail value slice v u) (EP X za z Q) X.xe s
def MtR(X:Cx)(id:String)(r:V->La V->Hp->VK->Prop):Prop :=
 ∀(za:La (fL×Obj)) (s:fK) (y:St) (H:Hp) (x:V) (xs:La V) (v:fJ) (us:La fJ) (Q:VK),Inv X za y H s->J3 x v->F4 xs us->r x xs H Q ->
  ft (fu X.prog X.w) X.A (call (.builtin id) (v::us)) (EP X za y Q) X.xe s
section
variable {X:Cx}{a b:Expr}{ta tb:TE}{pos:Pos}
def IxR.or(h:IxR X r)(h':IxR X r'):IxR X (λx y H Q=>r x y H Q\/r' x y H Q):=by
 intro value slice za s z H x y v u Q I rx ry q hs;rcases q with q|q
 .exact h value slice za s z H x y v u Q I rx ry q hs
 .exact h' value slice za s z H x y v u Q I rx ry q hs
def bh3(hr:IxR X r)(ha:PE X a ta)(hb:PE X b tb)(hs:af3 b):PE X (.Subscript a b pos) (tOp r ta tb):=by
 intro za s z H Q I h;exact Subscript_<|cB1 ha hb I h λv u s2 x y H2 I2 rx ry q=>hr a b za s2 z H2 x y v u Q I2 rx ry q<|hs _ _
def cG6(K:af):R2:=λx y H Q=>∃p xs i v,x=.ref p/\y=.int i/\SqL K H p xs/\atI xs i=Oa v/\Q v H
def cG4(K:af):R2:=λx y H Q=>∃p xs i v,x=.ref p/\y=.int i/\SqT K H p xs/\atI xs i=Oa v/\Q v H
def cG5:R2:=λx y H Q=>∃z i c,x=.str z/\y=.int i/\z.length<=eR/\atI z.cps.toList i=Oa c/\Q (.str #[(List.toArray [c])]) H
def bY8:IxR X (cG6 X.K):=by
 intro value slice za s m H x y v u Q I rx ry h hs;obtain⟨p,xs,i,z,rfl,rfl,hq,he,q⟩:=h;cases rx;obtain⟨t,rfl⟩:=ry;obtain⟨its,r,pl,hz⟩:=I.list hq;obtain⟨j,h1,h2,h3,h4,h5⟩:=aN5 he;obtain⟨w,ew,rw'⟩:=r.get h2;have hl:=r.length;have hn:=ak2;have fin:EP X za m Q w s:=#[z,H,I,rw',q];by_cases h0:0<=i
 .have hj:i.toNat=j:=by
   rw[seqIndex_of h0 h5]at h1;exact bg.inj h1
  exact item_listR pl.isList h0 (by omega) (by rw[hj];simpa using ew) fin hs
 .have hj:(i+(its.toArray.size:Int)).toNat=j:=by
   rw[seqIndex_neg (by omega) h4]at h1;rw[aq,<- hl];exact bg.inj h1
  exact subscriptTail_builtinR (x:=w) pl.isList.typeIs slot_list_getitem.lookup
   (wpAny_getItem_list_neg (Q:=λr s'=>r=w/\EP X za m Q r s') pl.isList (by omega) (by rw[aq]<;>omega) (by omega) (by rw[hj];simpa using ew) #[rfl,fin]) hs
def cy7:IxR X (cG4 X.K):=by
 intro value slice za s m H x y v u Q I rx ry h hs;obtain⟨p,xs,i,z,rfl,rfl,hq,he,q⟩:=h;cases rx;obtain⟨t,rfl⟩:=ry;obtain⟨its,r,pl,hz⟩:=I.tuple hq;obtain⟨j,h1,h2,h3,h4,h5⟩:=aN5 he;obtain⟨w,ew,rw'⟩:=r.get h2;have hl:=r.length;have hn:=ak2;have fin:EP X za m Q w s:=#[z,H,I,rw',q]
 exact subscriptTail_builtinR (x:=w) pl.typeIs slot_tuple_getitem.lookup
  (getItem_tuple (j:=j) (Q:=λr s'=>r=w/\EP X za m Q r s') pl (by omega) (by omega) (by rw[aq,<- hl];exact h1) (by simpa using ew) #[rfl,fin]) hs
def cy8:IxR X cG5:=by
 intro value slice za s w H x y v u Q I rx ry h hs;obtain⟨z,i,c,rfl,rfl,hz,he,q⟩:=h;obtain⟨t,rfl⟩:=rx;obtain⟨t',rfl⟩:=ry;obtain⟨j,h1,h2,h3,h4,h5⟩:=aN5 he;have hl:z.cps.toList.length=z.length:=by simp[Str.length]
 rw[hl]at h1 h4 h5;have hn:=ak2
 exact tail_any (typeIs_str s z t) slot_str_getitem.lookup (getItem_str (c:=c) (by
  have e1:decide (i < -(2 ^ 63:Int))=false:=decide_eq_false (by omega);have e2:decide (i ≥ 2 ^ 63)=false:=decide_eq_false (by omega)
  rw[e1,e2,cZ]) (by rw[h1];simpa using h2) #[.str #[(List.toArray [c])],H,I.tok _,#[_,rfl],q]) hs
def rIx(K:af):R2:=λx y H Q=>cG6 K x y H Q\/cG4 K x y H Q\/cG5 x y H Q
def aL3:IxR X (rIx X.K):=bY8.or<|cy7.or cy8
def aZ5(its:La fJ)(n j:Nat)(u:fJ):Obj.mapSeq (·.setIfInBounds j u) { cls:=.type "list", data:=.seq its.toArray n }={ cls:=.type "list", data:=.seq (its.set j u).toArray n }:=by simp[Obj.mapSeq]
theorem Inv.lst{za:La (fL×Obj)}{y:St}{H:Hp}{s:fK}{p:fL}{xs:La V}(I:Inv X za y H s)(h:H p=Oa (.lst xs)):
  ∃(its:La fJ) (n:Nat),F4 xs its/\s.heap.get? p=Oa { cls:=.type "list", data:=.seq its.toArray n }/\xs.length<=eR:=by
 obtain⟨z,its,n,r,e⟩:=I.hok p _ h;exact#[its,n,r,e,z]
def Inv.lstUpd{za:La (fL×Obj)}{y:St}{H:Hp}{s:fK}{p:fL}{xs ys:La V}{its its':La fJ}{n n':Nat}{f:Obj->Obj}(I:Inv X za y H s)(h:H p=Oa (.lst xs))
  (ho:s.heap.get? p=Oa { cls:=.type "list", data:=.seq its.toArray n }) (hf:f { cls:=.type "list", data:=.seq its.toArray n }={ cls:=.type "list", data:=.seq its'.toArray n' }) (r:F4 ys its') (hz:ys.length<=eR) (t:Nat) :
  Inv X za y (upd H p<|.lst ys) { s with heap:=s.heap.update p f,toks:=t }:=by
 have e:(s.heap.update p f).get? p=Oa { cls:=.type "list", data:=.seq its'.toArray n' }:=by rw[Heap.get?_update_self f ho (by rw[hf]<;>rfl),hf]
 refine I.write (x:=p) (e:=p) (by rw[h];trivial) (.inl rfl) (λb u hb q=>(Heap.get?_update_other _ _<|Ne.symm hb).trans q) #[_,e] ?_;exact#[hz,its',n',r,e]
def cG2:V->V->V->Hp->(Hp->Prop)->Prop:=λo i v H Q=>∃p xs k j,o=.ref p/\i=.int k/\H p=Oa (.lst xs)/\ixN xs.length k=Oa j/\Q (upd H p<|.lst (xs.set j v))
def bz5:cV8 X cG2:=by
 intro za s y H o i v ov iv u Q I ro ri rv h;obtain⟨p,xs,k,j,rfl,rfl,hp,hj,q⟩:=h;cases ro;obtain⟨t,rfl⟩:=ri;obtain⟨its,n,r,ho,hz⟩:=I.lst hp;obtain⟨h1,h2,h3,h4⟩:=bk0 hj;have hl:=r.length;have hn:=ak2
 have I':Inv X za y (upd H p<|.lst (xs.set j v)) { s with heap:=s.heap.update p (Obj.mapSeq (·.setIfInBounds j u)) } :=
  I.lstUpd hp ho (aZ5 its n j u) (r.set rv j) (by rw[bC];exact hz) s.toks
 by_cases h0:0<=k
 .have hk:k.toNat=j:=by
   rw[seqIndex_of h0 h4]at h1;exact bg.inj h1
  exact PySem.W.ki_setAt ho h0 (by omega) (by rw[aq,<- hl];exact h4) (by rw[hk];exact#[_,I',q])
 .have hk:(k+(its.toArray.size:Int)).toNat=j:=by
   rw[seqIndex_neg (by omega) h3]at h1;rw[aq,<- hl];exact bg.inj h1
  exact PySem.W.ki_setBack ho (by omega) (by rw[aq,<- hl];exact h3) (by omega) (by rw[hk];exact#[_,I',q])
def al3(lo hi:Ob Int)(n:Nat):(sliceBounds lo hi Z n).1=((HT.sIx n 0 lo:Nat):Int)/\(sliceBounds lo hi Z n).2.1=((HT.sIx n n hi:Nat):Int)/\(sliceBounds lo hi Z n).2.2=1:=by
 refine#[?_,?_,rfl]
 .cases lo with
  | none=>simp[sliceBounds,HT.sIx]
  | some i =>
   simp only[sliceBounds,HT.sIx,Option.getD_none,show(1:Int) > 0 by decide,if_true];by_cases h:i < 0
   .simp only[h,if_true]<;>omega
   .simp only[h,if_false]<;>omega
 .cases hi with
  | none=>simp[sliceBounds,HT.sIx]
  | some i =>
   simp only[sliceBounds,HT.sIx,Option.getD_none,show(1:Int) > 0 by decide,if_true];by_cases h:i < 0
   .simp only[h,if_true]<;>omega
   .simp only[h,if_false]<;>omega
def aC4(its:La fJ)(lo hi:Ob Int):slicePick its.toArray lo hi Z=((its.drop<|HT.sIx its.length 0 lo).take<|HT.sIx its.length its.length hi - HT.sIx its.length 0 lo).toArray:=by
 obtain⟨h1,h2,h3⟩:=al3 lo hi its.toArray.size;unfold slicePick;rw[h1,h2,h3];simp only[sliceRange_one,pick_run,aq]<;>rfl
def cR5(K:af):V->Ob Int->Ob Int->Hp->VK->Prop:=λx lo hi H Q=>∃a xs,x=.ref a/\SqL K H a xs/\∀p,H p=Z->Q (.ref p) (upd H p<|.lst (aV1 xs lo hi))
def bg0:SlR X (cR5 X.K):=by
 intro za s y H x v vl vu lo hi sl Q I rx hs pl pu h;obtain⟨a,xs,rfl,hx,q⟩:=h;cases rx;obtain⟨its,r,ht,hz⟩:=I.list hx;have hlen:=r.length;refine#["list", _,slot_list_getitem.lookup,ht.isList.typeIs,?_];refine wpAny_getItem_list_slice ht.isList hs pl pu .none (by simp) ?_ (by rw[aq]<;>omega);rw[aC4,<- hlen];refine#[.ref s.heap.objs.size,_,I.laid (t':=s.toks) (o:=.lst<|aV1 xs lo hi) (λb ob q=>fv _ q) (ak _) ?_,rfl,q _<|I.hok.fresh (ak _)];exact#[aI (as6 xs lo hi) hz,_,0,(r.drop<|HT.sIx xs.length 0 lo).take<|HT.sIx xs.length xs.length hi - HT.sIx xs.length 0 lo,fx _ rfl]
noncomputable def cN3:V->Bool
 | .non=>true
 | .bl _=>true
 | .int _=>true
 | .str _=>true
 | _=>false
noncomputable def eqV:V->V->Bool
 | .non,.non=>true
 | .bl a,.bl b=>a==b
 | .bl a,.int b=>(if a then 1 else 0)==b
 | .int a,.bl b=>a==(if b then 1 else 0)
 | .int a,.int b=>a==b
 | .str a,.str b=>a==b
 | _,_=>false
noncomputable def inV(x:V)(xs:La V):Bool:=xs.any λy=>eqV y x
def ao0:W4 X (.builtin "len") (λxs H Q=>∃p ys,xs=[.ref p]/\(SqL X.K H p ys\/SqT X.K H p ys)/\Q (.int ys.length) H):=by
 intro za s y H xs us Q I r h;obtain⟨p,ys,rfl,hq,q⟩:=h;obtain⟨u,rfl,rx⟩:=aa5 r;cases rx;have hn:=ak2;rcases hq with hq|hq
 .obtain⟨its,r',pl,hz⟩:=I.list hq;have hlen:=r'.length;exact Calls.call_len_list pl.isList (by simp only[aq]<;>omega) #[.int ys.length,H,I.tok _,#[s.toks+1,by rw[aq,hlen]],q]
 .obtain⟨its,r',pl,hz⟩:=I.tuple hq;have hlen:=r'.length;exact len_tuple pl (by simp only[aq]<;>omega) #[.int ys.length,H,I.tok _,#[s.toks+1,by rw[aq,hlen]],q]
def aN1:W4 X (.builtin "len") (λxs H Q=>∃z,xs=[.str z]/\z.length<=eR/\Q (.int z.length) H):=by
 intro za s y H xs us Q I r h;obtain⟨z,rfl,hz,q⟩:=h;obtain⟨u,rfl,t,rfl⟩:=aa5 r;have hn:=ak2;exact len_str (by omega) #[.int z.length,H,I.tok _,#[_,rfl],q]
def aN0:W4 X (.type "list") (λxs H Q=>∃p ys,xs=[.ref p]/\(SqL X.K H p ys\/SqT X.K H p ys)/\∀l,H l=Z->Q (.ref l) (upd H l<|.lst ys)):=by
 intro za s y H xs us Q I r h;obtain⟨p,ys,rfl,hq,q⟩:=h;obtain⟨u,rfl,rx⟩:=aa5 r;cases rx
 have fin:∀(its:La fJ),F4 ys its->ys.length<=eR->∀(h':Heap) (c':Nat),(∀b o',s.heap.get? b=Oa o'->h'.get? b=Oa o') ->
   h'.get? s.heap.objs.size=Oa { cls:=.type "list", dict:=Z,data:=.seq its.toArray c',slots:=(List.toArray []) }->EP X za y Q (.ref s.heap.objs.size) { s with heap:=h' }:=λits r' hz h' c' kp e =>
  #[.ref s.heap.objs.size,_,I.laid (t':=s.toks) kp (ak _) (show P8 X.prog X.w _ h' _ (.lst ys) from#[hz,its,c',r',e]),rfl,q _<|I.hok.fresh (ak _)]
 rcases hq with hq|hq
 .obtain⟨its,r',pl,hz⟩:=I.list hq;have hlen:=r'.length;obtain⟨o,ho,hc,n,hd⟩:=pl.isList;exact call_list_seq p (.inl rfl) ho hc hd (λh' c' kp e=>fin its r' hz h' c' kp e) (by simp only[aq]<;>omega)
 .obtain⟨its,r',pl,hz⟩:=I.tuple hq;have hlen:=r'.length;obtain⟨o,ho,hc,n,hd⟩:=pl;exact call_list_seq p (.inr rfl) ho hc hd (λh' c' kp e=>fin its r' hz h' c' kp e) (by simp only[aq]<;>omega)
def aD4:W4 X (.type "tuple") (λxs H Q=>∃p ys,xs=[.ref p]/\((SqL X.K H p ys/\∀l,H l=Z->Q (.ref l) (upd H l<|.tup ys))\/(SqT X.K H p ys/\Q (.ref p) H))):=by
 intro za s y H xs us Q I r h;obtain⟨p,ys,rfl,h⟩:=h;obtain⟨u,rfl,rx⟩:=aa5 r;cases rx;rcases h with⟨hq,q⟩|⟨hq,q⟩
 .obtain⟨its,r',pl,hz⟩:=I.list hq;have hlen:=r'.length;refine call_tuple_list pl.isList (λh' kp=>?_) (by simp only[aq]<;>omega);have I1:Inv X za y H { s with heap:=h' }:=I.kept (t':=s.toks) kp
  have I2:Inv X za y (upd H h'.objs.size<|.tup ys) { s with heap:=h'.push { cls:=.type "tuple", data:=.seq its.toArray } } :=
   I1.laid (t':=s.toks) (λb o e=>fv _ e) (ak _) (show P8 X.prog X.w _ _ _ (.tup ys) from#[hz,its,r',aD7.new _ _])
  exact#[.ref h'.objs.size,_,I2,rfl,q _<|I1.hok.fresh (ak _)]
 .obtain⟨its,r',pl,hz⟩:=I.tuple hq;exact call_tuple_same pl #[.ref p,H,I,rfl,q]
def tyV(K:af)(T:String)(x:V)(H:Hp):Prop:=match x with
 | .str _=>T = "str"
 | .int _=>T = "int"
 | .ref p=>(T = "list" /\ ∃xs,SqL K H p xs)\/(T = "tuple" /\ ∃o,K.lookup p=Oa o/\o.cls=.type "tuple" /\ o.dict=Z) \/
   (T = "dict" /\ ((∃kvs,H p=Oa (.dK kvs))\/∃kvs,H p=Oa (.dT kvs)))\/(T = "set" /\ ∃S n,H p=Oa (.set S n))
 | _=>False
def bx0(I:Inv X za y H s)(r:J3 x v)(ty:tyV X.K T x H):
  s.TypeIs v T/\∀a,v=.ref a->∃ob,s.heap.get? a=Oa ob/\ob.dict=Z:=by
 cases x with
 | str z =>
  obtain⟨t,rfl⟩:=r;cases(show T = "str" from ty);exact#[typeIs_str s z t,λ_ e=>nomatch e]
 | int i =>
  obtain⟨t,rfl⟩:=r;cases(show T = "int" from ty);exact#[typeIs_int s i t,λ_ e=>nomatch e]
 | ref p =>
  cases r;rcases ty with⟨rfl,xs,hq⟩|⟨rfl,o,hk,hc,hd⟩|⟨rfl,hk⟩|⟨rfl,S,n,hk⟩
  .obtain⟨its,_,pl,_⟩:=I.list hq;refine#[pl.isList.typeIs,λa e=>?_];cases e;obtain⟨o,n,e,c,hd,_⟩:=pl;exact#[o,e,hd]
  .refine#[#[o,I.kIn p o hk,hc],λa e=>?_];cases e;exact#[o,I.kIn _ o hk,hd]
  .have z:∃o,s.heap.get? p=Oa o/\o.ExactDict:=by
    rcases hk with⟨kvs,hk⟩|⟨kvs,hk⟩
    .obtain⟨_,_,_,_,o,_,_,e,ex,_⟩:=I.hok p _ hk;exact#[o,e,ex]
    .obtain⟨_,_,_,_,o,_,_,e,ex,_⟩:=I.hok p _ hk;exact#[o,e,ex]
   obtain⟨o,e,ex⟩:=z;refine#[#[o,e,ex.1],λa e2=>?_];cases e2;exact#[o,e,ex.2.1]
  .obtain⟨o,_,_,_,e,ex,_⟩:=I.hok p _ hk;refine#[#[o,e,ex.1],λa e2=>?_];cases e2;exact#[o,e,ex.2.1]
 | _=>exact False.elim ty
def tBM(K:af)(T:String)(r:V->La V->Hp->VK->Prop)(to:TE)(t:TA):TE:=λy H Q=>to y H λx H1=>tyV K T x H1/\t y H1 λxs H2=>r x xs H2 Q
variable {o e:Expr}{es:La Expr}{to:TE}{t:TA}{name:Str}{apos cpos:Pos}{T id:String}{r:V->La V->Hp->VK->Prop}
def ax8(pa:PlainAttrs T)(slot:Slot T name id)(hty:typeOf (.builtin id)=pure (.type "method_descriptor"))(hm:MtR X id r)(ho:PE X o to)(ha:PA X (e::es) t)
  (hbase:fq o name X.env (eval o X.env)=eval o X.env:=by rfl)
  (hfew:((backTo cpos (eQ (e::es) X.env)).all (λx=>!x.1)&&(backToKw cpos (keywordEach [] X.env)).all (λx=>x.1.isSome)
   && decide ((e::es).length+([]:La fh).length+(if([]:La fh).isEmpty then 0 else 1) < 30))=true:=by rfl)
  (hline:(apos.endLine==cpos.line)=true:=by rfl) (hs:eQ (e::es) X.env=(false,eval e X.env)::eQ es X.env:=by rfl) (hplain:(backTo cpos<|eQ es X.env).any (·.1)=false:=by rfl) :
  PE X (.Call (.Attribute o name apos) (e::es) [] cpos) (tBM X.K T r to t):=by
 intro za s y H Q I h;refine wpAny_Call_method_late hbase hfew hline rfl (thn (ho za s y H _ I h) λv s1 w=>?_);obtain⟨x,H1,I1,r1,ty,q1⟩:=w;obtain⟨h1,h2⟩:=bx0 I1 r1 ty;refine#[T,id,pa,slot,hty,h1,h2,?_];have hA:=ha cpos za s1 y H1 _ I1 q1;rw[hs]at hA |-;refine Calls.callWith_builtin (by show(false || (backTo cpos<|eQ es X.env).any (·.1))=false;rw[hplain]<;>rfl) (Calls.evalArgs_plain ?_);exact thn hA λus s2 #[vs,H2,I2,r2,q2]=>hm za s2 y H2 x vs v us Q I2 r1 r2 q2
end
def MtM(X:Cx)(id:String)(r:V->La V->Hp->VK->Prop):Prop :=
 ∀(za:La (fL×Obj)) (s:fK) (y:St) (H:Hp) (x:V) (xs:La V) (v:fJ) (us:La fJ) (Q:VK),Inv X za y H s->J3 x v->F4 xs us->r x xs H Q ->
  ft (fu X.prog X.w) X.A (call (.builtin id) (v::us)) (EP X za y Q) X.xe s
def F4.one:∀{x:V}{us:La fJ},F4 [x] us->∃u,us=[u]/\J3 x u
 | _,_,.cons r .nil=>#[_,rfl,r]
theorem F4.rep(h:F4 xs us):∀k:Nat,F4 (av k xs).flatten (av k us).flatten
 | 0=>.nil
 | k+1=>by
  rw[bI,bI,bZ,bZ];exact F4.append h<|F4.rep h k
theorem aF9(its:La fJ):∀(k:Nat) (acc:La fJ),
  dt (λx1 x2=>x1++x2) acc.toArray (av k its.toArray)=(acc++(av k its).flatten).toArray
 | 0,acc=>by simp
 | k+1,acc=>by
  have e:acc.toArray++its.toArray=(acc++its).toArray:=by simp
  have e2:(acc++its)++(av k its).flatten=acc++(av (k+1) its).flatten:=by rw[bI,bZ,au]
  rw[<- e2,<- aF9 its k (acc++its),<- e,bI,dj]
section
variable {X:Cx}{za:La (Addr×Obj)}{y:St}{H:Hp}{s:Shared}{l b:Addr}{xs ys zs:La V}
def Inv.lset{its its':La fJ}{n:Nat}{f:Array fJ->Array fJ}{t':Nat}(I:Inv X za y H s)(hH:H l=Oa (.lst xs))
  (e:s.heap.get? l=Oa { cls:=.type "list", data:=.seq its.toArray n }) (hf:f its.toArray=its'.toArray) (hv:F4 ys its') (hz:ys.length<=eR) :
  Inv X za y (upd H l<|.lst ys) { s with heap:=s.heap.update l (Obj.mapSeq f),toks:=t' }:=by
 have q:=PySem.IsL.update e f;rw[hf]at q;refine I.write (x:=l) (e:=l) (by rw[hH];exact trivial) (.inl rfl) (λb' u hb hu=>(Heap.get?_update_other s.heap (Obj.mapSeq f)<|Ne.symm hb).trans hu) #[_,q] ?_;exact#[hz,its',_,hv,q]
def Inv.lnew(I:Inv X za y H s)(hv:F4 ys its)(hz:ys.length<=eR):
  Inv X za y (upd H s.heap.objs.size<|.lst ys) { s with heap:=s.heap.push { cls:=.type "list", data:=.seq its.toArray },toks:=t' } :=
 I.laid (λ_ _ q=>fv _ q) (ak _) #[hz,its,0,hv,fx _ rfl]
theorem Inv.fresh(I:Inv X za y H s):H s.heap.objs.size=Z:=I.hok.fresh<|ak _
def Inv.lstM(I:Inv X za y H s)(hH:H l=Oa (.lst xs)):xs.length<=eR/\∃(its:La fJ) (n:Nat),F4 xs its/\xs.length=its.length/\s.heap.get? l=Oa { cls:=.type "list", data:=.seq its.toArray n }:=by
 obtain⟨z,its,n,r,e⟩:=I.hok l _ hH;exact#[z,its,n,r,r.length,e]
def ac4(h:n<=eR):Builtin.List.listTooLong n=false:=by
 unfold Builtin.List.listTooLong;exact decide_eq_false (by omega)
end
section
variable {X:Cx}
def bS9:V->La V->Hp->VK->Prop:=λx vs H Q=>∃l xs y,x=.ref l/\vs=[y]/\H l=Oa (.lst xs)/\xs.length < eR/\Q .non (upd H l<|.lst (xs++[y]))
def ap2:MtM X "list.append" bS9:=by
 intro za s w H x vs v us Q I rx rv h;obtain⟨l,xs,y,rfl,rfl,hH,hz,q⟩:=h;cases rx;obtain⟨u,rfl,ru⟩:=rv.one;obtain⟨z,its,n,r,hl,e⟩:=I.lstM hH;refine fk F.slot_list_append #[_,e,rfl] F.entry_list_append (F.args_list_append_2 _ _) (PySem.list_append l its.toArray n u (by rw[aq];omega)) #[e,?_];refine#[.non,_,I.lset (its':=its++[u]) hH e (by simp) (r.append<|.cons ru .nil) ?_,rfl,q];rw[aj,bW];omega
def aK7{y:Type}(xs:La y)(k:Nat):(av k xs).flatten.length=k*xs.length:=by
 induction k with
 | zero=>simp
 | succ k ih=>rw[bI,bZ,aj,ih,Nat.succ_mul,Nat.add_comm]
end
section
variable {prog:Program}{w:World}{A:Around}{E:Value->Shared->Prop}{s:Shared}
def bn5(its its2:La fJ)(a c:Nat):its.toArray.extract 0 a++its2.toArray++its.toArray.extract c its.toArray.size=(its.take a++its2++its.drop c).toArray:=by
  apply Array.toList_inj.mp
  first
    | (simp
       exact aY (by simp))
    | simp[aY]
    | simp
set_option maxRecDepth 100000 in
end
end L2
namespace Att
open PySem PySem.W PySem.Calls PyProof.Rows
def at6:∀(ns:La Int) (vs:La fJ),WellAll P h vs (ns.map WData.int)->IntsAre vs ns:=by
 intro ns
 induction ns with
 | nil =>
  intro vs w;rw[List.map_nil]at w;cases w;exact .nil
 | cons n ns ih =>
  intro vs w;rw[cX]at w;cases w with
  | cons a b =>
   cases a;exact .cons _ _<|ih _ b
def bn6{l:OpenLaw}{n:Nat}(hn:l.most=Oa n){P:Params}{h:Heap}{args:La WData}{vals:La fJ}
  (hpre:l.row.toRowW.claim.pre args=true) (hwl:WellAll P h vals args) :
  ∃a vs ns,vals=[fF a]/\args=[WData.list (ns.map WData.int)]/\h.get? a=Oa { cls:=.type "list", data:=.seq vs.toArray }/\IntsAre vs ns/\ns.length<=n:=by
 have hsh:WShape.hasAll [] args [.list .int]=true:=(pre_splitW hpre).1;have hc:l.pre.holds [] { args:=args }=true:=(pre_splitW hpre).2;obtain⟨d,r,rfl,h1,h2⟩:=hasAllW_cons hsh;obtain rfl:=hasAllW_nil h2;obtain⟨xs,rfl,h3⟩:=hasW_list h1;obtain⟨ns,rfl⟩:=items_int h3
 have hlen:ns.length<=n:=by
  unfold OpenLaw.pre at hc
  have h4:(WTm.not<|.lt (.lit<|.int (n:Int)) (.len<|.arg 0)).holds [] { args:=[.list (ns.map .int)] }=true:=by
   have h4:=(holds_andW hc).1;rw[hn]at h4;exact h4
  have h5:=condW_of h4 (w_not<|w_lt w_lit (w_len_list<|w_arg rfl));rw[ai]at h5;refine Nat.le_of_not_lt λq=>?_
  have q':(n:Int) < ((ns.length:Nat):Int):=by omega
  first
   | (rw[decide_eq_true q']at h5;exact absurd h5<|by decide)
   | (simp at h5;omega)
 cases hwl with
 | cons w1 w2 =>
  cases w2;cases w1 with
  | list ho hall=>exact#[_,_,ns,rfl,rfl,ho,at6 ns _ hall,hlen]
def bn9(l:OpenLaw)(args:La WData):l.row.toRowW.claim.post args (.bool true) args=true :=
 postW_of (r:=l.row.toRowW) (X:=(true==true))
  (show WShape.has [] (.bool true) .bool=true by first|rfl|decide|simp[WShape.has,WShape.arms,WShape.armsAll])
  (show(WTm.eq .res<|.lit (.bool true)).value [] { args:=args,res:=Oa (.bool true),after:=args }=Oa (.bool<|true==true) from w_eq_bool (w_res rfl) w_lit) rfl
def attach_call{l:OpenLaw}{n:Nat}{q:eX}{loose:La Str}{XP:(Str->Ob fJ)->Heap->Prop}{YP:World->Heap->Prop}{d:DefRec}
  (hn:l.most=Oa n) (hdf:d.params.defaults=[])
  (call:∀(w:World) (s₀ s₁:fK) (mg mb:Str->Ob fJ) (fa:fL) (o:Obj) (pm cd doc:fJ) (a:fL) (vs:La fJ) (ns:La Int),
   Ground q loose [] XP w s₀ mg mb s₁.heap->YP w s₁.heap ->
   s₁.heap.get? fa=Oa o->o.data=.func (docDef d.name d.params d.body d.scope pm cd doc)->s₁.heap.CodeRec cd d.name->mg d.name=Oa (.ref fa) ->
   s₁.heap.get? a=Oa { cls:=.type "list", data:=.seq vs.toArray }->IntsAre vs ns->ns.length<=n->s₁.gens = (List.toArray []) ->
   codeAny (fu l.prog w) callerA (.call (.ref fa) #[[.ref a],[]]) (λr s'=>r=.ok (.ret (.bool true))/\OldK s₁.heap s'.heap/\s'.os=s₁.os/\AllBare s'.gens) s₁) :
  WalkO q loose XP YP l.row.toRowW d [] (λf vs=>PySem.call f vs):=by
 intro w s₀ s₁ mg mb G Y fa o pm cd doc dV kV ho hd hcd hD hmg hg args vals as hpre hlay hrd hwl hlo;obtain rfl:dV=.none:=Dflts.none hD hdf;obtain rfl:kV=.none:=Dflts.noKw hD;obtain⟨a,vs,ns,rfl,rfl,hobj,hints,hlen⟩:=bn6 hn hpre hwl;refine enter_call (codeAny_mono (call w s₀ s₁ mg mb fa o pm cd doc a vs ns G Y ho (fd_plain hd) hcd hmg hobj hints hlen hg) λr s' hq=>?_);obtain⟨rfl,h2,h3,h4⟩:=hq;exact#[.inl #[.bool true,.bool true,[],rfl,λ_=>rfl,.bool true,bn9 l _,λ_=>#[List.Pairwise.nil,λ_ hm=>(nomatch hm)]],h2,h3,h4]
end Att
namespace L2
open PySem PySem.Spec PyProof.Rows
theorem aE2:∀{vs:La fJ}{ns:La Int},IntsAre vs ns->F4 (ns.map V.int) vs
 | _,_,.nil=>.nil
 | _,_,.cons n t h=>.cons #[t,rfl]<|aE2 h
def cB6(H:Hp):Prop:=∀b,H b=Z\/∃o xs,H b=Oa (.frz o<|.lst xs)
def bE5{P:eX}{w:World}{K:af}{mg mb:Str->Ob fJ}{CX:CXT}{k:Nat}{fa a:fL}{fd:eZ}{x:Str}{sp:Sp}{s₁:fK}{vs:La fJ}{ns:La Int}
  (KX:K.In s₁.heap) (hns:s₁.heap.Ns eW mg) (hb:s₁.heap.Ns builtinsNs mb) (hbb:∀x:Str,x ≠ "__name__" -> mb x=fe x) (hlim:s₁.heap.NoLimit) (hg:s₁.gens = (List.toArray []))
  (ha:s₁.heap.get? a=Oa { cls:=.type "list", data:=.seq vs.toArray }) (hi:IntsAre vs ns) (hl:ns.length<=eR) (hr:Room k callerA)
  (F:∀base:Heap,K.In base->base.Ns eW mg->FnOk P w K mg base CX k fa fd [x] sp) (hbind:∀(s:fK) (u:fJ),BindsTo s fd #[[u],[]] [(x,u)])
  (hsp:∀H:Hp,cB6 H->SqL K H a (ns.map V.int)->sp [.ref a] H (λv _=>v=.bl true) λ_ _ _=>False)
  (hCX:∀H e s',CX [] H s₁ (λ_ _ _=>False) e s'->False) :
  codeAny (fu P w) callerA (.call (.ref fa) #[[.ref a],[]]) (λr s'=>r=.ok (.ret<|.bool true)/\OldK s₁.heap s'.heap/\s'.os=s₁.os/\AllBare s'.gens) s₁:=by
 have rv:=aE2 hi;have lenV:=hi.length
 have core:∀H:Hp,cB6 H->SqL K H a (ns.map V.int)->HOk P w H s₁.heap->(∀b,H b≠Z->b=a)->(H a≠Z->K.lookup a=Z) ->
   codeAny (fu P w) callerA (.call (.ref fa) #[[.ref a],[]]) (λr s'=>r=.ok (.ret<|.bool true)/\OldK s₁.heap s'.heap/\s'.os=s₁.os/\AllBare s'.gens) s₁:=by
  intro H hO hS hok hA hK;have base_of:∀{b:fL}{o:Obj},s₁.heap.get? b=Oa o->H b=Z->(aL9 s₁.heap H).get? b=Oa o:=λe n=>bJ2 e n
  have noA:∀{b:fL}{o:Obj}{es:Array DictEntry}{ep:Nat},s₁.heap.get? b=Oa o->o.data=.dict es ep->H b=Z:=λ{b o es ep} e d=>by
   cases q:H b with
   | none=>rfl
   | some u =>
    have e':b=a:=hA b (by rw[q];simp);subst e';rw[ha]at e;cases e;have d':Data.seq vs.toArray _=Data.dict es ep:=d;cases d'
  have nsK:∀{b:fL}{m:Str->Ob fJ},s₁.heap.Ns b m->(aL9 s₁.heap H).Ns b m:=λ{b m} #[o,es,ep,e,d,r]=>#[o,es,ep,base_of e<|noA e d,d,r]
  have hKb:K.In (aL9 s₁.heap H):=λb o e=>base_of (KX b o e) (by
   cases q:H b with
   | none=>rfl
   | some u =>
    have e':b=a:=hA b (by rw[q];simp);subst e'
    rw[hK (by rw[q];simp)]at e;cases e)
  have hM:Mod K mg (aL9 s₁.heap H):=#[hKb,nsK hns,#[mb,nsK hb,hbb],let#[mc,h1,h2]:=hlim;#[mc,nsK h1,h2]];have e0:Env0 P w K mg (aL9 s₁.heap H) callerA [] s₁ H:=#[rfl,hM,λb o e=>bV3 e,dS<|bq0 _ _,trivial,λb hb=>absurd (show b∈([]:La fL) from hb) (by simp),hok,.of_eq hg];refine codeAny_mono ((F _ hKb<|nsK hns).run callerA [] s₁ H #[[.ref a],[]] [.ref a] [.ref a] _ _ hr e0 (hbind s₁<|.ref a) (.cons rfl .nil)<|hsp H hO hS) λr s' h=>?_
  cases r with
  | error e=>exact(hCX H e s' h).elim
  | ok fl =>
   cases fl with
   | next=>exact False.elim h
   | brk=>exact False.elim h
   | cont=>exact False.elim h
   | ret u =>
    obtain⟨v,H',os,bare,un,hok',r',q⟩:=h;have q':v=.bl true:=q;subst q';obtain rfl:u=Value.bool true:=r';refine#[rfl,OldK.of_keep λb o e=>?_,os,bare];cases q:H b with
    | none=>exact un.keep b o e q (by intro z;exact absurd (show b∈([]:La fL) from z)<|by simp) (by simp)
    | some u =>
     rcases hO b with z|⟨ob,xs,z⟩
     .rw[q]at z;cases z
     .have z2:=un.frzs b ob _ z;obtain⟨e1,_⟩:=hok b _ z;obtain⟨e2,_⟩:=hok' b _ z2;rw[e]at e1;cases e1;exact e2
 cases hk:K.lookup a with
 | some o =>
  have e:=KX a o hk;rw[ha]at e;cases e;refine core (λ_=>Z) (λ_=>.inl rfl) (.inr #[_,vs.toArray,_,hk,rfl,rfl,rfl,by rw[aq,lenV];exact hl,by simpa using rv]) (λb u z=>by have z':(Z:Ob HO)=Oa u:=z;cases z') (λb z=>absurd rfl z) λz=>absurd rfl z
 | none =>
  refine core (λb=>if b=a then Oa (.frz { cls:=.type "list", data:=.seq vs.toArray }<|.lst (ns.map V.int)) else Z) (λb=>?_) (.inl<|.inr #[{ cls:=.type "list", data:=.seq vs.toArray },if_pos rfl]) (λb u z=>?_) (λb z=>?_) λ_=>hk
  .by_cases hb:b=a
   .exact .inr #[_,_,if_pos hb]
   .exact .inl (if_neg hb)
  .by_cases hb:b=a
   .have z':=(if_pos hb).symm.trans z;cases z';subst hb;exact#[ha,by rw[ai];exact hl,vs,_,rv,ha]
   .have z':=(if_neg hb).symm.trans z;cases z'
  .by_cases hb:b=a
   .exact hb
   .exact absurd (if_neg hb) z
def bO8{l:PySem.W.OpenLaw}{n k:Nat}{q:eX}{loose:La Str}{XP:(Str->Ob fJ)->Heap->Prop}{YP:World->Heap->Prop}{d:DefRec}{K:Params->af}{CX:World->CXT}{sp:World->Sp}{x:Str}
  (hn:l.most=Oa n) (hn2:n<=eR) (hdf:d.params.defaults=[]) (hr:Room k callerA)
  (hY:∀(w:World) (h:Heap),YP w h->(K w.params).In h)
  (F:∀(w:World) (mg:Str->Ob fJ) (fa:fL) (h:Heap),(K w.params).In h->h.Ns eW mg->mg d.name=Oa (.ref fa) ->
   ∃fd:eZ,(∀(s:fK) (u:fJ),BindsTo s fd #[[u],[]] [(x,u)]) /\
    ∀base:Heap,(K w.params).In base->base.Ns eW mg->FnOk l.prog w (K w.params) mg base (CX w) k fa fd [x] (sp w))
  (hsp:∀(w:World) (H:Hp) (a:fL) (ns:La Int),ns.length<=n->cB6 H->SqL (K w.params) H a (ns.map V.int)->sp w [.ref a] H (λv _=>v=.bl true) λ_ _ _=>False)
  (hCX:∀(w:World) (H:Hp) (s:fK) (e:fJ) (s':fK),CX w [] H s (λ_ _ _=>False) e s'->False) :
  PySem.W.WalkO q loose XP YP l.row.toRowW d [] (λf vs=>PySem.call f vs):=by
 refine Att.attach_call hn hdf λw s₀ s₁ mg mb fa o pm cd doc a vs ns G Y ho hd hcd hmg hobj hints hlen hg=>?_
 have KX:=hY w _ Y;obtain⟨fd,hb,hF⟩:=F w mg fa _ KX G.T.g hmg;exact bE5 KX G.T.g G.T.b G.T.builtins G.T.nolimit hg hobj hints (aI hlen hn2) hr hF hb (λH hO hS=>hsp w H a ns hlen hO hS) λH e s'=>hCX w H s₁ e s'
noncomputable def S8(s:Stmt):Arguments:=match s with
 | .FunctionDef _ a _ _ _ _ _ _ _ _=>a
 | _=>{ posonlyargs:=[],args:=[],vararg:=Z,kwonlyargs:=[],kw_defaults:=[],kwarg:=Z,defaults:=[] }
noncomputable def G8(s:Stmt):La Stmt:=match s with
 | .FunctionDef _ _ b _ _ _ _ _ _ _=>b
 | _=>[]
noncomputable def B8(s:Stmt):Scope:=match s with
 | .FunctionDef _ _ _ _ _ _ sc _ _ _=>sc
 | _=>{ kind:=.function,names:=[],isGenerator:=false,isCoroutine:=false }
abbrev CX0:CXT:=λ_ _ _ _ _ _=>False
abbrev E0:XK:=λ_ _ _=>False
def cH3:x6 CX0 X E0:=λ_ _ _ _ _ _ _ h=>h.elim
structure Fun (K:af) (x qual:Str) (st:Stmt) (f:fL) (fd:eZ):Prop where
 ex:∃(oc:fJ) (od:Option fL) (kV doc pm:fJ) (an:Option fL) (cdv ct:fJ) (osl:Array (Option fJ)),
  fd=bB x qual (S8 st) (G8 st) (B8 st) .none kV doc pm an cdv ct/\K.lookup f=Oa #[oc,od,.func fd,osl]/\cf K cdv qual=true
 kp:aN K (.ref f)=true
section
variable {P:Program}{w:World}{K:PySem.W.Frag}{mg:Str->Ob Value}{base:Heap}
def bb9{x qual:Str}{st:Stmt}{f:fL}{oc:fJ}{od an:Ob fL}{osl:Array (Ob fJ)}{kV doc pm cdv ct:fJ}(l:K.lookup f=Oa #[oc,od,.func<|bB x qual (S8 st) (G8 st) (B8 st) .none kV doc pm an cdv ct,osl])
  (c:cf K cdv qual=true) (k:aN K (.ref f)=true):Fun K x qual st f (bB x qual (S8 st) (G8 st) (B8 st) .none kV doc pm an cdv ct):=#[#[oc,od,kV,doc,pm,an,cdv,ct,osl,rfl,l,c],k]
end
def ae1(h:n<=1000):n < eR:=dz h (by decide)
section
variable {X:Cx}
noncomputable def pv(i:Nat)(hN:X.N[i]? = Oa x:=by rfl)(hv:Vis X.env.scope x:=by first|exact Or.inl rfl|exact Or.inr (Or.inl rfl)|exact Or.inr<|Or.inr rfl)(hd:(x==("__debug__":Str))=false:=by decide)
  (hcd:(x==("__classdict__":Str))=false:=by decide):PE X (.Name x pos) (cE6 i):=P4 hN hv hd hcd
end
def ap4{A B:Prop}(h:B):if false=true then A else B:=by
 rw[if_neg aX];exact h
def an1{A B:Prop}(h:A):if true=true then A else B:=by
 rw[if_pos rfl];exact h
def D8(H H':Hp):Prop:=∀b o,H b=Oa o->H' b=Oa o
def D8.refl(H:Hp):D8 H H:=λ_ _ h=>h
def D8.trans(a:D8 H H1)(b:D8 H1 H2):D8 H H2:=λc o h=>b c o<|a c o h
def D8.free(e:D8 H H')(h:H' l=Option.none):H l=Option.none:=by
 cases q:H l with
 | none=>rfl
 | some o =>
  rw[e l o q]at h;cases h
end L2
set_option maxHeartbeats 4000000
namespace G
def xbm{y z:Type}{o:Ob y}{f:y->Ob z}{b:z}(h:o.bind f=Oa b):∃a,o=Oa a/\f a=Oa b:=xbo h
open PySem PySem.Spec PyProof.Rows L2
abbrev D:=PyData
mutual
def Rep(K:af) (H:Hp):D->V->Prop
 | .none,v=>v=.non
 | .bool b,v=>v=.bl b
 | .int i,v=>v=.int i
 | .str x,v=>v=.str x
 | .tuple ds,v=>∃a vs,v=.ref a/\SqT K H a vs/\Reps K H ds vs
 | .list ds,v=>∃a vs,v=.ref a/\SqL K H a vs/\Reps K H ds vs
 | .dict kvs,v=>∃a m,v=.ref a/\H a=Oa (.dK m)/\RepKs K H kvs m
def Reps(K:af) (H:Hp):La D->La V->Prop
 | [],vs=>vs=[]
 | d::ds,vs=>∃v r,vs=v::r/\Rep K H d v/\Reps K H ds r
/-- a dict by texts -/
def RepKs(K:af) (H:Hp):La (D×D)->La (Key×V)->Prop
 | [],m=>m=[]
 | (k,d)::r,m=>∃x v t,k=.str x/\m=(.inr x,v)::t/\Rep K H d v/\RepKs K H r t
end
section
variable {K:PySem.W.Frag}{H H' H0 H1 H2 Hf zc Hf1 Hf2:Hp}
def bg1(e:D8 H H')(h:Rd H a u):Rd H' a u:=by
 rcases h with h|⟨o,h⟩
 .exact .inl (e _ _ h)
 .exact .inr #[o,e _ _ h]
def F8(e:D8 H H')(h:SqT K H a xs):SqT K H' a xs:=h.imp (bg1 e) id
def G9(e:D8 H H')(h:SqL K H a xs):SqL K H' a xs:=h.imp (bg1 e) id
mutual
theorem Rep.mono(e:D8 H H'):∀{d:D}{v:V},Rep K H d v->Rep K H' d v
 | .none,_,h=>h
 | .bool _,_,h=>h
 | .int _,_,h=>h
 | .str _,_,h=>h
 | .tuple _,_,#[a,vs,h1,h2,h3]=>#[a,vs,h1,F8 e h2,Reps.mono e h3]
 | .list _,_,#[a,vs,h1,h2,h3]=>#[a,vs,h1,G9 e h2,Reps.mono e h3]
 | .dict _,_,#[a,m,h1,h2,h3]=>#[a,m,h1,e _ _ h2,RepKs.mono e h3]
theorem Reps.mono(e:D8 H H'):∀{ds:La D}{vs:La V},Reps K H ds vs->Reps K H' ds vs
 | [],_,h=>h
 | _::_,_,#[v,r,h1,h2,h3]=>#[v,r,h1,Rep.mono e h2,Reps.mono e h3]
theorem RepKs.mono(e:D8 H H'):∀{ds:La (D×D)}{vs:La (Key×V)},RepKs K H ds vs->RepKs K H' ds vs
 | [],_,h=>h
 | (_,_)::_,_,#[x,v,t,h1,h2,h3,h4]=>#[x,v,t,h1,h2,Rep.mono e h3,RepKs.mono e h4]
end
theorem Reps.length:∀{ds:La D}{vs:La V},Reps K H ds vs->vs.length=ds.length
 | [],_,h=>by cases h;rfl
 | _::_,_,#[v,r,h1,h2,h3]=>by subst h1;simp[Reps.length h3]
theorem Reps.get:∀{ds:La D}{vs:La V}{i:Nat}{d:D},Reps K H ds vs->ds[i]? = Oa d->∃v,vs[i]? = Oa v/\Rep K H d v
 | [],_,_,_,_,e=>by simp at e
 | x::_,_,0,_,#[v,r,h1,h2,h3],e=>by subst h1;simp at e;subst e;exact#[v,rfl,h2]
 | x::_,_,i+1,_,#[v,r,h1,h2,h3],e=>by
  subst h1;obtain⟨u,q1,q2⟩:=Reps.get (i:=i) h3 (by simpa using e);exact#[u,by simpa using q1,q2]
theorem Reps.append:∀{ds es:La D}{vs us:La V},Reps K H ds vs->Reps K H es us->Reps K H (ds++es) (vs++us)
 | [],_,_,_,h,q=>by cases h;exact q
 | _::_,_,_,_,#[v,r,h1,h2,h3],q=>by subst h1;exact#[v,r++_,rfl,h2,Reps.append h3 q]
theorem Reps.take:∀{ds:La D}{vs:La V}(n:Nat),Reps K H ds vs->Reps K H (ds.take n) (vs.take n)
 | [],_,n,h=>by cases h;simp[Reps]
 | _::_,_,0,h=>by simp[Reps]
 | _::_,_,n+1,#[v,r,h1,h2,h3]=>by subst h1;exact#[v,r.take n,rfl,h2,Reps.take n h3]
theorem Reps.drop:∀{ds:La D}{vs:La V}(n:Nat),Reps K H ds vs->Reps K H (ds.drop n) (vs.drop n)
 | [],_,n,h=>by cases h;simp[Reps]
 | _::_,_,0,h=>h
 | _::_,_,n+1,#[v,r,h1,h2,h3]=>by subst h1;exact Reps.drop n h3
theorem Reps.ints:∀(ns:La Int),Reps K H (ns.map fB) (ns.map V.int)
 | []=>rfl
 | n::r=>#[.int n,r.map V.int,rfl,rfl,Reps.ints r]
theorem Reps.flatten(h:Reps K H ds vs):∀k:Nat,Reps K H (av k ds).flatten (av k vs).flatten
 | 0=>rfl
 | k+1=>by simp only[bI,bZ];exact h.append<|Reps.flatten h k
structure Grow (H Hf H' zc:Hp):Prop where
 big:D8 H H'
 sub:D8 zc H'
 ext:D8 Hf zc
 new:∀b,zc b≠Z->Hf b≠Z\/H b=Z
theorem Grow.refl(h:D8 Hf H):Grow H Hf H Hf:=#[D8.refl _,h,D8.refl _,λ_ h=>.inl h]
theorem Grow.trans(a:Grow H Hf H1 Hf1)(b:Grow H1 Hf1 H2 Hf2):Grow H Hf H2 Hf2 :=
 #[a.big.trans b.big,b.sub,a.ext.trans b.ext,λx h=>(b.new x h).elim (a.new x) λz=>.inr<|a.big.free z]
def G4(h:H p=Z):D8 H (upd H p o):=λb u e=>by rw[D0 (D9 e h)];exact e
def Grow.laid(s:D8 Hf H)(h:H p=Z):Grow H Hf (upd H p o) (upd Hf p o):=by
 refine#[G4 h,λb u e=>?_,G4<|s.free h,λb e=>?_]
 .by_cases q:b=p
  .subst q;rw[C9]at e;rw[C9];exact e
  .rw[D0 q]at e;rw[D0 q];exact s b u e
 .by_cases q:b=p
  .subst q;exact .inr h
  .rw[D0 q]at e;exact .inl e
def Grow.made(s:D8 Hf H)(h:H p=Z):Grow H Hf (upd H p o) Hf :=
 #[G4 h,s.trans<|G4 h,D8.refl _,λ_ e=>.inl e]
def Grow.freeze(g:Grow H Hf H1 Hf1)(h:H1 p=Oa o)(n:Hf1 p=Z)(f:H p=Z):Grow H Hf H1 (upd Hf1 p o):=by
 refine#[g.big,λb u e=>?_,g.ext.trans<|G4 n,λb e=>?_]
 .by_cases q:b=p
  .subst q;rw[C9]at e;rw[h];exact e
  .rw[D0 q]at e;exact g.sub b u e
 .by_cases q:b=p
  .subst q;exact .inr f
  .rw[D0 q]at e;exact g.new b e
end
inductive B where
 | val (d:D)
 | own (ds:List D)
 | exc (x:Str)
 | opq (a:fL)
abbrev Rho:=La<|Ob B
noncomputable def clA(K:af)(x:Str):Ob fL:=match aJ K eW x with
 | some (Oa (.ref C))=>Oa C
 | _=>Z
def SB(K:af)(H0 H Hf:Hp):B->V->Prop
 | .val d,v=>Rep K Hf d v
 | .own ds,v=>∃a vs,v=.ref a/\H a=Oa (.lst vs)/\Hf a=Z/\H0 a=Z/\Reps K Hf ds vs
 | .exc x,v=>∃a o C,v=.ref a/\Hf a=Oa (.frz o<|.own a)/\clA K x=Oa C/\o.cls=.ref C
 | .opq a,v=>v=.ref a
structure Slots (K:af) (H0:Hp) (ρ:Rho) (σ:L2.St) (H Hf:Hp):Prop where
 len:ρ.length=σ.length
 is:∀(i:Nat) (b:B),ρ[i]? = Oa (Oa b)->∃v,σ[i]? = Oa (Oa v)/\SB K H0 H Hf b v
 apart:∀(i j:Nat) (ds es:List D) (a:fL),ρ[i]? = Oa (Oa<|.own ds)->ρ[j]? = Oa (Oa<|.own es)->σ[i]? = Oa (Oa<|V.ref a)->σ[j]? = Oa (Oa<|V.ref a)->i=j
section
variable {K:PySem.W.Frag}{H H' H0 H1 H2 Hf zc Hf1 Hf2:Hp}{y:Rho}{w:L2.St}
def SB.grow(h:SB K H0 H Hf b v)(g:Grow H Hf H' zc):SB K H0 H' zc b v:=by
 cases b with
 | val d=>exact Rep.mono g.ext h
 | opq a=>exact h
 | exc C =>
  obtain⟨a,o,C,e,h1,h2⟩:=h;exact#[a,o,C,e,g.ext _ _ h1,h2]
 | own ds =>
  obtain⟨a,vs,e,h1,h2,h3,h4⟩:=h;refine#[a,vs,e,g.big _ _ h1,?_,h3,h4.mono g.ext];cases q:zc a with
  | none=>rfl
  | some u =>
   rcases g.new a (by rw[q];simp) with z|z
   .exact absurd h2 z
   .rw[h1]at z;cases z
theorem Slots.grow(s:Slots K H0 y w H Hf)(g:Grow H Hf H' zc):Slots K H0 y w H' zc :=
 #[s.len,λi b e=>let#[v,h1,h2]:=s.is i b e;#[v,h1,h2.grow g],s.apart]
end
abbrev DE:=Rho->Ob D
def tJ(K:af)(y:Rho)(R:Hp->V->Hp->Hp->Prop):TE:=λz H Q=>∃H0 Hf,D8 Hf H/\Slots K H0 y z H Hf/\∀v H' zc,Grow H Hf H' zc->R H v H' zc->Q v H'
def JE(X:Cx)(e:Expr)(f:DE):Prop:=∀y d,f y=Oa d->PE X e (tJ X.K y λ_ v _ Hf=>Rep X.K Hf d v)
def Sq(K:af):Bool->Hp->fL->La V->Prop
 | true=>SqT K
 | false=>SqL K
def RQ(K:af)(t:Bool)(ds:La D)(v:V)(H Hf:Hp):Prop:=∃a vs,v=.ref a/\Sq K t H a vs/\Reps K Hf ds vs
def JQ(X:Cx)(e:Expr)(f:Rho->Ob (Bool×La D)):Prop:=∀y t ds,f y=Oa (t,ds)->PE X e (tJ X.K y λ_ v H Hf=>RQ X.K t ds v H Hf)
def JN(X:Cx)(e:Expr)(f:Rho->Ob (La D)):Prop:=∀y ds,f y=Oa ds->PE X e (tJ X.K y λH v H' zc=>∃a vs,v=.ref a/\H a=Z/\H' a=Oa (.lst vs)/\zc a=Z/\Reps X.K zc ds vs)
def tJA(K:af)(y:Rho)(ds:La D):TA:=λz H Q=>∃H0 Hf,D8 Hf H/\Slots K H0 y z H Hf/\∀vs H' zc,Grow H Hf H' zc->Reps K zc ds vs->Q vs H'
structure JA (X:Cx) (es:List Expr) (f:Rho->Option (List D)):Prop where
 len:∀ρ ds,f ρ=Oa ds->ds.length=es.length
 run:∀ρ ds,f ρ=Oa ds->PA X es (tJA X.K ρ ds)
def JT(X:Cx)(e:Expr)(f:Rho->Ob Bool):Prop:=∀y c,f y=Oa c->PT X e (λz H Q=>∃H0 Hf,D8 Hf H/\Slots X.K H0 y z H Hf/\∀H' zc,Grow H Hf H' zc->Q c H')
def JW(X:Cx)(e:Expr)(f:Rho->Ob Bool):Prop:=∀y c,f y=Oa c->PW X e (λz H Q=>∃H0 Hf,D8 Hf H/\Slots X.K H0 y z H Hf/\∀H' zc,Grow H Hf H' zc->Q c H')
section
variable {X:Cx}
def C8(h:PE X e t)(i:∀y H Q,t' y H Q->t y H Q):PE X e t':=λza s y H Q I q=>h za s y H Q I<|i y H Q q
def ac2(h:PT X e t)(i:∀y H Q,t' y H Q->t y H Q):PT X e t':=λza s y H Q I q=>h za s y H Q I<|i y H Q q
noncomputable def dC(d:D):DE:=λ_=>Oa d
noncomputable def A6(i:Nat):DE:=λy=>match y[i]? with
 | some (Oa (.val d))=>Oa d
 | _=>Z
noncomputable def B0(i:Nat):Rho->Ob (Bool×La D):=λy=>match y[i]? with
 | some (Oa (.own ds))=>Oa (false,ds)
 | some (Oa (.val (.list ds)))=>Oa (false,ds)
 | some (Oa (.val (.tuple ds)))=>Oa (true,ds)
 | _=>Z
noncomputable def aJ0:D->Ob (Bool×La D)
 | .list ds=>Oa (false,ds)
 | .tuple ds=>Oa (true,ds)
 | _=>Z
def cy1:JE X (.Constant (.int i) j pos) (dC<|.int i):=λy d h=>by
 cases h;exact C8 cp3 λz H Q #[H0,Hf,s,sl,k]=>k _ H Hf (Grow.refl s) rfl
def aT0:JE X (.Constant (.bool b) j pos) (dC<|.bool b):=λy d h=>by
 cases h;exact C8 cH2 λz H Q #[H0,Hf,s,sl,k]=>k _ H Hf (Grow.refl s) rfl
def bH8:JE X (.Constant .none j pos) (dC .none):=λy d h=>by
 cases h;exact C8 cp1 λz H Q #[H0,Hf,s,sl,k]=>k _ H Hf (Grow.refl s) rfl
def bb0:JE X (.Constant (.str x) j pos) (dC<|.str x):=λy d h=>by
 cases h;exact C8 co8 λz H Q #[H0,Hf,s,sl,k]=>k _ H Hf (Grow.refl s) rfl
def bH3(i:Nat)(hN:X.N[i]? = Oa x:=by rfl)(hv:Vis X.env.scope x:=by first|exact Or.inl rfl|exact Or.inr (Or.inl rfl)|exact Or.inr<|Or.inr rfl)(hd:(x==("__debug__":Str))=false:=by decide)
  (hcd:(x==("__classdict__":Str))=false:=by decide):JE X (.Name x pos) (A6 i):=λy d h=>by
 refine C8 (P4 hN hv hd hcd) λz H Q w=>?_
 obtain⟨H0,Hf,s,sl,k⟩:=w;unfold A6 at h;split at h
 .rename_i d' e;cases h;obtain⟨v,h1,h2⟩:=sl.is i _ e;exact#[v,h1,k v H Hf (Grow.refl s) h2]
 .cases h
def cw3(i:Nat)(hN:X.N[i]? = Oa x:=by rfl)(hv:Vis X.env.scope x:=by first|exact Or.inl rfl|exact Or.inr (Or.inl rfl)|exact Or.inr<|Or.inr rfl)(hd:(x==("__debug__":Str))=false:=by decide)
  (hcd:(x==("__classdict__":Str))=false:=by decide):JQ X (.Name x pos) (B0 i):=λy t ds h=>by
 refine C8 (P4 hN hv hd hcd) λz H Q w=>?_
 obtain⟨H0,Hf,s,sl,k⟩:=w;unfold B0 at h;split at h
 .rename_i d' e;cases h;obtain⟨v,h1,a,vs,rfl,h2,h3,h4,h5⟩:=sl.is i _ e;exact#[_,h1,k _ H Hf (Grow.refl s) #[a,vs,rfl,SqL.of h2,h5]]
 .rename_i d' e;cases h;obtain⟨v,h1,a,vs,rfl,h2,h3⟩:=sl.is i _ e;exact#[_,h1,k _ H Hf (Grow.refl s) #[a,vs,rfl,G9 s h2,h3]]
 .rename_i d' e;cases h;obtain⟨v,h1,a,vs,rfl,h2,h3⟩:=sl.is i _ e;exact#[_,h1,k _ H Hf (Grow.refl s) #[a,vs,rfl,F8 s h2,h3]]
 .cases h
def Rep.seq{K:af}{H Hf:Hp}{d:D}{v:V}{t:Bool}{ds:La D}(h:Rep K Hf d v)(s:D8 Hf H)(e:aJ0 d=Oa (t,ds)):RQ K t ds v H Hf:=by
 cases d with
 | list xs=>cases e;obtain⟨a,vs,e1,e2,e3⟩:=h;exact#[a,vs,e1,G9 s e2,e3]
 | tuple xs=>cases e;obtain⟨a,vs,e1,e2,e3⟩:=h;exact#[a,vs,e1,F8 s e2,e3]
 | _=>cases e
def qE(f:DE):Rho->Ob (Bool×La D):=λy=>(f y).bind aJ0
def bG1(h:JE X e f):JQ X e (qE f):=λy t ds q=>by
 obtain⟨d,h1,h2⟩:=xbm q;exact C8 (h y d h1) λz H Q #[H0,Hf,s,sl,k]=>#[H0,Hf,s,sl,λv H' zc g r=>k v H' zc g<|r.seq g.sub h2]
noncomputable def A8:Rho->Ob (La D):=λ_=>Oa []
noncomputable def A0(f:DE)(g:Rho->Ob (La D)):Rho->Ob (La D):=λy=>(f y).bind λd=>(g y).map λds=>d::ds
def aL1:JA X [] A8:=#[λy ds h=>by cases h;rfl,λy ds h pos za s z H Q I #[H0,Hf,ss,sl,k]=>by
 cases h
 exact G6 pos za s z H Q I (k [] H Hf (Grow.refl ss) rfl)]
def h9(h:JE X e f)(r:JA X es g)(hs:eQ (e::es) X.env=(false,eval e X.env)::eQ es X.env:=by rfl):JA X (e::es) (A0 f g):=by
 refine#[λy ds q=>?_,λy ds q=>?_]
 .obtain⟨d,h1,h2⟩:=xbm q;obtain⟨es',h3,h4⟩:=xmo h2;subst h4;simp[r.len y es' h3]
 .obtain⟨d,h1,h2⟩:=xbm q;obtain⟨es',h3,h4⟩:=xmo h2;subst h4
  rintro pos za s z H Q I ⟨H0,Hf,ss,sl,k⟩
  refine E6 (h y d h1) (r.run y es' h3) hs pos za s z H Q I #[H0,Hf,ss,sl,λv H1 Hf1 g1 r1=>#[H0,Hf1,g1.sub,sl.grow g1,λvs H2 Hf2 g2 r2=>?_]];exact k (v::vs) H2 Hf2 (g1.trans g2) #[v,vs,rfl,r1.mono g2.ext,r2]
noncomputable def L9(f:Rho->Ob (La D)):DE:=λy=>(f y).map PyData.tuple
def cx2(h:JA X es f)(hn:es.length<=1000:=by decide):JE X (.Tuple es k pos) (L9 f):=λy d q=>by
 obtain⟨ds,h1,h2⟩:=xmo q;subst h2;refine C8 (bB2 λpos za s z H Q I t=>h.run y ds h1 pos za s z H Q I t) λz H Q w=>?_
 obtain⟨H0,Hf,s,sl,k⟩:=w;refine#[H0,Hf,s,sl,λvs H1 Hf1 g r=>#[?_,λp hp=>?_]]
 .rw[r.length,h.len y ds h1];exact cn<|ae1 hn
 .exact k _ _ _ (g.trans<|Grow.laid g.sub hp) #[p,vs,rfl,SqT.of C9,r.mono (Grow.laid (o:=.tup vs) g.sub hp).ext]
def ba9(h:JA X es f)(hn:es.length<=1000:=by decide):JN X (.List es pos) f:=λy ds h1=>by
 refine C8 (cp2 λpos za s z H Q I t=>h.run y ds h1 pos za s z H Q I t) λz H Q w=>?_
 obtain⟨H0,Hf,s,sl,k⟩:=w;refine#[H0,Hf,s,sl,λvs H1 Hf1 g r=>#[?_,λp hp=>?_]]
 .rw[r.length,h.len y ds h1];exact cn<|ae1 hn
 .exact k _ _ _ (g.trans<|Grow.made g.sub hp) #[p,vs,rfl,g.big.free hp,C9,g.sub.free hp,r]
noncomputable def E5(f:Rho->Ob (La D)):DE:=λy=>(f y).map PyData.list
def ac7(h:JN X e f):JE X e (E5 f):=λy d q=>by
 obtain⟨ds,h1,h2⟩:=xmo q;subst h2;refine C8 (h y ds h1) λz H Q #[H0,Hf,s,sl,k]=>#[H0,Hf,s,sl,?_]
 rintro v H' zc g ⟨a,vs,e1,e2,e3,e4,e5⟩
 subst e1;exact k _ _ _ (g.freeze e3 e4 e2) #[a,vs,rfl,SqL.of C9,e5.mono<|G4 e4]
def bG0(h:JN X e f):JQ X e (λy=>(f y).map λds=>(false,ds)):=λy t ds q=>by
 obtain⟨ds',h1,h2⟩:=xmo q;cases h2;refine C8 (h y ds h1) λz H Q #[H0,Hf,s,sl,k]=>#[H0,Hf,s,sl,?_]
 rintro v H' zc g ⟨a,vs,e1,e2,e3,e4,e5⟩
 subst e1;exact k _ _ _ g #[a,vs,rfl,SqL.of e3,e5]
def OpD(X:Cx)(F:fJ->fJ->Sem fJ)(h:D->D->Ob D):Prop:=∀x y z,h x y=Oa z ->
 OpR X F λvx vy H Q=>∃Hf,D8 Hf H/\Rep X.K Hf x vx/\Rep X.K Hf y vy/\∀v H' zc,Grow H Hf H' zc->Rep X.K zc z v->Q v H'
noncomputable def A9(h:D->D->Ob D)(f g:DE):DE:=λz=>(f z).bind λx=>(g z).bind λy=>h x y
def j7(o:OpD X (ff op) h)(ha:JE X a f)(hb:JE X b g):JE X (.BinOp a op b pos) (A9 h f g):=λz d q=>by
 obtain⟨x,h1,q⟩:=xbm q;obtain⟨y,h2,h3⟩:=xbm q;refine C8 (bB3 (o x y d h3) (ha z x h1)<|hb z y h2) λr H Q p=>?_
 obtain⟨H0,Hf,s,sl,k⟩:=p;refine#[H0,Hf,s,sl,λv H1 Hf1 g1 r1=>#[H0,Hf1,g1.sub,sl.grow g1,λu H2 Hf2 g2 r2=>?_]];exact#[Hf2,g2.sub,r1.mono g2.ext,r2,λw H3 Hf3 g3 r3=>k w H3 Hf3 ((g1.trans g2).trans g3) r3]
def cy4(o:OpD X (eU op) h)(ha:JE X a f)(hb:JE X b g)(hm:behindInMarks op b=false:=by first|exact aK4 _|rfl):JE X (.Compare a [op] [b] pos) (A9 h f g):=λz d q=>by
 obtain⟨x,h1,q⟩:=xbm q;obtain⟨y,h2,h3⟩:=xbm q;refine C8 (bh4 (o x y d h3) (ha z x h1) (hb z y h2) hm) λr H Q p=>?_
 obtain⟨H0,Hf,s,sl,k⟩:=p;refine#[H0,Hf,s,sl,λv H1 Hf1 g1 r1=>#[H0,Hf1,g1.sub,sl.grow g1,λu H2 Hf2 g2 r2=>?_]];exact#[Hf2,g2.sub,r1.mono g2.ext,r2,λw H3 Hf3 g3 r3=>k w H3 Hf3 ((g1.trans g2).trans g3) r3]
def OpR.imp(h:OpR X F r)(i:∀x y H Q,r' x y H Q->r x y H Q):OpR X F r':=λza s z H x y v u Q I rx ry q=>h za s z H x y v u Q I rx ry<|i x y H Q q
end
section
variable {X:Cx}
def J0(i:Int):Prop:=i.natAbs < 2 ^ 8000
instance:DecidablePred J0:=λi=>inferInstanceAs<|Decidable (i.natAbs < 2 ^ 8000)
def J0.log(h:J0 i)(h0:i.natAbs≠0):i.natAbs.log2 < 8000:=(Nat.log2_lt h0).mpr h
def J0.bits(h:J0 i):Builtin.Int.intBits i<=2 ^ 20:=by
 unfold Builtin.Int.intBits;split
 .exact aA _
 .rename_i h0;have:=h.log (by simpa using h0)
  grind
def bU7:OpR X (ff .Mult) (rI (λi j=>J0 i/\J0 j) λi j=>.int<|i*j):=opI λ_ _ _ _ _ _ _ hc q=>mul_int q<|PySem.IntMulOk.of_bits hc.1.bits hc.2.bits
noncomputable def addI(x y:D):Ob D:=match x,y with
 | .int i,.int j=>Oa<|.int (i+j)
 | _,_=>Z
noncomputable def ak9(x y:D):Ob D:=match x,y with
 | .int i,.int j=>Oa<|.int (i - j)
 | .int i,.bool b=>Oa<|.int (i - if b=true then 1 else 0)
 | .bool a,.int j=>Oa<|.int ((if a=true then 1 else 0) - j)
 | _,_=>Z
def cr8(x y:D):Ob D:=match x,y with
 | .int i,.int j=>if J0 i/\J0 j then Oa (.int<|i*j) else Z
 | _,_=>Z
def ap5(x y:D):Ob D:=match x,y with
 | .int i,.int j=>if 0 < j/\J0 j then Oa (.int<|i / j) else Z
 | _,_=>Z
noncomputable def X3(x y:D):Ob D:=match x,y with
 | .int i,.int j=>if 0 < j then Oa (.int<|i % j) else Z
 | _,_=>Z
noncomputable def bA6(x y:D):Ob D:=match x,y with
 | .int i,.int j=>if 0<=j/\j<=1000000/\i.natAbs < 2 ^ 64 then Oa (.int<|i ^ j.toNat) else Z
 | _,_=>Z
def cR9:OpD X (ff .Add) addI:=λx y z h=>by
 unfold addI at h;split at h
 .cases h;exact OpR.imp bC1 λvx vy H Q #[Hf,s,r1,r2,k]=>#[_,_,r1,r2,k _ H Hf (Grow.refl s) rfl]
 .cases h
def cq6:OpD X (ff .Sub) ak9:=λx y z h=>by
 unfold ak9 at h;split at h
 .cases h;exact OpR.imp cp8 λvx vy H Q #[Hf,s,r1,r2,k]=>#[_,_,r1,r2,k _ H Hf (Grow.refl s) rfl]
 .cases h
  rintro za s w H vx vy v u Q I rx ry ⟨Hf,ss,r1,r2,k⟩
  cases r1;cases r2;obtain⟨t,rfl⟩:=rx;obtain rfl:u=Value.bool _:=ry;exact PySem.IntBool.sub_int_bool #[.int _,H,I.tok _,#[_,rfl],k _ H Hf (Grow.refl ss) rfl]
 .cases h
  rintro za s w H vx vy v u Q I rx ry ⟨Hf,ss,r1,r2,k⟩
  cases r1;cases r2;obtain⟨t,rfl⟩:=ry;obtain rfl:v=Value.bool _:=rx;exact PySem.IntBool.sub_bool_int #[.int _,H,I.tok _,#[_,rfl],k _ H Hf (Grow.refl ss) rfl]
 .cases h
def cq8:OpD X (ff .Mult) cr8:=λx y z h=>by
 unfold cr8 at h;split at h
 .split at h
  .rename_i c;cases h;exact OpR.imp bU7 λvx vy H Q #[Hf,s,r1,r2,k]=>#[_,_,r1,r2,c,k _ H Hf (Grow.refl s) rfl]
  .cases h
 .cases h
def bo2:OpR X (ff .FloorDiv) (rI (λ_ j=>0 < j/\J0 j) λi j=>.int<|i / j):=opI λi j _ _ s Q E hc q=>by
 have e:i.fdiv j=i / j:=Int.fdiv_eq_ediv_of_nonneg i (Int.le_of_lt hc.1);refine floordiv_int (by grind) (by rw[e];exact q) (.inl<|PyProof.noPylong_of_log2 ?_);have h2:=hc.2.log (by grind)
 grind
def cr3:OpD X (ff .FloorDiv) ap5:=λx y z h=>by
 unfold ap5 at h;split at h
 .split at h
  .rename_i c;cases h;exact OpR.imp bo2 λvx vy H Q #[Hf,s,r1,r2,k]=>#[_,_,r1,r2,c,k _ H Hf (Grow.refl s) rfl]
  .cases h
 .cases h
def cq9:OpD X (ff .Mod) X3:=λx y z h=>by
 unfold X3 at h;split at h
 .split at h
  .rename_i c;cases h;exact OpR.imp cq0 λvx vy H Q #[Hf,s,r1,r2,k]=>#[_,_,r1,r2,c,k _ H Hf (Grow.refl s) rfl]
  .cases h
 .cases h
def cq7:OpD X (ff .Pow) bA6:=λx y z h=>by
 unfold bA6 at h;split at h
 .split at h
  .rename_i c;cases h;exact OpR.imp cp9 λvx vy H Q #[Hf,s,r1,r2,k]=>#[_,_,r1,r2,c,k _ H Hf (Grow.refl s) rfl]
  .cases h
 .cases h
def bC0:OpR X (ff .Add) (λx y H Q=>∃a b ys,x=.ref a/\y=.ref b/\SqT X.K H a []/\SqT X.K H b ys/\Q (.ref b) H):=by
 intro za s z H x y v u Q I rx ry h;obtain⟨a,b,ys,rfl,rfl,ha,hb,q⟩:=h;cases rx;cases ry;obtain⟨its,r1,p1,_⟩:=I.tuple ha;obtain⟨its2,r2,p2,_⟩:=I.tuple hb;cases r1;obtain⟨⟨cls,dd,data,sl⟩,ho,hc,n,hd⟩:=id p1;obtain⟨⟨cls2,dd2,data2,sl2⟩,ho2,hc2,n2,hd2⟩:=id p2;simp only at hc hd hc2 hd2;subst hc hd hc2 hd2
 exact concat_meets #[_,ho,rfl] #[_,ho2,rfl] noFill_tuple_add seq_tuple_add PySem.F.slot_tuple_add PySem.F.entry_tuple_add (PySem.F.args_tuple_add_2 _ _)
   (tuple_addW0 a b _ its2.toArray n n2 dd dd2 sl sl2<|by rfl) #[ho,ho2,#[.ref b,H,I,rfl,q]]
noncomputable def v9(x y:D):Ob D:=match x,y with
 | .tuple xs,.tuple ys=>if xs.length+ys.length<=16777216 then Oa (.tuple<|xs++ys) else Z
 | .str a,.str b=>if a.length+b.length<=16777216 then Oa (.str<|a++b) else Z
 | .int i,.int j=>Oa<|.int (i+j)
 | .bool a,.int j=>Oa<|.int ((if a=true then 1 else 0)+j)
 | _,_=>Z
def bC6:OpD X (ff .Add) v9:=λx y z h=>by
 unfold v9 at h;split at h
 .split at h
  .rename_i xs ys c;cases h;cases xs with
   | nil =>
    refine OpR.imp bC0 λvx vy H Q w=>?_
    obtain⟨Hf,s,r1,r2,k⟩:=w;obtain⟨a,vs,rfl,h2,h3⟩:=r1;obtain⟨b,us,rfl,h5,h6⟩:=r2;cases h3;exact#[a,b,us,rfl,rfl,F8 s h2,F8 s h5,k _ H Hf (Grow.refl s) #[b,us,rfl,h5,h6]]
   | cons d0 ds0 =>
    refine OpR.imp bU8 λvx vy H Q w=>?_
    obtain⟨Hf,s,r1,r2,k⟩:=w;obtain⟨a,vs,rfl,h2,h3⟩:=r1;obtain⟨b,us,rfl,h5,h6⟩:=r2;have l1:=h3.length;have l2:=h6.length;refine#[a,b,vs,us,rfl,rfl,F8 s h2,F8 s h5,?_,by rw[eT];grind,λe=>?_,λe p hp=>?_]
    .intro e;subst e;simp at l1
    .subst e;have:ys=[]:=by cases ys<;>simp_all
     subst this;exact k _ H Hf (Grow.refl s) #[a,vs,rfl,h2,by rw[ar];exact h3]
    .exact k _ _ _ (Grow.laid s hp) #[p,vs++us,rfl,SqT.of C9,(h3.append h6).mono<|G4 (s.free hp)]
  .cases h
 .split at h
  .rename_i c;cases h;exact OpR.imp aZ1 λvx vy H Q #[Hf,s,r1,r2,k]=>#[_,_,r1,r2,by rw[eT];exact c,k _ H Hf (Grow.refl s) rfl]
  .cases h
 .cases h;exact OpR.imp bC1 λvx vy H Q #[Hf,s,r1,r2,k]=>#[_,_,r1,r2,k _ H Hf (Grow.refl s) rfl]
 .cases h
  rintro za s r H vx vy v u Q I rx ry ⟨Hf,ss,r1,r2,k⟩
  cases r1;cases r2;obtain⟨t,rfl⟩:=ry;obtain rfl:v=Value.bool _:=rx;exact PySem.IntBool.add_bool_int #[.int _,H,I.tok _,#[_,rfl],k _ H Hf (Grow.refl ss) rfl]
 .cases h
noncomputable def ltI(x y:D):Ob D:=match x,y with
 | .int i,.int j=>Oa<|.bool (decide (i < j))
 | _,_=>Z
noncomputable def leI(x y:D):Ob D:=match x,y with
 | .int i,.int j=>Oa<|.bool (decide (i<=j))
 | _,_=>Z
noncomputable def gtI(x y:D):Ob D:=match x,y with
 | .int i,.int j=>Oa<|.bool (decide (j < i))
 | _,_=>Z
noncomputable def geI(x y:D):Ob D:=match x,y with
 | .int i,.int j=>Oa<|.bool (decide (j<=i))
 | _,_=>Z
def cI2:OpD X (eU .Lt) ltI:=λx y z h=>by
 unfold ltI at h;split at h
 .cases h;exact OpR.imp cH6 λvx vy H Q #[Hf,s,r1,r2,k]=>#[_,_,r1,r2,k _ H Hf (Grow.refl s) rfl]
 .cases h
def cI3:OpD X (eU .LtE) leI:=λx y z h=>by
 unfold leI at h;split at h
 .cases h;exact OpR.imp cH7 λvx vy H Q #[Hf,s,r1,r2,k]=>#[_,_,r1,r2,k _ H Hf (Grow.refl s) rfl]
 .cases h
def cI4:OpD X (eU .Gt) gtI:=λx y z h=>by
 unfold gtI at h;split at h
 .cases h;exact OpR.imp cH8 λvx vy H Q #[Hf,s,r1,r2,k]=>#[_,_,r1,r2,k _ H Hf (Grow.refl s) rfl]
 .cases h
def cI5:OpD X (eU .GtE) geI:=λx y z h=>by
 unfold geI at h;split at h
 .cases h;exact OpR.imp cH9 λvx vy H Q #[Hf,s,r1,r2,k]=>#[_,_,r1,r2,k _ H Hf (Grow.refl s) rfl]
 .cases h
mutual
theorem Rep.reads(I:Inv X za y H s):∀{d:D}{v:V}{u:fJ},Rep X.K H d v->J3 v u->∃as,Reads s.heap u d as
 | .none,_,_,h,r=>by cases h;cases r;exact#[_,.none]
 | .bool b,_,_,h,r=>by cases h;cases r;exact#[_,.bool b]
 | .int i,_,_,h,r=>by cases h;obtain⟨t,rfl⟩:=r;exact#[_,.int i t]
 | .str x,_,_,h,r=>by cases h;obtain⟨t,rfl⟩:=r;exact#[_,.str x t]
 | .tuple ds,_,_,#[a,vs,h1,h2,h3],r=>by
  subst h1;cases r;obtain⟨its,rv,⟨o,ho,hc,n,hd⟩,_⟩:=I.tuple h2;obtain⟨as,q⟩:=Reps.reads I h3 rv;exact#[_,.tuple ho hc hd<|by simpa using q]
 | .list ds,_,_,#[a,vs,h1,h2,h3],r=>by
  subst h1;cases r;obtain⟨its,rv,pl,_⟩:=I.list h2;obtain⟨o,ho,hc,n,hd⟩:=pl.isList;obtain⟨as,q⟩:=Reps.reads I h3 rv;exact#[_,.list ho hc hd<|by simpa using q]
 | .dict kvs,_,_,#[a,m,h1,h2,h3],r=>by
  subst h1;cases r;obtain⟨_,_,vs,rk,o,es,ep,ho,hx,hd,_,hp,_⟩:=(show P8 X.prog X.w H s.heap a (.dK m) from I.hok a _ h2);obtain⟨as,bs,q1,q2⟩:=RepKs.reads I h3 rk hp;exact#[_,.dict ho hx.1 hd q1 q2]
theorem RepKs.reads(I:Inv X za y H s):∀{kvs:La (D×D)}{m:La (Key×V)}{vs:La (Key×fJ)}{es:La DictEntry},RepKs X.K H kvs m->KV m vs->Pairs (av5 X.prog X.w) es vs ->
  ∃as bs,ReadsAll s.heap (es.map (·.key)) (kvs.map (·.1)) as/\ReadsAll s.heap (es.map (·.val)) (kvs.map (·.2)) bs
 | [],_,_,_,h,r,p=>by cases h;cases r;cases p;exact#[_,_,.nil,.nil]
 | (k,d)::kvs,_,_,_,#[x,v,t,h1,h2,h3,h4],r,p=>by
  subst h1 h2;cases r with
  | @cons _ b _ bs r1 r2 =>
   cases p with
   | @cons e kv es _ p1 p2 p3 =>
    obtain⟨as,cs,q1,q2⟩:=RepKs.reads I h4 r2 p3;obtain⟨r1,r3⟩:=r1;rw[<- p2]at r3;obtain⟨ds,q3⟩:=Rep.reads I h3 r3;rw[<- r1]at p1;have hk:∃t,e.key=.str x t:=Value.isStrOf_shape (x:=x) (v:=e.key) p1;obtain⟨t,hk⟩:=hk;refine#[_,_,.cons (as:=[]) ?_ q1,.cons q3 q2];show Reads s.heap e.key (.str x) [];rw[hk];exact .str x t
theorem Reps.reads(I:Inv X za y H s):∀{ds:La D}{vs:La V}{us:La fJ},Reps X.K H ds vs->F4 vs us->∃as,ReadsAll s.heap us ds as
 | [],_,_,h,r=>by cases h;cases r;exact#[_,.nil]
 | d::ds,_,_,#[v,vr,h1,h2,h3],r=>by
  subst h1;cases r with
  | cons r1 r2 =>
   obtain⟨as,q1⟩:=Rep.reads I h2 r1;obtain⟨bs,q2⟩:=Reps.reads I h3 r2;exact#[_,.cons q1 q2]
end
noncomputable def eqD(x y:D):Ob D:=if fy x=true/\fy y=true then Oa (.bool<|fA x y) else Z
noncomputable def neD(x y:D):Ob D:=if fy x=true/\fy y=true then Oa (.bool (!PyData.eqv x y)) else Z
def bC5(hu:X.A.units+64 < cLine):OpD X (eU .Eq) eqD:=λx y z h=>by
 unfold eqD at h;split at h
 .rename_i c;cases h
  rintro za s w H vx vy v u Q I rx ry ⟨Hf,ss,r1,r2,k⟩
  obtain⟨as,q1⟩:=Rep.reads I (r1.mono ss) rx;obtain⟨bs,q2⟩:=Rep.reads I (r2.mono ss) ry;exact eq_dataH q1 q2 c.1 c.2 hu #[.bl _,H,I,rfl,k _ H Hf (Grow.refl ss) rfl]
 .cases h
def ce0(hu:X.A.units+64 < cLine):OpD X (eU .NotEq) neD:=λx y z h=>by
 unfold neD at h;split at h
 .rename_i c;cases h
  rintro za s w H vx vy v u Q I rx ry ⟨Hf,ss,r1,r2,k⟩
  obtain⟨as,q1⟩:=Rep.reads I (r1.mono ss) rx;obtain⟨bs,q2⟩:=Rep.reads I (r2.mono ss) ry;exact ne_dataH q1 q2 c.1 c.2 hu #[.bl _,H,I,rfl,k _ H Hf (Grow.refl ss) rfl]
 .cases h
noncomputable def isN(x y:D):Ob D:=match x,y with
 | .none,.none=>Oa<|.bool true
 | _,.none=>Oa<|.bool false
 | _,_=>Z
def bg4{K:af}{H:Hp}{d:D}{v:V}(h:Rep K H d v):(decide (v=.non))=(match d with | .none=>true|_=>false):=by
 cases d with
 | none=>cases h;rfl
 | bool b=>cases h;rfl
 | int b=>cases h;rfl
 | str b=>cases h;rfl
 | tuple ds=>obtain⟨a,vs,rfl,_⟩:=h;rfl
 | list ds=>obtain⟨a,vs,rfl,_⟩:=h;rfl
 | dict ds=>obtain⟨a,m,rfl,_⟩:=h;rfl
def cr0:OpD X (eU .Is) isN:=λx y z h=>by
 refine OpR.imp cq1 ?_
 rintro vx vy H Q ⟨Hf,s,r1,r2,k⟩
 have e:=bg4 r1
 cases y<;>cases x<;>simp only[isN,bg.injEq,reduceCtorEq]at h <;>
  (subst h;simp only at e;rw[e];exact#[r2,k _ H Hf (Grow.refl s) rfl])
noncomputable def cr4(x y:D):Ob D:=match x,y with
 | .none,.none=>Oa<|.bool false
 | _,.none=>Oa<|.bool true
 | _,_=>Z
def bV5:OpD X (eU .IsNot) cr4:=λx y z h=>by
 refine OpR.imp bU6 ?_
 rintro vx vy H Q ⟨Hf,s,r1,r2,k⟩
 have e:=bg4 r1
 cases y<;>cases x<;>simp only[cr4,bg.injEq,reduceCtorEq]at h <;>
  (subst h;simp only at e;rw[e];exact#[r2,k _ H Hf (Grow.refl s) rfl])
noncomputable def L5(h1 h2:D->D->Ob D)(f g k:DE):DE:=λv=>(f v).bind λx=>(g v).bind λy=>(h1 x y).bind λz=>match z with
 | .bool true=>(k v).bind λw=>h2 y w
 | .bool false=>Oa<|.bool false
 | _=>Z
def bI2(o1:OpD X (eU op) h1)(o2:OpD X (eU op') h2)(ha:JE X a f)(hb:JE X b g)(hc:JE X c k)
  (hm:lastMarks [op,op'] [b,c]=false:=by with_unfolding_all rfl):JE X (.Compare a [op,op'] [b,c] pos) (L5 h1 h2 f g k):=λr d q=>by
 obtain⟨x,e1,q⟩:=xbm q;obtain⟨y,e2,q⟩:=xbm q;obtain⟨z,e3,q⟩:=xbm q;split at q
 .obtain⟨w,e4,e5⟩:=xbm q;refine C8 (aR4 (o1 x y _ e3) (o2 y w d e5) (ha r x e1) (hb r y e2) (hc r w e4) hm) λj H Q p=>?_
  obtain⟨H0,Hf,s,sl,kk⟩:=p;refine#[H0,Hf,s,sl,λv H1 Hf1 g1 r1=>#[H0,Hf1,g1.sub,sl.grow g1,λu H2 Hf2 g2 r2=>#[Hf2,g2.sub,r1.mono g2.ext,r2,λz' H3 Hf3 g3 r3=>?_]]];refine#[true,r3,an1 #[H0,Hf3,g3.sub,sl.grow<|(g1.trans g2).trans g3,λw' H4 Hf4 g4 r4=>#[Hf4,g4.sub,r2.mono (g3.trans g4).ext,r4,λz2 H5 Hf5 g5 r5=>?_]]];exact kk z2 H5 Hf5 ((((g1.trans g2).trans g3).trans g4).trans g5) r5
 .cases q
  rintro za s j H Q I ⟨H0,Hf,ss,sl,kk⟩
  refine aR4 (tc:=λ_ _ _=>False) (r':=λ_ _ _ _=>False) (o1 x y _ e3) (λ_ _ _ _ _ _ _ _ _ _ _ _ h=>h.elim) (ha r x e1) (hb r y e2) (λ_ _ _ _ _ _ h=>h.elim) hm za s j H Q I ?_;refine#[H0,Hf,ss,sl,λv H1 Hf1 g1 r1=>#[H0,Hf1,g1.sub,sl.grow g1,λu H2 Hf2 g2 r2=>#[Hf2,g2.sub,r1.mono g2.ext,r2,λz' H3 Hf3 g3 r3=>?_]]];exact#[false,r3,ap4<|kk _ H3 Hf3 ((g1.trans g2).trans g3) rfl]
 .cases q
def cx6(h:JE X a f):JE X (.BoolOp op [a] pos) f:=λy d q=>co9<|h y d q
noncomputable def T6(f g:DE):DE:=λy=>(f y).bind λx=>match x with
 | .bool true=>g y
 | .bool false=>Oa<|.bool false
 | _=>Z
noncomputable def dOr(f g:DE):DE:=λz=>(f z).bind λx=>match x with
 | .bool true=>Oa<|.bool true
 | .bool false=>g z
 | .none=>g z
 | .tuple (y::r)=>Oa<|.tuple (y::r)
 | _=>Z
noncomputable def bL9(f:DE):DE:=λy=>(f y).bind λx=>match x with
 | .bool c=>Oa<|.bool (!c)
 | _=>Z
def cy5{a b:Expr}{W5:La Expr}{f g:DE}{pos:Pos}(ha:JE X a f)(hb:JE X (.BoolOp .And (b::W5) pos) g):JE X (.BoolOp .And (a::b::W5) pos) (T6 f g):=λy d q=>by
 obtain⟨x,e1,q⟩:=xbm q;split at q
 .refine C8 (bB7 (ha y _ e1)<|hb y d q) λz H Q #[H0,Hf,s,sl,k]=>#[H0,Hf,s,sl,λv H1 Hf1 g1 r1=>#[true,r1,an1 #[H0,Hf1,g1.sub,sl.grow g1,λu H2 Hf2 g2 r2=>k u H2 Hf2 (g1.trans g2) r2]]]
 .cases q;refine C8 (bB7 (tb:=λ_ _ _=>False) (ha y _ e1) λ_ _ _ _ _ _ h=>h.elim) λz H Q #[H0,Hf,s,sl,k]=>#[H0,Hf,s,sl,λv H1 Hf1 g1 r1=>#[false,r1,ap4<|k _ H1 Hf1 g1 rfl]]
 .cases q
def cx7(ha:JE X a f):JE X (.UnaryOp .Not a pos) (bL9 f):=λy d q=>by
 obtain⟨x,e1,q⟩:=xbm q;split at q
 .cases q;exact C8 (cp0<|ha y _ e1) λz H Q #[H0,Hf,s,sl,k]=>#[H0,Hf,s,sl,λv H1 Hf1 g1 r1=>#[_,r1,k _ H1 Hf1 g1 rfl]]
 .cases q
noncomputable def cl9:D->Ob Bool
 | .none=>Oa false
 | .bool b=>Oa b
 | .int i=>Oa<|i != 0
 | .str x=>if x.length<=16777216 then Oa ((x.length:Int) != 0) else Z
 | .list ds=>Oa (!ds.isEmpty)
 | .tuple ds=>Oa (!ds.isEmpty)
 | .dict _=>Z
def E7(f:DE):Rho->Ob Bool:=λy=>(f y).bind cl9
def bF4(ha:JE X a f)(he:∀whole,isTrue a X.env whole=(do let v <- whole;standAt a.pos;holding [v] (truthy v)):=by intro _;rfl):JT X a (E7 f):=λy c q=>by
 obtain⟨d,e1,e2⟩:=xbm q;refine ac2 (aQ9 (ha y d e1) he) λz H Q #[H0,Hf,s,sl,k]=>#[H0,Hf,s,sl,λv H1 Hf1 g1 r1=>#[c,?_,k H1 Hf1 g1]]
 cases d with
 | none=>cases e2;cases r1;rfl
 | bool b=>cases e2;cases r1;rfl
 | int i=>cases e2;cases r1;rfl
 | str x =>
  simp only[cl9]at e2;split at e2
  .rename_i hx;cases e2;cases r1;exact#[by rw[eT];exact hx,rfl]
  .cases e2
 | list ds =>
  cases e2;obtain⟨a,vs,rfl,h2,h3⟩:=r1;refine .inl #[vs,G9 g1.sub h2,?_];have:=h3.length;cases ds<;>cases vs<;>simp_all
 | tuple ds =>
  cases e2;obtain⟨a,vs,rfl,h2,h3⟩:=r1;refine .inr (.inl #[vs,F8 g1.sub h2,?_]);have:=h3.length;cases ds<;>cases vs<;>simp_all
 | dict _=>cases e2
noncomputable def ad0:D->Ob Bool
 | .bool b=>Oa b
 | _=>Z
def tB2(h:D->D->Ob D)(f g:DE):Rho->Ob Bool:=λy=>(A9 h f g y).bind ad0
def bl9(h:ad0 d=Oa c):d=.bool c:=by
 cases d<;>simp[ad0]at h;subst h;rfl
def bF5(o:OpD X (eU op) h)(ha:JE X a f)(hb:JE X b g)(hm:behindInMarks op b=false:=by first|exact aK4 _|rfl):JT X (.Compare a [op] [b] pos) (tB2 h f g):=λz c q=>by
 obtain⟨d,q,e⟩:=xbm q;obtain⟨x,h1,q⟩:=xbm q;obtain⟨y,h2,h3⟩:=xbm q;have:=bl9 e;subst this;refine ac2 (bg9 (o x y _ h3) (ha z x h1) (hb z y h2) hm) λr H Q p=>?_
 obtain⟨H0,Hf,s,sl,k⟩:=p;refine#[H0,Hf,s,sl,λv H1 Hf1 g1 r1=>#[H0,Hf1,g1.sub,sl.grow g1,λu H2 Hf2 g2 r2=>?_]];exact#[Hf2,g2.sub,r1.mono g2.ext,r2,λw H3 Hf3 g3 r3=>#[c,r3,k H3 Hf3<|(g1.trans g2).trans g3]]
noncomputable def ab6(f g:Rho->Ob Bool):Rho->Ob Bool:=λy=>(f y).bind λc=>if c then g y else Oa false
noncomputable def E1(f g:Rho->Ob Bool):Rho->Ob Bool:=λy=>(f y).bind λc=>if c then Oa true else g y
noncomputable def D3(f:Rho->Ob Bool):Rho->Ob Bool:=λy=>(f y).map λc=>!c
def ac1(h:PW X e t)(i:∀y H Q,t' y H Q->t y H Q):PW X e t':=λwhole za s y H Q I q=>h whole za s y H Q I<|i y H Q q
def aS7(h:JW X e f):JT X e f:=λy c q=>(h y c q).pt
def bi9(h:JT X a f):JW X (.BoolOp .And [a] pos) f:=λy c q=>bg8<|h y c q
def cv0(h:JT X a f):JW X (.BoolOp .Or [a] pos) f:=λy c q=>bA4<|h y c q
def bF3{a b:Expr}{W5:La Expr}{f g:Rho->Ob Bool}{pos:Pos}(ha:JT X a f)(hb:JW X (.BoolOp .And (b::W5) pos) g):JW X (.BoolOp .And (a::b::W5) pos) (ab6 f g):=λy c q=>by
 obtain⟨x,e1,q⟩:=xbm q;cases x with
 | true=>exact ac1 (aJ6 (ha y _ e1) (hb y c (by simpa using q))) λz H Q #[H0,Hf,s,sl,k]=>#[H0,Hf,s,sl,λH1 Hf1 g1=>an1 #[H0,Hf1,g1.sub,sl.grow g1,λH2 Hf2 g2=>k H2 Hf2<|g1.trans g2]]
 | false =>
  have:c=false:=by simpa using q.symm
  subst this;exact ac1 (aJ6 (tB':=λ_ _ _=>False) (ha y _ e1) λ_ _ _ _ _ _ _ h=>h.elim) λz H Q #[H0,Hf,s,sl,k]=>#[H0,Hf,s,sl,λH1 Hf1 g1=>ap4<|k H1 Hf1 g1]
def cL2{a b:Expr}{W5:La Expr}{f g:Rho->Ob Bool}{pos:Pos}(ha:JT X a f)(hb:JW X (.BoolOp .Or (b::W5) pos) g):JW X (.BoolOp .Or (a::b::W5) pos) (E1 f g):=λy c q=>by
 obtain⟨x,e1,q⟩:=xbm q;cases x with
 | false=>exact ac1 (bg7 (ha y _ e1) (hb y c (by simpa using q))) λz H Q #[H0,Hf,s,sl,k]=>#[H0,Hf,s,sl,λH1 Hf1 g1=>ap4 #[H0,Hf1,g1.sub,sl.grow g1,λH2 Hf2 g2=>k H2 Hf2<|g1.trans g2]]
 | true =>
  have:c=true:=by simpa using q.symm
  subst this;exact ac1 (bg7 (tB':=λ_ _ _=>False) (ha y _ e1) λ_ _ _ _ _ _ _ h=>h.elim) λz H Q #[H0,Hf,s,sl,k]=>#[H0,Hf,s,sl,λH1 Hf1 g1=>an1<|k H1 Hf1 g1]
def cv3(ha:JT X a f):JT X (.UnaryOp .Not a pos) (D3 f):=λy c q=>by
 obtain⟨x,e1,e2⟩:=xmo q;subst e2;exact ac2 (bA5<|ha y x e1) λz H Q #[H0,Hf,s,sl,k]=>#[H0,Hf,s,sl,λH1 Hf1 g1=>k H1 Hf1 g1]
noncomputable def aq0(t:Rho->Ob Bool)(f g:DE):DE:=λy=>(t y).bind λc=>if c then f y else g y
def cy2(hc:JT X c t)(ha:JE X a f)(hb:JE X b g):JE X (.IfExp c a b pos) (aq0 t f g):=λy d q=>by
 obtain⟨x,e1,q⟩:=xbm q;cases x with
 | true=>exact C8 (aR3 (tb:=λ_ _ _=>False) (hc y _ e1) (ha y d (by simpa using q)) (λ_ _ _ _ _ _ h=>h.elim)) λz H Q #[H0,Hf,s,sl,k]=>#[H0,Hf,s,sl,λH1 Hf1 g1=>an1 #[H0,Hf1,g1.sub,sl.grow g1,λu H2 Hf2 g2 r2=>k u H2 Hf2 (g1.trans g2) r2]]
 | false=>exact C8 (aR3 (ta:=λ_ _ _=>False) (hc y _ e1) (λ_ _ _ _ _ _ h=>h.elim) (hb y d (by simpa using q))) λz H Q #[H0,Hf,s,sl,k]=>#[H0,Hf,s,sl,λH1 Hf1 g1=>ap4 #[H0,Hf1,g1.sub,sl.grow g1,λu H2 Hf2 g2 r2=>k u H2 Hf2 (g1.trans g2) r2]]
def dIx(f:Rho->Ob (Bool×La D))(g:DE):DE:=λy=>(f y).bind λq=>(g y).bind λi=>match i with
 | .int i=>atI q.2 i
 | _=>Z
def al8{K:af}{H:Hp}{ds:La D}{vs:La V}{i:Int}{d:D}(h:Reps K H ds vs)(e:atI ds i=Oa d):∃v,atI vs i=Oa v/\Rep K H d v:=by
 unfold atI at e |-;rw[h.length];obtain⟨j,h1,h2⟩:=xbm e;obtain⟨v,h3,h4⟩:=h.get h2;exact#[v,by rw[h1];exact h3,h4]
def cL7{a b:Expr}{f:Rho->Ob (Bool×La D)}{g:DE}{pos:Pos}(ha:JQ X a f)(hb:JE X b g)(hs:af3 b:=by intro _ _;rfl):JE X (.Subscript a b pos) (dIx f g):=λz d q=>by
 obtain⟨⟨t,ds⟩,h1,q⟩:=xbm q;obtain⟨y,h2,h3⟩:=xbm q;split at h3
 .refine C8 (bh3 aL3 (ha z t ds h1) (hb z _ h2) hs) λr H Q j=>?_
  obtain⟨H0,Hf,s,sl,k⟩:=j;refine#[H0,Hf,s,sl,λv H1 Hf1 g1 #[p,vs,e1,e2,e3]=>#[H0,Hf1,g1.sub,sl.grow g1,λu H2 Hf2 g2 r2=>?_]];obtain⟨w,q1,q2⟩:=al8 (e3.mono g2.ext) h3;cases t with
  | true=>exact .inr<|.inl #[p,vs,_,w,e1,r2,F8 g2.big e2,q1,k w H2 Hf2 (g1.trans g2) q2]
  | false=>exact .inl #[p,vs,_,w,e1,r2,G9 g2.big e2,q1,k w H2 Hf2 (g1.trans g2) q2]
 .cases h3
def Z0(xs:La D)(lo hi:Ob Int):La D:=(xs.drop<|HT.sIx xs.length 0 lo).take<|HT.sIx xs.length xs.length hi - HT.sIx xs.length 0 lo
def ax3{K:af}{H:Hp}{ds:La D}{vs:La V}(h:Reps K H ds vs)(lo hi:Ob Int):Reps K H (Z0 ds lo hi) (aV1 vs lo hi):=by
 unfold Z0 aV1;rw[h.length];exact(h.drop _).take _
def JO(X:Cx)(e:Ob Expr)(f:Rho->Ob (Ob Int)):Prop:=∀y o,f y=Oa o->PO X e (λz H Q=>∃H0 Hf,D8 Hf H/\Slots X.K H0 y z H Hf/\∀H' zc,Grow H Hf H' zc->Q o H')
noncomputable def J1:Rho->Ob (Ob Int):=λ_=>Oa Z
noncomputable def bI7:D->Ob Int
 | .int i=>Oa i
 | _=>Z
def D5(f:DE):Rho->Ob (Ob Int):=λy=>(f y).bind λd=>(bI7 d).map Oa
def bX8:JO X Z J1:=λy o q=>by
 cases q
 rintro za s z H Q I ⟨H0,Hf,ss,sl,k⟩
 exact bT5 za s z H Q I<|k H Hf (Grow.refl ss)
def bX7(h:JE X e f):JO X (Oa e) (D5 f):=λy o q=>by
 obtain⟨d,e1,e2⟩:=xbm q;obtain⟨i,e3,e4⟩:=xmo e2;subst e4;cases d<;>simp[bI7]at e3;subst e3
 rintro za s z H Q I ⟨H0,Hf,ss,sl,k⟩
 exact bT4 (h y _ e1) za s z H Q I #[H0,Hf,ss,sl,λv H1 Hf1 g1 r1=>#[_,r1,k H1 Hf1 g1]]
def aU8(f:DE)(lo hi:Rho->Ob (Ob Int)):DE:=λy=>(f y).bind λd=>(lo y).bind λl=>(hi y).bind λh=>match d with
 | .tuple xs=>Oa<|.tuple (Z0 xs l h)
 | _=>Z
def ag5{prog:eX}{w:World}{A:eY}{E:fJ->fK->Prop}{s:fK}{t sl:fL}{items:Array fJ}{vl vu:fJ}{lo hi:Ob Int}{Q:fJ->fK->Prop}(ht:IsTup s.heap t items)(hs:s.heap.IsSliceOf sl vl vu .none)(pl:IsPart vl lo)(pu:IsPart vu hi)
  (hw:HT.sIx items.size 0 lo=0/\HT.sIx items.size items.size hi=items.size) (h:Q (.ref t) s):ft (fu prog w) A (getItem (.ref t)<|.ref sl) Q E s:=by
 obtain⟨os,hos,hcs,hds⟩:=id hs;have hTs:s.TypeIs (.ref sl) "slice" := #[os,hos,hcs];unfold getItem
 try with_reducible refine wpAny_holding ?_
 first|refine eF (eG ?_)|skip
 refine eF (wpAny_sequenceKey ht.typeIs (by decide) ?_)
 refine eF (wpAny_callSpecial?_slot (name:=Str.ofString "__getitem__") ht.typeIs PyProof.Rows.slot_tuple_getitem
  (wpAny_call_entry PyProof.Rows.slot_tuple_getitem ht.typeIs entry_tuple_getitem ?_ (args_tuple_getitem _ _)))
 show ft _ _ (Builtin.Tuple.tupleItemsOf (.ref t) >>= _) _ _ s;refine eF (tupleItemsOf_ ht ?_);refine eF (wpAny_typeOf hTs ?_);rw[if_pos (by decide)];refine eF (HT.sliceApplied_gen hs pl pu ?_);have hyes:((((HT.sIx items.size 0 lo:Nat):Int)==0&&(1:Int)==1&&(HT.sIx items.size items.size hi - HT.sIx items.size 0 lo)==items.size)=true):=by rw[hw.1,hw.2];simp
 show ft _ _ (if(((HT.sIx items.size 0 lo:Nat):Int)==0&&(1:Int)==1&&(HT.sIx items.size items.size hi - HT.sIx items.size 0 lo)==items.size)=true then _ else _) _ _ s;rw[if_pos hyes];unfold Builtin.Tuple.tupleIsExact;refine eF (eF<|wpAny_typeOf ht.typeIs (eG ?_));rw[if_pos ∅];exact eF<|wpAny_rule (eG #[_,rfl,eG h])
def aI9:SlR X (λx lo hi H Q=>∃a xs,x=.ref a/\SqT X.K H a xs/\(HT.sIx xs.length 0 lo=0/\HT.sIx xs.length xs.length hi=xs.length)/\Q (.ref a) H):=by
 intro za s y H x v vl vu lo hi sl Q I rx hs pl pu h;obtain⟨a,xs,rfl,hx,hw,q⟩:=h;cases rx;obtain⟨its,r,ht,hz⟩:=I.tuple hx;have hlen:its.toArray.size=xs.length:=by rw[aq];exact r.length.symm
 refine#["tuple", _,PyProof.Rows.slot_tuple_getitem.lookup,ht.typeIs,?_];exact ag5 ht hs pl pu (by rw[hlen];exact hw) #[.ref a,H,I,rfl,q]
def bH7{a:Expr}{lo hi:Ob Expr}{f:DE}{l h:Rho->Ob (Ob Int)}{pos p2:Pos}(ha:JE X a f)(hl:JO X lo l)(hh:JO X hi h):JE X (.Subscript a (.Slice lo hi Z p2) pos) (aU8 f l h):=λu d q=>by
 obtain⟨x,e1,q⟩:=xbm q;obtain⟨y,e2,q⟩:=xbm q;obtain⟨z,e3,q⟩:=xbm q;cases x with
 | tuple xs =>
  cases q;refine C8 (am2 (cm6.or aI9) (ha u _ e1) (hl u y e2)<|hh u z e3) λr H Q w=>?_
  obtain⟨H0,Hf,s,sl,k⟩:=w;refine#[H0,Hf,s,sl,λv H1 Hf1 g1 #[p,vs,q1,q2,q3]=>#[H0,Hf1,g1.sub,sl.grow g1,λH2 Hf2 g2=>#[H0,Hf2,g2.sub,sl.grow<|g1.trans g2,λH3 Hf3 g3=>?_]]];subst q1;have q2':=F8 (g2.trans g3).ext q2;have q3':=q3.mono (g2.trans g3).ext;by_cases c:HT.sIx vs.length 0 y=0/\HT.sIx vs.length vs.length z=vs.length
  .refine .inr #[p,vs,rfl,F8 g3.sub q2',c,k _ H3 Hf3 ((g1.trans g2).trans g3) #[p,vs,rfl,q2',?_]]
   have:Z0 xs y z=xs:=by
    unfold Z0;rw[<- q3.length,c.1,c.2];simp[q3.length]
   rw[this];exact q3'
  .refine .inl #[p,vs,rfl,F8 g3.sub q2',c,λp' hp=>?_];exact k _ _ _ (((g1.trans g2).trans g3).trans<|Grow.laid g3.sub hp) #[p',_,rfl,SqT.of C9,(ax3 q3' y z).mono<|G4 (g3.sub.free hp)]
 | _=>cases q
end
inductive ExcIs (h:Heap) (C:fL) (bb:List fJ) (nid:String) (bm:List fJ):Prop
 | mk {nm qn N bs hd sn sub ab col dd k0 k1 k2 k3 k5 mN} (g:h.get? C=Oa (excClassObj nm qn C N bs bm hd sn sub ab col dd k0 k1 k2 k3 k5 nid)) (n:h.Ns N mN) (i:mN "__init__" = Z) (t:OwnTail h bb bm):ExcIs h C bb nid bm
def az3{K:af}{h:Heap}{C:fL}{bb:La fJ}{nid:String}(kin:K.In h)(q:bQ K C bb nid=true):
  ∃bm,ExcIs h C bb nid bm:=by
 unfold bQ at q;split at q
 case h_2=>cases q
 rename_i d0 c0 sl0 lk;split at q
 case h_2=>cases q
 rename_i C1 tl p0 p1 p2 p3 n1 p5 e1 e2;simp only[ae,beq_iff_eq,bj]at q;obtain⟨⟨⟨⟨⟨q1,q2⟩,q3⟩,q4⟩,q5⟩,q6⟩:=q;subst q1 q2;obtain⟨f1,f2,f3,f4,f5,f6,f7,f8,f9,f10,f11⟩:=c0;dsimp only at e1 q3 q5 q6;subst e1 q3;obtain⟨sll⟩:=sl0;dsimp only at e2;subst e2;exact#[tl,kin _ _ lk,.of_isNs<|PySem.W.isNs_of_in kin q5,PySem.W.nsMap_none_of_in kin q5 q6,PySem.W.tail_of_in kin q4]
structure Fly (R:fL->Prop) (l:List Env) (g B:Heap) (C a:fL) (h:Heap):Prop where
 keep:∀b o,R b->g.get? b=Oa o->b∉frs l->B.get? b=Oa o
 fly:∃t,Heap.FlyingW B l a (.ref C) (.ref t) h
 sl:∀b o,g.get? b=Oa o->b∈frs l->∃z,h.get? b=Oa { o with slots:=z }
def Rl(s:fK)(H':Hp)(b:fL):Prop:=s.heap.get? b≠Z\/H' b≠Z
def CX1(P:eX)(w:World):CXT:=λouter H s E e s'=>∃a C g B H',e=.ref a/\s'.os=s.os/\AllBare s'.gens/\Un (frs outer) [] H H' s.heap g/\HOk P w H' g/\Fly (Rl s H') outer g B C a s'.heap/\E (.ref C) Z H'
section
variable {X:Cx}{za:La (Addr×Obj)}{y:L2.St}{H H':Hp}{s s':Shared}{g B:Heap}
def bZ7(I:Inv X za y H s)(os:s'.os=s.os)(bare:AllBare s'.gens)(un:Un (frs X.stack) [] H H' s.heap g)(hok:HOk X.prog X.w H' g)(keep:∀b o,Rl s H' b->g.get? b=Oa o->b∉frs X.stack->B.get? b=Oa o)
  (hB:B.StaysIn s'.heap) (sl:∀b o,g.get? b=Oa o->b∈frs X.stack->∃z,s'.heap.get? b=Oa { o with slots:=z }):Inv X za y H' s':=by
 have nx:∀b:fL,b∉([]:La fL):=λb z=>absurd z (by simp)
 refine I.call' (ch:=[]) os #[λb o e n m z=>hB b o (keep b o (.inl (by rw[e];simp)) (un.keep b o e n m z) m),λb o e n m z=>?_,un.free,λb o e z=>?_,un.tups,un.frzs,un.tbls] ?_ bare λb z=>absurd z<|nx b
 .obtain⟨z1,q⟩:=un.slot b o e n m z;obtain⟨z2,q2⟩:=sl b _ q m;exact#[z2,q2]
 .obtain⟨o',q⟩:=un.there b o e z;by_cases m:b∈frs X.stack
  .obtain⟨z2,q2⟩:=sl b _ q m;exact#[_,q2]
  .exact#[o',hB b o'<|keep b o' (.inl (by rw[e];simp)) q m]
 .intro a o e
  have fr0:∀b,b∈frs X.stack->H' b=Z:=λb m=>by
   obtain⟨_,o1,h1,_⟩:=I.stack.mem m;exact un.free b o1 h1 (I.stkFree b m)<|nx b
  refine(hok a o e).stay (λb u hb q=>?_) (λ_ q=>q) λ_ _ q=>q
  have hn:H' b≠Z:=by
   rcases hb with rfl|hb
   .rw[e];simp
   .rw[hb];simp
  exact hB b u<|keep b u (.inr hn) q λm=>hn<|fr0 b m
end
section
variable {P:Program}{w:World}{K:PySem.W.Frag}{mg:Str->Ob Value}{base:Heap}{N:La Str}{qual:Str}{scope:Scope}{f:Addr}{cd:Value}{A:Around}{outer:La Env}{s:Shared}{H H1:Hp}{E:XK}
 {za:La (fL×Obj)}{σ:L2.St}{s1 s':fK}{h2:Heap}{a C:fL}{vs:La fJ}
abbrev cx1(P:eX)(w:World)(K:af)(mg:Str->Ob fJ)(base:Heap)(N:La Str)(qual:Str)(scope:Scope)(f:fL)(cd:fJ)(A:eY)(outer:La Env)(s:fK)(H:Hp)(E:XK):Cx:=aV0 (CX1 P w) P w K mg base N qual scope f cd A outer s H E
def bz9(I:Inv (cx1 P w K mg base N qual scope f cd A outer s H E) za y H1 s1)(r:Rl s H1 b):b≠s.heap.objs.size:=by
 rintro rfl
 rcases r with r|r
 .exact r (Heap.get?_none_of_le<|ak _)
 .exact r I.free
def ap1(h1:b∉frs outer)(h2:b≠s.heap.objs.size):b∉frs (cx1 P w K mg base N qual scope f cd A outer s H E).stack:=λm=>by
 have m:b∈s.heap.objs.size::frs outer:=m;rcases ao.mp m with z|z
 .exact h2 z
 .exact h1 z
def bD9(I:Inv (cx1 P w K mg base N qual scope f cd A outer s H E) za y H1 s1)(hm:Heap.MadeExcOf s1.heap h2 a (.ref C) vs)(hE:E (.ref C) Z H1):(cx1 P w K mg base N qual scope f cd A outer s H E).xe (.ref a) { s1 with heap:=h2 }:=by
 have hin:∀env∈(cx1 P w K mg base N qual scope f cd A outer s H E).stack,∀b,env.frame=Oa b->b∈frs (cx1 P w K mg base N qual scope f cd A outer s H E).stack:=λenv he b hb=>dy.mpr #[env,he,hb]
 refine wpAny_leaves_madeW (base:=PySem.W.hideAll s1.heap<|frs (cx1 P w K mg base N qual scope f cd A outer s H E).stack) (h:=s1.heap) (outer:=outer) I.ok.frames rfl (λb o q=>PySem.W.of_hideAll _ q) (PySem.W.funFrames_hide I.stack hin) hm λh' t x1 _ _ x4=>?_
 refine#[a,C,s1.heap,_,H1,rfl,I.os,I.bare,I.base,I.hok,#[λb o r e m=>PySem.W.hideAll_get _ e<|ap1 m (bz9 I r),#[t,x1],λb o e m=>?_],hE];obtain⟨_,o',e',hd⟩:=I.stack.mem (xmm _ m);rw[e]at e';cases e';exact x4 b o (hm.keeps b o e) hd
def bU2(I:Inv (cx1 P w K mg base N qual scope f cd A outer s H E) za y H1 s1)(hx:CX1 P w (cx1 P w K mg base N qual scope f cd A outer s H E).stack H1 s1 E e s'):(cx1 P w K mg base N qual scope f cd A outer s H E).xe e s':=by
 obtain⟨a,C,g,B,H',rfl,os,bare,un,hok,F,hE⟩:=hx;have J:Inv (cx1 P w K mg base N qual scope f cd A outer s H E) za y H' { s' with heap:=g }:=I.call' (s':={ s' with heap:=g }) (ch:=[]) os un hok bare (λb z=>absurd z<|by simp);obtain⟨t,fl⟩:=F.fly;refine wpAny_leaves_onW (outer:=outer) I.ok.frames rfl fl λh' x1 x2=>?_
 have up:∀b,Rl s H' b->Rl s1 H' b:=λb r=>r.imp (λz q=>by
  cases e:s.heap.get? b with
  | none=>exact z e
  | some o =>
   obtain⟨o',q'⟩:=I.base.there b o e (λz=>absurd (show b∈([]:La fL) from z)<|by simp)
   rw[q]at q';cases q') id
 refine#[a,C,g,B,H',rfl,J.os,bare,J.base,J.hok,#[λb o r e m=>F.keep b o (up b r) e<|ap1 m (bz9 J r),#[t,x1],λb o e m=>?_],hE];obtain⟨z,e2⟩:=F.sl b o e (xmm _ m);obtain⟨_,o',e',hd⟩:=J.stack.mem (xmm _ m);have e':g.get? b=Oa o':=e';rw[e]at e';cases e';obtain⟨z2,q⟩:=x2 b _ e2 hd;exact#[z2,q]
end
noncomputable abbrev veB:La fJ:=[.type "ValueError", .type "Exception", .type "BaseException", .type "object"]
def Ef(K:af):XK:=λcls _ _=>∃D,clA K "NoText" = Oa D/\cls=.ref D
def CXb(K:af)(P:eX)(w:World):Bool->CXT
 | true=>λouter H s _ e s'=>CX1 P w outer H s (Ef K) e s'
 | false=>CX0
def Ps(X:Cx)(b:Bool):Prop:=x6 (CXb X.K X.prog X.w b) X E0
def cd8:Ps X false:=cH3
def xeY(X:Cx):Bool->fJ->fK->Prop
 | true=>X.xe
 | false=>λ_ _=>False
abbrev cxY(b:Bool)(P:eX)(w:World)(K:af)(mg:Str->Ob fJ)(base:Heap)(N:La Str)(qual:Str)(scope:Scope)(f:fL)(cd:fJ)(A:eY)(outer:La Env)(s:fK)(H:Hp)(E:XK):Cx :=
 (aV0 (CXb K P w b) P w K mg base N qual scope f cd A outer s H E).wish (xeY (aV0 (CXb K P w b) P w K mg base N qual scope f cd A outer s H E) b)
def av8{P:eX}{w:World}{K:af}{mg:Str->Ob fJ}{base:Heap}{x qual:Str}{st:Stmt}{f:fL}{fd:eZ}{N ps:La Str}{k:Nat}{sp:Sp}(F:Fun K x qual st f fd)(S:FnScope N ps (B8 st))(len:∀vs H Q E,sp vs H Q E->vs.length=ps.length)
  (hb:∀(cdv:fJ) (A:eY) (outer:La Env) (s:fK) (H:Hp) (vs:La V) (Q:VK) (E:XK),Room k (A.deeper (envOfC qual (B8 st) s.heap.objs.size f cdv))->sp vs H Q E ->
   ∃t,PSs (cxY b P w K mg base N qual (B8 st) f cdv A outer s H E) (G8 st) t/\t { nx:=λ_ H'=>Q .non H',rt:=Q } (L2.start N vs) H):FnOk P w K mg base (CXb K P w b) (k+1) f fd ps sp:=by
 obtain⟨oc,od,kV,doc,pm,an,cdv,ct,osl,rfl,lk,hcd⟩:=F.ex;refine aT6 lk hcd S len λA outer s H vs Q E hr hsp=>?_
 obtain⟨t,h,q⟩:=hb cdv A outer s H vs Q E hr hsp;refine#[t,λza s y H D I hw=>eJ (h za s y H D (I.wish _) hw) (λ_ _ q=>q.unwish) λe s z=>?_,q];cases b
 .exact z.elim
 .exact z
section
variable {M:Model}{A:Around}{E:Value->Shared->Prop}{s:Shared}{base:Heap}{env:Env}{outer l:La Env}{e L:Addr}{cls a0 fl:Value}{Q:Unit->Shared->Prop}
def Hld(base:Heap)(l:La Env)(e:fL)(cls a0 fl:fJ)(h:Heap):Prop:=base.StaysIn h/\base.get? e=Z/\h.FunFrames base l/\h.TracedAtW base e cls a0 fl
def cA4{fr:Ob fL}(R:Hld base l e cls a0 fl s.heap)(k:∀h',Hld base l e cls a0 (fr.elim .none λf=>rawInt f) h'->s.heap.UpToSlots h'->Q () { s with heap:=h' }):ft M A (setFlight (.ref e) fr) Q E s:=by
 obtain⟨r1,r2,r3,oe,ws,T,oT,ts,he,hc,hd,h1,nT,Te,hT,dT,h3⟩:=R;have ot:∀b,b≠T->(s.heap.update T (Obj.mapFields (·.setIfInBounds 3 (fr.elim fG λf=>rawInt f)))).get? b=s.heap.get? b:=λb n=>Heap.get?_update_other _ _ n.symm
 have nr:∀b o,s.heap.get? b=Oa o->(∀vs,o.data≠.fields vs)->b≠T:=λb o q n z=>by subst z;rw[hT]at q;cases q;exact n ts dT
 have l3:=(bX.mp h3).1;unfold setFlight;refine eF (eP he hd h1 ?_);rw[if_pos (by simp)];refine wpAny_setField hT dT l3 (k _ #[λb o q=>(ot b λz=>by rw[z,nT]at q;cases q).trans<|r1 b o q,r2,r3.of_keeps λb o q n=>#[o,(ot b<|nr b o q n).trans q,rfl],?_] λb o q n=>#[o.slots,(ot b<|nr b o q n).trans q]);exact#[oe,ws,T,_,_,(ot e Te.symm).trans he,hc,hd,h1,nT,Te,Heap.get?_update_self _ hT<|Obj.isFreed_of_fields (Obj.data_mapFields dT _),Obj.data_mapFields dT _,by simp[l3]]
def ba2(hfr:A.frames=Oa (env::outer))(hf:env.frame=Oa L)(R:Hld base (env::outer) e cls a0 fl s.heap)(k:∀h',Heap.FlyingW base outer e cls a0 h'->s.heap.UpToSlots h'->Q () { s with heap:=h' }):ft M A (leaving env<|.ref e) Q E s:=by
 have fin:∀h4,Heap.HeldW base (env::outer) e cls a0 L h4->s.heap.UpToSlots h4->ft M A (setFlight (.ref e) Z) Q E { s with heap:=h4 }:=λh4 hd up=>wpAny_landsW (s:={ s with heap:=h4 }) hd λh' z up'=>by
  obtain⟨k1,k2,⟨_,_,k3⟩,k4⟩:=z;exact k h' #[k1,k2,k3,k4]<|up.trans up'
 unfold leaving;obtain⟨r1,r2,r3,r4⟩:=R;by_cases q:fl=rawInt L
 .subst q;exact eF<|wpAny_noteFrame_againW hf r4 (fin s.heap #[r1,r2,r3,r4] λb o e _=>#[o.slots,e])
 obtain⟨oe,ws,T,oT,ts,he,⟨hc,h0⟩,hd,h1,nT,Te,hT,dT,h3⟩:=r4;subst hc;have ot:∀b,b≠T->(s.heap.update T (Obj.mapFields (·.setIfInBounds 3 fG))).get? b=s.heap.get? b:=λb n=>Heap.get?_update_other _ _ n.symm
 have nr:∀b o,s.heap.get? b=Oa o->(∀vs,o.data≠.fields vs)->b≠T:=λb o q n z=>by subst z;rw[hT]at q;cases q;exact n ts dT
 unfold noteFrame;simp only[hf];refine eF (eF<|eP he hd h1 ?_);rw[if_pos (by simp)];refine eF (eP hT dT h3 ?_);rw[if_neg (by simpa using q)];refine eF (wpAny_setField hT dT (bX.mp h3).1 ?_);refine wpAny_entryW hfr (r3.of_keeps λb o q n=>#[o,(ot b<|nr b o q n).trans q,rfl]) hf ((ot e Te.symm).trans he) (λb o q=>(ot b λz=>by rw[z,nT]at q;cases q).trans<|r1 b o q) r2 hd (bX.mp h1).1 h0 λh' #[x1,x2,x3,x4]=>?_
 exact fin h' #[x1,r2,x2,x3] λb o q n=>x4 b o ((ot b<|nr b o q n).trans q) n
end
theorem bK6{h h' B:Heap}{C:fL}(hB:B.get? C=Oa o)(sb:Heap.SameBut C h h'):∀{l:La Env},h.FunFrames B l->h'.FunFrames B l
 | [],_=>trivial
 | _::_,#[hk,#[L,o,hf,hn,ho,hd],hr]=>#[hk,#[L,o,hf,hn,(sb.2 L λz=>by rw[z,hB]at hn;cases hn).trans ho,hd],bK6 hB sb hr]
abbrev CmE(X:Cx)(C:fL)(e:fJ)(s3:fK):Prop:=∃m,s3.heap.Ns C m/\∀h',Heap.SameBut C s3.heap h'->∀cenv:Env,cenv.locals=C->ft (fu X.prog X.w) X.A (PySem.passOn "comprehension.variables-let-go" e cenv:Sem fJ) (λ_ _=>False) X.xe { s3 with heap:=h' }
section
variable {P:Program}{w:World}{K:PySem.W.Frag}{mg:Str->Ob Value}{base:Heap}{N:La Str}{qual:Str}{scope:Scope}{f:Addr}{cd:Value}{A:Around}{outer:La Env}{s:Shared}{H H1:Hp}{E:XK}
 {za:La (fL×Obj)}{σ:L2.St}{s1 s':fK}{C:fL}
def ca5(I:Inv (cx1 P w K mg base N qual scope f cd A outer s H E) za y H1 s1)(hN:s1.heap.Ns C m)(hH:H1 C=Z)(hs:C∉frs (cx1 P w K mg base N qual scope f cd A outer s H E).stack)(h0:s.heap.get? C=Z)
  (hx:CX1 P w (cx1 P w K mg base N qual scope f cd A outer s H E).stack H1 s1 E e s'):ft (fu P w) (cx1 P w K mg base N qual scope f cd A outer s H E).A (noteFrame e (cx1 P w K mg base N qual scope f cd A outer s H E).env) (λ_ s3=>CmE (cx1 P w K mg base N qual scope f cd A outer s H E) C e s3) E' s':=by
 obtain⟨a,Cc,g,B,H',rfl,os,bare,un,hok,F,hE⟩:=hx;have J:Inv (cx1 P w K mg base N qual scope f cd A outer s H E) za y H' { s' with heap:=g }:=I.call' (s':={ s' with heap:=g }) (ch:=[]) os un hok bare (λb z=>absurd z<|by simp);obtain⟨t,fl⟩:=F.fly;obtain⟨oC,es,ep,gC,nC⟩:=hN;have gg:=un.keep C oC gC hH hs (by simp);have hB:=F.keep C oC (.inl (by rw[gC];simp)) gg hs;refine wpAny_looks_onW (outer:=outer) I.ok.frames rfl fl λh4 hd4 up4=>#[m,#[oC,es,ep,hd4.1 C oC hB,nC],λh' sb cenv _=>?_]
 obtain⟨r1,r2,r3,oe,ws,T,oT,ts,he,hc,hd,h1,nT,Te,hT,dT,h3⟩:=hd4;have nc:∀b,B.get? b=Z->b≠C:=λb z q=>by rw[q,hB]at z;cases z
 have st:(PySem.W.hideAll B [C]).StaysIn B:=λb o q=>PySem.W.of_hideAll _ q
 have tr:h'.TracedAtW (PySem.W.hideAll B [C]) a (.ref Cc) (.ref t) (rawInt s.heap.objs.size):=#[oe,ws,T,oT,ts,(sb.2 a<|nc a r2).trans he,hc,hd,h1,PySem.W.fresh_of_stays st nT,Te,(sb.2 T<|nc T nT).trans hT,dT,h3]
 have R1:Hld (PySem.W.hideAll B [C]) (cx1 P w K mg base N qual scope f cd A outer s H E).stack a (.ref Cc) (.ref t) (rawInt s.heap.objs.size) h' :=
  #[λb o q=>(sb.2 b λz=>by rw[z,PySem.W.hideAll_none _ (.head _)]at q;cases q).trans<|r1 b o (PySem.W.of_hideAll _ q),PySem.W.fresh_of_stays st r2,PySem.W.funFrames_base st (bK6 hB sb r3),tr]
 unfold PySem.passOn;refine eF (eP ((sb.2 a<|nc a r2).trans he) hd h1 ?_);rw[if_neg (by simp)];refine eF<|cA4 (s:={ s' with heap:=h' }) R1 λh5 R5 up5=>wpAny_throw<|ba2 (s:={ s' with heap:=h5 }) I.ok.frames rfl R5 λh6 f6 up6=>?_
 have up:∀b,Rl s H' b->Rl s1 H' b:=λb r=>r.imp (λz q=>by
  cases e:s.heap.get? b with
  | none=>exact z e
  | some o =>
   obtain⟨o',q'⟩:=I.base.there b o e (λz=>absurd (show b∈([]:La fL) from z)<|by simp)
   rw[q]at q';cases q') id
 have HC:H' C=Z:=un.free C oC gC hH (by simp);refine#[a,Cc,g,_,H',rfl,J.os,bare,J.base,J.hok,#[λb o r e m=>?_,#[t,f6],λb o e m=>?_],hE]
 .refine PySem.W.hideAll_get _ (F.keep b o (up b r) e<|ap1 m (bz9 J r)) λz=>?_
  rcases aB.mp z with rfl
  rcases r with r|r
  .exact r h0
  .exact r HC
 .have m':=xmm s.heap.objs.size m;obtain⟨z,e2⟩:=F.sl b o e m';obtain⟨_,o',e',hdf⟩:=J.stack.mem m';have e':g.get? b=Oa o':=e';rw[e]at e';cases e';obtain⟨z4,e4⟩:=up4 b _ e2 hdf;obtain⟨z5,e5⟩:=up5 b _ ((sb.2 b λq=>hs (by rw[<- q];exact m')).trans e4) hdf;obtain⟨z6,e6⟩:=up6 b _ e5 hdf;exact#[z6,e6]
def bn8:Ps (cxY b P w K mg base N qual scope f cd A outer s H E) b:=by
 cases b
 .exact cd8
 .exact λza y H1 s1 e s' I hx=>bU2 (E:=Ef K) (I.wish (cx1 P w K mg base N qual scope f cd A outer s H<|Ef K).xe) hx
def co4:PassesOwn (fu P w) (cxY b P w K mg base N qual scope f cd A outer s H E).A (cxY b P w K mg base N qual scope f cd A outer s H E).env (cxY b P w K mg base N qual scope f cd A outer s H E).xe:=by
 cases b
 .exact PassesOwn.never
 .exact PassesOwn.leaving
end
structure Th (X:Cx):Prop where
 mo:∀{za:List (fL×Obj)}{σ:L2.St}{H:Hp}{s:fK}{h:Heap}{a D:fL}{vs:List fJ},Inv X za σ H s->clA X.K "NoText" = Oa D->Heap.MadeExcOf s.heap h a (.ref D) vs->X.xe (.ref a) { s with heap:=h }
 cm:∀{za:List (fL×Obj)}{σ:L2.St}{H:Hp}{s s':fK}{C:fL}{m:Str->Option fJ}{e:fJ}{E:fJ->fK->Prop},Inv X za σ H s->s.heap.Ns C m->H C=Z->C∉frs X.stack->X.s₀.heap.get? C=Z ->
  CX1 X.prog X.w X.stack H s (Ef X.K) e s'->ft (fu X.prog X.w) X.A (noteFrame e X.env) (λ_ s3=>CmE X C e s3) E s'
def cE4{P:eX}{w:World}{K:af}{mg:Str->Ob fJ}{base:Heap}{N:La Str}{qual:Str}{scope:Scope}{f:fL}{cd:fJ}{A:eY}{outer:La Env}{s:fK}{H:Hp}{E:XK}:Th (cxY true P w K mg base N qual scope f cd A outer s H E) :=
 #[λI hD hm=>bD9 (E:=Ef K) (I.wish (cx1 P w K mg base N qual scope f cd A outer s H<|Ef K).xe) hm #[_,hD,rfl],λI hn hH hs h0 hx=>ca5 (E:=Ef K) (I.wish (cx1 P w K mg base N qual scope f cd A outer s H<|Ef K).xe) hn hH hs h0 hx]
section
variable {X:Cx}
def aN2:fe "len" = Oa (.builtin "len"):=PySem.boot_len
def cB4:fe "all" = Oa (.builtin "all"):=∅
def bM9:fe "isinstance" = Oa (.builtin "isinstance"):=∅
def aN3:fe "int" = Oa (.type "int"):=∅
def cb1:fe "bool" = Oa (.type "bool"):=∅
def be2:fe "str" = Oa (.type "str"):=∅
def bm0:fe "list" = Oa (.type "list"):=∅
def aV5:fe "tuple" = Oa (.type "tuple"):=∅
noncomputable def F7(f:Rho->Ob (Bool×La D)):DE:=λy=>(f y).map λq=>.int q.2.length
def bH9(hg:Gl X "len")(hm:X.mg "len" = Z)(h:JQ X e f)(he:eQ [e] X.env=[(false,eval e X.env)]:=by rfl):JE X (.Call (.Name "len" p) [e] [] pos) (F7 f):=λy d q=>by
 obtain⟨⟨t,ds⟩,h1,h2⟩:=xmo q;subst h2;refine C8 (O2 ao0 hg hm aN2 (E6 (h y t ds h1) G6 he) (he:=he)) λz H Q w=>?_
 obtain⟨H0,Hf,s,sl,k⟩:=w;refine#[H0,Hf,s,sl,λv H1 Hf1 g1 #[a,vs,e1,e2,e3]=>#[a,vs,by rw[e1],?_,?_]]
 .cases t with
  | true=>exact .inr e2
  | false=>exact .inl e2
 .exact k _ H1 Hf1 g1 (by rw[e3.length];rfl)
def bH5(hg:Gl X "tuple")(hm:X.mg "tuple" = Z)(h:JQ X e f)(hz:∀y ds,f y≠Oa (true,ds)\/True:=by intros;exact .inr trivial)(he:eQ [e] X.env=[(false,eval e X.env)]:=by rfl):
  JE X (.Call (.Name "tuple" p) [e] [] pos) (λy=>(f y).bind λq=>if q.1=true then Z else Oa (.tuple q.2)):=λy d q=>by
 obtain⟨⟨t,ds⟩,h1,h2⟩:=xbm q;cases t with
 | true=>simp at h2
 | false =>
  simp only[be,if_false,bg.injEq]at h2;subst h2;refine C8 (R7 aD4 hg hm aV5 (E6 (h y false ds h1) G6 he) (he:=he)) λz H Q w=>?_
  obtain⟨H0,Hf,s,sl,k⟩:=w;refine#[H0,Hf,s,sl,λv H1 Hf1 g1 #[a,vs,e1,e2,e3]=>#[a,vs,by rw[e1],.inl #[e2,λl hl=>?_]]];exact k _ _ _ (g1.trans<|Grow.laid g1.sub hl) #[l,vs,rfl,SqT.of C9,e3.mono<|G4 (g1.sub.free hl)]
def bX9(hg:Gl X "list")(hm:X.mg "list" = Z)(h:JQ X e f)(he:eQ [e] X.env=[(false,eval e X.env)]:=by rfl):JN X (.Call (.Name "list" p) [e] [] pos) (λy=>(f y).map λq=>q.2):=λy ds' q=>by
 obtain⟨⟨t,ds⟩,h1,h2⟩:=xmo q;subst h2;refine C8 (R7 aN0 hg hm bm0 (E6 (h y t ds h1) G6 he) (he:=he)) λz H Q w=>?_
 obtain⟨H0,Hf,s,sl,k⟩:=w;refine#[H0,Hf,s,sl,λv H1 Hf1 g1 #[a,vs,e1,e2,e3]=>#[a,vs,by rw[e1],?_,λl hl=>?_]]
 .cases t with
  | true=>exact .inr e2
  | false=>exact .inl e2
 .exact k _ _ _ (g1.trans<|Grow.made g1.sub hl) #[l,vs,rfl,g1.big.free hl,C9,g1.sub.free hl,e3]
noncomputable def ag8(f:DE):DE:=λy=>(f y).bind λd=>match d with
 | .int i=>Oa<|.int i
 | .bool b=>Oa<|.int (if b then 1 else 0)
 | _=>Z
def bI1(hg:Gl X "int")(hm:X.mg "int" = Z)(h:JE X e f)(he:eQ [e] X.env=[(false,eval e X.env)]:=by rfl):JE X (.Call (.Name "int" p) [e] [] pos) (ag8 f):=λy d q=>by
 obtain⟨x,h1,h2⟩:=xbm q;split at h2
 .cases h2;exact C8 (R7 aG4 hg hm aN3 (E6 (h y _ h1) G6 he) (he:=he)) λz H Q #[H0,Hf,s,sl,k] =>#[H0,Hf,s,sl,λv H1 Hf1 g1 r=>.inl #[_,by rw[show v=_ from r],k _ H1 Hf1 g1 rfl]]
 .cases h2;exact C8 (R7 aG4 hg hm aN3 (E6 (h y _ h1) G6 he) (he:=he)) λz H Q #[H0,Hf,s,sl,k] =>#[H0,Hf,s,sl,λv H1 Hf1 g1 r=>.inr #[_,by rw[show v=_ from r],k _ H1 Hf1 g1 rfl]]
 .cases h2
noncomputable def Y7(f:DE):DE:=λy=>(f y).bind λd=>match d with
 | .int i=>if i.natAbs.log2 < 1920 then Oa (.str<|toString i) else Z
 | .bool b=>Oa<|.str (if b=true then "True" else "False")
 | _=>Z
def aD5:W4 X (.type "str") (λxs H Q=>∃b,xs=[.bl b]/\Q (.str (if b=true then "True" else "False")) H):=by
 intro za s y H xs us Q I r h;obtain⟨b,rfl,q⟩:=h;obtain⟨u,rfl,e⟩:=aa5 r;obtain rfl:u=Value.bool b:=e;exact PySem.P.str_of_bool #[.str _,H,I.tok _,#[_,rfl],q]
def bH6(hg:Gl X "str")(hm:X.mg "str" = Z)(h:JE X e f)(he:eQ [e] X.env=[(false,eval e X.env)]:=by rfl):JE X (.Call (.Name "str" p) [e] [] pos) (Y7 f):=λy d q=>by
 obtain⟨x,h1,h2⟩:=xbm q;split at h2
 .split at h2
  .rename_i c;cases h2;exact C8 (R7 aM9 hg hm be2 (E6 (h y _ h1) G6 he) (he:=he)) λz H Q #[H0,Hf,s,sl,k] =>#[H0,Hf,s,sl,λv H1 Hf1 g1 r=>#[_,by rw[show v=_ from r],c,k _ H1 Hf1 g1 rfl]]
  .cases h2
 .cases h2;exact C8 (R7 aD5 hg hm be2 (E6 (h y _ h1) G6 he) (he:=he)) λz H Q #[H0,Hf,s,sl,k] =>#[H0,Hf,s,sl,λv H1 Hf1 g1 r=>#[_,by rw[show v=_ from r],k _ H1 Hf1 g1 rfl]]
 .cases h2
noncomputable def aV7:La D->Ob Bool
 | []=>Oa true
 | .bool b::r=>(aV7 r).map λc=>b&&c
 | _::_=>Z
theorem aV6:∀{ds:La D}{c:Bool},aV7 ds=Oa c->∃bs:La Bool,ds=bs.map fC/\c=bs.all id
 | [],c,h=>by cases h;exact#[[],rfl,rfl]
 | .bool b::r,c,h=>by
  obtain⟨c',h1,h2⟩:=xmo h;obtain⟨bs,h3,h4⟩:=aV6 h1;exact#[b::bs,by simp[h3],by simp[<- h2,h4]]
theorem ax4{K:af}{H:Hp}:∀{bs:La Bool}{vs:La V},Reps K H (bs.map fC) vs->vs=bs.map V.bl
 | [],_,h=>h
 | _::_,_,#[v,r,h1,h2,h3]=>by subst h1;rw[show v=_ from h2,ax4 h3];rfl
def bs8:W4 X (.builtin "all") (λxs H Q=>X.calm=true/\∃(p:fL) (bs:La Bool),xs=[.ref p]/\SqL X.K H p (bs.map V.bl)/\Q (.bl<|bs.all id) H):=by
 intro za s y H xs us Q I r h;obtain⟨hc,p,bs,rfl,hq,q⟩:=h;obtain⟨u,rfl,rx⟩:=aa5 r;cases rx;obtain⟨its,rv,pl,hz⟩:=I.list hq;have hlen:=rv.length;have hh:X.A.in1.handled=Z:=I.ok.hd hc;have hlt:p < s.heap.objs.size:=by obtain⟨_,e,_⟩:=pl.isList;exact fw e
 refine call_all_walk (wpAny_pyIter_list pl.isList ?_);refine#[s.heap.objs.size,_,_,_,_,_,λi=>(bs[i]?).getD false,rfl,Walks.list hh _ p (aP hlt) its.toArray,#[#[_,fx _ rfl,rfl,rfl],pl.isList.at λo e=>fv _ e],?_,?_]
 .intro i v s' Q' E' hv hQ;have hv':its[i]? = Oa v:=by simpa using hv
  have:∃b,bs[i]? = Oa b:=by
   have:i < its.length:=(am.mp hv').1;have:i < bs.length:=by simpa using (by grind:i < (bs.map V.bl).length)
   exact#[bs[i],by simp[this]]
  obtain⟨b,hb⟩:=this;obtain⟨u,hu,ru⟩:=rv.get (i:=i) (x:=.bl b) (by simp[hb]);rw[hv']at hu;cases hu;cases ru;exact eM (by simpa [hb] using hQ)
 .intro h' tk hk
  have e:((bf its.toArray.size).all λi=>(bs[i]?).getD false)=bs.all id:=by
   have hn:its.toArray.size=bs.length:=by simpa using hlen.symm
   rw[hn,bv];simp only[ay,bF,id];constructor
   .intro h x hx;obtain⟨i,hi,rfl⟩:=List.mem_iff_getElem.mp hx;simpa [hi] using h i hi
   .intro h i hi;simpa [hi] using h bs[i] (bD hi)
  rw[e]
  have I1:Inv X za y H { s with heap:=h',toks:=tk }:=by
   have I0:Inv X za y H { s with heap:=s.heap.push { cls:=.type "list_iterator", data:=.fields (List.toArray [.ref p,rawInt 0]) } }:=I.kept (t':=s.toks) λb o e=>fv _ e
   refine I.kept (t':=tk) λb o e=>hk b o ?_<|fv _ e
   intro hb;have:b=s.heap.objs.size:=by simpa using hb
   subst this;exact absurd (fw e)<|bu _
  exact#[.bl<|bs.all id,H,I1,rfl,q]
def aq1(f:Rho->Ob (Bool×La D)):DE:=λy=>(f y).bind λq=>if q.1=true then Z else(aV7 q.2).map fC
def cy6(hg:Gl X "all")(hm:X.mg "all" = Z)(h:JQ X e f)(hc:X.calm=true:=by rfl)(he:eQ [e] X.env=[(false,eval e X.env)]:=by rfl):JE X (.Call (.Name "all" p) [e] [] pos) (aq1 f):=λy d q=>by
 obtain⟨⟨t,ds⟩,h1,h2⟩:=xbm q;cases t with
 | true=>simp at h2
 | false =>
  simp only[be,if_false]at h2;obtain⟨c,h3,h4⟩:=xmo h2;subst h4;obtain⟨bs,h5,h6⟩:=aV6 h3;subst h5 h6;refine C8 (O2 bs8 hg hm cB4 (E6 (h y false _ h1) G6 he) (he:=he)) λz H Q w=>?_
  obtain⟨H0,Hf,s,sl,k⟩:=w;refine#[H0,Hf,s,sl,λv H1 Hf1 g1 #[a,vs,e1,e2,e3]=>#[hc,a,bs,by rw[e1],?_,k _ H1 Hf1 g1 rfl]];rw[ax4 e3]at e2;exact e2
noncomputable def bp6(T:String)(d:D):Ob Bool:=match d with
 | .int _=>(match T with | "int" => Oa true | "bool" => Oa false | "str" => Oa false | "tuple" => Oa false | "list" => Oa false|_=>Z)
 | .bool _=>(match T with | "int" => Oa true | "bool" => Oa true | "str" => Oa false | "tuple" => Oa false | "list" => Oa false|_=>Z)
 | .none=>(match T with | "int" => Oa false | "bool" => Oa false | "str" => Oa false | "tuple" => Oa false | "list" => Oa false|_=>Z)
 | .str _=>(match T with | "int" => Oa false | "bool" => Oa false | "str" => Oa true | "tuple" => Oa false | "list" => Oa false|_=>Z)
 | .tuple _=>(match T with | "int" => Oa false | "bool" => Oa false | "str" => Oa false | "tuple" => Oa true | "list" => Oa false|_=>Z)
 | .list _=>(match T with | "int" => Oa false | "bool" => Oa false | "str" => Oa false | "tuple" => Oa false | "list" => Oa true|_=>Z)
 | .dict l=>(match l with|[(.none,.none)]=>Oa false|_=>Z)
noncomputable def tyD:D->String
 | .int _ => "int"
 | .bool _ => "bool"
 | .none => "NoneType"
 | .str _ => "str"
 | .tuple _ => "tuple"
 | .list _ => "list"
 | .dict _ => "dict"
def bZ0{K:af}{T:String}{d:D}{b:Bool}(nd:∀l,d≠.dict l)(h:bp6 T d=Oa b):PySem.W.kitOne K (.type<|tyD d) (.type T)=Oa b:=by
 unfold bp6 at h
 cases d<;>first
  | exact(nd _ rfl).elim
  | (dsimp only at h;split at h<;>first
   | (cases h;rfl)
   | cases h)
  | cases h
def bM5{T:String}:W4 X (.builtin "isinstance") (λxs H Q=>∃d x b,xs=[x,.ty T]/\Rep X.K H d x/\bp6 T d=Oa b/\Q (.bl b) H):=by
 intro za s w H xs us Q I r h;obtain⟨d,x,b,rfl,hd,hb,q⟩:=h;obtain⟨u,c,rfl,rx,rc⟩:=bv5 r;cases rc;have e:=λnd=>bZ0 (K:=X.K) nd hb
 have fin:∀tk,EP X za w Q (.bool b) { s with toks:=tk }:=λtk=>#[.bl b,H,I.tok tk,rfl,q]
 cases d with
 | none=>cases hd;cases rx;exact PySem.W.kia_one PySem.W.kitx_none I.kIn True.intro (e λ_ z=>nomatch z) (λz=>nomatch z) fin
 | bool y=>cases hd;cases rx;exact PySem.W.kia_one PySem.W.kitx_bool I.kIn True.intro (e λ_ z=>nomatch z) (λz=>nomatch z) fin
 | int i=>cases hd;obtain⟨t,rfl⟩:=rx;exact PySem.W.kia_one PySem.W.kitx_int I.kIn True.intro (e λ_ z=>nomatch z) (λz=>nomatch z) fin
 | str i=>cases hd;obtain⟨t,rfl⟩:=rx;exact PySem.W.kia_one PySem.W.kitx_str I.kIn True.intro (e λ_ z=>nomatch z) (λz=>nomatch z) fin
 | tuple ds =>
  obtain⟨a,vs,rfl,h2,h3⟩:=hd;cases rx;obtain⟨its,rv,⟨o,ho,hc,_⟩,_⟩:=I.tuple h2;exact PySem.W.kia_one PySem.W.kitx_tuple I.kIn #[o,ho,hc] (e λ_ z=>nomatch z) (λz=>nomatch z) fin
 | list ds =>
  obtain⟨a,vs,rfl,h2,h3⟩:=hd;cases rx;obtain⟨its,rv,pl,_⟩:=I.list h2;obtain⟨o,ho,hc,_⟩:=pl.isList;exact PySem.W.kia_one PySem.W.kitx_list I.kIn #[o,ho,hc] (e λ_ z=>nomatch z) (λz=>nomatch z) fin
 | dict ds =>
  unfold bp6 at hb;dsimp only at hb;split at hb
  .obtain⟨a,m,_,_,x,_,_,z,_⟩:=hd;cases z
  .cases hb
def O9(T:String)(f:DE):DE:=λy=>(f y).bind λd=>(bp6 T d).map fC
def cy0(hg:Gl X "isinstance")(hm:X.mg "isinstance" = Z)(hgT:Gl X x)(hmT:X.mg x=Z)(hvT:fe x=Oa (.type T))(h:JE X e f)
  (hn:x ≠ "__name__" := by decide) (hd:(x==("__debug__":Str))=false:=by decide)
  (he:eQ [e,.Name x p2] X.env=(false,eval e X.env)::eQ [.Name x p2] X.env:=by rfl) (he2:eQ [.Name x p2] X.env=[(false,eval (.Name x p2) X.env)]:=by rfl) (hpl:(backTo pos<|eQ [.Name x p2] X.env).any (·.1)=false:=by rfl) :
  JE X (.Call (.Name "isinstance" p) [e,.Name x p2] [] pos) (O9 T f):=λz d q=>by
 obtain⟨y,h1,h2⟩:=xbm q;obtain⟨b,h3,h4⟩:=xmo h2;subst h4;refine C8 (O2 (bM5 (T:=T)) hg hm bM9 (E6 (h z y h1) (E6 (bh5 (v:=.ty T) hgT hmT hvT rfl hn hd) G6 he2) he) (he:=he) (hpl:=hpl)) λu H Q w=>?_
 obtain⟨H0,Hf,s,sl,k⟩:=w;exact#[H0,Hf,s,sl,λv H1 Hf1 g1 r=>#[y,v,b,rfl,r.mono g1.sub,h3,k _ H1 Hf1 g1 rfl]]
def spF(K:af)(n:Nat)(F:La D->Ob D):Sp:=λvs H Q _=>vs.length=n/\∃Hf ds d,D8 Hf H/\Reps K Hf ds vs/\F ds=Oa d/\∀v H' zc,Grow H Hf H' zc->Rep K zc d v->Q v H'
noncomputable def A7(F:La D->Ob D)(f:Rho->Ob (La D)):DE:=λy=>(f y).bind F
def bY7(Fk:FnOk X.prog X.w X.K X.mg X.base (CXb X.K X.prog X.w b) k f fd ps (spF X.K n F))(hq:Ps X b)(hr:Room k X.A)(hg:Gl X x)(hm:X.mg x=Oa (.ref f))(hk:aN X.K (.ref f)=true)(hb:K0 X.K fd ps [])
  (ha:JA X (e::es) g) (hn:(e::es).length=n:=by rfl) (hdb:(x==("__debug__":Str))=false:=by decide) (he:eQ (e::es) X.env=(false,eval e X.env)::eQ es X.env:=by rfl) (hpl:(backTo pos<|eQ es X.env).any (·.1)=false:=by rfl) :
  JE X (.Call (.Name x p) (e::es) [] pos) (A7 F g):=λz d q=>by
 obtain⟨ds,h1,h2⟩:=xbm q;refine C8 (am3 Fk hr hg hm hk hb .nil hq (λpos za s u H Q I t=>ha.run z ds h1 pos za s u H Q I t) hdb he hpl) λu H Q y=>?_
 obtain⟨H0,Hf,s,sl,kk⟩:=y;refine#[H0,Hf,s,sl,λvs H1 Hf1 g1 r1=>#[?_,Hf1,ds,d,g1.sub,by rw[ar];exact r1,h2,λv H2 Hf2 g2 r2=>kk v H2 Hf2 (g1.trans g2) r2]];rw[ar,r1.length,ha.len z ds h1,hn]
inductive Fl where
 | nx (ρ:Rho)
 | rt (d:D)
 | bk (ρ:Rho)
 | ct (ρ:Rho)
abbrev DS:=Rho->Ob Fl
structure At (K:af) (H0 Hf0:Hp) (ρ:Rho) (σ:L2.St) (H Hf:Hp):Prop where
 gr:Grow H0 Hf0 H Hf
 sl:Slots K H0 ρ σ H Hf
def Fl.ends(K:af)(H0 Hf0 Hf:Hp)(En:Ends):Fl->Prop
 | .nx y=>∀σ' H' zc,At K H0 Hf0 y σ' H' zc->D8 Hf zc->En.nx σ' H'
 | .bk y=>∀σ' H' zc,At K H0 Hf0 y σ' H' zc->D8 Hf zc->En.bk σ' H'
 | .ct y=>∀σ' H' zc,At K H0 Hf0 y σ' H' zc->D8 Hf zc->En.ct σ' H'
 | .rt d=>∀v H' zc,Grow H0 Hf0 H' zc->Rep K zc d v->En.rt v H'
def tJS(K:af)(H0 Hf0:Hp)(y:Rho)(fl:Fl):TS:=λEn z H=>∃Hf,At K H0 Hf0 y z H Hf/\fl.ends K H0 Hf0 Hf En
def JS(X:Cx)(st:Stmt)(f:DS):Prop:=∀y fl,f y=Oa fl->∀H0 Hf0,PS X st<|tJS X.K H0 Hf0 y fl
def JSs(X:Cx)(sts:La Stmt)(f:DS):Prop:=∀y fl,f y=Oa fl->∀H0 Hf0,PSs X sts<|tJS X.K H0 Hf0 y fl
def G0{st:Stmt}{t t':TS}(h:PS X st t)(i:∀En y H,t' En y H->t En y H):PS X st t':=λza s y H En I q=>h za s y H En I<|i En y H q
def X2{st:La Stmt}{t t':TS}(h:PSs X st t)(i:∀En y H,t' En y H->t En y H):PSs X st t':=λza s y H En I q=>h za s y H En I<|i En y H q
theorem At.grow{K:af}{H0 Hf0 H Hf H' zc:Hp}{y:Rho}{z:L2.St}(a:At K H0 Hf0 y z H Hf)(g:Grow H Hf H' zc):At K H0 Hf0 y z H' zc:=#[a.gr.trans g,a.sl.grow g]
def Fl.ends_mono{K:af}{H0 Hf0 Hf zc:Hp}{En:Ends}{fl:Fl}(h:fl.ends K H0 Hf0 Hf En)(e:D8 Hf zc):fl.ends K H0 Hf0 zc En:=by
 cases fl with
 | nx y=>exact λσ' H' Hf'' a s=>h σ' H' Hf'' a<|e.trans s
 | bk y=>exact λσ' H' Hf'' a s=>h σ' H' Hf'' a<|e.trans s
 | ct y=>exact λσ' H' Hf'' a s=>h σ' H' Hf'' a<|e.trans s
 | rt d=>exact h
noncomputable def D6:DS:=λy=>Oa<|.nx y
noncomputable def B3(f g:DS):DS:=λy=>(f y).bind λfl=>match fl with
 | .nx ρ'=>g ρ'
 | fl=>Oa fl
def bj1:JSs X [] D6:=λy fl q H0 Hf0=>by
 cases q;exact X2 bh0 λEn z H #[Hf,a,e]=>e z H Hf a<|D8.refl _
def ay7{st:Stmt}{sts:La Stmt}{f g:DS}(h1:JS X st f)(h2:JSs X sts g):JSs X (st::sts) (B3 f g):=λy fl q H0 Hf0=>by
 obtain⟨fl1,e1,q⟩:=xbm q;cases fl1 with
 | nx ρ' =>refine X2 (Y2 (h1 y _ e1 H0 Hf0) (h2 ρ' fl q H0 Hf0)) λEn z H #[Hf,a,e]=>#[Hf,a,λσ' H' zc a' s'=>#[zc,a',Fl.ends_mono e s']]
 | rt d=>cases q;exact X2 (Y2 (h1 y _ e1 H0 Hf0) O8) λEn z H #[Hf,a,e]=>#[Hf,a,e]
 | bk ρ'=>cases q;exact X2 (Y2 (h1 y _ e1 H0 Hf0) O8) λEn z H #[Hf,a,e]=>#[Hf,a,e]
 | ct ρ'=>cases q;exact X2 (Y2 (h1 y _ e1 H0 Hf0) O8) λEn z H #[Hf,a,e]=>#[Hf,a,e]
def av6{st:Stmt}{f:DS}(h1:JS X st f):JSs X [st] f:=λy fl q H0 Hf0=>aJ7<|h1 y fl q H0 Hf0
noncomputable def B7(f:DE):DS:=λy=>(f y).map Fl.rt
def ba8{e:Expr}{f:DE}{pos:Pos}(h:JE X e f):JS X (.Return (Oa e) pos) (B7 f):=λy fl q H0 Hf0=>by
 obtain⟨d,e1,e2⟩:=xmo q;subst e2;exact G0 (aY7<|h y d e1) λEn z H #[Hf,a,e]=>#[H0,Hf,a.gr.sub,a.sl,λv H' zc g r=>e v H' zc (a.gr.trans g) r]
noncomputable def sIf(t:Rho->Ob Bool)(f g:DS):DS:=λy=>(t y).bind λc=>if c then f y else g y
def cf9{c:Expr}{a b:La Stmt}{t:Rho->Ob Bool}{f g:DS}{pos:Pos}(hc:JT X c t)(ha:JSs X a f)(hb:JSs X b g):JS X (.If c a b pos) (sIf t f g):=λy fl q H0 Hf0=>by
 obtain⟨x,e1,q⟩:=xbm q;cases x with
 | true =>refine G0 (bh2 (hc y _ e1) (ha y fl (by simpa using q) H0 Hf0) O8) λEn z H #[Hf,a,e]=>#[H0,Hf,a.gr.sub,a.sl,λH' zc g=>an1 #[zc,a.grow g,Fl.ends_mono e g.ext]]
 | false =>refine G0 (bh2 (hc y _ e1) O8 (hb y fl (by simpa using q) H0 Hf0)) λEn z H #[Hf,a,e]=>#[H0,Hf,a.gr.sub,a.sl,λH' zc g=>ap4 #[zc,a.grow g,Fl.ends_mono e g.ext]]
theorem Slots.set{K:af}{H0 H Hf:Hp}{y:Rho}{z:L2.St}{i:Nat}{d:D}{v:V}(s:Slots K H0 y z H Hf)(r:Rep K Hf d v):Slots K H0 (y.set i<|Oa (.val d)) (z.set i<|Oa v) H Hf:=by
 refine#[by simp[s.len],λj b e=>?_,λj k ds es a h1 h2 h3 h4=>?_]
 .by_cases q:i=j
  .subst q
   have hi:i < y.length:=by
    have:=(am.mp e).1;simpa using this
   have hi':i < z.length:=by rw[<- s.len];exact hi
   rw[aD hi]at e;cases e;exact#[v,aD hi',r]
  .rw[ax q]at e;obtain⟨u,h1,h2⟩:=s.is j b e;exact#[u,by rw[ax q];exact h1,h2]
 .have hj:i≠j:=by
   intro q;subst q
   have hi:i < y.length:=by
    have:=(am.mp h1).1;simpa using this
   rw[aD hi]at h1;cases h1
  have hk:i≠k:=by
   intro q;subst q
   have hi:i < y.length:=by
    have:=(am.mp h2).1;simpa using this
   rw[aD hi]at h2;cases h2
  rw[ax hj]at h1 h3;rw[ax hk]at h2 h4;exact s.apart j k ds es a h1 h2 h3 h4
noncomputable def C7(i:Nat)(f:DE):DS:=λy=>(f y).map λd=>.nx<|y.set i (Oa<|.val d)
def ba7(i:Nat){x:Str}{e:Expr}{f:DE}{pos pos':Pos}(hN:X.N.Nodup)(h:JE X e f)(hi:X.N[i]? = Oa x:=by rfl)(hx:Loc X.env.scope x:=by first|exact Or.inl rfl|exact Or.inr rfl)
  (hs:swapsWith e (Oa<|.Name x pos') pos.line X.env=pure false:=by rfl) (hf:X.fn x=true\/X.env.scope.names.lookup x=Oa .local:=by first|exact .inl rfl|exact .inr rfl):JS X (.Assign [.Name x pos'] e pos) (C7 i f):=λy fl q H0 Hf0=>by
 obtain⟨d,e1,e2⟩:=xmo q;subst e2;exact G0 (ao8 hN hi hx (h y d e1) hs hf) λEn z H #[Hf,a,e]=>#[H0,Hf,a.gr.sub,a.sl,λv H' zc g r=>e _ H' zc #[a.gr.trans g,(a.sl.grow g).set r] g.ext]
noncomputable def bz7(i j:Nat)(f:Rho->Ob (La D)):DS:=λy=>(f y).bind λds=>match ds with
 | [a,b]=>Oa<|.nx ((y.set i<|Oa (.val a)).set j<|Oa (.val b))
 | _=>Z
end
def bs4(I:Nat->fK->Prop)
  (turn:∀n s,I n s->ft (fu prog w) A (pyNext it) (λr s1=>match r with
   | none=>R (.ok .next) s1
   | some v=>ft (fu prog w) A (letOwnedTupleGo target it v) (λ_ s1'=>ft (fu prog w) A (assign target env v) (λ_ s2 =>
     ft (fu prog w) A (forIn ifs true λc r=>if r=true then do let ok <- isTrue c env (eval c env);pure (ForInStep.yield ok) else pure (ForInStep.yield r)) (λok s3 =>
      if ok=true then ft (fu prog w) A (eval elt env) (λx s4 =>ft (fu prog w) A (call (.builtin "list.append") [acc,x]) (λ_ s5=>∃m,m < n/\I m s5) Ei s4) Ei s3
      else ∃m,m < n/\I m s3) Ei s2) Ei s1') Ei s1) Ei s)
  (hE:∀e s,Ei e s->notedBy (fu prog w) A env (λx s'=>R (.error x) s') e s) (n:Nat) (h:I n s) :
  codeAny (fu prog w) A (.compLoop (.ListComp elt [#[target,iter,ifs,0]] scope pos) 0 it acc env) R s:=by
 refine codeAny_loop rfl I (λn s hI=>?_) n h;show ft _ A ((compTurn (.ListComp elt [#[target,iter,ifs,0]] scope pos) 0 it acc env).onRaise (λx=>do noteFrame x env;theTreesLotGoes x)) _ _ s;refine wpAny_noted ?_;rw[compTurn_list];refine eF (wpAny_standAt<|eF (eJ (turn n s hI) (λr s1 h1=>?_) hE));cases r with
 | none=>exact eG h1
 | some v =>
  refine eF (eJ h1 (λ_ s1' h1'=>?_) hE);refine eF (eJ h1' (λ_ s2 h2=>eF<|eJ h2 (λok s3 h3=>?_) hE) hE);cases ok with
  | false=>exact eG #[rfl,h3]
  | true =>exact eF<|eF (eJ h3 (λx s4 h4=>eF<|eJ h4 (λ_ s5 h5=>eG<|eG #[rfl,h5]) hE) hE)
noncomputable def P5(cells:La (Str×fL)):La (Str×NameKind)->La (Str×fL)->La (Str×fL)
 | [],cs=>cs
 | (n,k)::r,cs=>if(k==fH)=true then P5 cells r ((n,(cells.lookup n).getD 0)::cs) else P5 cells r cs
theorem aA5:∀(names:La (Str×NameKind)) (cs:La (Str×fL)),(∀y∈names,y.2=.free->∃c,env.cells.lookup y.1=Oa c) ->
  (forIn names cs λ(x:Str×NameKind) (r:La (Str×fL))=>if(x.2==fH)=true then do let a <- cellOf env x.1;pure (ForInStep.yield ((x.1,a)::r)) else pure (ForInStep.yield r):Sem (La<|Str×fL))=pure (P5 env.cells names cs)
 | [],cs,_=>rfl
 | (n,k)::r,cs,h=>by
  rw[List.forIn_cons];have hr:∀y∈r,y.2=.free->∃c,env.cells.lookup y.1=Oa c:=λy hy=>h y<|xmm _ hy
  by_cases hk:(k==fH)=true
  .obtain⟨c,hc⟩:=h (n,k) aQ (by simpa using hk);have hc':env.cells.lookup n=Oa c:=hc;simp only[hk,if_true];have e:cellOf env n=pure c:=by unfold cellOf;rw[hc']
   rw[e];show(forIn r ((n,c)::cs) _:Sem _)=_;rw[aA5 r _ hr];simp only[P5,hk,if_true,hc',Option.getD_some]
  .have hk':(k==fH)=false:=by simpa using hk
   simp only[hk',be,if_false];show(forIn r cs _:Sem _)=_;rw[aA5 r _ hr];simp only[P5,hk',be,if_false]
def ca7(h:∀y∈scope.names,y.2=.free->∃c,env.cells.lookup y.1=Oa c):closureFor scope env=pure (P5 env.cells scope.names []):=by
 have:=aA5 (env:=env) scope.names [] h;unfold closureFor;exact congrArg (λz=>z >>= λcs=>pure cs) this
theorem an8:∀{names:La (Str×NameKind)}{cs:La (Str×fL)}{x:Str}{c:fL},(x,c)∈P5 cells names cs->(x,c)∈cs\/((x,fH)∈names/\c=(cells.lookup x).getD 0)
 | [],cs,x,c,h=>.inl h
 | (n,k)::r,cs,x,c,h=>by
  unfold P5 at h;split at h
  .rename_i hk;rcases an8 h with q|⟨q1,q2⟩
   .rcases ao.mp q with q|q
    .cases q;have:k=.free:=by simpa using hk
     subst this;exact .inr #[aQ,rfl]
    .exact .inl q
   .exact .inr #[xmm _ q1,q2]
  .rcases an8 h with q|⟨q1,q2⟩
   .exact .inl q
   .exact .inr #[xmm _ q1,q2]
theorem m8:∀{names:La (Str×NameKind)}{cs:La (Str×fL)}{x:Str},((x,fH)∈names\/∃c,(x,c)∈cs)->∃c,(x,c)∈P5 cells names cs
 | [],cs,x,h=>by
  rcases h with h|h
  .cases h
  .exact h
 | (n,k)::r,cs,x,h=>by
  unfold P5;rcases h with h|⟨c,h⟩
  .rcases ao.mp h with q|q
   .cases q;rw[if_pos (by rfl)];exact m8<|.inr #[_,aQ]
   .split
    .exact m8 (.inl q)
    .exact m8 (.inl q)
  .split
   .exact m8 (.inr #[c,xmm _ h])
   .exact m8 (.inr #[c,h])
def ak1{l:La (Str×fL)}{x:Str}{c:fL}(h:(x,c)∈l):∃c',l.lookup x=Oa c':=by
 induction l with
 | nil=>cases h
 | cons p r ih =>
  obtain⟨n,a⟩:=p;rw[aF];cases e:x==n with
  | true=>exact#[a,rfl]
  | false =>
   rcases ao.mp h with q|q
   .cases q;simp at e
   .exact ih q
def al9:(relabel scope env).names.lookup x=Oa k->∃k0,scope.names.lookup x=Oa k0/\(k=k0\/k0=.free):=by
 unfold relabel;simp only;generalize scope.names=names
 induction names with
 | nil=>intro h;simp at h
 | cons p r ih =>
  obtain⟨n,k1⟩:=p;intro h;rw[cX]at h;by_cases hc:(k1==fH&&env.scope.kind == .function&&env.kindOf n==Oa .cell)=true
  .simp only[hc,if_true,aF]at h;rw[aF];cases e:x==n with
   | true =>
    rw[e]at h;rw[ae,ae]at hc;exact#[k1,rfl,.inr<|by simpa using hc.1.1]
   | false=>rw[e]at h;exact ih h
  .have hc':(k1==fH&&env.scope.kind == .function&&env.kindOf n==Oa .cell)=false:=by simpa using hc
   simp only[hc',be,if_false,aF]at h;rw[aF];cases e:x==n with
   | true=>rw[e]at h;cases h;exact#[_,rfl,.inl rfl]
   | false=>rw[e]at h;exact ih h
def aJ5:scope.names.lookup x=Oa .free->(relabel scope env).names.lookup x=Oa .cell\/(relabel scope env).names.lookup x=Oa .free:=by
 unfold relabel;simp only;generalize scope.names=names
 induction names with
 | nil=>intro h;simp at h
 | cons p r ih =>
  obtain⟨n,k1⟩:=p;intro h;rw[aF]at h;rw[cX];cases e:x==n with
  | true =>
   rw[e]at h;cases h;have en:x=n:=by simpa using e
   subst en;by_cases hc:(fH==fH&&env.scope.kind == .function&&env.kindOf x==Oa .cell)=true
   .simp only[hc,if_true,aF,e];exact .inl trivial
   .have hc':(fH==fH&&env.scope.kind == .function&&env.kindOf x==Oa .cell)=false:=by simpa using hc
    simp only[hc',be,if_false,aF,e];exact .inr trivial
  | false =>
   rw[e]at h;by_cases hc:(k1==fH&&env.scope.kind == .function&&env.kindOf n==Oa .cell)=true
   .simp only[hc,if_true,aF,e];exact ih h
   .have hc':(k1==fH&&env.scope.kind == .function&&env.kindOf n==Oa .cell)=false:=by simpa using hc
    simp only[hc',be,if_false,aF,e];exact ih h
def bd7(X:Cx)(N':La Str)(scope:Scope)(C:fL)(s₀:fK)(H₀:Hp)(ex:La fL):Cx where
 prog:=X.prog
 w:=X.w
 K:=X.K
 mg:=X.mg
 base:=X.base
 A:=X.A
 N:=N'
 s₀:=s₀
 H₀:=H₀
 env:=compEnvC scope (P5 X.env.cells scope.names []) C X.env
 outer:=X.stack
 stack:=X.stack
 ex:=ex
 fn:=λ_=>false
 calm:=X.calm
 pn:=[]
 xe:=λ_ _=>False
def arr(u:Bool)(Y:Cx):fJ->fK->Prop:=λe s'=>u=true/\∃za y H s,Inv Y za y H s/\CX1 Y.prog Y.w Y.stack H s (Ef Y.K) e s'
abbrev E8(u:Bool)(X:Cx)(N':La Str)(scope:Scope)(C:fL)(s₀:fK)(H₀:Hp)(ex:La fL):Cx:=(bd7 X N' scope C s₀ H₀ ex).wish<|arr u (bd7 X N' scope C s₀ H₀ ex)
def av2:Ps (E8 ub X N' scope C s₀ H₀ ex) ub:=by
 cases ub
 .exact cd8
 .exact λza y H s e s' I hx=>#[rfl,za,y,H,s,I.unwish,hx]
structure CompSc (X:Cx) (N':List Str) (n:Nat) (zd:List Nat) (scope:Scope):Prop where
 kind:scope.kind=.function
 cell:∀y∈scope.names,y.2≠.cell
 loc:∀y∈scope.names,y.2=.local->scope.names.lookup y.1=Oa .local
 free:∀y∈scope.names,y.2=.free->X.env.scope.names.lookup y.1=Oa .cell\/X.env.scope.names.lookup y.1=Oa .free
 len:N'.length=n+zd.length
 cap:∀(i j:Nat),zd[i]? = Oa j->∃x,X.N[j]? = Oa x/\N'[n+i]? = Oa x/\scope.names.lookup x=Oa .free
section
variable {ub:Bool}{X:Cx}{N':La Str}{n:Nat}{zd:La Nat}{scope:Scope}
def Q7{l:La (Str×NameKind)}{x:Str}{k:NameKind}(h:l.lookup x=Oa k):(x,k)∈l:=PySem.mem_of_lookup h
noncomputable def au1(n:Nat)(zd:La Nat)(y:L2.St):L2.St:=av n Z++zd.map λj=>(y[j]?).join
def bd6(S:CompSc X N' n zd scope)(I:Inv X za w H s)(hf:∀b∈fp,aB9 X za H b)(hlt:∀b∈fp,b < s.heap.objs.size)
  (hns:h1.Ns s.heap.objs.size m) (hk:∀b o,s.heap.get? b=Oa o->h1.get? b=Oa o) :
  Inv (E8 ub X N' scope s.heap.objs.size s H fp) [] (au1 n zd w) H { s with heap:=h1,toks:=tk }:=by
 have cl_of:∀x c,(P5 X.env.cells scope.names []).lookup x=Oa c->X.env.cells.lookup x=Oa c:=λx c h=>by
  have hm:=PySem.mem_of_lookup h;rcases an8 hm with q|⟨q1,q2⟩
  .cases q
  .obtain⟨c',hc'⟩:=I.ok.has x (S.free _ q1 rfl);rw[hc']at q2;rw[hc',q2];rfl
 have cl_has:∀x,(x,fH)∈scope.names->∃c,(P5 X.env.cells scope.names []).lookup x=Oa c:=λx h=>by
  obtain⟨c,hc⟩:=m8 (cells:=X.env.cells) (cs:=[]) (.inl h);exact ak1 hc
 have kind_free:∀x,((relabel scope X.env).names.lookup x=Oa .cell\/(relabel scope X.env).names.lookup x=Oa .free)->(x,fH)∈scope.names:=λx h=>by
  rcases h with h|h
  .obtain⟨k0,e1,e2⟩:=al9 h;rcases e2 with e2|e2
   .subst e2;exact absurd rfl<|S.cell _ (Q7 e1)
   .subst e2;exact Q7 e1
  .obtain⟨k0,e1,e2⟩:=al9 h;rcases e2 with e2|e2
   .subst e2;exact Q7 e1
   .subst e2;exact Q7 e1
 have cell_lt:∀x c,X.env.cells.lookup x=Oa c->c < s.heap.objs.size:=λx c e=>by
  obtain⟨v,q⟩:=I.cell x c e;exact q.lt
 have ok:(E8 ub X N' scope s.heap.objs.size s H fp).Ok:=by
  refine#[I.ok.mod,S.kind,I.ok.glob,I.ok.blt,ak _,λx y c e1 e2=>I.ok.inj x y c (cl_of x c e1) (cl_of y c e2),λx hx=>cl_has x (kind_free x hx),λx c e _=>(aX e).elim,I.ok.hd,I.ok.frames,.inl rfl,λb hb=>#[aP (hlt b hb),λx c e=>(hf b hb).2.2.2.2.1 x c (cl_of x c e)],
   I.bs,aI I.ok.bsz I.sz,λb o e hb=>?_,λb hb hb2=>?_,I.stack,I.stkFree]
  .rcases(hf b hb).2.2.2.1 with z|z
   .exact I.ok.noex b o e z
   .exact absurd (aG (fw e)<|aI I.ok.bsz z) (bu _)
  .rcases ao.mp (I.stkSub b hb2) with z|z
   .exact(hf b hb).2.1 z
   .exact(hf b hb).2.2.1 z
 refine#[ok,rfl,I.bare,Un.kept hk,#[m,hns,λi x v e1 e2 e3=>?_],λx c e=>?_,I.hok.fresh<|ak _,λx c e=>I.freeC x c<|cl_of x c e,λp hp=>absurd (show p∈([]:La (fL×Obj)) from hp) (by simp),I.hok.kept hk,?_]
 .have hi:n<=i:=by
   rcases bP i n with h|h
   .unfold au1 at e2;rw[az (by simpa using h),bh,if_pos h]at e2;cases e2
   .exact h
  unfold au1 at e2;rw[aK (by simpa using hi),aH]at e2;simp only[bN]at e2;cases hj:zd[i - n]? with
  | none=>rw[hj]at e2;cases e2
  | some j =>
   rw[hj]at e2;have e2':(w[j]?).join=Oa v:=by simpa using e2
   have e2'':w[j]? = Oa (Oa v):=by
    cases q:w[j]? with
    | none=>rw[q]at e2';cases e2'
    | some o=>rw[q]at e2';simp at e2';rw[e2']
   obtain⟨y,q1,q2,q3⟩:=S.cap _ _ hj
   have:y=x:=by
    have e1':N'[i]? = Oa x:=e1;rw[show n+(i - n)=i by grind,e1']at q2;cases q2;rfl
   subst this;obtain⟨m0,hn0,hl0⟩:=I.loc
   have hv:Vis X.env.scope y:=by
    rcases S.free _ (Q7 q3) rfl with z|z
    .exact .inr (.inl z)
    .exact .inr (.inr z)
   obtain⟨u,ru,lk⟩:=hl0 j y v q1 e2'' hv;refine#[u,ru,.inr #[aJ5 q3,?_]];rcases lk with⟨lk,_⟩|⟨_,c,hc,hcell⟩
   .rcases S.free _ (Q7 q3) rfl with z|z
    .have:X.env.scope.names.lookup y=Oa .local:=lk;rw[z]at this;cases this
    .have:X.env.scope.names.lookup y=Oa .local:=lk;rw[z]at this;cases this
   .obtain⟨c',hc'⟩:=cl_has y (Q7 q3);have:=cl_of y c' hc';rw[hc]at this;cases this;obtain⟨o,ho,hd⟩:=hcell;exact#[c,hc',o,hk c o ho,hd]
 .obtain⟨v,o,ho,hd⟩:=I.cell x c (cl_of x c e);exact#[v,o,hk c o ho,hd]
 .show(au1 n zd w).length=N'.length;unfold au1;rw[S.len];simp
def aq2(I:Inv X za y H s)(hf:∀b∈fp,aB9 X za H b)
  (I':Inv (E8 ub X N' scope s.heap.objs.size s H fp) [] σ' H' s') (sb:Heap.SameBut s.heap.objs.size s'.heap h'):Inv X za y H' { s' with heap:=h' }:=by
 have ne:∀b o,s.heap.get? b=Oa o->b≠s.heap.objs.size:=λb o e=>aP<|fw e
 refine I.call' (s':={ s' with heap:=h' }) (ch:=fp) I'.os ?_ ?_ I'.bare λb hb=>#[(hf b hb).2.2.2.1,(hf b hb).2.1,(hf b hb).2.2.2.2.1,(hf b hb).2.2.2.2.2]
 .refine#[λb o e n hb hx=>sb.extBut b o (ne b o e)<|I'.base.keep b o e n hb hx,λb o e n hb hx=>?_,I'.base.free,λb o e hx=>?_,I'.base.tups,I'.base.frzs,I'.base.tbls]
  .obtain⟨sl,q⟩:=I'.base.slot b o e n hb hx;exact#[sl,sb.extBut b _ (ne b o e) q]
  .obtain⟨o',q⟩:=I'.base.there b o e hx;exact#[o',sb.extBut b _ (ne b o e) q]
 .intro b u e
  have nC:∀c v,H' c=Oa v->c≠s.heap.objs.size:=λc v q z=>by
   have:=I'.free;have z':H' c=Z:=by rw[z];exact this
   rw[z']at q;cases q
  refine(I'.hok b u e).stay (λc v hc q=>sb.extBut c v ?_ q) (λ_ q=>q) λ_ _ q=>q
  rcases hc with z|z
  .rw[z];exact nC b u e
  .exact nC c _ z
def PTs(X:Cx)(ifs:La Expr)(t:TT):Prop :=
 ∀(za:La (fL×Obj)) (s:fK) (y:L2.St) (H:Hp) (Q:Bool->Hp->Prop),Inv X za y H s->t y H Q ->
  ft (fu X.prog X.w) X.A (forIn ifs true λc r=>if r=true then do let ok <- isTrue c X.env (eval c X.env);pure (ForInStep.yield ok) else pure (ForInStep.yield r)) (TP X za y Q) X.xe s
def bT1:PTs X [] (λ_ H Q=>Q true H):=λza s y H Q I h=>wpAny_tests_nil #[H,I,h]
def bT0(h:PT X c t):PTs X [c] t:=λza s y H Q I q=>wpAny_tests_one<|h za s y H Q I q
def bx6(n:Nat)(zd:La Nat)(wi:TI)(g:TG)(tc:TT)(te:TE):TE:=λz H Q=>wi z H λJ H1=>∀Dd,H1 Dd=Z->∃W:Nat->Nat->La V->L2.St->Hp->Prop,
 (∃m,W 0 m [] (au1 n zd z)<|upd H1 Dd (.lst [])) /\
 ∀i m ys σ' H',W i m ys σ' H' ->
  (J.stop i H'/\Q (.ref Dd) H') \/
  (J.go i H'/\∀x H2,J.yld i H' x H2->g x σ' H2 λσ3 H3=>tc σ3 H3 λb H4 =>
   if b=true then te σ3 H4 λy H5=>H5 Dd=Oa (.lst ys)/\ys.length < eR/\∃m',m' < m/\W (i+1) m' (ys++[y]) σ3 (upd H5 Dd<|.lst (ys++[y]))
   else ∃m',m' < m/\W (i+1) m' ys σ3 H4)
inductive CpI (X:Cx) (tn:Nat->Heap->Prop) (fp:List fL) (W:Nat->Nat->List V->L2.St->Hp->Prop) (k:Nat) (s':fK):Prop
 | mk {i ys σ' H'} (I:Inv X [] σ' H' s') (t:tn i s'.heap) (f:∀b∈fp,H' b=Z) (w:W i k ys σ' H'):CpI X tn fp W k s'
def aV2{elt tgt iter:Expr}{ifs:La Expr}{pos:Pos}{wi:TI}{g:TG}{tc:TT}{te:TE}{RR:fJ->fL->Result->fK->Prop}(S:CompSc X N' n zd scope)(hu:ub=true->Th X)(hc:X.calm=true)
  (hi:PI X tgt iter wi) (hg:∀C s0 H0 ex,PG (E8 ub X N' scope C s0 H0 ex) tgt g) (ht:∀C s0 H0 ex,PTs (E8 ub X N' scope C s0 H0 ex) ifs tc) (he:∀C s0 H0 ex,PE (E8 ub X N' scope C s0 H0 ex) elt te)
  {za:La (fL×Obj)}{s:fK}{j:L2.St}{H:Hp}{Q:VK}(I:Inv X za j H s) (h:bx6 n zd wi g tc te j H Q)
  (hRR:∀D C r s',r=.ok .next->(∃m,s'.heap.Ns C m/\∀h',Heap.SameBut C s'.heap h'->∃H',Inv X za j H' { s' with heap:=h' }/\Q (.ref D) H') ->
   (∃s2 fp σ' H2 H',s2.heap.objs.size=C/\Inv X za j H2 s2/\(∀b∈fp,aB9 X za H2 b)/\Inv (E8 ub X N' scope s2.heap.objs.size s2 H2 fp) [] σ' H' s'/\Q (.ref D) H')->RR (.ref D) C r s') (hRE:∀D C e s',CmE X C e s'->RR (.ref D) C (.error e) s') :
  ft (fu X.prog X.w) X.A (eval iter X.env) (λx s₁=>ft (fu X.prog X.w) X.A (pyIter x) (λit s₂=>ft (fu X.prog X.w) X.A (newList []) (λacc s₃ =>
   ft (fu X.prog X.w) X.A (newFunctionEnv scope X.env.globals (P5 X.env.cells scope.names []) [] X.env.qual Z .none (Oa X.env)) (λcenv s₄ =>
    codeAny (fu X.prog X.w) X.A (.compStart (.ListComp elt [#[tgt,iter,ifs,0]] scope pos) 0 it acc { cenv with scope:=relabel scope X.env }) (RR acc cenv.locals) s₄) X.xe s₃) X.xe s₂) X.xe s₁) X.xe s:=by
 refine eJ (hi za s j H _ I h) (λv s1 h1=>eJ h1 ?_ λ_ _ z=>z) λ_ _ z=>z
 rintro itv s2 ⟨it,fp,tn,J,H2,e,I2,T,st2,f2,R⟩
 subst e;refine eK (wpAny_newFunctionEnv S.cell (by intro y hy;simp at hy) (λh₁ hns₁ hsb₁=>?_) S.kind);dsimp only at hns₁ hsb₁ |-;obtain⟨W,⟨m0,w0⟩,turn⟩:=R s2.heap.objs.size<|I2.hok.fresh (ak _)
 have lt2:∀b∈fp,b < s2.heap.objs.size:=λb hb=>by
  obtain⟨o,ho,_⟩:=T.obj _ _ st2 b hb;exact fw ho
 have I3:Inv X za j (upd H2 s2.heap.objs.size<|.lst []) { s2 with heap:=s2.heap.push { cls:=.type "list", dict:=Z,data:=.seq ([]:La fJ).toArray } } :=
  I2.laid (t':=s2.toks) (λb u e=>fv _ e) (ak _) #[aA _,[],0,.nil,fx _ rfl]
 generalize hs3:({ s2 with heap:=s2.heap.push { cls:=.type "list", dict:=Z,data:=.seq ([]:La fJ).toArray } }:fK)=s3 at I3;have es3:s3.heap=s2.heap.push { cls:=.type "list", dict:=Z,data:=.seq ([]:La fJ).toArray }:=by rw[<- hs3]
 rw[<- es3]at hns₁ hsb₁ |-;have keep3:∀b o,s3.heap.get? b=Oa o->h₁.get? b=Oa o:=λb o e=>hsb₁.extBut b o (aP<|fw e)<|fv _ e
 have lt3:∀b∈fp,b < s3.heap.objs.size:=λb hb=>by rw[es3,Heap.size_push];exact dE<|lt2 b hb
 have f3:∀b∈fp,aB9 X za (upd H2 s2.heap.objs.size<|.lst []) b:=λb hb=>#[by rw[D0 (aP<|lt2 b hb)];exact(f2 b hb).1,(f2 b hb).2]
 generalize hH3:upd H2 s2.heap.objs.size (HO.lst [])=H3 at I3 f3 w0
 have fin3:∀{σ':L2.St}{H':Hp}{pl:La (fL×Obj)},(∀b∈fp,H' b=Z)->(∀p∈pl,False)->∀b∈fp,aB9 (E8 ub X N' scope s3.heap.objs.size s3 H3 fp) pl H' b:=λ{σ' H' pl} hn hp b hb=>by
  refine#[hn b hb,aP<|lt3 b hb,λz=>?_,.inl hb,λx c e=>?_,λp hp'=>?_]
  .rcases ao.mp (I3.stkSub b z) with z|z
   .exact(f3 b hb).2.1 z
   .exact(f3 b hb).2.2.1 z
  .have hm:=PySem.mem_of_lookup e;rcases an8 hm with q|⟨q1,q2⟩
   .cases q
   .obtain⟨c',hc'⟩:=I3.ok.has x (S.free _ q1 rfl);rw[hc']at q2;have q2':c=c':=q2;subst q2';exact(f3 b hb).2.2.2.2.1 x c hc'
  .exact(hp p<|by simpa [bd7] using hp').elim
 have toks:∃tk,({ s2 with heap:=h₁,toks:=s2.toks+([]:La (Str×fJ)).length }:fK)={ s3 with heap:=h₁,toks:=tk }:=#[s2.toks,by rw[<- hs3];rfl];obtain⟨tk,htk⟩:=toks;have st4:tn 0 h₁:=T.keep 0 s2.heap h₁ st2 λb hb o e=>keep3 b o (by rw[es3];exact fv _ e)
 have I4:Inv (E8 ub X N' scope s3.heap.objs.size s3 H3 fp) [] (au1 n zd j) H3 { s3 with heap:=h₁,toks:=tk }:=bd6 S I3 f3 lt3 hns₁ keep3
 have loop:codeAny (fu X.prog X.w) X.A (.compLoop (.ListComp elt [#[tgt,iter,ifs,0]] scope pos) 0 (.ref it) (.ref s2.heap.objs.size)<|compEnvC scope (P5 X.env.cells scope.names []) s3.heap.objs.size X.env) (RR (.ref s2.heap.objs.size) s3.heap.objs.size) { s3 with heap:=h₁,toks:=tk }:=by
  refine bs4 (CpI (E8 ub X N' scope s3.heap.objs.size s3 H3 fp) tn fp W) ?_ (Ei:=(E8 ub X N' scope s3.heap.objs.size s3 H3 fp).xe) ?_ m0 #[I4,st4,λb hb=>(f3 b hb).1,w0]
  case refine_2 =>
   rintro e s6 ⟨hu',pz,σz,Hz,sz,Iz,hx⟩
   have Iz:Inv (E8 ub X N' scope s3.heap.objs.size s3 H3 fp) [] σz Hz sz:=((Iz.wish _).pins_of λp hp=>absurd hp<|by simp);obtain⟨mz,nz,_⟩:=Iz.loc;refine eJ ((hu hu').cm (aq2 I3 f3 Iz<|Heap.SameBut.refl ..) nz Iz.free (λm=>?_) (Heap.get?_none_of_le I3.sz) hx) (λ_ s7 z=>hRE _ _ _ _ z) λ_ _ z=>z
   obtain⟨_,o',e',_⟩:=I3.stack.mem m;exact absurd (fw e')<|bu _
  rintro k s5 ⟨I5,st5,fr5,w5⟩
  rename_i i ys σ5 H5;have pz:∀p∈([]:La (fL×Obj)),False:=λp hp=>by cases hp
  rcases turn i k ys σ5 H5 w5 with⟨stop,qn⟩|⟨go,step⟩
  .refine eJ (T.done (E8 ub X N' scope s3.heap.objs.size s3 H3 fp) rfl rfl rfl hc i [] s5 σ5 H5 (E8 ub X N' scope s3.heap.objs.size s3 H3 fp).xe I5 (fin3 (σ':=σ5) fr5 pz) st5 stop) ?_ λ_ _ z=>z
   rintro r s6 ⟨hr,I6⟩
   subst hr;obtain⟨m6,hn6,_⟩:=I6.loc;refine hRR _ _ _ s6 rfl #[m6,hn6,λh' sb=>#[H5,aq2 I3 f3 I6 sb,qn]] #[s3,fp,σ5,H3,H5,rfl,I3,f3,I6,qn]
  .refine eJ (T.item (E8 ub X N' scope s3.heap.objs.size s3 H3 fp) rfl rfl rfl hc i [] s5 σ5 H5 (E8 ub X N' scope s3.heap.objs.size s3 H3 fp).xe I5 (fin3 (σ':=σ5) fr5 pz) st5 go) ?_ λ_ _ z=>z
   rintro r s6 ⟨u,hr,h6⟩
   subst hr;refine eJ h6 ?_ λ_ _ z=>z
   rintro _ s7 ⟨x,H7,I7,r7,y7,st7,fr7⟩
   have I7':=I7.pinned (fin3 (σ':=σ5) fr7 pz) (T.obj _ _ st7);refine eJ (hg _ _ _ _ _ s7 σ5 H7 x u _ I7' r7<|step x H7 y7) ?_ λ_ _ z=>z
   rintro _ s8 ⟨σ8,H8,I8,q8⟩
   refine eJ (ht _ _ _ _ _ s8 σ8 H8 _ I8 q8) ?_ λ_ _ z=>z
   rintro ok s9 ⟨H9,I9,q9⟩
   have again:∀{σ':L2.St}{H':Hp}{s':fK},Inv (E8 ub X N' scope s3.heap.objs.size s3 H3 fp) ([]++ax7 fp s7.heap) σ' H' s'->Inv (E8 ub X N' scope s3.heap.objs.size s3 H3 fp) [] σ' H' s'/\tn (i+1) s'.heap/\∀b∈fp,H' b=Z:=λ{σ' H' s'} I'=>by
    refine#[I'.unpinned,T.keep _ _ _ st7 λb hb o e=>(I'.pin (b,o)<|aw _ (aw _<|u5 hb e)).1,λb hb=>?_];obtain⟨o,e,d⟩:=T.obj _ _ st7 b hb;exact(I'.pin (b,o)<|aw _ (aw _<|u5 hb e)).2.1
   cases ok with
   | false =>
    rw[if_neg aX]at q9 |-;obtain⟨m',hm,w'⟩:=q9;obtain⟨a1,a2,a3⟩:=again I9;exact#[m',hm,a1,a2,a3,w']
   | true =>
    rw[if_pos rfl]at q9 |-;refine eJ (he _ _ _ _ _ s9 σ8 H9 _ I9 q9) ?_ λ_ _ z=>z
    rintro y s10 ⟨vy,H10,I10,r10,q10,z10,m',hm,w'⟩
    refine eJ (ap2 (X:=E8 ub X N' scope s3.heap.objs.size s3 H3 fp) _ s10 σ8 H10 (.ref s2.heap.objs.size) [vy] _ _ (λv H'=>v=.non/\H'=upd H10 s2.heap.objs.size (.lst<|ys++[vy])) I10 rfl (.cons r10 .nil) #[_,ys,vy,rfl,rfl,q10,z10,rfl,rfl]) ?_ λ_ _ z=>z
    rintro _ s11 ⟨v11,H11,I11,r11,e11,e12⟩
    subst e12;obtain⟨a1,a2,a3⟩:=again I11;exact#[m',hm,a1,a2,a3,w']
 show codeAny (fu X.prog X.w) X.A _ _ ({ s2 with heap:=h₁,toks:=s2.toks+([]:La (Str×fJ)).length }:fK);rw[htk];exact codeAny_compStart_list loop<|T.self _ _ _ _ _ st4 loop
end
section
variable {X:Cx}
def tgJ(K:af)(f:D->Rho->Ob Rho):TG:=λv z H Q=>∃d y ρ' H0 Hf,f d y=Oa ρ'/\D8 Hf H/\Slots K H0 y z H Hf/\Rep K Hf d v/\∀σ',Slots K H0 ρ' σ' H Hf->Q σ' H
def JG(X:Cx)(tg:Expr)(f:D->Rho->Ob Rho):Prop:=PG X tg<|tgJ X.K f
def cP7(K:af)(f:La D->Rho->Ob Rho):TGs:=λvs z H Q=>∃ds y ρ' H0 Hf,f ds y=Oa ρ'/\D8 Hf H/\Slots K H0 y z H Hf/\Reps K Hf ds vs/\∀σ',Slots K H0 ρ' σ' H Hf->Q σ' H
def JGs(X:Cx)(tg:La Expr)(f:La D->Rho->Ob Rho):Prop:=PGs X tg<|cP7 X.K f
noncomputable def D1(i:Nat):D->Rho->Ob Rho:=λd y=>Oa<|y.set i (Oa<|.val d)
def bj8(i:Nat)(hN:X.N.Nodup)(hi:X.N[i]? = Oa x:=by rfl)(hx:Loc X.env.scope x:=by first|exact Or.inl rfl|exact Or.inr rfl)(hf:X.fn x=true\/X.env.scope.names.lookup x=Oa .local:=by first|exact .inl rfl|exact .inr rfl):JG X (.Name x pos) (D1 i):=by
 rintro za s z H v u Q I r ⟨d,y,ρ',H0,Hf,e,ss,sl,rp,k⟩
 cases e;exact bT9 hN hi hx hf za s z H v u Q I r<|k _ (sl.set rp)
noncomputable def ah7:La D->Rho->Ob Rho:=λds y=>match ds with
 | []=>Oa y
 | _=>Z
noncomputable def K8(f:D->Rho->Ob Rho)(g:La D->Rho->Ob Rho):La D->Rho->Ob Rho:=λds y=>match ds with
 | d::r=>(f d y).bind λρ'=>g r ρ'
 | []=>Z
def bY1:JGs X [] ah7:=by
 rintro za s z H vs us Q I r ⟨ds,y,ρ',H0,Hf,e,ss,sl,rp,k⟩
 cases ds with
 | nil=>cases e;exact bT8 za s z H vs us Q I r #[rp,k _ sl]
 | cons d ds=>cases e
def bH2(h1:JG X e f)(h2:JGs X es g)(hs:(fi (e::es) X.env).map (·.2)=assign e X.env::(fi es X.env).map (·.2):=by rfl):JGs X (e::es) (K8 f g):=by
 rintro za s z H vs us Q I r ⟨ds,y,ρ',H0,Hf,e,ss,sl,rp,k⟩
 cases ds with
 | nil=>cases e
 | cons d ds =>
  obtain⟨ρ1,e1,e2⟩:=xbm e;obtain⟨v,vr,rfl,q1,q2⟩:=rp;exact bB1 h1 h2 hs za s z H _ us Q I r #[v,vr,rfl,d,y,ρ1,H0,Hf,e1,ss,sl,q1,λσ' sl'=>#[ds,ρ1,ρ',H0,Hf,e2,ss,sl',q2,k]]
noncomputable def ac8(n:Nat)(g:La D->Rho->Ob Rho):D->Rho->Ob Rho:=λd y=>match d with
 | .tuple ds=>if ds.length=n then g ds y else Z
 | _=>Z
def cx0(h:JGs X es g)(hc:X.calm=true:=by rfl)(hn:(fi es X.env).length=n:=by rfl)(hst:(fi es X.env).findIdx? (·.1)=Z:=by rfl):JG X (.Tuple es k pos) (ac8 n g):=by
 rintro za s z H v u Q I r ⟨d,y,ρ',H0,Hf,e,ss,sl,rp,kk⟩
 cases d with
 | tuple ds =>
  simp only[ac8]at e;split at e
  .rename_i hl;obtain⟨a,vs,rfl,q1,q2⟩:=rp;exact co7 hc h hn hst za s z H _ u Q I r #[a,vs,rfl,F8 ss q1,by rw[q2.length,hl],ds,y,ρ',H0,Hf,e,ss,sl,q2,kk]
  .cases e
 | _=>cases e
def bN1(K:af)(J:It)(ds:La D)(Hf1:Hp):Prop:=∀(i:Nat) (H Hf:Hp),D8 Hf1 Hf->D8 Hf H->(ds.length<=i->J.stop i H)/\∀d,ds[i]? = Oa d->J.go i H/\∀x H',J.yld i H x H'->∃zc,Grow H Hf H' zc/\Rep K zc d x
def tiJ(K:af)(y:Rho)(ds:La D):TI:=λz H R=>∃H0 Hf,D8 Hf H/\Slots K H0 y z H Hf/\∀J H' zc,Grow H Hf H' zc->bN1 K J ds zc->R J H'
def JI(X:Cx)(tg iter:Expr)(f:Rho->Ob (La D)):Prop:=∀y ds,f y=Oa ds->PI X tg iter (tiJ X.K y ds)
def aY9(h:PI X tg iter t)(i:∀y H R,t' y H R->t y H R):PI X tg iter t':=λza s y H R I q=>h za s y H R I<|i y H R q
noncomputable def G2(f:DE):Rho->Ob (La D):=λy=>(f y).bind λd=>match d with
 | .list ds=>Oa ds
 | .tuple ds=>Oa ds
 | _=>Z
def bG9(h:JE X e f):JI X tg e (G2 f):=λy ds q=>by
 obtain⟨d,e1,e2⟩:=xbm q;cases d with
 | list xs =>
  cases e2;refine aY9 (bT7<|h y _ e1) λz H R #[H0,Hf,s,sl,k]=>#[H0,Hf,s,sl,λv H1 Hf1 g1 #[a,vs,h1,h2,h3]=>#[a,h1,#[vs,G9 g1.sub h2],k _ H1 Hf1 g1 ?_]]
  intro i H' zc sa sb;have q':SqL X.K H' a vs:=G9 (sa.trans sb) h2;refine#[λhi=>#[vs,q',by rw[h3.length];exact hi],λd hd=>?_];obtain⟨v,w1,w2⟩:=h3.get hd;refine#[#[vs,v,q',w1],?_]
  rintro x H'' ⟨rfl,hy⟩
  have:=hy vs q';rw[w1]at this;cases this;exact#[zc,Grow.refl sb,w2.mono sa]
 | tuple xs =>
  cases e2;refine aY9 (co6<|h y _ e1) λz H R #[H0,Hf,s,sl,k]=>#[H0,Hf,s,sl,λv H1 Hf1 g1 #[a,vs,h1,h2,h3]=>#[a,h1,#[vs,F8 g1.sub h2],k _ H1 Hf1 g1 ?_]]
  intro i H' zc sa sb;have q':SqT X.K H' a vs:=F8 (sa.trans sb) h2;refine#[λhi=>#[vs,q',by rw[h3.length];exact hi],λd hd=>?_];obtain⟨v,w1,w2⟩:=h3.get hd;refine#[#[vs,v,q',w1],?_]
  rintro x H'' ⟨rfl,hy⟩
  have:=hy vs q';rw[w1]at this;cases this;exact#[zc,Grow.refl sb,w2.mono sa]
 | _=>cases e2
noncomputable def W6(lo hi:Int):La D:=(bf (hi - lo).toNat).map λ(i:Nat)=>fB<|lo+i
def aH9{K:af}{lo hi:Int}{Hf1:Hp}:bN1 K (Itr lo (hi - lo).toNat) (W6 lo hi) Hf1:=by
 intro i H Hf sa sb;have hl:(W6 lo hi).length=(hi - lo).toNat:=by simp[W6]
 refine#[λh=>by rw[hl]at h;exact h,λd hd=>?_]
 have hi':i < (hi - lo).toNat:=by
  have:=(am.mp hd).1;rw[hl]at this;exact this
 refine#[hi',?_]
 rintro x H' ⟨e1,e2⟩
 subst e1 e2
 have:d=.int (lo+i):=by
  have:(W6 lo hi)[i]? = Oa (.int<|lo+i):=by simp[W6,hi']
  rw[hd]at this;cases this;rfl
 subst this;exact#[Hf,Grow.refl sb,rfl]
def J9(f:DE):Rho->Ob (La D):=λy=>(f y).bind λd=>match d with
 | .int j=>if -(2 ^ 62)<=j/\j < 2 ^ 62 then Oa (W6 0 j) else Z
 | _=>Z
def bp4{tg e:Expr}{f:DE}{p pos:Pos}(hg:Gl X "range")(hm:X.mg "range" = Z)(h:JE X e f)(hs:eQ [e] X.env=[(false,eval e X.env)]:=by rfl):JI X tg (.Call (.Name "range" p) [e] [] pos) (J9 f):=λy ds q=>by
 obtain⟨d,e1,e2⟩:=xbm q;split at e2
 .split at e2
  .rename_i j c;cases e2;refine aY9 (bo0 hg hm (E6 (h y _ e1) G6 hs) hs) λz H R #[H0,Hf,s,sl,k]=>#[H0,Hf,s,sl,λv H1 Hf1 g1 r=>#[j,by rw[show v=_ from r],c.1,c.2,k _ H1 Hf1 g1 ?_]]
   have:=aH9 (K:=X.K) (lo:=0) (hi:=j) (Hf1:=Hf1);rw[Int.sub_zero]at this;exact this
  .cases e2
 .cases e2
def Grow.nofr(g:Grow H Hf H' zc)(h:H a=Oa o)(n:Hf a=Z):zc a=Z:=by
 cases q:zc a with
 | none=>rfl
 | some u =>
  rcases g.new a (by rw[q];simp) with z|z
  .exact absurd n z
  .rw[h]at z;cases z
noncomputable def w8(n:Nat)(zd:La Nat)(y:Rho):Rho:=av n Z++zd.map λj=>match y[j]? with
 | some (Oa (.val d))=>Oa<|.val d
 | _=>Z
noncomputable def Z1(g:D->Rho->Ob Rho)(c:Rho->Ob Bool)(e:DE):La D->Rho->Ob (La D)
 | [],_=>Oa []
 | d::ds,z=>(g d z).bind λρ1=>(c ρ1).bind λb=>if b then(e ρ1).bind λy=>(Z1 g c e ds ρ1).map λr=>y::r else Z1 g c e ds ρ1
def D2(n:Nat)(zd:La Nat)(src:Rho->Ob (La D))(g:D->Rho->Ob Rho)(c:Rho->Ob Bool)(e:DE):Rho->Ob (La D):=λy=>(src y).bind λds=>if ds.length<=16777216 then Z1 g c e ds (w8 n zd y) else Z
def aw6(K:af)(c:Rho->Ob Bool):TT:=λz H Q=>∃y b,c y=Oa b/\∃H0 Hf,D8 Hf H/\Slots K H0 y z H Hf/\∀H' zc,Grow H Hf H' zc->Q b H'
def bf7(K:af)(e:DE):TE:=λz H Q=>∃y d,e y=Oa d/\tJ K y (λ_ v _ Hf=>Rep K Hf d v) z H Q
def JTs(X:Cx)(ifs:La Expr)(c:Rho->Ob Bool):Prop:=PTs X ifs<|aw6 X.K c
noncomputable def F6:Rho->Ob Bool:=λ_=>Oa true
def bj0:JTs X [] F6:=λza s z H Q I #[y,b,e,H0,Hf,ss,sl,k]=>by
 cases e;exact bT1 za s z H Q I<|k H Hf (Grow.refl ss)
def bX0(h:JT X e c):JTs X [e] c:=λza s z H Q I #[y,b,e,H0,Hf,ss,sl,k]=>bT0 (h y b e) za s z H Q I #[H0,Hf,ss,sl,k]
def bd9{K:af}{n:Nat}{zd:La Nat}{H0 H H1 H' Hf:Hp}{y:Rho}{z:L2.St}(sl:Slots K H0 y z H Hf):Slots K H1 (w8 n zd y) (au1 n zd z) H' Hf:=by
 have noown:∀(i:Nat) (ds:La D),(w8 n zd y)[i]?≠Oa (Oa<|.own ds):=λi ds h=>by
  unfold w8 at h;rcases bP i n with q|q
  .rw[az (by simpa using q),bh,if_pos q]at h;cases h
  .rw[aK (by simpa using q),aH]at h;cases hj:zd[i - (av n (Z:Ob B)).length]? with
   | none=>rw[hj]at h;cases h
   | some j =>
    rw[hj]at h;simp only[dZ,bg.injEq]at h;split at h<;>cases h
 refine#[by simp[w8,au1],λi b e=>?_,λi j ds es a h1=>(noown i ds h1).elim];unfold w8 at e;unfold au1;rcases bP i n with q|q
 .rw[az (by simpa using q),bh,if_pos q]at e;cases e
 .rw[aK (by simpa using q),aH]at e;rw[aK (by simpa using q),aH];simp only[bN]at e |-;cases hj:zd[i - n]? with
  | none=>rw[hj]at e;cases e
  | some j =>
   rw[hj]at e;simp only[dZ,bg.injEq]at e |-;split at e
   .rename_i d hd;cases e;obtain⟨v,h1,h2⟩:=sl.is j _ hd;exact#[v,by rw[h1];rfl,h2]
   .cases e
inductive CRd (K:af) (g:D->Rho->Option Rho) (c:Rho->Option Bool) (e:DE) (ds out:List D) (H1 Hf1:Hp) (Dd:fL) (i:Nat):Nat->List V->L2.St->Hp->Prop
 | mk {zc:Hp}{ρ':Rho}{o1 o2:List D}(hi:i<=ds.length) (gr:Grow H1 Hf1 H' zc) (h1:H' Dd=Oa (.lst ys)) (h2:zc Dd=Z) (sl:Slots K (upd H1 Dd<|.lst []) ρ' σ' H' zc) (rp:Reps K zc o1 ys) (ho:o1.length<=i) (ec:Z1 g c e (ds.drop i) ρ'=Oa o2) (eo:o1++o2=out):CRd K g c e ds out H1 Hf1 Dd i (ds.length - i) ys σ' H'
def ak5{K:af}{n:Nat}{zd:La Nat}{r:Rho}{src:Rho->Ob (La D)}{g:D->Rho->Ob Rho}{c:Rho->Ob Bool}{e:DE}{out:La D}(h:D2 n zd src g c e r=Oa out):
  ∃ds,src r=Oa ds/\∀p H Q,tJ K r (λH v H' zc=>∃a vs,v=.ref a/\H a=Z/\H' a=Oa (.lst vs)/\zc a=Z/\Reps K zc out vs) p H Q->bx6 n zd (tiJ K r ds) (tgJ K g) (aw6 K c) (bf7 K e) p H Q:=by
 obtain⟨ds,e1,e2⟩:=xbm h;split at e2
 .rename_i hz;refine#[ds,e1,λp H Q #[H0,Hf,s,sl,k]=>#[H0,Hf,s,sl,λJ H1 Hf1 g1 Y Dd hD=>?_]];refine#[CRd K g c e ds out H1 Hf1 Dd,#[ds.length,.mk (o1:=[]) (aA _) (Grow.made g1.sub hD) C9 (g1.sub.free hD) (bd9<|sl.grow g1) rfl (ak _) (by simpa using e2) rfl],?_]
  rintro i _ ys σ' H' ⟨hi,gr,hd1,hd2,sl',rp,ho,ec,eo⟩
  rename_i zc ρ' o1 o2;obtain⟨Ys,Yg⟩:=Y i H' zc gr.ext gr.sub;rcases bP i ds.length with hlt|hge
  .right
   obtain⟨go,yl⟩:=Yg ds[i] (by simp[hlt]);refine#[go,λx H2 hy=>?_];obtain⟨Hf2,g2,r2⟩:=yl x H2 hy;rw[cb hlt]at ec;obtain⟨ρ1,c1,ec⟩:=xbm ec;obtain⟨b,c2,ec⟩:=xbm ec;refine#[ds[i],ρ',ρ1,_,Hf2,c1,g2.sub,sl'.grow g2,r2,λσ3 sl3=>#[ρ1,b,c2,_,Hf2,g2.sub,sl3,λH4 Hf4 g4=>?_]];have gr4:=(gr.trans g2).trans g4;have hd4:H4 Dd=Oa (.lst ys):=g4.big _ _ (g2.big _ _ hd1);have hf4:Hf4 Dd=Z:=(g2.trans g4).nofr hd1 hd2;have rp4:=rp.mono (g2.trans g4).ext;cases b with
   | false =>
    rw[if_neg aX]at ec;refine ap4 ?_;exact#[ds.length - (i+1),by grind,hlt,gr4,hd4,hf4,sl3.grow g4,rp4,by grind,ec,eo]
   | true =>
    rw[if_pos rfl]at ec;refine an1 ?_;obtain⟨y,c3,ec⟩:=xbm ec;obtain⟨o3,c4,rfl⟩:=xmo ec;refine#[ρ1,y,c3,_,Hf4,g4.sub,sl3.grow g4,λv H5 Hf5 g5 r5=>#[g5.big _ _ hd4,?_,?_]]
    .rw[rp.length,eT];grind
    .have hf5:Hf5 Dd=Z:=g5.nofr hd4 hf4;have gr5:=gr4.trans g5;refine#[ds.length - (i+1),by grind,.mk (o1:=o1++[y]) hlt #[λb u q=>?_,λb u q=>?_,gr5.ext,gr5.new] C9 hf5 ?_ ((rp4.mono g5.ext).append #[v,[],rfl,r5,rfl]) (by simp;grind) c4<|by simp[<- eo]]
     .rw[D0 (D9 q hD)];exact gr5.big b u q
     .rw[D0 (D9 q hf5)];exact gr5.sub b u q
     .have sl5:=(sl3.grow g4).grow g5;refine#[sl5.len,λj bb q=>?_,sl5.apart];obtain⟨w,q1,q2⟩:=sl5.is j bb q;refine#[w,q1,?_];cases bb with
      | val d=>exact q2
      | exc C=>exact q2
      | opq _=>exact q2
      | own dd =>
       obtain⟨a,vs,z1,z2,z3,z4,z5⟩:=q2;have ne:a≠Dd:=λz=>by rw[z,C9]at z4;cases z4
       exact#[a,vs,z1,by rw[D0 ne];exact z2,z3,z4,z5]
  .left
   have:i=ds.length:=by grind
   subst this;rw[dN]at ec;cases ec;rw[ar]at eo;subst eo;exact#[Ys (ak _),k _ H' zc (g1.trans gr) #[Dd,ys,rfl,g1.big.free hD,hd1,hd2,rp]]
 .cases e2
end
section
variable {X:Cx}
noncomputable def an7(N N':La Str)(n:Nat)(zd:La Nat)(sc scope:Scope):Bool :=
 (match scope.kind with | .function=>true|_=>false) &&
 (scope.names.all λy=>(match y.2 with | .cell=>false | .local=>scope.names.lookup y.1==Oa .local | .free=>sc.names.lookup y.1==Oa .cell || sc.names.lookup y.1==Oa .free|_=>true)) &&
 (N'.length==n+zd.length) &&
 ((bf zd.length).all λi=>match zd[i]? with
  | some j=>(match N[j]? with|some x=>N'[n+i]? == Oa x&&scope.names.lookup x==Oa .free|none=>false)
  | none=>true)
def aG1(h:an7 N N' n zd sc scope=true)(hN:X.N=N)(hS:X.env.scope=sc):CompSc X N' n zd scope:=by
 subst hN hS;unfold an7 at h;simp only[ae,ay]at h;obtain⟨⟨⟨h1,h2⟩,h3⟩,h4⟩:=h;refine#[?_,λy hy e=>?_,λy hy e=>?_,λy hy e=>?_,by simpa using h3,λi j e=>?_]
 .cases q:scope.kind<;>rw[q]at h1<;>first|rfl|cases h1
 .have:=h2 y hy;rw[e]at this;cases this
 .have:=h2 y hy;rw[e]at this;simpa using this
 .have:=h2 y hy;rw[e]at this;simpa using this
 .have hi:i < zd.length:=(am.mp e).1;have:=h4 i (by simpa using hi);rw[e]at this;simp only at this;cases q:X.N[j]? with
  | none=>rw[q]at this;cases this
  | some x =>
   rw[q]at this;simp only[ae]at this;exact#[x,rfl,by simpa using this.1,by simpa using this.2]
def bl5(S:CompSc X N' n zd scope)(I:Inv X za z H s):closureFor scope X.env=pure (P5 X.env.cells scope.names []) :=
 ca7 λy hy e=>I.ok.has y.1<|S.free y hy e
def bY0(S:CompSc X N' n zd scope)(hu:ub=true->Th X)
  (hi:JI X tgt iter src) (hg:∀C s0 H0 ex,JG (E8 ub X N' scope C s0 H0 ex) tgt g) (ht:∀C s0 H0 ex,JTs (E8 ub X N' scope C s0 H0 ex) ifs c) (he:∀C s0 H0 ex,JE (E8 ub X N' scope C s0 H0 ex) elt e)
  (hc:X.calm=true:=by rfl) (hs:∀x,fj iter X.env x=pure x:=by intro _;rfl):JN X (.ListComp elt [#[tgt,iter,ifs,0]] scope pos) (D2 n zd src g c e):=by
 intro y out h;obtain⟨ds,e1,k⟩:=ak5 (K:=X.K) h;intro za s v H Q I t;rw[eval_ListComp];refine wpAny_comprehension_free (use:=Z) rfl hs (bl5 S I) S.kind S.loc<|aV2 (RR:=λacc C=>compPost (fu X.prog X.w) X.A X.xe Z (EP X za v Q) acc C) S hu hc (hi y ds e1) (g:=tgJ X.K g) (tc:=aw6 X.K c) (te:=bf7 X.K e) hg ht (λC s0 H0 ex za s v H Q I #[y,d,e,t]=>he C s0 H0 ex y d e za s v H Q I t) I (k v H Q t) ?_ λ_ _ _ _ z=>z
 rintro Dd C r s' hr ⟨m,hn,kk⟩ _
 subst hr;exact#[m,hn,λh' sb=>let#[H',I',q]:=kk h' sb;#[.ref Dd,H',I',rfl,q]]
def aj7(S:CompSc X N' n zd scope)(hu:ub=true->Th X)(hc:X.calm=true)
  (hN:X.N.Nodup) (hi:X.N[i]? = Oa x) (hl:X.env.scope.names.lookup x=Oa .local) (hsrc:PI X tgt iter wi) (hg:∀C s0 H0 ex,PG (E8 ub X N' scope C s0 H0 ex) tgt g) (ht:∀C s0 H0 ex,PTs (E8 ub X N' scope C s0 H0 ex) ifs tc) (he:∀C s0 H0 ex,PE (E8 ub X N' scope C s0 H0 ex) elt te)
  (hsw:swapsWith (.ListComp elt [#[tgt,iter,ifs,0]] scope pos) (Oa<|.Name x pos') spos.line X.env=pure true) (hs:∀x,fj iter X.env x=pure x) :
  PS X (.Assign [.Name x pos'] (.ListComp elt [#[tgt,iter,ifs,0]] scope pos) spos) (λEn u H=>bx6 n zd wi g tc te u H λv H'=>En.nx (u.set i<|Oa v) H'):=by
 intro za s u H En I h;rw[exec_Assign_Name_used _ _ _ _ hsw];refine eF (wpAny_standAt<|eF ?_);show ft _ X.A (do let _ <- comprehension (.ListComp elt [#[tgt,iter,ifs,0]] scope pos) scope X.env _ (newList []) false (eval iter X.env) (Oa<|assign (.Name x pos') X.env)) _ _ s
 refine eF (eJ (wpAny_comprehension_free (use:=Oa (assign (.Name x pos') X.env)) (Q:=λ_ s'=>SP X za En .next s') rfl hs (bl5 S I) S.kind S.loc
  (aV2 (RR:=λacc C=>compPost (fu X.prog X.w) X.A X.xe (Oa (assign (.Name x pos') X.env)) (λ_ s'=>SP X za En .next s') acc C) S hu hc hsrc hg ht he I h ?_ λ_ _ _ _ z=>z)) (λ_ s' hq=>eG (eG hq)) λ_ _ z=>z)
 rintro Dd C r s' hr _ ⟨s2,fp,σ',H2,H',eC,I2,f2,I',q⟩
 subst hr eC;have IX:Inv X za u H' s':=aq2 (h':=s'.heap) I2 f2 I' (Heap.SameBut.refl ..);obtain⟨mC,hnC,_⟩:=I'.loc
 have hCL:s2.heap.objs.size≠X.env.locals:=λz=>by
  have:=I2.lt;rw[<- z]at this;exact bu _ this
 show ft _ X.A (assign (.Name x pos') X.env<|.ref Dd) _ _ _;refine wpAny_assign_Name<|aE6 (v:=.ref Dd) IX hN hi (.inl hl) rfl ?_ (.inr hl)
 rintro s3 I3 ⟨a,sb,ha⟩
 have hCa:s2.heap.objs.size≠a:=λz=>by
  rcases ha with ha|ha
  .exact hCL (z.trans ha)
  .obtain⟨v,q'⟩:=I2.cell x a ha;have:=q'.lt;rw[<- z]at this;exact bu _ this
 refine#[mC,hnC.sameBut sb hCa,λh' sb'=>?_];refine#[_,H',I3.turned (t':=s3.toks) (it:=s2.heap.objs.size) (λb o hb e=>sb'.extBut b o hb e) I'.free hCL (.inr I2.sz) (λy c e z=>?_) λp hp z=>?_,q]
 .obtain⟨v,q'⟩:=I2.cell y c e;have:=q'.lt;rw[z]at this;exact bu _ this
 .have:=fw (I2.pin p hp).1;rw[z]at this;exact bu _ this
noncomputable def aa7(i:Nat)(f:Rho->Ob (La D)):DS:=λy=>(f y).map λds=>.nx<|y.set i (Oa<|.val (.list ds))
def bX4(i:Nat)(hN:X.N.Nodup)(S:CompSc X N' n zd scope)(hu:ub=true->Th X)
  (hi:JI X tgt iter src) (hg:∀C s0 H0 ex,JG (E8 ub X N' scope C s0 H0 ex) tgt g) (ht:∀C s0 H0 ex,JTs (E8 ub X N' scope C s0 H0 ex) ifs c) (he:∀C s0 H0 ex,JE (E8 ub X N' scope C s0 H0 ex) elt e)
  (hi2:X.N[i]? = Oa x:=by rfl) (hl:X.env.scope.names.lookup x=Oa .local:=by rfl) (hsw:swapsWith (.ListComp elt [#[tgt,iter,ifs,0]] scope pos) (Oa<|.Name x pos') spos.line X.env=pure true:=by rfl)
  (hc:X.calm=true:=by rfl) (hs:∀x,fj iter X.env x=pure x:=by intro _;rfl):JS X (.Assign [.Name x pos'] (.ListComp elt [#[tgt,iter,ifs,0]] scope pos) spos) (aa7 i<|D2 n zd src g c e):=λy fl q H0 Hf0=>by
 obtain⟨out,e1,e2⟩:=xmo q;subst e2;obtain⟨ds,e3,k⟩:=ak5 (K:=X.K) e1;refine G0 (aj7 S hu hc hN hi2 hl (hi y ds e3) (g:=tgJ X.K g) (tc:=aw6 X.K c) (te:=bf7 X.K e) hg ht (λC s0 H0 ex za s z H Q I #[y,d,e,t]=>he C s0 H0 ex y d e za s z H Q I t) hsw hs) λEn z H #[Hf,a,ee]=>k z H _ #[H0,Hf,a.gr.sub,a.sl,?_]
 rintro v H' zc gg ⟨p,vs,z1,z2,z3,z4,z5⟩
 subst z1;have g2:=gg.freeze z3 z4 z2;exact ee _ H' _ #[a.gr.trans g2,(a.sl.grow g2).set #[p,vs,rfl,SqL.of C9,z5.mono<|G4 z4]] g2.ext
def cv6{kt k2 pt2}(hN:X.N.Nodup)(ha:JA X [a,b] f)(hw:swappedStores [.Tuple [.Name x px,.Name y py] kt pt] (.Tuple [a,b] k2 pt2) X.env=pure (Oa [x,y]))(hij:i≠j)
  (hi:X.N[i]? = Oa x:=by rfl) (hj:X.N[j]? = Oa y:=by rfl) (hx:X.env.scope.names.lookup x=Oa .local:=by rfl) (hy:X.env.scope.names.lookup y=Oa .local:=by rfl) (hc:X.calm=true:=by rfl)
  (hs:swapsWithSole [.Tuple [.Name x px,.Name y py] kt pt] (.Tuple [a,b] k2 pt2) pos.line X.env=pure false:=by rfl):JS X (.Assign [.Tuple [.Name x px,.Name y py] kt pt] (.Tuple [a,b] k2 pt2) pos) (bz7 i j f):=λz fl q H0 Hf0=>by
 obtain⟨ds,e1,e2⟩:=xbm q;split at e2
 .cases e2;refine G0 (co0 hc hN hi hj hij hx hy (λpos za s u H Q I t=>ha.run z _ e1 pos za s u H Q I t) hw hs) λEn u H #[Hf,at',e]=>#[H0,Hf,at'.gr.sub,at'.sl,?_]
  rintro vs H' zc gg ⟨v,r,rfl,r1,w,r',rfl,r2,r3⟩
  cases r3;exact#[v,w,rfl,e _ H' zc #[at'.gr.trans gg,((at'.sl.grow gg).set r1).set r2] gg.ext]
 .cases e2
noncomputable def aY1(f:DE)(g:D->Rho->Ob Rho):DS:=λy=>(f y).bind λd=>(g d y).map Fl.nx
def bF9(he:JE X e f)(hg:JG X tg g)(hs:swapsWithSole [tg] e pos.line X.env=pure false:=by rfl)(hw:swappedStores [tg] e X.env=pure Z:=by rfl)
  (h1:(fi [tg] X.env).map (·.2)=[assign tg X.env]:=by rfl):JS X (.Assign [tg] e pos) (aY1 f g):=λy fl q H0 Hf0=>by
 obtain⟨d,e1,e2⟩:=xbm q;obtain⟨ρ',e3,e4⟩:=xmo e2;subst e4;exact G0 (co3 (he y d e1) hg hs hw h1) λEn z H #[Hf,a,ee]=>#[H0,Hf,a.gr.sub,a.sl,λv H' zc gg r=>#[d,y,ρ',H0,zc,e3,gg.sub,a.sl.grow gg,r,λσ' sl'=>ee σ' H' zc #[a.gr.trans gg,sl'] gg.ext]]
noncomputable def O1(i:Nat)(f:Rho->Ob (La D)):DS:=λy=>(f y).map λds=>.nx<|y.set i (Oa<|.own ds)
def Slots.setOwn{K:af}{H0 H H' Hf zc:Hp}{y:Rho}{w:L2.St}{i:Nat}{ds:La D}{a:fL}{vs:La V}(s:Slots K H0 y w H Hf)(g:Grow H Hf H' zc)(n0:H0 a=Z)(n:H a=Z)(h:H' a=Oa (.lst vs))(nf:zc a=Z)(r:Reps K zc ds vs):
  Slots K H0 (y.set i<|Oa (.own ds)) (w.set i<|Oa (.ref a)) H' zc:=by
 have s':=s.grow g
 have old:∀(j:Nat) (es:La D),i≠j->y[j]? = Oa (Oa<|.own es)->w[j]?≠Oa (Oa<|.ref a):=λj es hj e z=>by
  obtain⟨v,h1,b,us,e1,h2,_⟩:=s.is j _ e;rw[z]at h1;cases h1;cases e1;rw[n]at h2;cases h2
 refine#[by simp[s.len],λj b e=>?_,λj k ds1 es b h1 h2 h3 h4=>?_]
 .by_cases q:i=j
  .subst q;have hi:i < y.length:=by simpa using (am.mp e).1
   have hi':i < w.length:=by rw[<- s.len];exact hi
   rw[aD hi]at e;cases e;exact#[_,aD hi',a,vs,rfl,h,nf,n0,r]
  .rw[ax q]at e;obtain⟨u,h1,h2⟩:=s'.is j b e;exact#[u,by rw[ax q];exact h1,h2]
 .by_cases qj:i=j
  .by_cases qk:i=k
   .rw[<- qj,<- qk]
   .subst qj;have hi:i < y.length:=by simpa using (am.mp h1).1
    rw[aD (by rw[<- s.len];exact hi)]at h3;rw[ax qk]at h2 h4;cases h3;exact(old k es qk h2 h4).elim
  .rw[ax qj]at h1 h3;by_cases qk:i=k
   .subst qk;have hi:i < y.length:=by simpa using (am.mp h2).1
    rw[aD (by rw[<- s.len];exact hi)]at h4;cases h4;exact(old j ds1 qj h1 h3).elim
   .rw[ax qk]at h2 h4;exact s.apart j k ds1 es b h1 h2 h3 h4
def cv7(i:Nat)(hN:X.N.Nodup)(h:JN X e f)(hi:X.N[i]? = Oa x:=by rfl)(hx:Loc X.env.scope x:=by first|exact Or.inl rfl|exact Or.inr rfl)
  (hs:swapsWith e (Oa<|.Name x pos') pos.line X.env=pure false:=by rfl) (hf:X.fn x=true\/X.env.scope.names.lookup x=Oa .local:=by first|exact .inl rfl|exact .inr rfl):JS X (.Assign [.Name x pos'] e pos) (O1 i f):=λy fl q H0 Hf0=>by
 obtain⟨ds,e1,e2⟩:=xmo q;subst e2;refine G0 (ao8 hN hi hx (h y ds e1) hs hf) λEn z H #[Hf,a,e]=>#[H0,Hf,a.gr.sub,a.sl,?_]
 rintro v H' zc g ⟨p,vs,z1,z2,z3,z4,z5⟩
 subst z1;exact e _ H' zc #[a.gr.trans g,a.sl.setOwn g (a.gr.big.free z2) z2 z3 z4 z5] g.ext
noncomputable def N5(i:Nat)(f:DE):DS:=λy=>match y[i]? with
 | some (Oa (.own ds))=>if ds.length < 16777216 then(f y).map λd=>.nx (y.set i<|Oa (.own<|ds++[d])) else Z
 | _=>Z
def cw1(i:Nat)(h:JE X e f)(hN:X.N[i]? = Oa x:=by rfl)(hv:Vis X.env.scope x:=by first|exact Or.inl rfl|exact Or.inr (Or.inl rfl)|exact Or.inr<|Or.inr rfl)(hd:(x==("__debug__":Str))=false:=by decide)
  (hcd:(x==("__classdict__":Str))=false:=by decide) (hbase:fq (.Name x p) "append" X.env (eval (.Name x p) X.env)=eval (.Name x p) X.env:=by rfl)
  (hfew:((backTo cpos (eQ [e] X.env)).all (λx=>!x.1)&&(backToKw cpos (keywordEach [] X.env)).all (λx=>x.1.isSome)
   && decide (([e]:La Expr).length+([]:La fh).length+(if([]:La fh).isEmpty then 0 else 1) < 30))=true:=by rfl)
  (hline:(apos.endLine==cpos.line)=true:=by rfl) (hs:eQ [e] X.env=[(false,eval e X.env)]:=by rfl) (hsw:swapsWith (.Call (.Attribute (.Name x p) "append" apos) [e] [] cpos) Z pos.line X.env=pure false:=by rfl) :
  JS X (.Expr (.Call (.Attribute (.Name x p) "append" apos) [e] [] cpos) pos) (N5 i f):=λm fl q H0 Hf0=>by
 unfold N5 at q;split at q
 .rename_i ds eo;split at q
  .rename_i hz;obtain⟨d,e1,e2⟩:=xmo q;subst e2;refine G0 (am1 (ax8 PySem.F.plainAttrs_list PySem.F.slot_list_append PySem.F.type_list_append ap2 (P4 hN hv hd hcd) (E6 (h m d e1) G6 hs) hbase hfew hline hs) hsw) λEn n H y=>?_
   obtain⟨Hf,a,ee⟩:=y;obtain⟨v,h1,b,vs,rfl,h2,h3,h4,h5⟩:=a.sl.is i _ eo;refine#[_,h1,.inl #[rfl,vs,SqL.of h2],H0,Hf,a.gr.sub,a.sl,λw H' zc gg r=>?_];have hb:H' b=Oa (.lst vs):=gg.big _ _ h2;have hfb:zc b=Z:=gg.nofr h2 h3;have g2:=a.gr.trans gg;have sl2:=a.sl.grow gg;refine#[b,vs,w,rfl,rfl,hb,by rw[h5.length,eT];exact hz,ee _ _ zc #[#[λc u z=>?_,λc u z=>?_,g2.ext,g2.new],?_] gg.ext]
   .rw[D0 (D9 z h4)];exact g2.big c u z
   .rw[D0 (D9 z hfb)];exact g2.sub c u z
   .refine#[by simpa using sl2.len,λj bb z=>?_,λj k ds1 es c q1 q2 q3 q4=>?_]
    .by_cases qj:i=j
     .subst qj;have hi:i < m.length:=(am.mp eo).1;rw[aD hi]at z;cases z;exact#[_,h1,b,vs++[w],rfl,C9,hfb,h4,(h5.mono gg.ext).append #[w,[],rfl,r,rfl]]
     .rw[ax qj]at z;obtain⟨u,z1,z2⟩:=sl2.is j bb z;refine#[u,z1,?_];cases bb with
      | val d=>exact z2
      | exc C=>exact z2
      | opq _=>exact z2
      | own dd =>
       obtain⟨a',vs',y1,y2,y3,y4,y5⟩:=z2
       have ne:a'≠b:=λzz=>by
        subst zz y1;exact qj<|a.sl.apart i j ds dd a' eo z h1 z1
       exact#[a',vs',y1,by rw[D0 ne];exact y2,y3,y4,y5]
    .have q1':∃dd,m[j]? = Oa (Oa<|.own dd):=by
      by_cases qj:i=j
      .subst qj;exact#[ds,eo]
      .rw[ax qj]at q1;exact#[_,q1]
     have q2':∃dd,m[k]? = Oa (Oa<|.own dd):=by
      by_cases qj:i=k
      .subst qj;exact#[ds,eo]
      .rw[ax qj]at q2;exact#[_,q2]
     obtain⟨d1,q1'⟩:=q1';obtain⟨d2,q2'⟩:=q2';exact a.sl.apart j k d1 d2 c q1' q2' q3 q4
  .cases q
 .cases q
noncomputable def frz(i:Nat)(y:Rho):Rho:=match y[i]? with
 | some (Oa (.own ds))=>y.set i<|Oa (.val<|.list ds)
 | _=>y
def bK2{K:af}{H0 Hf0 H Hf:Hp}{y:Rho}{w:L2.St}(i:Nat)(a:At K H0 Hf0 y w H Hf):∃zc,D8 Hf zc/\At K H0 Hf0 (frz i y) w H zc:=by
 unfold frz;split
 .rename_i ds eo;obtain⟨v,h1,b,vs,rfl,h2,h3,h4,h5⟩:=a.sl.is i _ eo;have g:Grow H0 Hf0 H (upd Hf b<|.lst vs):=a.gr.freeze h2 h3 h4;refine#[upd Hf b<|.lst vs,G4 h3,g,#[by simpa using a.sl.len,λj bb z=>?_,λj k ds1 es c q1 q2 q3 q4=>?_]]
  .have hi:i < y.length:=(am.mp eo).1;by_cases qj:i=j
   .subst qj;rw[aD hi]at z;cases z;exact#[_,h1,b,vs,rfl,SqL.of C9,h5.mono (G4 h3)]
   .rw[ax qj]at z;obtain⟨u,z1,z2⟩:=a.sl.is j bb z;refine#[u,z1,?_];cases bb with
    | val d=>exact Rep.mono (G4 h3) z2
    | opq _=>exact z2
    | exc C =>
     obtain⟨a',o',C',y1,y2,y3⟩:=z2;exact#[a',o',C',y1,G4 h3 _ _ y2,y3]
    | own dd =>
     obtain⟨a',vs',y1,y2,y3,y4,y5⟩:=z2
     have ne:a'≠b:=λzz=>by
      subst zz y1;exact qj<|a.sl.apart i j ds dd a' eo z h1 z1
     exact#[a',vs',y1,y2,by rw[D0 ne];exact y3,y4,y5.mono<|G4 h3]
  .have hi:i < y.length:=(am.mp eo).1;have qj:i≠j:=λz=>by subst z;rw[aD hi]at q1;cases q1
   have qk:i≠k:=λz=>by subst z;rw[aD hi]at q2;cases q2
   rw[ax qj]at q1;rw[ax qk]at q2;exact a.sl.apart j k ds1 es c q1 q2 q3 q4
 .exact#[Hf,D8.refl _,a]
def at3(i:Nat)(f:DS):DS:=λy=>f<|frz i y
def cv8(i:Nat){st:Stmt}{f:DS}(h:JS X st f):JS X st (at3 i f):=λy fl q H0 Hf0=>G0 (h (frz i y) fl q H0 Hf0) λEn z H #[Hf,a,e]=>by
 obtain⟨zc,s,a'⟩:=bK2 i a;exact#[zc,a',Fl.ends_mono e s]
def cE3(K:af)(H0 Hf0:Hp)(f:DS):TS:=λEn z H=>∃y fl,f y=Oa fl/\tJS K H0 Hf0 y fl En z H
def bh1(h:JSs X sts f):PSs X sts (cE3 X.K H0 Hf0 f):=λza s z H En I #[y,fl,e,t]=>h y fl e H0 Hf0 za s z H En I t
def cn8(h:JT X e c):PT X e (aw6 X.K c):=λza s z H Q I #[y,b,e,t]=>h y b e za s z H Q I t
noncomputable def N7(t:Rho->Ob Bool)(f:DS):Nat->DS
 | 0=>λ_=>Z
 | n+1=>λy=>(t y).bind λc=>if c then(f y).bind λfl=>match fl with
   | .nx ρ'=>N7 t f n ρ'
   | .ct ρ'=>N7 t f n ρ'
   | .bk ρ'=>Oa<|.nx ρ'
   | .rt d=>Oa<|.rt d
  else Oa (.nx y)
theorem ak3:∀{n:Nat}{y:Rho}{fl:Fl},N7 t f n y=Oa fl->N7 t f (n+1) y=Oa fl
 | 0,_,_,h=>by cases h
 | n+1,y,fl,h=>by
  obtain⟨c,e1,h⟩:=xbm h;show(t y).bind _=_;rw[e1];cases c with
  | false=>exact h
  | true =>
   obtain⟨fl1,e2,h⟩:=xbm h;show(f y).bind _=_;rw[e2];cases fl1 with
   | nx ρ'=>exact ak3 (n:=n) h
   | ct ρ'=>exact ak3 (n:=n) h
   | bk ρ'=>exact h
   | rt d=>exact h
def aT3(h:N7 t f n y=Oa fl)(l:n<=m):N7 t f m y=Oa fl:=by
 induction l with
 | refl=>exact h
 | step _ ih=>exact ak3 ih
open Classical in
def Y1(t:Rho->Ob Bool)(f:DS):DS:=λy=>if h:∃fl n,N7 t f n y=Oa fl then Oa h.choose else Z
def k9(h:N7 t f n y=Oa fl):Y1 t f y=Oa fl:=by
 have hx:∃fl n,N7 t f n y=Oa fl:=#[fl,n,h];unfold Y1;rw[dif_pos hx];obtain⟨m,hm⟩:=hx.choose_spec;have h1:=aT3 h (cu n m);have h2:=aT3 hm (cj n m);rw[h1]at h2;exact h2.symm
def bo3(h:Y1 t f y=Oa fl):∃n,N7 t f n y=Oa fl:=by
 unfold Y1 at h;split at h
 .rename_i hx;cases h;exact hx.choose_spec
 .cases h
def bF7(hc:JT X c t)(hb:JSs X body f)(hp:PassesOwn (fu X.prog X.w) X.A X.env X.xe:=by exact PassesOwn.never):JS X (.While c body [] pos) (Y1 t f):=λv fl q H0 Hf0=>by
 obtain⟨n,hn⟩:=bo3 q;refine G0 (aR1 hp (cn8 hc)<|bh1 (H0:=H0) (Hf0:=Hf0) hb) λEn u H y=>?_
 obtain⟨Hf,a,e⟩:=y;refine#[λm u H=>∃zc ρ',At X.K H0 Hf0 ρ' u H zc/\D8 Hf zc/\N7 t f m ρ'=Oa fl,#[n,Hf,v,a,D8.refl _,hn],?_]
 rintro m σ' H' ⟨zc,ρ',a',s',hm⟩
 cases m with
 | zero=>cases hm
 | succ m =>
  obtain⟨b,e1,hm⟩:=xbm hm;refine#[ρ',b,e1,H0,zc,a'.gr.sub,a'.sl,λH2 Hf2 g2=>?_];have a2:=a'.grow g2;have s2:=s'.trans g2.ext;cases b with
  | false =>
   have:fl=.nx ρ':=by simpa using hm.symm
   subst this;exact ap4<|e σ' H2 Hf2 a2 s2
  | true =>
   obtain⟨fl1,e2,hm⟩:=xbm (show(f ρ').bind _=Oa fl from hm);refine an1 #[λσ3 H3=>∃m',m' < m+1/\∃zc ρ',At X.K H0 Hf0 ρ' σ3 H3 zc/\D8 Hf zc/\N7 t f m' ρ'=Oa fl,λσ3 H3 z=>z,ρ',fl1,e2,Hf2,a2,?_];cases fl1 with
   | nx ρ3=>exact λσ3 H3 Hf3 a3 s3=>#[m,ci _,Hf3,ρ3,a3,s2.trans s3,hm]
   | ct ρ3=>exact λσ3 H3 Hf3 a3 s3=>#[m,ci _,Hf3,ρ3,a3,s2.trans s3,hm]
   | bk ρ3 =>
    cases hm;exact λσ3 H3 Hf3 a3 s3=>e σ3 H3 Hf3 a3<|s2.trans s3
   | rt d =>
    cases hm;exact e
noncomputable def m7(g:D->Rho->Ob Rho)(f:DS):La D->DS
 | []=>λy=>Oa<|.nx y
 | d::ds=>λy=>(g d y).bind λρ1=>(f ρ1).bind λfl=>match fl with
   | .nx ρ'=>m7 g f ds ρ'
   | .ct ρ'=>m7 g f ds ρ'
   | .bk ρ'=>Oa<|.nx ρ'
   | .rt d=>Oa<|.rt d
def ab1(src:Rho->Ob (La D))(g:D->Rho->Ob Rho)(f:DS):DS:=λy=>(src y).bind λds=>m7 g f ds y
def cv9(hi:JI X tg iter src)(hg:JG X tg g)(hb:JSs X body f)(hp:PassesOwn (fu X.prog X.w) X.A X.env X.xe:=by exact PassesOwn.never)(hc:X.calm=true:=by rfl)
  (hs:∀x,fj iter X.env x=pure x:=by intro _;rfl):JS X (.For tg iter body [] pos) (ab1 src g f):=λy fl q H0 Hf0=>by
 obtain⟨ds,e1,e2⟩:=xbm q;refine G0 (co1 hp hc (hi y ds e1) hg (bh1 (H0:=H0) (Hf0:=Hf0) hb) hs) λEn z H #[Hf,a,e]=>#[H0,Hf,a.gr.sub,a.sl,λJ H1 Hf1 g1 Y=>?_]
 refine#[λi m z H=>m=ds.length - i/\i<=ds.length/\∃zc ρ',At X.K H0 Hf0 ρ' z H zc/\D8 Hf1 zc/\m7 g f (ds.drop i) ρ'=Oa fl,#[ds.length,by simp,aA _,Hf1,y,a.grow g1,D8.refl _,by simpa using e2],?_]
 rintro i m σ' H' ⟨rfl,hi,zc,ρ',a',s',hm⟩
 obtain⟨Ys,Yg⟩:=Y i H' zc s' a'.gr.sub;rcases bP i ds.length with hlt|hge
 .right
  obtain⟨go,yl⟩:=Yg ds[i] (by simp[hlt]);rw[cb hlt]at hm;obtain⟨ρ1,c1,hm⟩:=xbm hm;obtain⟨fl1,c2,hm⟩:=xbm hm;refine#[go,λσ3 H3=>∃m',m' < ds.length - i/\m'=ds.length - (i+1)/\i+1<=ds.length/\∃zc ρ',At X.K H0 Hf0 ρ' σ3 H3 zc/\D8 Hf1 zc/\m7 g f (ds.drop<|i+1) ρ'=Oa fl,λσ3 H3 #[m',z1,z2]=>#[m',z1,z2],λx H2 hy=>?_];obtain⟨Hf2,g2,r2⟩:=yl x H2 hy;have a2:=a'.grow g2;refine#[ds[i],ρ',ρ1,H0,Hf2,c1,g2.sub,a2.sl,r2,λσ3 sl3=>#[ρ1,fl1,c2,Hf2,#[a2.gr,sl3],?_]];have s2:=s'.trans g2.ext;cases fl1 with
  | nx ρ3=>exact λσ3 H3 Hf3 a3 s3=>#[_,by omega,rfl,hlt,Hf3,ρ3,a3,s2.trans s3,hm]
  | ct ρ3=>exact λσ3 H3 Hf3 a3 s3=>#[_,by omega,rfl,hlt,Hf3,ρ3,a3,s2.trans s3,hm]
  | bk ρ3 =>
   cases hm;exact λσ3 H3 Hf3 a3 s3=>e σ3 H3 Hf3 a3<|g1.ext.trans (s2.trans s3)
  | rt d =>
   cases hm;exact e
 .left
  have:i=ds.length:=by omega
  subst this;rw[dN]at hm;cases hm;exact#[Ys (ak _),e σ' H' zc a' (g1.ext.trans s')]
def bX2:JS X (.Pass pos) D6:=λy fl q H0 Hf0=>by
 cases q;exact G0 bT3 λEn z H #[Hf,a,e]=>e z H Hf a<|D8.refl _
end
noncomputable def T7(n:Nat)(ds:La D):Rho:=ds.map (λd=>Oa<|B.val d)++av (n - ds.length) Z
def E2(g:DS)(n:Nat):La D->Ob D:=λds=>(g<|T7 n ds).bind λfl=>match fl with
 | .rt d=>Oa d
 | .nx _=>Oa .none
 | _=>Z
def ar3{K:af}{H0 H Hf:Hp}{N:La Str}{ds:La D}{vs:La V}(r:Reps K Hf ds vs):Slots K H0 (T7 N.length ds) (L2.start N vs) H Hf:=by
 have hl:=r.length
 have noown:∀(i:Nat) (b:B),(T7 N.length ds)[i]? = Oa (Oa b)->∃d,ds[i]? = Oa d/\b=.val d:=λi b h=>by
  unfold T7 at h;rcases bP i ds.length with q|q
  .rw[az (by simpa using q),aH]at h;rw[aL q]at h |-;simp only[dZ,bg.injEq]at h;exact#[ds[i],rfl,h.symm]
  .rw[aK (by simpa using q),bh]at h;split at h<;>cases h
 refine#[by simp[T7,L2.start,hl],λi b e=>?_,λi j d1 d2 a e1 _ _ _=>?_]
 .obtain⟨d,h1,h2⟩:=noown i b e;subst h2;obtain⟨v,h3,h4⟩:=r.get h1;refine#[v,?_,h4];have hi:i < vs.length:=(am.mp h3).1;unfold L2.start;rw[az (by simpa using hi),aH,h3];rfl
 .obtain⟨d,_,h2⟩:=noown i _ e1;cases h2
def bk7{P:eX}{w:World}{K:af}{mg:Str->Ob fJ}{base:Heap}{x qual:Str}{st:Stmt}{f:fL}{fd:eZ}{N ps:La Str}{k:Nat}{g:DS}(F:Fun K x qual st f fd)(S:FnScope N ps (B8 st))
  (hb:∀(cdv:fJ) (A:eY) (outer:La Env) (s:fK) (H:Hp) (E:XK),Room k (A.deeper<|envOfC qual (B8 st) s.heap.objs.size f cdv)->JSs (cxY b P w K mg base N qual (B8 st) f cdv A outer s H E) (G8 st) g) :
  FnOk P w K mg base (CXb K P w b) (k+1) f fd ps (spF K ps.length<|E2 g N.length):=by
 refine av8 F S (λvs H Q E h=>h.1) ?_
 rintro cdv A outer s H vs Q E hr ⟨hlen,Hf,ds,d,ss,rp,e,kk⟩
 obtain⟨fl,e1,e2⟩:=xbm e;refine#[_,hb cdv A outer s H E hr _ fl e1 H Hf,Hf,#[Grow.refl ss,ar3 rp],?_];cases fl with
 | rt d'=>cases e2;exact λv H' zc g r=>kk v H' zc g r
 | nx y=>cases e2;exact λσ' H' zc a _=>kk _ H' zc a.gr rfl
 | bk y=>cases e2
 | ct y=>cases e2
section
variable {X:Cx}
noncomputable def bZ3(f g:Rho->Ob (Bool×La D)):Rho->Ob (La D):=λz=>(f z).bind λp=>(g z).bind λq=>Oa<|(p.2.zip q.2).map λ(x,y)=>PyData.tuple [x,y]
end
def ar7:fillsNumberSlot (.type "tuple") "mul" = pure false:=PySem.fillsNumberSlot_seq (id := "tuple.__mul__") (r:=Oa<|.builtin "tuple.__rmul__") F.slot_tuple_mul.lookup ∅ F.slot_tuple_rmul.lookup ∅
def aE8:seqRepeat? (.type "tuple")=pure (Oa<|.builtin "tuple.__mul__"):=by
 unfold seqRepeat?;rw[PySem.seqSlot_of (T := "tuple") (name := "__mul__") (id := "tuple.__mul__") F.slot_tuple_mul.lookup ∅,PySem.seqSlot_of (T := "tuple") (name := "__rmul__") (id := "tuple.__rmul__") F.slot_tuple_rmul.lookup ∅];rfl
def al7(a:Int)(t:Tok)(l:fL)(items:Array fJ)(n:Nat)(dd:Ob fL)(sl:Array (Ob fJ)):
  Meets (Builtin.«int.__rmul__» #[[.int a t,.ref l],[]]) (λ_ R s=>s.heap.get? l=Oa #[.type "tuple", dd,.seq items n,sl]/\R (.ok<|.ret Value.notImplemented) s) :=
 .of_wp λprog w A R s h=>by obtain⟨hp,g,d,tk,os⟩:=s;obtain⟨hl,h⟩:=h;wp_walk;exact#[_,rfl,h]
def aY3(items:Array fJ)(k:Nat):dt (λx1 x2=>x1++x2) (List.toArray []) (av k items)=(av k items.toList).flatten.toArray:=by
 have:=aF9 items.toList k [];rw[List.nil_append]at this;simpa using this
def aS4(l:fL)(items:Array fJ)(n:Nat)(dd:Ob fL)(sl:Array (Ob fJ))(x:Int)(u:Tok)(h2:2<=x)(h3:x < 1000000)(he:items.isEmpty=false)(hz:items.size*x.toNat<=eR):
  Meets (Builtin.«tuple.__mul__» #[[.ref l,.int x u],[]]) (λ_ R s=>s.heap.get? l=Oa #[.type "tuple", dd,.seq items n,sl]/\R (.ok<|.ret (fF s.heap.objs.size)) { s with heap:=s.heap.push { cls:=Value.type "tuple", data:=Data.seq (dt (λx1 x2=>x1++x2) (List.toArray []) (av x.toNat items)) } }) :=
 .of_wp λprog w A R s h=>by
  obtain⟨hp,g,d,tk,os⟩:=s;obtain⟨hl,h⟩:=h
  have hm:(items.size:Int)*x<=16777216:=by
   have e:((items.size*x.toNat:Nat):Int)=(items.size:Int)*x:=by rw[dk,Int.toNat_of_nonneg (by omega)]
   have:items.size*x.toNat<=16777216:=by rw[<- eT];exact hz
   omega
  wp_walk
  refine wpAny_ite_false (by simp;omega) ?_;have ht:Heap.IsTuple (Shared.heap #[hp,g,d,tk,os]) l items:=#[_,hl,rfl,n,rfl];refine eF (tupleItemsOf_ ht ?_);refine wpAny_ite_false (by rw[he];simp;omega) ?_;show ft _ _ (if(decide (x<=0) || items.isEmpty)=true then _ else _) _ _ _;refine wpAny_ite_false (by rw[he];simp;omega) ?_;show ft _ _ (if(items.size:Int)*x > (2 ^ 63 - 1) / 8 then _ else _) _ _ _;rw[if_neg (by omega)];show ft _ _ (if Builtin.Tuple.tupleTooMany ((items.size:Int)*x)=true then _ else _) _ _ _;rw[if_neg (by unfold Builtin.Tuple.tupleTooMany;rw[eT];simp;omega)];refine eF (m:=Builtin.Tuple.tupleExact _) (eK (eG #[_,rfl,h]) ?_);show(dt (λx1 x2=>x1++x2) (List.toArray []) (av x.toNat items)).size<=eR;rw[aY3 items x.toNat,aq,aK7,cL,Nat.mul_comm];exact hz
section
variable {X:Cx}
def bU4:OpR X (ff .Mult) (λx y H Q=>∃l k xs,x=.ref l/\y=.int k/\SqT X.K H l xs/\xs≠[]/\2<=k/\k < 1000000/\xs.length*k.toNat<=eR/\∀p,H p=Z->Q (.ref p) (upd H p<|.tup (av k.toNat xs).flatten)):=by
 intro za s z H x y v u Q I rx ry h;obtain⟨l,k,xs,rfl,rfl,hq,hx,h2,h3,hz,q⟩:=h;cases rx;obtain⟨t,rfl⟩:=ry;obtain⟨its,r,p1,_⟩:=I.tuple hq;obtain⟨⟨cls,dd,data,sl⟩,ho,hc,n,hd⟩:=id p1;simp only at hc hd;subst hc hd;have hl:=r.length
 have he:its.toArray.isEmpty=false:=by
  cases its with
  | nil=>exact absurd (r.nil_iff.mp rfl) hx
  | cons a b=>rfl
 refine wpAny_binaryOp_repeat_ref (T := "tuple") (U := "int") (by decide) #[_,ho,rfl] (λs'=>typeIs_int s' k t) ar7 F.fills_int_mul F.slot_int_rmul aE8 F.slot_int_index.lookup
  (fk F.slot_int_rmul (typeIs_int s k t) F.entry_int_rmul (F.args_int_rmul_2 _ _) (al7 k t l its.toArray n dd sl) #[ho,rfl,#[_,ho,rfl],
   fk F.slot_tuple_mul #[_,ho,rfl] F.entry_tuple_mul (F.args_tuple_mul_2 _ _) (aS4 l its.toArray n dd sl k t h2 h3 he (by rw[aq,<- hl];exact hz)) #[ho,?_]])
 rw[aY3];refine#[.ref _,_,I.laid (t':=s.toks) (o:=.tup (av k.toNat xs).flatten) (λb ob q=>fv _ q) (ak _) #[?_,_,r.rep k.toNat,aD7.new _ _],rfl,q _<|I.hok.fresh (ak _)];rw[aK7,Nat.mul_comm];exact hz
def b0(x y:D):Ob D:=match x,y with
 | .int i,.int j=>if J0 i/\J0 j then Oa (.int<|i*j) else Z
 | .tuple xs,.int k=>if xs.isEmpty=false/\2<=k/\k < 1000000/\xs.length*k.toNat<=16777216 then Oa (.tuple (av k.toNat xs).flatten) else Z
 | _,_=>Z
def aK3:OpD X (ff .Mult) b0:=λx y z h=>by
 unfold b0 at h;split at h
 .exact cq8 _ _ z (by unfold cr8;exact h)
 .split at h
  .rename_i xs k c;cases h;refine OpR.imp bU4 λvx vy H Q w=>?_
   obtain⟨Hf,s,r1,r2,kk⟩:=w;obtain⟨a,vs,rfl,h2,h3⟩:=r1;refine#[a,k,vs,rfl,r2,F8 s h2,?_,c.2.1,c.2.2.1,by rw[h3.length,eT];exact c.2.2.2,λp hp=>?_]
   .intro e;subst e;have:=h3.length;cases xs with
    | nil=>exact absurd c.1 (by simp)
    | cons a b=>simp at this
   .exact kk _ _ _ (Grow.laid s hp) #[p,_,rfl,SqT.of C9,(h3.flatten k.toNat).mono<|G4 (s.free hp)]
  .cases h
 .cases h
noncomputable def bd4(f:DE):DE:=λy=>(f y).bind λd=>match d with
 | .int i=>Oa<|.int (-i)
 | _=>Z
def cx8(h:JE X a f):JE X (.UnaryOp .USub a pos) (bd4 f):=λy d q=>by
 obtain⟨x,e1,e2⟩:=xbm q;cases x with
 | int i =>
  cases e2;exact C8 (cG9 ck5<|h y _ e1) λz H Q #[H0,Hf,s,sl,k]=>#[H0,Hf,s,sl,λv H1 Hf1 g1 r1=>#[_,r1,k _ H1 Hf1 g1 rfl]]
 | _=>cases e2
def isB(x y:D):Ob D:=match y with
 | .bool b=>(match x with
  | .bool c=>Oa<|.bool (c==b)
  | .dict _=>Z
  | _=>Oa (.bool false))
 | .none=>isN x .none
 | _=>Z
def aC7(x y:D):Ob D:=match y with
 | .bool b=>(match x with
  | .bool c=>Oa<|.bool (!(c==b))
  | .dict _=>Z
  | _=>Oa (.bool true))
 | .none=>cr4 x .none
 | _=>Z
def ce1:OpD X (eU .Is) isB:=λx y z h=>by
 cases y with
 | none=>exact cr0 x .none z h
 | bool b =>
  rintro za s w H vx vy v u Q I rx ry ⟨Hf,ss,r1,r2,k⟩
  cases r2;cases ry;have fin:∀c,z=.bool c->(v==Value.bool b)=c->EP X za w Q (.bool<|v==Value.bool b) s:=λc e1 e2=>by rw[e2];subst e1;exact#[.bl c,H,I,rfl,k _ H Hf (Grow.refl ss) rfl]
  cases x with
  | none=>cases r1;cases rx;cases h;exact wpAny_is_plain rfl<|fin _ rfl rfl
  | bool c=>cases r1;cases rx;cases h;exact wpAny_is_plain rfl (fin _ rfl (by cases c<;>cases b<;>rfl))
  | int i=>cases r1;obtain⟨t,rfl⟩:=rx;cases h;exact wpAny_is_plain rfl<|fin _ rfl rfl
  | str i=>cases r1;obtain⟨t,rfl⟩:=rx;cases h;exact wpAny_is_plain rfl<|fin _ rfl rfl
  | tuple ds=>obtain⟨a,vs,rfl,_⟩:=r1;cases rx;cases h;exact wpAny_is_plain rfl<|fin _ rfl rfl
  | list ds=>obtain⟨a,vs,rfl,_⟩:=r1;cases rx;cases h;exact wpAny_is_plain rfl<|fin _ rfl rfl
  | dict ds=>cases h
 | _=>cases h
def aR9:OpD X (eU .IsNot) aC7:=λx y z h=>by
 cases y with
 | none=>exact bV5 x .none z h
 | bool b =>
  rintro za s w H vx vy v u Q I rx ry ⟨Hf,ss,r1,r2,k⟩
  cases r2;cases ry;have fin:∀c,z=.bool c->(!(v==Value.bool b))=c->EP X za w Q (.bool (!(v==Value.bool b))) s:=λc e1 e2=>by rw[e2];subst e1;exact#[.bl c,H,I,rfl,k _ H Hf (Grow.refl ss) rfl]
  cases x with
  | none=>cases r1;cases rx;cases h;exact wpAny_isNot_plain rfl<|fin _ rfl rfl
  | bool c=>cases r1;cases rx;cases h;exact wpAny_isNot_plain rfl (fin _ rfl (by cases c<;>cases b<;>rfl))
  | int i=>cases r1;obtain⟨t,rfl⟩:=rx;cases h;exact wpAny_isNot_plain rfl<|fin _ rfl rfl
  | str i=>cases r1;obtain⟨t,rfl⟩:=rx;cases h;exact wpAny_isNot_plain rfl<|fin _ rfl rfl
  | tuple ds=>obtain⟨a,vs,rfl,_⟩:=r1;cases rx;cases h;exact wpAny_isNot_plain rfl<|fin _ rfl rfl
  | list ds=>obtain⟨a,vs,rfl,_⟩:=r1;cases rx;cases h;exact wpAny_isNot_plain rfl<|fin _ rfl rfl
  | dict ds=>cases h
 | _=>cases h
def aV8(K:af)(d:D)(u:fJ):Prop:=∃v,J3 v u/\∀H:Hp,Rep K H d v
def cy3(r:aV8 X.K d u)(hg:Gl X x)(hm:X.mg x=Oa u)(hd:(x==("__debug__":Str))=false:=by decide):JE X (.Name x pos) (dC d):=λy d' q=>by
 cases q;obtain⟨v,rv,rp⟩:=r;exact C8 (bU1 hg hm rv hd) λz H Q #[H0,Hf,s,sl,k]=>k _ H Hf (Grow.refl s)<|rp Hf
noncomputable def qN(f:Rho->Ob (La D)):Rho->Ob (Bool×La D):=λy=>(f y).map λds=>(false,ds)
def cw4(h:JN X e f):JQ X e (qN f):=bG0 h
noncomputable def N1(f:Rho->Ob (Bool×La D)):DE:=λy=>(f y).bind λq=>if q.1=true then Z else Oa (.tuple q.2)
def bY2(hg:Gl X "tuple")(hm:X.mg "tuple" = Z)(h:JQ X e f)(he:eQ [e] X.env=[(false,eval e X.env)]:=by rfl):JE X (.Call (.Name "tuple" p) [e] [] pos) (N1 f):=bH5 hg hm h (he:=he)
end
def bs9(l b:fL)(items items2:Array fJ)(n n2:Nat)(dd dd2:Ob fL)(sl sl2:Array (Ob fJ))(hz:items.size+items2.size<=eR):
  Meets (Builtin.«list.__add__» #[[.ref l,.ref b],[]]) (λ_ R s=>s.heap.get? l=Oa #[.type "list", dd,.seq items n,sl]/\s.heap.get? b=Oa #[.type "list", dd2,.seq items2 n2,sl2]/\R (.ok<|.ret (fF s.heap.objs.size)) { s with heap:=s.heap.push { cls:=Value.type "list", data:=Data.seq (items++items2) } }) :=
 .of_wp λprog w A R s h=>by
  obtain⟨hp,g,d,tk,os⟩:=s;obtain⟨hl,hb,h⟩:=h;have hsub:isSubtype (.type "list") (.type "list")=pure true:=by rw[isSubtype_type];kernel_rfl
  have hsz:=hz
  wp_walk
  exact#[_,rfl,h]
section
variable {X:Cx}
def bh8:OpR X (ff .Add) (λx y H Q=>∃a b xs ys,x=.ref a/\y=.ref b/\SqL X.K H a xs/\SqL X.K H b ys/\xs.length+ys.length<=eR/\∀p,H p=Z->Q (.ref p) (upd H p<|.lst (xs++ys))):=by
 intro za s z H x y v u Q I rx ry h;obtain⟨a,b,xs,ys,rfl,rfl,ha,hb,hz,q⟩:=h;cases rx;cases ry;obtain⟨its,r1,p1,_⟩:=I.list ha;obtain⟨its2,r2,p2,_⟩:=I.list hb;obtain⟨⟨cls,dd,data,sl⟩,ho,hc,n,hd⟩:=p1.isList;obtain⟨⟨cls2,dd2,data2,sl2⟩,ho2,hc2,n2,hd2⟩:=p2.isList;simp only at hc hd hc2 hd2;subst hc hd hc2 hd2;have l1:=r1.length;have l2:=r2.length;refine concat_meets #[_,ho,rfl] #[_,ho2,rfl] noFill_list_add seq_list_add PySem.F.slot_list_add PySem.F.entry_list_add (PySem.F.args_list_add_2 _ _) (bs9 a b its.toArray its2.toArray n n2 dd dd2 sl sl2 (by simp only[aq];grind)) #[ho,ho2,?_];have ea:its.toArray++its2.toArray=(its++its2).toArray:=by simp
 rw[ea];exact#[.ref _,_,I.lnew (t':=s.toks) (r1.append r2) (by rw[aj];grind),rfl,q _ I.fresh]
def B4(x y:D):Ob D:=match x,y with
 | .list xs,.list ys=>if xs.length+ys.length<=16777216 then Oa (.list<|xs++ys) else Z
 | x,y=>v9 x y
def bi0:OpD X (ff .Add) B4:=λx y z h=>by
 unfold B4 at h;split at h
 .split at h
  .rename_i c;cases h;refine OpR.imp bh8 λvx vy H Q w=>?_
   obtain⟨Hf,s,r1,r2,k⟩:=w;obtain⟨a,vs,rfl,h2,h3⟩:=r1;obtain⟨b,us,rfl,h5,h6⟩:=r2;refine#[a,b,vs,us,rfl,rfl,G9 s h2,G9 s h5,by rw[h3.length,h6.length,eT];exact c,λp hp=>?_];exact k _ _ _ (Grow.laid s hp) #[p,vs++us,rfl,SqL.of C9,(h3.append h6).mono<|G4 (s.free hp)]
  .cases h
 .exact bC6 _ _ z h
end
section
variable {X:Cx}
def atS(x:Str)(i:Int):Ob D:=if x.length<=16777216 then(atI x.cps.toList i).map λc=>.str #[(List.toArray [c])] else Z
def v8(f g:DE):DE:=λy=>(f y).bind λx=>(g y).bind λi=>match x,i with
 | .str x,.int i=>atS x i
 | _,_=>Z
def cx9(ha:JE X a f)(hb:JE X b g)(hs:af3 b:=by intro _ _;rfl):JE X (.Subscript a b pos) (v8 f g):=λz d q=>by
 obtain⟨x,h1,q⟩:=xbm q;obtain⟨y,h2,h3⟩:=xbm q;split at h3
 .rename_i x i;unfold atS at h3;split at h3
  .rename_i hz;obtain⟨c,e1,e2⟩:=xmo h3;subst e2;refine C8 (bh3 aL3 (ha z _ h1) (hb z _ h2) hs) λr H Q w=>?_
   obtain⟨H0,Hf,s,sl,k⟩:=w;refine#[H0,Hf,s,sl,λv H1 Hf1 g1 r1=>#[H0,Hf1,g1.sub,sl.grow g1,λu H2 Hf2 g2 r2=>?_]];exact .inr (.inr #[x,i,c,r1,r2,by rw[eT];exact hz,e1,k _ H2 Hf2 (g1.trans g2) rfl])
  .cases h3
 .cases h3
def S9(f:DE)(lo hi:Rho->Ob (Ob Int)):DE:=λy=>(f y).bind λd=>(lo y).bind λl=>(hi y).bind λh=>match d with
 | .tuple xs=>Oa<|.tuple (Z0 xs l h)
 | .list xs=>Oa<|.list (Z0 xs l h)
 | _=>Z
def cx5{a:Expr}{lo hi:Ob Expr}{f:DE}{l h:Rho->Ob (Ob Int)}{pos p2:Pos}(ha:JE X a f)(hl:JO X lo l)(hh:JO X hi h):JE X (.Subscript a (.Slice lo hi Z p2) pos) (S9 f l h):=λu d q=>by
 obtain⟨x,e1,q⟩:=xbm q;obtain⟨y,e2,q⟩:=xbm q;obtain⟨z,e3,q⟩:=xbm q;cases x with
 | tuple xs =>
  cases q;refine bH7 ha hl hh u _ ?_;unfold aU8;rw[e1,dO,e2,dO,e3,dO]
 | list xs =>
  cases q;refine C8 (am2 bg0 (ha u _ e1) (hl u y e2)<|hh u z e3) λr H Q w=>?_
  obtain⟨H0,Hf,s,sl,k⟩:=w;refine#[H0,Hf,s,sl,λv H1 Hf1 g1 #[p,vs,q1,q2,q3]=>#[H0,Hf1,g1.sub,sl.grow g1,λH2 Hf2 g2=>#[H0,Hf2,g2.sub,sl.grow<|g1.trans g2,λH3 Hf3 g3=>?_]]];subst q1;have q2':=G9 (g2.trans g3).ext q2;have q3':=q3.mono (g2.trans g3).ext;refine#[p,vs,rfl,G9 g3.sub q2',λp' hp=>?_];exact k _ _ _ (((g1.trans g2).trans g3).trans<|Grow.laid g3.sub hp) #[p',_,rfl,SqL.of C9,(ax3 q3' y z).mono<|G4 (g3.sub.free hp)]
 | _=>cases q
end
section
variable {X:Cx}
theorem aI3:∀{ys:La Str}{us:La fJ},F4 (ys.map V.str) us->∃l:La (Str×Tok),us=strValues l/\l.map (·.1)=ys
 | [],[],_=>#[[],rfl,rfl]
 | y::ys,u::us,h=>by
  cases h with
  | cons a b =>
   obtain⟨t,rfl⟩:=a;obtain⟨l,rfl,rfl⟩:=aI3 b;exact#[(y,t)::l,rfl,rfl]
noncomputable def N6(sep:Str)(ys:La Str):Nat:=ys.toArray.foldl (λn y=>n+y.length+sep.length) 0
def cG3(K:af):V->La V->Hp->VK->Prop:=λx vs H Q=>∃sep p ys,x=.str sep/\vs=[.ref p]/\SqL K H p (ys.map V.str)/\N6 sep ys<=eR/\(Builtin.Str.glued sep ys).length<=eR/\Q (.str<|Builtin.Str.glued sep ys) H
def bW1:MtR X "str.join" (cG3 X.K):=by
 intro za s y H x vs v us Q I rx rv h;obtain⟨sep,p,ys,rfl,rfl,hq,hz,hg,q⟩:=h;obtain⟨t,rfl⟩:=rx;obtain⟨u,rfl,ru⟩:=rv.one;cases ru;obtain⟨its,r,pl,_⟩:=I.list hq;obtain⟨l,rfl,rfl⟩:=aI3 r;refine fk F.slot_str_join (typeIs_str s sep t) F.entry_str_join (F.args_str_join_2 _ _) (meets_str_join_list sep t p l ?_) #[pl.isList,?_]
 .show decide (N6 sep (l.map (·.1)) > eR)=false;exact decide_eq_false (by grind)
 .match l,q,hg with
  | [],q,hg=>exact#[hg,.str _,H,I.tok _,#[_,rfl],q]
  | [a],q,_=>exact#[.str _,H,I,#[_,rfl],q]
  | a::b::r,q,hg=>exact#[hg,.str _,H,I.tok _,#[_,rfl],q]
noncomputable def ar2:La D->Ob (La Str)
 | []=>Oa []
 | .str x::r=>(ar2 r).map λys=>x::ys
 | _::_=>Z
theorem ae3{K:af}{H:Hp}:∀{ds:La D}{ys:La Str}{vs:La V},ar2 ds=Oa ys->Reps K H ds vs->vs=ys.map V.str
 | [],ys,vs,h,r=>by cases h;exact r
 | .str x::ds,ys,vs,h,r=>by
  obtain⟨zs,e1,e2⟩:=xmo h;subst e2;obtain⟨v,r',e,h1,h2⟩:=r;subst e;rw[ae3 e1 h2];cases h1;rfl
def M0(f:DE)(g:Rho->Ob (Bool×La D)):DE:=λy=>(f y).bind λs=>(g y).bind λq=>match s with
 | .str sep=>if q.1=true then Z else(ar2 q.2).bind λys=>if N6 sep ys<=16777216/\(Builtin.Str.glued sep ys).length<=16777216 then Oa (.str<|Builtin.Str.glued sep ys) else Z
 | _=>Z
def bY5(ho:JE X o f)(h:JQ X e g)
  (hbase:fq o "join" X.env (eval o X.env)=eval o X.env:=by rfl)
  (hfew:((backTo cpos (eQ [e] X.env)).all (λx=>!x.1)&&(backToKw cpos (keywordEach [] X.env)).all (λx=>x.1.isSome)
   && decide (([e]:La Expr).length+([]:La fh).length+(if([]:La fh).isEmpty then 0 else 1) < 30))=true:=by rfl)
  (hline:(apos.endLine==cpos.line)=true:=by rfl) (hs:eQ [e] X.env=[(false,eval e X.env)]:=by rfl) :
  JE X (.Call (.Attribute o "join" apos) [e] [] cpos) (M0 f g):=λz d q=>by
 obtain⟨s,e1,q⟩:=xbm q;obtain⟨⟨t,ds⟩,e2,q⟩:=xbm q;cases s with
 | str sep =>
  cases t with
  | true=>simp at q
  | false =>
   simp only[be,if_false]at q;obtain⟨ys,e3,q⟩:=xbm q;split at q
   .rename_i hz;cases q;refine C8 (ax8 F.plainAttrs_str F.slot_str_join F.type_str_join bW1 (ho z _ e1) (E6 (h z false ds e2) G6 hs) hbase hfew hline hs) λu H Q y=>?_
    obtain⟨H0,Hf,s,sl,k⟩:=y;refine#[H0,Hf,s,sl,λv H1 Hf1 g1 r1=>?_];cases r1;refine#[rfl,H0,Hf1,g1.sub,sl.grow g1,?_]
    rintro w H2 Hf2 g2 ⟨p,vs,z1,z2,z3⟩
    subst z1;rw[ae3 e3 z3]at z2;exact#[sep,p,ys,rfl,rfl,z2,by rw[eT];exact hz.1,by rw[eT];exact hz.2,k _ H2 Hf2 (g1.trans g2) rfl]
   .cases q
 | _=>cases q
end
section
variable {X:Cx}
noncomputable def ah8:D->Bool
 | .none=>true
 | .bool _=>true
 | .int _=>true
 | .str _=>true
 | _=>false
noncomputable def toV:D->V
 | .none=>.non
 | .bool b=>.bl b
 | .int i=>.int i
 | .str x=>.str x
 | _=>.non
def ax6{K:af}{H:Hp}{d:D}{v:V}(f:ah8 d=true)(r:Rep K H d v):v=toV d/\cN3 v=true:=by
 cases d with
 | none=>cases r;exact#[rfl,rfl]
 | bool b=>cases r;exact#[rfl,rfl]
 | int i=>cases r;exact#[rfl,rfl]
 | str x=>cases r;exact#[rfl,rfl]
 | tuple _=>cases f
 | list _=>cases f
 | dict _=>cases f
noncomputable def isS:D->Bool
 | .str _=>true
 | _=>false
noncomputable def inD(neg:Bool)(x y:D):Ob D:=match y with
 | .list ds=>if ah8 x=true/\ds.all ah8=true then Oa (.bool (if neg then !inV (toV x) (ds.map toV) else inV (toV x) (ds.map toV))) else Z
 | .tuple ds=>if ah8 x=true/\ds.all ah8=true then Oa (.bool (if neg then !inV (toV x) (ds.map toV) else inV (toV x) (ds.map toV))) else if ah8 x=false/\fy x=true/\ds.all isS=true then Oa (.bool neg) else if fy x=true/\x.depth<=60/\ds.all fy=true then Oa (.bool (if neg then !(ds.any λy=>fA y x) else ds.any λy=>fA y x)) else Z
 | _=>Z
def an2(neg:Bool)(x:Str)(ys:La Str):inD neg (.str x) (.tuple<|ys.map fD)=Oa (.bool (if neg then !(ys.any λy=>y==x) else ys.any λy=>y==x)):=by
 have f:(ys.map fD).all ah8=true:=by
  rw[ay];intro d hd;obtain⟨y,_,rfl⟩:=aV.mp hd;rfl
 show(if ah8 (.str x)=true/\(ys.map fD).all ah8=true then _ else _)=_;rw[if_pos #[rfl,f]]
 have:inV (toV<|.str x) ((ys.map fD).map toV)=ys.any λy=>y==x:=by
  unfold inV;rw[bw,List.any_map];rfl
 rw[this]
end
section
variable {X:Cx}
def cB3:fe "max" = Oa (.builtin "max"):=∅
noncomputable def cW1(f g:DE):DE:=λz=>(f z).bind λx=>(g z).bind λy=>match x,y with
 | .int i,.int j=>Oa<|.int (if j < i then j else i)
 | _,_=>Z
noncomputable def aU9(f g:DE):DE:=λz=>(f z).bind λx=>(g z).bind λy=>match x,y with
 | .int i,.int j=>Oa<|.int (if j > i then j else i)
 | _,_=>Z
def bY3(hg:Gl X "max")(hm:X.mg "max" = Z)(h:JE X e f)(h':JE X e' g)(hc:X.calm=true:=by rfl)(he:eQ [e,e'] X.env=(false,eval e X.env)::eQ [e'] X.env:=by rfl)(he':eQ [e'] X.env=[(false,eval e' X.env)]:=by rfl)
  (hpl:(backTo pos<|eQ [e'] X.env).any (·.1)=false:=by rfl):JE X (.Call (.Name "max" p) [e,e'] [] pos) (aU9 f g):=λz d q=>by
 obtain⟨x,h1,q⟩:=xbm q;obtain⟨y,h2,h3⟩:=xbm q;split at h3
 .cases h3;exact C8 (O2 (bs6 hc) hg hm cB3 (E6 (h z _ h1) (E6 (h' z _ h2) G6 he') he) (he:=he) (hpl:=hpl)) λu H Q #[H0,Hf,s,sl,k] =>#[H0,Hf,s,sl,λv H1 Hf1 g1 r=>#[H0,Hf1,g1.sub,sl.grow g1,λw H2 Hf2 g2 r2=>#[_,_,by rw[show v=_ from r,show w=_ from r2],k _ H2 Hf2 (g1.trans g2) rfl]]]
 .cases h3
def bI3(Fk:FnOk X.prog X.w X.K X.mg X.base (CXb X.K X.prog X.w b) k f fd ps (spF X.K 0 F))(hq:Ps X b)(hr:Room k X.A)(hg:Gl X x)(hm:X.mg x=Oa (.ref f))(hk:aN X.K (.ref f)=true)(hb:K0 X.K fd ps [])
  (hdb:(x==("__debug__":Str))=false:=by decide):JE X (.Call (.Name x p) [] [] pos) (A7 F A8):=λz d q=>by
 have h2:F []=Oa d:=q;refine C8 (bB6 Fk hr hg hm hk hb .nil hq hdb) λu H Q y=>?_
 obtain⟨H0,Hf,s,sl,kk⟩:=y;exact#[rfl,Hf,[],d,s,rfl,h2,λv H2 Hf2 g2 r2=>kk v H2 Hf2 g2 r2]
end
def aG9(K:af):La D->La fJ->Prop
 | [],us=>us=[]
 | d::ds,us=>∃u r,us=u::r/\aV8 K d u/\aG9 K ds r
section
variable {K:PySem.W.Frag}
def aF2:aG9 K [] []:=rfl
def M4(h:aV8 K d u)(t:aG9 K ds us):aG9 K (d::ds) (u::us):=#[u,us,rfl,h,t]
theorem aF3:∀{ds:La D}{us:La fJ},aG9 K ds us->∃vs,F4 vs us/\∀H:Hp,Reps K H ds vs
 | [],_,h=>by cases h;exact#[[],.nil,λ_=>rfl]
 | d::ds,_,#[u,r,e,#[v,h1,h2],h3]=>by
  subst e;obtain⟨vs,q1,q2⟩:=aF3 h3;exact#[v::vs,.cons h1 q1,λH=>#[v,vs,rfl,h2 H,q2 H]]
def am8(i:Int)(t:Tok):aV8 K (.int i) (.int i t):=#[.int i,#[t,rfl],λ_=>rfl]
def aS6(h:K.lookup a=Oa o)(hc:o.cls=.type "tuple")(hn:o.dict=Z)(hd:o.data=.seq its n)(hz:its.size<=1000)(hi:aG9 K ds its.toList):aV8 K (.tuple ds) (.ref a):=by
 obtain⟨vs,q1,q2⟩:=aF3 hi;exact#[.ref a,rfl,λH=>#[a,vs,rfl,.inr #[o,its,n,h,hc,hn,hd,cn<|ae1 hz,q1],q2 H]]
end
def aS3(l:fL)(items:Array fJ)(n:Nat)(dd:Ob fL)(sl:Array (Ob fJ))(u:Tok):
  Meets (Builtin.«tuple.__mul__» #[[.ref l,.int 1 u],[]]) (λ_ R s=>s.heap.get? l=Oa #[.type "tuple", dd,.seq items n,sl]/\R (.ok<|.ret (fF l)) s) :=
 .of_wp λprog w A R s h=>by
  obtain⟨hp,g,d,tk,os⟩:=s;obtain⟨hl,h⟩:=h
  wp_walk
  exact#[_,rfl,h]
section
variable {X:Cx}
def bB9:OpR X (ff .Mult) (λx y H Q=>∃l xs,x=.ref l/\y=.int 1/\SqT X.K H l xs/\Q (.ref l) H):=by
 intro za s z H x y v u Q I rx ry h;obtain⟨l,xs,rfl,rfl,hq,q⟩:=h;cases rx;obtain⟨t,rfl⟩:=ry;obtain⟨its,r,p1,_⟩:=I.tuple hq;obtain⟨⟨cls,dd,data,sl⟩,ho,hc,n,hd⟩:=id p1;simp only at hc hd;subst hc hd
 exact wpAny_binaryOp_repeat_ref (T := "tuple") (U := "int") (by decide) #[_,ho,rfl] (λs'=>typeIs_int s' 1 t) ar7 F.fills_int_mul F.slot_int_rmul aE8 F.slot_int_index.lookup
  (fk F.slot_int_rmul (typeIs_int s 1 t) F.entry_int_rmul (F.args_int_rmul_2 _ _) (al7 1 t l its.toArray n dd sl) #[ho,rfl,#[_,ho,rfl],
   fk F.slot_tuple_mul #[_,ho,rfl] F.entry_tuple_mul (F.args_tuple_mul_2 _ _) (aS3 l its.toArray n dd sl t) #[ho,#[.ref l,H,I,rfl,q]]])
def aJ4(a:Int)(t:Tok)(l:fL)(items:Array fJ)(n:Nat)(dd:Ob fL)(sl:Array (Ob fJ)):
  Meets (Builtin.«int.__rmul__» #[[.int a t,.ref l],[]]) (λ_ R s=>s.heap.get? l=Oa #[.type "list", dd,.seq items n,sl]/\R (.ok<|.ret Value.notImplemented) s):=Meets.of_wp λprog w A R s h=>by
 obtain⟨hp,g,d,tk,os⟩:=s;obtain⟨hl,h⟩:=h
 wp_walk
 exact#[_,rfl,h]
def aS5(l:fL)(items:Array fJ)(n:Nat)(dd:Ob fL)(sl:Array (Ob fJ))(x:Int)(u:Tok)(c0:¬(!Builtin.List.listFitsIndex x)=true)(c1:¬items.size*x.toNat > (2 ^ 63 - 1) / 8)(c2:¬Builtin.List.listTooLong (items.size*x.toNat)=true):
  Meets (Builtin.«list.__mul__» #[[.ref l,.int x u],[]]) (λ_ R s=>s.heap.get? l=Oa #[.type "list", dd,.seq items n,sl]/\R (.ok<|.ret (fF s.heap.objs.size)) { s with heap:=s.heap.push { cls:=Value.type "list", data:=Data.seq (dt (λx1 x2=>x1++x2) (List.toArray []) (av (if items.isEmpty=true then 0 else x.toNat) items)) } }):=Meets.of_wp λprog w A R s h=>by
 obtain⟨hp,g,d,tk,os⟩:=s;obtain⟨hl,h⟩:=h;have hsz:=AutoListH.joined_fits c2
 wp_walk
 refine wpAny_ite_false (decide_eq_false<|Nat.not_lt.mpr hsz) ?_
 wp_walk
 exact#[_,rfl,h]
def bU5:OpR X (ff .Mult) (λx y H Q=>∃l k xs,x=.ref l/\y=.int k/\SqL X.K H l xs/\0<=k/\k < 1000000/\xs.length*k.toNat<=eR/\∀p,H p=Z->Q (.ref p) (upd H p<|.lst (av k.toNat xs).flatten)):=by
 intro za s z H x y v u Q I rx ry h;obtain⟨l,k,xs,rfl,rfl,hq,h1,h2,hz,q⟩:=h;cases rx;obtain⟨t,rfl⟩:=ry;obtain⟨its,r,p1,_⟩:=I.list hq;obtain⟨⟨cls,dd,data,sl⟩,ho,hc,n,hd⟩:=p1.isList;simp only at hc hd;subst hc hd;have hl:=r.length;have hlen:its.toArray.size*k.toNat<=eR:=by rw[aq,<- hl];exact hz
 have hcap:¬its.toArray.size*k.toNat > (2 ^ 63 - 1) / 8:=by
  have:(eR:Nat)<=(2 ^ 63 - 1) / 8:=by decide
  grind
 have hfit:¬(!Builtin.List.listFitsIndex k)=true:=by rw[fitsIndex_both (by grind) (by grind)];exact aX
 have hlong:¬Builtin.List.listTooLong (its.toArray.size*k.toNat)=true:=by rw[ac4 hlen];exact aX
 have hnew:dt (λx1 x2=>x1++x2) (List.toArray []) (av (if its.toArray.isEmpty=true then 0 else k.toNat) its.toArray)=(av k.toNat its).flatten.toArray:=by
  rw[aY3];cases its with
  | nil=>simp
  | cons a r'=>rw[if_neg (by simp)]
 refine wpAny_binaryOp_repeat_ref (T := "list") (U := "int") (by decide) #[_,ho,rfl] (λs'=>typeIs_int s' k t) noFill_list_mul F.fills_int_mul F.slot_int_rmul repeat_list F.slot_int_index.lookup
  (fk F.slot_int_rmul (typeIs_int s k t) F.entry_int_rmul (F.args_int_rmul_2 _ _) (aJ4 k t l its.toArray n dd sl) #[ho,rfl,#[_,ho,rfl],
   fk F.slot_list_mul #[_,ho,rfl] F.entry_list_mul (F.args_list_mul_2 _ _) (aS5 l its.toArray n dd sl k t hfit hcap hlong) #[ho,?_]])
 rw[hnew];exact#[.ref _,_,I.lnew (t':=s.toks) (r.rep k.toNat) (by rw[aK7,Nat.mul_comm];exact hz),rfl,q _ I.fresh]
def G7(x y:D):Ob D:=match x,y with
 | .tuple xs,.int k=>if k=1 then Oa (.tuple xs) else b0 (.tuple xs) (.int k)
 | .list xs,.int k=>if 0<=k/\k < 1000000/\xs.length*k.toNat<=16777216 then Oa (.list (av k.toNat xs).flatten) else Z
 | x,y=>b0 x y
def bh9:OpD X (ff .Mult) G7:=λx y z h=>by
 unfold G7 at h;split at h
 .split at h
  .rename_i xs k c;subst c;cases h;refine OpR.imp bB9 λvx vy H Q w=>?_
   obtain⟨Hf,s,r1,r2,kk⟩:=w;obtain⟨a,vs,rfl,h2,h3⟩:=r1;exact#[a,vs,rfl,r2,F8 s h2,kk _ _ _ (Grow.refl s) #[a,vs,rfl,h2,h3]]
  .exact aK3 _ _ z h
 .split at h
  .rename_i xs k c;cases h;refine OpR.imp bU5 λvx vy H Q w=>?_
   obtain⟨Hf,s,r1,r2,kk⟩:=w;obtain⟨a,vs,rfl,h2,h3⟩:=r1;refine#[a,k,vs,rfl,r2,G9 s h2,c.1,c.2.1,by rw[h3.length,eT];exact c.2.2,λp hp=>?_];exact kk _ _ _ (Grow.laid s hp) #[p,_,rfl,SqL.of C9,(h3.flatten k.toNat).mono<|G4 (s.free hp)]
  .cases h
 .exact aK3 _ _ z h
def O4(i j:Int):B4 (.int i) (.int j)=Oa (.int<|i+j):=rfl
def bs3(f:Rho->Ob (Bool×La D))(lo hi:Rho->Ob (Ob Int)):DE:=λy=>(f y).bind λq=>(lo y).bind λl=>(hi y).bind λh=>if q.1=true then Z else Oa (.list<|Z0 q.2 l h)
def cx4{a:Expr}{lo hi:Ob Expr}{f:Rho->Ob (Bool×La D)}{l h:Rho->Ob (Ob Int)}{pos p2:Pos}(ha:JQ X a f)(hl:JO X lo l)(hh:JO X hi h):JE X (.Subscript a (.Slice lo hi Z p2) pos) (bs3 f l h):=λu d q=>by
 obtain⟨⟨t,xs⟩,e1,q⟩:=xbm q;obtain⟨y,e2,q⟩:=xbm q;obtain⟨z,e3,q⟩:=xbm q;cases t with
 | true=>simp at q
 | false =>
  simp only[be,if_false]at q;cases q;refine C8 (am2 bg0 (ha u _ _ e1) (hl u y e2)<|hh u z e3) λr H Q w=>?_
  obtain⟨H0,Hf,s,sl,k⟩:=w;refine#[H0,Hf,s,sl,λv H1 Hf1 g1 #[p,vs,q1,q2,q3]=>#[H0,Hf1,g1.sub,sl.grow g1,λH2 Hf2 g2=>#[H0,Hf2,g2.sub,sl.grow<|g1.trans g2,λH3 Hf3 g3=>?_]]];subst q1;have q3':=q3.mono (g2.trans g3).ext;refine#[p,vs,rfl,G9 (g2.trans g3).big q2,λp' hp=>?_];exact k _ _ _ (((g1.trans g2).trans g3).trans<|Grow.laid g3.sub hp) #[p',_,rfl,SqL.of C9,(ax3 q3' y z).mono<|G4 (g3.sub.free hp)]
noncomputable def E9:DS:=λ_=>Z
def D4{st:Stmt}:JS X st E9:=λy fl q=>by cases q
def ai5(f:DE):Rho->Ob Bool:=λy=>(f y).bind ad0
def bF6(o1:OpD X (eU op) h1)(o2:OpD X (eU op') h2)(ha:JE X a f)(hb:JE X b g)(hc:JE X c k)
  (hm:lastMarks [op,op'] [b,c]=false:=by with_unfolding_all rfl):JT X (.Compare a [op,op'] [b,c] pos) (ai5<|L5 h1 h2 f g k):=λr d q=>by
 obtain⟨dd,q,ed⟩:=xbm q;have ed:=bl9 ed;subst ed;obtain⟨x,e1,q⟩:=xbm q;obtain⟨y,e2,q⟩:=xbm q;obtain⟨z,e3,q⟩:=xbm q;split at q
 .obtain⟨w,e4,e5⟩:=xbm q;refine ac2 (aR0 (o1 x y _ e3) (o2 y w _ e5) (ha r x e1) (hb r y e2) (hc r w e4) hm) λj H Q p=>?_
  obtain⟨H0,Hf,s,sl,kk⟩:=p;refine#[H0,Hf,s,sl,λv H1 Hf1 g1 r1=>#[H0,Hf1,g1.sub,sl.grow g1,λu H2 Hf2 g2 r2=>#[Hf2,g2.sub,r1.mono g2.ext,r2,λz' H3 Hf3 g3 r3=>?_]]];refine#[true,r3,an1 #[H0,Hf3,g3.sub,sl.grow<|(g1.trans g2).trans g3,λw' H4 Hf4 g4 r4=>#[Hf4,g4.sub,r2.mono (g3.trans g4).ext,r4,λz2 H5 Hf5 g5 r5=>?_]]];exact#[d,r5,kk H5 Hf5<|(((g1.trans g2).trans g3).trans g4).trans g5]
 .cases q
  rintro za s j H Q I ⟨H0,Hf,ss,sl,kk⟩
  refine aR0 (tc:=λ_ _ _=>False) (r':=λ_ _ _ _=>False) (o1 x y _ e3) (λ_ _ _ _ _ _ _ _ _ _ _ _ h=>h.elim) (ha r x e1) (hb r y e2) (λ_ _ _ _ _ _ h=>h.elim) hm za s j H Q I ?_;refine#[H0,Hf,ss,sl,λv H1 Hf1 g1 r1=>#[H0,Hf1,g1.sub,sl.grow g1,λu H2 Hf2 g2 r2=>#[Hf2,g2.sub,r1.mono g2.ext,r2,λz' H3 Hf3 g3 r3=>?_]]];exact#[false,r3,ap4 #[false,rfl,kk H3 Hf3<|(g1.trans g2).trans g3]]
 .cases q
end
section
variable {X:Cx}
noncomputable def cN8(ds:La D):La D:=(bf ds.length).zip ds |>.map λ(k,d)=>PyData.tuple [.int (k:Nat),d]
noncomputable def cM9(f:Rho->Ob (Bool×La D)):Rho->Ob (La D):=λy=>(f y).map λq=>cN8 q.2
end
section
variable {prog:Program}{w:World}{A:Around}{E:Value->Shared->Prop}{s:Shared}
def ax1{l b sl:fL}{items new:Array fJ}{n n2:Nat}{vl vu:fJ}{lo hi:Ob Int}{Q:Unit->fK->Prop}
    (e:s.heap.get? l=Oa { cls:=.type "list", data:=.seq items n }) (e2:s.heap.get? b=Oa { cls:=.type "list", data:=.seq new n2 }) (hne:l≠b)
    (hs:s.heap.IsSliceOf sl vl vu .none) (pl:IsPart vl lo) (pu:IsPart vu hi) (hsz:items.size+new.size<=eR)
    (h:Q () { s with heap:=s.heap.update l (Obj.mapSeq λxs=>xs.extract 0 (HT.sIx items.size 0 lo)++new++xs.extract (max (HT.sIx items.size 0 lo)<|HT.sIx items.size items.size hi) xs.size) }) :
    ft (fu prog w) A (setItem (.ref l) (.ref sl)<|.ref b) Q E s:=by
  have hl:s.heap.IsList l items:=PySem.IsL.isList e;have hb:s.heap.IsList b new:=PySem.IsL.isList e2;obtain⟨os,hos,hcs,hds⟩:=id hs;have hTs:s.TypeIs (.ref sl) "slice" := #[os,hos,hcs];have hstep:¬((rawPart Z==rawInt 0)=true):=aX
  have hsame:Builtin.List.listSameRef (.ref l) (.ref b)=false:=by
    unfold Builtin.List.listSameRef;exact beq_eq_false_iff_ne.mpr hne
  have hbd:sliceBounds lo hi Z items.size=(((HT.sIx items.size 0 lo:Nat):Int),((HT.sIx items.size items.size hi:Nat):Int),1):=by
    obtain⟨h1,h2,h3⟩:=al3 lo hi items.size;exact Prod.ext h1<|Prod.ext h2 h3
  have hmax:(max ((HT.sIx items.size 0 lo:Nat):Int) ((HT.sIx items.size items.size hi:Nat):Int)).toNat=max (HT.sIx items.size 0 lo) (HT.sIx items.size items.size hi):=by grind
  have hz':((λxs:Array fJ=>xs.extract 0 (HT.sIx items.size 0 lo)++new++xs.extract (max (HT.sIx items.size 0 lo)<|HT.sIx items.size items.size hi) xs.size) items).size<=eR+1:=by
    simp only[cD,Array.size_extract]
    grind
  unfold setItem
  try with_reducible refine wpAny_holding ?_
  first|refine eF (eG ?_)|skip
  refine eF (wpAny_sequenceKey hl.typeIs (by decide) ?_);refine eF (wpAny_callSpecial?_slot (name:=Str.ofString "__setitem__") hl.typeIs slot_list_setitem<|wpAny_call_entry slot_list_setitem hl.typeIs entry_list_setitem ?_ (args_list_setitem _ _ _));show ft _ _ (Builtin.List.listSubscript? (.ref sl) >>= _) _ _ s;refine eF ?_;unfold Builtin.List.listSubscript?;refine eF (wpAny_specialOf hTs slice_no_index ?_);simp only[Option.isNone_none,if_true];refine eG ?_;show ft _ _ (typeOf (.ref sl) >>= _) _ _ s;refine eF<|wpAny_typeOf hTs ?_
  first
    | rw[if_neg (by decide)]
    | refine PySem.W.KFB.if_not (by decide) ?_
  rw[listSliceParts_eq];refine eF (eF<|eP hos hds (x:=.none) rfl (eF<|wpAny_listPart .none ?_));rw[if_neg hstep];refine eF (eP hos hds (x:=vl) rfl<|eF (wpAny_listPart pl ?_));refine eF<|eP hos hds (x:=vu) rfl (eF<|wpAny_listPart pu (eG ?_))
  first
    | simp only[hsame,be,if_false]
    | refine PySem.W.KFB.if_not hsame ?_
    | (dsimp only
       rw[if_neg (by rw[hsame];exact aX)])
  refine eF (m:=Builtin.List.listAllItems (.ref b) "must assign iterable to extended slice") ?_;unfold Builtin.List.listAllItems;refine eF<|wpAny_typeOf hb.typeIs ?_
  first
    | refine PySem.W.KFB.if_so (by decide) ?_
    | rw[if_pos (by decide)]
    | simp only[beq_self_eq_true,Bool.true_or,if_true]
  unfold Builtin.List.listItems;refine eF (wpAny_seqItems e2 rfl<|eG ?_);refine eF (eF<|wpAny_seqItems e rfl (eG ?_));refine eF (wpAny_of_eq ((sliceIndices_raw lo hi Z items.size<|by simp).trans<|congrArg (pure:Int×Int×Int->Sem (Int×Int×Int)) hbd) ?_);show ft _ _ (if((1:Int)==1)=true then _ else _) _ _ s;rw[if_pos (by decide)];refine eF<|wpAny_rule ?_
  first
    | simp only[ac4 hsz,be,if_false]
    | refine PySem.W.KFB.if_not (ac4 hsz) ?_
  first|refine eF (eG ?_)|skip
  show ft _ _ (updateSeq l (λxs=>xs.extract 0 (((HT.sIx items.size 0 lo:Nat):Int)).toNat++new++xs.extract (max ((HT.sIx items.size 0 lo:Nat):Int) ((HT.sIx items.size items.size hi:Nat):Int)).toNat xs.size) >>= _) _ _ s;rw[hmax,bO];refine eF (wpAny_updateSeq (hz:=aI (cK _ _) hsz) (_hz':=hz') e rfl ?_);refine eF<|wpAny_letGo ?_
  first
    | exact eF<|eG (eG #[.none,rfl,eG h])
    | exact eG #[.none,rfl,eG h]
end
section
variable {X:Cx}
def aw9{y:Type}(xs:La y)(lo hi:Ob Int)(ys:La y):La y:=xs.take (HT.sIx xs.length 0 lo)++ys++xs.drop (max (HT.sIx xs.length 0 lo)<|HT.sIx xs.length xs.length hi)
def aY0{za:La (fL×Obj)}{s:fK}{y:L2.St}{H:Hp}{l b sl:fL}{xs ys:La V}{lo hi:Ob Int}{vl vu:fJ}{Q:Unit->fK->Prop}(I:Inv X za y H s)
  (hH:H l=Oa (.lst xs)) (hB:H b=Oa (.lst ys)) (hne:l≠b) (hs:s.heap.IsSliceOf sl vl vu .none) (pl:IsPart vl lo) (pu:IsPart vu hi)
  (hz:xs.length+ys.length<=eR) (h:∀s',Inv X za y (upd H l<|.lst (aw9 xs lo hi ys)) s'->Q () s') :
  ft (fu X.prog X.w) X.A (setItem (.ref l) (.ref sl)<|.ref b) Q X.xe s:=by
 obtain⟨z,its,n,r,hl,e⟩:=I.lstM hH;obtain⟨z2,its2,n2,r2,hl2,e2⟩:=I.lstM hB;refine ax1 e e2 hne hs pl pu (by rw[aq,aq];grind) (h _ ?_);have hz0:its.toArray.size=xs.length:=by rw[aq];exact hl.symm
 refine I.lset (its':=its.take (HT.sIx xs.length 0 lo)++its2++its.drop (max (HT.sIx xs.length 0 lo)<|HT.sIx xs.length xs.length hi)) (t':=s.toks) hH e ?_ (F4.append (F4.append (r.take _) r2)<|r.drop _) ?_
 .have e0:=bn5 its its2 (HT.sIx xs.length 0 lo) (max (HT.sIx xs.length 0 lo)<|HT.sIx xs.length xs.length hi);rw[hz0]at e0 |-;exact e0
 .unfold aw9;rw[aj,aj,aW,bc]
  grind
def bA0{K:af}{H:Hp}{ds es:La D}{vs us:La V}(h:Reps K H ds vs)(g:Reps K H es us)(lo hi:Ob Int):Reps K H (aw9 ds lo hi es) (aw9 vs lo hi us):=by
 unfold aw9;rw[h.length];exact((h.take _).append g).append (h.drop _)
def Slots.reOwn{K:af}{H0 H Hf:Hp}{y:Rho}{w:L2.St}{i:Nat}{ds ds':La D}{b:fL}{vs':La V}(sl:Slots K H0 y w H Hf)(eo:y[i]? = Oa (Oa<|.own ds))(h1:w[i]? = Oa (Oa<|.ref b))(hf:Hf b=Z)(h0:H0 b=Z)(r:Reps K Hf ds' vs'):
  Slots K H0 (y.set i<|Oa (.own ds')) w (upd H b<|.lst vs') Hf:=by
 refine#[by simpa using sl.len,λj bb z=>?_,λj k ds1 es c q1 q2 q3 q4=>?_]
 .by_cases qj:i=j
  .subst qj;have hi:i < y.length:=(am.mp eo).1;rw[aD hi]at z;cases z;exact#[_,h1,b,vs',rfl,C9,hf,h0,r]
  .rw[ax qj]at z;obtain⟨u,z1,z2⟩:=sl.is j bb z;refine#[u,z1,?_];cases bb with
   | val d=>exact z2
   | exc C=>exact z2
   | opq _=>exact z2
   | own dd =>
    obtain⟨a',us',y1,y2,y3,y4,y5⟩:=z2
    have ne:a'≠b:=λzz=>by
     subst zz y1;exact qj<|sl.apart i j ds dd a' eo z h1 z1
    exact#[a',us',y1,by rw[D0 ne];exact y2,y3,y4,y5]
 .have f:∀(j:Nat) (es:La D),(y.set i<|Oa (B.own ds'))[j]? = Oa (Oa<|B.own es)->∃dd:La D,y[j]? = Oa (Oa<|B.own dd):=λj es q=>by
   by_cases qj:i=j
   .subst qj;exact#[ds,eo]
   .rw[ax qj]at q;exact#[_,q]
  obtain⟨d1,q1'⟩:=f j _ q1;obtain⟨d2,q2'⟩:=f k _ q2;exact sl.apart j k d1 d2 c q1' q2' q3 q4
def bz6(i:Nat)(lo hi:Rho->Ob (Ob Int))(f:Rho->Ob (La D)):DS:=λy=>(f y).bind λes=>(lo y).bind λl=>(hi y).bind λh=>match y[i]? with
 | some (Oa (.own ds))=>if ds.length+es.length<=16777216 then Oa (.nx<|y.set i (Oa<|.own (aw9 ds l h es))) else Z
 | _=>Z
def cv4(i:Nat){x:Str}{e:Expr}{lo hi:Ob Expr}{f:Rho->Ob (La D)}{l h:Rho->Ob (Ob Int)}{p p2 pos' pos:Pos}(he:JN X e f)(hl:JO X lo l)(hh:JO X hi h)(hN:X.N[i]? = Oa x:=by rfl)
  (hv:Vis X.env.scope x:=by first|exact Or.inl rfl|exact Or.inr (Or.inl rfl)|exact Or.inr<|Or.inr rfl) (hd:(x==("__debug__":Str))=false:=by decide) (hcd:(x==("__classdict__":Str))=false:=by decide)
  (hsw:swapsWith e (Oa<|.Subscript (.Name x p) (.Slice lo hi Z p2) pos') pos.line X.env=pure false:=by rfl):JS X (.Assign [.Subscript (.Name x p) (.Slice lo hi Z p2) pos'] e pos) (bz6 i l h f):=λw fl q H0 Hf0=>by
 obtain⟨es,e1,q⟩:=xbm q;obtain⟨y,e2,q⟩:=xbm q;obtain⟨z,e3,q⟩:=xbm q;split at q
 .rename_i ds eo;split at q
  .rename_i hz;cases q
   rintro za s j H En I ⟨Hf,a,ee⟩
   refine wpAny_Assign_Subscript (thn (he w es e1 za s j H (λv H'=>∃zc,Grow H Hf H' zc/\∃b us,v=.ref b/\H b=Z/\H' b=Oa (.lst us)/\zc b=Z/\Reps X.K zc es us) I #[H0,Hf,a.gr.sub,a.sl,λv H' zc g r=>#[zc,g,r]]) ?_) hsw
   rintro v s1 ⟨x1,H1,I1,r1,Hf1,g1,b,us,ev,b1,b2,b3,b4⟩
   subst ev;cases r1;obtain⟨vl0,h1,c,vs,ev,h2,h3,h4,h5⟩:=a.sl.is i _ eo;subst ev;refine thn (P4 hN hv hd hcd za s1 j H1 (λv H'=>v=.ref c/\H'=H1) I1 #[_,h1,rfl,rfl]) ?_
   rintro ov s2 ⟨x2,H2,I2,r2,ex,eH⟩
   subst ex eH;cases r2;have sl1:=a.sl.grow g1;refine wpAny_Slice<|thn (hl w y e2 za s2 j H2 (λo H'=>o=y/\∃zc,Grow H2 Hf1 H' zc) I2 #[H0,Hf1,g1.sub,sl1,λH' zc g=>#[rfl,zc,g]]) ?_
   rintro wl s3 ⟨o3,H3,I3,pl,eo3,Hf3,g3⟩
   subst eo3;have sl3:=sl1.grow g3;refine thn (hh w z e3 za s3 j H3 (λo H'=>o=z/\∃zc,Grow H3 Hf3 H' zc) I3 #[H0,Hf3,g3.sub,sl3,λH' zc g=>#[rfl,zc,g]]) ?_
   rintro wu s4 ⟨o4,H4,I4,pu,eo4,Hf4,g4⟩
   subst eo4;have sl4:=sl3.grow g4;have gg:Grow H Hf H4 Hf4:=(g1.trans g3).trans g4;rw[evalPart_none];refine eG ?_;have I5:Inv X za j H4 { s4 with heap:=s4.heap.push { cls:=.type "slice", data:=.fields (List.toArray [wl,wu,.none]) } }:=I4.kept (t':=s4.toks) λb ob q=>fv _ q
   have hc:H4 c=Oa (.lst vs):=gg.big _ _ h2;have hb:H4 b=Oa (.lst us):=(g3.trans g4).big _ _ b2;have hcb:c≠b:=λzz=>by subst zz;rw[h2]at b1;cases b1
   have hfc:Hf4 c=Z:=gg.nofr h2 h3;have rd:Reps X.K Hf4 (aw9 ds o3 o4 es) (aw9 vs o3 o4 us):=bA0 (h5.mono gg.ext) (b4.mono (g3.trans g4).ext) _ _;refine aY0 I5 hc hb hcb (Heap.IsSliceOf.new ..) pl pu (by rw[h5.length,b4.length,eT];exact hz) λs' I'=>?_
   have ga:=a.gr.trans gg;refine#[j,_,I',ee j _ Hf4 #[#[λd u zz=>?_,λd u zz=>?_,ga.ext,ga.new],sl4.reOwn eo h1 hfc h4 rd] gg.ext]
   .rw[D0 (D9 zz h4)];exact ga.big d u zz
   .rw[D0 (D9 zz hfc)];exact ga.sub d u zz
  .cases q
 .cases q
def bX3(i:Nat)(hN:X.N.Nodup)(S:CompSc X N' n zd scope)(hu:ub=true->Th X)
  (hi:JI X tgt iter src) (hg:∀C s0 H0 ex,JG (E8 ub X N' scope C s0 H0 ex) tgt g) (ht:∀C s0 H0 ex,JTs (E8 ub X N' scope C s0 H0 ex) ifs c) (he:∀C s0 H0 ex,JE (E8 ub X N' scope C s0 H0 ex) elt e)
  (hi2:X.N[i]? = Oa x:=by rfl) (hl:X.env.scope.names.lookup x=Oa .local:=by rfl) (hsw:swapsWith (.ListComp elt [#[tgt,iter,ifs,0]] scope pos) (Oa<|.Name x pos') spos.line X.env=pure true:=by rfl)
  (hc:X.calm=true:=by rfl) (hs:∀x,fj iter X.env x=pure x:=by intro _;rfl):JS X (.Assign [.Name x pos'] (.ListComp elt [#[tgt,iter,ifs,0]] scope pos) spos) (O1 i<|D2 n zd src g c e):=λy fl q H0 Hf0=>by
 obtain⟨out,e1,e2⟩:=xmo q;subst e2;obtain⟨ds,e3,k⟩:=ak5 (K:=X.K) e1;refine G0 (aj7 S hu hc hN hi2 hl (hi y ds e3) (g:=tgJ X.K g) (tc:=aw6 X.K c) (te:=bf7 X.K e) hg ht (λC s0 H0 ex za s z H Q I #[y,d,e,t]=>he C s0 H0 ex y d e za s z H Q I t) hsw hs) λEn z H #[Hf,a,ee]=>k z H _ #[H0,Hf,a.gr.sub,a.sl,?_]
 rintro v H' zc gg ⟨p,vs,z1,z2,z3,z4,z5⟩
 subst z1;exact ee _ H' zc #[a.gr.trans gg,a.sl.setOwn gg (a.gr.big.free z2) z2 z3 z4 z5] gg.ext
end
section
variable {X:Cx}
noncomputable def at4(x:Str)(k:Int):Str:=if(k==1 || x.length==0)=true then x else#[(av k.toNat x.cps).foldl (·++·) (List.toArray [])]
def bo8(x y:D):Ob D:=match x,y with
 | .str x,.int k=>if 1<=k/\k<=2/\x.length<=1000/\(at4 x k).length<=16777216 then Oa (.str<|at4 x k) else Z
 | _,_=>Z
def bV6:OpD X (ff .Mult) bo8:=λx y z h=>by
 unfold bo8 at h;split at h
 .split at h
  .rename_i x k c;cases h
   rintro za s r H vx vy v u Q I rx ry ⟨Hf,ss,r1,r2,kk⟩
   cases r1;cases r2;obtain⟨t,rfl⟩:=rx;obtain⟨t2,rfl⟩:=ry;have w:=kk (.str<|at4 x k) H Hf (Grow.refl ss) rfl;have k12:k=1\/k=2:=by grind
   refine P.mul_str (by rw[decide_eq_false (by grind),decide_eq_false (by grind)];rfl) (λ_ _=>by rcases k12 with rfl|rfl<;>grind) (λ_ _=>?_) ?_
   .unfold Builtin.Str.tooLong;rw[eT];refine decide_eq_false ?_;rcases k12 with rfl|rfl<;>simp<;>grind
   .rw[if_neg (by grind)];unfold at4 at w c;split
    .rename_i e;rw[if_pos e]at w;exact#[.str x,H,I,#[_,rfl],w]
    .rename_i e;rw[if_neg e]at w c;exact#[by rw[eT];exact c.2.2.2,.str _,H,I.tok _,#[_,rfl],w]
  .cases h
 .cases h
noncomputable def slS(x:Str)(lo hi:Ob Int):Str:=if((1:Int)==1&&(Builtin.Str.strSliceIndices lo hi 1 x.length).length==x.length)=true then x else#[((Builtin.Str.strSliceIndices lo hi 1 x.length).filterMap (x.cps[·]?)).toArray]
def Y8(f:DE)(lo hi:Rho->Ob (Ob Int)):DE:=λy=>(f y).bind λd=>(lo y).bind λl=>(hi y).bind λh=>match d with
 | .str x=>if x.length<=10000/\(slS x l h).length<=16777216 then Oa (.str<|slS x l h) else Z
 | _=>Z
def bh6(h:IsPart u o):∃p:Ob (Int×Tok),u=partValue p/\p.map (·.1)=o:=by
 cases h with
 | none=>exact#[Z,rfl,rfl]
 | int i t=>exact#[Oa (i,t),rfl,rfl]
def bR7:SlR X (λx lo hi H Q=>∃z,x=.str z/\(slS z lo hi).length<=16777216/\Q (.str<|slS z lo hi) H):=by
 intro za s y H x v vl vu lo hi sl Q I rx hs pl pu h;obtain⟨z,rfl,hz,q⟩:=h;obtain⟨t,rfl⟩:=rx;obtain⟨pl',rfl,rfl⟩:=bh6 pl;obtain⟨pu',rfl,rfl⟩:=bh6 pu;refine#["str", _,F.slot_str_getitem.lookup,typeIs_str s z t,wpAny_getItem_str_slice (l:=pl') (u:=pu') (st:=Z) hs rfl ?_];show(if((1:Int)==1&&(Builtin.Str.strSliceIndices (pl'.map (·.1)) (pu'.map (·.1)) 1 z.length).length==z.length)=true then Made.val (.str z t) else Made.str #[((Builtin.Str.strSliceIndices (pl'.map (·.1)) (pu'.map (·.1)) 1 z.length).filterMap (z.cps[·]?)).toArray]).post _ _;unfold slS at q hz;by_cases e:((1:Int)==1&&(Builtin.Str.strSliceIndices (pl'.map (·.1)) (pu'.map (·.1)) 1 z.length).length==z.length)=true
 .rw[if_pos e]at q |-;exact#[.str z,H,I,#[_,rfl],q]
 .rw[if_neg e]at q hz |-;exact#[by rw[eT];exact hz,.str _,H,I.tok _,#[_,rfl],q]
def cx3{a:Expr}{lo hi:Ob Expr}{f:DE}{l h:Rho->Ob (Ob Int)}{pos p2:Pos}(ha:JE X a f)(hl:JO X lo l)(hh:JO X hi h):JE X (.Subscript a (.Slice lo hi Z p2) pos) (Y8 f l h):=λu d q=>by
 obtain⟨x,e1,q⟩:=xbm q;obtain⟨y,e2,q⟩:=xbm q;obtain⟨z,e3,q⟩:=xbm q;cases x with
 | str x =>
  simp only at q;split at q
  .rename_i c;cases q;refine C8 (am2 bR7 (ha u _ e1) (hl u y e2)<|hh u z e3) λr H Q w=>?_
   obtain⟨H0,Hf,s,sl,k⟩:=w;refine#[H0,Hf,s,sl,λv H1 Hf1 g1 r1=>#[H0,Hf1,g1.sub,sl.grow g1,λH2 Hf2 g2=>#[H0,Hf2,g2.sub,sl.grow<|g1.trans g2,λH3 Hf3 g3=>?_]]];exact#[x,r1,c.2,k _ H3 Hf3 ((g1.trans g2).trans g3) rfl]
  .cases q
 | _=>cases q
noncomputable def aJ1(i:Nat)(f:DE):DS:=λy=>match y[i]? with
 | some (Oa (.own ds))=>(f y).bind λd=>match d with
  | .list es=>if ds.length+es.length<=16777216 then Oa (.nx<|y.set i (Oa<|.own (ds++es))) else Z
  | .tuple es=>if ds.length+es.length<=16777216 then Oa (.nx<|y.set i (Oa<|.own (ds++es))) else Z
  | _=>Z
 | _=>Z
end
section
variable {X:Cx}
noncomputable def am5(f g:Rho->Ob (Bool×La D)):Rho->Ob (La D):=λy=>(f y).bind λp=>(g y).bind λq=>if p.1=false/\q.1=false/\p.2.length+q.2.length<=16777216 then Oa (p.2++q.2) else Z
def cw6(ha:JQ X a f)(hb:JQ X b g):JN X (.BinOp a .Add b pos) (am5 f g):=λy out q=>by
 obtain⟨⟨t1,xs⟩,e1,q⟩:=xbm q;obtain⟨⟨t2,ys⟩,e2,q⟩:=xbm q;split at q
 .rename_i c;obtain⟨c1,c2,c3⟩:=c;simp only at c1 c2 c3;subst c1 c2;cases q;refine C8 (bB3 bh8 (ha y _ _ e1)<|hb y _ _ e2) λz H Q w=>?_
  obtain⟨H0,Hf,s,sl,k⟩:=w;refine#[H0,Hf,s,sl,λv H1 Hf1 g1 #[p,vs,z1,z2,z3]=>#[H0,Hf1,g1.sub,sl.grow g1,?_]]
  rintro u H2 Hf2 g2 ⟨p',us,z1',z2',z3'⟩
  subst z1 z1';refine#[p,p',vs,us,rfl,rfl,G9 g2.big z2,z2',by rw[z3.length,z3'.length,eT];exact c3,λn hn=>?_];exact k _ _ _ ((g1.trans g2).trans<|Grow.made g2.sub hn) #[n,vs++us,rfl,(g1.trans g2).big.free hn,C9,g2.sub.free hn,(z3.mono g2.ext).append z3']
 .cases q
end
section
variable {X:Cx}
def bZ9(l b:fL)(xs ys:Array fJ)(n m:Nat)(dd:Ob fL)(sl:Array (Ob fJ))(h0:¬(!xs.isEmpty&&Builtin.List.listTooLong (xs.size+ys.size))=true)(h1:xs.size<=eR)(h2:xs.size+ys.size<=eR+1):
  Meets (Builtin.«list.extend» #[[.ref l,.ref b],[]]) (λ_ R s=>s.heap.get? l=Oa { cls:=.type "list", data:=.seq xs n }/\s.heap.get? b=Oa #[.type "list", dd,.seq ys m,sl] /\
   R (.ok (.ret fG)) { s with heap:=s.heap.update l (Obj.mapSeq λx=>x++ys),toks:=s.toks }) :=
 .of_wp λprog w A R s h=>by
  obtain⟨hp,g,d,tk,os⟩:=s;obtain⟨hl,hb,h⟩:=h;have f1:=AutoSeq1.idx_int;have f2:=AutoSeq1.sub_tuple_tuple;have f3:=AutoSeq1.sub_list_list;have f4:=AutoSeq1.sub_tuple_list;have f5:=AutoSeq1.sub_list_tuple;have hz':(xs++ys).size<=eR+1:=by rw[cD];exact h2
  wp_walk using (wpAny_updateSeq hl rfl (hz:=h1) (_hz':=hz')),AutoSeq1.wpAny_loadPart' hl,AutoSeq1.wpAny_loadPart' hb
  exact#[_,rfl,h]
def bZ8(l b:fL)(xs ys:Array fJ)(n m:Nat)(dd:Ob fL)(sl:Array (Ob fJ))(h0:¬(!xs.isEmpty&&Builtin.List.listTooLong (xs.size+ys.size))=true)(h1:xs.size<=eR)(h2:xs.size+ys.size<=eR+1):
  Meets (Builtin.«list.extend» #[[.ref l,.ref b],[]]) (λ_ R s=>s.heap.get? l=Oa { cls:=.type "list", data:=.seq xs n }/\s.heap.get? b=Oa #[.type "tuple", dd,.seq ys m,sl] /\
   R (.ok (.ret fG)) { s with heap:=s.heap.update l (Obj.mapSeq λx=>x++ys),toks:=s.toks }) :=
 .of_wp λprog w A R s h=>by
  obtain⟨hp,g,d,tk,os⟩:=s;obtain⟨hl,hb,h⟩:=h;have f1:=AutoSeq1.idx_int;have f2:=AutoSeq1.sub_tuple_tuple;have f3:=AutoSeq1.sub_list_list;have f4:=AutoSeq1.sub_tuple_list;have f5:=AutoSeq1.sub_list_tuple;have hz':(xs++ys).size<=eR+1:=by rw[cD];exact h2
  wp_walk using (wpAny_updateSeq hl rfl (hz:=h1) (_hz':=hz')),AutoSeq1.wpAny_loadPart' hl,AutoSeq1.wpAny_loadPart' hb
  exact#[_,rfl,h]
def cR6(K:af):V->La V->Hp->VK->Prop:=λx vs H Q=>∃l b xs zs,x=.ref l/\vs=[.ref b]/\H l=Oa (.lst xs)/\(SqL K H b zs\/SqT K H b zs)/\xs.length+zs.length<=eR/\Q .non (upd H l<|.lst (xs++zs))
def bD4:MtM X "list.extend" (cR6 X.K):=by
 intro za s y H x vs v us Q I rx rv h;obtain⟨l,b,xs,zs,rfl,rfl,hH,hB,hz,q⟩:=h;cases rx;obtain⟨u,rfl,ru⟩:=rv.one;cases ru;obtain⟨z,its,n,r,hl,e⟩:=I.lstM hH;rcases hB with hB|hB
 .obtain⟨its2,r2,pl,_⟩:=I.list hB;obtain⟨⟨cls,dd,data,sl⟩,ho,hc,m,hd⟩:=pl.isList;simp only at hc hd;subst hc hd;have hl2:=r2.length;have hsz:its.toArray.size+its2.toArray.size<=eR:=by rw[aq,aq];grind
  have hlong:¬(!its.toArray.isEmpty&&Builtin.List.listTooLong (its.toArray.size+its2.toArray.size))=true:=by rw[ac4 hsz,bq];exact aX
  refine fk F.slot_list_extend #[_,e,rfl] F.entry_list_extend (F.args_list_extend_2 _ _) (bZ9 l b its.toArray its2.toArray n m dd sl hlong (by rw[aq];grind)<|by grind) #[e,ho,?_];refine#[.non,_,I.lset (its':=its++its2) hH e (by simp) (r.append r2) ?_,rfl,q];rw[aj];grind
 .obtain⟨its2,r2,pl,_⟩:=I.tuple hB;obtain⟨⟨cls,dd,data,sl⟩,ho,hc,m,hd⟩:=pl;simp only at hc hd;subst hc hd;have hl2:=r2.length;have hsz:its.toArray.size+its2.toArray.size<=eR:=by rw[aq,aq];grind
  have hlong:¬(!its.toArray.isEmpty&&Builtin.List.listTooLong (its.toArray.size+its2.toArray.size))=true:=by rw[ac4 hsz,bq];exact aX
  refine fk F.slot_list_extend #[_,e,rfl] F.entry_list_extend (F.args_list_extend_2 _ _) (bZ8 l b its.toArray its2.toArray n m dd sl hlong (by rw[aq];grind)<|by grind) #[e,ho,?_];refine#[.non,_,I.lset (its':=its++its2) hH e (by simp) (r.append r2) ?_,rfl,q];rw[aj];grind
def cw0(i:Nat)(h:JE X e f)(hN:X.N[i]? = Oa x)(hv:Vis X.env.scope x)(hd:(x==("__debug__":Str))=false)
  (hcd:(x==("__classdict__":Str))=false) (hline:(apos.endLine==cpos.line)=true) (hs:eQ [e] X.env=[(false,eval e X.env)]) :
  JS X (.Expr (.Call (.Attribute (.Name x p) "extend" apos) [e] [] cpos) pos) (aJ1 i f):=λr fl q H0 Hf0=>by
 unfold aJ1 at q;split at q
 .rename_i ds eo;obtain⟨d,e1,q⟩:=xbm q;split at q
  .rename_i es;split at q
   .rename_i hz;cases q;refine G0 (am1 (ax8 PySem.F.plainAttrs_list PySem.F.slot_list_extend PySem.F.type_list_extend bD4 (P4 hN hv hd hcd) (E6 (h r _ e1) G6 hs) rfl (by rw[hs];rfl) hline hs) rfl) λEn j H y=>?_
    obtain⟨Hf,a,ee⟩:=y;obtain⟨v,h1,b,vs,rfl,h2,h3,h4,h5⟩:=a.sl.is i _ eo;refine#[_,h1,.inl #[rfl,vs,SqL.of h2],H0,Hf,a.gr.sub,a.sl,?_]
    rintro w H' zc gg ⟨b2,us,rfl,r1,r2⟩
    have hb:H' b=Oa (.lst vs):=gg.big _ _ h2;have hfb:zc b=Z:=gg.nofr h2 h3;have g2:=a.gr.trans gg;have sl2:=a.sl.grow gg;refine#[b,b2,vs,us,rfl,rfl,hb,.inl<|G9 gg.sub r1,by rw[h5.length,r2.length,eT];exact hz,ee _ _ zc #[#[λc u z=>?_,λc u z=>?_,g2.ext,g2.new],?_] gg.ext]
    .rw[D0 (D9 z h4)];exact g2.big c u z
    .rw[D0 (D9 z hfb)];exact g2.sub c u z
    .exact sl2.reOwn eo h1 hfb h4 ((h5.mono gg.ext).append r2)
   .cases q
  .rename_i es;split at q
   .rename_i hz;cases q;refine G0 (am1 (ax8 PySem.F.plainAttrs_list PySem.F.slot_list_extend PySem.F.type_list_extend bD4 (P4 hN hv hd hcd) (E6 (h r _ e1) G6 hs) rfl (by rw[hs];rfl) hline hs) rfl) λEn j H y=>?_
    obtain⟨Hf,a,ee⟩:=y;obtain⟨v,h1,b,vs,rfl,h2,h3,h4,h5⟩:=a.sl.is i _ eo;refine#[_,h1,.inl #[rfl,vs,SqL.of h2],H0,Hf,a.gr.sub,a.sl,?_]
    rintro w H' zc gg ⟨b2,us,rfl,r1,r2⟩
    have hb:H' b=Oa (.lst vs):=gg.big _ _ h2;have hfb:zc b=Z:=gg.nofr h2 h3;have g2:=a.gr.trans gg;have sl2:=a.sl.grow gg;refine#[b,b2,vs,us,rfl,rfl,hb,.inr<|F8 gg.sub r1,by rw[h5.length,r2.length,eT];exact hz,ee _ _ zc #[#[λc u z=>?_,λc u z=>?_,g2.ext,g2.new],?_] gg.ext]
    .rw[D0 (D9 z h4)];exact g2.big c u z
    .rw[D0 (D9 z hfb)];exact g2.sub c u z
    .exact sl2.reOwn eo h1 hfb h4 ((h5.mono gg.ext).append r2)
   .cases q
  .cases q
 .cases q
end
noncomputable def aT8(a:La Str)(x:Str):La Str:=if a.any (· == x) then a else a++[x]
def ddN(v:Nat->Str)(i:Nat):La Str:=((bf i).map v).foldl aT8 []
def ddS(l:La Str):La Str:=l.foldl aT8 []
def az6(v:Nat->Str)(i:Nat):ddN v (i+1)=aT8 (ddN v i) (v i):=by
 unfold ddN;rw[List.range_succ,aO,List.foldl_append];rfl
theorem bL1(v:Nat->Str):∀i,(ddN v i).length<=i
 | 0=>ak 0
 | i+1=>by
  have ih:=bL1 v i;rw[az6];unfold aT8;split
  .grind
  .rw[aj,bW]
   grind
def cA9(a:La Str)(x y:Str):(aT8 a x).any (· == y)=(a.any (· == y) || decide (y=x)):=by
 unfold aT8;by_cases q:a.any (· == x)=true
 .rw[if_pos q];by_cases e:y=x
  .subst e;rw[q];simp
  .simp[e]
 .rw[if_neg q,List.any_append];by_cases e:y=x
  .subst e;simp
  .have:(x==y)=false:=by simpa [beq_iff_eq] using λz:x=y=>e z.symm
   simp[this,e]
def cA8(a:La Str)(x:Str):(aT8 a x).length=if a.any (· == x) then a.length else a.length+1:=by
 unfold aT8;split<;>simp
def cB0(l:La Str)(d:Str):ddN (λi=>l.getD i d) l.length=ddS l:=by
 unfold ddN ddS
 congr 1
 refine dF λi=>?_
 rw[aH];by_cases hi:i < l.length
 .rw[List.getElem?_range hi,aL hi];simp[List.getD,aL hi]
 .rw[cF (by simpa using hi),cF (by simpa using hi)];rfl
section
variable {prog:Program}{w:World}{A:Around}{R:Result->Shared->Prop}{J:Addr}{fp wr:La Addr}{Gn:Array GenState->Array GenState->Prop}{n:Nat}{P:Nat->Value->Prop}{St:Nat->Shared->Prop}
def bz4(W:WalksS prog w A.in1 J fp wr Gn n P St)(S:fL)(hS1:S∉fp)(v:Nat->Str)(hv:∀i u,P i u->∃t,u=.str (v i) t)(hb:n+1 < scanBound):
  ∀(k i:Nat) (s:fK),n - i=k->i<=n->St i s->s.heap.SetOf (strKind prog w) S (λy=>(ddN v i).any (· == y)) (ddN v i).length ->
   (∀s',Moved (S::wr) Gn s s'->s'.heap.SetOf (strKind prog w) S (λy=>(ddN v n).any (· == y)) (ddN v n).length->R (.ok<|.ret .none) s') ->
   codeAny (fu prog w) A (.builtin "set.update.loop" #[[.ref S,.ref J],[]]) R s:=by
 have hS2:S∉wr:=λz=>hS1<|W.sub _ z
 have more:∀b∈wr,b∈S::wr:=λb z=>xmm _ z
 intro k
 induction k with
 | zero =>
  intro i s e1 e2 q1 q2 q3;obtain rfl:i=n:=by grind
  refine codeAny_builtin PyProof.Rows.F.entry_set_update_loop ?_;rw[Around.under_plainId PyProof.Rows.F.plain_set_update_loop _];show ft _ _ (pyNext (.ref J) >>= _) _ _ _;refine eF (W.done s _ _ q1 λs' mv=>?_);show ft _ _ (ret fG) _ _ _;refine eG (q3 s' (mv.mono more) ?_);obtain⟨o,es,ep,tb,ho,more'⟩:=q2;exact#[o,es,ep,tb,mv.heap S _ hS2 ho,more']
 | succ k ih =>
  intro i s e1 e2 q1 q2 q3;have lt:i < n:=by grind
  refine codeAny_builtin PyProof.Rows.F.entry_set_update_loop ?_;rw[Around.under_plainId PyProof.Rows.F.plain_set_update_loop _];show ft _ _ (pyNext (.ref J) >>= _) _ _ _;refine eF (W.item i s _ _ lt q1 λu s' hP q1' mv=>?_);obtain⟨t,rfl⟩:=hv i u hP
  have q2':s'.heap.SetOf (strKind prog w) S (λy=>(ddN v i).any (· == y)) (ddN v i).length:=by
   obtain⟨o,es,ep,tb,ho,more'⟩:=q2;exact#[o,es,ep,tb,mv.heap S _ hS2 ho,more']
  show ft _ _ (holding [Value.str (v i) t] (setAdd S<|.str (v i) t) >>= _) _ _ _;refine eF (wpAny_holding ?_);unfold setAdd;refine wpAny_holding (eF<|(strKind prog w).pyHash (k:=v i) (strKind_is _ _ _ _) ?_);have room:(ddN v i).length+1 < scanBound:=by have:=bL1 v i;grind
  refine wpAny_setAddHashed_of (knd:=strKind prog w) (s:={ s' with toks:=s'.toks+1 }) (strKind_is _ _ _ _) rfl q2' room λh' sb q4=>?_
  have q5:h'.SetOf (strKind prog w) S (λy=>(ddN v<|i+1).any (· == y)) (ddN v<|i+1).length:=SetOf_congr q4 (λy=>by rw[az6,cA9]) (by rw[az6,cA8]);refine eG #[plainId_quiet PyProof.Rows.F.plain_set_update_loop _,ih (i+1) _ (by grind) lt (W.frame _ s' _ _ q1' (bM _) λb z o e=>?_) q5 λs2 mv2 q6=>?_]
  .rw[sb.2 b (λy:b=S=>hS1 (by rw[<- y];exact z))];exact e
  .refine q3 s2 (Moved.trans W.gtrans ((mv.mono more).then_heap (bM _) λb o z e=>?_) mv2) q6;rw[sb.2 b (λy:b=S=>z (by rw[y];exact aQ))];exact e
end
section
variable {prog:Program}{w:World}{A:Around}{E:Value->Shared->Prop}{s:Shared}
noncomputable abbrev S7(b:Bool):Obj:={ cls:=.type "set", dict:=Z,data:=.set (List.toArray []) 0 (.fresh 0 0 b) }
def aQ3{l:fL}{its:Array fJ}{xs:La Str}{Q:fJ->fK->Prop}(hh:A.handled=Z)(hl:s.heap.IsList l its)(hi:∀(i:Nat) (u:fJ),its[i]? = Oa u->∃t,u=.str (xs.getD i "") t)(hb:its.size+1 < scanBound)
  (h:∀(h':Heap) (tk:Nat),h'.SetOf (strKind prog w) s.heap.objs.size (λy=>(ddN (λi=>xs.getD i "") its.size).any (· == y)) (ddN (λi=>xs.getD i "") its.size).length ->
   (∀b o,b < s.heap.objs.size->s.heap.get? b=Oa o->h'.get? b=Oa o)->Q (.ref s.heap.objs.size) { s with heap:=h',toks:=tk }) :
  ft (fu prog w) A (call (.type "set") [.ref l]) Q E s:=by
 obtain⟨c,tl,hmro⟩:=F.called_set.mro;have hmade:=F.called_set.made;have hsub:=F.called_set.sub;refine wpAny_call (codeAny_of_tree ?_);show ft _ _ (callAny (.type "set") _) _ _ _;refine eG #[Code.quiet_builtin _ ∅,codeAny_builtin F.entry_type_call ?_];rw[Around.under_plain (weight_type_call_type "set" [.ref l] []) rfl];have n1:=F.called_set.notType;have n2:=F.called_set.canCreate;have n3:=F.typeCall_set_1<|.ref l
 repeat (any_goals (first|assumption|wp_step))
 refine codeAny_mono (code_set_new_1 (.ref l) (E:=E) (Q₁:=λob s1=>∃b:Bool,ob=.ref s.heap.objs.size/\s1={ s with heap:=s.heap.push (S7 b) }) λb=>#[b,rfl,rfl]) λr s1 hr=>?_
 cases r with
 | error e=>exact hr
 | ok fl =>
  cases fl with
  | ret ob =>
   obtain⟨b,rfl,rfl⟩:=hr;have g0:(s.heap.push<|S7 b).get? s.heap.objs.size=Oa (S7 b):=fx _ rfl;have hT:Shared.TypeIs { s with heap:=s.heap.push (S7 b) } (.ref s.heap.objs.size) "set" := #[_,g0,rfl];have li:=F.called_set.init.lookup;have bi:=F.called_set.init.bind<|.ref s.heap.objs.size
   repeat (any_goals (first|assumption|wp_step))
   refine codeAny_mono (codeAny_call_builtin (R:=wants (λr s2=>r=.none/\∃h' tk,s2={ s with heap:=h',toks:=tk }/\h'.SetOf (strKind prog w) s.heap.objs.size (λy=>(ddN (λi=>xs.getD i "") its.size).any (· == y)) (ddN (λi=>xs.getD i "") its.size).length /\
     (∀b o,b < s.heap.objs.size->s.heap.get? b=Oa o->h'.get? b=Oa o)) E) F.called_set.init.plain F.entry_set_init (check_set_init_1 hT ?_)) λr2 s2 hr2=>?_
   .obtain⟨⟨c0,d0,dt0,sl0⟩,hol,hcl,nl,hdl⟩:=hl;simp only at hcl hdl;subst hcl hdl;have hol':(s.heap.push<|S7 b).get? l=Oa { cls:=.type "list", dict:=d0,data:=.seq its nl,slots:=sl0 }:=fv _ hol;have f1:=F.sub_list_set;have f2:=F.sub_list_frozenset;have f3:(Value.type "list" == Value.type "dict")=false:=by decide
    have hl1:(s.heap.push<|S7 b).IsList l its:=#[_,hol',rfl,nl,rfl];unfold Builtin.«set.__init__» noKeywords Builtin.Frozenset.updateFrom;generalize hPI:pyIter=PI
    wp_walk
    subst hPI;refine wpAny_pyIter_list hl1 (eF<|wpAny_runValue ?_);have lS:l < s.heap.objs.size:=fw hol;have h3:A.in1.in1.in1.handled=Z:=by simp[hh]
    have nI:l≠(s.heap.push<|S7 b).objs.size:=by
     rw[Heap.size_push];exact aP<|dE lS
    have nf:s.heap.objs.size∉[(s.heap.push<|S7 b).objs.size,l]:=by
     rw[Heap.size_push];simp only[ao,aB,aM,or_false,not_or];exact#[aP<|ci _,dn lS]
    refine bz4 ((Walks.list h3 _ l nI its).toS) s.heap.objs.size nf (λi=>xs.getD i "") hi hb (its.size - 0) 0 _ (by grind) (aA _) #[#[_,fx _ rfl,rfl,rfl],(hl1.push _)] ?hS0 ?hR
    case hS0 =>
     have gt:((s.heap.push<|S7 b).push { cls:=.type "list_iterator", data:=.fields (List.toArray [.ref l,.int 0 0]) }).get? s.heap.objs.size=Oa (S7 b):=fv _ g0;exact SetOf_congr ((setObjOf_fresh (knd:=strKind prog w) b).setOf gt (by unfold scanBound;grind)) (λ_=>rfl) rfl
    case hR =>
     intro s' mv q;obtain⟨h',g',d',tk',os'⟩:=s';have eg:g'=s.gens:=mv.gens;have ed:d'=s.drawn:=mv.drawn;have eo:os'=s.os:=mv.os;subst eg ed eo;show ft _ _ _ _ _ _;refine eG ?_;show ft _ _ (ret fG) _ _ _;refine eG #[rfl,h',tk',rfl,q,λc o hc e=>?_];have c1:c≠s.heap.objs.size:=aP hc
     have c2:c≠(s.heap.push<|S7 b).objs.size:=by
      rw[Heap.size_push];exact aP<|dE hc
     exact mv.heap c o (by simp only[ao,aB,aM,or_false,not_or];exact#[c1,c2])<|fv _ (fv _ e)
   .cases r2 with
    | error e=>exact hr2
    | ok fl2 =>
     cases fl2 with
     | ret r =>
      obtain⟨rfl,h',tk,rfl,q1,q2⟩:=hr2
      repeat (any_goals (first|assumption|wp_step))
      exact h _ _ q1 q2
     | _=>exact hr2.elim
  | _=>exact hr.elim
end
section
variable {X:Cx}
def SetO(X:Cx)(a:fL)(n:Nat):HO:=.ext λh=>∃S,h.SetOf (strKind X.prog X.w) a S n
def cB2:fe "set" = Oa (.type "set"):=∅
theorem aO4:∀{ys:La Str}{us:La fJ},F4 (ys.map V.str) us->∀(i:Nat) (u:fJ),us[i]? = Oa u->∃t,u=.str (ys.getD i "") t
 | [],[],_,i,u,h=>by simp at h
 | y::ys,u::us,h,i,v,e=>by
  cases h with
  | cons a b =>
   cases i with
   | zero =>
    simp only[List.getElem?_cons_zero,bg.injEq]at e;subst e;obtain⟨t,e⟩:=a;exact#[t,e]
   | succ i =>
    simp only[List.getElem?_cons_succ]at e;obtain⟨t,e'⟩:=aO4 b i v e;exact#[t,e']
def bs5(hc:X.calm=true):W4 X (.type "set") (λxs H Q=>∃p ys,xs=[.ref p]/\SqL X.K H p (ys.map V.str)/\ys.length<=4000/\∀l,H l=Z->Q (.ref l) (upd H l<|SetO X l (ddS ys).length)):=by
 intro za s y H xs us Q I r h;obtain⟨p,ys,rfl,hq,hz,q⟩:=h;obtain⟨u,rfl,rx⟩:=aa5 r;cases rx;obtain⟨its,rv,pl,_⟩:=I.list hq;have hl:its.length=ys.length:=by have:=rv.length;rw[ai]at this;exact this.symm
 have hs:its.toArray.size=ys.length:=by rw[aq];exact hl
 refine aQ3 (xs:=ys) (I.ok.hd hc) pl.isList (λi u e=>aO4 rv i u (by rw[List.getElem?_toArray]at e;exact e)) (by rw[hs];unfold scanBound;grind) λh' tk q1 q2=>?_
 rw[hs,cB0]at q1;refine#[.ref _,_,I.laid (a:=s.heap.objs.size) (o:=SetO X s.heap.objs.size (ddS ys).length) (h':=h') (t':=tk) (λb o e=>q2 b o (fw e) e) (ak _) #[#[_,q1],?_,?_],rfl,q _ I.fresh]
 .obtain⟨o,es,ep,t,ho,_⟩:=q1;exact#[o,ho]
 .rintro h1 h2 ⟨S,o,es,ep,t,ho,W5⟩ k
  exact#[S,o,es,ep,t,k o ho,W5]
def bs7:W4 X (.builtin "len") (λxs H Q=>∃p n,xs=[.ref p]/\H p=Oa (SetO X p n)/\Q (.int n) H):=by
 intro za s y H xs us Q I r h;obtain⟨p,n,rfl,hp,q⟩:=h;obtain⟨u,rfl,rx⟩:=aa5 r;cases rx;obtain⟨⟨S,o,es,ep,t,ho,hex,hd,_,_,hb,hf,hn⟩,_,_⟩:=I.hok p _ hp;have:es.size < 4096:=hb;exact call_len_set ho hex hd hf (by grind) #[.int n,H,I.tok _,#[_,by rw[hn]],q]
def v7(f:Rho->Ob (Bool×La D)):DE:=λy=>(f y).bind λq=>if q.1=true then Z else(ar2 q.2).bind λys=>if ys.length<=4000 then Oa (.int (ddS ys).length) else Z
def bp5(hg:Gl X "len")(hm:X.mg "len" = Z)(hg2:Gl X "set")(hm2:X.mg "set" = Z)(h:JQ X e f)(hc:X.calm=true)(he:eQ [e] X.env=[(false,eval e X.env)]):
  JE X (.Call (.Name "len" p) [.Call (.Name "set" p2) [e] [] pos2] [] pos) (v7 f):=λy d q=>by
 obtain⟨⟨t,ds⟩,h1,q⟩:=xbm q;split at q
 .cases q
 .rename_i ht;have ht:t=false:=by simpa using ht
  subst ht;obtain⟨ys,h2,q⟩:=xbm q;split at q
  .rename_i hz;cases q;refine C8 (O2 bs7 hg hm aN2<|E6 (R7 (bs5 hc) hg2 hm2 cB2 (E6 (h y false ds h1) G6 he) (he:=he)) G6 rfl) λz H Q w=>?_
   obtain⟨H0,Hf,s,sl,k⟩:=w;refine#[H0,Hf,s,sl,λv H1 Hf1 g1 #[a,vs,e1,e2,e3]=>#[a,ys,by rw[e1],?_,hz,λl hl=>#[l,_,rfl,C9,?_]]]
   .rw[<- ae3 h2 e3];exact e2
   .exact k _ _ _ (g1.trans<|Grow.made g1.sub hl) rfl
  .cases q
end
section
variable {X:Cx}
noncomputable def bq1(x y:Str):Bool:=!(Builtin.Str.occurrences y x 0 y.length 1).isEmpty
def inS(neg:Bool)(x y:D):Ob D:=match x,y with
 | .str i,.str j=>Oa<|.bool (if neg then !bq1 i j else bq1 i j)
 | _,_=>Z
def cr1:OpD X (eU .In) (inS false):=λx y z h=>by
 cases x<;>cases y<;>first|(cases h;done)|skip
 rename_i i j;cases h;refine OpR.imp bo1 ?_
 rintro vx vy H Q ⟨Hf,s,rx,ry,k⟩
 cases rx;cases ry;exact#[i,j,rfl,rfl,k _ H Hf (Grow.refl s) rfl]
def bo5:OpD X (eU .NotIn) (inS true):=λx y z h=>by
 cases x<;>cases y<;>first|(cases h;done)|skip
 rename_i i j;cases h;refine OpR.imp aK1 ?_
 rintro vx vy H Q ⟨Hf,s,rx,ry,k⟩
 cases rx;cases ry;exact#[i,j,rfl,rfl,k _ H Hf (Grow.refl s) rfl]
noncomputable def Y9(f:DE):DE:=λy=>(f y).bind λd=>match d with
 | .str x=>if x.length<=16777216 then Oa (.int x.length) else Z
 | _=>Z
def bY4(hg:Gl X "len")(hm:X.mg "len" = Z)(h:JE X e f)(he:eQ [e] X.env=[(false,eval e X.env)]):JE X (.Call (.Name "len" p) [e] [] pos) (Y9 f):=λz d q=>by
 obtain⟨y,h1,h2⟩:=xbm q
 obtain⟨x,rfl⟩:∃x,y=.str x:=by
  cases y with
  | str x=>exact#[x,rfl]
  | _=>cases h2
 have h2:(if x.length<=16777216 then Oa (fB x.length) else Z)=Oa d:=h2;split at h2
 .rename_i hz;cases h2;refine C8 (O2 aN1 hg hm aN2 (E6 (h z _ h1) G6 he) (he:=he)) λu H Q w=>?_
  obtain⟨H0,Hf,s,sl,k⟩:=w;refine#[H0,Hf,s,sl,λv H1 Hf1 g1 r=>#[x,?_,by rw[eT];exact hz,k _ H1 Hf1 g1 rfl]];cases r;rfl
 .cases h2
noncomputable def Its(x:Str):It:=#[λi _=>i < x.cps.size,λi H v H'=>H'=H/\∃c,x.cps[i]? = Oa c/\v=.str #[(List.toArray [c])],λi _=>x.cps.size<=i]
def bx1{P:eX}{w:World}{K:af}{tg:Expr}(x:Str)(t:Tok)(it:fL):Turn P w K tg (Its x) [it] it (λi h=>h.IsStrIter it "str_ascii_iterator" x t i) where
 mem:=by simp
 obj:=λi h st b hb=>by
  have e:b=it:=by simpa using hb
  subst e;obtain⟨o,e,c,d⟩:=st;exact#[o,e,λv z=>by rw[d]at z;cases z]
 keep:=λi h h' st k=>by
  obtain⟨o,e,r⟩:=st;exact#[o,k it (by simp) o e,r]
 item:=by
  intro X hP hw hK hc i za s y H E I hf st hg;subst hP hw hK;obtain⟨f0,f1,f2,f3,f4,f5⟩:=hf it (by simp);have hi:i < x.cps.size:=hg;refine wpAny_pyNext_ascii_item st (c:=x.cps[i]) (by simp[hi]) λh' st' sb=>?_
  have I1:Inv X za y H { s with heap:=h',toks:=s.toks+1 }:=I.turned (t':=s.toks+1) (λb o hb e=>(sb.2 b hb).trans e) f0 f1 f3 f4 f5;obtain⟨o,e,c,d⟩:=id st';exact#[_,rfl,bk4 (s:={ s with heap:=h',toks:=s.toks+1 }) e c d (by decide) #[.str #[(List.toArray [x.cps[i]])],H,I1,#[_,rfl],#[rfl,_,by simp[hi],rfl],st',λb hb=>(hf b hb).1]]
 done:=by
  intro X hP hw hK hc i za s y H E I hf st hg;subst hP hw hK;obtain⟨f0,f1,f2,f3,f4,f5⟩:=hf it (by simp);have hi:x.cps.size<=i:=hg;exact wpAny_pyNext_ascii_end (I.ok.hd hc) st (by simp[hi]) λh' eb=>#[rfl,I.turned (t':=s.toks) (λb o hb e=>eb b o hb e) f0 f1 f3 f4 f5]
 self:=λ_ _ _ _ _ st h=>wpAny_pyIter_striter_ascii st h
noncomputable def aE7(x:Str):La D:=x.cps.toList.map λc=>.str #[(List.toArray [c])]
def az0(f:DE):Rho->Ob (La D):=λy=>(f y).bind λd=>match d with
 | .str x=>if x.cps.all (· < 128)=true then Oa (aE7 x) else Z
 | _=>Z
def cw9{tg e:Expr}{f:DE}(h:JE X e f):JI X tg e (az0 f):=λz ds q=>by
 obtain⟨d,e1,e2⟩:=xbm q
 obtain⟨x,rfl⟩:∃x,d=.str x:=by
  cases d with
  | str x=>exact#[x,rfl]
  | _=>cases e2
 have e2:(if x.cps.all (· < 128)=true then Oa (aE7 x) else Z)=Oa ds:=e2;split at e2
 .rename_i ha;cases e2
  rintro za s w H R I ⟨H0,Hf,ss,sl,k⟩
  refine thn (h z _ e1 za s w H (λv H'=>∃zc,Grow H Hf H' zc/\v=.str x) I #[H0,Hf,ss,sl,λv H' zc g r=>#[zc,g,r]]) ?_
  rintro v s1 ⟨y,H1,I1,r1,Hf1,g1,ey⟩
  subst ey;obtain⟨t,rfl⟩:=r1;refine wpAny_pyIter_ascii ha ?_;have I2:Inv X za w H1 { s1 with heap:=s1.heap.push { cls:=.type "str_ascii_iterator", data:=.fields (List.toArray [.str x t,.int 0 0]) } }:=I1.kept (t':=s1.toks) λb u e=>fv _ e
  refine#[_,_,_,Its x,H1,rfl,I2,bx1 x t s1.heap.objs.size,#[_,fx _ rfl,rfl,rfl],λb hb=>?_,k _ H1 Hf1 g1 λi H' zc sa sb=>#[λhi=>?_,λd hd=>?_]]
  .have hb':s1.heap.objs.size<=b:=by rw[aB]at hb;rw[hb];exact ak _
   exact I1.fpOk hb'<|I1.hok.fresh hb'
  .show x.cps.size<=i;simpa [aE7] using hi
  .unfold aE7 at hd;rw[aH]at hd;obtain⟨c,c1,c2⟩:=xmo hd;have c1':x.cps[i]? = Oa c:=by rw[<- da];exact c1
   refine#[(bX.mp c1').1,λv H'' #[h1,c',h2,h3]=>?_];subst h1 h3 c2;rw[c1']at h2;cases h2;exact#[zc,Grow.refl sb,rfl]
 .cases e2
end
end G
namespace G
open PySem PySem.Spec PyProof PyProof.Rows L2
end G
namespace G
open PySem PySem.Spec PyProof.Rows L2
section
variable {X:Cx}
def ty1(I:Inv X za y H s)(hg:Gl X x)(hm:X.mg x=Z)(hv:fe x=Oa (.type T))(hn:x ≠ "__name__")(hd:(x==("__debug__":Str))=false)
  (hs:eQ [a] X.env=[(false,eval a X.env)]) (h:ft (fu X.prog X.w) X.A (eval a X.env) (λv s1=>ft (fu X.prog X.w) X.A (call (.type T) [v]) Q E s1) E s):ft (fu X.prog X.w) X.A (eval (.Call (.Name x p) [a] [] pos) X.env) Q E s:=by
 refine Call_ (ay4 I hg hm hv (PyProof.Rows.callWith_type1 ?_ (by rw[hs];rfl)<|by rfl) hn hd);rw[hs];exact Calls.spliced_cons<|thn h λv s1 q=>Calls.spliced_nil q
end
section
variable {X:Cx}
noncomputable def lsB(x:D)(ds:La D):Prop:=fy x=true/\x.depth<=60/\ds.all fy=true/\ds.all ah8=true
instance (x:D) (ds:La D):Decidable (lsB x ds):=by unfold lsB;exact inferInstance
end
end G
namespace L2
open PySem PySem.Spec PyProof.Rows
end L2
namespace G
open PySem PySem.Spec PyProof.Rows L2
section
variable {X:Cx}
theorem aE3:∀(ys:La Str) (k:Nat),F4 (ys.map V.str) (strsFrom k ys)
 | [],_=>.nil
 | y::ys,k=>.cons #[_,rfl]<|aE3 ys (k+1)
theorem u4{K:af}{H:Hp}:∀ys:La Str,Reps K H (ys.map fD) (ys.map V.str)
 | []=>rfl
 | y::ys=>#[_,_,rfl,rfl,u4 ys]
def bA3:V->La V->Hp->VK->Prop:=λx vs H Q=>∃a y,x=.str a/\vs=[.str y]/\(y.length==0)=false/\a.length<=eR/\(Txt.split a y).length<=eR/\∀p,H p=Z->Q (.ref p) (upd H p<|.lst ((Txt.split a y).map V.str))
def bD3:MtR X "str.split" bA3:=by
 intro za s z H x vs v us Q I rx rv h;obtain⟨a,y,rfl,rfl,hy,hx,hn,q⟩:=h;obtain⟨t,rfl⟩:=rx;obtain⟨u,rfl,w,rfl⟩:=rv.one
 have go:∀ys its t',Txt.split a y=ys->F4 (ys.map V.str) its->EP X za z Q (.ref s.heap.objs.size) { s with heap:=s.heap.push { cls:=.type "list", data:=.seq its.toArray },toks:=t' }:=λys its t' e r=>by
  subst e;exact#[.ref _,_,I.lnew r (by rw[ai];exact hn),rfl,q _ I.fresh]
 cases h1:(decide (a.length < y.length) || decide (Builtin.Str.strKind a < Builtin.Str.strKind y)) with
 | true =>exact fk F.slot_str_split (typeIs_str s a t) F.entry_str_split (F.args_str_split_2 _ _) (meets_str_split_cannot_occur a y t w h1)<|go [a] [.str a t] s.toks (if_pos h1) (.cons #[_,rfl] .nil)
 | false =>
  cases hf:(Builtin.Str.occurrences a y 0 a.length<|a.length+1).isEmpty with
  | true=>exact fk F.slot_str_split (typeIs_str s a t) F.entry_str_split (F.args_str_split_2 _ _) (meets_str_split_not_found a y t w h1 hy hf) (go [a] [.str a t] s.toks ((if_neg (by rw[h1];nofun)).trans (if_pos hf))<|.cons #[_,rfl] .nil)
  | false =>
   have e:Txt.split a y=Builtin.Str.partsBetween a (Builtin.Str.occurrences a y 0 a.length<|a.length+1) y.length:=(if_neg (by rw[h1];nofun)).trans (if_neg (by rw[hf];nofun));exact fk F.slot_str_split (typeIs_str s a t) F.entry_str_split (F.args_str_split_2 _ _) (meets_str_split_sep a y t w h1 hy hf hx (by rw[<- e];exact hn))<|go _ _ _ e (aE3 _ _)
def cd6:V->La V->Hp->VK->Prop:=λx vs H Q=>∃a y,x=.str a/\vs=[.str y]/\(y.length==0)=false/\a.length<=eR/\∀p,H p=Z->Q (.ref p) (upd H p<|.tup [.str (Txt.partition a y).1,.str (Txt.partition a y).2.1,.str (Txt.partition a y).2.2])
def bW0:MtR X "str.partition" cd6:=by
 intro za s z H x vs v us Q I rx rv h;obtain⟨a,y,rfl,rfl,hy,hx,q⟩:=h;obtain⟨t,rfl⟩:=rx;obtain⟨u,rfl,w,rfl⟩:=rv.one;refine fk F.slot_str_partition (typeIs_str s a t) F.entry_str_partition (F.args_str_partition_2 _ _) (meets_str_partition a y t w hy hx) ?_
 have go:∀(b c d:Str) (t1 t2 t3 t':Tok),Txt.partition a y=(b,c,d)->EP X za z Q (.ref s.heap.objs.size) { s with toks:=t',heap:=s.heap.push { cls:=.type "tuple", data:=.seq [.str b t1,.str c t2,.str d t3].toArray } }:=λb c d t1 t2 t3 t' e=>by
  rw[e]at q;refine#[.ref s.heap.objs.size,upd H s.heap.objs.size<|.tup [.str b,.str c,.str d],I.laid (λb o e=>fv _ e) (ak _) #[by simp only[ag,aU];rw[eT];decide,[.str b t1,.str c t2,.str d t3],.cons #[_,rfl]<|.cons #[_,rfl] (.cons #[_,rfl] .nil),?_],rfl,q _ I.fresh];exact#[_,fx s.heap rfl,rfl,#[0,rfl],rfl]
 cases e:Builtin.Str.occurrences a y 0 a.length 1 with
 | nil=>exact go a fI fI _ _ _ _ (by unfold Txt.partition;rw[e])
 | cons i r=>exact go (Builtin.Str.strSub a 0 i) y (Builtin.Str.strSub a (i+y.length) a.length) _ _ _ _ (by unfold Txt.partition;rw[e])
def bg5:V->La V->Hp->VK->Prop:=λx vs H Q=>∃a y,x=.str a/\vs=[.str y]/\Q (.bl<|0+y.length<=a.length&&Builtin.Str.subAt a y 0) H
def bo9:MtR X "str.startswith" bg5:=by
 intro za s z H x vs v us Q I rx rv h;obtain⟨a,y,rfl,rfl,q⟩:=h;obtain⟨t,rfl⟩:=rx;obtain⟨u,rfl,w,rfl⟩:=rv.one;exact fk F.slot_str_startswith (typeIs_str s a t) F.entry_str_startswith (F.args_str_startswith_2 _ _) (gives_str_startswith a y t w).meets #[.bl _,H,I,rfl,q]
noncomputable def txS(a y:Str):Ob D:=if y.length≠0/\a.length<=16777216/\(Txt.split a y).length<=16777216 then Oa (.list<|(Txt.split a y).map fD) else Z
noncomputable def txP(a y:Str):Ob D:=if y.length≠0/\a.length<=16777216 then Oa (.tuple [.str (Txt.partition a y).1,.str (Txt.partition a y).2.1,.str (Txt.partition a y).2.2]) else Z
noncomputable def txB(a y:Str):Ob D:=Oa<|.bool (0+y.length<=a.length&&Builtin.Str.subAt a y 0)
noncomputable def dTx(m:Str->Str->Ob D)(f g:DE):DE:=λz=>(f z).bind λd=>(g z).bind λe=>match d,e with
 | .str a,.str y=>m a y
 | _,_=>Z
def bH4{m:Str->Str->Ob D}{name:Str}{id:String}{r:V->La V->Hp->VK->Prop}(slot:Slot "str" name id)(hty:typeOf (.builtin id)=pure (.type "method_descriptor"))(hm:MtR X id r)
  (hr:∀a y d H Hf Q,m a y=Oa d->D8 Hf H->(∀v H' zc,Grow H Hf H' zc->Rep X.K zc d v->Q v H')->r (.str a) [.str y] H Q) (ho:JE X o f) (h:JE X e g)
  (hbase:fq o name X.env (eval o X.env)=eval o X.env:=by rfl)
  (hfew:((backTo cpos (eQ [e] X.env)).all (λx=>!x.1)&&(backToKw cpos (keywordEach [] X.env)).all (λx=>x.1.isSome)
   && decide (([e]:La Expr).length+([]:La fh).length+(if([]:La fh).isEmpty then 0 else 1) < 30))=true:=by rfl)
  (hline:(apos.endLine==cpos.line)=true:=by rfl) (hs:eQ [e] X.env=[(false,eval e X.env)]:=by rfl) :
  JE X (.Call (.Attribute o name apos) [e] [] cpos) (dTx m f g):=λz d q=>by
 obtain⟨x,e1,q⟩:=xbm q;obtain⟨y,e2,q⟩:=xbm q;split at q
 .rename_i a y _;refine C8 (ax8 F.plainAttrs_str slot hty hm (ho z _ e1) (E6 (h z _ e2) G6 hs) hbase hfew hline hs) λp H Q u=>?_
  obtain⟨H0,Hf,s,sl,k⟩:=u;refine#[H0,Hf,s,sl,λv H1 Hf1 g1 r1=>?_];cases r1;refine#[rfl,H0,Hf1,g1.sub,sl.grow g1,λw H2 Hf2 g2 r2=>?_];cases r2;exact hr a y d H2 Hf2 Q q g2.sub λv H3 Hf3 g3 r3=>k v H3 Hf3 ((g1.trans g2).trans g3) r3
 .cases q
def bJ1{K:af}:∀a y d H Hf Q,txS a y=Oa d->D8 Hf H->(∀v H' zc,Grow H Hf H' zc->Rep K zc d v->Q v H')->bA3 (.str a) [.str y] H Q:=λa y d H Hf Q e s k=>by
 unfold txS at e;split at e
 .rename_i c;cases e;exact#[a,y,rfl,rfl,by simpa using c.1,by rw[eT];exact c.2.1,by rw[eT];exact c.2.2,λp hp=>k _ _ _ (Grow.laid s hp) #[p,_,rfl,SqL.of C9,u4 _]]
 .cases e
def bZ4{K:af}:∀a y d H Hf Q,txP a y=Oa d->D8 Hf H->(∀v H' zc,Grow H Hf H' zc->Rep K zc d v->Q v H')->cd6 (.str a) [.str y] H Q:=λa y d H Hf Q e s k=>by
 unfold txP at e;split at e
 .rename_i c;cases e;exact#[a,y,rfl,rfl,by simpa using c.1,by rw[eT];exact c.2,λp hp=>k _ _ _ (Grow.laid s hp) #[p,_,rfl,SqT.of C9,u4 [_,_,_]]]
 .cases e
def bp9{K:af}:∀a y d H Hf Q,txB a y=Oa d->D8 Hf H->(∀v H' zc,Grow H Hf H' zc->Rep K zc d v->Q v H')->bg5 (.str a) [.str y] H Q:=λa y d H Hf Q e s k=>by
 cases e;exact#[a,y,rfl,rfl,k _ _ _ (Grow.refl s) rfl]
def aD6:W4 X (.type "int") (λxs H Q=>∃x n,xs=[.str x]/\intText? x=Oa n/\x.length<=640/\Q (.int n) H):=by
 intro za s y H xs us Q I r h;obtain⟨x,n,rfl,e1,e2,q⟩:=h;obtain⟨u,rfl,t,rfl⟩:=aa5 r;exact PySem.W.KIN.call_text e1 e2 #[.int n,H,I.tok _,#[_,rfl],q]
noncomputable def aG0(f:DE):DE:=λy=>(f y).bind λd=>match d with
 | .str x=>if x.length<=640 then(intText? x).map fB else Z
 | _=>Z
def bY6(hg:Gl X "int")(hm:X.mg "int" = Z)(h:JE X e f)(he:eQ [e] X.env=[(false,eval e X.env)]:=by rfl):JE X (.Call (.Name "int" p) [e] [] pos) (aG0 f):=λy d q=>by
 obtain⟨x,h1,h2⟩:=xbm q;split at h2
 .split at h2
  .rename_i c;obtain⟨n,e1,e2⟩:=xmo h2;subst e2;exact C8 (R7 aD6 hg hm aN3 (E6 (h y _ h1) G6 he) (he:=he)) λz H Q #[H0,Hf,s,sl,k] =>#[H0,Hf,s,sl,λv H1 Hf1 g1 r=>#[_,n,by rw[show v=_ from r],e1,c,k _ H1 Hf1 g1 rfl]]
  .cases h2
 .cases h2
end
def cn0:typeLookup (.type "list_reverseiterator") "__len__" = pure Z:=by rw[typeLookup_type,builtinLookup_eq_fast];kernel_rfl
def bR9:typeLookup (.type "list_reverseiterator") "__length_hint__" = pure (Oa<|.builtin "list_reverseiterator.__length_hint__"):=by rw[typeLookup_type,builtinLookup_eq_fast];kernel_rfl
section
variable {P:Program}{w:World}{A:Around}{E:Value->Shared->Prop}{s:Shared}
def aV3{Q:La fJ->fK->Prop}{it l:fL}{items:Array fJ}(hh:A.handled=Z)(hne:l≠it)(h0:s.heap.IsRevIter it l ((items.size:Int) - 1))(hl:s.heap.IsList l items)(hz:items.size<=eR)
  (h:∀s' acc,(∀b o,b≠it->s.heap.get? b=Oa o->s'.heap.get? b=Oa o)->s'={ s with heap:=s'.heap,toks:=s'.toks }->s.toks<=s'.toks->ItemsOf (λi v=>items[items.size - 1 - i]? = Oa v) acc items.size->Q acc.toList s'):ft (fu P w) A (collect<|.ref it) Q E s:=by
 have W:=(Walks.listRev (prog:=P) (w:=w) (A:=A.in1) hh it l hne items).toS;have li:it < s.heap.objs.size:=let#[o,ho,_]:=h0;fw ho
 have ll:l < s.heap.objs.size:=let#[o,ho,_]:=hl;fw ho
 obtain⟨S,eS⟩:∃S,S=s.heap.objs.size:=#[_,rfl]
 have hSf:S∉[it,l]:=by
  intro z;simp only[ao,aM,or_false]at z;rcases z with z|z
  .exact dn li (eS.symm.trans z)
  .exact dn ll (eS.symm.trans z)
 have n1:S≠it:=by rw[eS];exact dn li
 unfold collect;refine eF (wpAny_runValue<|codeAny_builtin entry_proto_collect' ?_);rw[Around.under_plainId PySem.F.plain_proto_collect _];show ft _ A.in1 (newList [] >>= λl=>again<|.builtin "list.__iadd__" #[[l,.ref it],[]]) _ _ s;refine eF (eK<|eG #[plainId_quiet PySem.F.plain_list_iadd _,codeAny_builtin entry_list_iadd' ?_]);rw[Around.under_plainId PySem.F.plain_list_iadd _,<- eS];show ft _ A.in1 (Builtin.List.listExtendWith (.ref S) (.ref it)<|.ref S) _ _ { s with heap:=s.heap.push { cls:=.type "list", data:=.seq (List.toArray []) } };have hS:(s.heap.push { cls:=.type "list", data:=.seq (List.toArray []) }).get? S=Oa { cls:=.type "list", data:=.seq (List.toArray []) }:=by rw[eS];exact fx _ rfl
 have k1:∀b o,s.heap.get? b=Oa o->(s.heap.push { cls:=.type "list", data:=.seq (List.toArray []) }).get? b=Oa o:=λb o q=>fv _ q
 generalize s.heap.push { cls:=.type "list", data:=.seq (List.toArray []) }=h1 at hS k1;have r1:h1.IsRevIter it l ((items.size:Int) - 1):=h0.at λo e=>k1 _ _ e
 have hT1:Shared.TypeIs { s with heap:=h1 } (.ref it) "list_reverseiterator" := Heap.IsRevIter.typeIs (s:={ s with heap:=h1 }) r1;unfold Builtin.List.listExtendWith;refine eF (wpAny_typeOf (T := "list_reverseiterator") hT1 ?_);have q1:Builtin.List.listSameRef (.ref S) (.ref it)=false:=by simp[Builtin.List.listSameRef,n1]
 have q2:(Value.type "list_reverseiterator" == Value.type "list")=false:=by decide
 have q3:(Value.type "list_reverseiterator" == Value.type "tuple")=false:=by decide
 simp only[q1,q2,q3,cZ,be,if_false];refine eF (wpAny_pyIter_revIter (s:={ s with heap:=h1 }) r1 ?_);refine eF (wpAny_holding ?_);unfold Builtin.List.listLengthHint;refine eF (wpAny_specialOf hT1 cn0 ?_);refine eF (wpAny_specialOf hT1 bR9 ?_);generalize hid:("list_reverseiterator.__length_hint__" : String)=id1
 wp_delta
 rw[show splitId id1=Oa ("list_reverseiterator","__length_hint__") from by subst hid;decide +kernel];subst hid;refine eF (wpAny_isInstance (T := "list_reverseiterator") (b:=true) hT1 (by rw[isSubtype_type];kernel_rfl) ?_);refine eG ?_;rw[if_neg (by decide)];refine eG #[plainId_quiet PySem.F.plain_extend_loop _,codeAny_extend_loopS W hz S hSf _ items.size 0 { s with heap:=h1 } (List.toArray []) 0 rfl (aA _) #[aA _,by simpa using r1,hl.at λo e=>k1 _ _ e] hS (ItemsOf.nil _) λs' acc c m e1 e2=>?_];show ft _ A (load S >>= _) _ _ s';refine eF<|wpAny_load e1 (eG<|h s' acc (λb o hb e=>m.heap b o ?_<|k1 b o e) ?_ m.toks e2)
 .intro z;simp only[ao,aM,or_false]at z;rcases z with z|z
  .exact aP (fw e) (z.trans eS)
  .exact hb z
 .obtain⟨_,g,d,o,_⟩:=m;obtain⟨a1,a2,a3,a4,a5⟩:=s';simp at g d o |-;exact#[g,d,o]
end
section
variable {X:Cx}
def aM8(f:DE)(g:Rho->Ob (Bool×La D)):DE:=λy=>(f y).bind λs=>(g y).bind λq=>match s,q with
 | .str sep,(false,ds)=>(ar2 ds).bind λys=>if N6 sep ys.reverse<=16777216/\(Builtin.Str.glued sep ys.reverse).length<=16777216/\ys.length<=16777216 then Oa (.str<|Builtin.Str.glued sep ys.reverse) else Z
 | _,_=>Z
def bG2{Q:fJ->fK->Prop}{A:eY}{E:fJ->fK->Prop}{P:eX}{w:World}{s:fK}{it l:fL}{sep:Str}{t:Tok}{ys:La (Str×Tok)}(hh:A.handled=Z)(hne:l≠it)(h0:s.heap.IsRevIter it l ((((strValues ys).toArray.size:Nat):Int) - 1))(hl:s.heap.IsList l (strValues ys).toArray)(hz:ys.length<=eR)
  (h2:N6 sep (ys.map (·.1)).reverse<=eR) (h3:(Builtin.Str.glued sep (ys.map (·.1)).reverse).length<=eR)
  (h:∀h' k u,(∀b o,b≠it->s.heap.get? b=Oa o->h'.get? b=Oa o)->Q (.str (Builtin.Str.glued sep (ys.map (·.1)).reverse) u) { s with heap:=h',toks:=k }):ft (fu P w) A (call (.builtin "str.join") [.str sep t,.ref it]) Q E s:=by
 have hT:s.TypeIs (.ref it) "list_reverseiterator" := h0.typeIs;refine wpAny_call (codeAny_call_builtin F.slot_str_join.plain F.entry_str_join<|F.slot_str_join.check _ _ _ _ _ _ _ _ (typeIs_str _ _ _) (F.args_str_join_2 _ _) ?_);show ft _ A.in1 (typeOf (.ref it) >>= λty=>if(ty == .type "list" || ty == .type "tuple")=true then _ else((pyIter<|.ref it).tryCatch _ >>= λi=>collect i >>= λitems=>joinTail sep items)) _ _ s;refine eF (wpAny_typeOf hT ?_);rw[if_neg (by decide)];refine eF (wpAny_tryCatch<|wpAny_pyIter_revIter h0 ?_);refine eF (aV3 (A:=A.in1) (items:=(strValues ys).toArray) hh hne h0 hl (by simpa [strValues] using hz) λs' acc k1 k2 k3 k4=>?_)
 have e:acc.toList=strValues ys.reverse:=by
  obtain⟨z1,z2⟩:=k4;have e1:strValues ys.reverse=(strValues ys).reverse:=by unfold strValues;rw[dP]
  rw[e1];apply dF;intro j;rw[da];by_cases hj:j < acc.size
  .have:=z2 j _ (dG hj);rw[dG hj,<- this,List.getElem?_reverse (by rw[z1]at hj;simpa using hj)];simp
  .rw[Array.getElem?_eq_none (by omega),cF (by rw[z1]at hj;simpa using hj)]
 rw[e]
 have g:∀l:La (Str×Tok),Builtin.Str.tooLong ((l.map (·.1)).toArray.foldl (·+·.length+sep.length) 0)=false->Gives (joinTail sep<|strValues l) (joinMade sep l):=λl hl=>by
  have g0:=gives_joinTail sep l hl;cases l with
  | nil=>exact g0
  | cons p r=>cases r with
   | nil=>exact g0
   | cons q r'=>exact g0
 have hj:Builtin.Str.tooLong ((ys.reverse.map (·.1)).toArray.foldl (·+·.length+sep.length) 0)=false:=by show decide (N6 sep (ys.reverse.map (·.1)) > eR)=false;rw[dP];exact decide_eq_false (by omega)
 have k0:∀u k,Q (.str (Builtin.Str.glued sep (ys.map (·.1)).reverse) u) { s' with toks:=k }:=λu k=>by rw[k2];exact h _ _ _ k1
 rw[<- dP]at h3 k0;refine g _ hj P w A (wants Q E) s' (post_join ys.reverse #[h3,λt' k=>?_]);exact k0 t' k
def bI0(hc:X.calm=true)(gr:Gl X "reversed")(mr:X.mg "reversed" = Z)(ho:JE X o f)(h:JQ X e g)
  (hbase:fq o "join" X.env (eval o X.env)=eval o X.env) (hline:(apos.endLine==cpos.line)=true) (hs:eQ [e] X.env=[(false,eval e X.env)]) :
  JE X (.Call (.Attribute o "join" apos) [.Call (.Name "reversed" p1) [e] [] p2] [] cpos) (aM8 f g):=λz d q=>by
 obtain⟨x,e1,q⟩:=xbm q;obtain⟨y,e2,q⟩:=xbm q;split at q
 .rename_i sep ds _;obtain⟨ys,e3,q⟩:=xbm q;split at q
  .rename_i hz;cases q;rw[<- eT]at hz
   rintro za s w H Q I ⟨H0,Hf,ss,sl,k⟩
   refine wpAny_Call_method_late hbase rfl hline rfl (thn (ho z _ e1 za s w H (λv H'=>v=.str sep/\∃zc,Grow H Hf H' zc) I #[H0,Hf,ss,sl,λv H1 Hf1 g1 r1=>#[by cases r1;rfl,Hf1,g1]]) ?_)
   rintro v s1 ⟨x,H1,I1,r1,ex,Hf1,g1⟩
   subst ex;obtain⟨h1,h2⟩:=bx0 (T := "str") I1 r1 rfl;refine#["str","str.join", F.plainAttrs_str,F.slot_str_join,F.type_str_join,h1,h2,Calls.callWith_builtin rfl<|Calls.evalArgs_plain ?_];obtain⟨t,rfl⟩:=r1;refine Calls.spliced_cons (ty1 I1 gr mr rfl (by decide) (by decide) hs ?_);refine thn (h z _ _ e2 za s1 w H1 (λv H'=>∃zc,Grow H1 Hf1 H' zc/\RQ X.K false ds v H' zc) I1 #[H0,Hf1,g1.sub,sl.grow g1,λv H2 Hf2 g2 r2=>#[Hf2,g2,r2]]) ?_
   rintro u s2 ⟨x,H2,I2,r2,Hf2,g2,l,vs,e4,e5,e6⟩
   subst e4;cases r2;rw[ae3 e3 e6]at e5;obtain⟨its,b1,b2,_⟩:=I2.list e5;obtain⟨us,rfl,rfl⟩:=aI3 b1;refine call_reversed_list b2.isList ?_;have kp:∀b o,s2.heap.get? b=Oa o->(s2.heap.push<|revObj l ((((strValues us).toArray.size:Nat):Int) - 1)).get? b=Oa o:=λb o q=>fv _ q
   have ll:l < s2.heap.objs.size:=let#[o,ho,_]:=b2.isList;fw ho
   refine Calls.spliced_nil (bG2 (l:=l) (ys:=us) (I1.ok.hd hc) (aP ll) #[_,fx _ rfl,rfl,rfl] (b2.isList.at λo e=>kp _ _ e) (by simpa using hz.2.2) hz.1 hz.2.1 λh' tk u kk=>?_);exact#[.str _,H2,I2.kept λb o e=>kk b o (aP<|fw e)<|kp b o e,#[_,rfl],k _ H2 Hf2 (g1.trans g2) rfl]
  .cases q
 .cases q
def rZf:V->La V->Hp->VK->Prop:=λx vs H Q=>∃a i,x=.str a/\vs=[.int i]/\PadOk i=true/\Q (.str<|Txt.zfill a i) H
def cJ2:MtR X "str.zfill" rZf:=by
 intro za s y H x vs v us Q I rx rv h;obtain⟨a,i,rfl,rfl,hp,q⟩:=h;obtain⟨t,rfl⟩:=rx;obtain⟨u,rfl,w,rfl⟩:=rv.one;exact SC.zfill hp λt' k=>#[.str _,H,I.tok _,#[_,rfl],q]
noncomputable def dZf(f g:DE):DE:=λy=>(f y).bind λd=>(g y).bind λe=>match d,e with
 | .str a,.int i=>if PadOk i=true then Oa (.str<|Txt.zfill a i) else Z
 | _,_=>Z
def cL6(ho:JE X o f)(h:JE X e g)
  (hbase:fq o "zfill" X.env (eval o X.env)=eval o X.env:=by rfl)
  (hfew:((backTo cpos (eQ [e] X.env)).all (λx=>!x.1)&&(backToKw cpos (keywordEach [] X.env)).all (λx=>x.1.isSome)
   && decide (([e]:La Expr).length+([]:La fh).length+(if([]:La fh).isEmpty then 0 else 1) < 30))=true:=by rfl)
  (hline:(apos.endLine==cpos.line)=true:=by rfl) (hs:eQ [e] X.env=[(false,eval e X.env)]:=by rfl) :
  JE X (.Call (.Attribute o "zfill" apos) [e] [] cpos) (dZf f g):=λz d q=>by
 obtain⟨x,e1,q⟩:=xbm q;obtain⟨y,e2,q⟩:=xbm q;split at q
 .split at q
  .rename_i hp;cases q;refine C8 (ax8 F.plainAttrs_str F.slot_str_zfill F.type_str_zfill cJ2 (ho z _ e1) (E6 (h z _ e2) G6 hs) hbase hfew hline hs) λr H Q u=>?_
   obtain⟨H0,Hf,s,sl,k⟩:=u;refine#[H0,Hf,s,sl,λv H1 Hf1 g1 r1=>?_];cases r1;refine#[rfl,H0,Hf1,g1.sub,sl.grow g1,λw H2 Hf2 g2 r2=>?_];cases r2;exact#[_,_,rfl,rfl,hp,k _ H2 Hf2 (g1.trans g2) rfl]
  .cases q
 .cases q
end
section
variable {X:Cx}
theorem aQ5{K:af}{H:Hp}{d:D}{v:V}(r:Rep K H d v):∀{ds:La D}{vs:La V},Reps K H ds vs->∀j,Reps K H (ds.set j d) (vs.set j v)
 | [],_,h,j=>by cases(show _=[] from h);exact h
 | d'::ds,_,#[v',r',e,h1,h2],0=>by subst e;exact#[v,r',rfl,r,h2]
 | d'::ds,_,#[v',r',e,h1,h2],j+1=>by subst e;exact#[v',_,rfl,h1,aQ5 r h2 j]
def bn7(i:Nat)(g f:DE):DS:=λy=>(f y).bind λd=>(g y).bind λk=>match k,y[i]? with
 | .int k,Oa (Oa (.own ds))=>(ixN ds.length k).map λj=>.nx<|y.set i (Oa<|.own (ds.set j d))
 | _,_=>Z
def cv5(i:Nat)(he:JE X e f)(hg:JE X ie g)(hN:X.N[i]? = Oa x)(hv:Vis X.env.scope x)(hd:(x==("__debug__":Str))=false)(hcd:(x==("__classdict__":Str))=false)
  (hsw:swapsWith e (Oa<|.Subscript (.Name x p) ie pos') pos.line X.env=pure false):JS X (.Assign [.Subscript (.Name x p) ie pos'] e pos) (bn7 i g f):=λy fl q H0 Hf0=>by
 obtain⟨d,e1,q⟩:=xbm q;obtain⟨kd,e2,q⟩:=xbm q;split at q
 .rename_i k ds eo;obtain⟨j,ej,q⟩:=xmo q;cases q
  rintro za s w H En I ⟨Hf,a,ee⟩
  refine wpAny_Assign_Subscript (thn (he y d e1 za s w H (λv H'=>∃zc,Grow H Hf H' zc/\Rep X.K zc d v) I #[H0,Hf,a.gr.sub,a.sl,λv H' zc g r=>#[zc,g,r]]) ?_) hsw
  rintro u s1 ⟨v1,H1,I1,r1,Hf1,g1,rd⟩
  obtain⟨vl0,h1,c,vs,ev,h2,h3,h4,h5⟩:=a.sl.is i _ eo;subst ev;refine thn (P4 hN hv hd hcd za s1 w H1 (λv H'=>v=.ref c/\H'=H1) I1 #[_,h1,rfl,rfl]) ?_
  rintro ov s2 ⟨x2,H2,I2,r2,ex,eH⟩
  subst ex eH;have sl1:=a.sl.grow g1;refine thn (hg y _ e2 za s2 w H2 (λv H'=>∃zc,Grow H2 Hf1 H' zc/\Rep X.K zc (.int k) v) I2 #[H0,Hf1,g1.sub,sl1,λv H' zc g r=>#[zc,g,r]]) ?_
  rintro iv s3 ⟨v3,H3,I3,r3,Hf3,g3,rk⟩
  cases(show v3=.int k from rk);have sl3:=sl1.grow g3;have gg:Grow H Hf H3 Hf3:=g1.trans g3;have hc:H3 c=Oa (.lst vs):=gg.big _ _ h2;have hfc:Hf3 c=Z:=gg.nofr h2 h3;have ga:=a.gr.trans gg;refine eJ (bz5 za s3 w H3 _ _ _ _ _ _ (λH'=>H'=upd H3 c (.lst<|vs.set j v1)) I3 r2 r3 r1 #[c,vs,k,j,rfl,rfl,hc,h5.length ▸ ej,rfl]) ?_ λ_ _ z=>z
  rintro _ s' ⟨H',I',e'⟩
  subst e';refine#[w,_,I',ee w _ Hf3 #[#[λd u zz=>?_,λd u zz=>?_,ga.ext,ga.new],sl3.reOwn eo h1 hfc h4<|aQ5 (rd.mono g3.ext) (h5.mono gg.ext) j] gg.ext]
  .rw[D0 (D9 zz h4)];exact ga.big d u zz
  .rw[D0 (D9 zz hfc)];exact ga.sub d u zz
 .cases q
end
section
variable {X:Cx}
noncomputable def inL(neg:Bool)(x y:D):Ob D:=match y with
 | .list ds=>if x.canLay0=true/\PyData.canLayAll0 ds=true/\x.depth<=60 then Oa (.bool<|neg != ds.any λz=>fA z x) else Z
 | .tuple ds=>if x.canLay0=true/\PyData.canLayAll0 ds=true/\x.depth<=60 then Oa (.bool<|neg != ds.any λz=>fA z x) else Z
 | _=>Z
def bk3{x:D}{ds:La D}(hu:X.A.units+64 < cLine)(h:x.depth<=60):X.A.units+1+min (PyData.depthAll ds) x.depth < cLine:=by
 have:=Nat.min_le_right (PyData.depthAll ds) x.depth;omega
def cr2(hu:X.A.units+64 < cLine):OpD X (eU .In) (inL false):=λx y z h za s w H vx vy v u Q I rx ry #[Hf,ss,r1,r2,k]=>by
 obtain⟨as,ra⟩:=Rep.reads I (r1.mono ss) rx;obtain⟨bs,rb⟩:=Rep.reads I (r2.mono ss) ry;unfold inL at h;split at h
 .split at h
  .rename_i c;cases h;exact SeqAt.in_list_reads rb ra c.2.1 c.1 (bk3 hu c.2.2) #[.bl _,H,I,rfl,k _ H Hf (Grow.refl ss) (by rw[du];rfl)]
  .cases h
 .split at h
  .rename_i c;cases h;exact SeqAt.in_tuple_reads rb ra c.2.1 c.1 (bk3 hu c.2.2) #[.bl _,H,I,rfl,k _ H Hf (Grow.refl ss) (by rw[du];rfl)]
  .cases h
 .cases h
def bo6(hu:X.A.units+64 < cLine):OpD X (eU .NotIn) (inL true):=λx y z h za s w H vx vy v u Q I rx ry #[Hf,ss,r1,r2,k]=>by
 obtain⟨as,ra⟩:=Rep.reads I (r1.mono ss) rx;obtain⟨bs,rb⟩:=Rep.reads I (r2.mono ss) ry;unfold inL at h;split at h
 .split at h
  .rename_i c;cases h;exact SeqAt.notIn_list_reads rb ra c.2.1 c.1 (bk3 hu c.2.2) #[.bl _,H,I,rfl,k _ H Hf (Grow.refl ss) (by rw[cM];rfl)]
  .cases h
 .split at h
  .rename_i c;cases h;exact SeqAt.notIn_tuple_reads rb ra c.2.1 c.1 (bk3 hu c.2.2) #[.bl _,H,I,rfl,k _ H Hf (Grow.refl ss) (by rw[cM];rfl)]
  .cases h
 .cases h
end
end G
namespace G
open PySem PySem.Spec PySem.W PyProof.Rows L2 PySem.SeqAt
end G
namespace G
open PySem PySem.Spec PyProof.Rows L2 PySem.SeqAt PySem.MeetsSeq PySem.MeetsSeq2 PySem.MeetsSeq3 PySem.SeqRoads2
open PySem.AutoSeq1 (wpAny_loadPart')
def Lx(e:Nat->Bool)(P:Nat->Prop)(m:Nat)(fin:Prop):Prop:=(∃j,j < m/\(∀i,i < j->e i=true)/\e j=false/\P j)\/((∀i,i < m->e i=true)/\fin)
end G
namespace G
open PySem PySem.Spec PyProof.Rows L2
def ao5(K:af)(x:Str):Bool:=match clA K x with
 | some C=>bQ K C veB "ValueError.__new__"
 | none=>false
abbrev RD:=Rho->Ob (Str×Rho)
def EC(C:fL)(H1:Hp):XK:=λcls _ H'=>cls=.ref C/\D8 H1 H'
def Ou(X:Cx)(m:Bool)(za:La (fL×Obj))(ρ1:Rho)(C:fL)(H0 Hf0:Hp)(e:fJ)(s':fK):Prop:=∃σ1 H1 Hf1 s1,Inv X za σ1 H1 s1/\At X.K H0 Hf0 ρ1 σ1 H1 Hf1 /\
 ((m=true/\∃h' a vs,s'={ s1 with heap:=h' }/\e=.ref a/\Heap.MadeExcOf s1.heap h' a (.ref C) vs)\/CX1 X.prog X.w X.stack H1 s1 (EC C H1) e s')
def Lo(X:Cx)(C:fL)(H0:Hp)(e:fJ)(s':fK):Prop:=ft (fu X.prog X.w) X.A (leaving X.env e) (λ_ s''=>CX1 X.prog X.w X.outer X.H₀ X.s₀ (EC C H0) e s'') (λe' s''=>CX1 X.prog X.w X.outer X.H₀ X.s₀ (EC C H0) e' s'') s'
def Ot(X:Cx)(m:Bool)(za:La (fL×Obj))(ρ1:Rho)(C:fL)(H0 Hf0:Hp)(e:fJ)(s':fK):Prop:=Ou X m za ρ1 C H0 Hf0 e s'\/(m=true/\Lo X C H0 e s')
def JR(X:Cx)(m:Bool)(st:Stmt)(r:RD):Prop:=∀y x ρ1 C,r y=Oa (x,ρ1)->clA X.K x=Oa C->∀H0 Hf0 za s z H Hf,Inv X za z H s->At X.K H0 Hf0 y z H Hf ->
 ft (fu X.prog X.w) X.A (exec st X.env) (λ_ _=>False) (Ot X m za ρ1 C H0 Hf0) s
def JRs(X:Cx)(m:Bool)(sts:La Stmt)(r:RD):Prop:=∀y x ρ1 C,r y=Oa (x,ρ1)->clA X.K x=Oa C->∀H0 Hf0 za s z H Hf,Inv X za z H s->At X.K H0 Hf0 y z H Hf ->
 ft (fu X.prog X.w) X.A (execs sts X.env) (λ_ _=>False) (Ot X m za ρ1 C H0 Hf0) s
def PX(X:Cx)(m:Bool)(e:Expr)(r:RD):Prop:=∀y x ρ1 C,r y=Oa (x,ρ1)->clA X.K x=Oa C->∀H0 Hf0 za s z H Hf,Inv X za z H s->At X.K H0 Hf0 y z H Hf ->
 ft (fu X.prog X.w) X.A (eval e X.env) (λ_ _=>False) (Ot X m za ρ1 C H0 Hf0) s
def noX{y:Type}{t:Sem y}{Q Q':y->fK->Prop}{M:Model}{A:eY}{E E':fJ->fK->Prop}{s:fK}(hx:∀e s,E e s->False)(h:ft M A t Q E s)(hQ:∀a s,Q a s->Q' a s):ft M A t Q' E' s:=eJ h hQ λe s z=>(hx e s z).elim
section
variable {X:Cx}{m:Bool}(hx:∀e s,X.xe e s->False)
include hx
omit hx in
def bX5{st:Stmt}{r:RD}(h1:JR X m st r):JRs X m [st] r:=λy x ρ1 C q hC H0 Hf0 za s w H Hf I at_ =>wpAny_execs_cons<|thn (h1 y x ρ1 C q hC H0 Hf0 za s w H Hf I at_) λ_ _ z=>z.elim
def spR(K:af)(n:Nat)(R:La D->Ob Str):Sp:=λvs H _ E=>vs.length=n/\∃Hf ds x C,D8 Hf H/\Reps K Hf ds vs/\R ds=Oa x/\clA K x=Oa C/\∀H',D8 H H'->E (.ref C) Z H'
omit hx in
def cw2(h:PX X m e r):JR X m (.Return (Oa e) pos) r:=λy x ρ1 C q hC H0 Hf0 za s w H Hf I at_ =>wpAny_Return_some<|thn (h y x ρ1 C q hC H0 Hf0 za s w H Hf I at_) λ_ _ z=>z.elim
end
section
variable {M:Model}{A:Around}{E:Value->Shared->Prop}{h:Heap}{g:Array GenState}{d:Drawn}{t:Nat}{os:OsState}
variable {nm qn nm2 qn2:Str}{C N D N2:Addr}{bs bm bs2 bm2:La Value}{hd hd2:Bool}{sn sn2:La Str}{sub sub2:La Value}{ab ab2:Bool}{col col2:Ob Bool}{dd dd2:Ob Addr}{k0 k1 k2 k3 k5 j0 j1 j2 j3 j5:Ob Value}{nid nid2:String}
def cU0(hC:h.get? C=Oa (excClassObj nm qn C N bs bm hd sn sub ab col dd k0 k1 k2 k3 k5 nid))(hD:h.get? D=Oa (excClassObj nm2 qn2 D N2 bs2 bm2 hd2 sn2 sub2 ab2 col2 dd2 j0 j1 j2 j3 j5 nid2))
  (he:h.get? e=Oa oe) (hcls:oe.cls=.ref C) (hb:bm2.contains (.type "BaseException")=true) (hq:Q ((fF C::bm).contains<|.ref D) #[h,g,d,t,os]):ft M A (excMatches (.ref e)<|.ref D) Q E #[h,g,d,t,os]:=by
 have cB:(fF D::bm2).contains (.type "BaseException")=true:=by rw[List.contains_cons,hb,Bool.or_true]
 have f:=tc_notTuple;generalize hb:(fF C::bm).contains (.ref D)=b at hq;unfold excMatches
 repeat (first|(with_reducible refine wpAny_loadPart_at he ?_;rw[hcls])|with_reducible refine wpAny_loadPart_at hD ?_|(with_reducible refine wpAny_isSubtype_exc hD ?_;rw[cB])|(with_reducible refine wpAny_isSubtype_exc hC ?_;rw[hb])|wp_step)
 cases b<;>(wp_walk;exact hq)
end
abbrev Cx.held(X:Cx)(e:fJ):Cx:={ X with A:=X.A.mark (Oa e),calm:=false }
section
variable {X:Cx}{za:La (Addr×Obj)}{y:L2.St}{H:Hp}{s:Shared}
theorem Inv.held(I:Inv X za y H s)(e:fJ):Inv (Cx.held X e) za y H s :=
 #[#[I.ok.mod,I.ok.kind,I.ok.glob,I.ok.blt,I.ok.above,I.ok.inj,I.ok.has,I.ok.cab,(λz=>by cases z),I.ok.frames,I.ok.stk,I.ok.exf,I.ok.bs,I.ok.bsz,I.ok.noex,I.ok.exfs,I.ok.funs,I.ok.frf],I.os,I.bare,I.base,I.loc,I.cell,I.free,I.freeC,I.pin,I.hok,I.len]
def Inv.unheld(I:Inv (Cx.held X e) za y H s)(ok:X.Ok):Inv X za y H s:=#[ok,I.os,I.bare,I.base,I.loc,I.cell,I.free,I.freeC,I.pin,I.hok,I.len]
def Inv.wipe(I:Inv X za y H s)(hn:h'.Ns X.env.locals m')(hs:Heap.SameBut X.env.locals s.heap h'):Inv X za (av y.length Z) H { s with heap:=h',toks:=tk }:=by
 have ne0:∀b o,X.s₀.heap.get? b=Oa o->b≠X.env.locals:=λb o e z=>by
  have:=fw e;rw[z]at this;exact absurd (aG this I.ok.above)<|bu _
 have eq:∀b,b≠X.env.locals->h'.get? b=s.heap.get? b:=λb hb=>hs.2 b hb
 refine#[I.ok,I.os,I.bare,#[λb o e n hb hx=>?_,λb o e n hb hx=>?_,I.base.free,λb o e hx=>?_,I.base.tups,I.base.frzs,I.base.tbls],#[m',hn,λi x v _ e _=>?_],λx c e=>?_,I.free,I.freeC,λp hp=>?_,λa o e=>?_,by rw[bN];exact I.len]
 .show h'.get? b=_;rw[eq b (ne0 b o e)];exact I.base.keep b o e n hb hx
 .obtain⟨sl,q⟩:=I.base.slot b o e n hb hx;exact#[sl,by show h'.get? b=_;rw[eq b (ne0 b o e)];exact q]
 .obtain⟨o',q⟩:=I.base.there b o e hx;exact#[o',by show h'.get? b=_;rw[eq b (ne0 b o e)];exact q]
 .rw[bh]at e;split at e<;>cases e
 .obtain⟨v,o,q1,q2⟩:=I.cell x c e;exact#[v,o,by show h'.get? c=_;rw[eq c (I.cne x c e)];exact q1,q2]
 .obtain⟨q1,q2,q3,q4,q5⟩:=I.pin p hp;exact#[by show h'.get? p.1=_;rw[eq p.1 q3];exact q1,q2,q3,q4,q5]
 .refine(I.hok a o e).stay (λb u hb q=>?_) (λ_ q=>q) λ_ _ q=>q
  show h'.get? b=_;rw[eq b λz=>?_]
  .exact q
  .have f:=I.free;rcases hb with rfl|hb
   .rw[z,f]at e;cases e
   .rw[z,f]at hb;cases hb
end
def P8.is(x:P8 P w H h a o):∃u,h.get? a=Oa u:=by
 cases o with
 | lst xs=>obtain⟨_,_,_,_,e⟩:=x;exact#[_,e]
 | tup xs=>obtain⟨_,_,_,ob,e,_⟩:=x;exact#[_,e]
 | dK kvs=>obtain⟨_,_,_,_,ob,_,_,e,_⟩:=x;exact#[_,e]
 | dT kvs=>obtain⟨_,_,_,_,ob,_,_,e,_⟩:=x;exact#[_,e]
 | set S n=>obtain⟨ob,_,_,_,e,_⟩:=x;exact#[_,e]
 | ins C dx fs=>obtain⟨_,_,_,e,_⟩:=x;exact#[_,e]
 | own y=>exact x
 | xd fs=>obtain⟨_,⟨ob,_,_,e,_⟩,_⟩:=x;exact#[_,e]
 | rng lo hi=>obtain⟨_,_,_,e⟩:=x;exact#[_,e]
 | frz ob u=>obtain⟨e,_⟩:=x;exact#[_,e]
 | tbl ps=>exact#[_,x]
 | met f y=>exact#[_,x]
 | ext z=>obtain⟨_,e,_⟩:=x;exact e
section
variable {X:Cx}{za:La (Addr×Obj)}{y:L2.St}{H:Hp}{s:Shared}{a:Addr}{oe:Obj}
noncomputable abbrev fz(oe:Obj)(a:fL):HO:=.frz oe<|.own a
def Inv.track(I:Inv X za y H s)(ha:H a=Z)(e:s.heap.get? a=Oa oe)(n0:X.s₀.heap.get? a=Z)(np:∀p∈X.pn++za,p.1≠a)(nl:X.env.locals≠a)(nc:∀x c,X.env.cells.lookup x=Oa c->c≠a):Inv X za y (upd H a<|fz oe a) s:=by
 have nb:∀b o,X.s₀.heap.get? b=Oa o->b≠a:=λb o q z=>by rw[z,n0]at q;cases q
 have up:∀b o,H b=Oa o->upd H a (fz oe a) b=Oa o:=λb o q=>by rw[D0 (λz=>by rw[z,ha]at q;cases q)];exact q
 refine#[I.ok,I.os,I.bare,#[I.base.keep,I.base.slot,λb o q n hx=>?_,I.base.there,λb xs q=>up b _<|I.base.tups b xs q,λb o u q=>up b _<|I.base.frzs b o u q,λb ps q=>?_],I.loc,I.cell,?_,λx c q=>?_,λp hp=>?_,λb o q=>?_,I.len]
 .rw[D0 (nb b o q)];exact I.base.free b o q n hx
 .obtain⟨more,z⟩:=I.base.tbls b ps q;exact#[more,up b _ z]
 .rw[D0 nl];exact I.free
 .rw[D0 (nc x c q)];exact I.freeC x c q
 .obtain⟨q1,q2,q3⟩:=I.pin p hp;exact#[q1,by rw[D0 (np p hp)];exact q2,q3]
 .by_cases hb:b=a
  .subst hb;rw[C9]at q;cases q;exact#[e,oe,e]
  .rw[D0 hb]at q;exact(I.hok b o q).stay (λ_ _ _ z=>z) (λc z=>up c _ z) λc xs z=>up c _ z
def bb6(sm:D8 H1 H')(sb:D8 Hf1 H1)(ha:H' a=Z):Grow H1 Hf1 (upd H' a<|fz oe a) (upd Hf1 a<|fz oe a):=by
 have h1:H1 a=Z:=sm.free ha;have h2:Hf1 a=Z:=sb.free h1;refine#[λb o q=>?_,λb o q=>?_,λb o q=>?_,λb q=>?_]
 .rw[D0 (D9 q h1)];exact sm b o q
 .by_cases hb:b=a
  .subst hb;rw[C9]at q |-;exact q
  .rw[D0 hb]at q |-;exact sm b o<|sb b o q
 .rw[D0 (D9 q h2)];exact q
 .by_cases hb:b=a
  .subst hb;exact .inr h1
  .rw[D0 hb]at q;exact .inl q
end
def by1(K:af)(x c:Str):Bool:=match clA K x,clA K c with
 | some C,Oa D=>(match K.lookup C with
  | some #[_,_,.cls cd,_]=>cd.mro.contains<|.ref D
  | _=>false)
 | _,_=>false
noncomputable def al5(r:RD)(f:DS)(i:Nat)(g:DS):DS:=λy=>match r y with
 | some (x,ρ1)=>(match g (ρ1.set i (Oa (.exc x))) with
  | some (.rt d)=>Oa<|.rt d
  | _=>Z)
 | none=>f y
def Slots.setExc{K:af}{H0 H Hf:Hp}{y:Rho}{z:L2.St}(s:Slots K H0 y z H Hf){i:Nat}{x:Str}{v:V}(hb:SB K H0 H Hf (.exc x) v):Slots K H0 (y.set i<|Oa (.exc x)) (z.set i<|Oa v) H Hf:=by
 have own:∀(j:Nat) (ds:La D),(y.set i<|Oa (B.exc x))[j]? = Oa (Oa<|.own ds)->i≠j/\y[j]? = Oa (Oa<|.own ds):=λj ds h=>by
  rw[bH]at h;split at h
  .split at h<;>cases h
  .rename_i n;exact#[n,h]
 have gt:∀j,i≠j->(z.set i<|Oa v)[j]? = z[j]?:=λj n=>by rw[bH,if_neg n]
 refine#[by rw[bC,bC];exact s.len,λj b h=>?_,λj k ds es c h1 h2 h3 h4=>?_]
 .by_cases q:i=j
  .subst q;rw[bH,if_pos rfl]at h;split at h
   .rename_i l;cases h;exact#[v,by rw[bH,if_pos rfl,if_pos (by rw[<- s.len];exact l)],hb]
   .cases h
  .rw[bH,if_neg q]at h;rw[gt j q];exact s.is j b h
 .obtain⟨n1,h1⟩:=own j _ h1;obtain⟨n2,h2⟩:=own k _ h2;rw[gt j n1]at h3;rw[gt k n2]at h4;exact s.apart j k ds es c h1 h2 h3 h4
section
variable {X:Cx}
def bX1(hx:∀e s,X.xe e s->False)(hex:X.ex=[])(hst:X.stack=X.env::X.outer)(hfr:X.env.frame=Oa X.env.locals)
  (hb:JSs X body f) (hr:JRs X false body r) (hgc:Gl X c) (hmc:∀D,clA X.K c=Oa D->X.mg c=Oa (.ref D)) (hdc:(c==("__debug__":Str))=false) (hcb:ao5 X.K c=true)
  (hsub:∀w x ρ1,r w=Oa (x,ρ1)->ao5 X.K x=true/\by1 X.K x c=true)
  (hN:X.N.Nodup) (hi:X.N[i]? = Oa n) (hl:X.env.scope.names.lookup n=Oa .local) (hh:∀a:fL,JSs (Cx.held X<|.ref a) (b₀::suite) gd) :
  JS X (.Try body [.ExceptHandler (Oa<|.Name c np) (Oa n) (b₀::suite) hpos] [] [] pos) (al5 r f i gd):=by
 intro w fl q H0 Hf0 za s j H En I hw;obtain⟨Hf,at_,ends⟩:=hw;unfold al5 at q;split at q
 case h_2 =>
  refine wpAny_Try_except (noX hx (hb w fl q H0 Hf0 za s j H En I #[Hf,at_,ends]) λf' s1 z=>?_);cases f' with
  | next=>exact wpAny_execs_nil z
  | ret v=>exact z
  | brk=>exact z
  | cont=>exact z
 rename_i x ρ1 er
 obtain⟨d,hd,rfl⟩:∃d,gd (ρ1.set i<|Oa (.exc x))=Oa (.rt d)/\fl=.rt d:=by
  split at q
  .rename_i d e;cases q;exact#[d,e,rfl]
  .cases q
 obtain⟨hxb,hsb⟩:=hsub w x ρ1 er
 obtain⟨C,hC⟩:∃C,clA X.K x=Oa C:=by
  unfold ao5 at hxb;cases e:clA X.K x with
  | none=>rw[e]at hxb;cases hxb
  | some C=>exact#[C,rfl]
 obtain⟨D,hD⟩:∃D,clA X.K c=Oa D:=by
  unfold ao5 at hcb;cases e:clA X.K c with
  | none=>rw[e]at hcb;cases hcb
  | some C=>exact#[C,rfl]
 have qC:bQ X.K C veB "ValueError.__new__" = true:=by unfold ao5 at hxb;rw[hC]at hxb;exact hxb
 have qD:bQ X.K D veB "ValueError.__new__" = true:=by unfold ao5 at hcb;rw[hD]at hcb;exact hcb
 obtain⟨bm,c1,c2,c3,c4⟩:=az3 I.mod.kin qC;obtain⟨bm',d1,d2,d3,d4⟩:=az3 I.mod.kin qD
 have hin:(fF C::bm).contains (.ref D)=true:=by
  unfold by1 at hsb;rw[hC,hD]at hsb;dsimp only at hsb;split at hsb
  .rename_i lk;have z:=I.mod.kin _ _ lk;rw[c1]at z;cases z;exact hsb
  .cases hsb
 refine wpAny_Try_except (eJ (hr w x ρ1 C er hC H0 Hf0 za s j H Hf I at_) (λ_ _ z=>z.elim) λex s1 ho=>?_);rcases ho with ho|⟨z,_⟩
 case inr=>cases z
 obtain⟨σ1,H1,Hf1,s0,I1,a1,o⟩:=ho;rcases o with⟨z,_⟩|hc
 .cases z
 obtain⟨a,C',g,B,H',rfl,os,bare,un,hok,F,cE,sm⟩:=hc;cases cE;obtain⟨t,fl0⟩:=F.fly;have nx:∀b:fL,b∉([]:La fL):=λb z=>absurd z (by simp)
 have J:Inv X za σ1 H' { s1 with heap:=g }:=I1.call' (s':={ s1 with heap:=g }) (ch:=[]) os un hok bare λb z=>absurd z<|nx b
 have key:∀h'':Heap,B.StaysIn h''->s1.heap.UpToSlots h''->Inv X za σ1 H' { s1 with heap:=h'' }:=λh'' k1 k2=>by
  refine bZ7 (s':={ s1 with heap:=h'' }) I1 os bare un hok F.keep k1 λb o e m=>?_
  obtain⟨z,e2⟩:=F.sl b o e m;obtain⟨_,o',e',hd⟩:=J.stack.mem m;have e':g.get? b=Oa o':=e';rw[e]at e';cases e';obtain⟨z2,q⟩:=k2 b _ e2 hd;exact#[z2,q]
 rw[hst]at fl0;refine wpAny_looks_onW (outer:=X.outer) (by rw[<- hst];exact I.ok.frames) hfr fl0 λh4 held4 up4=>?_
 refine wpAny_landsW held4 λh5 fl5 up5=>?_
 have I5:=key h5 fl5.1 (up4.trans up5);obtain⟨ob,hob,hobc⟩:=fl5.there;refine wpAny_handleBy_cons (codeAny_handlers_test<|X4 (Inv.held I5<|.ref a) hgc (hmc D hD) ?_ hdc) (by intro q;cases q);refine cU0 (I5.bk _ _ c1) (I5.bk _ _ d1) hob hobc (d4.hasType<|by decide) ?_;rw[hin];refine codeAny_handlers_suite_as (lands_againW fl5 λh6 fl6 up6=>?_);have I6:=key h6 fl6.1 ((up4.trans up5).trans up6);obtain⟨oe,ws,e6,ec6,ed6,_⟩:=fl6.first;have nB:B.get? a=Z:=fl6.2.1
 have nf:a∉frs X.stack:=λm=>by
  obtain⟨_,o',e',hd⟩:=I6.stack.mem m;have e':h6.get? a=Oa o':=e';rw[e6]at e';cases e';exact hd ws ed6
 have ng:∀o,Rl s0 H' a->g.get? a=Oa o->False:=λo rr e=>by
  have:=F.keep a o rr e nf;rw[nB]at this;cases this
 have ha:H' a=Z:=by
  cases e:H' a with
  | none=>rfl
  | some o =>
   obtain⟨u,e'⟩:=P8.is (hok a o e);exact(ng u (.inr (by rw[e];simp)) e').elim
 have n0:s0.heap.get? a=Z:=by
  cases e:s0.heap.get? a with
  | none=>rfl
  | some o =>
   obtain⟨u,e'⟩:=un.there a o e (nx a);exact(ng u (.inl (by rw[e];simp)) e').elim
 have n00:X.s₀.heap.get? a=Z:=by
  cases e:X.s₀.heap.get? a with
  | none=>rfl
  | some o =>
   obtain⟨u,e'⟩:=I1.base.there a o e (by rw[hex];exact nx a);rw[n0]at e';cases e'
 have I7:Inv X za σ1 (upd H' a<|fz oe a) { s1 with heap:=h6 }:=by
  refine Inv.track I6 ha e6 n00 (λp hp z=>?_) (λz=>?_) λy cc e z=>?_
  .have:=(I1.pin p hp).1;rw[z,n0]at this;cases this
  .obtain⟨m,⟨o',_,_,e',_⟩,_⟩:=I1.loc;rw[z,n0]at e';cases e'
  .obtain⟨v,o',e',_⟩:=I1.cell y cc e;rw[z,n0]at e';cases e'
 have gr:Grow H1 Hf1 (upd H' a<|fz oe a) (upd Hf1 a<|fz oe a):=bb6 sm a1.gr.sub ha;have a7:=a1.grow gr;refine ab7 (X:=Cx.held X<|.ref a) (v:=.ref a) (Inv.held I7<|.ref a) hN hi (.inl hl) rfl (λs8 I8=>?_) (.inr hl);refine eJ (hh a _ _ hd H0 Hf0 za s8 _ _ { nx:=λ_ _=>False,rt:=λv H'=>∃zc,Grow H0 Hf0 H' zc/\Rep X.K zc d v } I8 #[_,#[a7.gr,Slots.setExc a7.sl #[a,oe,C,rfl,C9,hC,ec6]],λv H' zc g r=>#[zc,g,r]]) (λfl' s9 z=>?_) λe s z=>(hx e s z).elim
 cases fl' with
 | next=>obtain⟨_,_,_,z⟩:=z;exact z.elim
 | brk=>obtain⟨_,_,_,z⟩:=z;exact z.elim
 | cont=>obtain⟨_,_,_,z⟩:=z;exact z.elim
 | ret u =>
 obtain⟨v,σ9,H9,I9,rv,Hf9,g9,rp⟩:=z;have I9:=Inv.unheld I9 I.ok;obtain⟨m9,hn9,_⟩:=I9.loc;refine wpAny_nameGoes (m:=m9) (by show X.env.scope.names.lookup n=_;exact hl) hn9 (by rw[I.ok.kind];rfl) λh' m' hn' hs'=>?_
 exact#[v,_,H9,Inv.wipe I9 hn' hs',rv,ends v H9 Hf9 g9 rp]
end
section
variable {prog:Program}{w:World}{A:Around}{E:Value->Shared->Prop}{h:Heap}{g:Array GenState}{d:Drawn}{t:Nat}{os:OsState}{a C:Addr}{o:Obj}{K:PySem.W.Frag}
noncomputable def xcB(K:af)(C:fL):Bool:=PySem.W.findIn K (.ref C) "__class__" == Oa (Oa<|.builtin "object.__class__")&&PySem.W.findIn K (.ref C) "__getattribute__" == Oa (Oa<|.builtin "BaseException.__getattribute__") &&
 PySem.W.findIn K (.ref C) "__getattr__" == Oa Z&&PySem.W.mroIn K C (.type "object")==Oa true&&PySem.W.mroIn K C (.type "BaseException")==Oa true
def ch7(kin:K.In h)(hx:h.get? a=Oa o)(hc:o.cls=.ref C)(hm:PySem.W.mroIn K C (.type "object")=Oa true)(hq:R (.ok<|.ret (.ref C)) #[h,g,d,t,os]):
  codeAny (fu prog w) A (.call (.builtin "getset_descriptor.__get__") #[[.builtin "object.__class__", .ref a,.ref C],[]]) R #[h,g,d,t,os]:=by
 have hT5:(#[h,g,d,t,os]:fK).TypeIs (.builtin "object.__class__") "getset_descriptor" := F.typeOf_object_class;have L:PySem.W.Looks (fu prog w) h (isSubtype (.ref C)<|.type (".".intercalate ("object.__class__".cutAt '.').dropLast)) true:=by rw[F.owner_object_class];exact PySem.W.looks_mroIn kin hm
 refine codeAny_call_builtin F.slot_gs_get.plain F.entry_gs_get<|F.slot_gs_get.check _ _ _ _ _ _ _ _ hT5 (F.args_gs_get _ _ _) ?_
 repeat (any_goals (first|assumption|(with_reducible refine wpAny_loadPart_at hx ?_;rw[hc])|with_reducible refine L.at ?_|wp_step))
 refine#[Code.quiet_builtin _ ∅,codeAny_builtin F.entry_object_class ?_]
 repeat (any_goals (first|assumption|(with_reducible refine wpAny_loadPart_at hx ?_;rw[hc])|wp_step))
def bu2(kin:K.In h)(hx:h.get? a=Oa o)(hc:o.cls=.ref C)(hf:PySem.W.findIn K (.ref C) "__class__" = Oa (Oa<|.builtin "object.__class__"))(hm:PySem.W.mroIn K C (.type "object")=Oa true)(hq:Q (.done<|.ret (.ref C)) #[h,g,d,t,os]):
  ft (fu prog w) A (Builtin.«object.__getattribute__» #[[.ref a,.str "__class__" tk],[]]) Q E #[h,g,d,t,os]:=by
 have hT5:(#[h,g,d,t,os]:fK).TypeIs (.builtin "object.__class__") "getset_descriptor" := F.typeOf_object_class;have f5:=F.typeOf_object_class;have f6:=F.slot_gs_get.lookup;have f7:=F.slot_gs_set.lookup;have L:=PySem.W.looks_findIn (M:=fu prog w) kin hf
 repeat (any_goals (first|assumption|(with_reducible refine wpAny_loadPart_at hx ?_;rw[hc])|with_reducible refine L.at ?_|wp_step))
 refine ch7 kin hx hc hm ?_
 repeat (any_goals (first|assumption|wp_step))
def bu3(kin:K.In h)(hx:h.get? a=Oa o)(hc:o.cls=.ref C)(hm:PySem.W.mroIn K C (.type "BaseException")=Oa true)(hq:Q () #[h,g,d,t,os]):ft M A (checkBuiltinCall "BaseException.__getattribute__" #[[.ref a,nameV],[]]) Q E #[h,g,d,t,os]:=by
 have hk:builtinKind "BaseException.__getattribute__" = Oa .slot:=∅
 have hsplit:splitId "BaseException.__getattribute__" = Oa ("BaseException","__getattribute__"):=∅
 have ha:=F.args_bexc_ga (.ref a) nameV;have L:=PySem.W.looks_mroIn (M:=M) kin hm;simp only[checkBuiltinCall,hk,hsplit];refine eF ?_;unfold isInstance
 repeat (first|(with_reducible refine wpAny_loadPart_at hx ?_;rw[hc])|with_reducible refine L.at ?_|wp_step)
 exact hq
def bN7(kin:K.In h)(hx:h.get? a=Oa o)(hc:o.cls=.ref C)(hb:xcB K C=true)(hq:R (.ok<|.ret (.ref C)) #[h,g,d,t,os]):
  codeAny (fu prog w) A (.call (.builtin "BaseException.__getattribute__") #[[.ref a,.str "__class__" tk],[]]) R #[h,g,d,t,os]:=by
 simp only[xcB,ae,beq_iff_eq]at hb;exact codeAny_call_builtin F.attr_ValueError.ga.plain F.entry_bexc_ga<|bu3 kin hx hc hb.2 (bu2 kin hx hc hb.1.1.1.1 hb.1.2 hq)
def cC1{tk:Tok}{fill expr:Bool}{Q:fJ->fK->Prop}(kin:K.In h)(hx:h.get? a=Oa o)(hc:o.cls=.ref C)(hb:xcB K C=true)(hq:Q (.ref C) #[h,g,d,t,os]):ft (fu prog w) A (getAttrBy (.ref a) (.str "__class__" tk) fill expr) Q E #[h,g,d,t,os]:=by
 have hb':=hb;simp only[xcB,ae,beq_iff_eq]at hb';have L1:=PySem.W.looks_findIn (M:=fu prog w) kin hb'.1.1.1.2;have L2:=PySem.W.looks_findIn (M:=fu prog w) kin hb'.1.1.2;have f3:=F.attr_ValueError.ga.bind (.ref a);have z0:(expr&&onTheHeap (Value.builtin "BaseException.__getattribute__"))=false:=by cases expr<;>rfl
 have z2:(Value.builtin "BaseException.__getattribute__" == Value.builtin "object.__getattribute__")=false:=∅
 have z1:(onTheHeap (fF C)&&Value.builtin "BaseException.__getattribute__" == Value.builtin "object.__getattribute__")=false:=by rw[z2];rfl
 repeat (any_goals (first|assumption|(with_reducible refine wpAny_loadPart_at hx ?_;rw[hc])|with_reducible refine L1.at ?_|with_reducible refine L2.at ?_|wp_step))
 refine bN7 kin hx hc hb ?_
 repeat (any_goals (first|assumption|wp_step))
def bN8{Q:Ob fJ->fK->Prop}(kin:K.In h)(hx:h.get? a=Oa o)(hc:o.cls=.ref C)(hb:xcB K C=true)(hq:Q (Oa<|.ref C) #[h,g,d,t+1,os]):ft (fu prog w) A (getAttr? (.ref a) "__class__") Q E #[h,g,d,t,os]:=by
 unfold getAttr? getAttrBy?
 repeat (any_goals (first|assumption|with_reducible apply cC1 kin hx hc hb|wp_step))
def bF1(hb:xcB K C=true)(hq:bQ K C bb nid=true):PySem.W.KitX K (.ref a) (.ref C) (λh=>∃o,h.get? a=Oa o/\o.cls=.ref C) where
 ty:=λ_ _ _ #[o,h1,h2]=>h2 ▸ (PySem.W.Looks.ld h1).andThen .now
 it:=λ_ _ kin _=>by
  obtain⟨bm,g1,_⟩:=az3 kin hq;intro A' Q' E' s' k q;unfold isType loadHead;exact eF<|wpAny_loadPart (k _ _ g1) (eG q)
 ne:=λh tp dd its n sl kin htp=>by
  obtain⟨bm,g1,_⟩:=az3 kin hq;refine Bool.eq_false_iff.mpr λq=>?_
  have e:C=tp:=Value.ref.inj (beq_iff_eq.mp q);subst e;rw[g1]at htp;have z:=congrArg Obj.data (bg.inj htp);cases z
 ca:=λ{_ _ _ _ _ s} kin #[o,h1,h2] k=>by
  obtain⟨h,g,d,t,os⟩:=s;exact bN8 kin h1 h2 hb k
end
section
variable {X:Cx}
noncomputable def aD3(i:Nat)(tb:Str->Ob Bool):DE:=λy=>match y[i]? with
 | some (Oa (.exc x))=>(tb x).map fC
 | _=>Z
def bN2(K:af)(cv:fJ)(tb:Str->Ob Bool):Prop:=∀x b,tb x=Oa b->∃C,clA K x=Oa C/\xcB K C=true/\bQ K C veB "ValueError.__new__" = true/\PySem.W.kitOne K (.ref C) cv=Oa b
def bM4(hv:J3 v cv)(hv':∀u,J3 v u->u=cv)(ok:bN2 X.K cv tb):W4 X (.builtin "isinstance") (λxs H Q=>∃x y b H0 Hf,xs=[y,v]/\D8 Hf H/\SB X.K H0 H Hf (.exc x) y/\tb x=Oa b/\Q (.bl b) H):=by
 intro za s p H xs us Q I r h;obtain⟨x,y,b,H0,Hf,rfl,sm,⟨a,o,C,rfl,e1,e2,e3⟩,hb,q⟩:=h;obtain⟨u,c,rfl,rx,rc⟩:=bv5 r;cases rx;obtain rfl:=hv' c rc;obtain⟨C',f1,f2,f3,f4⟩:=ok x b hb;rw[e2]at f1;cases f1;obtain⟨z,_⟩:=(show P8 X.prog X.w H s.heap a (.frz o<|.own a) from I.hok a _ (sm _ _ e1));exact PySem.W.kia_one (bF1 f2 f3) I.kIn #[o,z,e3] f4 (λz=>nomatch z) λtk=>#[.bl b,H,I.tok tk,rfl,q]
end
section
variable {X:Cx}
def aJ9{y:Str}{D:fL}{pos:Pos}(hg:Gl X y)(hm:X.mg y=Oa (.ref D))(hd:(y==("__debug__":Str))=false):PE X (.Name y pos) (tC<|.ref D):=λza s z H Q I h=>X4 I hg hm #[.ref D,H,I,rfl,h] hd
def aL0(hg:Gl X "isinstance")(hm:X.mg "isinstance" = Z)(hN:X.N[i]? = Oa n)(hv:Vis X.env.scope n)(hd:(n==("__debug__":Str))=false)(hcd:(n==("__classdict__":Str))=false)
  (hc:PE X (.Name y p2) (tC v)) (r1:J3 v cv) (r2:∀u,J3 v u->u=cv) (ok:bN2 X.K cv tb)
  (he:eQ [.Name n p1,.Name y p2] X.env=(false,eval (.Name n p1) X.env)::eQ [.Name y p2] X.env:=by rfl) (he2:eQ [.Name y p2] X.env=[(false,eval (.Name y p2) X.env)]:=by rfl) (hpl:(backTo pos<|eQ [.Name y p2] X.env).any (·.1)=false:=by rfl) :
  JE X (.Call (.Name "isinstance" p) [.Name n p1,.Name y p2] [] pos) (aD3 i tb):=λz d q=>by
 unfold aD3 at q;split at q
 case h_2=>cases q
 rename_i x e;obtain⟨b,hb,rfl⟩:=xmo q;refine C8 (O2 (bM4 r1 r2 ok) hg hm bM9 (E6 (P4 hN hv hd hcd) (E6 hc G6 he2) he) (he:=he) (hpl:=hpl)) λr H Q w=>?_
 obtain⟨H0,Hf,s,sl,k⟩:=w;obtain⟨v0,h1,sb⟩:=sl.is i _ e;exact#[v0,h1,x,v0,b,H0,Hf,rfl,s,sb,hb,k _ H Hf (Grow.refl s) rfl]
end
end G
namespace G
def xg0{y:Type}{a:y}{l:La y}:(a::l)[0]? = Oa a:=rfl
def xg1{y:Type}{a:y}{i:Nat}{l:La y}:(a::l)[i+1]? = l[i]?:=rfl
def xw0{y:Type}{a b:y}{l:La y}:(a::l).set 0 b=b::l:=rfl
def xw1{y:Type}{a b:y}{i:Nat}{l:La y}:(a::l).set (i+1) b=a::l.set i b:=rfl
def xbs{y z:Type}{a:y}{f:y->Ob z}:(Oa a).bind f=f a:=rfl
def xms{y z:Type}{a:y}{f:y->z}:(Oa a).map f=Oa (f a):=rfl
def xca{y:Type}{a:y}{l m:La y}:(a::l)++m=a::(l++m):=rfl
def xna{y:Type}{l:La y}:[]++l=l:=rfl
def xmc{y z:Type}{f:y->z}{a:y}{l:La y}:(a::l).map f=f a::l.map f:=rfl
def xmn{y z:Type}{f:y->z}:[].map f=[]:=rfl
def xnf:(!false)=true:=rfl
def xnt:(!true)=false:=rfl
def xft:(false=true)=False:=by simp
end G
local macro_rules
  | `([:$x]) => `(some (G.B.val $x))
local macro_rules
  | `(⇑$x) => `(G.dC (PySem.PyData.int $x))
local macro_rules
 | `(!$x:num)=>`(G.A6 $x)
 | `(!$x:str)=>`(G.dC (PySem.PyData.str $x))
local macro_rules (kind:=«term{_}»)
 | `(term|{$x:term})=>match x with | `($n:num)=>`(G.A0 (G.A6 $n) G.A8) | _=>`(G.A0 $x G.A8)
 | `(term|{$x:term,$y:term,*})=>match x with | `($n:num)=>`(G.A0 (G.A6 $n) {$y:term,*}) | _=>`(G.A0 $x {$y:term,*})
noncomputable section
namespace Sh
open PySem PySem.Spec PyProof.Rows L2 G
def aq4:DS:=(B3 (Y1 (tB2 neD (!1) ⇑0)<|B3 (C7 2<|A9 X3 (!0) !1) (B3 (C7 0 !1)<|C7 1 !2))<|B7 !0)
def V4:La D->Ob D:=E2 aq4 3
def ao3:DS:=(B7<|A9 leI (A9 b0 (dIx (B0 0) ⇑0)<|dIx (B0 1) ⇑1) (A9 b0 (dIx (B0 1) ⇑0)<|dIx (B0 0) ⇑1))
def aa4:La D->Ob D:=E2 ao3 2
def aB6:DS:=(B3 (sIf (tB2 eqD (!0)<|E5 A8) (B7<|A9 b0 ⇑7 !1) D6)<|B7 (A9 v9 (dIx (B0 0)<|A9 X3 (!1) (F7<|B0 0))<|A9 b0 ⇑6553 (A9 ap5 (!1)<|F7 (B0 0))))
def aC2:La D->Ob D:=E2 aB6 2
def aH6:DS:=(B3 (C7 3<|A9 X3 (A9 v9 (A9 b0 (A9 X3 (A7 aC2 {0,1}) ⇑2147483563) ⇑69069)<|A9 b0 ⇑104723 (A9 v9 (!1) ⇑1)) ⇑2147483563)<|B3 (C7 3<|A9 X3 (A9 v9 (A9 b0 (!3) !3)<|A9 ap5 (!3) ⇑3) ⇑2147483399) (B7<|A9 X3 (A9 ap5 (A9 X3 (A9 v9 (A9 b0 (!3) !3)<|A9 ap5 (!3) ⇑7) ⇑2147483647) ⇑11) !2))
def B6:La D->Ob D:=E2 aH6 4
def ao2:DS:=(B3 (C7 2 !0)<|B3 (C7 3 !1) (B3 (Y1 (tB2 gtI (!2) ⇑0)<|bz7 2 3 {A9 X3 (!3) !2,2})<|B7 (L9 {A9 ap5 (!0) !3,A9 ap5 (!1) !3})))
def p9:La D->Ob D:=E2 ao2 4
def aH1:DS:=(B7<|A7 p9 {A9 b0 (dIx (B0 0) ⇑0)<|dIx (B0 1) ⇑0,A9 b0 (dIx (B0 0) ⇑1)<|dIx (B0 1) ⇑1})
def af4:La D->Ob D:=E2 aH1 2
def aH3:DS:=(B3 (C7 2<|A9 v9 ⇑1 (A7 B6 {0,1,⇑12}))<|B3 (C7 3<|A7 p9 {A7 B6 {0,A9 v9 (!1) ⇑1,A9 v9 (!2) ⇑1},2}) (B7<|dIx (qN {3,3,3,L9 {⇑0,⇑1},L9 {⇑1,⇑1}}) (A7 B6 {0,A9 v9 (!1) ⇑2,⇑5})))
def N4:La D->Ob D:=E2 aH3 4
def aW0:DS:=(B3 (C7 2<|A7 N4 {0,1})<|B7 (A9 v9 (L9 {2})<|N1 (qN<|D2 1 [2,0,1] (J9 ⇑3) (D1 0) F6 (A7 af4 {1,A7 N4 {2,A9 v9 (A9 v9 (!3) ⇑3)<|A9 b0 ⇑3 !0}}))))
def ao4:La D->Ob D:=E2 aW0 3
def aN7:DS:=(B7<|T6 (O9 "int" !0) (bL9<|O9 "bool" !0))
def K6:La D->Ob D:=E2 aN7 1
def aN9:DS:=(B3 (sIf (E1 (D3<|E7 (O9 "tuple" !0))<|E1 (tB2 neD (F7<|B0 0) ⇑2) (E1 (D3<|E7 (A7 K6 {dIx (B0 0) ⇑0}))<|D3 (E7<|A7 K6 {dIx (B0 0) ⇑1}))) (B7<|dC (.bool false)) D6)<|B7 (T6 (A9 gtI (dIx (B0 0) ⇑1) ⇑0)<|T6 (L5 leI leI ⇑0 (dIx (B0 0) ⇑0)<|dIx (B0 0) ⇑1) (A9 eqD (A7 p9 {dIx (B0 0) ⇑0,dIx (B0 0) ⇑1}) !0)))
def M8:La D->Ob D:=E2 aN9 1
def aW3:DS:=(B3 (sIf (E1 (D3<|E7 (O9 "tuple" !0))<|E1 (tB2 neD (F7<|B0 0) ⇑4) (tB2 neD (E5<|D2 1 [] (G2 !0) (D1 0) (D3<|E7 (A7 M8 {0})) !0)<|E5 A8)) (B7<|dC (.bool false)) D6)<|B7 (A9 eqD (E5<|D2 1 [0] (G2 !0) (D1 0) (tB2 gtI (A9 b0 (dIx (B0 0) ⇑0)<|dIx (qE<|dIx (B0 1) ⇑0) ⇑1)<|A9 b0 (dIx (qE<|dIx (B0 1) ⇑0) ⇑0) (dIx (B0 0) ⇑1)) !0)<|E5 A8))
def ad8:La D->Ob D:=E2 aW3 1
def be7:DS:=(B7<|T6 (O9 "int" !0) (bL9<|O9 "bool" !0))
def Z8:La D->Ob D:=E2 be7 1
def bf2:DS:=(B3 (sIf (E1 (D3<|E7 (O9 "tuple" !0))<|tB2 neD (F7<|B0 0) ⇑2) (B7<|dC (.bool false)) D6)<|B3 (C7 1<|dIx (B0 0) ⇑0) (B3 (C7 2<|dIx (B0 0) ⇑1)<|B3 (sIf (E1 (D3<|E7 (A7 Z8 {1}))<|D3 (E7<|A7 Z8 {2})) (B7<|dC (.bool false)) D6) (B7<|T6 (A9 gtI (!2) ⇑0) (T6 (L5 leI leI ⇑0 (!1) !2)<|A9 eqD (A7 V4 {1,2}) ⇑1))))
def U8:La D->Ob D:=E2 bf2 3
def bt7:DS:=(B3 (sIf (E1 (D3<|E7 (O9 "tuple" !0))<|tB2 neD (F7<|B0 0) ⇑4) (B7<|dC (.bool false)) D6)<|B3 (sIf (D3<|E7 (aq1<|qN (D2 1 [] (G2 !0) (D1 0) F6<|A7 U8 {0}))) (B7<|dC (.bool false)) D6) (B7<|aq1 (qN<|D2 1 [0] (G2<|aU8 (!0) (D5 ⇑1) J1) (D1 0) F6 (A7 aa4 {0,dIx (B0 1) ⇑0}))))
def aq8:La D->Ob D:=E2 bt7 1
end Sh
namespace Sh
open PySem G
def aS2(i j:Int):neD (.int i) (.int j)=Oa (.bool (!(i==j))):=rfl
def aC8(i j:Int):eqD (.int i) (.int j)=Oa (.bool<|i==j):=rfl
def bk1{t:Rho->Ob Bool}{f:DS}{n:Nat}{y ρ':Rho}(h1:t y=Oa true)(h2:f y=Oa (.nx ρ')):N7 t f (n+1) y=N7 t f n ρ':=by simp only[N7,h1,h2,xbs,if_true]
def bJ9:∀(b a:Nat) (x:Ob B),∃n x',N7 (tB2 neD (!1) ⇑0) (B3 (C7 2<|A9 X3 (!0) !1)<|B3 (C7 0 !1) (C7 1 !2)) n [[:.int a],[:.int b],x]
  = Oa (.nx [[:.int (bR a b)],[:.int 0],x']):=by
 intro b
 induction b using Nat.strongRecOn with
 | _ b ih =>
  intro a x;by_cases hb:b=0
  .subst hb;refine#[1,x,?_];rw[Nat.gcd_zero_right];rfl
  .obtain⟨n,x',h⟩:=ih (a % b) (dQ _<|dA hb) b ([:.int ((a % b:Nat):Int)]);refine#[n+1,x',?_]
   have e1:tB2 neD (!1) ⇑0 [[:.int a],[:.int b],x]=Oa true:=by
    show(neD (.int b)<|.int 0).bind ad0=Oa true;rw[aS2];have:((b:Int)==0)=false:=by simp;omega
    rw[this];rfl
   have e2:X3 (.int a) (.int b)=Oa (.int ((a % b:Nat):Int)):=by
    show(if(0:Int) < (b:Int) then Oa (fB<|(a:Int) % (b:Int)) else Z)=_;rw[if_pos (by omega)];simp
   have e3:B3 (C7 2<|A9 X3 (!0) !1) (B3 (C7 0 !1)<|C7 1 !2) [[:.int a],[:.int b],x]=Oa (.nx [[:.int b],[:.int ((a % b:Nat):Int)],[:.int ((a % b:Nat):Int)]]):=by
    show((((X3 (.int a)<|.int b)).map λd=>Fl.nx [[:.int a],[:.int b],[:d]]).bind _)=_;rw[e2];rfl
   rw[bk1 e1 e3,h,Nat.gcd_comm b,Nat.gcd_comm a b,<- Nat.gcd_rec]
def cO8(a b:Nat):V4 [.int a,.int b]=Oa (.int<|bR a b):=by
 obtain⟨n,x',h⟩:=bJ9 b a Z;show((Y1 _ _ [[:.int a],[:.int b],Z]).bind _).bind _=_;rw[k9 h];rfl
def bp2:∀(a b:Nat) (t u:D),∃n,N7 (tB2 gtI (!2) ⇑0) (bz7 2 3 {A9 X3 (!3) !2,2}) n [[:t],[:u],[:.int a],[:.int b]]
  = Oa (.nx [[:t],[:u],[:.int 0],[:.int (bR a b)]]):=by
 intro a
 induction a using Nat.strongRecOn with
 | _ a ih =>
  intro b t u;by_cases ha:a=0
  .subst ha;refine#[1,?_];rw[Nat.gcd_zero_left];rfl
  .obtain⟨n,h⟩:=ih (b % a) (dQ _<|dA ha) a t u;refine#[n+1,?_]
   have e1:tB2 gtI (!2) ⇑0 [[:t],[:u],[:.int a],[:.int b]]=Oa true:=by
    show Oa (decide ((0:Int) < (a:Int)))=Oa true;rw[decide_eq_true (by omega)]
   have e2:X3 (.int b) (.int a)=Oa (.int ((b % a:Nat):Int)):=by
    show(if(0:Int) < (a:Int) then Oa (fB<|(b:Int) % (a:Int)) else Z)=_;rw[if_pos (by omega)];simp
   have e3:bz7 2 3 {A9 X3 (!3) !2,2} [[:t],[:u],[:.int a],[:.int b]]=Oa (.nx [[:t],[:u],[:.int ((b % a:Nat):Int)],[:.int a]]):=by
    show((X3 (.int b)<|.int a).bind λd=>(Oa [fB (a:Int)]).map λds=>d::ds).bind _=_;rw[e2];rfl
   rw[bk1 e1 e3,h,<- Nat.gcd_rec]
noncomputable def fr(r:Rat):D:=.tuple [.int r.num,.int r.den]
def M9{i:Int}{k:Nat}(h:i.natAbs < 2 ^ k)(hk:k<=8000):J0 i:=aG h (cI (by decide) hk)
def ay3(a b:Nat)(hb:0 < b):fr (mkRat a b)=.tuple [.int ((a / bR a b:Nat):Int),.int ((b / bR a b:Nat):Int)]:=by
 unfold fr;rw[Rat.num_mkRat,Rat.den_mkRat,if_neg (by omega),if_neg (by omega)];have e:b.gcd (a:Int).natAbs=bR a b:=by rw[dB,Nat.gcd_comm]
 rw[e];simp
def ca2(a b x k:Nat)(hb:0 < b)(hk:b < 2 ^ k)(hk8:k<=8000):ap5 (.int x) (.int<|bR a b)=Oa (.int ((x / bR a b:Nat):Int)):=by
 have g0:0 < bR a b:=cT _ hb;have gs:J0 (bR a b:Nat):=M9 (k:=k) (by rw[dB];exact dz (Nat.le_of_dvd hb<|Nat.gcd_dvd_right a b) hk) hk8;show(if(0:Int) < ((bR a b:Nat):Int)/\J0 (bR a b:Nat) then Oa (fB<|(x:Int) / ((bR a b:Nat):Int)) else Z)=_;rw[if_pos #[by omega,gs]];simp
def bN5(a b k:Nat)(hb:0 < b)(hk:b < 2 ^ k)(hk8:k<=8000):p9 [.int a,.int b]=Oa (fr<|mkRat a b):=by
 have d:=λx=>ca2 a b x k hb hk hk8
 obtain⟨n,h⟩:=bp2 a b (.int a)<|.int b
 have e:ao2 [[:.int a],[:.int b],Z,Z]=Oa (.rt<|fr (mkRat a b)):=by
  rw[ay3 a b hb];simp only[ao2,B3,C7,A7,A0,A8,A6,xg0,xg1,xbs,xms,xw1,xw0,B7,L9,A9,d,k9 h]
 show(ao2 [[:.int a],[:.int b],Z,Z]).bind _=_;rw[e];rfl
structure Bd (k:Nat) (r:Rat):Prop where
 nn:0<=r
 num:r.num.natAbs < 2 ^ k
 den:r.den < 2 ^ k
def ac5{i j:Int}(h1:J0 i)(h2:J0 j):b0 (.int i) (.int j)=Oa (.int<|i*j):=by
 show(if J0 i/\J0 j then Oa (fB<|i*j) else Z)=_;rw[if_pos #[h1,h2]]
def cO0(i j:Int):v9 (.int i) (.int j)=Oa (.int<|i+j):=rfl
def bx9(i j:Int):ak9 (.int i) (.int j)=Oa (.int<|i - j):=rfl
def cs8(i j:Int):leI (.int i) (.int j)=Oa (.bool<|decide (i<=j)):=rfl
def cV4(a b:D):L2.atI [a,b] 0=Oa a:=rfl
def cV3(a b:D):L2.atI [a,b] 1=Oa b:=rfl
def v0(x:Ob B)(l:Rho):(x::l)[0]? = Oa x:=rfl
def v1(y x:Ob B)(l:Rho):(y::x::l)[1]? = Oa x:=rfl
end Sh
set_option exponentiation.threshold 9000
namespace Sh
open PySem G L2
def ba0(i j:Int):ltI (.int i) (.int j)=Oa (.bool<|decide (i < j)):=rfl
def bJ6(i j:Int):gtI (.int i) (.int j)=Oa (.bool<|decide (j < i)):=rfl
def bS6{y:Type}(x:y):av 0 x=[]:=rfl
def bS5{y:Type}(x:y):av 1 x=[x]:=rfl
def bS4{y:Type}(x:y):av 2 x=[x,x]:=rfl
def bl2(a b c d:D):Z0 [a,b,c,d] (Oa 1) Z=[b,c,d]:=rfl
def cU9(a b c d:D):L2.atI [a,b,c,d] 0=Oa a:=rfl
def cU8(a b c d:D):L2.atI [a,b,c,d] 1=Oa b:=rfl
def cU7(a b c d:D):L2.atI [a,b,c,d] 2=Oa c:=rfl
def cU6(a b c d:D):L2.atI [a,b,c,d] 3=Oa d:=rfl
def cV2(a b c:D):L2.atI [a,b,c] 0=Oa a:=rfl
def cV1(a b c:D):L2.atI [a,b,c] 1=Oa b:=rfl
def cV0(a b c:D):L2.atI [a,b,c] 2=Oa c:=rfl
def T8{n k:Nat}(h:n < 2 ^ k)(hk:k<=8000):J0 (n:Int):=M9 (k:=k) (by rw[dB];exact h) hk
def aF1{i j:Int}(h:0 < j):X3 (.int i) (.int j)=Oa (.int<|i % j):=by
 show(if(0:Int) < j then Oa (fB<|i % j) else Z)=_;rw[if_pos h]
def bl0{i j:Int}(h:0 < j)(s:J0 j):ap5 (.int i) (.int j)=Oa (.int<|i / j):=by
 show(if(0:Int) < j/\J0 j then Oa (fB<|i / j) else Z)=_;rw[if_pos #[h,s]]
def C4{g:DS}{n:Nat}{ds:La D}{ρ:Rho}{d:D}(h:T7 n ds=ρ)(e:g ρ=Oa (.rt d)):E2 g n ds=Oa d:=by
 unfold E2;rw[h,e];rfl
def rX1{g:DS}{a z:D}(e:g [[:a]]=Oa (.rt z)):E2 g 1 [a]=Oa z:=C4 rfl e
def rX2{g:DS}{a b z:D}(e:g [[:a],[:b]]=Oa (.rt z)):E2 g 2 [a,b]=Oa z:=C4 rfl e
noncomputable def aG3(ns:La Int)(k:Nat):Int:=if ns.length=0 then 7*(k:Int) else ns.getD (k % ns.length) 0+6553*((k / ns.length:Nat):Int)
def bL0(ns:La Int):eqD (.list<|ns.map fB) (.list [])=Oa (.bool<|decide (ns.length=0)):=by
 have h1:fy (.list<|ns.map fB)=true:=by
  have c:∀l:La Int,PyData.canLayAll0 (l.map fB)=true:=λl=>by
   induction l with
   | nil=>rfl
   | cons a r ih=>simp only[xmc,PyData.canLayAll0,fE,ih];rfl
  have d:∀l:La Int,PyData.depthAll (l.map fB)=0:=λl=>by
   induction l with
   | nil=>rfl
   | cons a r ih=>simp only[xmc,PyData.depthAll,PyData.depth,ih];rfl
  unfold fy;simp only[fE,c,PyData.depth,d];rfl
 unfold eqD;rw[if_pos #[h1,rfl]];cases ns with
 | nil=>rfl
 | cons a r=>simp[fA,PyData.eqvAll]
end Sh
local macro_rules
  | `(tactic| exists evP, $ts,*) => `(tactic| simp only [G.B3, G.C7, G.B7, G.sIf, G.D6, G.aa7, G.aY1, G.A6, G.dC, G.L9, G.E5, G.A9, G.A7, G.T6, G.dOr, G.bL9, G.L5, G.N1, G.aq1, G.ag8, G.O9, G.J1, G.D5, G.bI7, G.A8, G.A0, G.E7, G.tB2, G.ab6, G.E1, G.D3, G.cl9, G.ad0, G.F6, G.D1, G.ac8, G.K8, G.ah7, G.G2, G.bp6, G.xg0, G.xg1, G.xw0, G.xw1, G.xbs, G.xms, G.xmc, G.xmn, G.xna, G.xca, Sh.cO0, Sh.bx9, Sh.cs8, Sh.aS2, Sh.aC8, Sh.ba0, Sh.bJ6, Sh.cU9, Sh.cU8, Sh.cU7, Sh.cU6, Sh.cV2, Sh.cV1, Sh.cV0, Sh.cV4, Sh.cV3, G.xnt, G.xnf, G.xft, if_true, if_false, $[$ts:term],*])
local macro_rules
  | `(tactic| exists evB) => `(tactic| exists evP, G.dIx, G.F7, G.B0, G.qE, G.qN, G.aJ0)
  | `(tactic| exists evB, $ts,*) => `(tactic| exists evP, G.dIx, G.F7, G.B0, G.qE, G.qN, G.aJ0, $ts,*)
local macro_rules
  | `(tactic| exists evA) => `(tactic| exists evB, G.aq0, G.aU8, G.D2, G.Z1, G.w8, G.J9, G.bZ3, Sh.bS6, Sh.bS5, Sh.bS4, Sh.bl2, ite_true, ite_false)
  | `(tactic| exists evA, $ts,*) => `(tactic| exists evB, G.aq0, G.aU8, G.D2, G.Z1, G.w8, G.J9, G.bZ3, Sh.bS6, Sh.bS5, Sh.bS4, Sh.bl2, ite_true, ite_false, $ts,*)
local macro_rules
  | `(tactic| exists evD) => `(tactic| exists evB, G.O4, G.ai5)
  | `(tactic| exists evD, $ts,*) => `(tactic| exists evB, G.O4, G.ai5, $ts,*)
local macro_rules
  | `(tactic| exists evC) => `(tactic| exists evD, G.aq0, G.aU8, G.D2, G.Z1, G.w8, G.J9, G.bZ3, Sh.bS6, Sh.bS5, Sh.bS4, Sh.bl2, ite_true, ite_false)
  | `(tactic| exists evC, $ts,*) => `(tactic| exists evD, G.aq0, G.aU8, G.D2, G.Z1, G.w8, G.J9, G.bZ3, Sh.bS6, Sh.bS5, Sh.bS4, Sh.bl2, ite_true, ite_false, $ts,*)
local macro_rules
  | `(tactic| exists evQ) => `(tactic| exists evP, G.O4, G.ai5)
  | `(tactic| exists evQ, $ts,*) => `(tactic| exists evP, G.O4, G.ai5, $ts,*)
namespace Sh
open PySem G L2
def cB7(ns:La Int)(k:Nat)(hn:ns.length<=63)(hk:k < 2 ^ 60):aC2 [.list (ns.map fB),.int k]=Oa (.int<|aG3 ns k):=by
 refine rX2 ?_;have sk:J0 (k:Int):=T8 hk (by decide);by_cases h:ns.length=0
 .have e:aG3 ns k=7*(k:Int):=by unfold aG3;rw[if_pos h]
  exists evA,aB6,bL0,h,decide_true,ac5 (i:=7) (M9 (k:=3) (by decide)<|by decide) sk,e
 .have e:aG3 ns k=ns.getD (k % ns.length) 0+6553*((k / ns.length:Nat):Int):=by unfold aG3;rw[if_neg h]
  have hl:(List.map fB ns).length=ns.length:=ai ..;have hp:0 < ns.length:=dA h;have m1:X3 (.int k) (.int ns.length)=Oa (.int ((k % ns.length:Nat):Int)):=by rw[aF1 (by grind)];simp
  have m2:ap5 (.int k) (.int ns.length)=Oa (.int ((k / ns.length:Nat):Int)):=by rw[bl0 (by grind) (T8 (k:=6) (by grind)<|by decide)];simp
  have m3:L2.atI (List.map fB ns) ((k % ns.length:Nat):Int)=Oa (.int<|ns.getD (k % ns.length) 0):=by
   refine L2.L4 ?_;have hlt:k % ns.length < ns.length:=dQ _ hp;rw[aH,aL hlt];simp[List.getD,hlt]
  have sq:J0 ((k / ns.length:Nat):Int):=T8 (k:=60) (dz (ei _ _) hk) (by decide)
  exists evA,aB6,bL0,h,decide_false,hl,m1,m2,m3,ac5 (i:=6553) (M9 (k:=13) (by decide)<|by decide) sq,e
def aT7(ns:La Int)(k:Nat)(m:Int):Int :=
 let c:=(aG3 ns k % 2147483563*69069+104723*((k:Int)+1)) % 2147483563
 let c:=(c*c+c / 3) % 2147483399
 (c*c+c / 7) % 2147483647 / 11 % m
def aP9{i:Int}(h0:0<=i)(h:i < 4294967296):J0 i:=M9 (k:=32) (by omega) (by decide)
def cb7(ns:La Int)(k:Nat)(m:Int)(hn:ns.length<=63)(hk:k < 2 ^ 60)(hm:0 < m):B6 [.list (ns.map fB),.int k,.int m]=Oa (.int<|aT7 ns k m):=by
 refine C4 (ρ:=[[:.list (ns.map fB)],[:.int k],[:.int m],Z]) rfl ?_;have c0:∀x:Int,J0 (x % 2147483563):=λx=>aP9 (by grind) (by grind)
 have c1:∀x:Int,J0 (x % 2147483399):=λx=>aP9 (by grind) (by grind)
 have sk:J0 ((k:Int)+1):=M9 (k:=61) (by grind) (by decide);have s1:J0 69069:=M9 (k:=17) (by decide) (by decide);have s2:J0 104723:=M9 (k:=17) (by decide) (by decide);have s3:J0 3:=M9 (k:=2) (by decide) (by decide);have s7:J0 7:=M9 (k:=3) (by decide) (by decide);have s11:J0 11:=M9 (k:=4) (by decide) (by decide)
 exists evA,aH6,cB7 ns k hn hk,aF1 (show(0:Int) < 2147483563 by decide),aF1 (show(0:Int) < 2147483399 by decide),aF1 (show(0:Int) < 2147483647 by decide),aF1 hm,ac5 (c0 _) s1,ac5 s2 sk,ac5 (c0 _) (c0 _),ac5 (c1 _) (c1 _),bl0 (show(0:Int) < 3 by decide) s3,bl0 (show(0:Int) < 7 by decide) s7,bl0 (show(0:Int) < 11 by decide) s11
 rfl
def ca1(ns:La Int)(k:Nat)(m:Int)(hm:0 < m):0<=aT7 ns k m/\aT7 ns k m < m:=by
 unfold aT7;exact#[Int.emod_nonneg _ (by omega),Int.emod_lt_of_pos _ hm]
def sp(c x y z:Rat):D:=.tuple [fr c,fr x,fr y,fr z]
def N8{x y:Str}{b:Bool}(hx:fE (.str x)=true)(hy:fE (.str y)=true)(e:(x==y)=b):eqD (.str x) (.str y)=Oa (.bool b):=by
 unfold eqD;have s:∀z:Str,fE (.str z)=true->fy (.str z)=true:=λz h=>by unfold fy;rw[h];rfl
 rw[if_pos #[s x hx,s y hy]];show Oa (fC<|x==y)=_;rw[e]
def ae8{x y:Str}{b:Bool}(hx:fE (.str x)=true)(hy:fE (.str y)=true)(e:(!(x==y))=b):neD (.str x) (.str y)=Oa (.bool b):=by
 unfold neD;have s:∀z:Str,fE (.str z)=true->fy (.str z)=true:=λz h=>by unfold fy;rw[h];rfl
 rw[if_pos #[s x hx,s y hy]];show Oa (fC (!(x==y)))=_;rw[e]
inductive Man where
 | over|mult|screen|plus|atop|cut
inductive Rul where
 | turn|grey|round
end Sh
namespace Sh
open PySem PySem.Spec PyProof.Rows L2 G
end Sh
namespace Sh
open PySem G L2
def z3(a b c d e f:D):(List.zip [a,b,c] [d,e,f]).map (λ(x,y)=>PyData.tuple [x,y])=[.tuple [a,d],.tuple [b,e],.tuple [c,f]]:=rfl
end Sh
namespace Sh
open PySem PySem.Spec PyProof.Rows L2 G
def bt8:DS:=(B7<|T6 (A7 Z8 {0}) (L5 leI leI ⇑1 (!0) ⇑8))
def af8:La D->Ob D:=E2 bt8 1
def be9:DS:=(B3 (sIf (E1 (D3<|E7 (O9 "tuple" !0))<|tB2 neD (F7<|B0 0) ⇑3) (B7<|dC (.bool false)) D6)<|B7 (T6 (A7 af8 {dIx (B0 0) ⇑0})<|T6 (A7 af8 {dIx (B0 0) ⇑1}) (O9 "tuple"<|dIx (B0 0) ⇑2)))
def aa3:La D->Ob D:=E2 be9 1
def bf1:DS:=(B3 (sIf (D3<|E7 (A7 aa3 {0})) (B7<|dC (.bool false)) D6)<|B3 (C7 1<|dIx (B0 0) ⇑2) (B7<|T6 (A9 eqD (F7<|B0 1)<|A9 G7 (dIx (B0 0) ⇑0) (dIx (B0 0) ⇑1)) (aq1<|qN (D2 1 [] (G2 !1) (D1 0) F6<|A7 aq8 {0}))))
def Z9:La D->Ob D:=E2 bf1 2
def aH2:DS:=(B3 (aa7 4<|D2 1 [0,1] (J9<|A9 G7 (!2) !3) (D1 0) F6 (A7 ao4 {1,A9 B4 (!2)<|A9 G7 ⇑12 !0}))<|B3 (sIf (tB2 eqD (A7 B6 {0,A9 B4 (!1) ⇑7,⇑3}) ⇑0) (C7 4<|A9 G7 (S9 (!4) J1<|D5 ⇑1) (A9 G7 (!2) !3)) D6) (B7<|L9 {2,3,N1<|B0 4}))
def af5:La D->Ob D:=E2 aH2 5
def aN8:DS:=(B3 (sIf (E1 (D3<|E7 (O9 "tuple" !0))<|tB2 neD (F7<|B0 0) ⇑3) (B7<|dC (.bool false)) D6)<|B3 (sIf (tB2 neD (E5<|D2 1 [] (G2<|S9 (!0) J1 (D5 ⇑2)) (D1 0) (E1 (D3<|E7 (A7 K6 {0}))<|D3 (ai5<|L5 leI leI ⇑1 (!0) ⇑8)) !0)<|E5 A8) (B7<|dC (.bool false)) D6) (B3 (sIf (E1 (D3<|E7 (O9 "tuple"<|dIx (B0 0) ⇑2))<|tB2 neD (F7<|qE (dIx (B0 0) ⇑2)) (A9 G7 (dIx (B0 0) ⇑0)<|dIx (B0 0) ⇑1)) (B7<|dC (.bool false)) D6)<|B7 (A9 eqD (E5<|D2 1 [] (G2<|dIx (B0 0) ⇑2) (D1 0) (D3<|E7 (A7 ad8 {0})) !0)<|E5 A8)))
def X9:La D->Ob D:=E2 aN8 1
end Sh
namespace Sh
open PySem G L2
structure Q4 where
 c:Rat
 x:Rat
 y:Rat
 z:Rat
def q0:Q4:=#[0,0,0,0]
theorem ch1{y:Type}{e:DE}{r:Rho}{h f:y->D}:∀(l:La y) (x:Ob B),(∀a∈l,e ([:h a]::r)=Oa (f a))->Z1 (D1 0) F6 e (l.map h) (x::r)=Oa (l.map f)
 | [],_,_=>rfl
 | a::l,x,H=>by simp only[xmc,Z1,D1,xw0,xbs,F6,if_true,H a (aQ ..),ch1 l _ (λb hb=>H b<|xmm _ hb),xms]
theorem ch0{z:Type}{e:DE}{r:Rho}{h1 h2 f:z->D}:∀(l:La z) (x y:Ob B),(∀a∈l,e ([:h1 a]::[:h2 a]::r)=Oa (f a))->Z1 (ac8 2<|K8 (D1 0) (K8 (D1 1) ah7)) F6 e (l.map λa=>.tuple [h1 a,h2 a]) (x::y::r)=Oa (l.map f)
 | [],_,_,_=>rfl
 | a::l,x,y,H=>by
  have hl:([h1 a,h2 a]:La D).length=2:=rfl;simp only[xmc,Z1,ac8,K8,ah7,D1,hl,if_true,xw0,xw1,xbs,F6,if_true,H a (aQ ..),ch0 l _ _ (λb hb=>H b<|xmm _ hb),xms]
theorem bM2{y:Type}{c:Rho->Ob Bool}{e:DE}{r:Rho}{h f:y->D}{p:y->Bool}:∀(l:La y) (x:Ob B),(∀a∈l,c ([:h a]::r)=Oa (p a))->(∀a∈l,e ([:h a]::r)=Oa (f a))->Z1 (D1 0) c e (l.map h) (x::r)=Oa ((l.filter p).map f)
 | [],_,_,_=>rfl
 | a::l,x,C,H=>by
  have ih:=bM2 l ([:h a]) (λb hb=>C b<|xmm _ hb) (λb hb=>H b<|xmm _ hb);cases q:p a with
  | true =>simp only[xmc,Z1,D1,xw0,xbs,C a (aQ ..),q,if_true,H a (aQ ..),ih,xms,List.filter_cons_of_pos q]
  | false =>
   have q':¬p a=true:=by rw[q];exact aX
   simp only[xmc,Z1,D1,xw0,xbs,C a (aQ ..),q,xft,if_false,ih,List.filter_cons_of_neg q']
def U2{y:Type}{zd:La Nat}{src:Rho->Ob (La D)}{e:DE}{ρ r:Rho}{l:La y}{h f:y->D}(hr:w8 1 zd ρ=Z::r)(hs:src ρ=Oa (l.map h))(hl:l.length<=1000)(H:∀a∈l,e ([:h a]::r)=Oa (f a)):
  D2 1 zd src (D1 0) F6 e ρ=Oa (l.map f):=by
 unfold D2;rw[hs,xbs,if_pos (by rw[ai];grind),hr,ch1 l _ H]
def cS4{z:Type}{zd:La Nat}{src:Rho->Ob (La D)}{e:DE}{y r:Rho}{l:La z}{h1 h2 f:z->D}(hr:w8 2 zd y=Z::Z::r)(hs:src y=Oa (l.map λa=>.tuple [h1 a,h2 a]))(hl:l.length<=1000)(H:∀a∈l,e ([:h1 a]::[:h2 a]::r)=Oa (f a)):
  D2 2 zd src (ac8 2<|K8 (D1 0) (K8 (D1 1) ah7)) F6 e y=Oa (l.map f):=by
 unfold D2;rw[hs,xbs,if_pos (by rw[ai];omega),hr,ch0 l _ _ H]
def bV8{α:Type}{zd:La Nat}{src:Rho->Ob (La D)}{c:Rho->Ob Bool}{e:DE}{y r:Rho}{l:La α}{h f:α->D}{p:α->Bool}(hr:w8 1 zd y=Z::r)(hs:src y=Oa (l.map h))(hl:l.length<=1000)(C:∀a∈l,c ([:h a]::r)=Oa (p a))(H:∀a∈l,e ([:h a]::r)=Oa (f a)):
  D2 1 zd src (D1 0) c e y=Oa ((l.filter p).map f):=by
 unfold D2;rw[hs,xbs,if_pos (by rw[ai];omega),hr,bM2 l _ C H]
def am0{f:DE}{y:Rho}{n:Nat}(h:f y=Oa (.int n))(hn:n<=1000):J9 f y=Oa ((bf n).map λk:Nat=>fB k):=by
 unfold J9;rw[h,xbs];show(if -(2 ^ 62)<=(n:Int)/\(n:Int) < 2 ^ 62 then Oa (W6 0 n) else Z)=_;rw[if_pos #[by grind,by grind]];unfold W6
 congr 1
 have e:((n:Int) - 0).toNat=n:=by grind
 rw[e];apply bJ;intro k _
 congr 1
 grind
def ay2{i j:Int}(h1:J0 i)(h2:J0 j):G7 (.int i) (.int j)=Oa (.int<|i*j):=ac5 h1 h2
def V9{i j:Nat}(h1:i<=1000)(h2:j<=1000):G7 (.int i) (.int j)=Oa (.int ((i*j:Nat):Int)):=by rw[ay2 (T8 (k:=10) (by grind)<|by decide) (T8 (k:=10) (by grind)<|by decide),dk]
def bI5{n:Nat}{i:Int}(h0:0<=i)(h1:i < n):ixN n i=Oa i.toNat:=by unfold ixN;rw[if_pos h0,if_pos h1]
noncomputable abbrev scr(ns:La Int):D:=.list<|ns.map fB
def ac9(ns:La Int)(k m:Nat)(hn:ns.length<=63)(hk:k < 2 ^ 60)(hm:0 < m):∃n:Nat,B6 [scr ns,.int k,.int m]=Oa (.int n)/\n < m:=by
 have a:=cb7 ns k m hn hk (by grind);have b:=ca1 ns k m (by grind);refine#[(aT7 ns k m).toNat,?_,by grind];rw[a]
 congr 2
 grind
def B5{h:D->D->Ob D}{f g:DE}{z:Rho}{x y:D}(h1:f z=Oa x)(h2:g z=Oa y):A9 h f g z=h x y:=by unfold A9;rw[h1,xbs,h2,xbs]
theorem ax6{y:Type}(a:y):∀n:Nat,(av n [a]).flatten=av n a
 | 0=>rfl
 | n+1=>by rw[bI,bZ,ax6 a n];rfl
def bD2{xs:La D}{n:Nat}(hn:n<=1000)(hx:xs.length<=1000):G7 (.list xs) (.int n)=Oa (.list (av n xs).flatten):=by
 show(if 0<=(n:Int)/\(n:Int) < 1000000/\xs.length*((n:Int)).toNat<=16777216 then Oa (PyData.list (av ((n:Int)).toNat xs).flatten) else Z)=_;rw[bO,if_pos #[by omega,by omega,aI (cg hx hn)<|by decide]]
def cU1(a:D)(r:La D):Z0 (a::r) Z (Oa 1)=[a]:=by
 unfold Z0;have h1:HT.sIx (a::r).length 0 Z=0:=by simp[HT.sIx]
 have h2:HT.sIx (a::r).length (a::r).length (Oa 1)=1:=by simp only[HT.sIx,ag];first|omega|(simp;omega)|simp
 rw[h1,h2];rfl
theorem aB0{y:Type}(f:y->Bool):∀l:La y,aV7 (l.map λa=>fC<|f a)=Oa (l.all f)
 | []=>rfl
 | a::l=>by
  show(aV7<|l.map λa=>fC<|f a).map (λc=>f a&&c)=_;rw[aB0 f l];rfl
def q4:(4:Nat)<=16777216:=by decide
def q3:(3:Nat)<=16777216:=by decide
end Sh
namespace Sh
open PySem PySem.Spec PyProof.Rows L2 G
def bt6:DS:=(B7<|dIx (B0 0) ⇑0)
def S3:La D->Ob D:=E2 bt6 1
def aB7:DS:=(B7<|A9 eqD (A7 S3 {0}) !"layer")
def U9:La D->Ob D:=E2 aB7 1
def aH7:DS:=(B7<|A9 eqD (A7 S3 {0}) !"tone")
def aq7:La D->Ob D:=E2 aH7 1
def aV9:DS:=(B7<|dIx (B0 0) ⇑2)
def W3:La D->Ob D:=E2 aV9 1
def bt0:DS:=(B7<|dIx (B0 0) ⇑2)
def aH8:La D->Ob D:=E2 bt0 1
def aD9:DS:=(B7<|dIx (B0 0) ⇑3)
def Q0:La D->Ob D:=E2 aD9 1
def bf0:DS:=(B7<|dIx (B0 0) ⇑4)
def Q9:La D->Ob D:=E2 bf0 1
def bt3:DS:=(B7<|dIx (B0 0) ⇑5)
def aq6:La D->Ob D:=E2 bt3 1
def bN3:DS:=(B7<|dIx (B0 0) ⇑6)
def aC0:La D->Ob D:=E2 bN3 1
def bt2:DS:=(B7<|dIx (B0 0) ⇑7)
def aq5:La D->Ob D:=E2 bt2 1
def be4:DS:=(B7<|dIx (B0 0) ⇑8)
def aa1:La D->Ob D:=E2 be4 1
def aE1:DS:=(B7<|dIx (B0 0) ⇑5)
def K9:La D->Ob D:=E2 aE1 1
def nbA:DS:=(C7 6<|M0 (!"") (qN<|D2 1 [0,1,5] (J9 ⇑2) (D1 0) F6 (v8 (!"abcdefghijklmnopqrstuvwxyz")<|A7 B6 {1,A9 B4 (A9 B4 (A9 B4 (!2) ⇑1)<|A9 G7 ⇑3 !3) !0,⇑26})))
def nbB:DS:=(C7 6<|A9 bo8 (Y8 (!6) J1<|D5 (A7 B6 {0,A9 B4 (A9 B4 (!1) ⇑3)<|A9 G7 ⇑3 !5,⇑3})) (dIx (qN {⇑1,⇑2})<|A7 B6 {0,A9 B4 (A9 B4 (!1) ⇑2)<|A9 G7 ⇑3 !5,⇑2}))
def nbC:DS:=(N5 4<|dIx (qN {A9 B4 (!6)<|v8 (!"abcdefghijklmn") !5,A9 B4 (v8 (!"abcdefghijklmn") !5) !6}) (ag8 !3))
def aH5:DS:=(B3 (C7 3<|A9 eqD (A7 B6 {0,1,⇑2}) ⇑0)<|B3 (O1 4 A8) (B3 (ab1 (J9 !2) (D1 5)<|B3 nbA (B3 nbB nbC))<|at3 4 (B7 !4)))
def af7:La D->Ob D:=E2 aH5 7
def ar5:DS:=(C7 4<|A7 N4 {0,1})
def ar4:DS:=(C7 5<|A9 gtI (A7 B6 {0,A9 B4 (!1) ⇑3,⇑6}) ⇑0)
def V8:DS:=(sIf (tB2 eqD (A7 B6 {0,A9 B4 (!1) ⇑4,⇑6}) ⇑0) (B7<|L9 {!"tone",2,dIx (qN {!"turn",!"grey",!"round"})<|A7 B6 {0,A9 B4 (!1) ⇑5,⇑3},4,5}) D6)
def h8:DS:=(C7 6<|dIx (qN {!"over",!"multiply",!"screen",!"plus",!"atop",!"cut"}) (A7 B6 {0,A9 B4 (!1) ⇑5,⇑6}))
def R6:DS:=(sIf (tB2 gtI (A7 B6 {0,A9 B4 (!1) ⇑6,⇑3}) ⇑0) (C7 6 !3) D6)
def g8:DS:=(C7 7<|A9 B4 ⇑1 (A7 B6 {0,A9 B4 (!1) ⇑7,⇑3}))
def b6:DS:=(C7 8<|A9 B4 ⇑1 (A7 B6 {0,A9 B4 (!1) ⇑8,⇑3}))
def ab9:DS:=(C7 9<|dC .none)
def V7:DS:=(sIf (tB2 eqD (A7 B6 {0,A9 B4 (!1) ⇑9,⇑3}) ⇑0) (C7 9<|N1 (qN<|D2 1 [0,1] (J9<|A9 G7 (!7) !8) (D1 0) F6 (A7 N4 {1,A9 B4 (A9 B4 (!2) ⇑20)<|A9 G7 ⇑3 !0}))) D6)
def ab8:DS:=(C7 10<|A9 ak9 (A7 B6 {0,A9 B4 (!1) ⇑10,⇑4}) ⇑1)
def t7:DS:=(C7 11<|A9 ak9 (A7 B6 {0,A9 B4 (!1) ⇑11,⇑4}) ⇑1)
def S4:DS:=(sIf (tB2 eqD (A7 B6 {0,A9 B4 (!1) ⇑12,⇑3}) ⇑0) (aY1 (L9 {⇑3,⇑3,⇑0,⇑0,dC .none})<|ac8 5 (K8 (D1 7)<|K8 (D1 8) (K8 (D1 10)<|K8 (D1 11) (K8 (D1 9) ah7)))) D6)
def r9:DS:=(C7 12<|A7 af5 {0,A9 B4 (!1) ⇑50,7,8})
def al0:DS:=(B7<|L9 {!"layer",2,6,4,5,10,11,9,12})
def aW2:DS:=(B3 ar5<|B3 ar4 (B3 V8<|B3 h8 (B3 R6<|B3 g8 (B3 b6<|B3 ab9 (B3 V7<|B3 ab8 (B3 t7<|B3 S4 (B3 r9 al0)))))))
def r6:La D->Ob D:=E2 aW2 13
def gb0:DS:=(C7 8<|A7 B6 {0,A9 B4 (A9 B4 (!1) ⇑3)<|A9 G7 ⇑5 !7,A9 B4 (F7<|B0 6) ⇑1})
def gb1:DS:=(C7 9<|A9 B4 (!8) (A7 B6 {0,A9 B4 (A9 B4 (!1) ⇑4)<|A9 G7 ⇑5 !7,⇑3}))
def gb2:DS:=(C7 10<|dIx (qN {L9 {⇑1,⇑1},A7 N4 {0,A9 B4 (A9 B4 (!1) ⇑5)<|A9 G7 ⇑5 !7}}) (A7 B6 {0,A9 B4 (A9 B4 (!1) ⇑6)<|A9 G7 ⇑5 !7,⇑2}))
def gb3:DS:=(C7 11<|dIx (qN {4,!"atop",4,!"cut"}) (A7 B6 {0,A9 B4 (A9 B4 (!1) ⇑7)<|A9 G7 ⇑5 !7,⇑4}))
def gb4:DS:=(C7 12<|L9 {!"group",dIx (B0 3)<|A9 B4 (!2) !7,11,10,A9 gtI (A7 B6 {0,A9 B4 (A9 B4 (!1) ⇑14) !7,⇑7}) ⇑0})
def gb5:DS:=(bz6 6 (D5 !8) (D5 !9) {A9 B4 (!12)<|L9 {N1<|qE (bs3 (B0 6) (D5 !8)<|D5 !9)}})
def bk5:DS:=(B3 gb0<|B3 gb1 (B3 gb2<|B3 gb3 (B3 gb4 gb5)))
def gn0:DS:=(C7 4<|dIx (qN {!"over",!"multiply",!"screen",!"plus"}) (A7 B6 {0,1,⇑4}))
def gn1:DS:=(C7 5<|A7 B6 {0,A9 B4 (!1) ⇑1,A9 B4 (!2) ⇑1})
def gn2:DS:=(O1 6<|D2 1 [0,4,3,1] (J9 !5) (D1 0) F6 (A7 r6 {1,A9 B4 (A9 B4 (!4) ⇑20)<|A9 G7 ⇑170 !0,dIx (B0 3) !0,2}))
def gn3:DS:=(ab1 (J9<|A7 B6 {0,A9 B4 (!1) ⇑2,⇑3}) (D1 7) bk5)
def aH4:DS:=(B3 gn0<|B3 gn1 (B3 gn2<|B3 gn3 (B7<|N1 (B0 6))))
def af6:La D->Ob D:=E2 aH4 13
def at1:DS:=(B3 (C7 4<|A9 B4 ⇑1 (A7 B6 {0,1,⇑3}))<|B3 (C7 5<|A9 B4 ⇑1 (A7 B6 {0,A9 B4 (!1) ⇑1,⇑3})) (B7<|L9 {4,5,A7 af6 {0,A9 B4 (!1) ⇑2,2,3}}))
def i6:La D->Ob D:=E2 at1 6
end Sh
namespace Sh
open PySem G L2
inductive Nd where
 | layer (nm:D) (m:Man) (s:Rat) (sh:Bool) (lf tp:Int) (mk:Option (List Rat)) (w h:Nat) (l:List Q4) (kb:Nat)
 | tone (nm:D) (r:Rul) (s:Rat) (sh:Bool)
 | group (nm:D) (m:Man) (s:Rat) (sh:Bool) (ns:List Nd)
def B2{f g:DS}{y ρ':Rho}(h:f y=Oa (.nx ρ')):B3 f g y=g ρ':=by unfold B3;rw[h];rfl
def P3{f g:DS}{y:Rho}{d:D}(h:f y=Oa (.rt d)):B3 f g y=Oa (.rt d):=by unfold B3;rw[h];rfl
theorem az2{z:Type}{g:D->Rho->Ob Rho}{f:DS}{h:z->D}{I:Nat->Rho->Prop}:∀(l:La z) (i:Nat) (y:Rho),I i y->(∀(j:Nat) (a:z),l[j]? = Oa a->∀y,I (i+j) y->∃ρ1,g (h a) y=Oa ρ1/\∃ρ',f ρ1=Oa (.nx ρ')/\I (i+j+1) ρ')->∃ρ',m7 g f (l.map h) y=Oa (.nx ρ')/\I (i+l.length) ρ'
 | [],i,y,h0,_=>#[y,rfl,h0]
 | a::l,i,y,h0,H=>by
  obtain⟨ρ1,e1,ρ2,e2,h2⟩:=H 0 a rfl y h0
  obtain⟨ρ',e3,h3⟩:=az2 l (i+1) ρ2 (by simpa using h2) (λj b hb y hρ=>by
   have:=H (j+1) b (by simpa using hb) y (by rwa [show i+(j+1)=i+1+j by grind])
   rwa [show i+(j+1)+1=i+1+j+1 by grind]at this)
  refine#[ρ',?_,by rw[ag,show i+(l.length+1)=i+1+l.length by grind];exact h3];simp only[xmc,m7,e1,xbs,e2,e3]
def aT6{y:Type}(x:y){n:Nat}{P:Nat->y->Prop}(h:∀j,j < n->∃a,P j a):∃f:Nat->y,∀j,j < n->P j (f j):=by
 refine#[λj=>if hj:j < n then Classical.choose (h j hj) else x,λj hj=>?_];simp only[dif_pos hj];exact Classical.choose_spec<|h j hj
def K4(ns:La Int)(hn:ns.length<=63){e m':Int}(k m:Nat)(he:e=(k:Int))(hm':m'=(m:Int))(hk:k < 2 ^ 60)(hm:0 < m):∃n:Nat,B6 [scr ns,.int e,.int m']=Oa (.int n)/\n < m:=by
 subst he hm';exact ac9 ns k m hn hk hm
def drw(ns:La Int)(hn:ns.length<=63)(a:Nat)(c m:Int)(ha:a < 2 ^ 59)(hc:0<=c/\c < 1048576:=by decide)(hm:0 < m:=by decide):∃n:Nat,B6 [scr ns,.int ((a:Int)+c),.int m]=Oa (.int n)/\n < m.toNat :=
 K4 ns hn (e:=a+c) (m':=m) (a+c.toNat) m.toNat (by grind) (by grind) (by grind) (by grind)
def SOk(s:Str):Prop:=∀c∈s.cps.toList,97<=c/\c<=122
def SOk.app{a b:Str}(ha:SOk a)(hb:SOk b):SOk (a++b):=by
 intro c hc;have:c∈(a.cps++b.cps).toList:=hc;rw[Array.toList_append]at this;rcases aE.mp this with h|h
 .exact ha c h
 .exact hb c h
def bA1{x:Str}(h:SOk x)(k:Int)(hk:k=1\/k=2):SOk (at4 x k):=by
 unfold at4;split
 .exact h
 .rename_i e;rcases hk with rfl|rfl
  .simp at e
  .intro c hc;have:c∈(((List.toArray [])++x.cps)++x.cps).toList:=hc;simp at this;exact h c<|cH.mpr this
def aQ6(x:Str)(k:Int)(hk:k=1\/k=2):(at4 x k).length<=2*x.length:=by
 unfold at4;split
 .grind
 .rename_i e;rcases hk with rfl|rfl
  .simp at e
  .show(((List.toArray [])++x.cps)++x.cps).size<=2*x.cps.size;simp;grind
def cL4(a b:Str)(ha:a.length=1)(hb:b.length=1):M0 (!"") (λ_=>Oa (false,[.str a,.str b])) []=Oa (.str<|Builtin.Str.glued "" [a,b])/\(Builtin.Str.glued "" [a,b]).length=2:=by
 have h2:(Builtin.Str.glued "" [a,b]).length=2:=by
  show(a.cps++("":Str).cps++b.cps).size=2;unfold Str.length at ha hb;rw[cD,cD,ha,hb];rfl
 have h1:N6 "" [a,b]<=16777216:=by
  show 0+a.length+("":Str).length+b.length+("":Str).length<=16777216;have:("":Str).length=0:=rfl
  grind
 refine#[?_,h2];show(if N6 "" [a,b]<=16777216/\(Builtin.Str.glued "" [a,b]).length<=16777216 then Oa (fD<|Builtin.Str.glued "" [a,b]) else Z)=_;rw[if_pos #[h1,by grind]]
def bX6{f:DE}{g:Rho->Ob (Bool×La D)}{y:Rho}{a b:Str}(hf:f y=Oa (.str ""))(hg:g y=Oa (false,[.str a,.str b]))(ha:a.length=1)(hb:b.length=1):M0 f g y=Oa (.str<|Builtin.Str.glued "" [a,b]):=by
 rw[<- (cL4 a b ha hb).1];unfold M0;rw[hf,hg];rfl
def bV9(x:Str)(k:Int)(hk:k=1\/k=2)(hx:x.length<=1000):bo8 (.str x) (.int k)=Oa (.str<|at4 x k):=by
 show(if 1<=k/\k<=2/\x.length<=1000/\(at4 x k).length<=16777216 then Oa (fD<|at4 x k) else Z)=_;have:=aQ6 x k hk;rw[if_pos #[by grind,by grind,hx,by grind]]
def cT1:∀n:Nat,n < 2->∃k:Int,atI ([.int 1,.int 2]:La D) (n:Int)=Oa (.int k)/\(k=1\/k=2)
 | 0,_=>#[1,rfl,.inl rfl]
 | 1,_=>#[2,rfl,.inr rfl]
 | n+2,h=>absurd h (by grind)
def bi5:DS:=B3 nbA<|B3 nbB nbC
def bJ5:aH5=(B3 (C7 3<|A9 eqD (A7 B6 {0,1,⇑2}) ⇑0)<|B3 (O1 4 A8) (B3 (ab1 (J9 !2) (D1 5) bi5)<|at3 4 (B7 !4))):=rfl
def gn4:DS:=(B7<|N1 (B0 6))
def bJ4:aH4=(B3 gn0<|B3 gn1 (B3 gn2<|B3 gn3 gn4)):=rfl
def ad1(n:Nat):(1:Int)+(n:Int)=((1+n:Nat):Int):=by grind
def ca4{ds:La D}{a b:Nat}(ha:a<=ds.length):Z0 ds (Oa (a:Int)) (Oa (b:Int))=(ds.drop a).take (min b ds.length - a)/\∀es:La D,aw9 ds (Oa (a:Int)) (Oa (b:Int)) es=ds.take a++es++ds.drop (max a<|min b ds.length):=by
 have h1:HT.sIx ds.length 0 (Oa (a:Int))=a:=by rw[HT.sIx_nat];grind
 have h2:HT.sIx ds.length ds.length (Oa (b:Int))=min b ds.length:=HT.sIx_nat ..;refine#[?_,λes=>?_]
 .unfold Z0;rw[h1,h2]
 .unfold aw9;rw[h1,h2]
end Sh
namespace Sh
open PySem PySem.Spec PyProof.Rows L2 G
def aB8:DS:=(B7<|A9 eqD (A7 S3 {0}) !"group")
def J8:La D->Ob D:=E2 aB8 1
def bt1:DS:=(B7<|dIx (B0 0) ⇑1)
def N3:La D->Ob D:=E2 bt1 1
def aB1:DS:=(B3 (ab1 (cM9<|qE !0) (ac8 2<|K8 (D1 2) (K8 (D1 3) ah7))<|sIf (tB2 eqD (A7 N3 {3}) !1) (B7 !2) D6)<|B7 (dC .none))
def aC1:La D->Ob D:=E2 aB1 4
def aN6(self:La D->Ob D):DS:=(B3 (sIf (tB2 aC7 (A7 aC1 {0,1})<|dC .none) (B7 !0) D6)<|B3 (ab1 (G2 !0) (D1 2)<|sIf (E7<|A7 J8 {2}) (B3 (C7 3<|A7 self {A7 K9 {2},1})<|sIf (tB2 aC7 (!3)<|dC .none) (B7 !3) D6) D6) (B7<|dC .none))
def aO2:Nat->La D->Ob D
 | 0=>λ_=>Z
 | k+1=>E2 (aN6<|aO2 k) 4
def bm4(self:La D->Ob D):DS:=(B3 (O1 1 A8)<|B3 (ab1 (G2 !0) (D1 2)<|B3 (N5 1 !2) (sIf (tB2 eqD (dIx (B0 2) ⇑0) !"group") (O1 1<|am5 (B0 1) (qE<|A7 self {dIx (B0 2) ⇑5})) D6)) (at3 1<|B7 !1))
def aa2:Nat->La D->Ob D
 | 0=>λ_=>Z
 | k+1=>E2 (bm4<|aa2 k) 3
end Sh
namespace G
open PySem PySem.Spec PyProof.Rows L2
abbrev FnD:=La D->Ob D
structure Sg where
 fn:List (Str×FnD×Nat)
 cs:List (Str×D)
 bl:List Str
structure Kx where
 N:List Str
 sc:Scope
 df:Bool
 own:List Nat
 cpt:List Nat
 tx:List Nat
 dx:List Nat
 old:Bool
 fz:List (Nat×List Nat)
 hc:List ((Nat×Nat)×List Nat)
 up:Nat:=0
 gb:D:=.none
def biS(K:af)(n:Nat)(F:La D->Ob D):La V->Hp->VK->Prop:=λvs H Q=>vs.length=n/\∃Hf ds d,D8 Hf H/\Reps K Hf ds vs/\F ds=Oa d/\∀v H' zc,Grow H Hf H' zc->Rep K zc d v->Q v H'
def cB9(x:Str)(F:FnD)(n:Nat):Prop:=0 < n/\x ≠ "__name__" /\ ∃nm,fe x=Oa (.builtin nm)/\∀X:Cx,X.A.units+64 < cLine->W4 X (.builtin nm) (biS X.K n F)
def cL8(hb:cB9 x F n)(hu:X.A.units+64 < cLine)(hg:Gl X x)(hm:X.mg x=Z)(ha:JA X (e::es) g)(hn:(e::es).length=n)(hdb:(x==("__debug__":Str))=false)
  (he:eQ (e::es) X.env=(false,eval e X.env)::eQ es X.env) (hpl:(backTo pos<|eQ es X.env).any (·.1)=false):JE X (.Call (.Name x p) (e::es) [] pos) (A7 F g):=λy d q=>by
 obtain⟨ds,h1,h2⟩:=xbo q;obtain⟨_,hnn,nm,hv,hc⟩:=hb;refine C8 (O2 (hc X hu) hg hm hv (ha.run y ds h1) hnn hdb he hpl) λz H Q w=>?_
 obtain⟨H0,Hf,s,sl,kk⟩:=w;exact#[H0,Hf,s,sl,λvs H1 Hf1 g1 r1=>#[by rw[r1.length,ha.len y ds h1,hn],Hf1,ds,d,g1.sub,r1,h2,λv H2 Hf2 g2 r2=>kk v H2 Hf2 (g1.trans g2) r2]]
def bu1(X:Cx)(zb:Bool)(x:Str)(F:FnD)(n:Nat):Prop:=(∃(k:Nat) (f:fL) (fd:eZ) (ps:La Str),Ps X zb/\FnOk X.prog X.w X.K X.mg X.base (CXb X.K X.prog X.w zb) k f fd ps (spF X.K n F)/\Room k X.A/\X.mg x=Oa (.ref f)/\aN X.K (.ref f)=true/\K0 X.K fd ps [])\/(X.mg x=Z/\cB9 x F n)
def NT(K:af)(mg:Str->Ob fJ):Prop:=∃D,clA K "NoText" = Oa D/\bQ K D veB "ValueError.__new__" = true/\mg "NoText" = Oa (.ref D)
def aR2{X:Cx}{e:Expr}{d:D}{np cpos pos:Pos}(t:Th X)(n:NT X.K X.mg)(hg:Gl X "NoText")(hc:X.calm=true)(he:JE X e (dC d))(hs:eQ [e] X.env=[(false,eval e X.env)]):PS X (.Raise (Oa<|.Call (.Name "NoText" np) [e] [] cpos) Z pos) (λ_ _ _=>True):=by
 intro za s y H En I _;obtain⟨D,hD,hq,hm⟩:=n;obtain⟨bm,@⟨nm,qn,N,bs,hd',sn,sub,ab,col,dd,k0,k1,k2,k3,k5,mN,g1,g2,g3,g4⟩⟩:=az3 I.mod.kin hq;refine wpAny_Raise_call_subT (C:=D) (bm:=bm) (nm:=nm) (q:=qn) (N:=N) (bs:=bs) (hdct:=hd') (sn:=sn) (sub:=sub) (ab:=ab) (col:=col) (dd:=dd) (k0:=k0) (k1:=k1) (k2:=k2) (k3:=k3) (k5:=k5) F.excBase_ValueError (g4.hasType<|by decide) (I.ok.hd hc) (by rw[hs];rfl) g3 ?_;refine X4 I hg hm #[rfl,?_] (by decide)
 have no:∀(i:Nat) (b:G.B),(av y.length (Z:Ob G.B))[i]?≠Oa (Oa b):=λi b h=>by
  rw[bh]at h;split at h<;>cases h
 have hA:=(h9 he aL1 (by rw[hs];rfl)).run (av y.length Z) [d] rfl cpos za s y H (λvs _=>vs.length=1) I #[H,λ_=>Z,(λb u e=>nomatch e),#[bN,λi b h=>(no i b h).elim,λi j d1 d2 a h=>(no i _ h).elim],λvs H' zc gr rs=>rs.length];rw[hs]at hA |-;refine Calls.evalArgs_plain (thn hA λus s2 w=>?_);obtain⟨vs,H2,I2,r2,l1⟩:=w;exact#[rfl,by show us.length<=_;rw[<- r2.length,l1];decide,I2.bk _ _ g1,g2.keeps I2.bk,g4.keeps I2.bk,λh' a hm'=>t.mo I2 hD hm']
def bF8{X:Cx}{st:Stmt}{fl:Fl}(h:PS X st λ_ _ _=>True):JS X st (λ_=>Oa fl):=λy fl' q H0 Hf0=>by
 cases q;exact G0 h λ_ _ _ _=>trivial
structure Fit (S:Sg) (c:Kx) (X:Cx):Prop where
 N:X.N=c.N
 sc:X.env.scope=c.sc
 nd:c.N.Nodup
 calm:X.calm=true
 po:c.df=true->PassesOwn (fu X.prog X.w) X.A X.env X.xe
 th:c.up=2->Th X/\NT X.K X.mg
 units:X.A.units+64 < cLine
 df:c.df=true->(∀x,X.fn x=true)/\c.sc.kind=.function
 fns:∀x F n,S.fn.lookup x=Oa (F,n)->bu1 X (c.up != 0) x F n
 css:∀x d,S.cs.lookup x=Oa d->∃u,aV8 X.K d u/\X.mg x=Oa u
 bls:∀x,S.bl.contains x=true->X.mg x=Z
def pl:Expr->Bool
 | .Starred ..=>false
 | .Slice ..=>false
 | .Set ..=>false
 | _=>true
def bC8:Expr->Bool
 | .Call _ [] _ _=>false
 | _=>true
def isC:Expr->Bool
 | .ListComp ..=>true
 | .SetComp ..=>true
 | .DictComp ..=>true
 | _=>false
def plT:Expr->Bool
 | .UnaryOp ..=>false
 | .BoolOp ..=>false
 | .IfExp ..=>false
 | .Compare ..=>false
 | _=>true
def X5(x:Str):La Str->Ob Nat
 | []=>Z
 | y::r=>if y==x then Oa 0 else(X5 x r).map (·+1)
theorem aT2:∀{l:La Str}{i:Nat},X5 x l=Oa i->l[i]? = Oa x
 | [],i,h=>by cases h
 | y::r,i,h=>by
  unfold X5 at h;split at h
  .rename_i e;cases h;simp only[beq_iff_eq]at e;subst e;rfl
  .obtain⟨j,h1,h2⟩:=xmo h;subst h2;simpa using aT2 h1
def ak0:La Str->Bool
 | []=>true
 | x::r=>!(r.contains x)&&ak0 r
theorem ae7:∀{l:La Str},ak0 l=true->l.Nodup
 | [],_=>List.nodup_nil
 | x::r,h=>by
  unfold ak0 at h;simp only[ae,bj]at h;refine cR.mpr #[λz=>?_,ae7 h.2];have:=h.1;rw[List.contains_iff_mem.mpr z]at this;cases this
def k6(sc:Scope)(x:Str):Bool:=(match sc.names.lookup x with|some .local=>true|some .cell=>true|some .free=>true|_=>false) && !(x==("__debug__":Str)) && !(x==("__classdict__":Str))
def aK6(c:Kx)(x:Str):Bool:=(match c.sc.names.lookup x with|some .local=>true|some .cell=>c.df|_=>false)
def X6(sc:Scope)(x:Str):Bool:=(match sc.names.lookup x with|some .globalImplicit=>true|_=>false) && !(x==("__debug__":Str))
def biB(S:Sg)(c:Kx)(w x:Str):Bool:=x==w&&S.bl.contains w&&X6 c.sc w
section
variable {X:Cx}{S:Sg}{c:Kx}
def M2(F:Fit S c X)(h:k6 c.sc x=true):Vis X.env.scope x/\(x==("__debug__":Str))=false/\(x==("__classdict__":Str))=false:=by
 unfold k6 at h;simp only[ae,bj]at h;obtain⟨⟨h1,h2⟩,h3⟩:=h;refine#[?_,h2,h3];rw[F.sc];unfold Vis;split at h1
 .rename_i e;exact .inl e
 .rename_i e;exact .inr<|.inl e
 .rename_i e;exact .inr<|.inr e
 .cases h1
def am6(F:Fit S c X)(h:aK6 c x=true):L2.Loc X.env.scope x/\(X.fn x=true\/X.env.scope.names.lookup x=Oa .local):=by
 unfold aK6 at h;rw[F.sc];unfold L2.Loc;split at h
 .rename_i e;exact#[.inl e,.inr e]
 .rename_i e;exact#[.inr e,.inl<|(F.df h).1 x]
 .cases h
def M5(F:Fit S c X)(h:X6 c.sc x=true):Gl X x/\(x==("__debug__":Str))=false:=by
 unfold X6 at h;simp only[ae,bj]at h;refine#[?_,h.2];unfold Gl Env.kindOf;rw[F.sc];have h1:=h.1;split at h1
 .rename_i e;exact e
 .cases h1
def U5(F:Fit S c X)(h:biB S c w x=true):x=w/\Gl X w/\X.mg w=Z:=by
 unfold biB at h;simp only[ae,beq_iff_eq]at h;exact#[h.1.1,(M5 F h.2).1,F.bls _ h.1.2]
def G5(h:pl e=true)(es:La Expr)(env:Env):eQ (e::es) env=(false,eval e env)::eQ es env:=by cases e<;>first|rfl|cases h
def bA8(h:pl e=true):af3 e:=by
 intro o i;cases e<;>first|rfl|cases h
def av3(h:pl e=true)(op:CmpOp):behindInMarks op e=false:=by cases e<;>first|rfl|cases h
def aJ8(h:pl e=true)(env:Env)(x:fJ):fj e env x=pure x:=by cases e<;>first|rfl|cases h
def R8(h:bC8 o=true)(attr:Str)(env:Env)(t:Sem fJ):fq o attr env t=t:=by cases o<;>first|rfl|(rename_i f a k p;cases a with|nil=>cases h|cons x r=>cases f<;>rfl)
def P7(h:isC e=false)(t:Ob Expr)(l:Nat)(env:Env):swapsWith e t l env=pure false:=by cases e<;>first|rfl|cases h
def bA9(h:plT e=true)(env:Env)(whole:Sem fJ):isTrue e env whole=(do let v <- whole;standAt e.pos;holding [v] (truthy v)):=by cases e<;>first|rfl|cases h
end
abbrev DA:=Rho->Ob (La D)
abbrev DQ:=Rho->Ob (Bool×La D)
abbrev DT:=Rho->Ob Bool
abbrev DG:=D->Rho->Ob Rho
def dNo:DE:=λ_=>Z
def aNo:DA:=λ_=>Z
def qNo:DQ:=λ_=>Z
def tNo:DT:=λ_=>Z
def gNo:DG:=λ_ _=>Z
structure Ev where
 e:Kx->Expr->DE
 q:Kx->Expr->DQ
 n:Kx->Expr->DA
 t:Kx->Expr->DT
 g:Kx->Expr->DG
 b:Kx->List Stmt->DS
def bd8:CmpOp->D->D->Ob D
 | .Lt=>ltI | .LtE=>leI | .Gt=>gtI | .GtE=>geI | .Eq=>eqD | .NotEq=>neD | .Is=>isB | .IsNot=>aC7 | .In=>inL false | .NotIn=>inL true
def evA(f:Expr->DE):La Expr->DA
 | []=>A8
 | e::es=>if pl e then A0 (f e) (evA f es) else aNo
def ca0(f:Expr->DE)(op:BoolOp):La Expr->DE
 | []=>dNo
 | [a]=>f a
 | a::b::r=>match op with
  | .And=>T6 (f a)<|ca0 f op (b::r)
  | .Or=>dNo
def bK9(f:Expr->DT)(op:BoolOp):La Expr->DT
 | []=>tNo
 | [a]=>f a
 | a::b::r=>match op with
  | .And=>ab6 (f a)<|bK9 f op (b::r)
  | .Or=>E1 (f a)<|bK9 f op (b::r)
def evO(f:Expr->DE):Ob Expr->Rho->Ob (Ob Int)
 | none=>J1
 | some e=>D5<|f e
def cA5(f:Expr->DG):La Expr->La D->Rho->Ob Rho
 | []=>ah7
 | e::es=>K8 (f e)<|cA5 f es
def bK7(f:Expr->DT):La Expr->DT
 | []=>F6
 | [t]=>f t
 | _=>tNo
def P2:Expr->La Str
 | .Name x _=>[x]
 | .Tuple es _ _=>es.filterMap λ| .Name x _=>Oa x|_=>Z
 | _=>[]
def rl(scope sc:Scope):Scope:={ scope with names:=scope.names.map λ(n,k)=>if(k == .free&&sc.kind == .function&&sc.names.lookup n==Oa .cell) then(n,.cell) else(n,k) }
def bb5(n:Nat)(zd l:La Nat):La Nat:=(bf zd.length).filterMap λi=>match zd[i]? with|some j=>if l.contains j then Oa (n+i) else Z|none=>Z
def cF8(c:Kx)(j:Nat):Str:=(c.N[j]?).getD ""
def upB(c:Kx):Bool:=c.up==0 || c.up==2
def inner(c:Kx)(tn:La Str)(zd:La Nat)(scope:Scope):Kx :=
 { N:=tn++zd.map (cF8 c),sc:=rl scope c.sc,df:=false,own:=bb5 tn.length zd c.own,cpt:=[],tx:=bb5 tn.length zd c.tx,dx:=bb5 tn.length zd c.dx,old:=c.old,fz:=[],hc:=c.hc,up:=c.up - 1 }
def isList:Expr->Bool
 | .List ..=>true
 | .ListComp ..=>true
 | _=>false
def ae9(c:Kx)(l:La Nat):Expr->Bool
 | .Name x _=>(match X5 x c.N with|some i=>l.contains i|none=>false)
 | _=>false
def cz3:Expr->Bool
 | .Constant (.str _) _ _=>true
 | _=>false
def cE5(S:Sg)(c:Kx):Expr->Bool
 | .Constant (.str _) _ _=>true
 | .Name x _=>(match X5 x c.N with|some _=>false|none=>(match S.cs.lookup x with|some (.str _)=>true|_=>false))
 | _=>false
def opW(S:Sg)(c:Kx)(op:CmpOp)(b:Expr):D->D->Ob D:=if cE5 S c b then(match op with
 | .In=>inS false
 | .NotIn=>inS true
 | _=>bd8 op) else bd8 op
def aT4:Expr->Bool
 | .Tuple ..=>true
 | _=>false
def cl2(x:Str):Ob String:=if x == "int" then Oa "int" else if x == "bool" then Oa "bool" else if x == "str" then Oa "str" else if x == "tuple" then Oa "tuple" else if x == "list" then Oa "list" else Z
section
variable (S:Sg) (r:Ev)
def evI(c:Kx)(tg it:Expr):DA:=match it with
 | .Call (.Name x _) [a] [] _=>if biB S c "range" x&&pl a then J9 (r.e c a) else G2 (r.e c it)
 | _=>if ae9 c c.tx it then az0 (r.e c it) else G2 (r.e c it)
def evC(c:Kx)(ex:Expr):DA:=match ex with
 | .ListComp elt [#[tgt,iter,ifs,0]] scope pos =>
  let tn:=P2 tgt
  let zd:=(c.hc.lookup (pos.line,pos.col)).getD []
  let c':=inner c tn zd scope
  if an7 c.N c'.N tn.length zd c.sc scope&&ak0 c'.N&&pl iter&&upB c then D2 tn.length zd (evI S r c tgt iter) (r.g c' tgt) (bK7 (r.t c') ifs) (r.e c' elt) else aNo
 | _=>aNo
def aW9(c:Kx)(x:Str)(a:Expr):DE :=
 if !(pl a) then dNo
 else if biB S c "len" x then(match a with
  | .Call (.Name y _) [e] [] _=>if biB S c "set" y&&pl e then v7 (r.q c e) else F7 (r.q c a)
  | _=>if ae9 c c.tx a then Y9 (r.e c a) else F7 (r.q c a))
 else if biB S c "tuple" x then N1 (r.q c a)
 else if biB S c "all" x then aq1 (r.q c a)
 else if biB S c "int" x then(if ae9 c c.tx a then aG0 (r.e c a) else ag8 (r.e c a))
 else if biB S c "str" x then Y7 (r.e c a)
 else dNo
def aW8(c:Kx)(x:Str)(a b:Expr):DE :=
 if !(pl a) then dNo
 else if biB S c "isinstance" x then(match b with
  | .Name y _=>(match cl2 y with
   | some T=>if biB S c y y then O9 T (r.e c a) else dNo
   | none=>dNo)
  | _=>dNo)
 else if !(pl b) then dNo
 else if biB S c "max" x then aU9 (r.e c a) (r.e c b)
 else dNo
def bu7(c:Kx)(x:Str)(args:La Expr)(ex:Expr):DE:=match S.fn.lookup x with
 | some (F,n)=>if X6 c.sc x&&args.length==n&&args.all pl then A7 F (evA (r.e c) args) else dNo
 | none=>match args with
  | [a]=>if biB S c "list" x then E5 (r.n c ex) else aW9 S r c x a
  | [a,b]=>aW8 S r c x a b
  | _=>dNo
def cm5:Expr->Ob (Ob Expr×Ob Expr×Ob Expr)
 | .Slice lo hi st _=>Oa (lo,hi,st)
 | _=>Z
def nmP:Expr->Ob (Str×Pos)
 | .Name x p=>Oa (x,p)
 | _=>Z
def cD8:La Expr->Ob ((Str×Pos)×Str×Pos)
 | [a,b]=>(nmP a).bind λx=>(nmP b).map λy=>(x,y)
 | _=>Z
def cD7:Expr->Ob (Expr×Expr)
 | .Tuple es _ _=>(match es with
  | [a,b]=>Oa (a,b)
  | _=>Z)
 | _=>Z
def ch9(c:Kx)(a i:Expr):DE:=match cm5 i with
 | some t=>(match t.2.2 with
  | none =>
   if c.old then aU8 (r.e c a) (evO (r.e c) t.1) (evO (r.e c) t.2.1)
   else if ae9 c c.tx a then Y8 (r.e c a) (evO (r.e c) t.1) (evO (r.e c) t.2.1)
   else if ae9 c c.own a then bs3 (r.q c a) (evO (r.e c) t.1) (evO (r.e c) t.2.1)
   else S9 (r.e c a) (evO (r.e c) t.1) (evO (r.e c) t.2.1)
  | some _=>dNo)
 | none=>if pl i then(if cz3 a then v8 (r.e c a) (r.e c i) else dIx (r.q c a) (r.e c i)) else dNo
def xCn(k:Const):DE:=match k with
 | .none=>dC .none
 | .bool b=>dC<|.bool b
 | .int i=>dC<|.int i
 | .str x=>dC<|.str x
 | _=>dNo
def ci7(c:Kx)(a:Expr)(op:Operator)(b:Expr):DE:=match op with
 | .Add=>if c.old && !(isList a || isList b) then A9 v9 (r.e c a) (r.e c b) else A9 B4 (r.e c a) (r.e c b)
 | .Sub=>A9 ak9 (r.e c a)<|r.e c b
 | .Mult=>if c.old then A9 b0 (r.e c a) (r.e c b) else(match a with
  | .Subscript v _ _=>if ae9 c c.tx v then A9 bo8 (r.e c a) (r.e c b) else A9 G7 (r.e c a) (r.e c b)
  | _=>A9 G7 (r.e c a) (r.e c b))
 | .FloorDiv=>A9 ap5 (r.e c a)<|r.e c b
 | .Mod=>A9 X3 (r.e c a)<|r.e c b
 | .Pow=>A9 bA6 (r.e c a)<|r.e c b
 | _=>dNo
def xUn(c:Kx)(op:UnaryOp)(a:Expr):DE:=match op with
 | .USub=>bd4<|r.e c a
 | .Not=>bL9<|r.e c a
 | _=>dNo
def ci5(c:Kx)(a:Expr)(ops:La CmpOp)(bs:La Expr):DE:=match ops,bs with
 | [op],[b]=>if pl b then A9 (opW S c op b) (r.e c a) (r.e c b) else dNo
 | [op,op'],[b,d]=>if pl d then L5 (bd8 op) (bd8 op') (r.e c a) (r.e c b) (r.e c d) else dNo
 | _,_=>dNo
def rvA(c:Kx):Expr->Ob Expr
 | .Call (.Name x _) [e] [] _=>if biB S c "reversed" x&&pl e then Oa e else Z
 | _=>Z
def xTx(c:Kx)(o:Expr)(m:Str)(a:Expr):DE :=
 if m == "join" then(match rvA S c a with
  | some e=>aM8 (r.e c o)<|r.q c e
  | none=>M0 (r.e c o) (r.q c a))
 else if m == "split" then dTx txS (r.e c o) (r.e c a)
 else if m == "partition" then dTx txP (r.e c o) (r.e c a)
 else if m == "startswith" then dTx txB (r.e c o) (r.e c a)
 else if m == "zfill" then dZf (r.e c o) (r.e c a)
 else dNo
def ci2(c:Kx)(o:Expr)(m:Str)(apos cpos:Pos)(args:La Expr):DE:=match args with
 | [a]=>if bC8 o&&apos.endLine==cpos.line&&pl a then xTx S r c o m a else dNo
 | _=>dNo
def xCl(c:Kx)(f:Expr)(args:La Expr)(kw:La fh)(pos:Pos):DE:=match kw with
 | []=>(match f with
  | .Name x p=>bu7 S r c x args<|.Call (.Name x p) args [] pos
  | .Attribute o m apos=>ci2 S r c o m apos pos args
  | _=>dNo)
 | _=>dNo
def xE(c:Kx)(ex:Expr):DE:=match ex with
 | .Constant k _ _=>xCn k
 | .Name x _=>(match X5 x c.N with
  | some i=>if k6 c.sc x then A6 i else dNo
  | none=>(match S.cs.lookup x with
   | some d=>if X6 c.sc x then dC d else dNo
   | none=>dNo))
 | .Tuple es _ _=>if es.length<=1000 then L9 (evA (r.e c) es) else dNo
 | .List _ _=>E5<|r.n c ex
 | .ListComp _ _ _ _=>E5<|r.n c ex
 | .BinOp a op b _=>ci7 r c a op b
 | .UnaryOp op a _=>xUn r c op a
 | .Compare a ops bs _=>ci5 S r c a ops bs
 | .BoolOp op vs _=>ca0 (r.e c) op vs
 | .IfExp t a b _=>aq0 (r.t c t) (r.e c a)<|r.e c b
 | .Subscript a i _=>ch9 r c a i
 | .Call f args kw pos=>xCl S r c f args kw pos
 | _=>dNo
def cT3(c:Kx)(f:Expr)(as:La Expr)(kw:La fh):Bool:=match f with
 | .Name x _=>as.length==1&&kw.isEmpty&&biB S c "list" x
 | _=>false
def xQ(c:Kx)(ex:Expr):DQ:=match ex with
 | .Name x _=>(match X5 x c.N with
  | some i=>if k6 c.sc x then B0 i else qNo
  | none=>qE (r.e c ex))
 | .List _ _=>qN<|r.n c ex
 | .ListComp _ _ _ _=>qN<|r.n c ex
 | .Call f as kw _=>if cT3 S c f as kw then qN (r.n c ex) else qE (r.e c ex)
 | _=>qE<|r.e c ex
def xNl(c:Kx)(f:Expr)(as:La Expr)(kw:La fh):DA:=match f with
 | .Name x _=>(match as,kw with
  | [a],[]=>if biB S c "list" x&&pl a then(λy=>(r.q c a y).map λq=>q.2) else aNo
  | _,_=>aNo)
 | _=>aNo
def xN(c:Kx)(ex:Expr):DA:=match ex with
 | .List es _=>if es.length<=1000 then evA (r.e c) es else aNo
 | .ListComp _ _ _ _=>evC S r c ex
 | .Call f as kw _=>xNl S r c f as kw
 | .BinOp a op b _=>(match op with
  | .Add=>am5 (r.q c a)<|r.q c b
  | _=>aNo)
 | _=>aNo
def cb9(c:Kx)(a:Expr)(ops:La CmpOp)(bs:La Expr):DT:=match ops,bs with
 | [op],[b]=>if pl b then tB2 (opW S c op b) (r.e c a) (r.e c b) else tNo
 | [op,op'],[b,d]=>if pl d then ai5 (L5 (bd8 op) (bd8 op') (r.e c a) (r.e c b)<|r.e c d) else tNo
 | _,_=>tNo
def cP0(c:Kx)(op:UnaryOp)(a:Expr):DT:=match op with
 | .Not=>D3<|r.t c a
 | _=>tNo
def xT(c:Kx)(ex:Expr):DT:=match ex with
 | .Compare a ops bs _=>cb9 S r c a ops bs
 | .BoolOp op vs _=>bK9 (r.t c) op vs
 | .UnaryOp op a _=>cP0 r c op a
 | _=>if plT ex then E7 (r.e c ex) else tNo
def xG(c:Kx)(ex:Expr):DG:=match ex with
 | .Name x _=>(match X5 x c.N with
  | some i=>if aK6 c x then D1 i else gNo
  | none=>gNo)
 | .Tuple es _ _=>if es.all pl then ac8 es.length (cA5 (r.g c) es) else gNo
 | _=>gNo
def cH4(c:Kx)(x y:Str)(px py:Pos)(a b:Expr):Bool :=
 c.df&&pl a&&pl b && !(x==y)&&px.line==py.line&&c.sc.names.lookup x==Oa .local&&c.sc.names.lookup y==Oa .local && !(([a,b]:La Expr).all<|foldedForSure 8) && !(([a,b]:La Expr).all<|constantsAlone 8)
def ci8(c:Kx)(tg v:Expr)(es:La Expr):DS:=match cD8 es with
 | some ((x,px),(y,py))=>if aT4 v then(match cD7 v with
  | some (a,b)=>(match X5 x c.N with
   | some i=>(match X5 y c.N with
    | some j=>if cH4 c x y px py a b then bz7 i j (evA (r.e c) [a,b]) else E9
    | none=>E9)
   | none=>E9)
  | none=>E9) else aY1 (r.e c v) (r.g c tg)
 | none=>if aT4 v&&(es.length==2 || es.length==3) then E9 else aY1 (r.e c v) (r.g c tg)
def cj0(c:Kx)(x:Str)(p':Pos)(v:Expr):DS:=match X5 x c.N with
 | none=>E9
 | some i=>if !(aK6 c x) then E9 else(match v with
  | .ListComp _ _ sc pv=>if c.sc.names.lookup x==Oa .local then
    (if c.df&&p'.line==pv.line && !(sc.names.any λ(n,k)=>n==x&&(k == .local || k == .cell)) then(if c.own.contains i then O1 i (evC S r c v) else aa7 i (evC S r c v)) else E9)
   else C7 i (r.e c v)
  | _=>if isC v then E9 else if c.own.contains i then O1 i (r.n c v) else C7 i (r.e c v))
def ci9(c:Kx)(a i v:Expr):DS:=match nmP a with
 | none=>E9
 | some x=>(match cm5 i with
  | none=>(match X5 x.1 c.N with
   | none=>E9
   | some j=>if k6 c.sc x.1 && !(isC v) then bn7 j (r.e c i) (r.e c v) else E9)
  | some t=>if t.2.2.isSome then E9 else(match X5 x.1 c.N with
   | none=>E9
   | some i=>if k6 c.sc x.1 && !(isC v) then bz6 i (evO (r.e c) t.1) (evO (r.e c) t.2.1) (r.n c v) else E9))
def cC8(c:Kx)(tg v:Expr)(p:Pos):DS:=match tg with
 | .Name x p'=>cj0 S r c x p' v
 | .Subscript a i _=>ci9 r c a i v
 | .Tuple es _ _=>ci8 r c tg v es
 | _=>E9
def ci1(c:Kx)(x m:Str)(e:Expr):DS:=match X5 x c.N with
 | none=>E9
 | some i=>if k6 c.sc x&&pl e then(if m == "append" then N5 i (r.e c e) else if m == "extend" then aJ1 i (r.e c e) else E9) else E9
def xEx(c:Kx)(e:Expr):DS:=match e with
 | .Call f args kw cpos=>(match f with
  | .Attribute o m apos=>(match o with
   | .Name x _=>(match args,kw with
    | [e],[]=>if apos.endLine==cpos.line then ci1 r c x m e else E9
    | _,_=>E9)
   | _=>E9)
  | _=>E9)
 | _=>E9
def cP1(c:Kx):Ob Expr->DS
 | some e=>B7<|r.e c e
 | none=>E9
def xWh(c:Kx)(t:Expr)(a:La Stmt):La Stmt->DS
 | []=>if c.df then Y1 (r.t c t) (r.b c a) else E9
 | _=>E9
def xFo(c:Kx)(tg it:Expr)(a:La Stmt):La Stmt->DS
 | []=>if pl it&&c.df then ab1 (evI S r c tg it) (r.g c tg) (r.b c a) else E9
 | _=>E9
def xAs(c:Kx)(v:Expr)(p:Pos):La Expr->DS
 | [tg]=>cC8 S r c tg v p
 | _=>E9
def xRa(c:Kx):Ob Expr->DS
 | some e=>(match e with
  | .Call f as kw _=>(match f,as,kw with
   | .Name x _,[.Constant (.str _) _ _],[]=>if c.up==2&&x == "NoText" && X6 c.sc x then λ_=>Oa (.rt c.gb) else E9
   | _,_,_=>E9)
  | _=>E9)
 | none=>E9
def xS0(c:Kx)(st:Stmt):DS:=match st with
 | .Return o _=>cP1 r c o
 | .If t a b _=>sIf (r.t c t) (r.b c a)<|r.b c b
 | .While t a o _=>xWh r c t a o
 | .For tg it a o _=>xFo S r c tg it a o
 | .Assign ts v p=>xAs S r c v p ts
 | .Expr e _=>xEx r c e
 | .Pass _=>D6
 | .Raise e Z _=>xRa c e
 | _=>E9
def bE3:Stmt->Nat
 | .Return _ p=>p.line
 | .If _ _ _ p=>p.line
 | .While _ _ _ p=>p.line
 | .For _ _ _ _ p=>p.line
 | .Assign _ _ p=>p.line
 | .Expr _ p=>p.line
 | _=>0
def fzW(g:DS):Ob (La Nat)->DS
 | none=>g
 | some l=>l.foldl (λg i=>at3 i g) g
def xS(c:Kx)(st:Stmt):DS:=fzW (xS0 S r c st)<|c.fz.lookup (bE3 st)
def evB(f:Stmt->DS):La Stmt->DS
 | []=>D6
 | [s]=>f s
 | s::t::W5=>B3 (f s)<|evB f (t::W5)
def step:Ev:=#[xE S r,xQ S r,xN S r,xT S r,xG r,λc=>evB<|xS S r c]
end
def ev(S:Sg):Nat->Ev
 | 0=>#[λ_ _=>dNo,λ_ _=>qNo,λ_ _=>aNo,λ_ _=>tNo,λ_ _=>gNo,λ_ _=>E9]
 | n+1=>step S<|ev S n
end G
namespace Sh
open PySem PySem.Spec PyProof.Rows L2 G
def bt9:DS:=(B7<|T6 (O9 "str" !0) (T6 (L5 leI leI ⇑1 (Y9 !0) ⇑6)<|aq1 (qN<|D2 1 [] (az0 !0) (D1 0) F6 (A9 (inS false) (!0) !"abcdefghijklmnopqrstuvwxyz"))))
def af9:La D->Ob D:=E2 bt9 1
def be8:DS:=(B7<|O9 "bool" !0)
def ak8:La D->Ob D:=E2 be8 1
def aW6:DS:=(B7<|T6 (A7 Z8 {0}) (L5 leI leI (bd4 ⇑9) (!0) ⇑9))
def i7:La D->Ob D:=E2 aW6 1
def bu0:DS:=(B3 (sIf (tB2 isB (!0)<|dC .none) (B7<|dC (.bool true)) D6)<|B3 (sIf (E1 (D3<|E7 (O9 "tuple" !0))<|tB2 neD (F7<|B0 0) (F7<|qE (dIx (B0 1) ⇑2))) (B7<|dC (.bool false)) D6) (B7<|aq1 (qN<|D2 1 [] (G2 !0) (D1 0) F6 (A7 U8 {0}))))
def aq9:La D->Ob D:=E2 bu0 2
def ag9:DS:=(B3 (sIf (E1 (tB2 neD (F7<|B0 0) ⇑9)<|E1 (tB2 (inL true) (A7 W3 {0})<|dC (.tuple [(.str "over"),(.str "multiply"),(.str "screen"),(.str "plus"),(.str "atop"),(.str "cut")])) (D3<|E7 (A7 Z9 {A7 aa1 {0}}))) (B7<|dC (.bool false)) D6)<|B7 (T6 (A7 i7 {A7 aq6 {0}})<|T6 (A7 i7 {A7 aC0 {0}}) (A7 aq9 {A7 aq5 {0},A7 aa1 {0}})))
def P6:La D->Ob D:=E2 ag9 1
def ah0(self:Nat->La D->Ob D):DS:=(B3 (sIf (E1 (tB2 neD (F7<|B0 0) ⇑6)<|E1 (tB2 (inL true) (A7 W3 {0})<|dC (.tuple [(.str "over"),(.str "multiply"),(.str "screen"),(.str "plus"),(.str "atop"),(.str "cut")])) (tB2 eqD (!1) ⇑0)) (B7<|dC (.bool false)) D6)<|B7 (A7 (self 2) {A7 K9 {0},A9 ak9 (!1) ⇑1}))
def au4(self:Nat->La D->Ob D):DS:=(B3 (sIf (E1 (D3<|E7 (O9 "tuple" !0))<|tB2 ltI (F7<|B0 0) ⇑5) (B7<|dC (.bool false)) D6)<|B3 (sIf (E1 (D3<|E7 (A7 af9 {A7 N3 {0}}))<|E1 (D3<|E7 (A7 U8 {A7 Q0 {0}})) (D3<|E7 (A7 ak8 {A7 Q9 {0}}))) (B7<|dC (.bool false)) D6) (B3 (sIf (E7<|A7 U9 {0}) (B7<|A7 P6 {0}) D6)<|B3 (sIf (E7<|A7 J8 {0}) (B7<|A7 (self 0) {0,1}) D6) (B7<|T6 (A7 aq7 {0}) (T6 (A9 eqD (F7<|B0 0) ⇑5)<|A9 (inL false) (A7 aH8 {0}) (dC<|.tuple [(.str "turn"),(.str "grey"),(.str "round")])))))
def aW7(self:Nat->La D->Ob D):DS:=(B7<|T6 (O9 "tuple" !0) (aq1<|qN (D2 1 [1] (G2 !0) (D1 0) F6<|A7 (self 1) {0,1})))
def B9:Nat->Nat->La D->Ob D
 | 0=>λ_ _=>Z
 | k+1=>λi=>match i with
  | 0=>E2 (ah0<|B9 k) 2
  | 1=>E2 (au4<|B9 k) 2
  | 2=>E2 (aW7<|B9 k) 2
  | _=>λ_=>Z
def ah1(k:Nat):La D->Ob D:=B9 k 0
def au6(k:Nat):La D->Ob D:=B9 k 1
def at2(k:Nat):La D->Ob D:=B9 k 2
def ai3(self:La D->Ob D):DS:=(B3 (O1 1 A8)<|B3 (ab1 (G2 !0) (D1 2)<|B3 (N5 1<|A7 N3 {2}) (sIf (E7<|A7 J8 {2}) (aJ1 1<|A7 self {A7 K9 {2}}) D6)) (at3 1<|B7 !1))
def Q2:Nat->La D->Ob D
 | 0=>λ_=>Z
 | k+1=>E2 (ai3<|Q2 k) 3
def Z5:DS:=(B3 (C7 1<|A7 (Q2 12) {0})<|B7 (A9 eqD (v7<|B0 1)<|F7 (B0 1)))
def R4:La D->Ob D:=E2 Z5 2
def aO1:DS:=(B7<|T6 (A7 aa3 {0}) (T6 (A7 (at2 12) {dIx (B0 0) ⇑2,⇑3})<|A7 R4 {dIx (B0 0) ⇑2}))
def Y0:La D->Ob D:=E2 aO1 1
end Sh
namespace G
open PySem PySem.Spec PyProof.Rows L2
section
variable {X:Cx}{S:Sg}{c:Kx}
def J5{e:Expr}:JE X e dNo:=λy d h=>by cases h
def cg0{e:Expr}:JQ X e qNo:=λy t d h=>by cases h
def an0{e:Expr}:JN X e aNo:=λy d h=>by cases h
def aF6{e:Expr}:JT X e tNo:=λy d h=>by cases h
def cL3{e:Expr}:JW X e tNo:=λy d h=>by cases h
def aS9{e:Expr}:JG X e gNo:=by
 unfold JG PG
 intros
 rename_i h;obtain⟨d,y,ρ',H0,Hf,z,_⟩:=h;cases z
def cL9{es:La Expr}:JA X es aNo:=#[λy d h=>(nomatch h),λy d h=>(nomatch h)]
def cv1{es:La Expr}:JTs X es tNo:=λza s z H Q I #[y,b,h,_]=>by cases h
def ae6(hu:X.A.units+64 < cLine):∀op:CmpOp,OpD X (eU op) (bd8 op)
 | .Lt=>cI2 | .LtE=>cI3 | .Gt=>cI4 | .GtE=>cI5 | .Eq=>bC5 hu | .NotEq=>ce0 hu | .Is=>ce1 | .IsNot=>aR9 | .In=>cr2 hu | .NotIn=>bo6 hu
def bC4(hu:X.A.units+64 < cLine)(S:Sg)(c:Kx)(op:CmpOp)(b:Expr):OpD X (eU op) (opW S c op b):=by
 unfold opW;split
 .split
  .exact cr1
  .exact bo5
  .exact ae6 hu _
 .exact ae6 hu op
theorem ay8{f:Expr->DE}(h:∀e,JE X e<|f e):∀es,JA X es (evA f es)
 | []=>aL1
 | e::es=>by
  unfold evA;split
  .rename_i p;exact h9 (h e) (ay8 h es)<|G5 p es _
  .exact cL9
theorem bj9{f:Expr->DE}(h:∀e,JE X e<|f e)(op:BoolOp)(pos:Pos):∀vs,JE X (.BoolOp op vs pos) (ca0 f op vs)
 | []=>J5
 | [a]=>cx6<|h a
 | a::b::r=>by
  unfold ca0;cases op
  .exact cy5 (h a) (bj9 h .And pos (b::r))
  .exact J5
theorem aK9{f:Expr->DT}(h:∀e,JT X e<|f e)(op:BoolOp)(pos:Pos):∀vs,JW X (.BoolOp op vs pos) (bK9 f op vs)
 | []=>cL3
 | [a]=>by cases op;exact bi9 (h a);exact cv0<|h a
 | a::b::r=>by
  unfold bK9;cases op
  .exact bF3 (h a) (aK9 h .And pos (b::r))
  .exact cL2 (h a) (aK9 h .Or pos (b::r))
def ah6{f:Expr->DE}(h:∀e,JE X e<|f e):∀o,JO X o (evO f o)
 | none=>bX8
 | some e=>bX7<|h e
def cv2{f:Expr->DT}(h:∀e,JT X e<|f e):∀l,JTs X l (bK7 f l)
 | []=>bj0
 | [t]=>bX0<|h t
 | _::_::_=>cv1
theorem bH1{f:Expr->DG}(h:∀e,JG X e<|f e):∀es,es.all pl=true->JGs X es (cA5 f es)
 | [],_=>bY1
 | e::es,p=>by
  simp only[aZ,ae]at p;refine bH2 (h e) (bH1 h es p.2) ?_;have p1:=p.1;cases e<;>first|rfl|cases p1
theorem bm1{env:Env}:∀{es:La Expr},es.all pl=true->(fi es env).length=es.length/\(fi es env).findIdx? (·.1)=Z
 | [],_=>#[rfl,rfl]
 | e::es,p=>by
  simp only[aZ,ae]at p;obtain⟨h1,h2⟩:=bm1 (env:=env) p.2;have p1:=p.1;have q:fi (e::es) env=(false,assign e env)::fi es env:=by cases e<;>first|rfl|cases p1
  rw[q];refine#[by simp[h1],?_];simp[List.findIdx?_cons,h2]
structure Sound (S:Sg) (r:Ev):Prop where
 e:∀{c X},Fit S c X->∀ex,JE X ex<|r.e c ex
 q:∀{c X},Fit S c X->∀ex,JQ X ex<|r.q c ex
 n:∀{c X},Fit S c X->∀ex,JN X ex<|r.n c ex
 t:∀{c X},Fit S c X->∀ex,JT X ex<|r.t c ex
 g:∀{c X},Fit S c X->∀ex,JG X ex<|r.g c ex
 b:∀{c X},Fit S c X->∀sts,JSs X sts<|r.b c sts
def Fit.hu(F:Fit S c X):(c.up==2)=true->Th X:=λh=>(F.th<|by simpa using h).1
def Fit.slot(F:Fit S c X){x:Str}{i:Nat}(h:X5 x c.N=Oa i):X.N[i]? = Oa x:=by rw[F.N];exact aT2 h
theorem Fit.inner{tn:La Str}{zd:La Nat}{scope:Scope}{C:fL}{s0:fK}{H0:Hp}{ex:La fL}(F:Fit S c X)(hp:upB c=true)(hn:(G.inner c tn zd scope).N.Nodup):Fit S (G.inner c tn zd scope) (E8 (c.up==2) X (G.inner c tn zd scope).N scope C s0 H0 ex):=by
 refine#[rfl,by show relabel scope X.env=rl scope c.sc;rw[<- F.sc];rfl,hn,F.calm,(λh=>by cases h),(λh=>?_),F.units,(λh=>by cases h),(λx Fn n h=>?_),F.css,F.bls]
 .have h:c.up - 1=2:=h;unfold upB at hp;simp only[cy,beq_iff_eq]at hp;omega
 .show bu1 _ (c.up - 1 != 0) _ _ _;rw[show(c.up - 1 != 0)=(c.up==2) from by unfold upB at hp;simp only[cy,beq_iff_eq]at hp;rcases hp with e|e<;>rw[e]<;>rfl];refine(F.fns x Fn n h).imp (λ#[k,f,fd,ps,_,h1,h2]=>#[k,f,fd,ps,av2,?_,h2]) id;rw[show(c.up==2)=(c.up != 0) from by unfold upB at hp;simp only[cy,beq_iff_eq]at hp;rcases hp with e|e<;>rw[e]<;>rfl];exact h1
variable {r:Ev}
def bH0(R:Sound S r)(F:Fit S c X)(tg it:Expr):JI X tg it (evI S r c tg it):=by
 unfold evI;split
 .rename_i x p a pos;split
  .rename_i h;simp only[ae]at h;obtain⟨rfl,h1,h2⟩:=U5 F h.1;exact bp4 h1 h2 (R.e F a)<|G5 h.2 _ _
  .exact bG9 (R.e F _)
 .split
  .exact cw9 (R.e F _)
  .exact bG9 (R.e F _)
def bl3(R:Sound S r)(F:Fit S c X){elt tgt iter:Expr}{ifs:La Expr}{scope:Scope}{zd:La Nat}
  (h:(an7 c.N (G.inner c (P2 tgt) zd scope).N (P2 tgt).length zd c.sc scope&&ak0 (G.inner c (P2 tgt) zd scope).N&&pl iter&&upB c)=true) :
  CompSc X (G.inner c (P2 tgt) zd scope).N (P2 tgt).length zd scope/\JI X tgt iter (evI S r c tgt iter)/\(∀C s0 H0 ex,JG (E8 (c.up==2) X (G.inner c (P2 tgt) zd scope).N scope C s0 H0 ex) tgt<|r.g (G.inner c (P2 tgt) zd scope) tgt) /\
  (∀C s0 H0 ex,JTs (E8 (c.up==2) X (G.inner c (P2 tgt) zd scope).N scope C s0 H0 ex) ifs<|bK7 (r.t<|G.inner c (P2 tgt) zd scope) ifs)/\(∀C s0 H0 ex,JE (E8 (c.up==2) X (G.inner c (P2 tgt) zd scope).N scope C s0 H0 ex) elt<|r.e (G.inner c (P2 tgt) zd scope) elt) /\
  ∀x,fj iter X.env x=pure x:=by
 simp only[ae]at h;obtain⟨⟨⟨h1,h2⟩,h3⟩,h4⟩:=h;have hn:=ae7 h2;exact#[aG1 h1 F.N F.sc,bH0 R F tgt iter,λC s0 H0 ex=>R.g (F.inner h4 hn) tgt,λC s0 H0 ex=>cv2 (R.t<|F.inner h4 hn) ifs,λC s0 H0 ex=>R.e (F.inner h4 hn) elt,aJ8 h3 _]
def cL5(R:Sound S r)(F:Fit S c X)(ex:Expr):JN X ex (evC S r c ex):=by
 unfold evC;split
 .rename_i elt tgt iter ifs scope pos;dsimp only;split
  .rename_i h;obtain⟨h1,h2,h3,h4,h5,h6⟩:=bl3 (ifs:=ifs) (elt:=elt) R F h;exact bY0 h1 F.hu h2 h3 h4 h5 F.calm h6
  .exact an0
 .exact an0
def bn1{x:Str}{T:String}(h:cl2 x=Oa T):fe x=Oa (.type T)/\x ≠ "__name__" /\ (x==("__debug__":Str))=false:=by
 unfold cl2 at h;split at h
 .rename_i e;cases h;simp only[beq_iff_eq]at e;subst e;exact#[aN3,by decide,by decide]
 .split at h
  .rename_i e;cases h;simp only[beq_iff_eq]at e;subst e;exact#[cb1,by decide,by decide]
  .split at h
   .rename_i e;cases h;simp only[beq_iff_eq]at e;subst e;exact#[be2,by decide,by decide]
   .split at h
    .rename_i e;cases h;simp only[beq_iff_eq]at e;subst e;exact#[aV5,by decide,by decide]
    .split at h
     .rename_i e;cases h;simp only[beq_iff_eq]at e;subst e;exact#[bm0,by decide,by decide]
     .cases h
def bT6{e:Expr}(h:pl e=true)(pos:Pos)(env:Env):(backTo pos<|eQ [e] env).any (·.1)=false:=by rw[G5 h];rfl
theorem U0(pos:Pos)(env:Env):∀{es:La Expr},es.all pl=true->(eQ es env).any (·.1)=false
 | [],_=>rfl
 | e::es,h=>by
  simp only[aZ,ae]at h;rw[G5 h.1,cN,U0 pos env h.2];rfl
end
section
variable {X:Cx}{S:Sg}{c:Kx}{r:Ev}
def bf9(h:cm5 e=Oa t):∃p,e=.Slice t.1 t.2.1 t.2.2 p:=by cases e<;>first|(cases h;exact#[_,rfl])|cases h
def U1(h:nmP e=Oa t):e=.Name t.1 t.2:=by cases e<;>first|(cases h;rfl)|cases h
def bN9(R:Sound S r)(F:Fit S c X)(a i:Expr)(pos:Pos):JE X (.Subscript a i pos) (ch9 r c a i):=by
 unfold ch9;split
 .rename_i t ht;obtain⟨p,rfl⟩:=bf9 ht;obtain⟨lo,hi,st⟩:=t;cases st with
  | none =>
   dsimp only;split
   .exact bH7 (R.e F _) (ah6 (R.e F) _) (ah6 (R.e F) _)
   .split
    .exact cx3 (R.e F _) (ah6 (R.e F) _) (ah6 (R.e F) _)
    .split
     .exact cx4 (R.q F _) (ah6 (R.e F) _) (ah6 (R.e F) _)
     .exact cx5 (R.e F _) (ah6 (R.e F) _) (ah6 (R.e F) _)
  | some e=>exact J5
 .split
  .rename_i h;split
   .exact cx9 (R.e F _) (R.e F _) (bA8 h)
   .exact cL7 (R.q F _) (R.e F _) (bA8 h)
  .exact J5
def bm7(R:Sound S r)(F:Fit S c X)(x:Str)(a:Expr)(p pos:Pos):JE X (.Call (.Name x p) [a] [] pos) (aW9 S r c x a):=by
 unfold aW9;split
 .exact J5
 rename_i hp;have hp:pl a=true:=by simpa using hp
 have hs:=G5 hp [] X.env;split
 .rename_i h;obtain⟨rfl,h1,h2⟩:=U5 F h;split
  .rename_i y py e ppos;split
   .rename_i hy;simp only[ae]at hy;obtain⟨rfl,g1,g2⟩:=U5 F hy.1;exact bp5 h1 h2 g1 g2 (R.q F _) F.calm<|G5 hy.2 _ _
   .exact bH9 h1 h2 (R.q F _) hs
  .split
   .exact bY4 h1 h2 (R.e F a) hs
   .exact bH9 h1 h2 (R.q F a) hs
 split
 .rename_i h;obtain⟨rfl,h1,h2⟩:=U5 F h;exact bY2 h1 h2 (R.q F a) hs
 split
 .rename_i h;obtain⟨rfl,h1,h2⟩:=U5 F h;exact cy6 h1 h2 (R.q F a) F.calm hs
 split
 .rename_i h;obtain⟨rfl,h1,h2⟩:=U5 F h;split;exact bY6 h1 h2 (R.e F a) hs;exact bI1 h1 h2 (R.e F a) hs
 split
 .rename_i h;obtain⟨rfl,h1,h2⟩:=U5 F h;exact bH6 h1 h2 (R.e F a) hs
 exact J5
def bm6(R:Sound S r)(F:Fit S c X)(x:Str)(a b:Expr)(p pos:Pos):JE X (.Call (.Name x p) [a,b] [] pos) (aW8 S r c x a b):=by
 unfold aW8;split
 .exact J5
 rename_i hp;have hp:pl a=true:=by simpa using hp
 split
 .rename_i h;obtain⟨rfl,h1,h2⟩:=U5 F h;split
  .rename_i y py;split
   .rename_i T hT;split
    .rename_i hy;obtain⟨_,g1,g2⟩:=U5 F hy;obtain⟨t1,t2,t3⟩:=bn1 hT;exact cy0 h1 h2 g1 g2 t1 (R.e F a) t2 t3 (G5 hp _ _) rfl rfl
    .exact J5
   .exact J5
  .exact J5
 split
 .exact J5
 rename_i hb;have hb:pl b=true:=by simpa using hb
 split
 .rename_i h;obtain⟨rfl,h1,h2⟩:=U5 F h;exact bY3 h1 h2 (R.e F a) (R.e F b) F.calm (G5 hp _ _) (G5 hb _ _)<|bT6 hb pos _
 exact J5
theorem n6(pos:Pos):∀l:La (Bool×Sem fJ),(backTo pos l).any (·.1)=l.any (·.1)
 | []=>rfl
 | (b,t)::r=>by
  have ih:=n6 pos r;unfold backTo at ih |-;rw[xmc,cN,cN,ih]
def bu6(R:Sound S r)(F:Fit S c X)(x:Str)(args:La Expr)(p pos:Pos):JE X (.Call (.Name x p) args [] pos) (bu7 S r c x args<|.Call (.Name x p) args [] pos):=by
 unfold bu7;split
 .rename_i Fn n hl;split
  .rename_i h;simp only[ae,beq_iff_eq]at h;obtain⟨⟨hg,hn⟩,hp⟩:=h;obtain⟨g1,g2⟩:=M5 F hg;rcases F.fns _ _ _ hl with⟨k,f,fd,ps,hq,hk,hr,hm,hkp,hb⟩|⟨hm,hb⟩
   case inr =>
    cases args with
    | nil=>cases hn;exact absurd hb.1<|bu _
    | cons e es =>
     simp only[aZ,ae]at hp;exact cL8 hb F.units g1 hm (ay8 (R.e F) (e::es)) hn g2 (G5 hp.1 _ _)<|(n6 pos _).trans (U0 pos _ hp.2)
   cases args with
   | nil=>cases hn;exact bI3 hk hq hr g1 hm hkp hb g2
   | cons e es =>
    simp only[aZ,ae]at hp;exact bY7 hk hq hr g1 hm hkp hb (ay8 (R.e F) (e::es)) hn g2 (G5 hp.1 _ _)<|(n6 pos _).trans (U0 pos _ hp.2)
  .exact J5
 .split
  .split
   .exact ac7 (R.n F _)
   .exact bm7 R F _ _ _ _
  .exact bm6 R F _ _ _ _ _
  .exact J5
def ci4(k:Const)(u:Nat)(pos:Pos):JE X (.Constant k u pos) (xCn k):=by
 unfold xCn;split
 .exact bH8
 .exact aT0
 .exact cy1
 .exact bb0
 .exact J5
def bO3(R:Sound S r)(F:Fit S c X)(a:Expr)(op:Operator)(b:Expr)(pos:Pos):JE X (.BinOp a op b pos) (ci7 r c a op b):=by
 unfold ci7;split
 .split
  .exact j7 bC6 (R.e F _) (R.e F _)
  .exact j7 bi0 (R.e F _) (R.e F _)
 .exact j7 cq6 (R.e F _) (R.e F _)
 .split
  .exact j7 aK3 (R.e F _) (R.e F _)
  .split
   .split
    .exact j7 bV6 (R.e F _) (R.e F _)
    .exact j7 bh9 (R.e F _) (R.e F _)
   .exact j7 bh9 (R.e F _) (R.e F _)
 .exact j7 cr3 (R.e F _) (R.e F _)
 .exact j7 cq9 (R.e F _) (R.e F _)
 .exact j7 cq7 (R.e F _) (R.e F _)
 .exact J5
def ch8(R:Sound S r)(F:Fit S c X)(op:UnaryOp)(a:Expr)(pos:Pos):JE X (.UnaryOp op a pos) (xUn r c op a):=by
 unfold xUn;split
 .exact cx8 (R.e F _)
 .exact cx7 (R.e F _)
 .exact J5
def bO2(R:Sound S r)(F:Fit S c X)(a:Expr)(ops:La CmpOp)(bs:La Expr)(pos:Pos):JE X (.Compare a ops bs pos) (ci5 S r c a ops bs):=by
 have hu:=F.units;unfold ci5;split
 .split
  .rename_i h;exact cy4 (bC4 hu S c _ _) (R.e F _) (R.e F _)<|av3 h _
  .exact J5
 .split
  .rename_i h;exact bI2 (ae6 hu _) (ae6 hu _) (R.e F _) (R.e F _) (R.e F _)<|av3 h _
  .exact J5
 .exact J5
def cn1(F:Fit S c X){a e:Expr}(h:rvA S c a=Oa e):∃p1 p2,a=.Call (.Name "reversed" p1) [e] [] p2/\Gl X "reversed" /\ X.mg "reversed" = Z/\pl e=true:=by
 unfold rvA at h;split at h
 .split at h
  .rename_i b;cases h;simp only[ae]at b;obtain⟨rfl,h1,h2⟩:=U5 F b.1;exact#[_,_,rfl,h1,h2,b.2]
  .cases h
 .cases h
def bO1(R:Sound S r)(F:Fit S c X)(o:Expr)(m:Str)(apos cpos:Pos)(args:La Expr):JE X (.Call (.Attribute o m apos) args [] cpos) (ci2 S r c o m apos cpos args):=by
 unfold ci2;split
 .split
  .rename_i h;simp only[ae,beq_iff_eq]at h;obtain⟨⟨hn,hl⟩,hp⟩:=h;have hs:=G5 hp [] X.env;have hl:(apos.endLine==cpos.line)=true:=by simpa using hl
   unfold xTx;split
   .rename_i hm;rw[beq_iff_eq]at hm;subst hm;split
    .rename_i e he;obtain⟨p1,p2,rfl,h1,h2,h3⟩:=cn1 F he;exact bI0 F.calm h1 h2 (R.e F _) (R.q F _) (R8 hn _ _ _) hl<|G5 h3 [] X.env
    .exact bY5 (R.e F _) (R.q F _) (R8 hn _ _ _) (by rw[hs];rfl) hl hs
   split
   .rename_i hm;rw[beq_iff_eq]at hm;subst hm;exact bH4 PySem.F.slot_str_split PySem.F.type_str_split bD3 bJ1 (R.e F _) (R.e F _) (R8 hn _ _ _) (by rw[hs];rfl) hl hs
   split
   .rename_i hm;rw[beq_iff_eq]at hm;subst hm;exact bH4 PySem.F.slot_str_partition PySem.F.type_str_partition bW0 bZ4 (R.e F _) (R.e F _) (R8 hn _ _ _) (by rw[hs];rfl) hl hs
   split
   .rename_i hm;rw[beq_iff_eq]at hm;subst hm;exact bH4 PySem.F.slot_str_startswith PySem.F.type_str_startswith bo9 bp9 (R.e F _) (R.e F _) (R8 hn _ _ _) (by rw[hs];rfl) hl hs
   split
   .rename_i hm;rw[beq_iff_eq]at hm;subst hm;exact cL6 (R.e F _) (R.e F _) (R8 hn _ _ _) (by rw[hs];rfl) hl hs
   exact J5
  .exact J5
 .exact J5
def ci6(R:Sound S r)(F:Fit S c X)(f:Expr)(args:La Expr)(kw:La fh)(pos:Pos):JE X (.Call f args kw pos) (xCl S r c f args kw pos):=by
 unfold xCl;split
 .split
  .exact bu6 R F _ _ _ _
  .exact bO1 R F _ _ _ _ _
  .exact J5
 .exact J5
def cC7(R:Sound S r)(F:Fit S c X)(ex:Expr):JE X ex (xE S r c ex):=by
 cases ex
 case Constant=>exact ci4 _ _ _
 case Name x p =>
  unfold xE;dsimp only;split
  .rename_i i h;split
   .rename_i v;obtain⟨h1,h2,h3⟩:=M2 F v;exact bH3 i (F.slot h) h1 h2 h3
   .exact J5
  .split
   .rename_i d hd;split
    .rename_i g;obtain⟨u,k1,k2⟩:=F.css _ _ hd;obtain⟨g1,g2⟩:=M5 F g;exact cy3 k1 g1 k2 g2
    .exact J5
   .exact J5
 case Tuple es _ _ =>
  unfold xE;dsimp only;split
  .rename_i h;exact cx2 (ay8 (R.e F) _) h
  .exact J5
 case List=>exact ac7<|R.n F _
 case ListComp=>exact ac7<|R.n F _
 case BinOp=>exact bO3 R F _ _ _ _
 case UnaryOp=>exact ch8 R F _ _ _
 case Compare=>exact bO2 R F _ _ _ _
 case BoolOp=>exact bj9 (R.e F) _ _ _
 case IfExp=>exact cy2 (R.t F _) (R.e F _)<|R.e F _
 case Subscript=>exact bN9 R F _ _ _
 case Call=>exact ci6 R F _ _ _ _
 all_goals exact J5
def cC4(R:Sound S r)(F:Fit S c X)(ex:Expr):JQ X ex (xQ S r c ex):=by
 cases ex
 case Name x p =>
  unfold xQ;dsimp only;split
  .rename_i i h;split
   .rename_i v;obtain⟨h1,h2,h3⟩:=M2 F v;exact cw3 i (F.slot h) h1 h2 h3
   .exact cg0
  .exact bG1 (R.e F _)
 case List=>exact cw4<|R.n F _
 case ListComp=>exact cw4<|R.n F _
 case Call f as kw p =>
  unfold xQ;dsimp only;split
  .exact cw4 (R.n F _)
  .exact bG1 (R.e F _)
 all_goals exact bG1<|R.e F _
def cC5(R:Sound S r)(F:Fit S c X)(ex:Expr):JN X ex (xN S r c ex):=by
 cases ex
 case List es p =>
  unfold xN;dsimp only;split
  .rename_i h;exact ba9 (ay8 (R.e F) _) h
  .exact an0
 case ListComp=>exact cL5 R F _
 case Call f as kw p =>
  unfold xN;dsimp only;unfold xNl;split
  .split
   .split
    .rename_i h;simp only[ae]at h;obtain⟨rfl,h1,h2⟩:=U5 F h.1;exact bX9 h1 h2 (R.q F _)<|G5 h.2 _ _
    .exact an0
   .exact an0
  .exact an0
 case BinOp a op b p =>
  cases op
  case Add=>exact cw6 (R.q F _)<|R.q F _
  all_goals exact an0
 all_goals exact an0
def cC2(R:Sound S r)(F:Fit S c X)(ex:Expr):JT X ex (xT S r c ex):=by
 have hu:=F.units
 have oth:∀e:Expr,JT X e (if plT e then E7 (r.e c e) else tNo):=λe=>by
  split
  .rename_i h;exact bF4 (R.e F _)<|bA9 h _
  .exact aF6
 cases ex
 case Compare a ops bs p =>
  unfold xT cb9;dsimp only;split
  .split
   .rename_i h;exact bF5 (bC4 hu S c _ _) (R.e F _) (R.e F _)<|av3 h _
   .exact aF6
  .split
   .rename_i h;exact bF6 (ae6 hu _) (ae6 hu _) (R.e F _) (R.e F _) (R.e F _)<|av3 h _
   .exact aF6
  .exact aF6
 case BoolOp=>exact aS7<|aK9 (R.t F) _ _ _
 case UnaryOp op a p =>
  cases op
  case Not=>exact cv3<|R.t F _
  all_goals exact aF6
 all_goals exact oth _
def cC6(R:Sound S r)(F:Fit S c X)(ex:Expr):JG X ex (xG r c ex):=by
 unfold xG;split
 .split
  .rename_i i h;split
   .rename_i v;obtain⟨h1,h2⟩:=am6 F v;exact bj8 i (by rw[F.N];exact F.nd) (F.slot h) h1 h2
   .exact aS9
  .exact aS9
 .split
  .rename_i h;obtain⟨h1,h2⟩:=bm1 (env:=X.env) h;exact cx0 (bH1 (R.g F) _ h) F.calm h1 h2
  .exact aS9
 .exact aS9
def bj2{st:Stmt}{f:DS}(h:∀y,f y=Z):JS X st f:=λy fl q=>by rw[h y]at q;cases q
def be1(F:Fit S c X)(h:c.df=true):X.env.blockKind=.function:=by
 unfold Env.blockKind;rw[F.sc,(F.df h).2];rfl
def ao6(elt:Expr)(gens:La Comprehension)(sc:Scope)(pv p':Pos)(x:Str)(l:Nat)(env:Env):swapsWith (.ListComp elt gens sc pv) (Oa<|.Name x p') l env =
  pure (env.blockKind == .function&&env.kindOf x==Oa .local&&p'.line==pv.line && !(sc.names.any λ(n,k)=>n==x&&(k == .local || k == .cell))):=rfl
def bj3(R:Sound S r)(F:Fit S c X){x:Str}{p' pv p:Pos}{elt:Expr}{gens:La Comprehension}{sc:Scope}{i:Nat}(hi:X5 x c.N=Oa i)(hl:(c.sc.names.lookup x==Oa .local)=true)
  (h:(c.df&&p'.line==pv.line && !(sc.names.any λ(n,k)=>n==x&&(k == .local || k == .cell)))=true) :
  JS X (.Assign [.Name x p'] (.ListComp elt gens sc pv) p) (O1 i<|evC S r c (.ListComp elt gens sc pv))/\JS X (.Assign [.Name x p'] (.ListComp elt gens sc pv) p) (aa7 i<|evC S r c (.ListComp elt gens sc pv)):=by
 unfold evC;simp only[ae]at h;have hl':X.env.scope.names.lookup x=Oa .local:=by rw[F.sc];simpa using hl
 have hsw:swapsWith (.ListComp elt gens sc pv) (Oa<|.Name x p') p.line X.env=pure true:=by
  rw[ao6,be1 F h.1.1,h.1.2,h.2];unfold Env.kindOf;rw[hl'];rfl
 split
 .rename_i elt tgt iter ifs scope pos he;cases he;dsimp only;split
  .rename_i hc;obtain⟨h1,h2,h3,h4,h5,h6⟩:=bl3 (ifs:=ifs) (elt:=elt) R F hc;exact#[bX3 i (by rw[F.N];exact F.nd) h1 F.hu h2 h3 h4 h5 (F.slot hi) hl' hsw F.calm h6,bX4 i (by rw[F.N];exact F.nd) h1 F.hu h2 h3 h4 h5 (F.slot hi) hl' hsw F.calm h6]
  .exact#[bj2 λy=>rfl,bj2 λy=>rfl]
 .exact#[bj2 λy=>rfl,bj2 λy=>rfl]
def bO7(R:Sound S r)(F:Fit S c X)(x:Str)(p':Pos)(v:Expr)(p:Pos):JS X (.Assign [.Name x p'] v p) (cj0 S r c x p' v):=by
 have nd:X.N.Nodup:=by rw[F.N];exact F.nd
 unfold cj0;split
 .exact D4
 .rename_i i hi;split
  .exact D4
  .rename_i hlo;have hlo:aK6 c x=true:=by simpa using hlo
   obtain⟨l1,l2⟩:=am6 F hlo;split
   .rename_i elt gens sc pv;split
    .rename_i hl;split
     .rename_i h;split
      .exact(bj3 R F hi hl h).1
      .exact(bj3 R F hi hl h).2
     .exact D4
    .rename_i hl;refine ba7 i nd (R.e F _) (F.slot hi) l1 ?_ l2;rw[ao6]
     have:(X.env.kindOf x==Oa .local)=false:=by
      unfold Env.kindOf;rw[F.sc];simpa using hl
     rw[this,bq];rfl
   .split
    .exact D4
    .rename_i hc;have hc:isC v=false:=by simpa using hc
     split
     .exact cv7 i nd (R.n F _) (F.slot hi) l1 (P7 hc _ _ _) l2
     .exact ba7 i nd (R.e F _) (F.slot hi) l1 (P7 hc _ _ _) l2
def bO6(R:Sound S r)(F:Fit S c X)(a i v:Expr)(q p:Pos):JS X (.Assign [.Subscript a i q] v p) (ci9 r c a i v):=by
 unfold ci9;split
 .exact D4
 .rename_i x hx;cases U1 hx;split
  .split
   .exact D4
   .rename_i j hj;split
    .rename_i h;simp only[ae,bj]at h;obtain⟨h1,h2,h3⟩:=M2 F h.1;exact cv5 j (R.e F _) (R.e F _) (F.slot hj) h1 h2 h3<|P7 h.2 _ _ _
    .exact D4
  .rename_i t ht;obtain⟨p',rfl⟩:=bf9 ht;obtain⟨lo,hi,st⟩:=t;cases st with
   | some e=>exact D4
   | none =>
    dsimp only[Option.isSome];rw[if_neg aX];split
    .exact D4
    .rename_i i hi;split
     .rename_i h;simp only[ae,bj]at h;obtain⟨h1,h2,h3⟩:=M2 F h.1;exact cv4 i (R.n F _) (ah6 (R.e F) _) (ah6 (R.e F) _) (F.slot hi) h1 h2 h3<|P7 h.2 _ _ _
     .exact D4
def bQ3(h:cD8 es=Oa t):es=[.Name t.1.1 t.1.2,.Name t.2.1 t.2.2]:=by
 match es,h with
 | [a,b],h =>
  obtain⟨x,h1,h⟩:=xbo h;obtain⟨y,h2,h⟩:=xmo h;cases h;rw[U1 h1,U1 h2]
def bQ2(h:cD7 e=Oa t):∃k p,e=.Tuple [t.1,t.2] k p:=by
 cases e with
 | Tuple es k p =>
  match es,h with
  | [a,b],h=>cases h;exact#[k,p,rfl]
  | [],h=>cases h
  | [_],h=>cases h
  | _::_::_::_,h=>cases h
 | _=>cases h
def cr6{v:Expr}(h:aT4 v=false)(es:La Expr)(k:Nat)(p:Pos)(env:Env):swappedStores [.Tuple es k p] v env=pure Z:=by cases v<;>first|rfl|cases h
def stB:Expr->Bool
 | .Starred ..=>true
 | _=>false
def swN(env:Env)(x y:Str)(px py:Pos):La Str:=[(x,px),(y,py)].filterMap λt=>if env.kindOf t.1==Oa .local&&t.2.line==px.line then Oa t.1 else Z
def cF4(env:Env)(x y:Str)(px py pt p2:Pos)(kt k2:Nat)(a b:Expr):swappedStores [.Tuple [.Name x px,.Name y py] kt pt] (.Tuple [a,b] k2 p2) env =
  (if(env.blockKind != .function)=true then pure Z else if([a,b].any stB)=true then pure Z else if((swN env x y px py).length != 2 || (swN env x y px py).eraseDups.length != (swN env x y px py).length)=true then pure Z
   else if([a,b].all (foldedForSure 8))=true then pure Z else if([a,b].all (constantsAlone 8))=true then unsupported "assign.tuple-of-constant-expressions:order-of-the-stores" else pure (Oa (swN env x y px py))):=by rfl
def bA7(h:pl e=true):stB e=false:=by cases e<;>first|rfl|cases h
def cm4{env:Env}{x y:Str}{px py pt p2:Pos}{kt k2:Nat}{a b:Expr}(hk:env.blockKind=.function)(ha:pl a=true)(hb:pl b=true)(kx:env.kindOf x=Oa .local)(ky:env.kindOf y=Oa .local)(hl:px.line=py.line)(hxy:(x==y)=false)
  (hf:([a,b].all<|foldedForSure 8)=false) (hc:([a,b].all<|constantsAlone 8)=false):swappedStores [.Tuple [.Name x px,.Name y py] kt pt] (.Tuple [a,b] k2 p2) env=pure (Oa [x,y]):=by
 have hn:swN env x y px py=[x,y]:=by simp[swN,kx,ky,hl]
 have hyx:(y==x)=false:=by
  cases q:(y==x) with
  | false=>rfl
  | true=>simp only[beq_iff_eq]at q;subst q;simp at hxy
 have hd:([x,y]:La Str).eraseDups=[x,y]:=by simp[List.eraseDups,List.eraseDupsBy,List.eraseDupsBy.loop,hxy,hyx]
 rw[cF4,hk,hn,hd,hf,hc];simp[bA7 ha,bA7 hb]
def bR0{es vs:La Expr}(h:(es.length==2 || es.length==3)=false)(k k3:Nat)(p p3:Pos)(env:Env):swappedStores [.Tuple es k p] (.Tuple vs k3 p3) env=pure Z:=by
 show(if(!(es.length==2 || es.length==3) || vs.length != es.length || env.blockKind != .function)=true then _ else _)=_;rw[if_pos (by rw[h];rfl)]
def bO5(R:Sound S r)(F:Fit S c X)(es:La Expr)(kt:Nat)(pt:Pos)(v:Expr)(p:Pos):JS X (.Assign [.Tuple es kt pt] v p) (ci8 r c (.Tuple es kt pt) v es):=by
 have nd:X.N.Nodup:=by rw[F.N];exact F.nd
 unfold ci8;split
 .rename_i x px y py ht;cases bQ3 ht;split
  .split
   .rename_i a b hab;obtain⟨k2,p2,rfl⟩:=bQ2 hab;split
    .rename_i i hi;split
     .rename_i j hj;split
      .rename_i h;unfold cH4 at h;simp only[ae,bj,beq_iff_eq]at h;obtain⟨⟨⟨⟨⟨⟨⟨⟨hd,ha⟩,hb⟩,hxy⟩,hl⟩,hx⟩,hy⟩,hf⟩,hcs⟩:=h;have hx':X.env.scope.names.lookup x=Oa .local:=by rw[F.sc];exact hx
       have hy':X.env.scope.names.lookup y=Oa .local:=by rw[F.sc];exact hy
       have hne:i≠j:=λz=>by
        subst z;have:=(F.slot hi).symm.trans (F.slot hj);cases this;simp at hxy
       refine cv6 nd (ay8 (R.e F) [a,b]) ?_ hne (F.slot hi) (F.slot hj) hx' hy' F.calm rfl;exact cm4 (be1 F hd) ha hb hx' hy' hl hxy hf hcs
      .exact D4
     .exact D4
    .exact D4
   .exact D4
  .rename_i h;have h:aT4 v=false:=by simpa using h
   refine bF9 (R.e F _) (R.g F _) ?_ (cr6 h _ _ _ _) rfl;cases v<;>rfl
 .split
  .exact D4
  .rename_i h;refine bF9 (R.e F _) (R.g F _) ?_ ?_ rfl
   .cases v<;>rfl
   .cases v<;>first|rfl|skip
    rename_i vs k3 p3;have h:(es.length==2 || es.length==3)=false:=by simpa [aT4] using h
    exact bR0 h _ _ _ _ _
def bO4(R:Sound S r)(F:Fit S c X)(tg v:Expr)(p:Pos):JS X (.Assign [tg] v p) (cC8 S r c tg v p):=by
 cases tg with
 | Name x p'=>exact bO7 R F x p' v p
 | Subscript a i q=>exact bO6 R F a i v q p
 | Tuple es k q=>exact bO5 R F es k q v p
 | _=>exact D4
end
section
variable {X:Cx}{S:Sg}{c:Kx}{r:Ev}
def bO0(R:Sound S r)(F:Fit S c X)(x m:Str)(e:Expr)(p apos cpos pos:Pos)(hl:(apos.endLine==cpos.line)=true):JS X (.Expr (.Call (.Attribute (.Name x p) m apos) [e] [] cpos) pos) (ci1 r c x m e):=by
 unfold ci1;split
 .exact D4
 .rename_i i hi;split
  .rename_i h;simp only[ae]at h;obtain⟨h1,h2,h3⟩:=M2 F h.1;have hs:=G5 h.2 [] X.env;split
   .rename_i hm;simp only[beq_iff_eq]at hm;subst hm;exact cw1 i (R.e F e) (F.slot hi) h1 h2 h3 rfl (by rw[hs];rfl) hl hs rfl
   .split
    .rename_i hm;simp only[beq_iff_eq]at hm;subst hm;exact cw0 i (R.e F e) (F.slot hi) h1 h2 h3 hl hs
    .exact D4
  .exact D4
def ci3(R:Sound S r)(F:Fit S c X)(e:Expr)(pos:Pos):JS X (.Expr e pos) (xEx r c e):=by
 unfold xEx;split
 .split
  .split
   .split
    .split
     .rename_i h;exact bO0 R F _ _ _ _ _ _ _ h
     .exact D4
    .exact D4
   .exact D4
  .exact D4
 .exact D4
def bu5{P:Expr->DS->Prop}(F:Fit S c X)(no:∀e,P e E9)(h:Th X->NT X.K X.mg->Gl X "NoText" -> ∀np y p1 p2 pos fl,P (.Call (.Name "NoText" np) [.Constant (.str y) p1 p2] [] pos) λ_=>Oa fl)(e:Expr):P e (xRa c<|Oa e):=by
 unfold xRa;dsimp only;split
 .split
  .split
   .rename_i q;simp only[ae,beq_iff_eq]at q;obtain⟨⟨h1,rfl⟩,h3⟩:=q;obtain⟨t1,t2⟩:=F.th h1;exact h t1 t2 (M5 F h3).1 _ _ _ _ _ _
   .exact no _
  .exact no _
 .exact no _
def ci0(F:Fit S c X)(e:Ob Expr)(pos:Pos):JS X (.Raise e Z pos) (xRa c e):=by
 cases e with
 | none=>exact D4
 | some e=>exact bu5 (P:=λe f=>JS X (.Raise (Oa e) Z pos) f) F (λ_=>D4) (λt n g _ _ _ _ _ _=>bF8<|aR2 t n g F.calm bb0 rfl) e
def bu4(R:Sound S r)(F:Fit S c X)(st:Stmt):JS X st (xS0 S r c st):=by
 cases st
 case Return o p =>
  cases o
  .exact D4
  .exact ba8 (R.e F _)
 case If=>exact cf9 (R.t F _) (R.b F _)<|R.b F _
 case While t a o p =>
  cases o
  .unfold xS0 xWh;dsimp only;split
   .rename_i h;exact bF7 (R.t F _) (R.b F _)<|F.po h
   .exact D4
  .exact D4
 case For tg it a o p =>
  cases o
  .unfold xS0 xFo;dsimp only;split
   .rename_i h;simp only[ae]at h;exact cv9 (bH0 R F _ _) (R.g F _) (R.b F _) (F.po h.2) F.calm<|aJ8 h.1 _
   .exact D4
  .exact D4
 case Assign ts v p =>
  unfold xS0 xAs;dsimp only;split
  .exact bO4 R F _ _ _
  .exact D4
 case Expr=>exact ci3 R F _ _
 case Pass=>exact bX2
 case Raise e o p =>
  cases o with
  | some=>exact D4
  | none=>exact ci0 F e p
 all_goals exact D4
theorem bK0{st:Stmt}:∀(l:La Nat) {g:DS},JS X st g->JS X st (l.foldl (λg i=>at3 i g) g)
 | [],_,h=>h
 | i::l,_,h=>bK0 l<|cv8 i h
def cC3(R:Sound S r)(F:Fit S c X)(st:Stmt):JS X st (xS S r c st):=by
 unfold xS fzW;split
 .exact bu4 R F st
 .exact bK0 _ (bu4 R F st)
theorem bK8(h:∀st,JS X st<|f st):∀sts,JSs X sts (evB f sts)
 | []=>bj1
 | [s]=>av6<|h s
 | s::t::W5=>ay7 (h s)<|bK8 h (t::W5)
def bR5(R:Sound S r):Sound S (step S r) :=
 #[λF=>cC7 R F,λF=>cC4 R F,λF=>cC5 R F,λF=>cC2 R F,λF=>cC6 R F,λF=>bK8<|cC3 R F]
theorem az4(S:Sg):∀n,Sound S (ev S n)
 | 0=>#[λ_ _=>J5,λ_ _=>cg0,λ_ _=>an0,λ_ _=>aF6,λ_ _=>aS9,λ_ _ y fl q=>by cases q]
 | n+1=>bR5<|az4 S n
end
structure Fd where
 x:Str
 st:Stmt
 ps:List Str
 N:List Str
 own:List Nat:=[]
 tx:List Nat:=[]
 dx:List Nat:=[]
 old:Bool:=false
 fz:List (Nat×List Nat):=[]
 hc:List ((Nat×Nat)×List Nat):=[]
 up:Nat:=0
 gb:D:=.none
def fdm(x:Str)(st:Stmt)(n:Nat)(N:La Str)(old:Bool:=false):Fd:={ x,st,ps:=N.take n,N,old }
def Fd.c(d:Fd):Kx:={ N:=d.N,sc:=B8 d.st,df:=true,own:=d.own,cpt:=[],tx:=d.tx,dx:=d.dx,old:=d.old,fz:=d.fz,hc:=d.hc,up:=d.up,gb:=d.gb }
def Fd.okB(d:Fd):Bool:=let sc:=B8 d.st
 sc.kind == .function && !sc.isCoroutine && !sc.isGenerator&&ak0 d.N&&d.N.take d.ps.length==d.ps&&(d.ps.all λx=>match sc.names.lookup x with|some .local=>true|some .cell=>true|_=>false)&&sc.names.all λy=>match y.2 with | .free=>false|_=>true
def Fd.sc{d:Fd}(h:d.okB=true):FnScope d.N d.ps (B8 d.st):=by
 unfold Fd.okB at h;simp only[ae,bj,beq_iff_eq,ay]at h;obtain⟨⟨⟨⟨⟨⟨h1,h2⟩,h3⟩,h4⟩,h5⟩,h6⟩,h7⟩:=h;refine#[h1,h2,h3,ae7 h4,h5,λx hx=>?_,λy hy e=>?_]
 .have:=h6 x hx;split at this
  .rename_i q;exact .inl q
  .rename_i q;exact .inr q
  .cases this
 .have:=h7 y hy;rw[e]at this;cases this
def KF(K:af)(x:Str)(st:Stmt):Prop:=∃(f:fL) (oc:fJ) (od:Ob fL) (sl:Array (Ob fJ)) (kV dc pm:fJ) (an:Ob fL) (cd ct:fJ),
 aJ K eW x=Oa (Oa<|.ref f)/\K.lookup f=Oa #[oc,od,.func<|bB x x (S8 st) (G8 st) (B8 st) .none kV dc pm an cd ct,sl]/\cf K cd x=true/\aN K (.ref f)=true
def cK8{K:af}{x:Str}{st:Stmt}{f:fL}{oc:fJ}{od:Ob fL}{sl:Array (Ob fJ)}{kV dc pm:fJ}{an:Ob fL}{cd ct:fJ}(a:aJ K eW x=Oa (Oa<|.ref f))
  (l:K.lookup f=Oa #[oc,od,.func<|bB x x (S8 st) (G8 st) (B8 st) .none kV dc pm an cd ct,sl]) (c:cf K cd x=true) (k:aN K (.ref f)=true):KF K x st:=#[f,oc,od,sl,kV,dc,pm,an,cd,ct,a,l,c,k]
abbrev Tab:=La<|Str×FnD×Nat
section
variable {P:Program}{w:World}{K:PySem.W.Frag}{mg:Str->Ob Value}{base:Heap}{cs:La (Str×D)}{bl:La Str}
structure Md (K:af) (mg:Str->Option fJ) (cs:List (Str×D)) (bl:List Str):Prop where
 ns:∀x v,aJ K eW x=Oa (Oa v)->mg x=Oa v
 css:∀x d,cs.lookup x=Oa d->∃u,aV8 K d u/\mg x=Oa u
 bls:∀x,bl.contains x=true->mg x=Z
def TOk(bz:Bool)(P:eX)(w:World)(K:af)(mg:Str->Ob fJ)(base:Heap)(k:Nat)(tab:Tab):Prop:=∀x F n,tab.lookup x=Oa (F,n)->(∃(f:fL) (fd:eZ) (ps:La Str),
 FnOk P w K mg base (CXb K P w bz) k f fd ps (spF K n F)/\mg x=Oa (.ref f)/\aN K (.ref f)=true/\K0 K fd ps [])\/(mg x=Z/\cB9 x F n)
def TOk.nil:TOk bz P w K mg base 0 []:=λx F n h=>by cases h
def bk6{f:fL}{fd:eZ}{ps:La Str}{sp:Sp}{k:Nat}(h:FnOk P w K mg base (CXb K P w false) k f fd ps sp):FnOk P w K mg base (CXb K P w bz) k f fd ps sp :=
 #[h.len,λA outer s H args us vs Q E hr e0 hb r q=>codeAny_mono (h.run A outer s H args us vs Q E hr e0 hb r q) λr s' z=>by
  cases r with
  | error e=>exact False.elim z
  | ok fl=>cases fl<;>exact z]
def TOk.up{k:Nat}{tab:Tab}(T:TOk false P w K mg base k tab):TOk bz P w K mg base k tab:=λx F n e=>(T x F n e).imp (λ#[f,fd,ps,h1,h2]=>#[f,fd,ps,bk6 h1,h2]) id
theorem TOk.mono(T:TOk bz P w K mg base j tab)(h:j<=k):TOk bz P w K mg base k tab:=λx F n e =>(T x F n e).imp (λ#[f,fd,ps,h1,h2,h3,h4]=>#[f,fd,ps,h1.mono h,h2,h3,h4]) id
def UA:Nat->(La fJ->Prop)->Prop
 | 0,P=>P []
 | n+1,P=>∀a,UA n λus=>P (a::us)
theorem ua:∀{n:Nat}{P:La fJ->Prop},UA n P->∀us:La fJ,us.length=n->P us
 | 0,_,h,[],_=>h
 | _+1,P,h,a::us,e=>ua (P:=λus=>P (a::us)) (h a) us<|Nat.succ.inj e
def Bd(d:Fd):Prop:=∀(kV doc pm:fJ) (an:Ob fL) (cdv ct:fJ),UA d.ps.length λus=>bindArgs (bB d.x d.x (S8 d.st) (G8 d.st) (B8 d.st) .none kV doc pm an cdv ct) #[us,[]]=pure (d.ps.zip us)
def rd(tab:Tab)(cs:La (Str×D))(bl:La Str)(d:Fd):FnD:=E2 ((ev #[tab,cs,bl] 99).b d.c<|G8 d.st) d.N.length
def bK3(M:Md K mg cs bl)(T:TOk bz P w K mg base k tab)(hu:d.up=(bif bz then 2 else 0))(nt:bz=true->NT K mg)(ok:d.okB=true)(Fn:Fun K d.x d.x d.st f fd):FnOk P w K mg base (CXb K P w bz) (k+1) f fd d.ps (spF K d.ps.length<|rd tab cs bl d):=by
 have Sc:=Fd.sc ok;refine bk7 (N:=d.N) Fn Sc λcdv A outer s H E hr=>(az4 #[tab,cs,bl] 99).b (c:=d.c) ?_ _
 refine#[rfl,rfl,Sc.nd,rfl,λ_=>co4,λh=>?_,hr.units,λ_=>#[λ_=>rfl,Sc.kind],λx F n h=>?_,M.css,M.bls]
 .have h:d.up=2:=h;cases bz
  .rw[hu]at h;cases h
  .exact#[cE4,nt rfl]
 .show bu1 _ (d.up != 0) _ _ _;rw[show(d.up != 0)=bz from by rw[hu];cases bz<;>rfl];exact(T x F n h).imp (λ#[f',fd',ps,h1,h2,h3,h4]=>#[k,f',fd',ps,bn8,h1,hr,h2,h3,h4]) id
def j6{x:Str}{st:Stmt}(h:KF K x st)(M:Md K mg cs bl):∃(f:fL) (kV dc pm:fJ) (an:Ob fL) (cd ct:fJ),Fun K x x st f (bB x x (S8 st) (G8 st) (B8 st) .none kV dc pm an cd ct)/\mg x=Oa (.ref f):=by
 obtain⟨f,oc,od,sl,kV,dc,pm,an,cd,ct,a,l,cc,kk⟩:=h;exact#[f,kV,dc,pm,an,cd,ct,bb9 l cc kk,M.ns _ _ a]
def TOk.cons{k:Nat}{tab:Tab}{x:Str}{F:FnD}{n:Nat}(T:TOk bz P w K mg base k tab)(h:∃(f:fL) (fd:eZ) (ps:La Str),FnOk P w K mg base (CXb K P w bz) k f fd ps (spF K n F)/\mg x=Oa (.ref f)/\aN K (.ref f)=true/\K0 K fd ps []):
  TOk bz P w K mg base k ((x,F,n)::tab):=λy G m e=>by
 rw[aF]at e;split at e
 .rename_i q;cases e;simp only[beq_iff_eq]at q;subst q;exact .inl h
 .exact T y G m e
def TOk.add(T:TOk bz P w K mg base k tab)(M:Md K mg cs bl)(d:Fd)(h:KF K d.x d.st)(F:FnD)(e:rd tab cs bl d=F:=by kernel_rfl)(hu:d.up=(bif bz then 2 else 0):=by rfl)(nt:bz=true->NT K mg:=by intro h;cases h)(ok:d.okB=true:=by kernel_rfl)(bd:Bd d:=by repeat (first|exact rfl|intro _)):TOk bz P w K mg base (k+1) ((d.x,F,d.ps.length)::tab):=by
 subst e;obtain⟨f,kV,dc,pm,an,cd,ct,Fn,hm⟩:=j6 h M;exact(T.mono<|bM k).cons #[f,_,d.ps,bK3 M T hu nt ok Fn,hm,Fn.kp,.all<|ua (bd kV dc pm an cd ct)]
abbrev cn3(l:La (Fd×(Nat->FnD)))(j:Nat):Tab:=l.map λp=>(p.1.x,p.2 j,p.1.ps.length)
def TOk.recs(T:TOk false P w K mg base k tab)(M:Md K mg cs bl)(l:La (Fd×(Nat->FnD)))(h:∀p∈l,KF K p.1.x p.1.st/\p.2 0=(λ_=>Z)/\(∀j,rd (cn3 l j++tab) cs bl p.1=p.2 (j+1))/\p.1.up=0/\p.1.okB=true/\Bd p.1)(j:Nat):TOk false P w K mg base (k+j) (cn3 l j++tab):=by
 have key:∀(i j:Nat) (l':La (Fd×(Nat->FnD))),(∀p∈l',p∈l)->TOk false P w K mg base i tab->(∀p∈l',∀{f:fL}{fd:eZ},Fun K p.1.x p.1.x p.1.st f fd->FnOk P w K mg base (CXb K P w false) i f fd p.1.ps (spF K p.1.ps.length<|p.2 j))->TOk false P w K mg base i (cn3 l' j++tab):=by
  intro i j l'
  induction l' with
  | nil=>exact λ_ T _=>T
  | cons p r ih =>
   intro hl T ho;obtain⟨h1,_,_,_,_,bd⟩:=h p (hl p<|by simp);obtain⟨f,kV,dc,pm,an,cd,ct,Fn,hm⟩:=j6 h1 M;exact(ih (λq hq=>hl q<|xmm _ hq) T λq hq=>ho q<|xmm _ hq).cons #[f,_,p.1.ps,ho p (by simp) Fn,hm,Fn.kp,.all<|ua (bd kV dc pm an cd ct)]
 induction j with
 | zero=>exact key _ _ l (λ_ h=>h) T λp hp {f fd} _=>by rw[(h p hp).2.1];exact#[λvs H Q E h=>h.1,λA outer s H args us vs Q E hr e0 hb hv hs=>by obtain⟨_,Hf,ds,d,_,_,e,_⟩:=hs;cases e]
 | succ j ih =>
  refine key _ _ l (λ_ h=>h) (T.mono<|cK k (j+1)) ?_;intro p hp f fd Fn;obtain⟨_,_,e,hu,ok,_⟩:=h p hp;rw[<- e j];exact bK3 M ih hu (λh=>nomatch h) ok Fn
end
inductive Fv where
 | frz (d:D)
 | lst (ds:List D)
 | dic (m:List (D×D))
structure Fo where
 k:Bool
 l:List (Str×Fv)
abbrev CT:=Bool->fL
structure Chg (S:List fL) (H Hf H' zc:Hp):Prop where
 big:∀b o,b∉S->H b=Oa o->H' b=Oa o
 kp:∀b,H b≠Z->H' b≠Z
 sub:D8 zc H'
 ext:D8 Hf zc
 new:∀b,zc b≠Z->Hf b≠Z\/H b=Z
def au8{y:Type}{o:Ob y}{x:y}(h:o=Oa x):o≠Z:=by rw[h];exact λz=>by cases z
def bi4{y:Type}{o:Ob y}(h:o≠Z):∃x,o=Oa x:=by cases o with
 | none=>exact absurd rfl h
 | some x=>exact#[x,rfl]
section
variable {K:PySem.W.Frag}{H H' H0 H1 H2 Hf zc Hf0 Hf1 Hf2:Hp}{S S' R:La Addr}{C:CT}{os:La (Addr×Fo)}{a:Addr}
def Chg.of(g:Grow H Hf H' zc):Chg S H Hf H' zc:=#[λb o _ e=>g.big b o e,λb h=>by obtain⟨x,e⟩:=bi4 h;exact au8<|g.big b x e,g.sub,g.ext,g.new]
theorem Chg.trans(a:Chg S H Hf H1 Hf1)(b:Chg S' H1 Hf1 H2 Hf2)(h:∀x∈S',x∈S\/H x=Z):Chg S H Hf H2 Hf2 where
 big c o hc e:=b.big c o (λz=>(h c z).elim hc λn=>by rw[n]at e;cases e)<|a.big c o hc e
 kp c h:=b.kp c<|a.kp c h
 sub:=b.sub
 ext:=a.ext.trans b.ext
 new c h:=(b.new c h).elim (a.new c) λn=>.inr<|aT λz=>a.kp c z n
def Chg.grow(a:Chg [] H Hf H' zc):Grow H Hf H' zc:=#[λb o e=>a.big b o (by simp) e,a.sub,a.ext,a.new]
def Chg.wr(ss:D8 Hf H)(hx:x∈S)(hf:Hf x=Z):Chg S H Hf (upd H x o) Hf where
 big b u hb e:=by rw[D0 (λz=>hb (by rw[z];exact hx))];exact e
 kp b h:=by
  by_cases q:b=x
  .subst q;rw[C9];exact λz=>by cases z
  .rw[D0 q];exact h
 sub b u e:=by rw[D0 (D9 e hf)];exact ss b u e
 ext:=D8.refl _
 new b h:=.inl h
structure Cel where
 dx:fL
 fs:List (Str×V)
 ps:List fL
abbrev cells(a:fL)(c:Cel):La fL:=a::c.ps
def FvA(K:af)(H Hf:Hp):Fv->V->La fL->Prop
 | .frz d,v,ps=>ps=[]/\Rep K Hf d v
 | .lst ds,v,ps=>∃p vs,v=.ref p/\ps=[p]/\H p=Oa (.lst vs)/\Reps K Hf ds vs
 | .dic m,v,ps=>∃p kvs,v=.ref p/\ps=[p]/\H p=Oa (.dK kvs)/\RepKs K Hf m kvs
def Fds(K:af)(H Hf:Hp):La (Str×Fv)->La (Str×V)->La fL->Prop
 | [],l,ps=>l=[]/\ps=[]
 | (x,f)::r,l,ps=>∃v t p qs,l=(x,v)::t/\ps=p++qs/\FvA K H Hf f v p/\(∀y∈p,y∉qs)/\Fds K H Hf r t qs
def FvA.kind(h:FvA K H Hf f v p):∀y∈p,(∃vs,H y=Oa (.lst vs))\/∃kvs,H y=Oa (.dK kvs):=by
 cases f with
 | frz d=>obtain⟨rfl,_⟩:=h;simp
 | lst ds=>obtain⟨q,vs,_,rfl,e,_⟩:=h;exact λy hy=>.inl #[vs,by rw[aB.mp hy];exact e]
 | dic m=>obtain⟨q,vs,_,rfl,e,_⟩:=h;exact λy hy=>.inr #[vs,by rw[aB.mp hy];exact e]
def FvA.keep(h:FvA K H Hf f v p)(k:∀y∈p,H' y=H y)(e:D8 Hf zc):FvA K H' zc f v p:=by
 cases f with
 | frz d=>exact#[h.1,Rep.mono e h.2]
 | lst ds=>obtain⟨q,vs,h1,rfl,h3,h4⟩:=h;exact#[q,vs,h1,rfl,by rw[k q (by simp)];exact h3,h4.mono e]
 | dic m=>obtain⟨q,vs,h1,rfl,h3,h4⟩:=h;exact#[q,vs,h1,rfl,by rw[k q (by simp)];exact h3,h4.mono e]
theorem Fds.kind:∀{o:La (Str×Fv)}{l:La (Str×V)}{ps:La fL},Fds K H Hf o l ps->∀y∈ps,(∃vs,H y=Oa (.lst vs))\/∃kvs,H y=Oa (.dK kvs)
 | [],_,_,h=>by obtain⟨_,rfl⟩:=h;simp
 | (x,f)::r,_,_,#[v,t,p,qs,_,h2,h3,_,h5]=>λy hy=>by
  subst h2;exact(aE.mp hy).elim (h3.kind y) (h5.kind y)
theorem Fds.keep(e:D8 Hf zc):∀{o:La (Str×Fv)}{l:La (Str×V)}{ps:La fL},Fds K H Hf o l ps->(∀y∈ps,H' y=H y)->Fds K H' zc o l ps
 | [],_,_,h,_=>h
 | (x,f)::r,_,_,#[v,t,p,qs,h1,h2,h3,h4,h5],k=>by
  subst h2;exact#[v,t,p,qs,h1,rfl,h3.keep (λy hy=>k y<|aS _ hy) e,h4,h5.keep e λy hy=>k y<|aw _ hy]
theorem Fds.len:∀{o:La (Str×Fv)}{l:La (Str×V)}{ps:La fL},Fds K H Hf o l ps->l.length=o.length
 | [],_,_,h=>by obtain⟨rfl,_⟩:=h;rfl
 | (x,f)::r,_,_,#[v,t,p,qs,h1,_,_,_,h5]=>by subst h1;simp[h5.len]
theorem Fds.look{f:Str}:∀{o:La (Str×Fv)}{l:La (Str×V)}{ps:La fL},Fds K H Hf o l ps->(o.lookup f=Z/\l.lookup f=Z)\/∃w v p,o.lookup f=Oa w/\l.lookup f=Oa v/\FvA K H Hf w v p/\∀y∈p,y∈ps
 | [],_,_,h=>by obtain⟨rfl,_⟩:=h;exact .inl #[rfl,rfl]
 | (x,w)::r,_,_,#[v,t,p,qs,h1,h2,h3,_,h5]=>by
  subst h1 h2;rw[aF,aF];cases f==x with
  | true=>exact .inr #[w,v,p,rfl,rfl,h3,λy hy=>aS _ hy]
  | false=>exact h5.look.imp id λ#[w,v,p,a,b,c,d]=>#[w,v,p,a,b,c,λy hy=>aw _<|d y hy]
def aY6(f:Str)(w:Fv):La (Str×Fv)->La (Str×Fv)
 | []=>[(f,w)]
 | (g,x)::r=>if g=f then(g,w)::r else(g,x)::aY6 f w r
theorem Fds.put{f:Str}{w:Fv}{v:V}{p':La fL}(q:FvA K H Hf w v p'):∀{o:La (Str×Fv)}{l:La (Str×V)}{ps:La fL},Fds K H Hf o l ps->(∀y∈p',y∉ps)->∃ps',Fds K H Hf (aY6 f w o) (m4 f v l) ps'/\∀y∈ps',y∈p'\/y∈ps
 | [],_,_,h,_=>by obtain⟨rfl,rfl⟩:=h;exact#[p'++[],#[v,[],p',[],rfl,rfl,q,by simp,rfl,rfl],λy hy=>.inl<|by simpa using hy]
 | (x,w0)::o,_,_,#[v',t,p,qs,h1,h2,h3,h4,h5],n=>by
  subst h1 h2;unfold aY6 m4;split
  .exact#[p'++qs,#[v,t,p',qs,rfl,rfl,q,λy hy z=>n y hy<|aw _ z,h5],λy hy=>(aE.mp hy).imp id<|aw _]
  .obtain⟨ps',a,b⟩:=h5.put q λy hy z=>n y hy (aw _ z)
   refine#[p++ps',#[v',_,p,ps',rfl,rfl,h3,λy hy z=>(b y z).elim (λz=>n y z<|aS _ hy)<|h4 y hy,a],λy hy=>?_];rcases aE.mp hy with z|z
   .exact .inr (aS _ z)
   .exact(b y z).imp id (aw _)
structure FoAt (K:af) (C:CT) (H Hf:Hp) (a:fL) (c:Cel) (o:Fo):Prop where
 ins:H a=Oa (.ins (C o.k) c.dx c.fs)
 fl:Fds K H Hf o.l c.fs c.ps
 fr:∀x∈cells a c,Hf x=Z
def FoAt.na(h:FoAt K C H Hf a c o):a∉c.ps:=λz=>by rcases h.fl.kind a z with⟨_,e⟩|⟨_,e⟩<;>(rw[h.ins]at e;cases e)
def FoAt.there(h:FoAt K C H Hf a c o):∀x∈cells a c,H x≠Z:=λx hx=>by
 rcases ao.mp hx with rfl|hx
 .exact au8 h.ins
 .rcases h.fl.kind x hx with⟨_,e⟩|⟨_,e⟩<;>exact au8 e
def FoAt.chg(h:FoAt K C H Hf a c o)(g:Chg S H Hf H' zc)(hs:∀x∈cells a c,x∉S):FoAt K C H' zc a c o:=by
 have th:=h.there;refine#[g.big _ _ (hs _<|by simp) h.ins,h.fl.keep g.ext λy hy=>?_,λx hx=>aT λz=>(g.new x z).elim (λq=>q<|h.fr x hx)<|th x hx];obtain⟨u,e⟩:=bi4 (th y<|xmm _ hy);rw[e];exact g.big y u (hs y<|xmm _ hy) e
def FvA.det(h:FvA K H Hf f v p)(g:FvA K H' zc f v p'):p=p':=by
 cases f with
 | frz d=>rw[h.1,g.1]
 | lst ds =>
  obtain⟨q,_,rfl,rfl,_⟩:=h;obtain⟨q',_,e,rfl,_⟩:=g;cases e;rfl
 | dic m =>
  obtain⟨q,_,rfl,rfl,_⟩:=h;obtain⟨q',_,e,rfl,_⟩:=g;cases e;rfl
theorem Fds.det:∀{o:La (Str×Fv)}{l:La (Str×V)}{p p':La fL},Fds K H Hf o l p->Fds K H' zc o l p'->p=p'
 | [],_,_,_,h,g=>by rw[h.2,g.2]
 | (x,f)::r,_,_,_,#[v,t,a,b,h1,h2,h3,_,h5],#[v',t',a',b',g1,g2,g3,_,g5]=>by
  subst h1;cases g1;rw[h2,g2,h3.det g3,h5.det g5]
def FoAt.same{c c':Cel}{zc:Hp}(f:FoAt K C H Hf a c o)(g:FoAt K C H zc a c' o):c=c':=by
 have e:=f.ins.symm.trans g.ins;obtain⟨d1,d2,d3⟩:=c;obtain⟨x1,x2,x3⟩:=c';cases e;cases f.fl.det g.fl;rfl
theorem FoAt.put(h:FoAt K C H Hf a c o)(q:FvA K H Hf w v p)(n:∀y∈p,y∉cells a c/\Hf y=Z):∃ps',FoAt K C (upd H a<|.ins (C o.k) c.dx (m4 f v c.fs)) Hf a #[c.dx,m4 f v c.fs,ps'] #[o.k,aY6 f w o.l]/\∀y∈ps',y∈p\/y∈c.ps:=by
 obtain⟨ps',r1,r2⟩:=h.fl.put q λy hy z=>(n y hy).1<|xmm _ z
 have na:a∉ps':=λz=>(r2 a z).elim (λz=>(n a z).1<|by simp) h.na
 refine#[ps',#[C9,r1.keep (D8.refl _) λy hy=>D0 λe=>na (by rw[<- e];exact hy),λx hx=>?_],r2];rcases ao.mp hx with rfl|hx
 .exact h.fr x (by simp)
 .exact(r2 x hx).elim (λz=>(n x z).2) λz=>h.fr x<|xmm _ z
def FoAt.grow(h:FoAt K C H Hf a c o)(g:Grow H Hf H' zc):FoAt K C H' zc a c o:=h.chg (S:=[]) (Chg.of g) λ_ _=>by simp
inductive Objs (K:af) (C:CT) (H Hf:Hp):List (fL×Fo)->List fL->Prop
 | nil:Objs K C H Hf [] []
 | cons {a:fL}{c:Cel}{o:Fo}{os:List (fL×Fo)}{R:List fL}:FoAt K C H Hf a c o->(∀x∈cells a c,x∉R)->Objs K C H Hf os R->Objs K C H Hf ((a,o)::os) (cells a c++R)
theorem Objs.there(h:Objs K C H Hf os R):∀x∈R,H x≠Z:=by
 induction h with
 | nil=>exact λ_ h=>nomatch h
 | cons f d t ih =>
  intro x hx;rcases aE.mp hx with hx|hx
  .exact f.there x hx
  .exact ih x hx
theorem Objs.chg(h:Objs K C H Hf os R)(g:Chg S H Hf H' zc)(hs:∀x∈R,x∉S):Objs K C H' zc os R:=by
 induction h with
 | nil=>exact .nil
 | cons f d t ih=>exact .cons (f.chg g λx hx=>hs x (aS _ hx)) d<|ih λx hx=>hs x<|aw _ hx
def Objs.focus(h:Objs K C H Hf os R):∀{j:Nat}{a:fL}{o:Fo},os[j]? = Oa (a,o)->∃c,FoAt K C H Hf a c o/\(∀x∈cells a c,x∈R) /\
  ∀{H' zc:Hp}{c':Cel}{o':Fo},Chg (cells a c) H Hf H' zc->FoAt K C H' zc a c' o'->(∀x∈cells a c',x∈cells a c\/H x=Z)->∃R',Objs K C H' zc (os.set j (a,o')) R'/\∀x∈R',(x∈R/\x∉cells a c)\/x∈cells a c':=by
 induction h with
 | nil=>intro j a o e;simp at e
 | @cons a0 c0 o0 os0 R0 f d t ih =>
  intro j a o e;cases j with
  | zero =>
   simp at e;obtain⟨rfl,rfl⟩:=e;refine#[c0,f,λx hx=>aS _ hx,λ{H' zc c' o'} g f' n=>#[cells a0 c'++R0,.cons f' (λx hx hr=>?_)<|t.chg g λx hx z=>d x z hx,λx hx=>?_]]
   .rcases n x hx with z|z
    .exact d x z hr
    .exact t.there x hr z
   .rcases aE.mp hx with hx|hx
    .exact .inr hx
    .exact .inl #[aw _ hx,λz=>d x z hx]
  | succ j =>
   obtain⟨c,f1,f2,f3⟩:=ih (j:=j) (a:=a) (o:=o) (by simpa using e);refine#[c,f1,λx hx=>aw _<|f2 x hx,λ{H' zc c' o'} g f' n=>?_];obtain⟨R',r1,r2⟩:=f3 g f' n;have dis:∀x∈cells a0 c0,x∉cells a c:=λx hx z=>d x hx<|f2 x z
   refine#[cells a0 c0++R',.cons (f.chg g dis) (λx hx hr=>?_) r1,λx hx=>?_]
   .rcases r2 x hr with z|z
    .exact d x hx z.1
    .exact(n x z).elim (dis x hx) (f.there x hx)
   .rcases aE.mp hx with hx|hx
    .exact .inl #[aS _ hx,dis x hx]
    .exact(r2 x hx).imp (λz=>#[aw _ z.1,z.2]) id
def Objs.snoc(h:Objs K C H Hf os R)(f:FoAt K C H Hf a c o)(d:∀x∈cells a c,x∉R):∃R',Objs K C H Hf (os++[(a,o)]) R'/\∀x∈R',x∈R\/x∈cells a c:=by
 induction h with
 | nil=>exact#[cells a c++[],.cons f (by simp) .nil,λx hx=>.inr<|by simpa using hx]
 | @cons a0 c0 o0 os0 R0 f0 d0 t ih =>
  obtain⟨R',r1,r2⟩:=ih λx hx=>λz=>d x hx<|aw _ z
  refine#[cells a0 c0++R',.cons f0 (λx hx hr=>?_) r1,λx hx=>?_]
  .rcases r2 x hr with z|z
   .exact d0 x hx z
   .exact d x z (aS _ hx)
  .rcases aE.mp hx with hx|hx
   .exact .inl (aS _ hx)
   .exact(r2 x hx).imp (aw _) id
end
structure Bs where
 S:List fL
 H:Hp
 Hf:Hp
def hid(b:Bs)(R:La fL):Hp:=λx=>if x∈R then Oa (.lst []) else b.H x
structure OSt (K:af) (C:CT) (b:Bs) (ρ:Rho) (os:List (fL×Fo)) (σ:L2.St) (H Hf:Hp):Prop where
 gr:Chg b.S b.H b.Hf H Hf
 ob:∃R,Objs K C H Hf os R/\(∀x∈R,x∈b.S\/b.H x=Z)/\Slots K (hid b R) ρ σ H Hf
section
variable {K:PySem.W.Frag}{C:CT}{b:Bs}{u:Rho}{os:La (Addr×Fo)}{r:L2.St}{H Hf H' zc:Hp}
def aF0(_:Rho):Bool:=true
def Y4(h:hid b R x=Z):x∉R/\b.H x=Z:=by
 unfold hid at h;split at h
 .cases h
 .rename_i n;exact#[n,h]
def aL8(h1:x∉R)(h2:b.H x=Z):hid b R x=Z:=by unfold hid;rw[if_neg h1];exact h2
def Slots.chg{H0 H0':Hp}{S:La fL}(s:Slots K H0 u r H Hf)(g:Chg S H Hf H' zc)(hS:∀x∈S,H0 x=Z->H x=Z)(hH:∀x,H0 x=Z->H x≠Z->H0' x=Z):Slots K H0' u r H' zc:=by
 refine#[s.len,λi b e=>?_,s.apart];obtain⟨v,h1,h2⟩:=s.is i b e;refine#[v,h1,?_];cases b with
 | val d=>exact Rep.mono g.ext h2
 | exc C =>
  obtain⟨a,o,C,e,h1,h2⟩:=h2;exact#[a,o,C,e,g.ext _ _ h1,h2]
 | opq _=>exact h2
 | own ds =>
  obtain⟨a,us,e,e1,e2,e3,e4⟩:=h2;have nS:a∉S:=λz=>by rw[hS a z e3]at e1;cases e1
  have nf:zc a=Z:=aT λz=>(g.new a z).elim (λq=>q e2) λq=>by rw[q]at e1;cases e1
  exact#[a,us,e,g.big a _ nS e1,nf,hH a e3<|au8 e1,e4.mono g.ext]
def OSt.R(s:OSt K C b u os r H Hf):La fL:=s.ob.choose
def OSt.obs(s:OSt K C b u os r H Hf):Objs K C H Hf os s.R/\∀x∈s.R,x∈b.S\/b.H x=Z:=#[s.ob.choose_spec.1,s.ob.choose_spec.2.1]
def OSt.sl(s:OSt K C b u os r H Hf):Slots K (hid b s.R) u r H Hf:=s.ob.choose_spec.2.2
def OSt.slots{ρ':Rho}{σ':L2.St}(s:OSt K C b u os r H Hf)(sl:Slots K (hid b s.R) ρ' σ' H Hf):OSt K C b ρ' os σ' H Hf:=#[s.gr,s.R,s.obs.1,s.obs.2,sl]
def OSt.same(s:OSt K C b u os r H Hf):D8 Hf H:=s.gr.sub
theorem OSt.grow(s:OSt K C b u os r H Hf)(g:Grow H Hf H' zc):OSt K C b u os r H' zc:=by
 obtain⟨R,r1,r2,r3⟩:=s.ob;exact#[s.gr.trans (S':=[]) (Chg.of g) (by simp),R,r1.chg (S:=[]) (Chg.of g) (by simp),r2,r3.grow g]
def OSt.focusN(s:OSt K C b u os r H Hf)(e:os[j]? = Oa (a,o)):∃c,FoAt K C H Hf a c o /\
  ∀{H' zc:Hp}{c':Cel}{o':Fo},Chg (cells a c) H Hf H' zc->FoAt K C H' zc a c' o'->(∀x∈cells a c',x∈cells a c\/H x=Z)->OSt K C b u (os.set j (a,o')) r H' zc /\
   ∀{a2:fL}{c2:Cel}{o2:Fo},FoAt K C H' zc a2 c2 o2->(∀y∈cells a2 c2,(y∈cells a c\/H y=Z)/\y∉cells a c')->OSt K C b u (os.set j (a,o')++[(a2,o2)]) r H' zc:=by
 obtain⟨R,r1,r2,r3⟩:=s.ob;obtain⟨c,f1,f2,f3⟩:=r1.focus e;refine#[c,f1,λ{H' zc c' o'} g f' nn=>?_];obtain⟨R',q1,q2⟩:=f3 g f' nn;have q3:∀x∈R',x∈R\/H x=Z:=λx hx=>(q2 x hx).elim (λz=>.inl z.1) λz=>(nn x z).imp (f2 x) id
 have old:∀x,x∈R\/H x=Z->x∈b.S\/b.H x=Z:=λx h=>h.elim (r2 x) λz=>.inr<|aT λq=>s.gr.kp x q z
 have gr:=s.gr.trans g λx hx=>r2 x<|f2 x hx
 have sl:∀R2:La fL,(∀x∈R2,x∈R\/H x=Z)->Slots K (hid b R2) u r H' zc:=λR2 h2=>r3.chg g (λx hx h=>((Y4 h).1<|f2 x hx).elim) λx h hx=>by
  obtain⟨h1,h3⟩:=Y4 h;exact aL8 (λz=>(h2 x z).elim h1 hx) h3
 refine#[#[gr,R',q1,λx hx=>old x<|q3 x hx,sl R' q3],λ{a2 c2 o2} fo fr=>?_];obtain⟨R2,p1,p2⟩:=q1.snoc fo λy hy z=>(q2 y z).elim (λw=>(fr y hy).1.elim w.2<|r1.there y w.1) (fr y hy).2
 have p3:∀x∈R2,x∈R\/H x=Z:=λx hx=>(p2 x hx).elim (q3 x) λz=>(fr x z).1.imp (f2 x) id
 exact#[gr,R2,p1,λx hx=>old x<|p3 x hx,sl R2 p3]
def OSt.focus(s:OSt K C b u os r H Hf)(n:aF0 u=true)(e:os[j]? = Oa (a,o)):∃c,FoAt K C H Hf a c o /\
  ∀{H' zc:Hp}{c':Cel}{o':Fo},Chg (cells a c) H Hf H' zc->FoAt K C H' zc a c' o'->(∀x∈cells a c',x∈cells a c\/H x=Z)->OSt K C b u (os.set j (a,o')) r H' zc:=by
 obtain⟨c,f1,f3⟩:=s.focusN e;exact#[c,f1,λg f n=>(f3 g f n).1]
end
abbrev Os:=La<|fL×Fo
def OE(X:Cx)(C:CT)(b:Bs)(y:Rho)(q:Os)(e:Expr)(d:D)(q':Os):Prop:=PE X e (λz H Q=>∃Hf,OSt X.K C b y q z H Hf/\∀v H' zc,OSt X.K C b y q' z H' zc->D8 Hf zc->Rep X.K zc d v->Q v H')
def OT(X:Cx)(C:CT)(b:Bs)(y:Rho)(q:Os)(e:Expr)(c:Bool)(q':Os):Prop:=PT X e (λz H Q=>∃Hf,OSt X.K C b y q z H Hf/\∀H' zc,OSt X.K C b y q' z H' zc->D8 Hf zc->Q c H')
inductive OF where
 | nx (ρ:Rho) (q:Os)
 | rt (d:D) (q:Os)
def OF.ends(X:Cx)(C:CT)(b:Bs)(Hf:Hp)(En:Ends):OF->Prop
 | .nx y q=>∀σ' H' zc,OSt X.K C b y q σ' H' zc->D8 Hf zc->En.nx σ' H'
 | .rt d q=>∀ρ' σ' v H' zc,OSt X.K C b ρ' q σ' H' zc->Rep X.K zc d v->En.rt v H'
def OS(X:Cx)(C:CT)(b:Bs)(y:Rho)(q:Os)(st:Stmt)(fl:OF):Prop:=PS X st (λEn z H=>∃Hf,OSt X.K C b y q z H Hf/\fl.ends X C b Hf En)
section
variable {X:Cx}{C:CT}{b:Bs}{p ρ':Rho}{q q' q1 q2:Os}{st:Stmt}{sts:La Stmt}
def cp6(o:OpD X (eU op) h)(ha:OE X C b p q ea x q1)(hb:OE X C b p q1 eb y q2)(w:h x y=Oa (.bool c))(hm:behindInMarks op eb=false:=by first|exact aK4 _|rfl):OT X C b p q (.Compare ea [op] [eb] pos) c q2:=by refine ac2 (bg9 (o x y _ w) ha hb hm) λr H Q #[Hf,st,k]=>#[Hf,st,λv H1 Hf1 s1 e1 r1=>#[Hf1,s1,λu H2 Hf2 s2 e2 r2=>#[Hf2,s2.same,r1.mono e2,r2,λz H3 Hf3 g r3=>#[c,r3,k H3 Hf3 (s2.grow g)<|(e1.trans e2).trans g.ext]]]]
def cq5(o:OpD X (eU op) h)(ha:OE X C b p q ea x q1)(hb:OE X C b p q1 eb y q2)(w:h x y=Oa z)(hm:behindInMarks op eb=false:=by first|exact aK4 _|rfl):OE X C b p q (.Compare ea [op] [eb] pos) z q2:=by refine C8 (bh4 (o x y _ w) ha hb hm) λr H Q #[Hf,st,k]=>#[Hf,st,λv H1 Hf1 s1 e1 r1=>#[Hf1,s1,λu H2 Hf2 s2 e2 r2=>#[Hf2,s2.same,r1.mono e2,r2,λz H3 Hf3 g r3=>k z H3 Hf3 (s2.grow g) ((e1.trans e2).trans g.ext) r3]]]
def cp5(ha:OE X C b p q e (.bool c) q1)(he:∀whole,isTrue e X.env whole=(do let v <- whole;standAt e.pos;holding [v] (truthy v)):=by intro _;rfl):OT X C b p q e c q1 :=
 ac2 (aQ9 ha he) λy H Q #[Hf,st,k]=>#[Hf,st,λv H1 Hf1 s1 e1 r1=>#[c,by cases r1;rfl,k H1 Hf1 s1 e1]]
theorem OSt.set(s:OSt X.K C b p q y H Hf)(r:Rep X.K Hf d v):OSt X.K C b (p.set i<|[:d]) q (y.set i<|Oa v) H Hf:=s.slots<|s.sl.set r
end
abbrev MD:=La<|Ob D
def MxV(K:af)(Hf:Hp)(a:fL):Ob D->V->Prop
 | some d,v=>Rep K Hf d v
 | none,v=>v=.ref a
def Mxs(K:af)(Hf:Hp)(a:fL):MD->La V->Prop
 | [],vs=>vs=[]
 | m::ms,vs=>∃v r,vs=v::r/\MxV K Hf a m v/\Mxs K Hf a ms r
abbrev DF:=Fo->MD->Ob (D×Fo)
def spD(K:af)(C:CT)(n:Nat)(F:DF):Sp:=λvs H Q _=>vs.length=n/\∃a Hf c o ms r o',D8 Hf H/\FoAt K C H Hf a c o/\Mxs K Hf a ms vs/\F o ms=Oa (r,o') /\
 ∀v H' zc c',Chg (cells a c) H Hf H' zc->FoAt K C H' zc a c' o'->(∀x∈cells a c',x∈cells a c\/H x=Z)->Rep K zc r v->Q v H'
theorem aZ4{K:af}{Hf:Hp}{a:fL}:∀{ds:La D}{vs:La V},Reps K Hf ds vs->Mxs K Hf a (ds.map Oa) vs
 | [],_,h=>h
 | d::ds,_,#[v,r,h1,h2,h3]=>#[v,r,h1,h2,aZ4 h3]
def cM0(K:af)(C:fL):Bool:=PySem.W.findIn K (.ref C) "__class__" == Oa (Oa<|.builtin "object.__class__")&&PySem.W.specialIn K (.builtin "object.__class__") "__get__" == Oa (Oa<|.builtin "getset_descriptor.__get__")&&PySem.W.takesIn K (.builtin "object.__class__")==Oa true&&PySem.W.mroIn K C (.type "object")==Oa true&&PySem.W.kitOne K (.ref C) (.type "tuple")==Oa false
structure FoC (K:af) (C:fL) (fn:List Str):Prop where
 cl:Cls K C
 is:cM0 K C=true
 na:∀f∈fn,ak6 K C f
def bm3(X:Cx)(zb:Bool)(C:CT)(kd:Bool)(m:Str)(n:Nat)(F:DF):Prop:=∃k f fd ps,Ps X zb/\FnOk X.prog X.w X.K X.mg X.base (CXb X.K X.prog X.w zb) k f fd ps (spD X.K C (n+1) F)/\Room k X.A/\Meth X.K (C kd) m f/\K0 X.K fd ps []
section
variable {X:Cx}{C:CT}{b:Bs}{u ρ':Rho}{q q' q1 q2:Os}{o o':Fo}{K:PySem.W.Frag}{g:L2.St}{H Hf:Hp}{fn:La Str}
structure At1 (X:Cx) (u:Rho) (q:Os) (x:Str) (i j:Nat) (a:fL) (o:Fo):Prop where
 n:X.N[i]? = Oa x
 v:Vis X.env.scope x
 d1:(x==("__debug__":Str))=false
 d2:(x==("__classdict__":Str))=false
 s:u[i]? = Oa (Oa<|.opq a)
 o:q[j]? = Oa (a,o)
 w:aF0 u=true
def au9{i:Nat}{a:fL}(s:OSt K C b u q g H Hf)(e:u[i]? = Oa (Oa<|B.opq a)):g[i]? = Oa (Oa<|V.ref a):=by
 obtain⟨v,h1,h2⟩:=s.sl.is i _ e;cases h2;exact h1
def cr7{c:Cel}{m:Str}(f:FoAt K C H Hf a c o)(h:o.l.lookup m=Z):c.fs.lookup m=Z:=by
 rcases f.fl.look (f:=m) with⟨_,z⟩|⟨d,v,_,z,_⟩
 .exact z
 .rw[h]at z;cases z
def bp1{ds:La D}{d:D}{F:DF}{E:XK}{Q:VK}(st:OSt X.K C b u q g H Hf)(A:At1 X u q x i j a o)(hk:o.k=kd)(nf:o.l.lookup m=Z)(r:F o (Z::ds.map Oa)=Oa (d,o'))(hn:ds.length=n)
  (k:∀v H' zc,OSt X.K C b u (q.set j (a,o')) g H' zc->D8 Hf zc->Rep X.K zc d v->Q v H') :
  ∃v,g[i]? = Oa (Oa v)/\∃a dx fs,v=.ref a/\H a=Oa (.ins (C kd) dx fs)/\fs.lookup m=Z/\∀vs H1 Hf1,Grow H Hf H1 Hf1->Reps X.K Hf1 ds vs->spD X.K C (n+1) F (v::(vs++[])) H1 Q E:=by
 obtain⟨c,f1,f3⟩:=st.focus A.w A.o;refine#[_,au9 st A.s,a,c.dx,c.fs,rfl,by rw[<- hk];exact f1.ins,cr7 f1 nf,λvs H1 Hf1 g1 r1=>#[by rw[ar,ag,r1.length,hn],a,Hf1,c,o,Z::ds.map Oa,d,o',g1.sub,f1.grow g1,#[_,_,rfl,rfl,by rw[ar];exact aZ4 r1],r,λv H2 Hf2 c' g2 f2 n2 rv=>k v H2 Hf2 (f3 ((Chg.of g1).trans g2 λ_ h=>.inl h) f2 λy hy=>(n2 y hy).imp id λz=>aT λw=>(Chg.of (S:=[]) g1).kp y w z) (g1.ext.trans g2.ext) rv]]
def bW2{x m:Str}{p apos pos:Pos}{es:La Expr}(hl:(apos.endLine==pos.line)=true)(hf:methodCallForm (es.length+([]:La fh).length) (backTo pos<|eQ es X.env) (backToKw pos<|keywordEach [] X.env)=true):
  eval (.Call (.Attribute (.Name x p) m apos) es [] pos) X.env=(do
   let ov <- eval (.Name x p) X.env
   standAt apos.atName
   let(f,first) <- holding [ov] (getMethod ov m (do return (<- importBound (.Name x p) X.env).getD true))
   callWith pos f first (backTo pos (eQ es X.env)) (backToKw pos (keywordEach [] X.env))):=by
 show(do let ov <- eval (.Name x p) X.env;standAt apos.atName;methodCall (.Name x p) m apos pos X.env ov (es.length+([]:La fh).length) (backTo pos<|eQ es X.env) (backToKw pos<|keywordEach [] X.env))=_;unfold methodCall;rw[hf];unfold methodCallPos calleeOf;rw[hl];rfl
def bC3{x m:Str}{p apos pos:Pos}{d:D}{F:DF}(M:bm3 X zb C kd m 0 F)(c:FoC X.K (C kd) fn)(A:At1 X u q x i j a o)(hk:o.k=kd)(nf:o.l.lookup m=Z)(r:F o [Z]=Oa (d,o'))
  (hl:(apos.endLine==pos.line)=true:=by first|assumption|rfl) :
  OE X C b u q (.Call (.Attribute (.Name x p) m apos) [] [] pos) d (q.set j (a,o')):=by
 obtain⟨k,fa,fd,ps,hq,Fk,hr,hm,hb⟩:=M;refine C8 (bB4 (P4 A.n A.v A.d1 A.d2) c.cl hm Fk hr hb .nil hq<|bW2 hl rfl) λg H Q w=>?_
 obtain⟨Hf,st,kk⟩:=w;obtain⟨v,h1,a',dx,fs,h2,h3,h4,h5⟩:=bp1 (n:=0) (ds:=[]) (E:=E0) st A hk nf r rfl kk;exact#[v,h1,a',dx,fs,h2,h3,h4,h5 [] H Hf (Grow.refl st.same) rfl]
def cH0(A:At1 X u q x i j a o)(c:FoC X.K (C kd) fn)(hk:o.k=kd)(hf:f∈fn)(l:o.l.lookup f=Oa w)(hb:fq (.Name x p) f X.env (eval (.Name x p) X.env)=eval (.Name x p) X.env):
  PE X (.Attribute (.Name x p) f pos) (λg H Q=>∃Hf,OSt X.K C b u q g H Hf/\∀cl v ps,FoAt X.K C H Hf a cl o->cl.fs.lookup f=Oa v->FvA X.K H Hf w v ps->(∀y∈ps,y∈cl.ps)->Q v H) :=
 C8 (cp4 (P4 A.n A.v A.d1 A.d2) hb) λg H Q #[Hf,st,k]=>by
  obtain⟨cl,f1,_⟩:=st.focus A.w A.o;rcases f1.fl.look (f:=f) with⟨z,_⟩|⟨w',v,ps,z1,z2,z3,z4⟩
  .rw[l]at z;cases z
  .rw[l]at z1;cases z1;exact#[_,au9 st A.s,a,C kd,cl.dx,cl.fs,v,rfl,by rw[<- hk];exact f1.ins,c.cl,c.na f hf,z2,k cl v ps f1 z2 z3 z4]
def cq4(A:At1 X u q x i j a o)(c:FoC X.K (C kd) fn)(hk:o.k=kd)(hf:f∈fn)(l:o.l.lookup f=Oa (.frz d))(hb:fq (.Name x p) f X.env (eval (.Name x p) X.env)=eval (.Name x p) X.env):OE X C b u q (.Attribute (.Name x p) f pos) d q :=
 C8 (cH0 A c hk hf l hb) λg H Q #[Hf,st,k]=>#[Hf,st,λcl v ps _ _ z _=>k v H Hf st (D8.refl _) z.2]
def cp7(A:At1 X u q x i j a o)(c:FoC X.K (C kd) fn)(hf:f∈fn)(h:OE X C b u q e d q')(e2:q'[j]? = Oa (a,o'))(hk:o'.k=kd)(hz:o'.l.length < 1000)(hs:swapsWith e (Oa<|.Attribute (.Name x p) f pos') pos.line X.env=pure false):
  OS X C b u q (.Assign [.Attribute (.Name x p) f pos'] e pos) (.nx u<|q'.set j (a,#[o'.k,aY6 f (.frz d) o'.l])) :=
 G0 (co2 (P4 A.n A.v A.d1 A.d2) h hs) λEn g H #[Hf,st,k]=>#[Hf,st,λv H1 Hf1 s1 e1 r=>by
  obtain⟨cl,f1,f3⟩:=s1.focus A.w e2;obtain⟨ps',p1,p2⟩:=f1.put (f:=f) (w:=.frz d) (v:=v) (p:=[]) #[rfl,r] (by simp);rw[hk]at p1;refine#[_,au9 s1 A.s,a,C kd,cl.dx,cl.fs,rfl,by rw[<- hk];exact f1.ins,c.cl,c.na f hf,by rw[f1.fl.len];exact hz,k g _ Hf1 (f3 (Chg.wr s1.same (by simp)<|f1.fr _ (by simp)) (by rw[hk];exact p1) λz hz=>.inl ?_) e1];rcases ao.mp hz with rfl|hz
  .simp
  .exact xmm _ ((p2 z hz).resolve_left (by simp))]
end
def bR3(as:La fL):Ob B->Ob B
 | some (.opq j)=>Oa<|.opq (as.getD j 0)
 | b=>b
abbrev sub(as:La fL)(y:Rho):Rho:=y.map<|bR3 as
def cA6:Ob B->Ob B
 | some (.opq _)=>Z
 | b=>b
abbrev era(y:Rho):Rho:=y.map cA6
def u6(as:La fL)(y:Rho):era (sub as y)=era y:=by
 unfold era sub;rw[bw];refine bJ λb _=>?_
 cases b with
 | none=>rfl
 | some b=>cases b<;>rfl
def bo7(as:La fL)(y:Rho):aF0 (sub as y)=aF0 y:=rfl
def okR(n:Nat)(y:Rho):Bool:=y.all λx=>match x with
 | some (.opq j)=>decide (j < n)
 | _=>true
def ao9(h:okR n y=true):aF0 y=true:=rfl
def bC2(h:okR n y=true)(l:n<=m):okR m y=true:=by
 unfold okR at h |-;rw[ay]at h |-;intro x hx;have:=h x hx;split
 .exact decide_eq_true (aG (of_decide_eq_true this) l)
 .rfl
def av4{z:Rho}{i n:Nat}{x:Ob B}(h:okR n z=true)(h2:∀j,x=Oa (.opq j)->j < n):okR n (z.set i x)=true:=by
 unfold okR at h |-;rw[ay]at h |-;intro y hy;rcases cP hy with q|rfl
 .exact h y q
 .split
  .exact decide_eq_true (h2 _ rfl)
  .rfl
def aK2{y:Rho}{i n:Nat}{d:D}(h:okR n y=true):okR n (y.set i<|[:d])=true:=av4 h (by intro _ z;cases z)
def by0(h:okR as.length y=true)(ex:La fL):sub (as++ex) y=sub as y:=by
 unfold sub;refine bJ λx hx=>?_
 have:=ay.mp h x hx;cases x with
 | none=>rfl
 | some x =>
  cases x with
  | opq j =>
   have hj:j < as.length:=of_decide_eq_true this;show Oa (B.opq _)=Oa (B.opq _);rw[bY,bY,az hj]
  | _=>rfl
def aI1(as:La fL)(y:Rho)(i:Nat)(d:D):sub as (y.set i<|[:d])=(sub as y).set i ([:d]):=by unfold sub;rw[dU];rfl
section
variable {K:PySem.W.Frag}{C:CT}{b:Bs}{y:Rho}{q:Os}{z:L2.St}{H Hf H0:Hp}
theorem Slots.era(s:Slots K H0 y z H Hf):Slots K H0 (era y) z H Hf:=by
 have at_:∀(i:Nat) (b:B),(G.era y)[i]? = Oa (Oa b)->y[i]? = Oa (Oa b):=λi b e=>by
  unfold G.era at e;rw[aH]at e;obtain⟨x,e1,e2⟩:=xmo e;rw[e1];cases x with
  | none=>cases e2
  | some x=>cases x<;>first|exact congrArg Oa e2|cases e2
 exact#[by rw[ai];exact s.len,λi b e=>s.is i b<|at_ i b e,λi j d1 d2 a h1 h2=>s.apart i j d1 d2 a (at_ i _ h1)<|at_ j _ h2]
end
abbrev Fs:=La Fo
abbrev UD:=Rho->Fs->Ob (D×Fs)
abbrev UB:=Rho->Fs->Ob (Bool×Fs)
inductive UF where
 | nx (ρ:Rho) (q:Fs)
 | rt (d:D) (q:Fs)
 | ro (j:Nat) (q:Fs)
def UF.own:UF->Bool
 | .nx y q=>okR q.length y
 | _=>true
def UF.ends(X:Cx)(C:CT)(b:Bs)(as:La fL)(Hf:Hp)(En:Ends):UF->Prop
 | .nx y q=>∀ex z H' zc,(as++ex).length=q.length->OSt X.K C b (sub (as++ex) y) ((as++ex).zip q) z H' zc->D8 Hf zc->En.nx z H'
 | .rt d q=>∀ex y z v H' zc,(as++ex).length=q.length->OSt X.K C b y ((as++ex).zip q) z H' zc->Rep X.K zc d v->En.rt v H'
 | .ro j q=>∀ex y z a H' zc,(as++ex).length=q.length->OSt X.K C b y ((as++ex).zip q) z H' zc->(as++ex)[j]? = Oa a->En.rt (.ref a) H'
def UF.mono{X:Cx}{fl:UF}(h:fl.ends X C b as Hf En)(e:D8 Hf zc):fl.ends X C b as zc En:=by
 cases fl with
 | nx y q=>exact λex z H' Hf'' l o s=>h ex z H' Hf'' l o<|e.trans s
 | rt d q=>exact h
 | ro j q=>exact h
def UF.more{X:Cx}{fl:UF}(h:fl.ends X C b as Hf En)(ex:La fL):fl.ends X C b (as++ex) Hf En:=by
 cases fl with
 | nx y q=>exact λex2 w H' zc l o s=>h (ex++ex2) w H' zc (by rw[<- au];exact l) (by rw[<- au];exact o) s
 | rt d q=>exact λex2 y w v H' zc l o=>h (ex++ex2) y w v H' zc (by rw[<- au];exact l) (by rw[<- au];exact o)
 | ro j q=>exact λex2 y w a H' zc l o z=>h (ex++ex2) y w a H' zc (by rw[<- au];exact l) (by rw[<- au];exact o) (by rw[<- au];exact z)
def UE(X:Cx)(C:CT)(e:Expr)(g:UD):Prop:=∀y q d q',g y q=Oa (d,q')->okR q.length y=true->q'.length=q.length/\∀b (as:La fL),as.length=q.length->OE X C b (sub as y) (as.zip q) e d (as.zip q')
def UT(X:Cx)(C:CT)(e:Expr)(g:UB):Prop:=∀y q c q',g y q=Oa (c,q')->okR q.length y=true->q'.length=q.length/\∀b (as:La fL),as.length=q.length->OT X C b (sub as y) (as.zip q) e c (as.zip q')
def tU(X:Cx)(C:CT)(b:Bs)(as:La fL)(y:Rho)(q:Fs)(fl:UF):TS:=λEn z H=>∃Hf,OSt X.K C b (sub as y) (as.zip q) z H Hf/\fl.ends X C b as Hf En
abbrev UX:=Rho->Fs->Ob UF
def US(X:Cx)(C:CT)(st:Stmt)(g:UX):Prop:=∀y q fl,g y q=Oa fl->okR q.length y=true->fl.own=true/\∀b (as:La fL),as.length=q.length->PS X st (tU X C b as y q fl)
def USs(X:Cx)(C:CT)(sts:La Stmt)(g:UX):Prop:=∀y q fl,g y q=Oa fl->okR q.length y=true->fl.own=true/\∀b (as:La fL),as.length=q.length->PSs X sts (tU X C b as y q fl)
section
variable {X:Cx}{C:CT}{st:Stmt}{sts:La Stmt}
def uP(f:DE):UD:=λy q=>(f<|era y).map λd=>(d,q)
def bP9(h:JE X e f):UE X C e (uP f):=λy q d q' w _=>by
 obtain⟨d',e1,e2⟩:=xmo w;cases e2;exact#[rfl,λb as _=>C8 (h (era y) d e1) λz H Q #[Hf,st,k]=>#[_,Hf,st.same,by rw[<- u6 as y];exact st.sl.era,λv H' zc g r=>k v H' zc (st.grow g) g.ext r]]
def uTP(f:Rho->Ob Bool):UB:=λy q=>(f<|era y).map λd=>(d,q)
def bf5(h:JT X e f):UT X C e (uTP f):=λy q d q' w _=>by
 obtain⟨d',e1,e2⟩:=xmo w;cases e2;exact#[rfl,λb as _=>ac2 (h (era y) d e1) λz H Q #[Hf,st,k]=>#[_,Hf,st.same,by rw[<- u6 as y];exact st.sl.era,λH' zc g=>k H' zc (st.grow g) g.ext]]
def aa6(i:Nat)(y:Rho)(q:Fs):Ob (Nat×Fo):=match y[i]? with
 | some (Oa (.opq j))=>(q[j]?).map λo=>(j,o)
 | _=>Z
def k8{as:La fL}(h:aa6 i y q=Oa (j,o))(n:aF0 y=true)(l:as.length=q.length)(hn:X.N[i]? = Oa x)(hv:Vis X.env.scope x)(h1:(x==("__debug__":Str))=false)(h2:(x==("__classdict__":Str))=false):
  ∃a,as[j]? = Oa a/\At1 X (sub as y) (as.zip q) x i j a o:=by
 unfold aa6 at h;split at h
 .rename_i j' e;obtain⟨o',e1,e2⟩:=xmo h;cases e2;have hj:j < as.length:=by rw[l];exact(am.mp e1).1
  refine#[as[j],aL hj,hn,hv,h1,h2,?_,?_,by rw[bo7];exact n]
  .unfold sub;rw[aH,e];show Oa (Oa<|B.opq (as.getD j 0))=_;rw[bY,aL hj];rfl
  .rw[cQ];exact#[aL hj,e1]
 .cases h
def r8{as:La fL}{q:Fs}{j:Nat}{o:Fo}(h:as[j]? = Oa a):as.zip (q.set j o)=(as.zip q).set j (a,o):=by
 apply dF;intro i;rw[bH];by_cases e:j=i
 .subst e;rw[if_pos rfl];by_cases hl:j < (as.zip q).length
  .rw[if_pos hl];have:j < q.length:=by simp at hl;omega
   rw[cQ];exact#[h,by rw[aD this]]
  .rw[if_neg hl];have h1:j < as.length:=(am.mp h).1;have:¬j < q.length:=λz=>hl (by simp;omega)
   rw[cF];simp;omega
 .rw[if_neg e];have:(q.set j o)[i]? = q[i]?:=ax e;rw[List.zip_eq_zipWith,List.zip_eq_zipWith,List.getElem?_zipWith,List.getElem?_zipWith,this]
def uM0(i:Nat)(kd:Bool)(m:Str)(F:DF):UD:=λy q=>(aa6 i y q).bind λp=>if p.2.k=kd/\(p.2.l.lookup m).isNone=true then(F p.2 [Z]).map λr=>(r.1,q.set p.1 r.2) else Z
def bw3(i:Nat)(M:bm3 X zb C kd m 0 F)(c:FoC X.K (C kd) fn)(hn:X.N[i]? = Oa x)(hv:Vis X.env.scope x)(h1:(x==("__debug__":Str))=false)(h2:(x==("__classdict__":Str))=false)(hl:(apos.endLine==pos.line)=true):
  UE X C (.Call (.Attribute (.Name x p) m apos) [] [] pos) (uM0 i kd m F):=λy q d q' w no=>by
 obtain⟨⟨j,o⟩,e1,w⟩:=xbo w;split at w
 .rename_i nf;obtain⟨⟨r,o'⟩,e3,e4⟩:=xmo w;cases e4;refine#[by simp,λb as l=>?_];obtain⟨a,ea,A⟩:=k8 e1 (ao9 no) l hn hv h1 h2;rw[r8 ea];exact bC3 M c A nf.1 (by simpa using nf.2) e3 hl
 .cases w
def uB2(h:D->D->Ob D)(f g:UD):UD:=λw q=>(f w q).bind λx=>(g w x.2).bind λy=>(h x.1 y.1).map λz=>(z,y.2)
def cl0(o:OpD X (eU op) h)(ha:UE X C ea f)(hb:UE X C eb g)(hm:behindInMarks op eb=false):UE X C (.Compare ea [op] [eb] pos) (uB2 h f g):=λv q d q' w no=>by
 obtain⟨⟨x,q1⟩,w1,w⟩:=xbo w;obtain⟨⟨y,q2⟩,w2,w⟩:=xbo w;obtain⟨z,w3,w4⟩:=xmo w;cases w4;obtain⟨l1,a1⟩:=ha v q x q1 w1 no;obtain⟨l2,a2⟩:=hb v q1 y q2 w2 (by rw[l1];exact no);exact#[l2.trans l1,λb as l=>cq5 o (a1 b as l) (a2 b as<|l.trans l1.symm) w3 hm]
def cU3:D->Ob Bool
 | .bool c=>Oa c
 | _=>Z
def uTB(f:UD):UB:=λy q=>(f y q).bind λx=>(cU3 x.1).map λc=>(c,x.2)
def ck0(o:OpD X (eU op) h)(ha:UE X C ea f)(hb:UE X C eb g)(hm:behindInMarks op eb=false):UT X C (.Compare ea [op] [eb] pos) (uTB<|uB2 h f g):=λv q d q' w no=>by
 obtain⟨⟨z,q2⟩,w0,w⟩:=xbo w;obtain⟨c,w4,w5⟩:=xmo w;cases w5;obtain⟨⟨x,q1⟩,w1,w0⟩:=xbo w0;obtain⟨⟨y,q2⟩,w2,w0⟩:=xbo w0;obtain⟨z,w3,w6⟩:=xmo w0;cases w6;obtain⟨l1,a1⟩:=ha v q x q1 w1 no;obtain⟨l2,a2⟩:=hb v q1 y q2 w2 (by rw[l1];exact no);have:z=.bool d:=by cases z<;>cases w4;rfl
 subst this;exact#[l2.trans l1,λb as l=>cp6 o (a1 b as l) (a2 b as<|l.trans l1.symm) w3 hm]
def cj8(ha:UE X C e f)(he:∀whole,isTrue e X.env whole=(do let v <- whole;standAt e.pos;holding [v] (truthy v))):UT X C e (uTB f):=λy q d q' w no=>by
 obtain⟨⟨z,q2⟩,w0,w⟩:=xbo w;obtain⟨c,w4,w5⟩:=xmo w;cases w5;have:z=.bool d:=by cases z<;>cases w4;rfl
 subst this;obtain⟨l1,a1⟩:=ha y q _ _ w0 no;exact#[l1,λb as l=>cp5 (a1 b as l) he]
def uOr(f g:UB):UB:=λy q=>(f y q).bind λx=>if x.1 then Oa (true,x.2) else g y x.2
def bn0(f g:UB):UB:=λy q=>(f y q).bind λx=>if x.1 then g y x.2 else Oa (false,x.2)
end
section
variable {X:Cx}{C:CT}{st:Stmt}{sts:La Stmt}
def az5{as:La fL}{q':Fs}(h:UF.ends X C b as Hf En (.nx y q'))(l:as.length=q'.length):∀z H' zc,OSt X.K C b (sub as y) (as.zip q') z H' zc->D8 Hf zc->En.nx z H':=λz H' zc s e=>h [] z H' zc (by rw[ar];exact l) (by rw[ar];exact s) e
def uEx(f:UD):UX:=λy q=>(f y q).map λx=>.nx y x.2
def bP6(h:UE X C e f)(hs:swapsWith e Z pos.line X.env=pure false):US X C (.Expr e pos) (uEx f):=λy q fl w no=>by
 obtain⟨⟨d,q1⟩,w1,w2⟩:=xmo w;cases w2;obtain⟨l1,a1⟩:=h y q d q1 w1 no;exact#[by show okR q1.length y=true;rw[l1];exact no,λb as l=>G0 (am1 (a1 b as l) hs) λEn z H #[Hf,st,k]=>#[Hf,st,λv H' zc s' e' _=>az5 k (l.trans l1.symm) z H' zc s' e']]
def bm8(i:Nat)(f:UD):UX:=λy q=>(f y q).map λx=>.nx (y.set i<|[:x.1]) x.2
def bv8(i:Nat)(hN:X.N.Nodup)(h:UE X C e f)(hi:X.N[i]? = Oa x)(hx:Loc X.env.scope x)(hs:swapsWith e (Oa<|.Name x pos') pos.line X.env=pure false)(hf:X.fn x=true\/X.env.scope.names.lookup x=Oa .local):US X C (.Assign [.Name x pos'] e pos) (bm8 i f):=λy q fl w no=>by
 obtain⟨⟨d,q1⟩,w1,w2⟩:=xmo w;cases w2;obtain⟨l1,a1⟩:=h y q d q1 w1 no;exact#[aK2 (by rw[l1];exact no),λb as l=>G0 (ao8 hN hi hx (a1 b as l) hs hf) λEn z H #[Hf,st,k]=>#[Hf,st,λv H' zc s' e' r=>az5 k (l.trans l1.symm) _ H' zc (by rw[aI1];exact s'.set r) e']]
def ab0(f:UD):UX:=λy q=>(f y q).map λx=>.rt x.1 x.2
def ck1(h:UE X C e f):US X C (.Return (Oa e) pos) (ab0 f):=λy q fl w no=>by
 obtain⟨⟨d,q1⟩,w1,w2⟩:=xmo w;cases w2;obtain⟨l1,a1⟩:=h y q d q1 w1 no;exact#[rfl,λb as l=>G0 (aY7<|a1 b as l) λEn z H #[Hf,st,k]=>#[Hf,st,λv H' zc s' e' r=>k [] _ z v H' zc (by rw[ar];exact l.trans l1.symm) (by rw[ar];exact s') r]]
def uIf(t:UB)(f g:UX):UX:=λy q=>(t y q).bind λx=>if x.1 then f y x.2 else g y x.2
def cD1{s1 s2:La Stmt}(t:UT X C e c)(h1:USs X C s1 f)(h2:USs X C s2 g):US X C (.If e s1 s2 pos) (uIf c f g):=λy q fl w no=>by
 obtain⟨⟨x,q1⟩,w1,w⟩:=xbo w;obtain⟨l1,a1⟩:=t y q x q1 w1 no;cases x with
 | true =>
  obtain⟨o1,b1⟩:=h1 y q1 fl w (by rw[l1];exact no);exact#[o1,λb as l=>G0 (bh2 (a1 b as l) (b1 b as<|l.trans l1.symm) O8) λEn z H #[Hf,st,k]=>#[Hf,st,λH' zc s' e'=>an1 #[zc,s',UF.mono (fl:=fl) k e']]]
 | false =>
  obtain⟨o1,b1⟩:=h2 y q1 fl w (by rw[l1];exact no);exact#[o1,λb as l=>G0 (bh2 (a1 b as l) O8<|b1 b as (l.trans l1.symm)) λEn z H #[Hf,st,k]=>#[Hf,st,λH' zc s' e'=>ap4 #[zc,s',UF.mono (fl:=fl) k e']]]
def aI0:UX:=λy q=>Oa<|.nx y q
def bP1:USs X C [] aI0:=λy q fl w no=>by
 cases w;exact#[no,λb as l=>X2 bh0 λEn z H #[Hf,st,k]=>az5 k l z H Hf st<|D8.refl _]
def bP0(h:US X C st g):USs X C [st] g:=λy q fl w no=>by
 obtain⟨h1,h2⟩:=h y q fl w no;exact#[h1,λb as l=>aJ7<|h2 b as l]
def N9(f g:UX):UX:=λy q=>(f y q).bind λfl=>match fl with
 | .nx ρ' q'=>g ρ' q'
 | r=>Oa r
def cn9{z:Type}{t:z->TS}(h:∀a,PSs X sts<|t a):PSs X sts (λEn y H=>∃a,t a En y H):=λza s y H D I #[a,q]=>h a za s y H D I q
def bT2{P:Prop}{t:TS}(h:P->PSs X sts t):PSs X sts (λEn y H=>P/\t En y H):=λza s y H D I #[a,q]=>h a za s y H D I q
def bv6(h1:US X C st f)(h2:USs X C sts g):USs X C (st::sts) (N9 f g):=λy q fl w no=>by
 obtain⟨fl1,w1,w⟩:=xbo w;obtain⟨o1,a1⟩:=h1 y q fl1 w1 no;cases fl1 with
 | nx ρ' q' =>
  obtain⟨o2,a2⟩:=h2 ρ' q' fl w o1;exact#[o2,λb as l=>X2 (Y2 (a1 b as l)<|cn9 λex=>bT2 λ(l2:(as++ex).length=q'.length)=>a2 b (as++ex) l2) λEn z H #[Hf,s,k]=>#[Hf,s,λex σ' H' zc l' s' e'=>#[ex,l',zc,s',UF.more (UF.mono (fl:=fl) k e') ex]]]
 | rt d q' =>
  cases w;exact#[rfl,λb as l=>X2 (Y2 (a1 b as l) O8) λEn z H #[Hf,s,k]=>#[Hf,s,k]]
 | ro j q' =>
  cases w;exact#[rfl,λb as l=>X2 (Y2 (a1 b as l) O8) λEn z H #[Hf,s,k]=>#[Hf,s,k]]
end
def V6{H:Hp}{a b:fL}{o:HO}(h:upd H a o b=Z):b≠a/\H b=Z:=by
 by_cases e:b=a
 .subst e;rw[C9]at h;cases h
 .rw[D0 e]at h;exact#[e,h]
section
variable {K:PySem.W.Frag}{C:CT}{b:Bs}{v:Rho}{os:Os}{u:L2.St}{H Hf H' zc:Hp}
def OSt.add(st:OSt K C b v os u H Hf)(g:Grow H Hf H' zc)(f:FoAt K C H' zc x c o)(fr:∀y∈cells x c,H y=Z):OSt K C b v (os++[(x,o)]) u H' zc:=by
 obtain⟨R,r1,r2,r3⟩:=st.ob;have st':=st.grow g;have r1':=r1.chg (S:=[]) (Chg.of g) (by simp);obtain⟨R',q1,q2⟩:=r1'.snoc f λy hy z=>r1.there y z<|fr y hy
 refine#[st'.gr,R',q1,λy hy=>(q2 y hy).elim (r2 y) λz=>.inr ?_,r3.chg (S:=[]) (Chg.of g) (by simp) λx h hx=>?_]
 .exact aT λw=>st.gr.kp y w<|fr y z
 .obtain⟨h1,h2⟩:=Y4 h;exact aL8 (λz=>(q2 x z).elim h1 λw=>hx<|fr x w) h2
end
def Slots.setO{K:af}{H0 H Hf:Hp}{y:Rho}{z:L2.St}{i:Nat}{a:fL}(s:Slots K H0 y z H Hf):Slots K H0 (y.set i<|Oa (.opq a)) (z.set i<|Oa (.ref a)) H Hf:=by
 have own:∀(j:Nat) (ds:La D),(y.set i<|Oa (.opq a))[j]? = Oa (Oa<|.own ds)->i≠j/\y[j]? = Oa (Oa<|.own ds):=λj ds e=>by
  rw[bH]at e;split at e
  .split at e<;>cases e
  .rename_i h;exact#[h,e]
 refine#[by simp[s.len],λj b e=>?_,λj k d1 d2 c h1 h2 h3 h4=>?_]
 .rw[bH]at e;split at e
  .rename_i h;subst h;split at e
   .rename_i hl;cases e;exact#[_,aD (by rw[<- s.len];exact hl),rfl]
   .cases e
  .rename_i h;obtain⟨v,v1,v2⟩:=s.is j b e;exact#[v,by rw[ax h];exact v1,v2]
 .obtain⟨n1,e1⟩:=own j d1 h1;obtain⟨n2,e2⟩:=own k d2 h2;rw[ax n1]at h3;rw[ax n2]at h4;exact s.apart j k d1 d2 c e1 e2 h3 h4
def bR1{as:La fL}{y:Rho}{n:Nat}(h:okR n y=true)(l:as.length=n)(a:fL)(i:Nat):sub (as++[a]) (y.set i<|Oa (.opq n))=(sub as y).set i (Oa<|.opq a):=by
 subst l;have:=by0 h [a];unfold sub at this |-;rw[dU,this]
 congr 1
 show Oa (B.opq _)=_;rw[bY,aK (ak _),cq];rfl
def bN6{as:La fL}{q:Fs}(l:as.length=q.length)(a:fL)(o:Fo):(as++[a]).zip (q++[o])=as.zip q++[(a,o)]:=by rw[List.zip_append l];rfl
def UN(X:Cx)(C:CT)(e:Expr)(g:Rho->Ob Fo):Prop:=∀z q o,g (era z)=Oa o->∀b (as:La fL),as.length=q.length->PE X e (λw H Q=>∃Hf,OSt X.K C b (sub as z) (as.zip q) w H Hf/\∀a c H' zc,Grow H Hf H' zc->FoAt X.K C H' zc a c o->(∀y∈cells a c,H y=Z)->Q (.ref a) H')
def cb5(X:Cx)(zb:Bool)(C:CT)(kd:Bool)(x:Str)(n:Nat)(F:DF):Prop:=∃k f fd ps,Ps X zb/\FnOk X.prog X.w X.K X.mg X.base (CXb X.K X.prog X.w zb) k f fd ps (spD X.K C (n+1) F)/\Room (k+1) X.A/\Mk X.K (C kd) f/\K0 X.K fd ps []/\X.mg x=Oa (.ref<|C kd)
section
variable {X:Cx}{C:CT}
def aS0(kd:Bool)(F:DF)(g:Rho->Ob (La D)):Rho->Ob Fo:=λy=>(g y).bind λds=>(F #[kd,[]] (Z::ds.map Oa)).bind λr=>match r.1 with
 | .none=>Oa r.2
 | _=>Z
def bP7{e:Expr}{es:La Expr}(M:cb5 X zb C kd x n F)(hg:Gl X x)(ha:JA X (e::es) g)(hn:(e::es).length=n)(hdb:(x==("__debug__":Str))=false)(he:eQ (e::es) X.env=(false,eval e X.env)::eQ es X.env)(hpl:(backTo pos<|eQ es X.env).any (·.1)=false):
  UN X C (.Call (.Name x p) (e::es) [] pos) (aS0 kd F g):=λj q o w b as l=>by
 obtain⟨ds,h1,w⟩:=xbo w;obtain⟨⟨r,o'⟩,h2,w⟩:=xbo w;have:r=.none/\o'=o:=by cases r<;>cases w;exact#[rfl,rfl]
 obtain⟨rfl,rfl⟩:=this;obtain⟨k,f,fd,ps,hq,Fk,hr,Mk,hb,hm⟩:=M;refine C8 (bU0 Mk Fk hr hg hm hb .nil hq (λpos za s m H Q I t=>ha.run (era j) ds h1 pos za s m H Q I t) hdb he hpl) λm H Q #[Hf,st,kk]=>#[_,Hf,st.same,by rw[<- u6 as j];exact st.sl.era,λvs H1 Hf1 g0 rp y dx y1 y2 y3=>?_]
 have g1:Grow H1 Hf1 (upd H1 dx<|.own y) Hf1:=Grow.made g0.sub y2;have g2:Grow (upd H1 dx<|.own y) Hf1 (upd (upd H1 dx<|.own y) y<|.ins (C kd) dx []) Hf1:=Grow.made g1.sub (by rw[D0 y3.symm];exact y1);have g:=g1.trans g2;have fr1:=g0.sub.free y1;refine#[by rw[ar,ag,rp.length,ha.len _ ds h1,hn],y,Hf1,#[dx,[],[]],#[kd,[]],Z::ds.map Oa,.none,o',g.sub,#[C9,#[rfl,rfl],λz hz=>by rw[aB.mp hz];exact fr1],#[_,_,rfl,rfl,by rw[ar];exact aZ4 rp],h2,λv H' zc c' ch fo cl rv=>?_];cases rv;have hy:H y=Z:=g0.big.free y1;refine#[rfl,kk y c' H' zc #[λz u e=>?_,ch.sub,g0.ext.trans ch.ext,λz hz=>?_] fo λz hz=>?_]
 .have e1:=g0.big z u e;exact ch.big z u (by simp;exact D9 e hy)<|g.big z u e1
 .rcases ch.new z hz with w|w
  .exact g0.new z w
  .exact .inr (g0.big.free (V6 (V6 w).2).2)
 .rcases cl z hz with w|w
  .rw[aB.mp w];exact hy
  .exact g0.big.free (V6 (V6 w).2).2
def bw1(M:cb5 X zb C kd x 0 F)(hg:Gl X x)(hdb:(x==("__debug__":Str))=false):UN X C (.Call (.Name x p) [] [] pos) (aS0 kd F A8):=λj q o w b as l=>by
 obtain⟨ds,h1,w⟩:=xbo w;cases h1;obtain⟨⟨r,o'⟩,h2,w⟩:=xbo w;have:r=.none/\o'=o:=by cases r<;>cases w;exact#[rfl,rfl]
 obtain⟨rfl,rfl⟩:=this;obtain⟨k,f,fd,ps,hq,Fk,hr,Mk,hb,hm⟩:=M;refine C8 (bB5 Mk Fk hr hg hm hb .nil hq hdb) λm H Q #[Hf,st,kk]=>λy dx y1 y2 y3=>?_
 have g1:Grow H Hf (upd H dx<|.own y) Hf:=Grow.made st.same y2;have g2:Grow (upd H dx<|.own y) Hf (upd (upd H dx<|.own y) y<|.ins (C kd) dx []) Hf:=Grow.made g1.sub (by rw[D0 y3.symm];exact y1);have g:=g1.trans g2;have fr1:=st.same.free y1;refine#[rfl,y,Hf,#[dx,[],[]],#[kd,[]],[Z],.none,o',g.sub,#[C9,#[rfl,rfl],λz hz=>by rw[aB.mp hz];exact fr1],#[_,_,rfl,rfl,rfl],h2,λv H' zc c' ch fo cl rv=>?_];cases rv;refine#[rfl,kk y c' H' zc #[λz u e=>ch.big z u (by simp;exact D9 e y1)<|g.big z u e,ch.sub,ch.ext,λz hz=>?_] fo λz hz=>?_]
 .rcases ch.new z hz with w|w
  .exact .inl w
  .exact .inr (V6 (V6 w).2).2
 .rcases cl z hz with w|w
  .rw[aB.mp w];exact y1
  .exact(V6 (V6 w).2).2
def bw6(i:Nat)(g:Rho->Ob Fo):UX:=λy q=>(g<|era y).map λo=>.nx (y.set i<|Oa (.opq q.length))<|q++[o]
def bV0{y:Rho}{q:Fs}(h:okR q.length y=true)(i:Nat)(o:Fo):okR (q++[o]).length (y.set i<|Oa (.opq q.length))=true:=av4 (bC2 h<|by simp) (by intro j z;cases z;simp)
def ck2(i:Nat)(hN:X.N.Nodup)(h:UN X C e g)(hi:X.N[i]? = Oa x)(hx:Loc X.env.scope x)(hs:swapsWith e (Oa<|.Name x pos') pos.line X.env=pure false)(hf:X.fn x=true\/X.env.scope.names.lookup x=Oa .local):US X C (.Assign [.Name x pos'] e pos) (bw6 i g):=λy q fl w no=>by
 obtain⟨o,w1,w2⟩:=xmo w;cases w2;refine#[bV0 no i o,λb as l=>G0 (ao8 hN hi hx (h y q o w1 b as l) hs hf) λEn z H #[Hf,st,k]=>#[Hf,st,λa c H' zc g fo fr=>?_]];have st2:=st.add g fo fr;exact k [a] _ H' zc (by simp[l]) (by rw[bR1 no l,bN6 l];exact st2.slots st2.sl.setO) g.ext
end
def bS0(g:UX)(n:Nat):La D->Ob D:=λds=>(g (T7 n ds) []).bind λfl=>match fl with
 | .rt d _=>Oa d
 | .nx _ _=>Oa .none
 | _=>Z
def bn3(n m:Nat)(ds:La D):okR m (T7 n ds)=true:=by
 unfold okR T7;rw[ay];intro x hx;rcases aE.mp hx with h|h
 .obtain⟨d,_,rfl⟩:=aV.mp h;rfl
 .rw[(dD.mp h).2]
def aX7(n:Nat)(ds:La D):sub [] (T7 n ds)=T7 n ds:=by
 unfold sub T7;rw[aO,bw,List.map_replicate];rfl
section
variable {P:Program}{w:World}{K:PySem.W.Frag}{mg:Str->Ob Value}{base:Heap}{x qual:Str}{st:Stmt}{f:Addr}{fd:FuncData}{N ps:La Str}{k:Nat}{g:UX}{C:CT}
def bR6{H Hf:Hp}{ds:La D}{vs:La V}(ss:D8 Hf H)(rp:Reps K Hf ds vs):OSt K C #[[],H,Hf] (sub []<|T7 N.length ds) (([]:La fL).zip ([]:Fs)) (start N vs) H Hf :=
 #[Chg.of<|Grow.refl ss,[],.nil,by simp,by rw[aX7];exact ar3 rp]
def bK4(F:Fun K x qual st f fd)(S:FnScope N ps (B8 st))
  (hb:∀(cdv:fJ) (A:eY) (outer:La Env) (s:fK) (H:Hp) (E:XK),Room k (A.deeper<|envOfC qual (B8 st) s.heap.objs.size f cdv)->USs (cxY bz P w K mg base N qual (B8 st) f cdv A outer s H E) C (G8 st) g) :
  FnOk P w K mg base (CXb K P w bz) (k+1) f fd ps (spF K ps.length<|bS0 g N.length):=by
 refine av8 F S (λvs H Q E h=>h.1) λcdv A outer s H vs Q E hr hsp=>?_
 obtain⟨hlen,Hf,ds,d,ss,rp,e,kk⟩:=hsp;obtain⟨fl,e1,e2⟩:=xbo e;obtain⟨_,h⟩:=hb cdv A outer s H E hr _ [] fl e1 (bn3 _ _ _);refine#[_,h #[[],H,Hf] [] rfl,Hf,bR6 ss rp,?_];cases fl with
 | rt d' q=>cases e2;exact λex y z v H' zc l s' r=>kk v H' zc s'.gr.grow r
 | nx y q=>cases e2;exact λex σ' H' zc l s' _=>kk _ H' zc s'.gr.grow rfl
 | ro j q=>cases e2
end
section
variable {K:PySem.W.Frag}{C:CT}{b:Bs}{m:Rho}{os:La (Addr×Fo)}{l:L2.St}{H Hf H' zc H0:Hp}
def Slots.app{i:Nat}{p:fL}{ds:La D}{vs:La V}{d:D}{w:V}(s:Slots K H0 m l H Hf)(eo:m[i]? = Oa (Oa<|.own ds))(h1:l[i]? = Oa (Oa<|.ref p))(h2:H p=Oa (.lst vs))(h3:Hf p=Z)(h4:H0 p=Z)(h5:Reps K Hf ds vs)(r:Rep K Hf d w):
  Slots K H0 (m.set i<|Oa (.own<|ds++[d])) l (upd H p<|.lst (vs++[w])) Hf:=by
 refine#[by simpa using s.len,λj bb z=>?_,λj k ds1 es c q1 q2 q3 q4=>?_]
 .by_cases qj:i=j
  .subst qj;have hi:i < m.length:=(am.mp eo).1;rw[aD hi]at z;cases z;exact#[_,h1,p,vs++[w],rfl,C9,h3,h4,h5.append #[w,[],rfl,r,rfl]]
  .rw[ax qj]at z;obtain⟨u,z1,z2⟩:=s.is j bb z;refine#[u,z1,?_];cases bb with
   | val d=>exact z2
   | exc C=>exact z2
   | opq _=>exact z2
   | own dd =>
    obtain⟨a',vs',y1,y2,y3,y4,y5⟩:=z2
    have ne:a'≠p:=λzz=>by
     subst zz y1;exact qj<|s.apart i j ds dd a' eo z h1 z1
    exact#[a',vs',y1,by rw[D0 ne];exact y2,y3,y4,y5]
 .have old:∀n:Nat,(∃dd:La D,(m.set i<|Oa (B.own<|ds++[d]))[n]? = Oa (Oa<|B.own dd))->∃dd:La D,m[n]? = Oa (Oa<|B.own dd):=λn #[dd,z]=>by
   by_cases qj:i=n
   .subst qj;exact#[ds,eo]
   .rw[ax qj]at z;exact#[_,z]
  obtain⟨d1,q1'⟩:=old j #[_,q1];obtain⟨d2,q2'⟩:=old k #[_,q2];exact s.apart j k d1 d2 c q1' q2' q3 q4
theorem OSt.app{i:Nat}{ds:La D}(s:OSt K C b m os l H Hf)(eo:m[i]? = Oa (Oa<|.own ds)):∃p vs,l[i]? = Oa (Oa<|.ref p)/\H p=Oa (.lst vs)/\Reps K Hf ds vs/\∀w d,Rep K Hf d w->OSt K C b (m.set i<|Oa (.own<|ds++[d])) os l (upd H p<|.lst (vs++[w])) Hf:=by
 obtain⟨R,r1,r2,r3⟩:=s.ob;obtain⟨v,h1,p,vs,rfl,h2,h3,h4,h5⟩:=r3.is i _ eo;refine#[p,vs,h1,h2,h5,λw d r=>?_];obtain⟨n1,n2⟩:=Y4 h4;have g:Chg [p] H Hf (upd H p<|.lst (vs++[w])) Hf:=Chg.wr s.same (by simp) h3;exact#[s.gr.trans g λx hx=>.inr (by rw[aB.mp hx];exact n2),R,r1.chg g λx hx z=>n1 (by rw[<- aB.mp z];exact hx),r2,r3.app eo h1 h2 h3 h4 h5 r]
def FoAt.frz(h:FoAt K C H Hf a c o)(e:D8 Hf zc)(n:∀x∈cells a c,zc x≠Z->Hf x≠Z):FoAt K C H zc a c o :=
 #[h.ins,h.fl.keep e λ_ _=>rfl,λx hx=>aT λz=>n x hx z<|h.fr x hx]
theorem Objs.frz(h:Objs K C H Hf os R)(e:D8 Hf zc)(n:∀x∈R,zc x≠Z->Hf x≠Z):Objs K C H zc os R:=by
 induction h with
 | nil=>exact .nil
 | cons f d t ih=>exact .cons (f.frz e λx hx=>n x (aS _ hx)) d<|ih λx hx=>n x<|aw _ hx
theorem OSt.frz(s:OSt K C b m os l H Hf)(i:Nat):∃zc,D8 Hf zc/\OSt K C b (frz i m) os l H zc:=by
 obtain⟨R,r1,r2,r3⟩:=s.ob
 let H1:Hp:=λx=>if(hid b R x).isNone then Z else H x
 have h1:∀x,hid b R x=Z->H1 x=Z:=λx h=>by show(if _ then _ else _)=_;rw[h];rfl
 have h2:∀x,H1 x=Z->H x≠Z->hid b R x=Z:=λx h hx=>by
  cases q:hid b R x with
  | none=>rfl
  | some y=>exact(hx (by rw[<- h];show _=(if _ then _ else _);rw[q];rfl)).elim
 have g1:Grow H1 Hf H Hf:=#[λx o e=>by
  cases q:hid b R x with
  | none=>rw[h1 x q]at e;cases e
  | some y=>rw[<- e];show _=(if _ then _ else _);rw[q];rfl,s.same,D8.refl _,λ_ h=>.inl h]
 obtain⟨zc,e,a⟩:=bK2 i (#[g1,r3.chg (S:=[]) (Chg.of<|Grow.refl s.same) (by simp) λx h _=>h1 x h]:At K H1 Hf m l H Hf);have nR:∀x∈R,zc x≠Z->Hf x≠Z:=λx hx z=>(a.gr.new x z).elim id λy=>((Y4<|h2 x y (r1.there x hx)).1 hx).elim
 refine#[zc,e,#[s.gr.big,s.gr.kp,a.gr.sub,s.gr.ext.trans e,λx z=>(a.gr.new x z).elim (s.gr.new x) λy=>.inr ?_],R,r1.frz e nR,r2,a.sl.chg (S:=[]) (Chg.of<|Grow.refl a.gr.sub) (by simp) h2];by_cases hx:H x=Z
 .exact aT λw=>s.gr.kp x w hx
 .exact(Y4<|h2 x y hx).2
end
def bf8(as:La fL)(y:Rho)(i:Nat)(ds:La D):sub as (y.set i<|Oa (.own ds))=(sub as y).set i (Oa<|.own ds):=by unfold sub;rw[dU];rfl
def bR2(as:La fL)(y:Rho)(i:Nat):sub as (frz i y)=frz i (sub as y):=by
 have e:∀ds,(sub as y)[i]? = Oa (Oa<|B.own ds)↔y[i]? = Oa (Oa<|.own ds):=λds=>by
  unfold sub;rw[aH];cases q:y[i]? with
  | none=>simp
  | some x =>
   cases x with
   | none=>simp[bR3]
   | some x=>cases x<;>simp[bR3]
 unfold frz;split
 .rename_i ds h;rw[(e ds).mpr h,aI1]
 .rename_i h;split
  .rename_i ds h2;exact(h ds<|(e ds).mp h2).elim
  .rfl
def bV1{y:Rho}{n i:Nat}(h:okR n y=true):okR n (frz i y)=true:=by
 unfold frz;split
 .exact aK2 h
 .exact h
section
variable {X:Cx}{C:CT}{st:Stmt}{sts:La Stmt}
abbrev UL:=Rho->Fs->Ob (La D×Fs)
def UAs(X:Cx)(C:CT)(es:La Expr)(g:UL):Prop:=∀y q ds q',g y q=Oa (ds,q')->okR q.length y=true->q'.length=q.length/\ds.length=es.length/\∀b (as:La fL),as.length=q.length ->
 PA X es (λz H Q=>∃Hf,OSt X.K C b (sub as y) (as.zip q) z H Hf/\∀vs H' zc,OSt X.K C b (sub as y) (as.zip q') z H' zc->D8 Hf zc->Reps X.K zc ds vs->Q vs H')
def ulN:UL:=λ_ q=>Oa ([],q)
def ulC(f:UD)(g:UL):UL:=λz q=>(f z q).bind λx=>(g z x.2).map λy=>(x.1::y.1,y.2)
def ck6:UAs X C [] ulN:=λy q ds q' w _=>by
 cases w;exact#[rfl,rfl,λb as l pos za s z H Q I #[Hf,st,k]=>G6 pos za s z H Q I<|k [] H Hf st (D8.refl _) rfl]
def bP8(h:UE X C e f)(r:UAs X C es g)(hs:eQ (e::es) X.env=(false,eval e X.env)::eQ es X.env):UAs X C (e::es) (ulC f g):=λz q ds q' w no=>by
 obtain⟨⟨x,q1⟩,w1,w⟩:=xbo w;obtain⟨⟨y,q2⟩,w2,w3⟩:=xmo w;cases w3;obtain⟨l1,a1⟩:=h z q x q1 w1 no;obtain⟨l2,n2,a2⟩:=r z q1 y q2 w2 (by rw[l1];exact no);refine#[l2.trans l1,by simp[n2],λb as l pos za s p H Q I u=>?_];obtain⟨Hf,st,k⟩:=u;exact E6 (a1 b as l) (a2 b as<|l.trans l1.symm) hs pos za s p H Q I #[Hf,st,λv H1 Hf1 s1 e1 r1=>#[Hf1,s1,λvs H2 Hf2 s2 e2 r2=>k (v::vs) H2 Hf2 s2 (e1.trans e2) #[v,vs,rfl,r1.mono e2,r2]]]
def ag0(f:UL):UD:=λy q=>(f y q).map λx=>(.tuple x.1,x.2)
def ck7(h:UAs X C es f)(hn:es.length<=1000):UE X C (.Tuple es k pos) (ag0 f):=λy q d q' w no=>by
 obtain⟨⟨ds,q1⟩,w1,w2⟩:=xmo w;cases w2;obtain⟨l1,n1,a1⟩:=h y q ds q1 w1 no;refine#[l1,λb as l=>C8 (bB2<|a1 b as l) λz H Q #[Hf,st,k]=>#[Hf,st,λvs H1 Hf1 s1 e1 r=>#[?_,λp hp=>?_]]]
 .rw[r.length,n1];exact cn<|ae1 hn
 .have g:=Grow.laid (o:=.tup vs) s1.same hp;exact k _ _ _ (s1.grow g) (e1.trans g.ext) #[p,vs,rfl,SqT.of C9,r.mono g.ext]
def cP5(i:Nat)(f:UL):UX:=λy q=>(f y q).map λx=>.nx (y.set i<|Oa (.own x.1)) x.2
def aO7(i:Nat)(f:UD):UX:=λy q=>match y[i]? with
 | some (Oa (.own ds))=>if ds.length < 16777216 then(f y q).map λx=>.nx (y.set i<|Oa (.own<|ds++[x.1])) x.2 else Z
 | _=>Z
def ck4(i:Nat)(h:UE X C e f)(hN:X.N[i]? = Oa x)(hv:Vis X.env.scope x)(hd:(x==("__debug__":Str))=false)(hcd:(x==("__classdict__":Str))=false)
  (hfew:((backTo cpos (eQ [e] X.env)).all (λx=>!x.1)&&(backToKw cpos (keywordEach [] X.env)).all (λx=>x.1.isSome)
   && decide (([e]:La Expr).length+([]:La fh).length+(if([]:La fh).isEmpty then 0 else 1) < 30))=true)
  (hline:(apos.endLine==cpos.line)=true) (hs:eQ [e] X.env=[(false,eval e X.env)]) (hsw:swapsWith (.Call (.Attribute (.Name x p) "append" apos) [e] [] cpos) Z pos.line X.env=pure false) (hbase:fq (.Name x p) "append" X.env (eval (.Name x p) X.env)=eval (.Name x p) X.env:=by rfl) :
  US X C (.Expr (.Call (.Attribute (.Name x p) "append" apos) [e] [] cpos) pos) (aO7 i f):=λu q fl w no=>by
 unfold aO7 at w;split at w
 .rename_i ds eo;split at w
  .rename_i hz;obtain⟨⟨d,q1⟩,w1,w2⟩:=xmo w;cases w2;obtain⟨l1,a1⟩:=h u q d q1 w1 no;refine#[av4 (by rw[l1];exact no) (by intro _ z;cases z),λb as l=>?_];have eo':(sub as u)[i]? = Oa (Oa<|.own ds):=by unfold sub;rw[aH,eo];rfl
   refine G0 (am1 (ax8 PySem.F.plainAttrs_list PySem.F.slot_list_append PySem.F.type_list_append ap2 (P4 hN hv hd hcd) (E6 (a1 b as l) G6 hs) hbase hfew hline hs) hsw) λEn r H y=>?_
   obtain⟨Hf,st,k⟩:=y;obtain⟨p0,vs0,g1,g2,_,_⟩:=st.app eo';refine#[_,g1,.inl #[rfl,vs0,SqL.of g2],Hf,st,λv H1 Hf1 s1 e1 r1=>?_];obtain⟨p1,vs1,g3,g4,g5,g6⟩:=s1.app eo';rw[g1]at g3;cases g3;refine#[p0,vs1,v,rfl,rfl,g4,by rw[g5.length,eT];exact hz,az5 k (l.trans l1.symm) _ _ Hf1 (by rw[bf8];exact g6 v d r1) e1]
  .cases w
 .cases w
def cD4(i:Nat)(g:UX):UX:=λy q=>g (frz i y) q
def ck3(i:Nat)(h:US X C st g):US X C st (cD4 i g):=λz q fl w no=>by
 obtain⟨o1,a1⟩:=h (frz i z) q fl w (bV1 no);refine#[o1,λb as l=>G0 (a1 b as l) λEn v H y=>?_];obtain⟨Hf,st,k⟩:=y;obtain⟨zc,e,s'⟩:=st.frz i;exact#[zc,by rw[bR2];exact s',UF.mono (fl:=fl) k e]
end
def cB8(X:Cx)(zb:Bool)(C:CT)(x:Str)(F:DF)(n:Nat):Prop:=∃k f fd ps,Ps X zb/\FnOk X.prog X.w X.K X.mg X.base (CXb X.K X.prog X.w zb) k f fd ps (spD X.K C n F)/\Room k X.A/\X.mg x=Oa (.ref f)/\aN X.K (.ref f)=true/\K0 X.K fd ps []
section
variable {X:Cx}{C:CT}{K:PySem.W.Frag}{Hf zc:Hp}{a:Addr}
theorem Mxs.length:∀{ms:MD}{vs:La V},Mxs K Hf a ms vs->vs.length=ms.length
 | [],_,h=>by cases h;rfl
 | m::ms,_,#[v,r,e,h1,h2]=>by subst e;simp[h2.length]
theorem Mxs.get:∀{ms:MD}{vs:La V},Mxs K Hf a ms vs->∀{i:Nat}{m:Ob D},ms[i]? = Oa m->∃v,vs[i]? = Oa v/\MxV K Hf a m v
 | [],_,h,i,m,e=>by simp at e
 | m::ms,_,#[v,r,e,h1,h2],i,m',e'=>by
  subst e;cases i with
  | zero=>simp at e';subst e';exact#[v,rfl,h1]
  | succ i=>exact h2.get (i:=i) (by simpa using e')
structure JM (X:Cx) (i:Nat) (es:List Expr) (g:Rho->Option MD):Prop where
 len:∀ρ ms,g ρ=Oa ms->ms.length=es.length
 run:∀ρ ms,g ρ=Oa ms->∀a ρ',ρ'[i]? = Oa (Oa<|.opq a)->(∀{H0 H Hf:Hp}{σ:L2.St},Slots X.K H0 ρ' σ H Hf->Slots X.K H0 ρ σ H Hf) ->
  PA X es (λσ H Q=>∃H0 Hf,D8 Hf H/\Slots X.K H0 ρ' σ H Hf/\∀vs H' zc,Grow H Hf H' zc->Mxs X.K zc a ms vs->Q vs H')
def mN:Rho->Ob MD:=λ_=>Oa []
def mC(f:DE)(g:Rho->Ob MD):Rho->Ob MD:=λy=>(f y).bind λd=>(g y).map λms=>Oa d::ms
def mO(g:Rho->Ob MD):Rho->Ob MD:=λy=>(g y).map λms=>Z::ms
def cw8:JM X i [] mN:=#[λy ms h=>by cases h;rfl,λy ms h a ρ' _ _ pos za s z H Q I #[H0,Hf,ss,sl,k]=>by
 cases h
 exact G6 pos za s z H Q I (k [] H Hf (Grow.refl ss) rfl)]
def bj6(h:JE X e f)(r:JM X i es g)(hs:eQ (e::es) X.env=(false,eval e X.env)::eQ es X.env):JM X i (e::es) (mC f g):=by
 refine#[λy ms q=>?_,λy ms q a ρ' sa sb=>?_]
 .obtain⟨d,h1,h2⟩:=xbo q;obtain⟨es',h3,h4⟩:=xmo h2;subst h4;simp[r.len y es' h3]
 .obtain⟨d,h1,h2⟩:=xbo q;obtain⟨es',h3,h4⟩:=xmo h2;subst h4
  rintro pos za s z H Q I ⟨H0,Hf,ss,sl,k⟩
  refine E6 (h y d h1) (r.run y es' h3 a ρ' sa sb) hs pos za s z H Q I #[H0,Hf,ss,sb sl,λv H1 Hf1 g1 r1=>#[H0,Hf1,g1.sub,sl.grow g1,λvs H2 Hf2 g2 r2=>?_]];exact k (v::vs) H2 Hf2 (g1.trans g2) #[v,vs,rfl,Rep.mono g2.ext r1,r2]
def cw7(r:JM X i es g)(hn:X.N[i]? = Oa x)(hv:Vis X.env.scope x)(h1:(x==("__debug__":Str))=false)(h2:(x==("__classdict__":Str))=false)(hs:eQ (.Name x p::es) X.env=(false,eval (.Name x p) X.env)::eQ es X.env):JM X i (.Name x p::es) (mO g):=by
 refine#[λy ms q=>?_,λy ms q a ρ' sa sb=>?_]
 .obtain⟨es',h3,h4⟩:=xmo q;subst h4;simp[r.len y es' h3]
 .obtain⟨es',h3,h4⟩:=xmo q;subst h4
  rintro pos za s z H Q I ⟨H0,Hf,ss,sl,k⟩
  obtain⟨v,w1,w2⟩:=sl.is i _ sa;cases w2;exact E6 (P4 hn hv h1 h2) (r.run y es' h3 a ρ' sa sb) hs pos za s z H Q I #[_,w1,H0,Hf,ss,sl,λvs H2 Hf2 g2 r2=>k (.ref a::vs) H2 Hf2 g2 #[_,vs,rfl,rfl,r2]]
def uD(i:Nat)(F:DF)(g:Rho->Ob MD):UD:=λy q=>(aa6 i y q).bind λp=>(g<|era y).bind λms=>(F p.2 ms).map λr=>(r.1,q.set p.1 r.2)
def cD3{e:Expr}{es:La Expr}(i:Nat)(N:cB8 X zb C y F n)(hg:Gl X y)(hdb:(y==("__debug__":Str))=false)(hn:X.N[i]? = Oa x)(hv:Vis X.env.scope x)(h1:(x==("__debug__":Str))=false)(h2:(x==("__classdict__":Str))=false)(ha:JM X i (e::es) g)(hz:(e::es).length=n)
  (he:eQ (e::es) X.env=(false,eval e X.env)::eQ es X.env) (hpl:(backTo pos<|eQ es X.env).any (·.1)=false):UE X C (.Call (.Name y p) (e::es) [] pos) (uD i F g):=λm q d q' w no=>by
 obtain⟨⟨j,o⟩,w1,w⟩:=xbo w;obtain⟨ms,w2,w⟩:=xbo w;obtain⟨⟨r,o'⟩,w3,w4⟩:=xmo w;cases w4;refine#[by simp,λb as l=>?_];obtain⟨a,ea,A⟩:=k8 w1 (ao9 no) l hn hv h1 h2;rw[r8 ea];obtain⟨k,f,fd,ps,hq,Fk,hr,hm,hk,hb⟩:=N;refine C8 (am3 Fk hr hg hm hk hb .nil hq (ha.run (era m) ms w2 a (sub as m) A.s λs=>by rw[<- u6 as m];exact s.era) hdb he hpl) λW H Q u=>?_
 obtain⟨Hf,st,kk⟩:=u;obtain⟨c,f1,f3⟩:=st.focus A.w A.o;refine#[_,Hf,st.same,st.sl,λvs H1 Hf1 g1 r1=>#[?_,a,Hf1,c,o,ms,r,o',g1.sub,f1.grow g1,by rw[ar];exact r1,w3,λv H2 Hf2 c' g2 f2 n2 rv=>kk v H2 Hf2 (f3 ((Chg.of g1).trans g2 λ_ h=>.inl h) f2 λy hy=>(n2 y hy).imp id λz=>aT λw=>(Chg.of (S:=[]) g1).kp y w z) (g1.ext.trans g2.ext) rv]];rw[ar,r1.length,ha.len _ ms w2,hz]
end
def cO1:Ob D->Ob B
 | some d=>[:d]
 | none=>Oa<|.opq 0
def V5(n:Nat)(ms:MD):Rho:=ms.map cO1++av (n - ms.length) Z
def S6(g:UX)(n:Nat):DF:=λo ms=>(g (V5 n ms) [o]).bind λfl=>match fl with
 | .rt d q=>(q[0]?).map λo'=>(d,o')
 | .nx _ q=>(q[0]?).map λo'=>(.none,o')
 | _=>Z
def aX6(n:Nat)(ms:MD):okR 1 (V5 n ms)=true:=by
 unfold okR V5;rw[ay];intro x hx;rcases aE.mp hx with h|h
 .obtain⟨d,_,rfl⟩:=aV.mp h;cases d<;>rfl
 .rw[(dD.mp h).2]
def aC3{K:af}{H0 H Hf:Hp}{N:La Str}{ms:MD}{vs:La V}(r:Mxs K Hf a ms vs):Slots K H0 (sub [a]<|V5 N.length ms) (L2.start N vs) H Hf:=by
 have hl:=r.length
 have noown:∀(i:Nat) (b:B),(sub [a]<|V5 N.length ms)[i]? = Oa (Oa b)->∃m,ms[i]? = Oa m/\Oa b=bR3 [a] (cO1 m):=λi b h=>by
  unfold V5 sub at h;rw[aO]at h;rcases bP i ms.length with q|q
  .rw[az (by simpa using q),aH,aH]at h;rw[aL q]at h |-;simp only[xms,bg.injEq]at h;exact#[ms[i],rfl,h.symm]
  .rw[aK (by simpa using q),aH,bh]at h;split at h<;>cases h
 refine#[by simp[V5,L2.start,hl],λi b e=>?_,λi j d1 d2 a e1 _ _ _=>?_]
 .obtain⟨m,h1,h2⟩:=noown i b e;obtain⟨v,h3,h4⟩:=r.get h1;have hi:i < vs.length:=(am.mp h3).1;refine#[v,?_,?_]
  .unfold L2.start;rw[az (by simpa using hi),aH,h3];rfl
  .cases m with
   | none=>cases h2;exact h4
   | some d=>cases h2;exact h4
 .obtain⟨m,_,h2⟩:=noown i _ e1;cases m<;>cases h2
section
variable {P:Program}{w:World}{K:PySem.W.Frag}{mg:Str->Ob Value}{base:Heap}{x qual:Str}{st:Stmt}{f:Addr}{fd:FuncData}{N ps:La Str}{k:Nat}{g:UX}{C:CT}
def bK5(F:Fun K x qual st f fd)(S:FnScope N ps (B8 st))
  (hb:∀(cdv:fJ) (A:eY) (outer:La Env) (s:fK) (H:Hp) (E:XK),Room k (A.deeper<|envOfC qual (B8 st) s.heap.objs.size f cdv)->USs (cxY bz P w K mg base N qual (B8 st) f cdv A outer s H E) C (G8 st) g) :
  FnOk P w K mg base (CXb K P w bz) (k+1) f fd ps (spD K C ps.length<|S6 g N.length):=by
 refine av8 F S (λvs H Q E h=>h.1) ?_
 rintro cdv A outer s H vs Q E hr ⟨hlen,a,Hf,c,o,ms,r,o',ss,fo,rp,e,kk⟩
 obtain⟨fl,e1,e2⟩:=xbo e;obtain⟨_,h⟩:=hb cdv A outer s H E hr _ [o] fl e1<|aX6 _ _
 have fin:∀ex q ρ' σ' v H' zc,q[0]? = Oa o'->OSt K C #[cells a c,H,Hf] ρ' (([a]++ex).zip q) σ' H' zc->Rep K zc r v->Q v H':=λex q ρ' σ' v H' zc hq s' rv=>by
  obtain⟨R,r1,r2,_⟩:=s'.ob;obtain⟨c',f1,f2,_⟩:=r1.focus (j:=0) (a:=a) (o:=o') (cQ.mpr #[rfl,hq]);exact kk v H' zc c' s'.gr f1 (λx hx=>r2 x<|f2 x hx) rv
 refine#[_,h #[cells a c,H,Hf] [a] rfl,Hf,#[Chg.of<|Grow.refl ss,cells a c++[],.cons fo (by simp) .nil,λx hx=>.inl (by simpa using hx),aC3 rp],?_];cases fl with
 | rt d' q =>
  obtain⟨o1,e3,e4⟩:=xmo e2;cases e4;exact λex y z v H' zc l s' r=>fin ex q y z v H' zc e3 s' r
 | nx y q =>
  obtain⟨o1,e3,e4⟩:=xmo e2;cases e4;exact λex σ' H' zc l s' _=>fin ex q _ σ' _ H' zc e3 s' rfl
 | ro j q=>cases e2
end
section
variable {X:Cx}{C:CT}
def UW(X:Cx)(C:CT)(op:BoolOp)(es:La Expr)(g:UB):Prop:=∀y q c q',g y q=Oa (c,q')->okR q.length y=true->q'.length=q.length/\∀b (as:La fL),as.length=q.length->∀pos,
 PW X (.BoolOp op es pos) (λz H Q=>∃Hf,OSt X.K C b (sub as y) (as.zip q) z H Hf/\∀H' zc,OSt X.K C b (sub as y) (as.zip q') z H' zc->D8 Hf zc->Q c H')
def bO9(h:UT X C e f):UW X C .And [e] f:=λy q c q' w no=>by
 obtain⟨l1,a1⟩:=h y q c q' w no;exact#[l1,λb as l pos=>bg8<|a1 b as l]
def cj6(h:UT X C e f):UW X C .Or [e] f:=λy q c q' w no=>by
 obtain⟨l1,a1⟩:=h y q c q' w no;exact#[l1,λb as l pos=>bA4<|a1 b as l]
def cj7(h:UT X C e f)(r:UW X C .And (eb::es) g):UW X C .And (e::eb::es) (bn0 f g):=λy q c q' w no=>by
 obtain⟨⟨x,q1⟩,w1,w⟩:=xbo w;obtain⟨l1,a1⟩:=h y q x q1 w1 no;cases x with
 | true =>
  obtain⟨l2,a2⟩:=r y q1 c q' w (by rw[l1];exact no);exact#[l2.trans l1,λb as l pos=>ac1 (aJ6 (a1 b as l)<|a2 b as (l.trans l1.symm) pos) λz H Q #[Hf,st,k]=>#[Hf,st,λH1 Hf1 s1 e1=>an1 #[Hf1,s1,λH2 Hf2 s2 e2=>k H2 Hf2 s2<|e1.trans e2]]]
 | false =>
  cases w;exact#[l1,λb as l pos=>ac1 (aJ6 (tB':=λ_ _ _=>False) (a1 b as l) λ_ _ _ _ _ _ _ h=>h.elim) λz H Q #[Hf,st,k]=>#[Hf,st,λH1 Hf1 s1 e1=>ap4<|k H1 Hf1 s1 e1]]
def cD0(h:UT X C e f)(r:UW X C .Or (eb::es) g):UW X C .Or (e::eb::es) (uOr f g):=λy q c q' w no=>by
 obtain⟨⟨x,q1⟩,w1,w⟩:=xbo w;obtain⟨l1,a1⟩:=h y q x q1 w1 no;cases x with
 | false =>
  obtain⟨l2,a2⟩:=r y q1 c q' w (by rw[l1];exact no);exact#[l2.trans l1,λb as l pos=>ac1 (bg7 (a1 b as l)<|a2 b as (l.trans l1.symm) pos) λz H Q #[Hf,st,k]=>#[Hf,st,λH1 Hf1 s1 e1=>ap4 #[Hf1,s1,λH2 Hf2 s2 e2=>k H2 Hf2 s2<|e1.trans e2]]]
 | true =>
  cases w;exact#[l1,λb as l pos=>ac1 (bg7 (tB':=λ_ _ _=>False) (a1 b as l) λ_ _ _ _ _ _ _ h=>h.elim) λz H Q #[Hf,st,k]=>#[Hf,st,λH1 Hf1 s1 e1=>an1<|k H1 Hf1 s1 e1]]
def UW.ut(h:UW X C op es g):UT X C (.BoolOp op es pos) g:=λy q c q' w no=>by
 obtain⟨l1,a1⟩:=h y q c q' w no;exact#[l1,λb as l=>(a1 b as l pos).pt]
def bm9(f:UB):UB:=λy q=>(f y q).map λx=>(!x.1,x.2)
def cj9(h:UT X C e f):UT X C (.UnaryOp .Not e pos) (bm9 f):=λy q c q' w no=>by
 obtain⟨⟨x,q1⟩,w1,w2⟩:=xmo w;cases w2;obtain⟨l1,a1⟩:=h y q x q1 w1 no;exact#[l1,λb as l=>ac2 (bA5<|a1 b as l) λz H Q #[Hf,st,k]=>#[Hf,st,λH1 Hf1 s1 e1=>k H1 Hf1 s1 e1]]
end
section
variable {X:Cx}{C:CT}{fn:La Str}
def frD:Fv->Ob D
 | .frz d=>Oa d
 | _=>Z
def cA2(h:(o:Ob Fv).bind frD=Oa d):o=Oa (.frz d):=by
 obtain⟨w,rfl,h⟩:=xbo h;cases w<;>cases h;rfl
def aw4(i:Nat)(kd:Bool)(f:Str):UD:=λy q=>(aa6 i y q).bind λp=>if p.2.k=kd then((p.2.l.lookup f).bind frD).map λd=>(d,q) else Z
def ck9(i:Nat)(c:FoC X.K (C kd) fn)(hf:f∈fn)(hn:X.N[i]? = Oa x)(hv:Vis X.env.scope x)(h1:(x==("__debug__":Str))=false)(h2:(x==("__classdict__":Str))=false)(hb:fq (.Name x p) f X.env (eval (.Name x p) X.env)=eval (.Name x p) X.env):
  UE X C (.Attribute (.Name x p) f pos) (aw4 i kd f):=λy q d q' w no=>by
 obtain⟨⟨j,o⟩,e1,w⟩:=xbo w;split at w
 .rename_i hk;obtain⟨d',e2,e3⟩:=xmo w;cases e3;refine#[rfl,λb as l=>?_];obtain⟨a,ea,A⟩:=k8 e1 (ao9 no) l hn hv h1 h2;exact cq4 A c hk hf (cA2 e2) hb
 .cases w
def by5(h:aa6 i y q=Oa (j,o))(l:q'.length=q.length):∃o',aa6 i y q'=Oa (j,o'):=by
 unfold aa6 at h |-;split at h
 .rename_i j' e;obtain⟨o1,e1,e2⟩:=xmo h;cases e2;have hj:j < q'.length:=by rw[l];exact(am.mp e1).1
  exact#[q'[j],by rw[aL hj];rfl]
 .cases h
def aw3(i:Nat)(kd:Bool)(f:Str)(g:UD):UX:=λy q=>(g y q).bind λx=>(aa6 i y x.2).bind λp=>if p.2.k=kd/\p.2.l.length < 1000 then Oa (.nx y<|x.2.set p.1 #[p.2.k,aY6 f (.frz x.1) p.2.l]) else Z
def bP4(i:Nat)(c:FoC X.K (C kd) fn)(hf:f∈fn)(hn:X.N[i]? = Oa x)(hv:Vis X.env.scope x)(h1:(x==("__debug__":Str))=false)(h2:(x==("__classdict__":Str))=false)(h:UE X C e g)(hs:swapsWith e (Oa<|.Attribute (.Name x p) f pos') pos.line X.env=pure false):
  US X C (.Assign [.Attribute (.Name x p) f pos'] e pos) (aw3 i kd f g):=λy q fl w no=>by
 obtain⟨⟨d,q1⟩,w1,w⟩:=xbo w;obtain⟨⟨j,o1⟩,w2,w⟩:=xbo w;split at w
 .rename_i hz;cases w;obtain⟨l1,a1⟩:=h y q d q1 w1 no;obtain⟨o0,w0⟩:=by5 w2 l1.symm;refine#[by show okR (q1.set j _).length y=true;rw[bC,l1];exact no,λb as l=>?_];obtain⟨a,ea,A⟩:=k8 w0 (ao9 no) l hn hv h1 h2;obtain⟨a',ea',A'⟩:=k8 w2 (ao9 no) (l.trans l1.symm) hn hv h1 h2;rw[ea]at ea';cases ea';exact G0 (cp7 A c hf (a1 b as l) A'.o hz.1 hz.2 hs) λEn z H #[Hf,st,k]=>#[Hf,st,λσ' H' zc s' e'=>az5 k (by rw[bC];exact l.trans l1.symm) σ' H' zc (by rw[r8 ea];exact s') e']
 .cases w
def bw9(F:FnD)(g:UL):UD:=λy q=>(g y q).bind λx=>(F x.1).map λd=>(d,x.2)
def bw5{e:Expr}{es:La Expr}(hF:bu1 X zb y F n)(hu:X.A.units+64 < cLine)(hg:Gl X y)(hdb:(y==("__debug__":Str))=false)(ha:UAs X C (e::es) g)(hz:(e::es).length=n)
  (he:eQ (e::es) X.env=(false,eval e X.env)::eQ es X.env) (hpl:(backTo pos<|eQ es X.env).any (·.1)=false):UE X C (.Call (.Name y p) (e::es) [] pos) (bw9 F g):=λz q d q' w no=>by
 obtain⟨⟨ds,q1⟩,w1,w⟩:=xbo w;obtain⟨d',w2,w3⟩:=xmo w;cases w3;obtain⟨l1,n1,a1⟩:=ha z q ds q1 w1 no;refine#[l1,λb as l=>?_];rcases hF with⟨k,f,fd,ps,hq,hk,hr,hm,hkp,hb⟩|⟨hm,hb⟩
 .refine C8 (am3 hk hr hg hm hkp hb .nil hq (a1 b as l) hdb he hpl) λu H Q #[Hf,st,kk]=>#[Hf,st,λvs H1 Hf1 s1 e1 r1=>#[by rw[ar,r1.length,n1,hz],Hf1,ds,d,s1.same,by rw[ar];exact r1,w2,λv H2 Hf2 g2 r2=>kk v H2 Hf2 (s1.grow g2) (e1.trans g2.ext) r2]]
 .obtain⟨_,hnn,nm,hv,hc⟩:=hb;exact C8 (O2 (hc X hu) hg hm hv (a1 b as l) hnn hdb he hpl) λu H Q #[Hf,st,kk]=>#[Hf,st,λvs H1 Hf1 s1 e1 r1=>#[by rw[r1.length,n1,hz],Hf1,ds,d,s1.same,r1,w2,λv H2 Hf2 g2 r2=>kk v H2 Hf2 (s1.grow g2) (e1.trans g2.ext) r2]]
def cP6(f:UD)(g:DE):UD:=λy q=>(f y q).bind λx=>(aJ0 x.1).bind λs=>(g<|era y).bind λk=>match k with
 | .int k=>(atI s.2 k).map λd=>(d,x.2)
 | _=>Z
def cP4(ha:UE X C a f)(hb:JE X b g)(hs:af3 b):UE X C (.Subscript a b pos) (cP6 f g):=λz q d q' w no=>by
 obtain⟨⟨x,q1⟩,w1,w⟩:=xbo w;obtain⟨⟨t,ds⟩,w2,w⟩:=xbo w;obtain⟨y,w3,w⟩:=xbo w;split at w
 .obtain⟨d',w4,w5⟩:=xmo w;cases w5;obtain⟨l1,a1⟩:=ha z q x q1 w1 no;refine#[l1,λbb as l=>C8 (bh3 aL3 (a1 bb as l) (hb (era z) _ w3) hs) λr H Q #[Hf,st,k]=>#[Hf,st,λv H1 Hf1 s1 e1 r1=>#[_,Hf1,s1.same,by rw[<- u6 as z];exact s1.sl.era,λu H2 Hf2 g2 r2=>?_]]];have s2:=s1.grow g2;have rx:=r1.mono g2.ext;have sq:=s2.same;cases x with
  | tuple xs =>
   cases w2;obtain⟨p,vs,e1',e2,e3⟩:=rx;obtain⟨w,q1,q2⟩:=al8 e3 w4;exact .inr<|.inl #[p,vs,_,w,e1',r2,F8 sq e2,q1,k w H2 Hf2 s2 (e1.trans g2.ext) q2]
  | list xs =>
   cases w2;obtain⟨p,vs,e1',e2,e3⟩:=rx;obtain⟨w,q1,q2⟩:=al8 e3 w4;exact .inl #[p,vs,_,w,e1',r2,G9 sq e2,q1,k w H2 Hf2 s2 (e1.trans g2.ext) q2]
  | _=>cases w2
 .cases w
def cl1(o:OpD X (ff op) h)(ha:UE X C ea f)(hb:UE X C eb g):UE X C (.BinOp ea op eb pos) (uB2 h f g):=λr q d q' w no=>by
 obtain⟨⟨x,q1⟩,w1,w⟩:=xbo w;obtain⟨⟨y,q2⟩,w2,w⟩:=xbo w;obtain⟨z,w3,w4⟩:=xmo w;cases w4;obtain⟨l1,a1⟩:=ha r q x q1 w1 no;obtain⟨l2,a2⟩:=hb r q1 y q2 w2 (by rw[l1];exact no);exact#[l2.trans l1,λb as l=>C8 (bB3 (o x y _ w3) (a1 b as l)<|a2 b as (l.trans l1.symm)) λp H Q #[Hf,st,k]=>#[Hf,st,λv H1 Hf1 s1 e1 r1=>#[Hf1,s1,λu H2 Hf2 s2 e2 r2=>#[Hf2,s2.same,r1.mono e2,r2,λz H3 Hf3 g r3=>k z H3 Hf3 (s2.grow g) ((e1.trans e2).trans g.ext) r3]]]]
end
section
variable {X:Cx}{C:CT}
def bw7(f g:UD):UD:=λy q=>(f y q).bind λx=>(aJ0 x.1).bind λs=>(g y x.2).bind λk=>match k.1 with
 | .int n=>(atI s.2 n).map λd=>(d,k.2)
 | _=>Z
def ck8(ha:UE X C a f)(hb:UE X C b g)(hs:af3 b):UE X C (.Subscript a b pos) (bw7 f g):=λz q d q' w no=>by
 obtain⟨⟨x,q1⟩,w1,w⟩:=xbo w;obtain⟨⟨t,ds⟩,w2,w⟩:=xbo w;obtain⟨⟨y,q2⟩,w3,w⟩:=xbo w;dsimp only at w;split at w
 .obtain⟨d',w4,w5⟩:=xmo w;cases w5;obtain⟨l1,a1⟩:=ha z q x q1 w1 no;obtain⟨l2,a2⟩:=hb z q1 _ _ w3 (by rw[l1];exact no);refine#[l2.trans l1,λbb as l=>C8 (bh3 aL3 (a1 bb as l) (a2 bb as<|l.trans l1.symm) hs) λr H Q #[Hf,st,k]=>#[Hf,st,λv H1 Hf1 s1 e1 r1=>#[Hf1,s1,λu H2 Hf2 s2 e2 r2=>?_]]];have rx:=r1.mono e2;have sq:=s2.same;cases x with
  | tuple xs =>
   cases w2;obtain⟨p,vs,e1',e2',e3⟩:=rx;obtain⟨w,q1,q2⟩:=al8 e3 w4;exact .inr<|.inl #[p,vs,_,w,e1',r2,F8 sq e2',q1,k w H2 Hf2 s2 (e1.trans e2) q2]
  | list xs =>
   cases w2;obtain⟨p,vs,e1',e2',e3⟩:=rx;obtain⟨w,q1,q2⟩:=al8 e3 w4;exact .inl #[p,vs,_,w,e1',r2,G9 sq e2',q1,k w H2 Hf2 s2 (e1.trans e2) q2]
  | _=>cases w2
 .cases w
def as1(t:UB)(f:UX):Nat->UX
 | 0=>λ_ _=>Z
 | n+1=>λy q=>(t y q).bind λx=>if x.1 then(f y x.2).bind λfl=>match fl with
  | .nx ρ' q'=>as1 t f n ρ' q'
  | r=>Oa r
  else Oa (.nx y x.2)
def aX2(t:UB)(f:UX):UX:=as1 t f 1000
theorem aF7{body:La Stmt}(ht:UT X C c t)(hb:USs X C body f):∀(n:Nat) (y:Rho) (q:Fs) (fl:UF),as1 t f n y q=Oa fl->okR q.length y=true->fl.own=true
 | 0,y,q,fl,h,n=>by cases h
 | n+1,y,q,fl,h,no=>by
  obtain⟨⟨x,q1⟩,e1,h⟩:=xbo h;have l1:=(ht y q x q1 e1 no).1;dsimp only at h;split at h
  .obtain⟨fl1,e2,h⟩:=xbo h;have o:=(hb y q1 fl1 e2 (by rw[l1];exact no)).1;cases fl1 with
   | nx ρ' q'=>exact aF7 ht hb n ρ' q' fl h o
   | rt d q'=>cases h;rfl
   | ro j q'=>cases h;rfl
  .cases h;show okR q1.length y=true;rw[l1];exact no
inductive UWh (X:Cx) (C:CT) (b:Bs) (as:List fL) (t:UB) (f:UX) (fl:UF) (Hf:Hp) (m:Nat) (σ:L2.St) (H:Hp):Prop
 | mk {zc ex ρ' q'} (l:(as++ex).length=q'.length) (n:okR q'.length ρ'=true) (a:OSt X.K C b (sub (as++ex) ρ') ((as++ex).zip q') σ H zc) (s:D8 Hf zc) (h:as1 t f m ρ' q'=Oa fl):UWh X C b as t f fl Hf m σ H
def bv7{body:La Stmt}(ht:UT X C c t)(hb:USs X C body f)(hp:PassesOwn (fu X.prog X.w) X.A X.env X.xe):US X C (.While c body [] pos) (aX2 t f):=λv q fl w no=>by
 refine#[aF7 ht hb 1000 v q fl w no,λb as l=>?_];have test':PT X c (λu H Q=>∃(as':La fL) (ρ':Rho) (q':Fs) (x:Bool) (q1:Fs) (Hf:Hp),t ρ' q'=Oa (x,q1)/\okR q'.length ρ'=true/\as'.length=q'.length/\OSt X.K C b (sub as' ρ') (as'.zip q') u H Hf/\∀H' zc,OSt X.K C b (sub as' ρ') (as'.zip q1) u H' zc->D8 Hf zc->Q x H'):=λza s u H Q I #[as',ρ',q',x,q1,Hf,z1,z2,z3,z4,z5]=>(ht ρ' q' x q1 z1 z2).2 b as' z3 za s u H Q I #[Hf,z4,z5]
 have body':PSs X body (λEn u H=>∃(as':La fL) (ρ':Rho) (q':Fs) (fl':UF),f ρ' q'=Oa fl'/\okR q'.length ρ'=true/\as'.length=q'.length/\tU X C b as' ρ' q' fl' En u H):=λza s u H D I #[as',ρ',q',fl',z1,z2,z3,z4]=>(hb ρ' q' fl' z1 z2).2 b as' z3 za s u H D I z4
 refine G0 (aR1 hp test' body') λEn u H y=>?_
 obtain⟨Hf,st,e⟩:=y;refine#[UWh X C b as t f fl Hf,#[1000,.mk (ex:=[]) (by rw[ar];exact l) no (by rw[ar];exact st) (D8.refl _) w],?_]
 rintro m σ' H' ⟨l',no',a',s',hm⟩
 rename_i zc ex ρ' q';cases m with
 | zero=>cases hm
 | succ m =>
  obtain⟨⟨x,q1⟩,e1,hm⟩:=xbo hm;have l1:=(ht ρ' q' x q1 e1 no').1;refine#[as++ex,ρ',q',x,q1,zc,e1,no',l',a',λH2 Hf2 a2 s2=>?_];dsimp only at hm;have s3:=s'.trans s2;cases x with
  | false =>
   cases hm;exact ap4<|e ex σ' H2 Hf2 (l'.trans l1.symm) a2 s3
  | true =>
   obtain⟨fl1,e2,hm⟩:=xbo (show(f ρ' q1).bind _=Oa fl from hm);have no1:okR q1.length ρ'=true:=by rw[l1];exact no'
   have o1:=(hb ρ' q1 fl1 e2 no1).1;refine an1 #[λσ3 H3=>∃m',m' < m+1/\UWh X C b as t f fl Hf m' σ3 H3,λσ3 H3 z=>z,as++ex,ρ',q1,fl1,e2,no1,l'.trans l1.symm,Hf2,a2,?_];cases fl1 with
   | nx ρ3 q3=>exact λex2 σ3 H3 Hf3 l3 a3 s4=>#[m,ci _,.mk (ex:=ex++ex2) (by rw[<- au];exact l3) o1 (by rw[<- au];exact a3) (s3.trans s4) hm]
   | rt d q3 =>
    cases hm;exact UF.more (fl:=.rt d q3) e ex
   | ro j q3 =>
    cases hm;exact UF.more (fl:=.ro j q3) e ex
end
section
variable {X:Cx}{C:CT}
def aO6(f:UD):UD:=λy q=>(f y q).bind λx=>(aJ0 x.1).map λs=>(.int s.2.length,x.2)
def bQ0(hg:Gl X "len")(hm:X.mg "len" = Z)(h:UE X C e f)(he:eQ [e] X.env=[(false,eval e X.env)]):UE X C (.Call (.Name "len" p) [e] [] pos) (aO6 f):=λy q d q' w no=>by
 obtain⟨⟨x,q1⟩,w1,w⟩:=xbo w;obtain⟨⟨t,ds⟩,w2,w3⟩:=xmo w;cases w3;obtain⟨l1,a1⟩:=h y q x q1 w1 no;refine#[l1,λb as l=>C8 (O2 ao0 hg hm aN2 (E6 (a1 b as l) G6 he) (he:=he)) λz H Q #[Hf,st,k]=>#[Hf,st,λv H1 Hf1 s1 e1 r=>?_]];have sq:=s1.same;cases x with
 | tuple xs =>
  cases w2;obtain⟨p,vs,rfl,e2,e3⟩:=r;exact#[p,vs,rfl,.inr<|F8 sq e2,k _ H1 Hf1 s1 e1 (by rw[e3.length];rfl)]
 | list xs =>
  cases w2;obtain⟨p,vs,rfl,e2,e3⟩:=r;exact#[p,vs,rfl,.inl<|G9 sq e2,k _ H1 Hf1 s1 e1 (by rw[e3.length];rfl)]
 | _=>cases w2
end
section
variable {X:Cx}{C:CT}
def hpX:Hp:=λ_=>Oa<|.lst []
inductive tEl (K:af) (C:CT) (a:fL) (gU:UD) (σ:L2.St) (H:Hp) (Q:VK):Prop
  | mk {k o y o' Hf c} (e:gU [[:k],Oa (.opq 0)] [o]=Oa (y,[o'])) (s:D8 Hf H) (l:Slots K hpX [[:k],Oa (.opq a)] σ H Hf) (f:FoAt K C H Hf a c o)
   (q:∀v H' zc c',Chg (cells a c) H Hf H' zc->FoAt K C H' zc a c' o'->(∀x∈cells a c',x∈cells a c\/H x=Z)->Rep K zc y v->Q v H'):tEl K C a gU σ H Q
def cH1(h:UE X C elt gU):PE X elt (tEl X.K C a gU):=λza s z H Q I #[e1,ss,sl,fo,kk]=>by
 rename_i k o y o' Hf c;obtain⟨_,a1⟩:=h _ _ _ _ e1 rfl;refine a1 #[cells a c,H,Hf] [a] rfl za s z H Q I #[Hf,#[Chg.of<|Grow.refl ss,cells a c++[],.cons fo (by simp) .nil,λx hx=>.inl (by simpa using hx),sl.chg (S:=[]) (Chg.of<|Grow.refl ss) (by simp) λx h _=>nomatch h],λv H' zc s' e' r=>?_];obtain⟨R,r1,r2,_⟩:=s'.ob;obtain⟨c',f1,f2,_⟩:=r1.focus (j:=0) (a:=a) (o:=o') rfl;exact kk v H' zc c' s'.gr f1 (λx hx=>r2 x<|f2 x hx) r
def aQ2{y:Type}{l:La y}{j:Nat}{x:y}(h:l[j]? = Oa x):l.set j x=l:=by
 obtain⟨hj,e⟩:=am.mp h;subst e;exact List.set_getElem_self hj
abbrev bad:D:=.dict [(.none,.none)]
def N0:D->Bool
 | .dict [(.none,.none)]=>true
 | _=>false
def ae4{K:af}{H:Hp}{v:V}:¬Rep K H bad v:=λh=>by
 obtain⟨a,m,_,_,x,_,_,e,_⟩:=h;cases e
def aq3(h:N0 d=true):d=bad:=by
 unfold N0 at h;split at h
 .rfl
 .cases h
def cpT(g:UD):Fo->La D->Ob (La D×Fo)
 | o,[]=>Oa ([],o)
 | o,k::ks=>(g [[:k],Oa (.opq 0)] [o]).bind λr=>match r.2 with
  | [o']=>(cpT g o' ks).map λl=>(r.1::l.1,l.2)
  | _=>Z
def cpX(g:UD):Nat->Fo->La D->Ob (Ob (La D)×Fo)
 | _,o,[]=>Oa (Oa [],o)
 | 0,_,_::_=>Z
 | n+1,o,k::ks=>(g [[:k],Oa (.opq 0)] [o]).bind λr=>match r.2 with
  | [o']=>bif N0 r.1 then Oa (Z,o') else(cpX g n o' ks).map λl=>(l.1.map (r.1::·),l.2)
  | _=>Z
def cpF(gb:D)(n j:Nat)(y:Rho)(q:Fs)(l:Ob (La D)×Fo):UF:=match l.1 with
 | some ds=>.nx (y.set n<|[:.list ds])<|q.set j l.2
 | none=>.rt gb<|q.set j l.2
def bw8(gb:D)(n i:Nat)(src:Rho->Ob (La D))(g:UD):UX:=λy q=>(src<|era y).bind λks=>(aa6 i y q).bind λp=>(cpX g 100000 p.2 ks).map<|cpF gb n p.1 y q
def Slots.push{K:af}{H0 H Hf:Hp}{y:Rho}{z:L2.St}{p:fL}(s:Slots K H0 y z H Hf)(n0:H0 p=Z)(hp:H p=Z)(nf:Hf p=Z)(sm:D8 Hf H):Slots K H0 (y++[Oa (.own [])]) (z++[Oa (.ref p)]) (upd H p<|.lst []) Hf:=by
 have s2:Slots K H0 (y++[Z]) (z++[Z]) H Hf:=by
  have at_:∀(i:Nat) (b:B),(y++[Z])[i]? = Oa (Oa b)->y[i]? = Oa (Oa b)/\i < y.length:=λi b e=>by
   rcases bP i y.length with q|q
   .rw[az q]at e;exact#[e,q]
   .rw[aK q]at e;cases h:i - y.length with
    | zero=>rw[h]at e;cases e
    | succ n=>rw[h]at e;cases e
  refine#[by simp[s.len],λi b e=>?_,λi j d1 d2 a h1 h2 h3 h4=>?_]
  .obtain⟨e1,e2⟩:=at_ i b e;obtain⟨v,v1,v2⟩:=s.is i b e1;exact#[v,by rw[az (by rw[<- s.len];exact e2)];exact v1,v2]
  .obtain⟨e1,l1⟩:=at_ i _ h1;obtain⟨e2,l2⟩:=at_ j _ h2;rw[az (by rw[<- s.len];exact l1)]at h3;rw[az (by rw[<- s.len];exact l2)]at h4;exact s.apart i j d1 d2 a e1 e2 h3 h4
 have:=s2.setOwn (i:=y.length) (ds:=[]) (vs:=[]) (Grow.made sm hp) n0 hp C9 nf rfl;rw[s.len]at this;simpa [<- s.len] using this
def Slots.pop{K:af}{H0 H Hf:Hp}{z:Rho}{w:L2.St}{x:Ob B}{y:Ob V}(s:Slots K H0 (z++[x]) (w++[y]) H Hf):Slots K H0 z w H Hf:=by
 have hl:z.length=w.length:=by have:=s.len;simpa using this
 have up:∀(i:Nat) (b:B),z[i]? = Oa (Oa b)->(z++[x])[i]? = Oa (Oa b)/\i < z.length:=λi b e=>by
  have:=(am.mp e).1;exact#[by rw[az this];exact e,this]
 refine#[hl,λi b e=>?_,λi j d1 d2 a h1 h2 h3 h4=>?_]
 .obtain⟨e1,l1⟩:=up i b e;obtain⟨v,v1,v2⟩:=s.is i b e1;rw[az (by rw[<- hl];exact l1)]at v1;exact#[v,v1,v2]
 .obtain⟨e1,l1⟩:=up i _ h1;obtain⟨e2,l2⟩:=up j _ h2;exact s.apart i j d1 d2 a e1 e2 (by rw[az (by rw[<- hl];exact l1)];exact h3) (by rw[az (by rw[<- hl];exact l2)];exact h4)
theorem OSt.push{K:af}{b:Bs}{y:Rho}{os:Os}{w:L2.St}{H Hf:Hp}{p:fL}(s:OSt K C b y os w H Hf)(hp:H p=Z):OSt K C b (y++[Oa (.own [])]) os (w++[Oa (.ref p)]) (upd H p<|.lst []) Hf:=by
 obtain⟨R,r1,r2,r3⟩:=s.ob;have g:Grow H Hf (upd H p<|.lst []) Hf:=Grow.made s.same hp;refine#[(s.grow g).gr,R,r1.chg (S:=[]) (Chg.of g) (by simp),r2,r3.push (aL8 (λz=>r1.there p z hp) ?_) hp (s.same.free hp) s.same];exact aT λz=>s.gr.kp p z hp
theorem OSt.pop{K:af}{b:Bs}{z:Rho}{os:Os}{w:L2.St}{H Hf:Hp}{x:Ob B}{y:Ob V}(s:OSt K C b (z++[x]) os (w++[y]) H Hf):OSt K C b z os w H Hf:=by
 obtain⟨R,r1,r2,r3⟩:=s.ob;exact#[s.gr,R,r1,r2,r3.pop]
def OSt.endOwn{K:af}{b:Bs}{y:Rho}{os:Os}{m:L2.St}{H Hf:Hp}{p:fL}{o1:La D}(s:OSt K C b (y++[Oa (.own o1)]) os (m++[Oa (.ref p)]) H Hf):∃vs,H p=Oa (.lst vs)/\Reps K Hf o1 vs/\Hf p=Z/\(∀(j:Nat) a c u,os[j]? = Oa (a,u)->FoAt K C H Hf a c u->p∉cells a c)/\∀w d,Rep K Hf d w->OSt K C b (y++[Oa (.own<|o1++[d])]) os (m++[Oa (.ref p)]) (upd H p<|.lst (vs++[w])) Hf:=by
 obtain⟨R,r1,_,r3⟩:=s.ob;have hl:y.length=m.length:=by have:=r3.len;simpa using this
 obtain⟨v,v1,q,us,rfl,v2,v3,v4,_⟩:=r3.is y.length (.own o1) (by simp);obtain⟨q',vs,e1,e2,e3,e4⟩:=s.app (i:=y.length) (ds:=o1) (by simp);rw[hl]at v1 e1;simp only[aK (ak _),cq,xg0,bg.injEq,Value.ref.injEq]at v1 e1;cases v1;cases e1;refine#[vs,e2,e3,v3,λj a c u e f z=>?_,λw d r=>?_]
 .obtain⟨c9,f9,f8,_⟩:=r1.focus e;cases FoAt.same f9 f;exact(Y4 v4).1 (f8 _ z)
 .have:=e4 w d r
  rwa [List.set_append_right _ _ (ak _),cq]at this
def OSt.endFrz{K:af}{b:Bs}{y:Rho}{os:Os}{z:L2.St}{H Hf:Hp}{p:fL}{o1:La D}(s:OSt K C b (y++[Oa (.own o1)]) os (z++[Oa (.ref p)]) H Hf):∃zc,D8 Hf zc/\OSt K C b y os z H zc/\Rep K zc (.list o1) (.ref p):=by
 obtain⟨Hf6,e6,s6⟩:=s.frz y.length;obtain⟨R,r1,_,r3⟩:=s.ob;have hl:y.length=z.length:=by have:=r3.len;simpa using this
 have fz:_root_.G.frz y.length (y++[Oa (.own o1)])=y++[[:.list o1]]:=by
  unfold _root_.G.frz;rw[aK (ak _),cq];show List.set _ _ _=_;rw[List.set_append_right _ _ (ak _),cq];rfl
 rw[fz]at s6;obtain⟨v6,v61,v62⟩:=s6.sl.is y.length (.val<|.list o1) (by simp);rw[hl,aK (ak _),cq]at v61;cases v61;exact#[Hf6,e6,s6.pop,v62]
def by4{K:af}{y:L2.St}{H Hf:Hp}(h:y[i]? = Oa (Oa<|.ref a)):Slots K hpX [Z,Oa (.opq a)] (au1 1 [i] y) H Hf:=by
 refine#[rfl,λn bb e=>?_,λn m d1 d2 aa e=>?_]
 .cases n with
  | zero=>cases e
  | succ n=>cases n with
   | zero=>cases e;exact#[.ref a,by show Oa (y[i]?).join=_;rw[h];rfl,rfl]
   | succ n=>cases e
 .cases n with
  | zero=>cases e
  | succ n=>cases n with
   | zero=>cases e
   | succ n=>cases e
inductive elI (K:af) (C:CT) (b:Bs) (ρ:Rho) (as:List fL) (q:Fs) (j:Nat) (Dd a:fL) (Hf1:Hp) (σ:L2.St) (gU:UD) (ks:List D) (oe:Fo) (l:Option (List D)) (i:Nat):Nat->List V->L2.St->Hp->Prop
 | mk (hi:i<=ks.length) (st:OSt K C b (ρ++[Oa (.own o1)]) (as.zip<|q.set j u) (σ++[Oa (.ref Dd)]) H' zc) (sm:D8 Hf1 zc) (hd:H' Dd=Oa (.lst ys)) (sl:Slots K hpX [z,Oa (.opq a)] σ' H' zc) (ho:o1.length=i) (hf:i+f=100000) (ec:cpX gU f u (ks.drop i)=Oa (o2,oe)) (eo:o2.map (o1++·)=l):elI K C b ρ as q j Dd a Hf1 σ gU ks oe l i (ks.length - i) ys σ' H'
def bw0{gU:UD}(n i:Nat)(hN:X.N.Nodup)(S:CompSc X N' 1 [i] scope)(hu:ub=true->Th X)(hit:JI X tgt iter src)(hg:∀C s0 H0 ex,JG (E8 ub X N' scope C s0 H0 ex) tgt<|D1 0)(hel:∀C0 s0 H0 ex,UE (E8 ub X N' scope C0 s0 H0 ex) C elt gU)
  (hn:X.N[i]? = Oa x) (hv:Vis X.env.scope x) (h1:(x==("__debug__":Str))=false) (h2:(x==("__classdict__":Str))=false) (hm:X.N[n]? = Oa y) (hl:X.env.scope.names.lookup y=Oa .local) (hsw:swapsWith (.ListComp elt [#[tgt,iter,[],0]] scope pos) (Oa<|.Name y pos') spos.line X.env=pure true)
  (hc:X.calm=true) (hs:∀x,fj iter X.env x=pure x):US X C (.Assign [.Name y pos'] (.ListComp elt [#[tgt,iter,[],0]] scope pos) spos) (bw8 gb n i src gU):=λr q fl w no=>by
 obtain⟨ks,w1,w⟩:=xbo w;obtain⟨⟨j,o⟩,w3,w⟩:=xbo w;obtain⟨⟨l,oe⟩,w4,w5⟩:=xmo w;refine#[by subst w5;cases l;rfl;exact aK2 (by rw[bC];exact no),λb as len=>?_];obtain⟨a,ea,A⟩:=k8 w3 (ao9 no) len hn hv h1 h2;have zq:∀u:Fo,(as.zip<|q.set j u)[j]? = Oa (a,u):=λu=>by rw[r8 ea,aD (am.mp A.o).1]
 have zz:∀u u':Fo,(as.zip<|q.set j u).set j (a,u')=as.zip (q.set j u'):=λu u'=>by rw[r8 ea,r8 ea,List.set_set]
 refine G0 (aj7 S hu hc hN hm hl (hit (era r) ks w1) (g:=tgJ X.K<|D1 0) (tc:=aw6 X.K F6) (te:=tEl X.K C a gU) hg (λC s0 H0 ex=>bj0) (λC0 s0 H0 ex=>cH1<|hel C0 s0 H0 ex) hsw hs) λEn m H p=>?_
 obtain⟨Hf,st,kk⟩:=p;refine#[_,Hf,st.same,by rw[<- u6 as r];exact st.sl.era,λJ H1 Hf1 gr1 Y Dd hD=>?_];have st1:=st.grow gr1;have c0:Slots X.K hpX [Z,Oa (.opq a)] (au1 1 [i] m) (upd H1 Dd<|.lst []) Hf1:=by4 (au9 st1 A.s);have q0:as.zip (q.set j o)=as.zip q:=by rw[r8 ea];exact aQ2 A.o
 refine#[elI X.K C b (sub as r) as q j Dd a Hf1 m gU ks oe l,
  #[ks.length,.mk (o1:=[]) (z:=Z) (u:=o) (o2:=l) (f:=100000) (aA _) (by rw[q0];exact st1.push hD) (D8.refl _) C9 c0 rfl rfl (by simpa using w4) (by simp)],?_]
 rintro n _ ys σ' H' ⟨hi,st',sm,hd,sl',ho,hf,ec,eo⟩
 rename_i u zc z f o2 o1;obtain⟨Ys,Yg⟩:=Y n H' zc sm st'.same;rcases bP n ks.length with hlt|hge
 .right
  obtain⟨go,yl⟩:=Yg ks[n] (by simp[hlt]);rw[cb hlt]at ec;cases f with
  | zero=>cases ec
  | succ f =>
  obtain⟨⟨y,qy⟩,c1,ec⟩:=xbo ec;dsimp only at ec;split at ec
  .rename_i u';refine#[go,λx H2 hy=>?_];obtain⟨Hf2,g2,r2⟩:=yl x H2 hy;refine#[ks[n],_,_,hpX,Hf2,rfl,g2.sub,sl'.grow g2,r2,λσ3 sl3=>#[_,true,rfl,hpX,Hf2,g2.sub,sl3,λH4 Hf4 g4=>an1 ?_]];have st4:=(st'.grow g2).grow g4;have hd4:H4 Dd=Oa (.lst ys):=g4.big _ _ (g2.big _ _ hd);obtain⟨c,f1,f3⟩:=st4.focus rfl (zq u);refine#[c1,st4.same,sl3.grow g4,f1,λv H5 Hf5 c' ch fo n5 r5=>?_];cases hb:N0 y with
   | true=>rw[aq3 hb]at r5;exact(ae4 r5).elim
   | false =>
   rw[hb]at ec;obtain⟨⟨o3,oe'⟩,c2,c3⟩:=xmo ec;cases c3;have st5:=f3 ch fo n5;rw[zz]at st5;obtain⟨_,_,_,_,off,_⟩:=st4.endOwn;obtain⟨vs5,g2',g3,n5f,_,g6⟩:=st5.endOwn;cases g2'.symm.trans (ch.big _ _ (off _ _ _ _ (zq u) f1) hd4);have s5:=(sl3.grow g4).chg (S:=cells a c) ch (λ_ _ h=>nomatch h) (H0':=hpX) λ_ h _=>nomatch h
   exact#[g2',by rw[g3.length,ho,eT];omega,ks.length - (n+1),by omega,hlt,g6 v y r5,sm.trans<|g2.ext.trans (g4.ext.trans ch.ext),C9,s5.chg (S:=[Dd]) (Chg.wr st5.same (by simp) n5f) (λ_ _ h=>nomatch h) λ_ h _=>(nomatch h),by simp[ho],by omega,c2,by rw[<- eo];simp[Function.comp_def]]
  .cases ec
 .left
  have:n=ks.length:=by omega
  subst this;rw[dN]at ec;obtain⟨rfl,rfl⟩:o2=Oa []/\oe=u:=by cases f<;>(cases ec;exact#[rfl,rfl])
  obtain rfl:l=Oa o1:=by rw[<- eo];simp
  subst w5;refine#[Ys<|ak _,?_];obtain⟨Hf6,e6,s6,v62⟩:=st'.endFrz;exact az5 kk (by rw[bC];exact len) _ H' Hf6 (by rw[aI1];exact s6.set v62)<|gr1.ext.trans (sm.trans e6)
end
end G
namespace G
open PySem PySem.Spec PySem.W PyProof.Rows L2
end G
namespace G
open PySem PySem.Spec PySem.W PyProof.Rows L2 PySem.SeqAt
section
variable {n:Nat}(hn:0 < n)
include hn
end
end G
namespace G
open PySem PySem.Spec PySem.W PyProof.Rows L2
end G
namespace G
open PySem PySem.Spec PyProof.Rows L2
abbrev cb6:=La<|Str×Bool×DF×Nat
def KM(K:af)(C:fL)(m qual:Str)(st:Stmt):Prop:=∃(f:fL) (oc:fJ) (od:Ob fL) (sl:Array (Ob fJ)) (kV dc pm:fJ) (an:Ob fL) (cd ct:fJ),
 PySem.W.findIn K (.ref C) m=Oa (Oa<|.ref f)/\PySem.W.isFn K (.ref f)=true/\K.lookup f=Oa #[oc,od,.func<|bB m qual (S8 st) (G8 st) (B8 st) .none kV dc pm an cd ct,sl]/\cf K cd qual=true/\aN K (.ref f)=true
structure FitO (S:Sg) (ms:cb6) (C:CT) (fn:Bool->List Str) (c:Kx) (X:Cx):Prop where
 fit:Fit S c X
 foc:∀kd,FoC X.K (C kd)<|fn kd
 mts:∀m kd F n,ms.lookup m=Oa (kd,F,n)->bm3 X (c.up != 0) C kd m n F
section
variable {P:Program}{w:World}{K:PySem.W.Frag}{mg:Str->Ob Value}{base:Heap}{cs:La (Str×D)}{bl:La Str}{C:CT}{ms:cb6}
def MOk(bz:Bool)(P:eX)(w:World)(K:af)(mg:Str->Ob fJ)(base:Heap)(C:CT)(k:Nat)(ms:cb6):Prop:=∀m kd F n,ms.lookup m=Oa (kd,F,n)->∃(f:fL) (fd:eZ) (ps:La Str),
 FnOk P w K mg base (CXb K P w bz) k f fd ps (spD K C (n+1) F)/\Meth K (C kd) m f/\K0 K fd ps []
def MOk.nil:MOk bz P w K mg base C 0 []:=λx kd F n h=>by cases h
theorem MOk.mono(T:MOk bz P w K mg base C j ms)(h:j<=k):MOk bz P w K mg base C k ms:=λx kd F n e=>by
 obtain⟨f,fd,ps,h1,h2⟩:=T x kd F n e;exact#[f,fd,ps,h1.mono h,h2]
def MOk.cons(T:MOk bz P w K mg base C k ms)(h:∃(f:fL) (fd:eZ) (ps:La Str),FnOk P w K mg base (CXb K P w bz) k f fd ps (spD K C (n+1) F)/\Meth K (C kd) m f/\K0 K fd ps []):MOk bz P w K mg base C k ((m,kd,F,n)::ms):=λy kd' G j e=>by
 rw[aF]at e;split at e
 .rename_i q;cases e;simp only[beq_iff_eq]at q;subst q;exact h
 .exact T y kd' G j e
def BdM(d:Fd)(qual:Str):Prop:=∀(kV doc pm:fJ) (an:Ob fL) (cdv ct:fJ),UA d.ps.length λus=>bindArgs (bB d.x qual (S8 d.st) (G8 d.st) (B8 d.st) .none kV doc pm an cdv ct) #[us,[]]=pure (d.ps.zip us)
end
def OSt.mkOwnG{K:af}{C:CT}{os:La (fL×Fo)}{i:Nat}{p:fL}{ds:La D}{vs:La V}(s:OSt K C b y os w H Hf)(g:Grow H Hf H' zc)(hp:H p=Z)(h1:H' p=Oa (.lst vs))(h2:zc p=Z)(r:Reps K zc ds vs):OSt K C b (y.set i<|Oa (.own ds)) os (w.set i<|Oa (.ref p)) H' zc:=by
 obtain⟨R,r1,r2,r3⟩:=s.ob;exact#[(s.grow g).gr,R,r1.chg (S:=[]) (Chg.of g) (by simp),r2,r3.setOwn g (aL8 (λz=>r1.there p z hp)<|aT λz=>s.gr.kp p z hp) hp h1 h2 r]
section
variable {X:Cx}{C:CT}
def aw2(g:D)(i:Nat)(f:UD):UX:=λy q=>(f y q).map λx=>bif N0 x.1 then .rt g x.2 else .nx (y.set i<|[:x.1]) x.2
def bP3(i:Nat)(hN:X.N.Nodup)(h:UE X C e f)(hi:X.N[i]? = Oa x)(hx:Loc X.env.scope x)(hs:swapsWith e (Oa<|.Name x pos') pos.line X.env=pure false)(hf:X.fn x=true\/X.env.scope.names.lookup x=Oa .local):US X C (.Assign [.Name x pos'] e pos) (aw2 g i f):=λy q fl w no=>by
 obtain⟨⟨d,q1⟩,w1,w2⟩:=xmo w;cases hb:N0 d with
 | false =>
  rw[hb]at w2;exact bv8 i hN h hi hx hs hf y q fl (by unfold bm8;rw[w1,<- w2];rfl) no
 | true =>
  rw[hb]at w2;cases w2;cases aq3 hb;obtain⟨l1,a1⟩:=h y q _ q1 w1 no;exact#[rfl,λb as l=>G0 (ao8 hN hi hx (a1 b as l) hs hf) λEn z H #[Hf,st,k]=>#[Hf,st,λv H' zc s' e' r=>(ae4 r).elim]]
def hX(c:D)(h:D->D->Ob D):D->D->Ob D:=λx y=>bif N0 x || N0 y then Oa c else h x y
theorem OpD.x(o:OpD X op h):OpD X op (hX c h):=λx y z q za s w H vx vy v u Q I rx ry #[Hf,sm,r1,r2,k]=>by
 unfold hX at q;cases e:N0 x || N0 y with
 | false=>rw[e]at q;exact o x y z q za s w H vx vy v u Q I rx ry #[Hf,sm,r1,r2,k]
 | true =>
  rcases(cy _ _).mp e with e|e
  .rw[aq3 e]at r1;exact(ae4 r1).elim
  .rw[aq3 e]at r2;exact(ae4 r2).elim
theorem ax5{K:af}{H:Hp}:∀{ds:La D}{vs:La V},Reps K H ds vs->ds.any N0=true->False
 | d::ds,_,#[v,r,_,h,hs],e=>by
  rw[cN,cy]at e;rcases e with e|e
  .rw[aq3 e]at h;exact ae4 h
  .exact ax5 hs e
def O0(F:FnD)(g:Rho->Fs->Ob (La D×Fs)):UD:=λy q=>(g y q).bind λx=>bif x.1.any N0 then Oa (bad,x.2) else(F x.1).map λd=>(d,x.2)
def bw4{e:Expr}{es:La Expr}(hF:bu1 X zb y F n)(hu:X.A.units+64 < cLine)(hg:Gl X y)(hdb:(y==("__debug__":Str))=false)(ha:UAs X C (e::es) g)(hz:(e::es).length=n)(he:eQ (e::es) X.env=(false,eval e X.env)::eQ es X.env)(hpl:(backTo pos<|eQ es X.env).any (·.1)=false):
  UE X C (.Call (.Name y p) (e::es) [] pos) (O0 F g):=λz q d q' w no=>by
 obtain⟨⟨ds,q1⟩,w1,w2⟩:=xbo w;cases hb:ds.any N0 with
 | false =>
  dsimp only at w2;rw[hb]at w2;exact bw5 hF hu hg hdb ha hz he hpl z q d q' (by unfold bw9;rw[w1];exact w2) no
 | true =>
  dsimp only at w2;rw[hb]at w2;obtain⟨rfl,rfl⟩:bad=d/\q1=q':=by cases w2;exact#[rfl,rfl]
  obtain⟨l1,n1,a1⟩:=ha z q ds q1 w1 no;refine#[l1,λb as l=>?_];rcases hF with⟨k,f,fd,ps,hq,hk,hr,hm,hkp,hb'⟩|⟨hm,hb'⟩
  .exact C8 (am3 hk hr hg hm hkp hb' .nil hq (a1 b as l) hdb he hpl) λv H Q #[Hf,st,kk]=>#[Hf,st,λvs H1 Hf1 s1 e1 r1=>(ax5 r1 hb).elim]
  .obtain⟨_,hnn,nm,hv,hc⟩:=hb';exact C8 (O2 (hc X hu) hg hm hv (a1 b as l) hnn hdb he hpl) λv H Q #[Hf,st,kk]=>#[Hf,st,λvs H1 Hf1 s1 e1 r1=>(ax5 r1 hb).elim]
def cc2(i:Nat)(f:Rho->Ob (La D)):UX:=λy q=>(f<|era y).map λds=>.nx (y.set i<|Oa (.own ds)) q
def bP5(i:Nat)(hN:X.N.Nodup)(h:JN X e f)(hi:X.N[i]? = Oa x)(hx:Loc X.env.scope x)(hs:swapsWith e (Oa<|.Name x pos') pos.line X.env=pure false)(hf:X.fn x=true\/X.env.scope.names.lookup x=Oa .local):US X C (.Assign [.Name x pos'] e pos) (cc2 i f):=λy q fl w no=>by
 obtain⟨ds,w1,w2⟩:=xmo w;cases w2;refine#[av4 no (by intro _ z;cases z),λb as l=>G0 (ao8 hN hi hx (h (era y) ds w1) hs hf) λEn u H #[Hf,st,k]=>#[_,Hf,st.same,by rw[<- u6 as y];exact st.sl.era,?_]]
 rintro v H' zc g ⟨p,vs,z1,z2,z3,z4,z5⟩
 subst z1;exact az5 k l _ _ zc (by rw[bf8];exact st.mkOwnG g z2 z3 z4 z5) g.ext
def bv9{st:Stmt}{d:D}(h:PS X st λ_ _ _=>True):US X C st (λ_ q=>Oa<|.rt d q):=λy q fl w no=>by
 cases w;exact#[rfl,λb as l=>G0 h λ_ _ _ _=>trivial]
end
def be0:Expr->Ob (Expr×La Expr×La fh×Pos)
 | .Call f a k p=>Oa (f,a,k,p)
 | _=>Z
def cb3:Expr->Ob (Expr×Str×Pos)
 | .Attribute o m p=>Oa (o,m,p)
 | _=>Z
def ca6:Expr->Ob (Expr×CmpOp×Expr×Pos)
 | .Compare l [op] [r] p=>Oa (l,op,r,p)
 | _=>Z
def cO2:Expr->Ob (BoolOp×La Expr×Pos)
 | .BoolOp op l p=>Oa (op,l,p)
 | _=>Z
def cr5:Expr->Ob (Expr×Pos)
 | .UnaryOp .Not e p=>Oa (e,p)
 | _=>Z
def cE0:Expr->Ob (La Expr×Nat×Pos)
 | .Tuple es k p=>Oa (es,k,p)
 | _=>Z
def bQ4(h:cE0 e=Oa t):e=.Tuple t.1 t.2.1 t.2.2:=by cases e<;>first|(cases h;rfl)|cases h
def ca9(h:cO2 e=Oa t):e=.BoolOp t.1 t.2.1 t.2.2:=by cases e<;>first|(cases h;rfl)|cases h
def bV7(h:cr5 e=Oa t):e=.UnaryOp .Not t.1 t.2:=by
 unfold cr5 at h;split at h
 .cases h;rfl
 .cases h
def af2(h:be0 e=Oa t):e=.Call t.1 t.2.1 t.2.2.1 t.2.2.2:=by cases e<;>first|(cases h;rfl)|cases h
def aN4(h:cb3 e=Oa t):e=.Attribute t.1 t.2.1 t.2.2:=by cases e<;>first|(cases h;rfl)|cases h
def bl4(h:ca6 e=Oa t):e=.Compare t.1 [t.2.1] [t.2.2.1] t.2.2.2:=by
 unfold ca6 at h;split at h
 .cases h;rfl
 .cases h
structure Mc where
 x:Str
 p:Pos
 m:Str
 ap:Pos
 a:List Expr
 cp:Pos
def mcV(e:Expr):Ob Mc:=(be0 e).bind λt=>match t.2.2.1 with
 | []=>(cb3 t.1).bind λu=>(nmP u.1).map λv=>#[v.1,v.2,u.2.1,u.2.2,t.2.1,t.2.2.2]
 | _=>Z
def bD6(h:mcV e=Oa t):e=.Call (.Attribute (.Name t.x t.p) t.m t.ap) t.a [] t.cp:=by
 obtain⟨⟨f,a,k,p⟩,h1,h⟩:=xbo h;cases k with
 | cons=>cases h
 | nil =>
  obtain⟨⟨o,m,ap⟩,h2,h⟩:=xbo h;obtain⟨⟨x,q⟩,h3,h⟩:=xmo h;subst h;rw[af2 h1,aN4 h2,U1 h3]
def uNo:UD:=λ_ _=>Z
def uXo:UX:=λ_ _=>Z
def opU:CmpOp->Ob (D->D->Ob D)
 | .Eq=>Oa<|hX (.bool true) eqD
 | .NotEq=>Oa<|hX (.bool true) neD
 | .Is=>Oa isB
 | .IsNot=>Oa aC7
 | _=>Z
def cF5:Expr->Ob (Expr×Expr×Pos)
 | .Subscript a i p=>Oa (a,i,p)
 | _=>Z
def bR4(h:cF5 e=Oa t):e=.Subscript t.1 t.2.1 t.2.2:=by cases e<;>first|(cases h;rfl)|cases h
section
variable (S:Sg) (c:Kx)
def pE(e:Expr):DE:=(ev S 99).e c e
def bp0(f:Expr->DE):Nat->La Expr->Rho->Ob MD
 | _,[]=>mN
 | 0,_::es=>mO<|bp0 f es.length es
 | j+1,e::es=>mC (f e)<|bp0 f j es
def ulE(f:Expr->UD):La Expr->UL
 | []=>ulN
 | e::es=>ulC (f e)<|ulE f es
def oCc(r:Expr->UD)(t:Expr×CmpOp×Expr×Pos):UD:=match opU t.2.1 with
 | some h=>if behindInMarks t.2.1 t.2.2.1 then uNo else uB2 h (r t.1) (r t.2.2.1)
 | none=>uNo
end
section
variable {X:Cx}{C:CT}
def cc1:UE X C e uNo:=λ_ _ _ _ h _=>nomatch h
theorem bj5{f:Expr->DE}(h:∀e,JE X e<|f e):∀(es:La Expr) (j:Nat),es.length<=j->es.all pl=true->JM X i es (bp0 f j es)
 | [],_,_,_=>by unfold bp0;exact cw8
 | e::es,0,l,_=>by simp at l
 | e::es,j+1,l,p=>by
  simp only[aZ,ae]at p;exact bj6 (h e) (bj5 h es j (by simpa using l) p.2)<|G5 p.1 _ _
theorem bG3{f:Expr->DE}(h:∀e,JE X e<|f e)(hn:X.N[i]? = Oa x)(hv:Vis X.env.scope x)(h1:(x==("__debug__":Str))=false)(h2:(x==("__classdict__":Str))=false):∀(j:Nat) (es:La Expr),es[j]? = Oa (.Name x p)->es.all pl=true->JM X i es (bp0 f j es)
 | _,[],e,_=>by simp at e
 | 0,e::es,q,p=>by
  simp at q;subst q;simp only[aZ,ae]at p;exact cw7 (bj5 h es _ (ak _) p.2) hn hv h1 h2<|G5 p.1 _ _
 | j+1,e::es,q,p=>by
  simp only[aZ,ae]at p;exact bj6 (h e) (bG3 h hn hv h1 h2 j es (by simpa using q) p.2)<|G5 p.1 _ _
theorem aX1{f:Expr->UD}(h:∀e,UE X C e<|f e):∀es:La Expr,es.all pl=true->UAs X C es (ulE f es)
 | [],_=>ck6
 | e::es,p=>by
  simp only[aZ,ae]at p;exact bP8 (h e) (aX1 h es p.2)<|G5 p.1 _ _
end
def oB(f:Stmt->UX):La Stmt->UX
 | []=>aI0
 | [s]=>f s
 | s::t::r=>N9 (f s)<|oB f (t::r)
section
variable {X:Cx}{C:CT}{S:Sg}{c:Kx}
def ab4{st:Stmt}:US X C st uXo:=λ_ _ _ h=>nomatch h
theorem bi1{f:Stmt->UX}(h:∀st,US X C st<|f st):∀sts,USs X C sts (oB f sts)
 | []=>bP1
 | [s]=>bP0<|h s
 | s::t::r=>bv6 (h s)<|bi1 h (t::r)
end
structure Og5 where
 ms:cb6
 ini:List (Str×Bool×DF×Nat)
 df:List (Str×DF×Nat×Nat)
 fd:List (Str×Bool×Nat)
def Og5.fn(O:Og5)(kd:Bool):La Str:=(O.fd.filter λt=>t.2.1==kd).map (·.1)
def aT6{O:Og5}(h:O.fd.lookup f=Oa (kd,n)):f∈O.fn kd:=by
 have key:∀l:La (Str×Bool×Nat),l.lookup f=Oa (kd,n)->(f,kd,n)∈l:=λl=>by
  induction l with
  | nil=>intro h;cases h
  | cons t l ih =>
   intro h;obtain⟨y,w⟩:=t;rw[aF]at h;split at h
   .rename_i e;cases h;rw[beq_iff_eq.mp e];exact .head _
   .exact .tail _ (ih h)
 exact aV.mpr #[_,cr.mpr #[key _ h,by simp],rfl]
structure FitZ (S:Sg) (O:Og5) (C:CT) (c:Kx) (X:Cx):Prop where
 o:FitO S O.ms C O.fn c X
 make:∀x kd F n,O.ini.lookup x=Oa (kd,F,n)->cb5 X (c.up != 0) C kd x n F
 df:∀x F n j,O.df.lookup x=Oa (F,n,j)->cB8 X (c.up != 0) C x F n
theorem FitZ.inner{tn:La Str}{zd:La Nat}{scope:Scope}{C0:fL}{s0:fK}{H0:Hp}{ex:La fL}{O:Og5}(F:FitZ S O C c X)(hp:upB c=true)(hn:(G.inner c tn zd scope).N.Nodup):FitZ S O C (G.inner c tn zd scope) (E8 (c.up==2) X (G.inner c tn zd scope).N scope C0 s0 H0 ex):=by
 have hp':c.up=0\/c.up=2:=by unfold upB at hp;simpa using hp
 have e1:(c.up != 0)=(c.up==2):=by rcases hp' with e|e<;>rw[e]<;>rfl
 have e2:((G.inner c tn zd scope).up != 0)=(c.up==2):=by show(c.up - 1 != 0)=_;rcases hp' with e|e<;>rw[e]<;>rfl
 obtain⟨⟨f1,f2,f3⟩,f4,f5⟩:=F;rw[e1]at f3 f4 f5;refine#[#[f1.inner hp hn,f2,?_],?_,?_]<;>rw[e2]
 .exact λm kd F n h=>let#[k,f,fd,ps,_,z]:=f3 m kd F n h;#[k,f,fd,ps,av2,z]
 .exact λm kd F n h=>let#[k,f,fd,ps,_,z]:=f4 m kd F n h;#[k,f,fd,ps,av2,z]
 .exact λm F n j h=>let#[k,f,fd,ps,_,z]:=f5 m F n j h;#[k,f,fd,ps,av2,z]
def cO3:Expr->Ob (Expr×Operator×Expr×Pos)
 | .BinOp a o b p=>Oa (a,o,b,p)
 | _=>Z
def cb0(h:cO3 e=Oa t):e=.BinOp t.1 t.2.1 t.2.2.1 t.2.2.2:=by cases e<;>first|(cases h;rfl)|cases h
def cM3:Operator->Bool
 | .Add=>true
 | _=>false
section
variable (S:Sg) (O:Og5) (c:Kx)
def kM(e:Expr):Ob UD:=(mcV e).bind λt=>(X5 t.x c.N).bind λi=>(O.ms.lookup t.m).bind λF=>if k6 c.sc t.x&&(t.ap.endLine==t.cp.line)&&t.a.isEmpty&&F.2.2==0 then Oa (uM0 i F.1 t.m F.2.1) else Z
def kDa(y:Str)(a:La Expr):Ob UD:=(O.df.lookup y).bind λF=>(a[F.2.2]?).bind λej=>(nmP ej).bind λv=>(X5 v.1 c.N).bind λi =>if X6 c.sc y&&k6 c.sc v.1&&a.all pl&&(a.length==F.2.1&&decide (F.2.2 < a.length)) then Oa (uD i F.1<|bp0 (pE S c) F.2.2 a) else Z
def kDf(e:Expr):Ob UD:=(be0 e).bind λt=>match t.2.2.1 with
 | []=>(nmP t.1).bind λy=>kDa S O c y.1 t.2.1
 | _=>Z
def cT9(e:Expr):Ob (Str×Pos×Str×Pos):=(cb3 e).bind λu=>(nmP u.1).map λv=>(v.1,v.2,u.2.1,u.2.2)
def kFl(e:Expr):Ob UD:=(cT9 e).bind λt=>(X5 t.1 c.N).bind λi=>(O.fd.lookup t.2.2.1).bind λw=>if k6 c.sc t.1 then Oa (aw4 i w.1 t.2.2.1) else Z
def kO(r:Expr->Ob UD)(e:Expr):UD:=(r e).getD<|uP (pE S c e)
def kCl(r:Expr->Ob UD)(e:Expr):Ob UD:=(be0 e).bind λt=>match t.2.1,t.2.2.1 with
 | a::as,[]=>(nmP t.1).bind λy=>(S.fn.lookup y.1).bind λF=>if(a::as).any (λx=>(r x).isSome)&&X6 c.sc y.1&&(a::as).length==F.2&&(a::as).all pl then Oa (O0 F.1<|ulE (kO S c r) (a::as)) else Z
 | _,_=>Z
def kLn(r:Expr->Ob UD)(e:Expr):Ob UD:=(be0 e).bind λt=>match t.2.1,t.2.2.1 with
 | [a],[]=>(nmP t.1).bind λy=>(r a).bind λg=>if biB S c "len" y.1&&pl a then Oa (aO6 g) else Z
 | _,_=>Z
def lcE:Expr->Ob (Expr×Expr×Expr×Scope×Pos)
 | .ListComp elt [#[tgt,iter,[],0]] sc p=>Oa (elt,tgt,iter,sc,p)
 | _=>Z
def kX1(r:Expr->Ob UD)(e:Expr):Ob UD:=match ca6 e with
 | some t=>if(r t.1).isSome || (r t.2.2.1).isSome then Oa (oCc (kO S c r) t) else Z
 | none=>(match cE0 e with
  | some t=>if t.1.any (λx=>(r x).isSome)&&t.1.all pl&&decide (t.1.length<=1000) then Oa (ag0<|ulE (kO S c r) t.1) else Z
  | none=>(match cF5 e with
   | some t=>if pl t.2.1 then(r t.1).map λg=>bw7 g (kO S c r t.2.1) else Z
   | none=>(match cO3 e with
    | some t=>if((r t.1).isSome || (r t.2.2.1).isSome)&&cM3 t.2.1 then Oa (uB2 (hX bad B4) (kO S c r t.1)<|kO S c r t.2.2.1) else Z
    | none=>(match kCl S c r e with
     | some g=>Oa g
     | none=>kLn S c r e))))
def kX:Nat->Expr->Ob UD
 | 0,_=>Z
 | n+1,e=>match kM O c e with
  | some g=>Oa g
  | none=>(match kDf S O c e with
   | some g=>Oa g
   | none=>(match kFl O c e with
    | some g=>Oa g
    | none=>kX1 S c (kX n) e))
def kE(e:Expr):UD:=kO S c (kX S O c 5) e
def kT0(e:Expr):Ob UB:=match ca6 e with
 | some t=>if(kX S O c 4 t.1).isSome || (kX S O c 4 t.2.2.1).isSome then Oa (uTB<|oCc (kO S c<|kX S O c 4) t) else Z
 | none=>if(be0 e).isSome then(kX S O c 5 e).map uTB else Z
def kTq(e:Expr):Ob UB:=match cr5 e with
 | some t=>(kT0 S O c t.1).map bm9
 | none=>kT0 S O c e
def kT1(e:Expr):UB:=(kTq S O c e).getD<|uTP ((ev S 99).t c e)
def kTc(op:BoolOp):La Expr->UB
 | []=>λ_ _=>Z
 | [e]=>kT1 S O c e
 | e::es=>match op with
  | .And=>bn0 (kT1 S O c e)<|kTc op es
  | .Or=>uOr (kT1 S O c e)<|kTc op es
def kT(e:Expr):UB:=match cO2 e with
 | some t=>if t.2.1.any (λx=>(kTq S O c x).isSome) then kTc S O c t.1 t.2.1 else uTP ((ev S 99).t c e)
 | none=>kT1 S O c e
def kN(v:Expr):Ob (Rho->Ob Fo):=(be0 v).bind λt=>match t.2.2.1 with
 | []=>(nmP t.1).bind λx=>(O.ini.lookup x.1).bind λF=>if X6 c.sc x.1&&t.2.1.length==F.2.2&&t.2.1.all pl then Oa (aS0 F.1 F.2.1<|evA (pE S c) t.2.1) else Z
 | _=>Z
def kL(i:Nat)(v:Expr):Ob UX:=if c.own.contains i then Oa (cc2 i<|(ev S 98).n c v) else Z
def cpB(x:Str)(p' pv:Pos)(tg it:Expr)(sc:Scope)(w:Str)(i:Nat)(c c':Kx):Bool:=upB c&&an7 c.N c'.N 1 [i] c.sc sc&&ak0 c'.N&&pl it&&(c.sc.names.lookup x==Oa .local)&&(c.df&&p'.line==pv.line && !(sc.names.any λ(n,k)=>n==x&&(k == .local || k == .cell)))&&k6 c.sc w&&(c.N[i]? == Oa w)
 && (match nmP tg with|some y=>aK6 c' y.1&&X5 y.1 c'.N==Oa 0|none=>false)
def kCm(x:Str)(p':Pos)(n:Nat)(v:Expr):Ob UX:=(lcE v).bind λt=>match (c.hc.lookup (t.2.2.2.2.line,t.2.2.2.2.col)).getD [] with
 | [i]=>(kX S O (inner c (P2 t.2.1) [i] t.2.2.2.1) 5 t.1).bind λg=>if(P2 t.2.1).length==1&&cpB x p' t.2.2.2.2 t.2.1 t.2.2.1 t.2.2.2.1 ((c.N[i]?).getD "") i c (inner c (P2 t.2.1) [i] t.2.2.2.1) then Oa (bw8 c.gb n i (evI S (ev S 98) c t.2.1 t.2.2.1) g) else Z
 | _=>Z
def kSx(i:Nat)(f:UD):UX:=bif c.up==2 then aw2 c.gb i f else bm8 i f
def cu9(x:Str)(p':Pos)(v:Expr):UX:=match X5 x c.N with
 | some i=>if aK6 c x && !(isC v) then(match kN S O c v with
  | some g=>bw6 i g
  | none=>(match kL S c i v with
   | some g=>g
   | none=>kSx c i (kE S O c v))) else(kCm S O c x p' i v).getD uXo
 | none=>uXo
def cL1(u:Expr×Str×Pos)(v:Expr):Ob UX:=(nmP u.1).bind λw=>(X5 w.1 c.N).bind λi=>(O.fd.lookup u.2.1).bind λk=>if k6 c.sc w.1 && !(isC v) then Oa (aw3 i k.1 u.2.1<|kE S O c v) else Z
def kAp(e:Expr):Ob UX:=(mcV e).bind λt=>(X5 t.x c.N).bind λi=>match t.a with
 | [a]=>if t.m == "append" && c.own.contains i&&k6 c.sc t.x&&(t.ap.endLine==t.cp.line)&&pl a then Oa (aO7 i<|kE S O c a) else Z
 | _=>Z
def kAs(v:Expr):La Expr->UX
 | [tg]=>(match nmP tg with
  | some t=>cu9 S O c t.1 t.2 v
  | none=>(match cb3 tg with
   | some u=>(cL1 S O c u v).getD uXo
   | none=>uXo))
 | _=>uXo
def kRa(c:Kx)(e:Expr):UX:=match xRa c (Oa e) [] with
 | some (.rt d)=>λ_ q=>Oa<|.rt d q
 | _=>uXo
def fzU(g:UX):Ob (La Nat)->UX
 | none=>g
 | some l=>l.foldl (λg i=>cD4 i g) g
def kSt:Nat->Stmt->UX
 | 0,_=>uXo
 | n+1,st=>fzU (match st with
  | .Return (Oa e) _=>ab0<|kE S O c e
  | .If t a b _=>uIf (kT S O c t) (oB (kSt n) a)<|oB (kSt n) b
  | .Assign ts v _=>kAs S O c v ts
  | .Expr e _=>if isC e then uXo else(kAp S O c e).getD (uEx<|kE S O c e)
  | .While t a [] _=>if c.df then aX2 (kT S O c t) (oB (kSt n) a) else uXo
  | .Raise (Oa e) Z _=>kRa c e
  | _=>uXo) (c.fz.lookup (bE3 st))
end
section
variable {X:Cx}{S:Sg}{O:Og5}{C:CT}{c:Kx}
def bB8(F:FitZ S O C c X)(e:Expr):JE X e (pE S c e):=(az4 S 99).e F.o.fit e
def cL0(F:FitZ S O C c X)(h:kM O c e=Oa g):UE X C e g:=by
 obtain⟨t,h1,h0⟩:=xbo h
 clear h
 rw[bD6 h1];obtain⟨i,h2,h⟩:=xbo h0;obtain⟨⟨kd,Fm,n⟩,h3,h⟩:=xbo h;split at h
 .rename_i hb;simp only[ae,beq_iff_eq,List.isEmpty_iff]at hb;obtain⟨⟨⟨b1,b3⟩,b4⟩,b5⟩:=hb;obtain⟨v1,v2,v3⟩:=M2 F.o.fit b1;have M:=F.o.mts _ _ _ _ h3;cases h;obtain⟨x,p,m,ap,a,cp⟩:=t;cases b4;cases b5;exact bw3 i M (F.o.foc kd) (F.o.fit.slot h2) v1 v2 v3 (by simpa using b3)
 .cases h
def cu4(F:FitZ S O C c X)(h:kDf S O c e=Oa g):UE X C e g:=by
 obtain⟨⟨f,a,k,p⟩,h1,h0⟩:=xbo h
 clear h
 rw[af2 h1];cases k with
 | cons=>cases h0
 | nil =>
  obtain⟨⟨y,py⟩,h2,h⟩:=xbo h0;rw[U1 h2];obtain⟨⟨Fn,n,j⟩,h3,h⟩:=xbo h;obtain⟨ej,h4,h⟩:=xbo h;obtain⟨⟨v,pv⟩,h5,h⟩:=xbo h;obtain⟨i,h6,h⟩:=xbo h;split at h
  .rename_i hb;cases h;simp only[ae,beq_iff_eq,decide_eq_true_eq]at hb;obtain⟨⟨⟨b1,b2⟩,b3⟩,b4,b5⟩:=hb;obtain⟨g1,g2⟩:=M5 F.o.fit b1;obtain⟨v1,v2,v3⟩:=M2 F.o.fit b2;have hj:a[j]? = Oa (.Name v pv):=by rw[U1 h5]at h4;exact h4
   have J:=bG3 (bB8 F) (F.o.fit.slot h6) v1 v2 v3 j a hj b3;cases a with
   | nil=>simp at hj
   | cons e es =>
    have b3':=b3;simp only[aZ,ae]at b3';exact cD3 i (F.df _ _ _ _ h3) g1 g2 (F.o.fit.slot h6) v1 v2 v3 J b4 (G5 b3'.1 _ _)<|(n6 p _).trans (U0 p _ b3'.2)
  .cases h
def cu3(F:FitZ S O C c X)(h:kFl O c e=Oa g):UE X C e g:=by
 obtain⟨⟨x,p,f,pos⟩,h1,h⟩:=xbo h;obtain⟨⟨e0,f',p'⟩,g1,g⟩:=xbo h1;obtain⟨⟨y,py⟩,g2,g3⟩:=xmo g;cases g3;obtain⟨i,h2,h⟩:=xbo h;obtain⟨⟨kd,n⟩,h3,h⟩:=xbo h;split at h
 .rename_i hb;cases h;obtain⟨v1,v2,v3⟩:=M2 F.o.fit hb;rw[aN4 g1,U1 g2];exact ck9 i (F.o.foc _) (aT6 h3) (F.o.fit.slot h2) v1 v2 v3 rfl
 .cases h
def am9(F:FitZ S O C c X){r:Expr->Ob UD}(R:∀e g,r e=Oa g->UE X C e g)(e:Expr):UE X C e (kO S c r e):=by
 unfold kO;cases h:r e with
 | none=>exact bP9<|bB8 F e
 | some g=>exact R e g h
def bF0(F:FitZ S O C c X)(h:opU op=Oa k):OpD X (eU op) k:=by
 cases op<;>cases h
 .exact(bC5 F.o.fit.units).x
 .exact(ce0 F.o.fit.units).x
 .exact ce1
 .exact aR9
def cu7(F:FitZ S O C c X){r:Expr->UD}(R:∀e,UE X C e<|r e)(t:Expr×CmpOp×Expr×Pos):UE X C (.Compare t.1 [t.2.1] [t.2.2.1] t.2.2.2) (oCc r t):=by
 unfold oCc;split
 .rename_i k hk;split
  .exact cc1
  .rename_i hm;exact cl0 (bF0 F hk) (R _) (R _) (by simpa using hm)
 .exact cc1
def cu6(F:FitZ S O C c X){r:Expr->Ob UD}(R:∀e g,r e=Oa g->UE X C e g)(h:kCl S c r e=Oa g):UE X C e g:=by
 obtain⟨⟨f,a,k,p⟩,h1,h0⟩:=xbo h
 clear h
 rw[af2 h1];dsimp only at h0 |-;split at h0
 .obtain⟨⟨y,py⟩,h2,h⟩:=xbo h0;rw[U1 h2];obtain⟨⟨Fn,n⟩,h3,h⟩:=xbo h;split at h
  .rename_i a as hb;cases h;simp only[ae,beq_iff_eq]at hb;obtain⟨⟨⟨_,b1⟩,b2⟩,b3⟩:=hb;obtain⟨g1,g2⟩:=M5 F.o.fit b1;have b3':=b3;simp only[aZ,ae]at b3';exact bw4 (F.o.fit.fns _ _ _ h3) F.o.fit.units g1 g2 (aX1 (am9 F R) _ b3) b2 (G5 b3'.1 _ _)<|(n6 p _).trans (U0 p _ b3'.2)
  .cases h
 .cases h0
def cu2(F:FitZ S O C c X){r:Expr->Ob UD}(R:∀e g,r e=Oa g->UE X C e g)(h:kLn S c r e=Oa g):UE X C e g:=by
 obtain⟨⟨f,a,k,p⟩,h1,h0⟩:=xbo h
 clear h
 rw[af2 h1];dsimp only at h0 |-;split at h0
 .obtain⟨⟨y,py⟩,h2,h⟩:=xbo h0;obtain⟨g1,h3,h⟩:=xbo h;split at h
  .rename_i hb;cases h;simp only[ae]at hb;obtain⟨k0,k1,k2⟩:=U5 F.o.fit hb.1;rw[U1 h2];dsimp only at k0 |-;rw[k0];exact bQ0 k1 k2 (R _ _ h3)<|G5 hb.2 [] _
  .cases h
 .cases h0
def cu1(F:FitZ S O C c X){r:Expr->Ob UD}(R:∀e g,r e=Oa g->UE X C e g)(h:kX1 S c r e=Oa g):UE X C e g:=by
 unfold kX1 at h;split at h
 .rename_i t ht;rw[bl4 ht];split at h
  .cases h;exact cu7 F (am9 F R) t
  .cases h
 .split at h
  .rename_i t ht;rw[bQ4 ht];split at h
   .rename_i hb;cases h;simp only[ae,decide_eq_true_eq]at hb;exact ck7 (aX1 (am9 F R) _ hb.1.2) hb.2
   .cases h
  .split at h
   .rename_i t ht;split at h
    .rename_i hp;obtain⟨g1,h2,h3⟩:=xmo h;subst h3;rw[bR4 ht];exact ck8 (R _ _ h2) (am9 F R _)<|bA8 hp
    .cases h
   .split at h
    .rename_i t ht;split at h
     .rename_i hb;cases h;simp only[ae]at hb;obtain⟨a,op,b,p⟩:=t;rw[cb0 ht];have:op=.Add:=by cases op<;>first|rfl|cases hb.2
      subst this;exact cl1 bi0.x (am9 F R _)<|am9 F R _
     .cases h
    .split at h
     .rename_i g1 h1;cases h;exact cu6 F R h1
     .exact cu2 F R h
theorem aF4(F:FitZ S O C c X):∀n e g,kX S O c n e=Oa g->UE X C e g
 | 0,e,g,h=>by cases h
 | n+1,e,g,h=>by
  unfold kX at h;split at h
  .rename_i g1 h1;cases h;exact cL0 F h1
  .split at h
   .rename_i g1 h1;cases h;exact cu4 F h1
   .split at h
    .rename_i g1 h1;cases h;exact cu3 F h1
    .exact cu1 F (aF4 F n) h
def cs9(h:lcE e=Oa t):e=.ListComp t.1 [#[t.2.1,t.2.2.1,[],0]] t.2.2.2.1 t.2.2.2.2:=by
 unfold lcE at h;split at h
 .cases h;rfl
 .cases h
def cq2{l:La Str}(h:(l.length==1)=true):l.length=1:=by simpa using h
def aF5(F:FitZ S O C c X)(e:Expr):UE X C e (kE S O c e):=am9 F (aF4 F 5) e
def bF2(F:FitZ S O C c X)(h:kT0 S O c e=Oa g):UT X C e g:=by
 unfold kT0 at h;split at h
 .rename_i t ht;split at h
  .cases h;rw[bl4 ht];unfold oCc;split
   .rename_i k hk;split
    .exact λ_ _ _ _ h _=>nomatch h
    .rename_i hm;exact ck0 (bF0 F hk) (am9 F (aF4 F 4) _) (am9 F (aF4 F 4) _) (by simpa using hm)
   .exact λ_ _ _ _ h _=>nomatch h
  .cases h
 .split at h
  .rename_i hc;obtain⟨g1,h1,h2⟩:=xmo h;subst h2;obtain⟨t,ht⟩:=dM.mp hc;refine cj8 (aF4 F 5 e g1 h1) ?_;rw[af2 ht];intro _;rfl
  .cases h
def ay6(F:FitZ S O C c X)(e:Expr):UT X C e (kT1 S O c e):=by
 unfold kT1;cases h:kTq S O c e with
 | none=>exact bf5<|(az4 S 99).t F.o.fit e
 | some g =>
  unfold kTq at h;split at h
  .rename_i t ht;obtain⟨g1,h1,h2⟩:=xmo h;subst h2;rw[bV7 ht];exact cj9<|bF2 F h1
  .exact bF2 F h
theorem ba5(F:FitZ S O C c X)(op:BoolOp):∀es:La Expr,UW X C op es (kTc S O c op es)
 | []=>λ_ _ _ _ h _=>nomatch h
 | [e]=>by
  cases op
  .exact bO9 (ay6 F e)
  .exact cj6 (ay6 F e)
 | e::e'::es=>by
  cases op
  .exact cj7 (ay6 F e) (ba5 F .And (e'::es))
  .exact cD0 (ay6 F e) (ba5 F .Or (e'::es))
def cf8(F:FitZ S O C c X)(e:Expr):UT X C e (kT S O c e):=by
 unfold kT;split
 .rename_i t ht;split
  .rw[ca9 ht];exact(ba5 F _ _).ut
  .exact bf5 ((az4 S 99).t F.o.fit e)
 .exact ay6 F e
def cK9(F:FitZ S O C c X)(h:kN S O c v=Oa g):UN X C v g:=by
 obtain⟨⟨f,a,k,p⟩,h1,h0⟩:=xbo h
 clear h
 rw[af2 h1];dsimp only at h0 |-;split at h0
 .obtain⟨⟨x,px⟩,h2,h⟩:=xbo h0;rw[U1 h2];obtain⟨⟨kd,Fm,n⟩,h3,h⟩:=xbo h;split at h
  .rename_i hb;cases h;simp only[ae,beq_iff_eq]at hb;obtain⟨⟨b1,b2⟩,b3⟩:=hb;obtain⟨g1,g2⟩:=M5 F.o.fit b1;have M:=F.make _ _ _ _ h3;cases a with
   | nil =>
    cases b2;exact bw1 M g1 g2
   | cons e es =>
    have b3':=b3;simp only[aZ,ae]at b3';exact bP7 M g1 (ay8 (bB8 F) (_::_)) b2 g2 (G5 b3'.1 _ _)<|(n6 p _).trans (U0 p _ b3'.2)
  .cases h
 .cases h0
def cu5(F:FitZ S O C c X)(hi:X5 x c.N=Oa n)(h:kCm S O c x p' n v=Oa g):US X C (.Assign [.Name x p'] v p) g:=by
 obtain⟨⟨elt,tg,it,sc,pv⟩,h1,h0⟩:=xbo h
 clear h
 rw[cs9 h1];dsimp only at h0 |-;split at h0
 .rename_i i _;obtain⟨g1,h2,h⟩:=xbo h0;split at h
  .rename_i hb;cases h;simp only[ae]at hb;obtain⟨l1,hb⟩:=hb;have l1:=cq2 l1;unfold cpB at hb;simp only[ae]at hb;obtain⟨⟨⟨⟨⟨⟨⟨⟨c0,c1⟩,c2⟩,c3⟩,c4⟩,c5⟩,c6⟩,c7⟩,c8⟩:=hb;have hn:=ae7 c2;have hl':X.env.scope.names.lookup x=Oa .local:=by rw[F.o.fit.sc];simpa using c4
   have hsw:swapsWith (.ListComp elt [#[tg,it,[],0]] sc pv) (Oa<|.Name x p') p.line X.env=pure true:=by
    rw[ao6,be1 F.o.fit c5.1.1,c5.1.2,c5.2];unfold Env.kindOf;rw[hl'];rfl
   obtain⟨v1,v2,v3⟩:=M2 F.o.fit c6;split at c8
   .rename_i y hy;simp only[ae]at c8;obtain⟨d1,d2⟩:=c8;refine bw0 n i (by rw[F.o.fit.N];exact F.o.fit.nd) (aG1 c1 F.o.fit.N F.o.fit.sc) F.o.fit.hu (bH0 (az4 S 98) F.o.fit tg it) (λC0 s0 H0 ex=>?_) (λC0 s0 H0 ex=>aF4 (F.inner c0 hn) 5 elt g1 h2) (by rw[F.o.fit.N];simpa using c7) v1 v2 v3 (F.o.fit.slot hi) hl' hsw F.o.fit.calm (aJ8 c3 _);have Fi:=F.o.fit.inner (C:=C0) (s0:=s0) (H0:=H0) (ex:=ex) c0 hn;obtain⟨e1,e2⟩:=am6 Fi d1;have key:∀t,t=Expr.Name y.1 y.2->JG (E8 (c.up==2) X (G.inner c (P2 tg) [i] sc).N sc C0 s0 H0 ex) t (D1 0):=λt e=>by subst e;exact bj8 0 hn (Fi.slot<|by simpa using d2) e1 e2
    exact key tg<|U1 hy
   .cases c8
  .cases h
 .cases h0
def bW9(F:FitZ S O C c X)(x:Str)(p':Pos)(v:Expr)(p:Pos):US X C (.Assign [.Name x p'] v p) (cu9 S O c x p' v):=by
 have nd:X.N.Nodup:=by rw[F.o.fit.N];exact F.o.fit.nd
 unfold cu9;split
 .rename_i i hi;split
  .rename_i h;simp only[ae,bj]at h;obtain⟨l1,l2⟩:=am6 F.o.fit h.1;split
   .rename_i g hg;exact ck2 i nd (cK9 F hg) (F.o.fit.slot hi) l1 (P7 h.2 _ _ _) l2
   .split
    .rename_i g hg;unfold kL at hg;split at hg
     .cases hg;exact bP5 i nd ((az4 S 98).n F.o.fit v) (F.o.fit.slot hi) l1 (P7 h.2 _ _ _) l2
     .cases hg
    .unfold kSx;cases c.up==2
     .exact bv8 i nd (aF5 F v) (F.o.fit.slot hi) l1 (P7 h.2 _ _ _) l2
     .exact bP3 i nd (aF5 F v) (F.o.fit.slot hi) l1 (P7 h.2 _ _ _) l2
  .cases hg:kCm S O c x p' i v with
   | none=>exact ab4
   | some g=>exact cu5 F hi hg
 .exact ab4
def cu8(F:FitZ S O C c X)(v:Expr)(ts:La Expr)(p:Pos):US X C (.Assign ts v p) (kAs S O c v ts):=by
 unfold kAs;split
 .rename_i tg;split
  .rename_i t ht;rw[U1 ht];exact bW9 F _ _ _ _
  .split
   .rename_i u hu;cases hg:cL1 S O c u v with
    | none=>exact ab4
    | some g =>
     obtain⟨⟨x,px⟩,h2,h⟩:=xbo hg;obtain⟨i,h3,h⟩:=xbo h;obtain⟨⟨kd,n⟩,h4,h⟩:=xbo h;split at h
     .rename_i hb;simp only[ae,bj]at hb;obtain⟨v1,v2,v3⟩:=M2 F.o.fit hb.1;rw[aN4 hu,U1 h2];cases h;exact bP4 i (F.o.foc _) (aT6 h4) (F.o.fit.slot h3) v1 v2 v3 (aF5 F v)<|P7 hb.2 _ _ _
     .cases h
   .exact ab4
 .exact ab4
def cA1{st:Stmt}{g:UX}(h:US X C st g):∀o,US X C st (fzU g o)
 | none=>h
 | some l=>by
  unfold fzU
  induction l generalizing g with
  | nil=>exact h
  | cons i l ih=>exact ih<|ck3 i h
theorem ba6(F:FitZ S O C c X):∀n st,US X C st (kSt S O c n st)
 | 0,st=>ab4
 | n+1,st=>by
  have ih:=bi1 (ba6 F n);unfold kSt;refine cA1 ?_ _;split
  .exact ck1 (aF5 F _)
  .exact cD1 (cf8 F _) (ih _) (ih _)
  .exact cu8 F _ _ _
  .split
   .exact ab4
   .rename_i e p hc;have hs:=P7 (e:=e) (by simpa using hc) Z p.line X.env;cases hg:kAp S O c e with
    | none=>exact bP6 (aF5 F _) hs
    | some g =>
     obtain⟨⟨x,px,m,ap,a,cp⟩,h1,h0⟩:=xbo hg;obtain⟨i,h2,h⟩:=xbo h0;rw[bD6 h1]at hs |-;dsimp only at h hs |-;split at h
     .rename_i a0;split at h
      .rename_i hb;cases h;simp only[ae,beq_iff_eq]at hb;obtain⟨⟨⟨⟨b1,b2⟩,b3⟩,b4⟩,b5⟩:=hb;subst b1;obtain⟨v1,v2,v3⟩:=M2 F.o.fit b3;have z:=G5 b5 [] X.env;exact ck4 i (aF5 F _) (F.o.fit.slot h2) v1 v2 v3 (by rw[z];rfl) (by simpa using b4) z hs
      .cases h
     .cases h
  .split
   .rename_i h;exact bv7 (cf8 F _) (ih _)<|F.o.fit.po h
   .exact ab4
  .exact bu5 (P:=λe f=>US X C (.Raise (Oa e) Z _) (match f [] with|some (.rt d)=>λ_ q=>Oa (.rt d q)|_=>uXo)) F.o.fit (λ_=>ab4) (λt n g _ _ _ _ _ fl=>by cases fl<;>first|exact ab4|exact bv9<|aR2 t n g F.o.fit.calm bb0 rfl) _
  .exact ab4
end
def cU2:Stmt->La Stmt
 | .ClassDef _ _ _ b _ _ _ _ _ _ _=>b
 | _=>[]
structure KCl (K:af) (C:fL) (cl:Str) (fn:List Str):Prop where
 ns:aJ K eW cl=Oa (Oa<|.ref C)
 make:PySem.W.makesIn K C=true
 kp:aN K (.ref C)=true
 foc:FoC K C fn
def cu0{K:af}{C:fL}{cl:Str}{fn:La Str}(a:aJ K eW cl=Oa (Oa<|.ref C))(b:PySem.W.makesIn K C=true)(c:aN K (.ref C)=true)(pg:PySem.W.plainGet K C fI=true)(hd:PySem.W.hasDictIn K C=true)(po:PySem.W.plainOver K C=true)
  (sa:PySem.W.findIn K (.ref C) "__setattr__" = Oa (Oa<|.builtin "object.__setattr__")) (is:cM0 K C=true) (n:∀f∈fn,PySem.W.findIn K (.ref C) f=Oa Z):KCl K C cl fn:=#[a,b,c,#[pg,hd,po,sa],is,n]
def cK7{K:af}{C:fL}{m qual:Str}{st:Stmt}{f:fL}{oc:fJ}{od:Ob fL}{sl:Array (Ob fJ)}{kV dc pm:fJ}{an:Ob fL}{cd ct:fJ}(a:PySem.W.findIn K (.ref C) m=Oa (Oa<|.ref f))(i:PySem.W.isFn K (.ref f)=true)
  (l:K.lookup f=Oa #[oc,od,.func<|bB m qual (S8 st) (G8 st) (B8 st) .none kV dc pm an cd ct,sl]) (c:cf K cd qual=true) (k:aN K (.ref f)=true):KM K C m qual st:=#[f,oc,od,sl,kV,dc,pm,an,cd,ct,a,i,l,c,k]
section
variable {P:Program}{w:World}{K:PySem.W.Frag}{mg:Str->Ob Value}{base:Heap}{cs:La (Str×D)}{bl:La Str}{C:CT}{tab:Tab}{O:Og5}
def bf3(bz:Bool)(P:eX)(w:World)(K:af)(mg:Str->Ob fJ)(base:Heap)(C:CT)(k:Nat)(df:La (Str×DF×Nat×Nat)):Prop:=∀x F n j,df.lookup x=Oa (F,n,j)->∃(f:fL) (fd:eZ) (ps:La Str),
 FnOk P w K mg base (CXb K P w bz) k f fd ps (spD K C n F)/\mg x=Oa (.ref f)/\aN K (.ref f)=true/\K0 K fd ps []
def bf3.cons{k:Nat}{df:La (Str×DF×Nat×Nat)}{x:Str}{F:DF}{n j:Nat}(T:bf3 bz P w K mg base C k df)(h:∃(f:fL) (fd:eZ) (ps:La Str),FnOk P w K mg base (CXb K P w bz) k f fd ps (spD K C n F)/\mg x=Oa (.ref f)/\aN K (.ref f)=true/\K0 K fd ps []):
  bf3 bz P w K mg base C k ((x,F,n,j)::df):=λy G m i e=>by
 rw[aF]at e;split at e
 .rename_i q;cases e;simp only[beq_iff_eq]at q;subst q;exact h
 .exact T y G m i e
theorem bf3.mono{df:La (Str×DF×Nat×Nat)}(T:bf3 bz P w K mg base C j df)(h:j<=k):bf3 bz P w K mg base C k df:=λx F n i e=>by
 obtain⟨f,fd,ps,h1,h2⟩:=T x F n i e;exact#[f,fd,ps,h1.mono h,h2]
structure ZOk (bz:Bool) (P:eX) (w:World) (K:af) (mg:Str->Option fJ) (base:Heap) (C:CT) (k:Nat) (tab:Tab) (O:Og5):Prop where
 t:TOk bz P w K mg base k tab
 m:MOk bz P w K mg base C k O.ms
 i:∀x kd F n,O.ini.lookup x=Oa (kd,F,n)->∃j f fd ps,j+1<=k/\FnOk P w K mg base (CXb K P w bz) j f fd ps (spD K C (n+1) F)/\Mk K (C kd) f/\K0 K fd ps []/\mg x=Oa (.ref<|C kd)
 d:bf3 bz P w K mg base C k O.df
theorem ZOk.mono(V:ZOk bz P w K mg base C j tab O)(h:j<=k):ZOk bz P w K mg base C k tab O where
 t:=V.t.mono h
 m:=V.m.mono h
 i:=λx kd F n e=>by obtain⟨i,f,fd,ps,h1,h2⟩:=V.i x kd F n e;exact#[i,f,fd,ps,aI h1 h,h2]
 d:=V.d.mono h
def cN5{f:fL}{cdv:fJ}{A:eY}{outer:La Env}{s:fK}{H:Hp}{E:XK}{qual:Str}(M:Md K mg cs bl)(V:ZOk bz P w K mg base C k tab O)(Fc:∀kd,FoC K (C kd)<|O.fn kd){d:Fd}(hu:d.up=(bif bz then 2 else 0))(nt:bz=true->NT K mg)(ok:d.okB=true)(hr:Room k (A.deeper<|envOfC qual (B8 d.st) s.heap.objs.size f cdv)):
  FitZ #[tab,cs,bl] O C d.c (cxY bz P w K mg base d.N qual (B8 d.st) f cdv A outer s H E):=by
 have Sc:=Fd.sc ok;have eb:(d.up != 0)=bz:=by rw[hu];cases bz<;>rfl
 have fit:Fit #[tab,cs,bl] d.c (cxY bz P w K mg base d.N qual (B8 d.st) f cdv A outer s H E):=by
  refine#[rfl,rfl,Sc.nd,rfl,λ_=>co4,λh=>?_,hr.units,λ_=>#[λ_=>rfl,Sc.kind],λx F n h=>?_,M.css,M.bls]
  .have h:d.up=2:=h;cases bz
   .rw[hu]at h;cases h
   .exact#[cE4,nt rfl]
  .show bu1 _ (d.up != 0) _ _ _;rw[eb];exact(V.t x F n h).imp (λ#[f',fd',ps,h1,h2,h3,h4]=>#[k,f',fd',ps,bn8,h1,hr,h2,h3,h4]) id
 refine#[#[fit,Fc,λm kd F n h=>?_],λx kd F n h=>?_,λx F n j h=>?_]
 .show bm3 _ (d.up != 0) _ _ _ _ _;rw[eb];obtain⟨f',fd',ps,h1,h2,h3⟩:=V.m m kd F n h;exact#[k,f',fd',ps,bn8,h1,hr,h2,h3]
 .show cb5 _ (d.up != 0) _ _ _ _ _;rw[eb];obtain⟨j,f',fd',ps,h1,h2,h3,h4,h5⟩:=V.i x kd F n h;exact#[j,f',fd',ps,bn8,h2,hr.mono h1,h3,h4,h5]
 .show cB8 _ (d.up != 0) _ _ _ _;rw[eb];obtain⟨f',fd',ps,h1,h2,h3,h4⟩:=V.d x F n j h;exact#[k,f',fd',ps,bn8,h1,hr,h2,h3,h4]
def rdK(tab:Tab)(cs:La (Str×D))(bl:La Str)(O:Og5)(d:Fd):DF:=S6 (oB (kSt #[tab,cs,bl] O d.c 9)<|G8 d.st) d.N.length
def rdJ(tab:Tab)(cs:La (Str×D))(bl:La Str)(O:Og5)(d:Fd):FnD:=bS0 (oB (kSt #[tab,cs,bl] O d.c 9)<|G8 d.st) d.N.length
def kfn(V:ZOk bz P w K mg base C k tab O)(M:Md K mg cs bl)(Fc:∀kd,FoC K (C kd)<|O.fn kd)(d:Fd)(hu:d.up=(bif bz then 2 else 0))(nt:bz=true->NT K mg)(ok:d.okB=true)(Fn:Fun K d.x qual d.st f fd):FnOk P w K mg base (CXb K P w bz) (k+1) f fd d.ps (spD K C d.ps.length<|rdK tab cs bl O d) :=
 bK5 (N:=d.N) Fn (Fd.sc ok) λcdv A outer s H E hr=>bi1 (ba6 (cN5 M V Fc hu nt ok hr) 9) _
def ZOk.addM(V:ZOk bz P w K mg base C k tab O)(M:Md K mg cs bl)(Fc:∀kd,FoC K (C kd)<|O.fn kd)(kd:Bool)(d:Fd)(h:KM K (C kd) d.x qual d.st)(F:DF)(n:Nat)(e:rdK tab cs bl O d=F:=by kernel_rfl)(hp:d.ps.length=n+1:=by rfl)(hu:d.up=(bif bz then 2 else 0):=by rfl)(nt:bz=true->NT K mg:=by intro h;cases h)(ok:d.okB=true:=by kernel_rfl)(bd:BdM d qual:=by repeat (first|exact rfl|intro _)):ZOk bz P w K mg base C (k+1) tab { O with ms:=(d.x,kd,F,n)::O.ms }:=by
 subst e;obtain⟨f,oc,od,sl,kV,dc,pm,an,cd,ct,a,i,l,cc,kk⟩:=h;have Fn:=bb9 l cc kk;have U:=V.mono (bM k);have q:=kfn V M Fc d hu nt ok Fn;rw[hp]at q;exact#[U.t,U.m.cons #[f,_,d.ps,q,#[a,i,kk],.all<|ua (bd kV dc pm an cd ct)],U.i,U.d]
def bW5{z:Type}{l:La (Str×z)}{p:Str->z->Prop}{x:Str}{a:z}(h:p x a)(t:∀(y:Str) (b:z),l.lookup y=Oa b->p y b):∀(y:Str) (b:z),((x,a)::l).lookup y=Oa b->p y b:=λy b e=>by
 rw[aF]at e;split at e
 .rename_i q;cases e;rw[beq_iff_eq.mp q];exact h
 .exact t y b e
def ZOk.addI(V:ZOk bz P w K mg base C k tab O)(M:Md K mg cs bl)(Fc:∀kd,FoC K (C kd)<|O.fn kd)(kd:Bool){cl:Str}{fn:La Str}(c:KCl K (C kd) cl fn)(d:Fd)(h:KM K (C kd) "__init__" qual d.st)(hx:d.x = "__init__")(F:DF)(n:Nat)(e:rdK tab cs bl O d=F:=by kernel_rfl)(hp:d.ps.length=n+1:=by rfl)(hu:d.up=(bif bz then 2 else 0):=by rfl)(nt:bz=true->NT K mg:=by intro h;cases h)(ok:d.okB=true:=by kernel_rfl)(bd:BdM d qual:=by repeat (first|exact rfl|intro _)):ZOk bz P w K mg base C (k+2) tab { O with ini:=(cl,kd,F,n)::O.ini }:=by
 subst e;obtain⟨f,oc,od,sl,kV,dc,pm,an,cd,ct,a,i,l,cc,kk⟩:=h;rw[<- hx]at l;have Fn:=bb9 l cc kk;have U:=V.mono (show k<=k+2 by omega);have q:=kfn V M Fc d hu nt ok Fn;rw[hp]at q;refine#[U.t,U.m,λx kd' F' n' e=>?_,U.d];exact bW5 (p:=λx (t:Bool×DF×Nat)=>∃j f fd ps,j+1<=k+2/\FnOk P w K mg base (CXb K P w bz) j f fd ps (spD K C (t.2.2+1) t.2.1)/\Mk K (C t.1) f/\K0 K fd ps []/\mg x=Oa (.ref<|C t.1)) #[k+1,f,_,d.ps,ak _,q,#[c.make,a,i,c.kp],.all<|ua (bd kV dc pm an cd ct),M.ns _ _ c.ns] (λy t e=>U.i y t.1 t.2.1 t.2.2 e) x (kd',F',n') e
def ZOk.addD(V:ZOk bz P w K mg base C k tab O)(M:Md K mg cs bl)(Fc:∀kd,FoC K (C kd)<|O.fn kd)(d:Fd)(h:KF K d.x d.st)(F:DF)(j:Nat)(e:rdK tab cs bl O d=F:=by kernel_rfl)(hu:d.up=(bif bz then 2 else 0):=by rfl)(nt:bz=true->NT K mg:=by intro h;cases h)(ok:d.okB=true:=by kernel_rfl)(bd:Bd d:=by repeat (first|exact rfl|intro _)):ZOk bz P w K mg base C (k+1) tab { O with df:=(d.x,F,d.ps.length,j)::O.df }:=by
 subst e;obtain⟨f,kV,dc,pm,an,cd,ct,Fn,hm⟩:=j6 h M;have U:=V.mono (bM k);exact#[U.t,U.m,U.i,U.d.cons #[f,_,d.ps,kfn V M Fc d hu nt ok Fn,hm,Fn.kp,.all<|ua (bd kV dc pm an cd ct)]]
abbrev df3(O:Og5)(d1 d2 d3:Fd)(F1 F2 F3:DF):Og5:={ O with df:=(d1.x,F1,d1.ps.length,0)::(d2.x,F2,d2.ps.length,0)::(d3.x,F3,d3.ps.length,0)::O.df }
def ZOk.rec3(V:ZOk bz P w K mg base C k tab O)(M:Md K mg cs bl)(Fc:∀kd,FoC K (C kd)<|O.fn kd)(d1 d2 d3:Fd)(h1:KF K d1.x d1.st)(h2:KF K d2.x d2.st)(h3:KF K d3.x d3.st)(F1 F2 F3:Nat->DF)(j:Nat)(z1:F1 0=λ_ _=>Z:=by rfl)(z2:F2 0=λ_ _=>Z:=by rfl)(z3:F3 0=λ_ _=>Z:=by rfl)
  (e1:∀j,rdK tab cs bl (df3 O d1 d2 d3 (F1 j) (F2 j)<|F3 j) d1=F1 (j+1):=by intro;kernel_rfl) (e2:∀j,rdK tab cs bl (df3 O d1 d2 d3 (F1 j) (F2 j)<|F3 j) d2=F2 (j+1):=by intro;kernel_rfl) (e3:∀j,rdK tab cs bl (df3 O d1 d2 d3 (F1 j) (F2 j)<|F3 j) d3=F3 (j+1):=by intro;kernel_rfl)
  (hu:(d1.up=(bif bz then 2 else 0)/\d2.up=(bif bz then 2 else 0))/\d3.up=(bif bz then 2 else 0):=by exact#[#[rfl,rfl],rfl]) (nt:bz=true->NT K mg:=by intro h;cases h) (ok:(d1.okB&&d2.okB&&d3.okB)=true:=by kernel_rfl) (q1:Bd d1:=by repeat (first|exact rfl|intro _)) (q2:Bd d2:=by repeat (first|exact rfl|intro _)) (q3:Bd d3:=by repeat (first|exact rfl|intro _)) :
  ZOk bz P w K mg base C (k+j) tab (df3 O d1 d2 d3 (F1 j) (F2 j)<|F3 j):=by
 obtain⟨f1,a1,a2,a3,a4,a5,a6,Fn1,hm1⟩:=j6 h1 M;obtain⟨f2,c1,c2,c3,c4,c5,c6,Fn2,hm2⟩:=j6 h2 M;obtain⟨f3,g1,g2,g3,g4,g5,g6,Fn3,hm3⟩:=j6 h3 M;have b1:K0 K _ d1.ps []:=.all (ua<|q1 a1 a2 a3 a4 a5 a6);have b2:K0 K _ d2.ps []:=.all (ua<|q2 c1 c2 c3 c4 c5 c6);have b3:K0 K _ d3.ps []:=.all (ua<|q3 g1 g2 g3 g4 g5 g6);simp only[ae]at ok
 have none_ok:∀{f:fL}{fd:eZ}{ps:La Str},FnOk P w K mg base (CXb K P w bz) (k+0) f fd ps (spD K C ps.length λ_ _=>Z):=λ{f fd ps}=>by
  refine#[λvs H Q E h=>?_,λA outer s H args us vs Q E hr e0 hb hv hs=>?_]
  .exact h.1
  .obtain⟨_,a,Hf,c,o,ms,r,o',_,_,_,e,_⟩:=hs;cases e
 induction j with
 | zero =>
  rw[z1,z2,z3];exact#[V.t,V.m,V.i,(((V.d).cons #[f3,_,d3.ps,none_ok,hm3,Fn3.kp,b3]).cons #[f2,_,d2.ps,none_ok,hm2,Fn2.kp,b2]).cons #[f1,_,d1.ps,none_ok,hm1,Fn1.kp,b1]]
 | succ j ih =>
  have o1:=kfn ih M Fc d1 hu.1.1 nt ok.1.1 Fn1;have o2:=kfn ih M Fc d2 hu.1.2 nt ok.1.2 Fn2;have o3:=kfn ih M Fc d3 hu.2 nt ok.2 Fn3;rw[e1 j]at o1;rw[e2 j]at o2;rw[e3 j]at o3;have U:=V.mono (cK k<|j+1);exact#[U.t,U.m,U.i,((U.d.cons #[f3,_,d3.ps,o3,hm3,Fn3.kp,b3]).cons #[f2,_,d2.ps,o2,hm2,Fn2.kp,b2]).cons #[f1,_,d1.ps,o1,hm1,Fn1.kp,b1]]
def TOk.addY(V:ZOk bz P w K mg base C k tab O)(M:Md K mg cs bl)(Fc:∀kd,FoC K (C kd)<|O.fn kd)(d:Fd)(h:KF K d.x d.st)(F:FnD)(e:rdJ tab cs bl O d=F:=by kernel_rfl)(hu:d.up=(bif bz then 2 else 0):=by rfl)(nt:bz=true->NT K mg:=by intro h;cases h)(ok:d.okB=true:=by kernel_rfl)(bd:Bd d:=by repeat (first|exact rfl|intro _)):TOk bz P w K mg base (k+1) ((d.x,F,d.ps.length)::tab):=by
 subst e;obtain⟨f,kV,dc,pm,an,cd,ct,Fn,hm⟩:=j6 h M;have Sc:=Fd.sc ok;exact(V.t.mono<|bM k).cons #[f,_,d.ps,bK4 (N:=d.N) (ps:=d.ps) (C:=C) (g:=oB (kSt #[tab,cs,bl] O d.c 9)<|G8 d.st) Fn Sc λcdv A outer s H E hr=>bi1 (ba6 (cN5 M V Fc hu nt ok hr) 9) _,hm,Fn.kp,.all<|ua (bd kV dc pm an cd ct)]
theorem ZOk.up(V:ZOk false P w K mg base C k tab O):ZOk bz P w K mg base C k tab O :=
 #[V.t.up,λm kd F n e=>let#[f,fd,ps,h1,h2]:=V.m m kd F n e;#[f,fd,ps,bk6 h1,h2],λx kd F n e=>let#[j,f,fd,ps,h0,h1,h2]:=V.i x kd F n e;#[j,f,fd,ps,h0,bk6 h1,h2],λx F n j e=>let#[f,fd,ps,h1,h2]:=V.d x F n j e;#[f,fd,ps,bk6 h1,h2]]
def ZOk.start{fd:La (Str×Bool×Nat)}(t:TOk bz P w K mg base k tab):ZOk bz P w K mg base C k tab #[[],[],[],fd] :=
 #[t,MOk.nil.mono<|aA _,(λx kd F n e=>nomatch e),λx F n j e=>nomatch e]
end
abbrev H00:Hp:=λ_=>Z
def ov(H H1:Hp):Hp:=λb=>match H b with
 | some o=>Oa o
 | none=>H1 b
def aZ0(h:H b=Oa o):ov H H1 b=Oa o:=by unfold ov;rw[h]
def bU3(h:H b=Z):ov H H1 b=H1 b:=by unfold ov;rw[h]
def CXs(K:af)(P:eX)(w:World):CXT:=λouter H s _ e s'=>∃C,clA K "NoText" = Oa C/\CX1 P w outer H s (EC C H) e s'
def spB(F:FnD):Sp:=λvs _ _ _=>∃t,vs=[.str t]/\F [.str t]=Oa bad
def cA3{P:eX}{w:World}{K:af}{mg:Str->Ob fJ}{base:Heap}{f:fL}{fd:eZ}{ps:La Str}{F:FnD}{k:Nat}(h:FnOk P w K mg base (CXb K P w true) k f fd ps (spF K 1 F)):FnOk P w K mg base (CXs K P w) k f fd ps (spB F):=by
 refine#[λvs H Q E #[t,q,e]=>by subst q;exact h.len [.str t] H00 (λ_ _=>True) E #[rfl,H00,[.str t],bad,D8.refl _,#[_,_,rfl,rfl,rfl],e,λ_ _ _ _ _=>trivial],λA outer s H args us vs Q E hr e0 hb r q=>?_];obtain⟨t,rfl,e⟩:=q;refine codeAny_mono (h.run A outer s H00 args us _ (λ_ _=>False) E hr #[e0.frames,e0.mod,λb o q=>#[(e0.bs b o q).1,rfl],e0.bsz,e0.funs,λ_ _=>rfl,(λa o q=>nomatch q),e0.bare] hb r #[rfl,H00,[.str t],bad,D8.refl _,#[_,_,rfl,rfl,rfl],e,λv H' zc g r=>ae4 r]) λres s' z=>?_
 cases res with
 | ok fl =>
  cases fl with
  | next=>exact z
  | brk=>exact z
  | cont=>exact z
  | ret u=>obtain⟨_,_,_,_,_,_,_,z⟩:=z;exact z.elim
 | error e =>
  obtain⟨a,C,g,B,H1,rfl,os,bare,un,hok,F,D,hD,hE⟩:=z;cases hE;have ex:∀{b o},H b=Oa o->∃u,s.heap.get? b=Oa u:=λq=>P8.is<|e0.hok _ _ q
  have di:∀{b o},H b=Oa o->H1 b=Z:=λ{b o} q=>let#[u,eu]:=ex q;un.free b u eu rfl (by simp)
  have nf:∀{b o},H b=Oa o->b∉frs outer:=λ{b o} q m=>by rw[e0.frf b m]at q;cases q
  refine#[C,hD,a,C,g,B,ov H H1,rfl,os,bare,#[λb o e n=>un.keep b o e rfl,λb o e n=>un.slot b o e rfl,λb o e n x=>(bU3 n).trans<|un.free b o e rfl x,un.there,λb xs q=>aZ0 q,λb o u q=>aZ0 q,λb ps q=>#[(List.toArray []),by rw[Array.append_empty];exact aZ0 q]],λa o q=>?_,#[λb o r=>F.keep b o ?_,F.fly,F.sl],rfl,λb u q=>aZ0 q]
  .cases e:H a with
   | some o' =>
    rw[aZ0 e]at q;cases q;exact(e0.hok a o e).stay (λb u hb q=>un.keep b u q rfl (by rcases hb with rfl|hb;exact nf e;exact nf hb)<|by simp) (λb q=>aZ0 q) λb xs q=>aZ0 q
   | none =>
    rw[bU3 e]at q
    have up:∀{b o},H1 b=Oa o->ov H H1 b=Oa o:=λ{b o} q=>by
     cases e:H b with
     | none=>rw[bU3 e];exact q
     | some=>rw[di e]at q;cases q
    exact(hok a o q).stay (λb u _ q=>q) (λb q=>up q) λb xs q=>up q
  .rcases r with r|r
   .exact .inl r
   .cases e:H b with
    | none=>rw[bU3 e]at r;exact .inr r
    | some=>obtain⟨u,eu⟩:=ex e;exact .inl (by rw[eu];simp)
def rB(F:FnD):RD:=λ(y:Rho)=>match (y[0]?:Ob (Ob B)) with
 | some ([:.str t])=>(match F [.str t] with
  | some d=>bif N0 d then Oa ("NoText", y) else Z
  | none=>Z)
 | _=>Z
def cd7(h:rB F y=Oa (x,ρ1)):∃t,y[0]? = Oa ([:.str t])/\F [.str t]=Oa bad/\x = "NoText" /\ ρ1=y:=by
 unfold rB at h;split at h
 .rename_i t e;split at h
  .rename_i d e2;cases hb:N0 d with
   | false=>rw[hb]at h;cases h
   | true=>rw[hb]at h;cases h;rw[aq3 hb]at e2;exact#[t,e,e2,rfl,rfl]
  .cases h
 .cases h
def cn7{X:Cx}{F:FnD}{k:Nat}{f:fL}{fd:eZ}{ps:La Str}{x y:Str}{p p1 pos:Pos}(hx:∀e s,X.xe e s->False)(Fk:FnOk X.prog X.w X.K X.mg X.base (CXs X.K X.prog X.w) k f fd ps (spB F))(hr:Room k X.A)(hg:Gl X x)(hm:X.mg x=Oa (.ref f))(hk:aN X.K (.ref f)=true)(hb:K0 X.K fd ps [])
  (hN:X.N[0]? = Oa y) (hv:Vis X.env.scope y) (hd:(y==("__debug__":Str))=false) (hcd:(y==("__classdict__":Str))=false) (hdb:(x==("__debug__":Str))=false):PX X false (.Call (.Name x p) [.Name y p1] [] pos) (rB F):=by
 intro v z ρ1 C q hC H0 Hf0 za s j H Hf I at_;obtain⟨t,e0,e1,rfl,rfl⟩:=cd7 q;obtain⟨v0,h1,h2⟩:=at_.sl.is 0 _ e0;cases(show v0=.str t from h2);refine wpAny_Call_Name_kw (X4 I hg hm ?_ hdb);refine PySem.W.callWith_K (h₀:=X.base) I.ok.mod.kin hk (noX hx (E6 (P4 hN hv hd hcd) G6 rfl pos za s j H (λvs H'=>vs=[V.str t]/\H'=H) I #[_,h1,rfl,rfl]) λus s1 #[vs,H1,I1,r,e1,e2]=>#[I1.kIn,?_]) rfl rfl;subst e1 e2;have sp:spB F [V.str t] H1 (λ_ _=>False) E0:=#[t,rfl,by assumption];have hl2:us.length=ps.length:=by rw[<- r.length];exact Fk.len _ H1 _ _ sp
 have bd:BindsTo s1 fd #[us,[]] (ps.zip us):=by
  have:=hb s1 us I1.kIn (by rw[ar];exact hl2)
  rwa [ar]at this
 refine wpAny_call (codeAny_mono (Fk.run X.A X.stack s1 H1 #[us,[]] us _ (λ_ _=>False) E0 hr I1.env0 bd r sp) λrs s' hq=>?_);cases rs with
 | error e =>
  obtain⟨C',hC',cx⟩:=hq;rw[hC]at hC';cases hC';exact .inl #[j,H1,Hf,s1,I1,at_,.inr cx]
 | ok fl =>
  cases fl with
  | ret u=>obtain⟨_,_,_,_,_,_,_,z⟩:=hq;exact z.elim
  | next=>exact False.elim hq
  | brk=>exact False.elim hq
  | cont=>exact False.elim hq
def aA7{K:af}{mg:Str->Ob fJ}{x:Str}{C:fL}{cs:La (Str×D)}{bl:La Str}(M:Md K mg cs bl)(h:clA K x=Oa C):mg x=Oa (.ref C):=by
 unfold clA at h;split at h
 .rename_i a e;cases h;exact M.ns _ _ e
 .cases h
def tbT(b:Bool):Str->Ob Bool:=λx=>bif x == "NoText" then Oa b else Z
def aL5(K:af)(cv:Ob fJ)(b:Bool):Bool:=match clA K "NoText", cv with
 | some C,Oa v=>xcB K C&&bQ K C veB "ValueError.__new__" && PySem.W.kitOne K (.ref C) v==Oa b
 | _,_=>false
def aL4{K:af}{v:fJ}(h:aL5 K (Oa v) b=true):bN2 K v (tbT b):=λx b' q=>by
 unfold tbT at q;cases e:x == "NoText" with
 | false=>rw[e]at q;cases q
 | true =>
  rw[e]at q;cases q;cases beq_iff_eq.mp e;unfold aL5 at h;split at h
  .rename_i C v hC hv;cases hv;simp only[ae,beq_iff_eq]at h;exact#[C,hC,h.1.1,h.1.2,h.2]
  .cases h
def rz(b:Bool)(g:D):DS:=bif b then(λ_=>Oa<|.rt g) else E9
def uz(b:Bool)(g:D):UX:=bif b then(λ_ q=>Oa<|.rt g q) else uXo
def kz(b:Bool)(g:D)(i:Nat)(f:UD):UX:=bif b then aw2 g i f else bm8 i f
section
variable {P:Program}{w:World}{K:PySem.W.Frag}{mg:Str->Ob Value}{base:Heap}{cs:La (Str×D)}{bl:La Str}
inductive toldB (rf gl y n m:Str) (l:List Stmt):Prop
 | mk (h:l=[.Try [.Return (Oa<|.Call (.Name rf p1) [.Name y p2] [] p3) p4] [.ExceptHandler (Oa<|.Name gl q1) (Oa n) [.Assign [.Name m z13] (.List [.Call (.Name "isinstance" z1) [.Name n z2,.Name "NoText" z3] [] z4,.Call (.Name "isinstance" z5) [.Name n z6,.Name "NoName" z7] [] z8,.Call (.Name "isinstance" z9) [.Name n z10,.Name "NoMerge" z11] [] z12] z14) z15,.If (.BoolOp .And [.Call (.Name "isinstance" z16) [.Name n z17,.Name "ValueError" z18] [] z19,.Compare (.Name m z20) [.Eq] [.List [.Constant (.bool true) z21 z22,.Constant (.bool false) z23 z24,.Constant (.bool false) z25 z26] z27] z28] z29) [.Return (Oa<|.Constant .none z30 z31) z32] [] z33] q2] [] [] q3,.Return (Oa<|.Constant (.bool false) z34 z35) z36])
def cN6{bz:Bool}{d:Fd}{f:fL}{cdv:fJ}{A:eY}{outer:La Env}{s:fK}{H:Hp}{E:XK}{qual:Str}(M:Md K mg cs bl)(ok:d.okB=true)(hu:d.up=0)(hr:Room k (A.deeper<|envOfC qual (B8 d.st) s.heap.objs.size f cdv)):Fit #[[],cs,bl] d.c (cxY bz P w K mg base d.N qual (B8 d.st) f cdv A outer s H E) :=
 #[rfl,rfl,(Fd.sc ok).nd,rfl,λ_=>co4,(λh=>by rw[show d.c.up=d.up from rfl,hu]at h;cases h),hr.units,λ_=>#[λ_=>rfl,(Fd.sc ok).kind],(λx F n h=>nomatch h),M.css,M.bls]
def cm0{sp:Sp}{rf gl y n m:Str}{f rfa:fL}{fd rfd:eZ}{rps:La Str}{k:Nat}(M:Md K mg cs bl)(d:Fd)(ok:d.okB=true)(hu:d.up=0)(Fn:Fun K d.x d.x d.st f fd)(hN:d.N=[y,n,m])(hp:d.ps=[y])(hs:toldB rf gl y n m (G8 d.st))(hv:k6 (B8 d.st) y=true)(hg:X6 (B8 d.st) rf=true)
  (R:FnOk P w K mg base (CXb K P w false) k rfa rfd rps sp) (hm:mg rf=Oa (.ref rfa)) (hk:aN K (.ref rfa)=true) (hb:K0 K rfd rps []) (hl:∀vs H Q E,sp vs H Q E->vs.length=1) (hE:∀vs H Q E,sp vs H Q E->sp vs H Q E0):FnOk P w K mg base (CXb K P w false) (k+1) f fd d.ps sp:=by
 refine av8 (N:=d.N) Fn (Fd.sc ok) (λvs H Q E h=>by rw[hl _ _ _ _ h,hp];rfl) λcdv A outer s H vs Q E hr hsp=>?_
 have F:=cN6 (bz:=false) (P:=P) (w:=w) (base:=base) (outer:=outer) (H:=H) (E:=E) M ok hu hr;obtain⟨hs⟩:=hs;obtain⟨v1,v2,v3⟩:=M2 F hv;obtain⟨g1,g2⟩:=M5 F hg;have hl:=hl _ _ _ _ hsp
 obtain⟨v,rfl⟩:∃v,vs=[v]:=by
  cases vs with
  | nil=>cases hl
  | cons v r=>cases r with
   | nil=>exact#[v,rfl]
   | cons=>cases hl
 have e0:(cxY false P w K mg base d.N d.x (B8 d.st) f cdv A outer s H E).N[0]? = Oa y:=by show d.N[0]? = _;rw[hN];rfl
 refine#[λEn u H=>∃v,u[0]? = Oa (Oa v)/\sp [v] H En.rt E0,?_,v,by rw[hN];rfl,hE _ _ _ _ hsp];rw[hs];refine λza s u H En I hw=>wpAny_execs_cons ?_
 refine wpAny_Try_except (noX (λe s z=>z) (aJ7 (aY7<|am3 R hr g1 hm hk hb .nil bn8 (E6 (P4 e0 v1 v2 v3) G6 rfl) g2 rfl rfl) za s u H { En with nx:=λ_ _=>False } I (by obtain⟨v,h1,h2⟩:=hw;exact#[v,h1,h2])) λf' s1 z=>?_);cases f' with
 | next=>obtain⟨_,_,_,z⟩:=z;exact z.elim
 | ret v=>exact z
 | brk=>exact z
 | cont=>exact z
def aT5:DS:=B3 (C7 2<|E5 {aD3 1<|tbT true,aD3 1<|tbT false,aD3 1<|tbT false})<|sIf (ab6 (E7<|aD3 1 (tbT true))<|tB2 eqD (!2) (E5 {dC<|.bool true,dC<|.bool false,dC<|.bool false})) (B7<|dC .none) D6
def bS7(K:af):Bool:=aL5 K ((clA K "NoText").map .ref) true&&aL5 K ((clA K "NoName").map .ref) false&&aL5 K ((clA K "NoMerge").map .ref) false&&aL5 K (Oa<|.type "ValueError") true
def bb2{K:af}{x:Str}(h:aL5 K ((clA K x).map .ref) b=true):∃C,clA K x=Oa C/\aL5 K (Oa<|.ref C) b=true:=by
 cases z:clA K x with
 | none =>
  rw[z]at h;unfold aL5 at h;split at h
  .rename_i e;cases e
  .cases h
 | some C=>rw[z]at h;exact#[C,rfl,h]
def ah4(F:FnD):FnD:=E2 (B3 (al5 (rB F) (λ_=>Z) 1 aT5)<|B7 (dC<|.bool false)) 3
def bQ6{F:FnD}{rf gl y n m:Str}{f rfa:fL}{fd rfd:eZ}{rps:La Str}{k:Nat}(M:Md K mg cs bl)(d:Fd)(ok:d.okB=true)(hu:d.up=0)(Fn:Fun K d.x d.x d.st f fd)(hN:d.N=[y,n,m])(hs:toldB rf gl y n m (G8 d.st))(hB:(k6 (B8 d.st) y&&k6 (B8 d.st) n&&k6 (B8 d.st) m&&aK6 d.c m&&X6 (B8 d.st) rf&&X6 (B8 d.st) gl&&X6 (B8 d.st) "isinstance" && X6 (B8 d.st) "NoText" && X6 (B8 d.st) "NoName" && X6 (B8 d.st) "NoMerge" && X6 (B8 d.st) "ValueError" && bl.contains "isinstance" && bl.contains "ValueError" && (B8 d.st).names.lookup n==Oa .local)=true)
  (R:FnOk P w K mg base (CXb K P w true) k rfa rfd rps (spF K 1 F)) (hm:mg rf=Oa (.ref rfa)) (hk:aN K (.ref rfa)=true) (hb:K0 K rfd rps [])
  (c1:ao5 K "NoText" = true) (c2:ao5 K gl=true) (c3:by1 K "NoText" gl=true) (hK:bS7 K=true) :
  FnOk P w K mg base (CXb K P w false) (k+1) f fd d.ps (spF K d.ps.length<|ah4 F):=by
 have e3:d.N.length=3:=by rw[hN];rfl
 unfold ah4;rw[<- e3];refine bk7 (N:=d.N) Fn (Fd.sc ok) λcdv A outer s H E hr=>?_
 have F0:=cN6 (bz:=false) (P:=P) (w:=w) (base:=base) (outer:=outer) (H:=H) (E:=E) M ok hu hr;obtain⟨hs⟩:=hs;simp only[ae,beq_iff_eq]at hB;obtain⟨⟨⟨⟨⟨⟨⟨⟨⟨⟨⟨⟨⟨o1,o2⟩,o3⟩,o4⟩,o5⟩,o6⟩,o7⟩,o8⟩,o9⟩,o10⟩,o11⟩,o12⟩,o13⟩,hl⟩:=hB;obtain⟨v1,v2,v3⟩:=M2 F0 o1;obtain⟨w1,w2,w3⟩:=M2 F0 o2;obtain⟨x1,x2,x3⟩:=M2 F0 o3;obtain⟨l1,l2⟩:=am6 F0 o4;obtain⟨g1,g2⟩:=M5 F0 o5;obtain⟨g3,g4⟩:=M5 F0 o6;obtain⟨a1,_⟩:=M5 F0 o7;obtain⟨b1,b1'⟩:=M5 F0 o8;obtain⟨b2,b2'⟩:=M5 F0 o9;obtain⟨b3,b3'⟩:=M5 F0 o10;obtain⟨b4,b4'⟩:=M5 F0 o11;unfold bS7 at hK;simp only[ae]at hK;obtain⟨⟨⟨k1,k2⟩,k3⟩,k4⟩:=hK;obtain⟨C1,h1,k1⟩:=bb2 k1;obtain⟨C2,h2,k2⟩:=bb2 k2;obtain⟨C3,h3,k3⟩:=bb2 k3;have e0:(cxY false P w K mg base d.N d.x (B8 d.st) f cdv A outer s H E).N[0]? = Oa y:=by show d.N[0]? = _;rw[hN];rfl
 have e1:(cxY false P w K mg base d.N d.x (B8 d.st) f cdv A outer s H E).N[1]? = Oa n:=by show d.N[1]? = _;rw[hN];rfl
 have e2:(cxY false P w K mg base d.N d.x (B8 d.st) f cdv A outer s H E).N[2]? = Oa m:=by show d.N[2]? = _;rw[hN];rfl
 have y1:=M.bls _ o12;have y2:=M.bls _ o13;have hq:=F0.units;have three:∀{a b c:Expr},[a,b,c].length<=1000:=λ{a b c}=>by show 3<=1000;decide
 have i1:∀{a:fL}{p1 p2 p3 p4},JE (Cx.held (cxY false P w K mg base d.N d.x (B8 d.st) f cdv A outer s H E)<|.ref a) (.Call (.Name "isinstance" p1) [.Name n p2,.Name "NoText" p3] [] p4) (aD3 1<|tbT true):=aL0 (v:=.ref C1) a1 y1 e1 w1 w2 w3 (aJ9 b1 (aA7 M h1) b1') rfl (λu r=>r) (aL4 k1);have i2:∀{a:fL}{p1 p2 p3 p4},JE (Cx.held (cxY false P w K mg base d.N d.x (B8 d.st) f cdv A outer s H E)<|.ref a) (.Call (.Name "isinstance" p1) [.Name n p2,.Name "NoName" p3] [] p4) (aD3 1<|tbT false):=aL0 (v:=.ref C2) a1 y1 e1 w1 w2 w3 (aJ9 b2 (aA7 M h2) b2') rfl (λu r=>r) (aL4 k2);have i3:∀{a:fL}{p1 p2 p3 p4},JE (Cx.held (cxY false P w K mg base d.N d.x (B8 d.st) f cdv A outer s H E)<|.ref a) (.Call (.Name "isinstance" p1) [.Name n p2,.Name "NoMerge" p3] [] p4) (aD3 1<|tbT false):=aL0 (v:=.ref C3) a1 y1 e1 w1 w2 w3 (aJ9 b3 (aA7 M h3) b3') rfl (λu r=>r) (aL4 k3);have i4:∀{a:fL}{p1 p2 p3 p4},JE (Cx.held (cxY false P w K mg base d.N d.x (B8 d.st) f cdv A outer s H E)<|.ref a) (.Call (.Name "isinstance" p1) [.Name n p2,.Name "ValueError" p3] [] p4) (aD3 1<|tbT true):=aL0 (v:=.ty "ValueError") a1 y1 e1 w1 w2 w3 (bh5 (v:=.ty "ValueError") b4 y2 ∅ rfl (by decide) b4') rfl (λu r=>r) (aL4 k4);rw[hs];refine ay7 (bX1 (λe s z=>z) rfl rfl rfl (λp fl q=>nomatch q) (bX5<|cw2 (cn7 (λe s z=>z) (cA3 R) hr g1 hm hk hb e0 v1 v2 v3 g2)) g3 (λD h=>aA7 M h) g4 c2 (λp x ρ1 q=>?_) (Fd.sc ok).nd e1 hl λa=>ay7 (ba7 2 (Fd.sc ok).nd (ac7<|ba9 (h9 i1 (h9 i2 (h9 i3 aL1 rfl) rfl) rfl) three) e2 l1 rfl l2)<|av6 (cf9 (aS7<|bF3 (bF4 i4) (bi9<|bF5 (bC5 hq) (bH3 2 e2 x1 x2 x3) (ac7<|ba9 (h9 aT0 (h9 aT0 (h9 aT0 aL1 rfl) rfl) rfl) three))) (av6<|ba8 bH8) bj1)) (av6<|ba8 aT0);obtain⟨_,_,_,rfl,_⟩:=cd7 q;exact#[c1,c3]
def bx5(h:F [.str t]=Oa bad):ah4 F [.str t]=Oa .none:=by
 show E2 (B3 (al5 (rB F) (λ_=>Z) 1 aT5)<|B7 (dC<|.bool false)) 3 [.str t]=_
 have e:rB F [[:.str t],Z,Z]=Oa (("NoText":Str),([[:.str t],Z,Z]:Rho)):=by
  unfold rB;show(match F [.str t] with|some d=>bif N0 d then Oa _ else Z|none=>Z)=_;rw[h];rfl
 unfold E2;show(B3 (al5 (rB F) (λ_=>Z) 1 aT5) (B7<|dC (.bool false)) [[:.str t],Z,Z]).bind _=_;unfold B3 al5;rw[e];rfl
def orF(F G:FnD):FnD:=λa=>match F a with
 | some d=>Oa d
 | none=>G a
def cN2{F G:FnD}{f:fL}{fd:eZ}{ps:La Str}{CX:CXT}(p:FnOk P w K mg base CX k f fd ps (spF K n F))(q:FnOk P w K mg base CX k f fd ps (spF K n G)):FnOk P w K mg base CX k f fd ps (spF K n<|orF F G):=by
 have key:∀{vs H Q E},spF K n (orF F G) vs H Q E->spF K n F vs H Q E\/spF K n G vs H Q E:=λ#[l,Hf,ds,d,s,r,e,kk]=>by
  unfold orF at e;split at e
  .rename_i d' e';cases e;exact .inl #[l,Hf,ds,_,s,r,e',kk]
  .exact .inr #[l,Hf,ds,d,s,r,e,kk]
 exact#[λvs H Q E h=>(key h).elim (p.len vs H Q E)<|q.len vs H Q E,λA outer s H args us vs Q E hr he hb hv hs=>(key hs).elim (p.run A outer s H args us vs Q E hr he hb hv)<|q.run A outer s H args us vs Q E hr he hb hv]
end
section
variable {P:Program}{w:World}{K:PySem.W.Frag}{mg:Str->Ob Value}{base:Heap}{cs:La (Str×D)}{bl:La Str}{C:CT}{tab:Tab}{O:Og5}
def cI8(M:Md K mg cs bl)(h:ao5 K "NoText" = true):NT K mg:=by
 unfold ao5 at h;cases e:clA K "NoText" with
 | none=>rw[e]at h;cases h
 | some C=>rw[e]at h;exact#[C,e,h,aA7 M e]
def ZOk.addP(V:ZOk bz P w K mg base C k tab O)(M:Md K mg cs bl)(d:Fd)(h:KF K d.x d.st)(F:FnD)(e:rd tab cs bl d=F:=by kernel_rfl)(hu:d.up=(bif bz then 2 else 0):=by rfl)(nt:bz=true->NT K mg:=by intro h;cases h)(ok:d.okB=true:=by kernel_rfl)(bd:Bd d:=by repeat (first|exact rfl|intro _)):ZOk bz P w K mg base C (k+1) ((d.x,F,d.ps.length)::tab) O :=
 let U:=V.mono (bM k);#[V.t.add M d h F e hu nt ok bd,U.m,U.i,U.d]
def TOk.told{tab2:Tab}{gl y n m:Str}{F F2:FnD}(V:TOk false P w K mg base k tab)(T:TOk true P w K mg base k tab2)(M:Md K mg cs bl)(dr:Fd)(hR:KF K dr.x dr.st)(hN:tab.lookup dr.x=Oa (F,1))(hF:tab2.lookup dr.x=Oa (F2,1))(d:Fd)(h:KF K d.x d.st)(c2:ao5 K gl=true)(c3:by1 K "NoText" gl=true)(c1:ao5 K "NoText" = true)(hK:bS7 K=true)
  (hs:toldB dr.x gl y n m (G8 d.st)) (h1:d.N=[y,n,m]) (h2:d.ps=[y]) (o1:d.okB=true) (o2:d.up=0)
  (hB:(k6 (B8 d.st) y&&k6 (B8 d.st) n&&k6 (B8 d.st) m&&aK6 d.c m&&X6 (B8 d.st) dr.x&&X6 (B8 d.st) gl&&X6 (B8 d.st) "isinstance" && X6 (B8 d.st) "NoText" && X6 (B8 d.st) "NoName" && X6 (B8 d.st) "NoMerge" && X6 (B8 d.st) "ValueError" && bl.contains "isinstance" && bl.contains "ValueError" && (B8 d.st).names.lookup n==Oa .local)=true)
  (bd:Bd d:=by repeat (first|exact rfl|intro _)):TOk false P w K mg base (k+1) ((d.x,orF (ah4 F2) F,1)::tab):=by
 obtain⟨f,kV,dc,pm,an,cd,ct,Fn,hm⟩:=j6 h M;obtain⟨_,_,_,_,_,_,_,_,hmr⟩:=j6 hR M;have B1:K0 K _ d.ps []:=.all (ua<|bd kV dc pm an cd ct);have hl1:d.ps.length=1:=by rw[h2];rfl
 have hB':=hB;simp only[ae,beq_iff_eq]at hB';have w:=hB'.1.1.1.1.1.1.1.1.1;have v1:=w.1.1.1.1;have v5:=w.2;refine(V.mono<|bM k).cons #[f,_,d.ps,?_,hm,Fn.kp,B1];rcases T dr.x F2 1 hF with⟨f2,fd2,ps2,R2,s1,s2,s3⟩|⟨z,_⟩
 .have q:=bQ6 M d o1 o2 Fn h1 hs hB R2 s1 s2 s3 c1 c2 c3 hK;rw[hl1]at q;rcases V dr.x F 1 hN with⟨f3,fd3,ps3,R3,r1,r2,r3⟩|⟨z,_⟩
  .have p:=cm0 M d o1 o2 Fn h1 h2 hs v1 v5 R3 r1 r2 r3 (λvs H Q E z=>z.1) (λvs H Q E z=>z);exact cN2 q p
  .rw[hmr]at z;cases z
 .rw[hmr]at z;cases z
def FoC.few{fn:La Str}{C:fL}(h:FoC K C fn):FoC K C []:=#[h.cl,h.is,(λf q=>nomatch q)]
def bW7{F:FnD}{fa:fL}{x:Str}(M:Md K mg cs bl)(T:∀base:Heap,TOk false P w K mg base k tab)(d:Fd)(h:KF K d.x d.st)(e:rd tab cs bl d=F)(hm:mg d.x=Oa (.ref fa))(hp:d.ps=[x]:=by rfl)(hu:d.up=0:=by rfl)(ok:d.okB=true:=by kernel_rfl)(bd:Bd d:=by repeat (first|exact rfl|intro _)):
  ∃fd:eZ,(∀(s:fK) (u:fJ),BindsTo s fd #[[u],[]] [(x,u)])/\∀base:Heap,FnOk P w K mg base (CXb K P w false) (k+1) fa fd [x] (spF K 1 F):=by
 subst e;obtain⟨f,kV,dc,pm,an,cd,ct,Fn,hm'⟩:=j6 h M;cases hm.symm.trans hm';refine#[bB d.x d.x (S8 d.st) (G8 d.st) (B8 d.st) .none kV dc pm an cd ct,λs u=>.of_eq ?_,λbase=>?_]
 .have:=ua (bd kV dc pm an cd ct) [u] (by rw[hp];rfl);rw[hp]at this;exact this
 .have:=bK3 (bz:=false) M (T base) hu (λh=>nomatch h) ok Fn;rw[hp]at this;exact this
end
end G
namespace Lk91
open PySem PySem.Spec PyProof.Rows L2 G Sh
def top(i:Nat):Stmt:=PySem.Challenge.pw_glazework_k91_whole_read.main.body.getD i<|.Pass #[0,0,0,0]
def n8:DS:=(B3 (C7 1<|A9 bA6 ⇑10 ⇑60)<|B3 (O1 2 A8) (B3 (Y1 (tB2 geI (!0) !1)<|B3 (N5 2<|dZf (Y7<|A9 X3 (!0) !1) ⇑60) (C7 0<|A9 ap5 (!0) !1))<|B3 (N5 2<|Y7 !0) (B7<|aM8 (!"") (B0 2))))
def F5:La D->Ob D:=E2 n8 3
def W9:DS:=(B3 (sIf (tB2 eqD (dIx (B0 0) ⇑1) ⇑1) (B7<|A7 F5 {dIx (B0 0) ⇑0}) D6)<|B7 (A9 B4 (A9 B4 (A7 F5 {dIx (B0 0) ⇑0}) !"/")<|A7 F5 {dIx (B0 0) ⇑1}))
def K1:La D->Ob D:=E2 W9 1
def ad2:DS:=(B7<|M0 (!":") (qN<|D2 1 [] (G2 !0) (D1 0) F6 (A7 K1 {0})))
def T2:La D->Ob D:=E2 ad2 1
def ad4:DS:=(B3 (sIf (tB2 isB (!0)<|dC .none) (B7 !".") D6)<|B7 (M0 (!",")<|qN (D2 1 [] (G2 !0) (D1 0) F6<|A7 K1 {0})))
def Z6:La D->Ob D:=E2 ad4 1
def ad3:DS:=(B7<|A9 B4 (A9 B4 (A7 F5 {dIx (B0 0) ⇑0}) !"x") (A7 F5 {dIx (B0 0) ⇑1}))
def L7:La D->Ob D:=E2 ad3 1
def n9:DS:=(B7<|A9 B4 (E5 {A7 L7 {0}}) (E5<|D2 1 [] (G2<|dIx (B0 0) ⇑2) (D1 0) F6 (A7 T2 {0})))
def U6:La D->Ob D:=E2 n9 1
def y6:DS:=(B3 (C7 1<|E5 {A7 F5 {A7 aq6 {0}},A7 F5 {A7 aC0 {0}},A7 Z6 {A7 aq5 {0}}})<|B7 (A9 B4 (!1)<|A7 U6 {A7 aa1 {0}}))
def M7:La D->Ob D:=E2 y6 2
def au2(self:Nat->La D->Ob D):DS:=(B3 (O1 1 {A7 S3 {0},A7 N3 {0},A7 W3 {0},A7 K1 {A7 Q0 {0}}})<|B3 (N5 1<|aq0 (E7<|A7 Q9 {0}) (!"+") !"-") (B3 (sIf (E7<|A7 U9 {0}) (at3 1<|B7 (A9 B4 (!1)<|A7 M7 {0})) D6)<|B3 (sIf (E7<|A7 J8 {0}) (at3 1<|B7 (A9 B4 (A9 B4 (A9 B4 (!1)<|E5 {!"["})<|A7 (self 1) {A7 K9 {0}})<|E5 {!"]"})) D6) (at3 1<|B7 !1)))
def p8(self:Nat->La D->Ob D):DS:=(B3 (O1 1 A8)<|B3 (ab1 (G2 !0) (D1 2)<|aJ1 1 (A7 (self 0) {2})) (at3 1<|B7 !1))
def C5:Nat->Nat->La D->Ob D
 | 0=>λ_ _=>Z
 | k+1=>λi=>match i with
  | 0=>E2 (au2<|C5 k) 2
  | 1=>E2 (p8<|C5 k) 3
  | _=>λ_=>Z
def au5(k:Nat):La D->Ob D:=C5 k 0
def P1(k:Nat):La D->Ob D:=C5 k 1
def aH0:DS:=(B7<|M0 (!" ") (qE<|A9 B4 (E5 {A7 L7 {0}}) (A7 (P1 12) {dIx (B0 0) ⇑2})))
def K2:La D->Ob D:=E2 aH0 1
def aW5:DS:=(B3 (sIf (E1 (D3<|E7 (O9 "str" !0))<|D3 (ai5<|L5 leI leI ⇑1 (Y9 !0) ⇑6)) (B7<|dC (.bool false)) D6)<|B7 (A9 eqD (E5<|D2 1 [] (az0 !0) (D1 0) (tB2 (inS true) (!0) !"abcdefghijklmnopqrstuvwxyz") !0)<|E5 A8))
def ad9:La D->Ob D:=E2 aW5 1
def aO0:DS:=(B3 (C7 1<|E5 {!"over",!"multiply",!"screen",!"plus",!"atop",!"cut"})<|B3 (sIf (tB2 eqD (dIx (B0 0) ⇑0) !"tone") (C7 1<|E5 {!"turn",!"grey",!"round"}) D6) (B3 (sIf (E1 (D3<|E7 (A7 ad9 {dIx (B0 0) ⇑1}))<|E1 (D3<|E7 (O9 "str"<|dIx (B0 0) ⇑2)) (tB2 (inL true) (dIx (B0 0) ⇑2) !1)) (B7<|dC (.bool false)) D6)<|B7 (T6 (A7 M8 {dIx (B0 0) ⇑3})<|O9 "bool" (dIx (B0 0) ⇑4))))
def T5:La D->Ob D:=E2 aO0 2
def aW4(self:La D->Ob D):DS:=(B3 (sIf (E1 (D3<|E7 (O9 "tuple" !0))<|E1 (tB2 ltI (F7<|B0 0) ⇑5) (tB2 (inL true) (dIx (B0 0) ⇑0)<|L9 {!"layer",!"group",!"tone"})) (B7<|dC (.bool false)) D6)<|B3 (sIf (D3<|E7 (A7 T5 {0})) (B7<|dC (.bool false)) D6) (B3 (sIf (tB2 eqD (dIx (B0 0) ⇑0) !"tone") (B7<|A9 eqD (F7<|B0 0) ⇑5) D6)<|B3 (sIf (tB2 eqD (dIx (B0 0) ⇑0) !"group") (B3 (sIf (E1 (tB2 neD (F7<|B0 0) ⇑6)<|E1 (tB2 eqD (!1) ⇑0) (D3<|E7 (O9 "tuple"<|dIx (B0 0) ⇑5))) (B7<|dC (.bool false)) D6)<|B7 (A9 eqD (E5<|D2 1 [1] (G2<|dIx (B0 0) ⇑5) (D1 0) (D3<|E7 (A7 self {0,A9 ak9 (!1) ⇑1})) !0)<|E5 A8)) D6) (B3 (sIf (E1 (tB2 neD (F7<|B0 0) ⇑9)<|D3 (E7<|A7 X9 {dIx (B0 0) ⇑8})) (B7<|dC (.bool false)) D6)<|B3 (sIf (tB2 neD (E5<|D2 1 [] (G2<|S9 (!0) (D5 ⇑5) (D5 ⇑7)) (D1 0) (E1 (D3<|E7 (A7 K6 {0}))<|D3 (ai5<|L5 leI leI (bd4 ⇑9) (!0) ⇑9)) !0)<|E5 A8) (B7<|dC (.bool false)) D6) (B3 (sIf (tB2 isB (dIx (B0 0) ⇑7)<|dC .none) (B7<|dC (.bool true)) D6)<|B3 (sIf (E1 (D3<|E7 (O9 "tuple"<|dIx (B0 0) ⇑7))<|tB2 neD (F7<|qE (dIx (B0 0) ⇑7)) (F7<|qE (dIx (qE<|dIx (B0 0) ⇑8) ⇑2))) (B7<|dC (.bool false)) D6) (B7<|A9 eqD (E5<|D2 1 [] (G2<|dIx (B0 0) ⇑7) (D1 0) (D3<|E7 (A7 M8 {0})) !0) (E5 A8))))))
def M1:Nat->La D->Ob D
 | 0=>λ_=>Z
 | k+1=>E2 (aW4<|M1 k) 2
def ad7:DS:=(B3 (aa7 1<|D2 1 [] (G2<|A7 (aa2 12) {0}) (D1 0) F6 (dIx (B0 0) ⇑1))<|B7 (A9 eqD (v7<|B0 1)<|F7 (B0 1)))
def Z7:La D->Ob D:=E2 ad7 2
def aB5:DS:=(B3 (sIf (E1 (D3<|E7 (O9 "tuple" !0))<|E1 (tB2 neD (F7<|B0 0) ⇑3) (D3<|E7 (O9 "tuple"<|dIx (B0 0) ⇑2))) (B7<|dC (.bool false)) D6)<|B3 (sIf (tB2 neD (E5<|D2 1 [] (G2<|S9 (!0) J1 (D5 ⇑2)) (D1 0) (E1 (D3<|E7 (A7 K6 {0}))<|D3 (ai5<|L5 leI leI ⇑1 (!0) ⇑8)) !0)<|E5 A8) (B7<|dC (.bool false)) D6) (B7<|T6 (A9 eqD (E5<|D2 1 [] (G2<|dIx (B0 0) ⇑2) (D1 0) (D3<|E7 (A7 (M1 12) {0,⇑3})) !0)<|E5 A8) (A7 Z7 {dIx (B0 0) ⇑2})))
def T4:La D->Ob D:=E2 aB5 1
def aB3:DS:=(B7<|dIx (qN {A9 B4 (A9 B4 (Y7<|dIx (B0 0) ⇑0) !"/")<|Y7 (dIx (B0 0) ⇑1),Y7<|dIx (B0 0) ⇑0}) (ag8<|A9 eqD (dIx (B0 0) ⇑1) ⇑1))
def G1:La D->Ob D:=E2 aB3 1
def bt4(self:La D->Ob D):DS:=(B3 (O1 1 {dIx (B0 0) ⇑0,dIx (B0 0) ⇑1,dIx (B0 0) ⇑2,A7 G1 {dIx (B0 0) ⇑3},v8 (!"-+")<|ag8 (dIx (B0 0) ⇑4)})<|B3 (sIf (tB2 eqD (dIx (B0 0) ⇑0) !"group") (B3 (N5 1 !"[")<|B3 (ab1 (G2<|dIx (B0 0) ⇑5) (D1 2)<|O1 1 (am5 (B0 1)<|qE (A7 self {2}))) (N5 1 !"]")) D6) (B3 (sIf (tB2 eqD (dIx (B0 0) ⇑0) !"layer") (B3 (O1 1<|am5 (B0 1) (qN {Y7<|dIx (B0 0) ⇑5,Y7<|dIx (B0 0) ⇑6}))<|B3 (C7 3 !".") (B3 (sIf (tB2 aC7 (dIx (B0 0) ⇑7)<|dC .none) (C7 3<|M0 (!",") (qN<|D2 1 [] (G2<|dIx (B0 0) ⇑7) (D1 0) F6 (A7 G1 {0}))) D6)<|B3 (aY1 (dIx (B0 0) ⇑8)<|ac8 3 (K8 (D1 4)<|K8 (D1 5) (K8 (D1 6) ah7))) (B3 (O1 1<|am5 (B0 1) (qN {3,A9 B4 (A9 B4 (Y7 !4) !"x")<|Y7 !5}))<|O1 1 (am5 (B0 1)<|qN (D2 1 [] (G2 !6) (D1 0) F6<|M0 (!":") (qN<|D2 1 [] (G2 !0) (D1 0) F6 (A7 G1 {0}))))))) D6)<|at3 1 (B7 !1)))
def U7:Nat->La D->Ob D
 | 0=>λ_=>Z
 | k+1=>E2 (bt4<|U7 k) 7
def at0:DS:=(B3 (C7 1<|E5 {A9 B4 (A9 B4 (Y7<|dIx (B0 0) ⇑0) !"x")<|Y7 (dIx (B0 0) ⇑1)})<|B3 (ab1 (G2<|dIx (B0 0) ⇑2) (D1 2)<|C7 1 (A9 B4 (!1)<|A7 (U7 12) {2})) (B7<|M0 (!" ") (B0 1)))
def O5:La D->Ob D:=E2 at0 3
def be6:DS:=(B3 (C7 1<|Y8 (!0) (D5<|ag8 (A9 eqD (Y8 (!0) J1<|D5 ⇑1) !"-")) J1)<|B3 (sIf (E1 (tB2 eqD (!1) !"")<|E1 (tB2 gtI (Y9 !1) ⇑9) (tB2 neD (E5<|D2 1 [] (az0 !1) (D1 0) (tB2 (inS true) (!0) !"0123456789") !0)<|E5 A8)) (B7<|dC .none) D6) (B7<|aG0 !0))
def Q8:La D->Ob D:=E2 be6 2
def aW1:DS:=(B3 (aa7 2<|D2 1 [] (G2<|dTx txS (!0) !1) (D1 0) F6 (A7 Q8 {0}))<|B3 (sIf (tB2 (inL false) (dC .none) !2) (B7<|dC .none) D6) (B7 !2))
def O7:La D->Ob D:=E2 aW1 3
def aB2:DS:=(B3 (O1 2 A8)<|B3 (ab1 (G2<|dTx txS (!0) !1) (D1 3)<|B3 (C7 4<|A7 O7 {3,!"/"}) (B3 (sIf (E1 (tB2 isB (!4)<|dC .none)<|tB2 gtI (F7<|B0 4) ⇑2) (B7<|dC .none) D6)<|N5 2 (N1<|qE (S9 (A9 B4 (!4)<|E5 {⇑1}) J1<|D5 ⇑2)))) (B7<|N1 (B0 2)))
def O6:La D->Ob D:=E2 aB2 5
def aI8:DS:=(sIf (tB2 gtI (A9 B4 (!1) ⇑4)<|F7 (B0 0)) (B7<|dC .none) D6)
def aI7:DS:=(C7 2<|A7 Q8 {dIx (B0 0) !1})
def aI6:DS:=(C7 3<|A7 Q8 {dIx (B0 0)<|A9 B4 (!1) ⇑1})
def aI5:DS:=(C7 4<|A7 O6 {dIx (B0 0)<|A9 B4 (!1) ⇑2,!","})
def aI4:DS:=(C7 5<|A7 O7 {dIx (B0 0)<|A9 B4 (!1) ⇑3,!"x"})
def al2:DS:=(sIf (E1 (tB2 isB (!2)<|dC .none)<|E1 (tB2 isB (!3)<|dC .none) (E1 (tB2 isB (!5)<|dC .none)<|tB2 neD (F7<|B0 5) ⇑2)) (B7<|dC .none) D6)
def X1:DS:=(sIf (tB2 eqD (dIx (B0 0)<|A9 B4 (!1) ⇑2) !".") (C7 4<|dC .none)<|sIf (tB2 isB (!4)<|dC .none) (B7<|dC .none) D6)
def al1:DS:=(C7 6<|A9 B4 (A9 B4 (!1) ⇑4) (aU9 ⇑0<|A9 G7 (dIx (B0 5) ⇑0) (dIx (B0 5) ⇑1)))
def u3:DS:=(aa7 7<|D2 1 [] (G2<|S9 (!0) (D5<|A9 B4 (!1) ⇑4) (D5 !6)) (D1 0) F6 (A7 O6 {0,!":"}))
def u0:DS:=(sIf (E1 (tB2 neD (F7<|B0 7)<|A9 G7 (dIx (B0 5) ⇑0) (dIx (B0 5) ⇑1))<|tB2 (inL false) (dC .none) !7) (B7<|dC .none) D6)
def i8:DS:=(B7<|L9 {L9 {2,3,4,L9 {dIx (B0 5) ⇑0,dIx (B0 5) ⇑1,N1<|B0 7}},6})
def bt5:DS:=(B3 aI8<|B3 aI7 (B3 aI6<|B3 aI5 (B3 aI4<|B3 al2 (B3 X1<|B3 al1 (B3 u3<|B3 u0 i8)))))
def S2:La D->Ob D:=E2 bt5 8
def aB4(self:La D->Ob D):DS:=(B3 (O1 3 A8)<|B3 (Y1 (ab6 (tB2 ltI (!1)<|F7 (B0 0))<|tB2 neD (dIx (B0 0) !1) !"]")<|B3 (sIf (E1 (tB2 gtI (A9 B4 (!1) ⇑5)<|F7 (B0 0))<|E1 (tB2 (inL true) (dIx (B0 0)<|A9 B4 (!1) ⇑4)<|L9 {!"+",!"-"}) (tB2 ltI (!2) ⇑0)) (B7<|dC .none) D6) (B3 (C7 4<|A7 O6 {dIx (B0 0)<|A9 B4 (!1) ⇑3,!","})<|B3 (sIf (tB2 isB (!4)<|dC .none) (B7<|dC .none) D6) (B3 (C7 5<|L9 {dIx (B0 0) !1,dIx (B0 0)<|A9 B4 (!1) ⇑1,dIx (B0 0)<|A9 B4 (!1) ⇑2,dIx (B0 4) ⇑0,A9 eqD (dIx (B0 0)<|A9 B4 (!1) ⇑4) !"+"})<|sIf (tB2 eqD (dIx (B0 5) ⇑0) !"tone") (B3 (N5 3 !5)<|C7 1 (A9 B4 (!1) ⇑5)) (sIf (tB2 eqD (dIx (B0 5) ⇑0) !"layer") (B3 (C7 6<|A7 S2 {0,A9 B4 (!1) ⇑5})<|B3 (sIf (tB2 isB (!6)<|dC .none) (B7<|dC .none) D6) (B3 (N5 3<|A9 B4 (!5) (dIx (B0 6) ⇑0))<|C7 1 (dIx (B0 6) ⇑1)))<|B3 (sIf (E1 (tB2 neD (dIx (B0 5) ⇑0) !"group")<|tB2 neD (S9 (!0) (D5<|A9 B4 (!1) ⇑5)<|D5 (A9 B4 (!1) ⇑6)) (E5 {!"["})) (B7<|dC .none) D6) (B3 (C7 6<|A7 self {0,A9 B4 (!1) ⇑6,A9 ak9 (!2) ⇑1})<|B3 (sIf (E1 (tB2 isB (!6)<|dC .none)<|tB2 neD (S9 (!0) (D5<|dIx (B0 6) ⇑1)<|D5 (A9 B4 (dIx (B0 6) ⇑1) ⇑1)) (E5 {!"]"})) (B7<|dC .none) D6) (B3 (N5 3<|A9 B4 (!5) (L9 {dIx (B0 6) ⇑0}))<|C7 1 (A9 B4 (dIx (B0 6) ⇑1) ⇑1))))))) (B7<|L9 {N1<|B0 3,1}))
def L8:Nat->La D->Ob D
 | 0=>λ_=>Z
 | k+1=>E2 (aB4<|L8 k) 7
def aP5:DS:=(C7 1<|dTx txS (!0) !" ")
def aP4:DS:=(C7 2<|A7 O7 {dIx (B0 1) ⇑0,!"x"})
def aP3:DS:=(C7 3<|A7 (L8 12) {1,⇑1,⇑3})
def aP2:DS:=(sIf (E1 (tB2 isB (!2)<|dC .none)<|E1 (tB2 neD (F7<|B0 2) ⇑2) (E1 (tB2 isB (!3)<|dC .none)<|tB2 neD (dIx (B0 3) ⇑1) (F7<|B0 1))) (B7<|dC .none) D6)
def aP1:DS:=(C7 4<|L9 {dIx (B0 2) ⇑0,dIx (B0 2) ⇑1,dIx (B0 3) ⇑0})
def aP0:DS:=(sIf (E1 (D3<|E7 (A7 T4 {4}))<|tB2 neD (A7 O5 {4}) !0) (B7<|dC .none) D6)
def aO9:DS:=(B7 !4)
def bN4:DS:=(B3 aP5<|B3 aP4 (B3 aP3<|B3 aP2 (B3 aP1<|B3 aP0 aO9)))
def J4:La D->Ob D:=E2 bN4 5
def aj5:DS:=(C7 2<|A7 B6 {0,⇑800,A9 B4 (Y9 !1) ⇑1})
def aj4:DS:=(C7 3<|v8 (!"0123456789/:,.x+-[] abtg") (A7 B6 {0,⇑801,⇑24}))
def aj3:DS:=(C7 4<|dTx txS (!1) !" ")
def aj2:DS:=(C7 5<|A7 B6 {0,⇑802,F7<|B0 4})
def aj1:DS:=(C7 6<|A7 B6 {0,⇑803,F7<|B0 4})
def aj0:DS:=(O1 7 λy=>((B0 4) y).map λq=>q.2)
def ai9:DS:=(bn7 7 (!5)<|dIx (B0 4) !6)
def ai8:DS:=(bn7 7 (!6)<|dIx (B0 4) !5)
def ai7:DS:=(C7 8<|E5 {A9 B4 (A9 B4 (Y8 (!1) J1<|D5 !2) !3)<|Y8 (!1) (D5 !2) J1,A9 B4 (Y8 (!1) J1<|D5 !2)<|Y8 (!1) (D5<|A9 B4 (!2) ⇑1) J1,A9 B4 (A9 B4 (Y8 (!1) J1<|D5 !2) !3)<|Y8 (!1) (D5<|A9 B4 (!2) ⇑1) J1})
def ai6:DS:=(C7 8<|A9 B4 (!8) (E5 {M0 (!" ")<|qE (A9 B4 (S9 (!4) J1<|D5 !5)<|S9 (!4) (D5<|A9 B4 (!5) ⇑1) J1),M0 (!" ")<|qE (A9 B4 (S9 (!4) J1<|D5 (A9 B4 (!5) ⇑1))<|S9 (!4) (D5 !5) J1)}))
def ag2:DS:=(C7 8<|A9 B4 (!8) (E5 {M0 (!" ")<|B0 7,dIx (qN {!"",!" ",!"1x1",!"x",A9 B4 (!1) !" ",A9 B4 (!1) !" ]"})<|A9 X3 (!2) ⇑6}))
def ag1:DS:=(B7<|dIx (B0 8) (A7 B6 {0,⇑804,⇑7}))
def au3:DS:=(B3 aj5<|B3 aj4 (B3 aj3<|B3 aj2 (B3 aj1<|B3 aj0 (B3 ai9<|B3 ai8 (B3 ai7<|B3 ai6 (B3 ag2 ag1))))))
def Q6:La D->Ob D:=E2 au3 9
def P9(b:Bool):DS:=(B3 (sIf (E1 (D3<|ai5 (L5 leI leI ⇑1 (Y9 !0) ⇑400))<|D3 (E7<|aq1 (qN<|D2 1 [] (az0 !0) (D1 0) F6 (A9 (inS false) (!0) !"0123456789")))) (rz b<|.int 0) D6)<|B7 (aG0 !0))
def J2(b:Bool):La D->Ob D:=E2 (P9 b) 1
def j8(b:Bool):DS:=(B3 (sIf (E7<|dTx txB (!0) !"-") (B7<|bd4 (A7 (J2 b) {Y8 (!0) (D5 ⇑1) J1})) D6)<|B7 (A7 (J2 b) {0}))
def Q1(b:Bool):La D->Ob D:=E2 (j8 b) 1
def y9(b:Bool):DS:=(B3 (C7 1<|dTx txP (!0) !"/")<|B3 (C7 2<|aq0 (tB2 eqD (dIx (B0 1) ⇑1) !"/") (A7 (J2 b) {dIx (B0 1) ⇑2}) ⇑1) (B7<|L9 {A7 (J2 b) {dIx (B0 1) ⇑0},2}))
def K5(b:Bool):La D->Ob D:=E2 (y9 b) 3
def as8(b:Bool):DS:=(B7<|N1 (qN<|D2 1 [] (G2<|dTx txS (!0) !":") (D1 0) F6 (A7 (K5 b) {0})))
def W2(b:Bool):La D->Ob D:=E2 (as8 b) 1
def ad5(b:Bool):DS:=(B3 (sIf (tB2 eqD (!0) !".") (B7<|dC .none) D6)<|B7 (N1<|qN (D2 1 [] (G2<|dTx txS (!0) !",") (D1 0) F6<|A7 (K5 b) {0})))
def i5(b:Bool):La D->Ob D:=E2 (ad5 b) 1
def as9(b:Bool):DS:=(B3 (C7 1<|dTx txP (!0) !"x")<|B7 (L9 {A7 (J2 b) {dIx (B0 1) ⇑0},A7 (J2 b) {dIx (B0 1) ⇑2}}))
def S1(b:Bool):La D->Ob D:=E2 (as9 b) 2
def aE0:UX:=(ab0<|uB2 (hX (.bool true) eqD) (aw4 0 false "words_taken") (aO6<|aw4 0 false "words"))
def S0:DF:=S6 aE0 1
def ad6:UX:=(N9 (aw3 0 false "words"<|uP (dTx txS (!1) !" "))<|aw3 0 false "words_taken" (uP ⇑0))
def x9:DF:=S6 ad6 2
def Z4(b:Bool):UX:=(N9 (uIf (uTB<|uM0 0 false "is_at_end" S0) (uz b bad) aI0)<|ab0 (bw7 (aw4 0 false "words")<|aw4 0 false "words_taken"))
def M6(b:Bool):DF:=S6 (Z4 b) 1
def j9(b:Bool):UX:=(N9 (kz b bad 1<|uM0 0 false "word_ahead" (M6 b))<|N9 (aw3 0 false "words_taken"<|uB2 (hX bad B4) (aw4 0 false "words_taken") (uP ⇑1)) (ab0<|uP !1))
def C6(b:Bool):DF:=S6 (j9 b) 2
def y8(b:Bool):UX:=(N9 (kz b bad 1<|O0 (S1 b) (ulC (uM0 0 false "take_word"<|C6 b) ulN))<|N9 (bw8 bad 2 0 (J9<|A9 G7 (dIx (B0 1) ⇑0) (dIx (B0 1) ⇑1))<|O0 (W2 b) (ulC (uM0 1 false "take_word"<|C6 b) ulN)) (ab0<|uP (A9 B4 (!1)<|L9 {N1<|B0 2})))
def T1(b:Bool):DF:=S6 (y8 b) 3
def ak7(b:Bool):UX:=(N9 (kz b bad 1<|O0 (Q1 b) (ulC (uM0 0 false "take_word"<|C6 b) ulN))<|N9 (kz b bad 2<|O0 (Q1 b) (ulC (uM0 0 false "take_word"<|C6 b) ulN)) (N9 (kz b bad 3<|O0 (i5 b) (ulC (uM0 0 false "take_word"<|C6 b) ulN))<|ab0 (ag0<|ulC (uP !1) (ulC (uP !2)<|ulC (uP !3) (ulC (uD 0 (T1 b)<|mO mN) ulN)))))
def J6(b:Bool):DF:=S6 (ak7 b) 4
def J7(b:Bool)(self:Nat->DF):UX:=(N9 (uIf (uOr (uTP<|tB2 eqD (!1) ⇑0)<|uTB (uB2 (hX (.bool true) neD) (uM0 0 false "take_word"<|C6 b)<|uP !"[")) (uz b bad) aI0)<|N9 (kz b bad 2<|uD 0 (self 2) (mO<|mC (A9 ak9 (!1) ⇑1) mN)) (N9 (uEx<|uM0 0 false "take_word" (C6 b))<|ab0 (uP !2)))
def i0(b:Bool)(self:Nat->DF):UX:=(N9 (kz b bad 2<|uM0 0 false "take_word" (C6 b))<|N9 (kz b bad 3<|uM0 0 false "take_word" (C6 b)) (N9 (kz b bad 4<|uM0 0 false "take_word" (C6 b))<|N9 (kz b bad 5<|O0 (K5 b) (ulC (uM0 0 false "take_word"<|C6 b) ulN)) (N9 (kz b bad 6<|ag0 (ulC (uP !2)<|ulC (uP !3) (ulC (uP !4)<|ulC (uP !5) (ulC (uB2 (hX (.bool true) eqD) (uM0 0 false "take_word"<|C6 b)<|uP !"+") ulN))))<|N9 (uIf (uTP<|E7 (A7 U9 {6})) (ab0<|uB2 (hX bad B4) (uP !6) (uD 0 (J6 b)<|mO mN)) aI0) (N9 (uIf (uTP<|E7 (A7 J8 {6})) (ab0<|uB2 (hX bad B4) (uP !6) (ag0<|ulC (uD 0 (self 0)<|mO (mC (!1) mN)) ulN)) aI0)<|ab0 (uP !6)))))
def aa0(b:Bool)(self:Nat->DF):UX:=(N9 (cP5 2 ulN)<|N9 (aX2 (bn0 (bm9<|uTB (uM0 0 false "is_at_end" S0))<|uTB (uB2 (hX (.bool true) neD) (uM0 0 false "word_ahead"<|M6 b)<|uP !"]"))<|aO7 2 (uD 0 (self 1)<|mO (mC (!1) mN))) (ab0<|uP (N1<|B0 2)))
def G3(b:Bool):Nat->Nat->DF
 | 0=>λ_ _ _=>Z
 | k+1=>λi=>match i with
  | 0=>S6 (J7 b<|G3 b k) 3
  | 1=>S6 (i0 b<|G3 b k) 7
  | 2=>S6 (aa0 b<|G3 b k) 3
  | _=>λ_ _=>Z
def Z3(b:Bool)(k:Nat):DF:=G3 b k 0
def as7(b:Bool)(k:Nat):DF:=G3 b k 1
def P0(b:Bool)(k:Nat):DF:=G3 b k 2
def be5(b:Bool):UX:=(N9 (bw6 1<|aS0 false x9 {0})<|N9 (kz b bad 2<|O0 (S1 b) (ulC (uM0 1 false "take_word"<|C6 b) ulN)) (N9 (kz b bad 3<|uB2 (hX bad B4) (uP !2) (ag0<|ulC (uD 1 (P0 b 12)<|mO (mC ⇑3 mN)) ulN))<|N9 (uIf (uTP<|E1 (D3<|E7 (A7 Y0 {3})) (tB2 neD (A7 K2 {3}) !0)) (uz b bad) aI0) (ab0<|uP !3)))
def T3(b:Bool):FnD:=bS0 (be5 b) 4
def ch5:DS:=(B3 (C7 1 !"1x1 group c over 1 + [ group b over 1 + [ group a over 1 + [ tone d grey 1 + ] ] ]")<|B3 (C7 2<|A7 O5 {A7 i6 {0,⇑30,⇑3,A7 af7 {0,⇑0,⇑5}}}) (B3 (C7 3<|E5 {A7 Q6 {0,2},!"8x8",1})<|B3 (sIf (tB2 neD (E5<|D2 1 [] (G2 !3) (D1 0) F6 (A7 (orF (ah4<|T3 true)<|T3 false) {0}))<|E5 (D2 1 [] (G2 !3) (D1 0) F6<|A7 J4 {0})) (B7<|dC (.bool false)) D6) (B7<|A9 eqD (E5<|D2 1 [] (G2 !3) (D1 0) (ab6 (tB2 aC7 (A7 J4 {0})<|dC .none)<|tB2 neD (A7 K2 {A7 J4 {0}}) !0) !0) (E5 A8))))
def bm5:La D->Ob D:=E2 ch5 4
end Lk91
namespace Lk91
open PySem G L2 Sh
noncomputable abbrev cl(s:Str):La Nat:=s.cps.toList
def Z2{a b:Str}(h:cl a=cl b):a=b:=by
 obtain⟨a⟩:=a;obtain⟨b⟩:=b;exact congrArg Str.mk<|Array.toList_inj.mp h
def L6(a b:Str):cl (a++b)=cl a++cl b:=by show(a.cps++b.cps).toList=_;rw[Array.toList_append]
def E3(a:Str):(cl a).length=a.length:=by simp[cl,Str.length]
noncomputable abbrev sg(c:Nat):Str:=#[(List.toArray [c])]
noncomputable def jl(c:Nat):La (La Nat)->La Nat
 | []=>[]
 | [x]=>x
 | x::y::r=>x++c::jl c (y::r)
theorem an9(c:Nat):∀ps:La Str,cl (Str.join (sg c) ps)=jl c (ps.map cl)
 | []=>rfl
 | [x]=>rfl
 | x::y::r=>by
  show cl (x++sg c++Str.join (sg c) (y::r))=_;rw[L6,L6,an9 c (y::r)];show(cl x++[c])++_=cl x++c::_;rw[au];rfl
theorem bl1{c:Nat}:∀{p w A B:La Nat},c∉p->c∉w->p++c::A=w++c::B->p=w/\A=B
 | [],[],A,B,_,_,h=>#[rfl,by simpa using h]
 | [],y::w,A,B,_,h2,h=>by simp at h h2;exact(h2.1 h.1).elim
 | x::p,[],A,B,h1,_,h=>by simp at h h1;exact(h1.1 h.1.symm).elim
 | x::p,y::w,A,B,h1,h2,h=>by
  simp only[xca,List.cons.injEq,ao,not_or]at h h1 h2;obtain⟨e1,e2⟩:=bl1 h1.2 h2.2 h.2;exact#[by rw[h.1,e1],e2]
theorem bG6{c:Nat}:∀{ps ws:La (La Nat)},ps≠[]->ws≠[]->(∀p∈ps,c∉p)->(∀p∈ws,c∉p)->jl c ps=jl c ws->ps=ws
 | [],_,h,_,_,_,_=>(h rfl).elim
 | _,[],_,h,_,_,_=>(h rfl).elim
 | [p],[w],_,_,_,_,e=>by rw[show p=w from e]
 | [p],w::v::r,_,_,h,_,e=>by
  have:c∈p:=by rw[show p=w++c::jl c (v::r) from e];simp
  exact(h p (by simp) this).elim
 | p::q::r,[w],_,_,_,h,e=>by
  have:c∈w:=by rw[show w=p++c::jl c (q::r) from e.symm];simp
  exact(h w (by simp) this).elim
 | p::q::r,w::v::s,_,_,h1,h2,e=>by
  obtain⟨e1,e2⟩:=bl1 (h1 p<|by simp) (h2 w<|by simp) (show p++c::jl c (q::r)=w++c::jl c (v::s) from e);rw[e1,bG6 (by simp) (by simp) (λx hx=>h1 x<|xmm _ hx) (λx hx=>h2 x<|xmm _ hx) e2]
def aP7(x y:Str):Txt.split x y≠[]:=by
 unfold Txt.split;split
 .simp
 .split
  .simp
  .intro h;have:=congrArg cY h;rw[length_partsBetween]at this;simp at this
def aP8(c:Nat){ws:La Str}(hn:ws≠[])(hf:∀w∈ws,c∉cl w):Txt.split (Builtin.Str.glued (sg c) ws) (sg c)=ws:=by
 have e:=StrLaws.join_split (Builtin.Str.glued (sg c) ws) (sg c);have f:=StrLaws.split_free (Builtin.Str.glued (sg c) ws) c;have n:=aP7 (Builtin.Str.glued (sg c) ws) (sg c);generalize Txt.split (Builtin.Str.glued (sg c) ws) (sg c)=ps at e f n;rw[StrLaws.glued_eq_join]at e;have e:=congrArg cl e;rw[an9,an9]at e;have key:=bG6 (c:=c) (ps:=ps.map cl) (ws:=ws.map cl) (by simpa using n) (by simpa using hn) (by simpa using f) (by simpa using hf) e
 have inj:∀{a b:La Str},a.map cl=b.map cl->a=b:=by
  intro a
  induction a with
  | nil=>intro b h;cases b with|nil=>rfl|cons=>simp at h
  | cons x a ih =>
   intro b h;cases b with
   | nil=>simp at h
   | cons y b =>
    simp only[xmc,List.cons.injEq]at h;rw[Z2 h.1,ih h.2]
 exact inj key
def aA8(x:Str)(c i:Nat):StrLaws.At x (sg c) x.length i↔(cl x)[i]? = Oa c:=StrLaws.subAt_one x c i
def aK0(a b:Str)(c:Nat)(ha:c∉cl a):Txt.partition (a++sg c++b) (sg c)=(a,sg c,b):=by
 have hx:cl (a++sg c++b)=cl a++c::cl b:=by rw[L6,L6,show cl (sg c)=[c] from rfl,au];rfl
 have h0:(cl<|a++sg c++b)[(cl a).length]? = Oa c:=by rw[hx,aK (ak _),cq];rfl
 rcases StrLaws.occ_head (a++sg c++b) (sg c) 1 (ak _) with⟨_,h⟩|⟨i,r,e,h1,h2⟩
 .exact(h _<|(aA8 _ _ _).mpr h0).elim
 .have hi:i=(cl a).length:=by
   rcases Nat.lt_trichotomy i (cl a).length with q|q|q
   .have:=(aA8 _ _ _).mp h1;rw[hx,az q]at this;exact(ha<|de this).elim
   .exact q
   .exact(h2 _ q<|(aA8 _ _ _).mpr h0).elim
  subst hi;have len:(a++sg c++b).length=(cl a).length+1+(cl b).length:=by rw[<- E3,hx];simp;omega
  have s1:Builtin.Str.strSub (a++sg c++b) 0 (cl a).length=a:=Z2 (by rw[cl,StrLaws.strSub_toList,show(a++sg c++b).cps.toList=cl a++c::cl b from hx];simp)
  have s2:Builtin.Str.strSub (a++sg c++b) ((cl a).length+(sg c).length) (a++sg c++b).length=b:=Z2 (by
   rw[cl,StrLaws.strSub_toList,show(a++sg c++b).cps.toList=cl a++c::cl b from hx,len,show(sg c).length=1 from rfl];have:(cl a++c::cl b).drop ((cl a).length+1)=cl b:=by rw[show cl a++c::cl b=(cl a++[c])++cl b by simp,List.drop_left' (by simp)]
   rw[this]
   exact aY (by omega))
  unfold Txt.partition;rw[e];show(Builtin.Str.strSub _ 0 (cl a).length,sg c,Builtin.Str.strSub _ _ _)=_;rw[s1,s2]
def bh7(a:Str)(c:Nat)(ha:c∉cl a):Txt.partition a (sg c)=(a,fI,fI):=by
 rcases StrLaws.occ_head a (sg c) 1 (ak _) with⟨e,_⟩|⟨i,r,e,h1,h2⟩
 .unfold Txt.partition;rw[e]
 .exact(ha<|de ((aA8 _ _ _).mp h1)).elim
noncomputable def it(i:Int):Str:=Str.ofString<|toString i
abbrev nt(n:Nat):Str:=it n
def aG2(n:Nat):cl (nt n)=(dW 10 n).map Char.toNat:=PySem.W.KIN.signs_num n
def dch:∀d:Nat,d < 10->(Nat.digitChar d).toNat=48+d:=by decide
def ce2{n:Nat}(h:n < 10):cl (nt n)=[48+n]:=by rw[aG2,dX h,xmc,xmn,dch n h]
def cI9{n:Nat}(h:10<=n):cl (nt n)=cl (nt<|n / 10)++[48+n % 10]:=by
 have hm:n % 10 < 10:=dQ n (by decide);have t:dW 10 (n / 10)++dW 10 (n % 10)=dW 10 (10*(n / 10)+n % 10):=Nat.toDigits_append_toDigits (by decide) (by grind) hm;rw[Nat.div_add_mod]at t;rw[aG2,aG2,<- t,aO,dX hm,xmc,xmn,dch _ hm]
theorem aj9:∀(k:Nat) {n:Nat},n < 10 ^ (k+1)->(nt n).length<=k+1
 | 0,n,h=>by rw[<- E3,ce2 (by simpa using h)];exact ak _
 | k+1,n,h=>by
  by_cases q:n < 10
  .rw[<- E3,ce2 q];exact ck<|aA _
  .have:=aj9 k (n:=n / 10) (by rw[Nat.pow_succ]at h;grind);rw[<- E3]at this |-;rw[cI9 (by grind),aj];exact ck this
def bC7(n:Nat):(∀c∈cl (nt n),48<=c/\c<=57)/\1<=(nt n).length:=by
 refine#[λc hc=>?_,?_]
 .rw[aG2]at hc;obtain⟨ch,hch,rfl⟩:=aV.mp hc;exact PyProof.Rows.digit_range (Nat.isDigit_of_mem_toDigits (by decide) (by decide) hch)
 .rw[<- E3,aG2,ai];exact List.length_pos_iff.mpr Nat.toDigits_ne_nil
abbrev Bi(i:Int):Prop:=0<=i/\i < 10000000
def Bi.nat(h:Bi i):∃n:Nat,i=n/\n < 10 ^ 7:=#[i.toNat,by grind,by grind]
def aw7{i:Int}(h:i.natAbs < 10 ^ 7){f:DE}{y:Rho}(hf:f y=Oa (.int i)):Y7 f y=Oa (.str<|it i):=by
 have lg:i.natAbs.log2 < 1920:=by
  rcases Nat.eq_zero_or_pos i.natAbs with q|q
  .rw[q];decide
  .exact(Nat.log2_lt<|by grind).mpr (aG h<|aI (by decide:10 ^ 7<=2 ^ 30) (cI (by decide)<|by decide))
 unfold Y7;rw[hf];show(if i.natAbs.log2 < 1920 then Oa (fD<|it i) else Z)=_;rw[if_pos lg]
def cat(l:La Str):La Nat:=l.flatMap cl
theorem aS8:∀l:La Str,cl (Str.join fI l)=cat l
 | []=>rfl
 | [x]=>by simp[cat,Str.join]
 | x::y::r=>by
  show cl (x++fI++Str.join fI (y::r))=_;rw[L6,L6,aS8 (y::r),show cl fI=[] from rfl,ar];rfl
def aF8(l:La Str):cl (Builtin.Str.glued "" l)=cat l:=by rw[StrLaws.glued_eq_join];exact aS8 l
def bG4:∀l:La Str,N6 "" l=(cat l).length:=λl=>by
 have key:∀(l:La Str) (n:Nat),l.foldl (λn y=>n+y.length+("":Str).length) n=n+(cat l).length:=by
  intro l
  induction l with
  | nil=>intro n;rfl
  | cons x l ih =>
   intro n;rw[dj,ih,show cat (x::l)=cl x++cat l from rfl,aj,E3,show("":Str).length=0 from rfl]
   grind
 unfold N6;rw[List.foldl_toArray,key,Nat.zero_add]
def cz0{f:DS}{ρ:Rho}{t:Rho->Ob Bool}{k:Nat}(h:t ρ=Oa false):N7 t f (k+1) ρ=Oa (.nx ρ):=by unfold N7;rw[h];rfl
def cT2{f:DS}{y ρ':Rho}{t:Rho->Ob Bool}{k:Nat}(h:t y=Oa true)(e:f y=Oa (.nx ρ')):N7 t f (k+1) y=N7 t f k ρ':=by
 show(t y).bind _=_;rw[h];show(f y).bind _=_;rw[e];rfl
def bv2{i:Int}(h:i.natAbs < 10 ^ 7)(hl:(it i).length<=2000):F5 [.int i]=Oa (.str<|it i):=by
 have p:bA6 (.int 10) (.int 60)=Oa (.int (10 ^ 60:Nat)):=by kernel_rfl
 have g:geI (.int i) (.int (10 ^ 60:Nat))=Oa (.bool false):=by
  show Oa (fC<|decide (((10 ^ 60:Nat):Int)<=i))=_;rw[decide_eq_false];have:(10 ^ 7:Nat)<=10 ^ 60:=cI (by decide) (by decide)
  grind
 refine C4 (ρ:=[[:.int i],Z,Z]) rfl ?_;unfold n8;refine(B2 (ρ':=[[:.int i],[:.int (10 ^ 60:Nat)],Z]) (by exists evD,p)).trans ?_;refine(B2 (ρ':=[[:.int i],[:.int (10 ^ 60:Nat)],Oa (.own [])]) rfl).trans ((B2<|k9 (n:=1) (cz0 (k:=0) (t:=tB2 geI (!0) !1) (ρ:=[[:.int i],[:.int (10 ^ 60:Nat)],Oa (.own [])]) (by exists evD,g))).trans ?_);refine(B2 (ρ':=[[:.int i],[:.int (10 ^ 60:Nat)],Oa (.own [.str (it i)])]) ?_).trans ?_
 .unfold N5;rw[aw7 h (f:=A6 0) rfl];rfl
 .unfold B7 aM8;have e:Builtin.Str.glued "" [it i]=it i:=Z2 (by rw[aF8];exact ar _);show((if N6 "" [it i]<=16777216/\(Builtin.Str.glued "" [it i]).length<=16777216/\[it i].length<=16777216 then Oa _ else Z).map _)=_;rw[if_pos #[by rw[bG4,show cat [it i]=cl (it i) from ar _,E3];grind,by rw[e];grind,by show 1<=_;decide],show [it i].reverse=[it i] from rfl,e];rfl
abbrev gl(c:Nat)(ws:La Str):Str:=Builtin.Str.glued (sg c) ws
noncomputable abbrev sD(ws:La Str):La D:=ws.map fD
theorem aI2:∀ws:La Str,ar2 (sD ws)=Oa ws
 | []=>rfl
 | w::ws=>by show(ar2<|sD ws).map _=_;rw[aI2 ws];rfl
def aA6(c:Nat)(ws:La Str):cl (gl c ws)=jl c (ws.map cl):=by rw[gl,StrLaws.glued_eq_join,an9]
def Q5(a b:Str):(a++b).length=a.length+b.length:=by rw[<- E3,L6,aj,E3,E3]
theorem bG5{b c:Nat}:∀ws:La (La Nat),(∀w∈ws,w.length<=b)->(jl c ws).length<=(b+1)*ws.length
 | [],_=>aA _
 | [x],h=>by have:=h x (by simp);show x.length<=(b+1)*1;grind
 | x::y::r,h=>by
  have h1:=h x (by simp);have h2:=bG5 (c:=c) (y::r) λw hw=>h w<|xmm _ hw
  rw[jl,aj,ag,ag (as:=y::r),Nat.mul_succ]
  grind
def cw5{b c:Nat}(ws:La Str)(h:∀w∈ws,w.length<=b):N6 (sg c) ws<=(b+1)*ws.length:=by
 have key:∀(ws:La Str) (n:Nat),(∀w∈ws,w.length<=b)->ws.foldl (λn y=>n+y.length+(sg c).length) n<=n+(b+1)*ws.length:=by
  intro ws
  induction ws with
  | nil=>intro n _;simp
  | cons w ws ih =>
   intro n hw;have h1:=hw w (by simp);have h2:=ih (n+w.length+(sg c).length) λv hv=>hw v<|xmm _ hv
   have h3:(sg c).length=1:=rfl;rw[dj,ag,Nat.mul_succ];omega
 have:=key ws 0 h;unfold N6;rw[List.foldl_toArray];omega
def bb7{b c:Nat}{ws:La Str}(h:∀w∈ws,w.length<=b):(gl c ws).length<=(b+1)*ws.length:=by
 have:=bG5 (c:=c) (b:=b) (ws.map cl) (λw hw=>by obtain⟨v,hv,rfl⟩:=aV.mp hw;rw[E3];exact h v hv);rw[ai]at this;rw[<- E3,aA6];exact this
def bk9{c b:Nat}{x:Str}{ws:La Str}{g:Rho->Ob (Bool×La D)}{y:Rho}(hx:x=sg c)(hg:g y=Oa (false,sD ws))(hb:∀w∈ws,w.length<=b)(hl:(b+1)*ws.length<=16777216):M0 (dC<|.str x) g y=Oa (.str<|gl c ws):=by
 subst hx;have h1:=cw5 (c:=c) ws hb;have h2:=bb7 (c:=c) hb;unfold M0;rw[hg];show(if false=true then Z else(ar2<|sD ws).bind _)=_;rw[if_neg (by decide),aI2];show(if N6 (sg c) ws<=16777216/\(gl c ws).length<=16777216 then _ else _)=_;rw[if_pos #[by grind,by grind]]
def X7{a b:Str}(h:a.length+b.length<=16777216):B4 (.str a) (.str b)=Oa (.str<|a++b):=if_pos h
def X8{a b:La D}(h:a.length+b.length<=16777216):B4 (.list a) (.list b)=Oa (.list<|a++b):=if_pos h
def Al(p:Nat->Prop)(s:Str):Prop:=∀c∈cl s,p c
def Al.app{a b:Str}(h1:Al p a)(h2:Al p b):Al p (a++b):=λc hc=>by
 rw[L6]at hc;exact(aE.mp hc).elim (h1 c) (h2 c)
theorem Al.sg(h:p c):Al p (sg c):=λd hd=>by rw[show d=c by simpa [cl] using hd];exact h
def Al.imp(h:Al p s)(i:∀c,p c->q c):Al q s:=λc hc=>i c<|h c hc
theorem bG8{p:Nat->Prop}(hc:p c):∀ws:La (La Nat),(∀w∈ws,∀d∈w,p d)->∀d∈jl c ws,p d
 | [],_,d,hd=>by simp[jl]at hd
 | [x],h,d,hd=>h x (by simp) d hd
 | x::y::r,h,d,hd=>by
  rw[jl]at hd;rcases aE.mp hd with q|q
  .exact h x (by simp) d q
  .rcases ao.mp q with rfl|q
   .exact hc
   .exact bG8 hc (y::r) (λw hw=>h w<|xmm _ hw) d q
theorem Al.gl{ws:La Str}(hc:p c)(h:∀w∈ws,Al p w):Al p (gl c ws):=λd hd=>by
 rw[aA6]at hd;exact bG8 hc _ (λw hw=>by obtain⟨v,hv,rfl⟩:=aV.mp hw;exact h v hv) d hd
def Al.no(h:Al p s)(i:¬p c):c∉cl s:=λhc=>i<|h c hc
abbrev Sr:=Int×Int
noncomputable abbrev prD(s:Sr):D:=.tuple [.int s.1,.int s.2]
abbrev spD(l:La Sr):D:=.tuple<|l.map prD
abbrev Bs(s:Sr):Prop:=Bi s.1/\Bi s.2
abbrev Sht:=Int×Int×La (La Sr)
abbrev T9(t:Sht):D:=.tuple [.int t.1,.int t.2.1,.tuple (t.2.2.map spD)]
def shT(s:Sr):Str:=if s.2=1 then it s.1 else it s.1++sg 47++it s.2
def sl_:("/":Str)=sg 47:=∅
def ex_:("x":Str)=sg 120:=∅
def co_:(":":Str)=sg 58:=∅
def cm_:(",":Str)=sg 44:=∅
def bl_:(" ":Str)=sg 32:=∅
abbrev pN(c:Nat):Prop:=48<=c/\c<=57
abbrev pS(c:Nat):Prop:=47<=c/\c<=57
abbrev pW(c:Nat):Prop:=33<=c/\c<=122
def aa9(h:Bi i):Al pN (it i):=by obtain⟨n,rfl,_⟩:=h.nat;exact(bC7 n).1
def U4(h:Bi i):(it i).length<=7:=by obtain⟨n,rfl,q⟩:=h.nat;exact aj9 6 q
def bf4(h:Bi i):F5 [.int i]=Oa (.str<|it i):=bv2 (by grind) (by have:=U4 h;grind)
def aj6{s:Sr}(h:Bs s):Al pS (shT s)/\(shT s).length<=15:=by
 have i:∀c,pN c->pS c:=λc h=>#[by grind,h.2]
 have l1:=U4 h.1;have l2:=U4 h.2;unfold shT;split
 .exact#[Al.imp (aa9 h.1) i,by grind]
 .refine#[((Al.imp (aa9 h.1) i).app<|Al.sg #[by decide,by decide]).app<|Al.imp (aa9 h.2) i,?_];rw[Q5,Q5,show(sg 47).length=1 from rfl];grind
def ca8(a b:Str)(c:Nat)(ha:a.length<=1000)(hb:b.length<=1000):B4 (.str a) (.str<|sg c)=Oa (.str<|a++sg c)/\B4 (.str<|a++sg c) (.str b)=Oa (.str<|a++sg c++b):=by
 have h1:(sg c).length=1:=rfl;exact#[X7 (by grind),X7 (by rw[Q5];grind)]
def aX0{s:Sr}(h:Bs s):K1 [prD s]=Oa (.str<|shT s):=by
 have w1:=bf4 h.1;have w2:=bf4 h.2;have l1:=U4 h.1;have l2:=U4 h.2;obtain⟨c1,c2⟩:=ca8 (it s.1) (it s.2) 47 (by grind) (by grind);refine rX1 ?_;unfold shT;by_cases d:s.2=1
 .have e:(s.2==1)=true:=by rw[d];rfl
  rw[if_pos d]
  exists evD,W9,e,w1
 .have e:(s.2==1)=false:=beq_eq_false_iff_ne.mpr d;rw[if_neg d]
  exists evD,W9,e,w1,w2,sl_,c1,c2
def sT(c:Nat)(l:La Sr):Str:=gl c<|l.map shT
def cd2{l:La Sr}(hc:pW c)(h:∀s∈l,Bs s):Al pW (sT c l)/\(sT c l).length<=16*l.length:=by
 have w:∀v∈l.map shT,Al pS v/\v.length<=15:=λv hv=>by
  obtain⟨s,hs,rfl⟩:=aV.mp hv;exact aj6<|h s hs
 refine#[Al.gl hc λv hv=>(w v hv).1.imp λc h=>#[by grind,by grind],?_];have:=bb7 (c:=c) λv hv=>(w v hv).2
 rwa [ai]at this
def bj4{f:FnD}{x:Str}{l:La Sr}{src:Rho->Ob (La D)}(hx:x=sg c)(hs:src ρ=Oa (l.map prD))(hl:l.length<=1000)(hf:∀s,Bs s->f [prD s]=Oa (.str<|shT s))(h:∀s∈l,Bs s):M0 (dC<|.str x) (qN<|D2 1 [] src (D1 0) F6 (A7 f {0})) ρ=Oa (.str<|sT c l):=by
 have n:=U2 (zd:=[]) (src:=src) (e:=A7 f {0}) (ρ:=ρ) (l:=l) (h:=prD) (f:=λs=>.str<|shT s) (r:=[]) rfl hs hl λs hs=>by exists evD,hf s<|h s hs
 have q:qN (D2 1 [] src (D1 0) F6<|A7 f {0}) ρ=Oa (false,sD<|l.map shT):=by
  unfold qN;rw[n,sD,bw];rfl
 exact bk9 (ws:=l.map shT) hx q (b:=15) (λw hw=>by obtain⟨s,hs,rfl⟩:=aV.mp hw;exact(aj6<|h s hs).2) (by rw[ai];grind)
def cj2{l:La Sr}(hl:l.length<=1000)(h:∀s∈l,Bs s):T2 [spD l]=Oa (.str<|sT 58 l):=by
 refine rX1 ?_;unfold ad2 B7;rw[bj4 co_ rfl hl (λs hs=>aX0 hs) h];rfl
def mkD:Ob (La Sr)->D
 | none=>.none
 | some l=>spD l
def mkT:Ob (La Sr)->Str
 | none => "."
 | some l=>sT 44 l
def cj3{m:Ob (La Sr)}(h:∀l,m=Oa l->l.length<=1000/\∀s∈l,Bs s):Z6 [mkD m]=Oa (.str<|mkT m):=by
 refine rX1 ?_;cases m with
 | none=>rfl
 | some l =>
  obtain⟨h1,h2⟩:=h l rfl;unfold ad4;refine(B2 (ρ':=[[:spD l]]) rfl).trans ?_;unfold B7;rw[bj4 cm_ rfl h1 (λs hs=>aX0 hs) h2];rfl
def szT(w h:Int):Str:=it w++sg 120++it h
def bu8{w h:Int}(hw:Bi w)(hh:Bi h)(x:D):L7 [.tuple [.int w,.int h,x]]=Oa (.str<|szT w h):=by
 have w1:=bf4 hw;have w2:=bf4 hh;have l1:=U4 hw;have l2:=U4 hh;obtain⟨c1,c2⟩:=ca8 (it w) (it h) 120 (by grind) (by grind);refine rX1 ?_
 exists evD,ad3,w1,w2,ex_,c1,c2,szT
def cs4{f:DE}{y:Rho}{x:D}(h:f y=Oa x):E5 {(f)} y=Oa (.list [x]):=by simp only[E5,A0,A8,h,xbs,xms]
structure Wt (t:Sht):Prop where
 w:Bi t.1
 h:Bi t.2.1
 l:t.2.2.length<=100
 p:∀l∈t.2.2,l.length<=4/\∀s∈l,Bs s
abbrev wt(t:Sht):La Str:=szT t.1 t.2.1::t.2.2.map (sT 58)
def cj1{t:Sht}(h:Wt t):U6 [T9 t]=Oa (.list<|sD (wt t)):=by
 have z:A7 L7 {0} [[:T9 t]]=Oa (.str<|szT t.1 t.2.1):=by exists evD,bu8 h.w h.h
 have c:=U2 (zd:=[]) (src:=G2<|dIx (B0 0) ⇑2) (ρ:=[[:T9 t]]) (e:=A7 T2 {0}) (l:=t.2.2) (h:=spD) (f:=λl=>.str<|sT 58 l) (r:=[]) rfl rfl (by have:=h.l;grind) λl hl=>by exists evD,cj2 (show l.length<=1000 by have:=(h.p l hl).1;grind) (h.p l hl).2
 refine rX1 ?_;unfold n9 B7;rw[B5 (cs4 z) (show E5 _ _=Oa (.list<|sD (t.2.2.map<|sT 58)) by unfold E5;rw[c,sD,bw];rfl),X8 (by simp;have:=h.l;grind)];rfl
def W1{f:Rho->Ob (Bool×La D)}{g:DE}{y:Rho}{q:Bool×La D}{i:Int}(h1:f y=Oa q)(h2:g y=Oa (.int i)):dIx f g y=atI q.2 i:=by unfold dIx;rw[h1,xbs,h2];rfl
def L3{xs:La D}{j:Nat}(h:xs[j]? = Oa d):E2 (B7<|dIx (B0 0) (dC<|.int j)) 1 [.tuple xs]=Oa d:=by
 refine rX1 ?_;unfold B7;rw[W1 (q:=(true,xs)) rfl rfl,L4 h];rfl
def ac0{f:Rho->Ob (La D)}{y:Rho}{xs:La D}(h:f y=Oa xs):qN f y=Oa (false,xs):=by unfold qN;rw[h];rfl
section
variable {f g:DE}{t u:Rho->Ob Bool}{G:DS}{ρ:Rho}{q x:Bool}{d:D}
def vA(h1:f ρ=Oa (.bool q))(H:q=true->g ρ=Oa (.bool x)):T6 f g ρ=Oa (.bool<|q&&x):=by
 unfold T6;rw[h1];cases q
 .rfl
 .exact H rfl
def vA1(h1:f ρ=Oa (.bool true))(h2:g ρ=Oa (.bool x)):T6 f g ρ=Oa (.bool x):=vA h1 λ_=>h2
def tN(h:f ρ=Oa (.bool q)):D3 (E7 f) ρ=Oa (!q):=by
 unfold D3 E7;rw[h];rfl
def tO(h1:t ρ=Oa (!q))(H:q=true->u ρ=Oa (!x)):E1 t u ρ=Oa (!(q&&x)):=by
 unfold E1;rw[h1];cases q
 .rfl
 .exact H rfl
def tO1(h1:t ρ=Oa false)(h2:u ρ=Oa x):E1 t u ρ=Oa x:=by
 unfold E1;rw[h1];exact h2
def gd(h:t ρ=Oa (!q))(H:q=true->G ρ=Oa (.rt<|.bool x)):B3 (sIf t (B7<|dC (.bool false)) D6) G ρ=Oa (.rt<|.bool (q&&x)):=by
 unfold B3 sIf;rw[h];cases q
 .rfl
 .exact H rfl
def gn(h:t ρ=Oa (!q)):B3 (sIf t (B7<|dC .none) D6) G ρ=bif q then G ρ else Oa (.rt .none):=by
 unfold B3 sIf;rw[h];cases q<;>rfl
def L0(h:f ρ=Oa d):B7 f ρ=Oa (.rt d):=by unfold B7;rw[h];rfl
def w9{o:D->D->Ob D}(h1:f ρ=Oa y)(h2:g ρ=Oa z)(h:o y z=Oa (.bool q)):tB2 o f g ρ=Oa q:=by
 unfold tB2;rw[B5 h1 h2,h];rfl
def k1{F:FnD}(h:f ρ=Oa y):A7 F {(f)} ρ=F [y]:=by
 unfold A7 A0;rw[h];rfl
def k2{F:FnD}(h:f ρ=Oa y)(h2:g ρ=Oa z):A7 F {(f),(g)} ρ=F [y,z]:=by
 unfold A7 A0;rw[h,xbs,h2];rfl
def k3{F:FnD}{h:DE}(h1:f ρ=Oa d)(h2:g ρ=Oa y)(h3:h ρ=Oa z):A7 F {(f),(g),(h)} ρ=F [d,y,z]:=by
 unfold A7 A0;rw[h1,xbs,h2,xbs,h3];rfl
def ch{a b c:Int}{h:DE}(h1:f ρ=Oa (.int a))(h2:g ρ=Oa (.int b))(h3:h ρ=Oa (.int c)):L5 leI leI f g h ρ=Oa (.bool<|decide (a<=b)&&decide (b<=c)):=by
 by_cases q:a<=b
 .simp only[L5,h1,h2,h3,xbs,cs8,q,decide_true,bS,if_true]
 .simp only[L5,h1,h2,xbs,cs8,q,decide_false,ce,xft,if_false]
def aA9{y:Type}{zd:La Nat}{src:Rho->Ob (La D)}{r:Rho}{l:La y}{h:y->D}{p:y->Bool}(hr:w8 1 zd ρ=Z::r)(hs:src ρ=Oa (l.map h))(hl:l.length<=1000)(H:∀a∈l,f ([:h a]::r)=Oa (.bool<|p a)):aq1 (qN<|D2 1 zd src (D1 0) F6 f) ρ=Oa (.bool<|l.all p):=by
 unfold aq1;rw[ac0 (U2 (f:=λa=>.bool<|p a) hr hs hl H)];show(aV7 _).map _=_;rw[aB0];rfl
def bi7{z:Type}(k:Nat){l:La z}{f:z->D}{g:Rho->Ob (Bool×La D)}(hf:g ρ=Oa (c,l.map f)){j:Int}(hj:j=(k:Int)):tB2 neD (F7 g) (dC<|.int j) ρ=Oa (!(l.length==k)):=by
 subst hj;refine w9 (y:=.int l.length) ?_ rfl ?_
 .unfold F7;rw[hf];show Oa (fB (l.map f).length)=_;rw[ai]
 .rw[aS2]
  congr 3
  rw[bv,beq_iff_eq,beq_iff_eq];grind
end
def Y3{t:Rho->Ob Bool}{f g:DS}(h:t y=Oa true):sIf t f g y=f y:=by unfold sIf;rw[h];rfl
def R9{t:Rho->Ob Bool}{f g:DS}(h:t y=Oa false):sIf t f g y=g y:=by unfold sIf;rw[h];rfl
def S5{f:DE}(h:f y=Oa d):C7 i f y=Oa (.nx<|y.set i ([:d])):=by unfold C7;rw[h];rfl
def se2{f:DE}(h:f (x::y::a::z)=Oa d):C7 2 f (x::y::a::z)=Oa (.nx (x::y::[:d]::z)):=S5 h
def se3{f:DE}(h:f (x::y::z::a::w)=Oa d):C7 3 f (x::y::z::a::w)=Oa (.nx (x::y::z::[:d]::w)):=S5 h
def se4{f:DE}(h:f (x::y::z::u::a::w)=Oa d):C7 4 f (x::y::z::u::a::w)=Oa (.nx (x::y::z::u::[:d]::w)):=S5 h
def se5{f:DE}(h:f (x::y::z::u::v::a::w)=Oa d):C7 5 f (x::y::z::u::v::a::w)=Oa (.nx (x::y::z::u::v::[:d]::w)):=S5 h
def se6{f:DE}(h:f (x::y::z::u::v::w::a::r)=Oa d):C7 6 f (x::y::z::u::v::w::a::r)=Oa (.nx (x::y::z::u::v::w::[:d]::r)):=S5 h
def X0{F:FnD}{f:DE}(h:f y=Oa x)(e:F [x]=Oa (.bool c)):E7 (A7 F {(f)}) y=Oa c:=by
 unfold E7 A7 A0;rw[h];show((F [x]).bind _)=_;rw[e];rfl
def aj8{i:Nat}{f:Rho->Ob (La D)}{y:Rho}{ds:La D}(h:f y=Oa ds):O1 i f y=Oa (.nx<|y.set i (Oa<|.own ds)):=by unfold O1;rw[h];rfl
def aC{f:DE}{g:Rho->Ob (La D)}(h1:f y=Oa x)(h2:g y=Oa l):A0 f g y=Oa (x::l):=by
 unfold A0;rw[h1,xbs,h2];rfl
def ls_{g:Rho->Ob (La D)}(h:g y=Oa l):E5 g y=Oa (.list l):=by
 unfold E5;rw[h];rfl
def cJ8{f g:DE}(h1:f z=Oa x)(h2:g z=Oa y):E5 {(f),(g)} z=Oa (.list [x,y]):=ls_<|aC h1 (aC h2 rfl)
inductive Rw
 | leaf (k n m:Str) (s:Sr) (v:Bool)
 | lay (n m:Str) (s:Sr) (v:Bool) (l t:Int) (mk:Option (List Sr)) (sh:Option Sht)
 | grp (n m:Str) (s:Sr) (v:Bool) (ns:List Rw)
 | grb (n m:Str) (s:Sr) (v:Bool)
 | bad
abbrev hdD(k n m:Str)(s:Sr)(v:Bool)(r:La D):D:=.tuple (.str k :: .str n :: .str m::prD s :: .bool v::r)
def shO:Ob Sht->D
 | none=>bad
 | some t=>T9 t
mutual
def Rw.d:Rw->D
 | .leaf k n m s v=>hdD k n m s v []
 | .lay n m s v l t mk sh=>hdD "layer" n m s v [.int l,.int t,mkD mk,shO sh]
 | .grp n m s v ns=>hdD "group" n m s v [.tuple (Rw.ds ns)]
 | .grb n m s v=>hdD "group" n m s v [G.bad]
 | .bad=>G.bad
def Rw.ds:La Rw->La D
 | []=>[]
 | n::r=>n.d::Rw.ds r
end
theorem u7:∀l:La Rw,Rw.ds l=l.map Rw.d
 | []=>by rw[Rw.ds];rfl
 | n::r=>by rw[Rw.ds,u7 r];rfl
mutual
noncomputable def Rw.dp:Rw->Nat
 | .grp _ _ _ _ ns=>Rw.dps ns+1
 | _=>0
noncomputable def Rw.dps:La Rw->Nat
 | []=>0
 | n::r=>max n.dp<|Rw.dps r
end
def pm(b:Bool):Str:=if b=true then sg 43 else sg 45
def hdW(k n m:Str)(s:Sr)(v:Bool):La Str:=[k,n,m,shT s,pm v]
def lyW(l t:Int)(mk:Ob (La Sr))(sh:Sht):La Str:=it l::it t::mkT mk::wt sh
mutual
def nw:Rw->La Str
 | .leaf k n m s v=>hdW k n m s v
 | .lay n m s v l t mk (Oa sh)=>hdW "layer" n m s v++lyW l t mk sh
 | .lay _ _ _ _ _ _ _ Z=>[]
 | .grp n m s v ns=>hdW "group" n m s v++[("[":Str)]++nws ns++[("]":Str)]
 | .grb ..=>[]
 | .bad=>[]
def nws:La Rw->La Str
 | []=>[]
 | n::r=>nw n++nws r
end
def Wd(s:Str):Prop:=Al pW s/\s.length<=1600
def ah2{s:Str}(h:((cl s).all (λc=>decide (33<=c/\c<=122))&&decide (s.length<=1600))=true):Wd s:=by
 simp only[ae,decide_eq_true_eq]at h;exact#[λc hc=>of_decide_eq_true<|ay.mp h.1 c hc,h.2]
structure Hd (n m:Str) (s:Sr):Prop where
 n:Wd n
 m:Wd m
 s:Bs s
structure GL (l t:Int) (mk:Option (List Sr)) (sh:Sht):Prop where
 l:l.natAbs<=9
 t:t.natAbs<=9
 ms:∀ms,mk=Oa ms->ms.length<=100/\∀s∈ms,Bs s
 sh:Wt sh
mutual
def Gw:Rw->Prop
 | .leaf k n m s _=>Wd k/\Hd n m s/\(k==("layer":Str))=false/\(k==("group":Str))=false
 | .lay n m s _ l t mk (Oa sh)=>Hd n m s/\GL l t mk sh
 | .lay _ _ _ _ _ _ _ Z=>False
 | .grp n m s _ ns=>Hd n m s/\Gws ns
 | .grb ..=>False
 | .bad=>False
def Gws:La Rw->Prop
 | []=>True
 | n::r=>Gw n/\Gws r
end
def bV2:∀n∈bf 19,((cl<|it ((n:Int) - 9)).all (λc=>decide (33<=c/\c<=122))&&decide ((it<|(n:Int) - 9).length<=1600))=true:=∅
def ay0{i:Int}(h:i.natAbs<=9):Wd (it i):=by
 have:=bV2 (i+9).toNat (by rw[bF];omega);rw[show((i+9).toNat:Int) - 9=i by omega]at this;exact ah2 this
def cc9{s:Sr}(h:Bs s):Wd (shT s):=#[(aj6 h).1.imp λc h=>#[by omega,by omega],by have:=(aj6 h).2;omega]
def cd1{l:La Sr}(hc:pW c)(hl:l.length<=100)(h:∀s∈l,Bs s):Wd (sT c l):=by
 obtain⟨a,b⟩:=cd2 hc h;exact#[a,by omega]
def bx8{w h:Int}(hw:Bi w)(hh:Bi h):Wd (szT w h):=by
 have i:∀c,pN c->pW c:=λc h=>#[by omega,by omega]
 have l1:=U4 hw;have l2:=U4 hh;unfold szT;refine#[((Al.imp (aa9 hw) i).app<|Al.sg #[by decide,by decide]).app<|Al.imp (aa9 hh) i,?_];rw[Q5,Q5,show(sg 120).length=1 from rfl];omega
def bJ3(hk:Wd k)(h:Hd n m s):∀w∈hdW k n m s v,Wd w:=by
 intro w hw;simp only[hdW,ao,aM,or_false]at hw;rcases hw with rfl|rfl|rfl|rfl|rfl
 .exact hk
 .exact h.n
 .exact h.m
 .exact cc9 h.s
 .cases v<;>exact ah2 ∅
def cJ3{mk:Ob (La Sr)}(h:∀ms,mk=Oa ms->ms.length<=100/\∀s∈ms,Bs s):Wd (mkT mk):=by
 cases mk with
 | none=>exact ah2 ∅
 | some ms=>exact cd1 #[by decide,by decide] (h ms rfl).1 (h ms rfl).2
def cJ6(g:GL l t mk sh):∀v∈lyW l t mk sh,Wd v:=by
 intro v hv;simp only[lyW,ao,aV]at hv;rcases hv with rfl|rfl|rfl|rfl|⟨q,hq,rfl⟩
 .exact ay0 g.l
 .exact ay0 g.t
 .exact cJ3 g.ms
 .exact bx8 g.sh.w g.sh.h
 .exact cd1 #[by decide,by decide] (by have:=(g.sh.p q hq).1;omega) (g.sh.p q hq).2
mutual
theorem cI6:∀n:Rw,Gw n->∀w∈nw n,Wd w
 | .leaf k n m s v,g=>by
  rw[Gw]at g;rw[nw];exact bJ3 g.1 g.2.1
 | .lay n m s v l t mk (Oa sh),g=>by
  rw[Gw]at g;rw[nw];exact λw hw=>(aE.mp hw).elim (bJ3 (ah2 ∅) g.1 w)<|cJ6 g.2 w
 | .lay n m s v l t mk Z,g=>by rw[Gw]at g;exact g.elim
 | .bad,g=>by rw[Gw]at g;exact g.elim
 | .grb ..,g=>by rw[Gw]at g;exact g.elim
 | .grp n m s v ns,g=>by
  rw[Gw]at g;rw[nw];intro w hw;rcases aE.mp hw with hw|hw
  .rcases aE.mp hw with hw|hw
   .rcases aE.mp hw with hw|hw
    .exact bJ3 (ah2 ∅) g.1 w hw
    .rw[aB.mp hw];exact ah2 ∅
   .exact nws_wd ns g.2 w hw
  .rw[aB.mp hw];exact ah2 ∅
theorem nws_wd:∀l:La Rw,Gws l->∀w∈nws l,Wd w
 | [],_=>by rw[nws];exact λw hw=>by simp at hw
 | n::r,g=>by
  rw[Gws]at g;rw[nws];exact λw hw=>(aE.mp hw).elim (cI6 n g.1 w)<|nws_wd r g.2 w
end
def cj4(g:GL l t mk sh):M7 [(Rw.lay n m s v l t mk<|Oa sh).d]=Oa (.list<|sD (lyW l t mk sh)):=by
 have e1:=bv2 (i:=l) (by have:=g.l;omega) (by have:=(ay0 g.l).2;omega);have e2:=bv2 (i:=t) (by have:=g.t;omega) (by have:=(ay0 g.t).2;omega);have e3:=cj3 (m:=mk) λms e=>#[by have:=(g.ms ms e).1;omega,(g.ms ms e).2]
 have:=g.sh.l;rw[Rw.d];exact C4 (ρ:=[[:hdD "layer" n m s v [.int l,.int t,mkD mk,T9 sh]],Z]) rfl ((B2 (ρ':=[[:hdD "layer" n m s v [.int l,.int t,mkD mk,T9 sh]],[:.list [.str (it l),.str (it t),.str (mkT mk)]]])<|S5 (ls_<|aC ((k1<|(k1 rfl).trans (L3 (j:=5) rfl)).trans e1) (aC ((k1<|(k1 rfl).trans (L3 (j:=6) rfl)).trans e2)<|aC ((k1<|(k1 rfl).trans (L3 (j:=7) rfl)).trans e3) rfl))).trans<|L0 ((B5 rfl<|(k1<|(k1 rfl).trans (L3 (j:=8) rfl)).trans (cj1 g.sh)).trans<|X8 (by simp;omega)))
def pls:("+":Str)=sg 43:=∅
def mns:("-":Str)=sg 45:=∅
def hdr(hs:Bs s)(R:DS):
  B3 (O1 1 {A7 S3 {0},A7 N3 {0},A7 W3 {0},A7 K1 {A7 Q0 {0}}}) (B3 (N5 1<|aq0 (E7<|A7 Q9 {0}) (!"+") !"-") R) [[:hdD k n m s v r],Z]=R [[:hdD k n m s v r],Oa (.own<|sD (hdW k n m s v))]:=by
 refine(B2 (ρ':=[[:hdD k n m s v r],Oa (.own [.str k,.str n,.str m,.str (shT s)])]) ?_).trans (B2 ?_)
 .exact aj8 (aC ((k1 rfl).trans<|L3 (j:=0) rfl)<|aC ((k1 rfl).trans<|L3 (j:=1) rfl) (aC ((k1 rfl).trans<|L3 (j:=2) rfl)<|aC ((k1<|(k1 rfl).trans (L3 (j:=3) rfl)).trans<|aX0 hs) rfl))
 .have e5:aq0 (E7<|A7 Q9 {0}) (!"+") (!"-") [[:hdD k n m s v r],Oa (.own [.str k,.str n,.str m,.str (shT s)])]=Oa (.str<|pm v):=by
   unfold aq0;rw[X0 (F:=Q9) rfl (L3 (j:=4) rfl),pls,mns];cases v<;>rfl
  simp only[N5,xg0,xg1,e5,xms];rfl
theorem bv3{f:La D->Ob D}{a0:Ob B}:∀(l:La Rw) (X:La D) (a2:Ob B),(∀n∈l,f [n.d]=Oa (.list<|sD (nw n)))->X.length+(nws l).length<=1000000->∃b2,m7 (D1 2) (aJ1 1<|A7 f {2}) (Rw.ds l) [a0,Oa (.own X),a2]=Oa (.nx [a0,Oa (.own<|X++sD (nws l)),b2])
 | [],X,a2,_,_=>#[a2,by rw[Rw.ds,nws,sD,xmn,ar];rfl]
 | n::r,X,a2,H,hl=>by
  rw[nws,aj]at hl;obtain⟨b2,e⟩:=bv3 (f:=f) (a0:=a0) r (X++sD (nw n)) ([:n.d]) (λn hn=>H n<|xmm _ hn) (by rw[aj,ai];omega);have c:X.length+(sD<|nw n).length<=16777216:=by rw[ai];omega
  refine#[b2,?_];rw[Rw.ds,nws,sD,aO,<- au];unfold m7;simp only[D1,aJ1,A7,A0,A8,A6,xw0,xw1,xg0,xg1,xbs,xms,H n (aQ ..),if_pos c];exact e
def ay5{s:Str}{p:Nat->Prop}(h:Al p s)(i:∀c,p c->c < 0x110000):fE (.str s)=true:=by
 show s.cps.all (· < 0x110000)=true;rw[Array.all_eq_true'];intro c hc;exact decide_eq_true<|i c (h c<|cH.mpr hc)
def Wd.lay(h:Wd s):fE (.str s)=true:=ay5 h.1 λc h=>by omega
def aa8{kk:Str}(hk:fE (.str kk)=true):U9 [hdD kk n m s v r]=Oa (.bool<|kk==("layer":Str))/\J8 [hdD kk n m s v r]=Oa (.bool<|kk==("group":Str)):=by
 have e:S3 [hdD kk n m s v r]=Oa (.str kk):=L3 (j:=0) rfl;refine#[rX1 ?_,rX1 ?_]
 .exists evD,aB7,e,N8 hk (show fE (.str "layer")=true by decide +kernel) rfl
 .exists evD,aB8,e,N8 hk (show fE (.str "group")=true by decide +kernel) rfl
mutual
theorem cC9:∀(n:Rw) (k:Nat),2*n.dp+1<=k->Gw n->(nw n).length<=10000->C5 k 0 [n.d]=Oa (.list<|sD (nw n))
 | _,0,hk,_,_=>absurd hk (by omega)
 | .bad,_+1,_,g,_=>by rw[Gw]at g;exact g.elim
 | .grb ..,_+1,_,g,_=>by rw[Gw]at g;exact g.elim
 | .lay n m s v l t mk Z,_+1,_,g,_=>by rw[Gw]at g;exact g.elim
 | .lay n m s v l t mk (Oa sh),k+1,_,g,_=>by
  rw[Gw]at g;have hl:=g.2.sh.l;have c:=X8 (a:=sD<|hdW "layer" n m s v) (b:=sD<|lyW l t mk sh) (by simp[hdW,lyW];omega);have w:=cj4 (n:=n) (m:=m) (s:=s) (v:=v) g.2;rw[Rw.d]at w |-;refine C4 (ρ:=[[:hdD "layer" n m s v [.int l,.int t,mkD mk,T9 sh]],Z]) rfl ((hdr g.1.s _).trans<|P3 ((Y3<|X0 rfl (aa8 ∅).1).trans<|L0 ((B5 rfl<|(k1 rfl).trans w).trans<|c.trans ?_)));rw[nw,sD,sD,sD,aO]
 | .leaf kk n m s v,k+1,_,g,_=>by
  rw[Gw]at g;obtain⟨y1,y2⟩:=aa8 (n:=n) (m:=m) (s:=s) (v:=v) (r:=[]) g.1.lay;rw[g.2.2.1]at y1;rw[g.2.2.2]at y2;rw[Rw.d,nw];exact C4 (ρ:=[[:hdD kk n m s v []],Z]) rfl<|(hdr g.2.1.s _).trans ((B2<|R9 (X0 rfl y1)).trans<|(B2<|R9 (X0 rfl y2)).trans rfl)
 | .grp n m s v ns,k+1,hk,g,hn=>by
  rw[Gw]at g;rw[Rw.dp]at hk;rw[nw]at hn;simp only[aj,ag,aU]at hn;obtain⟨k,rfl⟩:∃j,k=j+1:=#[k - 1,by omega];obtain⟨b2,lp⟩:=bv3 (f:=C5 k 0) (a0:=[:.tuple (Rw.ds ns)]) ns [] Z (wns ns k (by omega) g.2<|by omega) (by simp;omega);have e:C5 (k+1) 1 [.tuple (Rw.ds ns)]=Oa (.list<|sD (nws ns)):=C4 (ρ:=[[:.tuple (Rw.ds ns)],Z,Z]) rfl ((B2 (ρ':=[[:.tuple (Rw.ds ns)],Oa (.own []),Z]) rfl).trans<|(B2 lp).trans rfl);rw[Rw.d];refine C4 (ρ:=[[:hdD "group" n m s v [.tuple (Rw.ds ns)]],Z]) rfl ((hdr g.1.s _).trans<|(B2<|R9 (X0 rfl (aa8 ∅).1)).trans (P3<|(Y3<|X0 rfl (aa8 ∅).2).trans (L0<|(B5 ((B5 ((B5 rfl rfl).trans<|X8 (a:=sD<|hdW "group" n m s v) (b:=[.str "["]) (by simp[hdW]))<|(k1<|(k1 rfl).trans (L3 (j:=5) rfl)).trans e).trans<|X8 (by simp[hdW];omega)) rfl).trans ((X8 (b:=[.str "]"]) (by simp[hdW];omega)).trans ?_))));rw[nw,sD,sD,sD,aO,aO,aO];rfl
theorem wns:∀(l:La Rw) (k:Nat),2*Rw.dps l+1<=k->Gws l->(nws l).length<=10000->∀n∈l,C5 k 0 [n.d]=Oa (.list<|sD (nw n))
 | [],_,_,_,_,n,hn=>by simp at hn
 | m::r,k,hk,g,hl,n,hn=>by
  rw[Gws]at g;rw[Rw.dps]at hk;rw[nws,aj]at hl;have h1:=cu m.dp (Rw.dps r);have h2:=cj m.dp (Rw.dps r);rcases ao.mp hn with q|q
  .rw[q];exact cC9 m k (by omega) g.1 (by omega)
  .exact wns r k (by omega) g.2 (by omega) n q
end
structure Pc where
 w:Int
 h:Int
 ns:List Rw
abbrev Pc.d(p:Pc):D:=.tuple [.int p.w,.int p.h,.tuple (Rw.ds p.ns)]
abbrev pw(p:Pc):La Str:=szT p.w p.h::nws p.ns
abbrev Pc.t(p:Pc):Str:=gl 32<|pw p
structure Gp (p:Pc):Prop where
 w:Bi p.w
 h:Bi p.h
 g:Gws p.ns
 l:(nws p.ns).length<=10000
 d:Rw.dps p.ns<=4
def Gp.wd(g:Gp p):∀v∈pw p,Wd v:=λv hv=>by
 rcases ao.mp hv with rfl|q
 .exact bx8 g.w g.h
 .exact nws_wd _ g.g v q
def aw1(g:Gp p):K2 [p.d]=Oa (.str p.t):=by
 have l:=g.l;have d:=g.d;obtain⟨b2,lp⟩:=bv3 (f:=C5 11 0) (a0:=[:.tuple (Rw.ds p.ns)]) p.ns [] Z (wns p.ns 11 (by omega) g.g l) (by simp;omega)
 have e:P1 12 [.tuple (Rw.ds p.ns)]=Oa (.list<|sD (nws p.ns)):=by
  refine C4 (ρ:=[[:.tuple (Rw.ds p.ns)],Z,Z]) rfl ?_;unfold p8;refine(B2 (ρ':=[[:.tuple (Rw.ds p.ns)],Oa (.own []),Z]) rfl).trans ((B2 lp).trans rfl)
 refine rX1 ?_;have z:A7 L7 {0} [[:p.d]]=Oa (.str<|szT p.w p.h):=by exists evD,bu8 g.w g.h
 have n:A7 (P1 12) {dIx (B0 0) ⇑2} [[:p.d]]=Oa (.list<|sD (nws p.ns)):=by exists evD,e
 unfold aH0 B7;rw[bk9 (b:=1600) (ws:=pw p) bl_ (by unfold qE;rw[B5 (cs4 z) n,X8 (by simp;omega)];rfl) (λv hv=>(g.wd v hv).2) (by rw[ag];omega)];rfl
def am4{f g:Rho->Ob (Bool×La D)}{y:Rho}{xs ys:La D}(hf:f y=Oa (false,xs))(hg:g y=Oa (false,ys))(h:xs.length+ys.length<=16777216):am5 f g y=Oa (xs++ys):=by
 unfold am5;rw[hf,xbs,hg,xbs,if_pos #[rfl,rfl,h]]
def aJ2(a b:La Str):sD (a++b)=sD a++sD b:=aO
def At0(d:D)(i:Int)(x:D):Prop:=∀t,dIx (B0 0) (dC<|.int i) ([:d]::t)=Oa x
def ba1{s:Sr}(h:Bs s):G1 [prD s]=Oa (.str<|shT s):=by
 have l1:=U4 h.1;have l2:=U4 h.2;obtain⟨c1,c2⟩:=ca8 (it s.1) (it s.2) 47 (by grind) (by grind);have s1:Y7 (dIx (B0 0) ⇑0) [[:prD s]]=Oa (.str<|it s.1):=aw7 (by have:=h.1;grind) rfl;have s2:Y7 (dIx (B0 0) ⇑1) [[:prD s]]=Oa (.str<|it s.2):=aw7 (by have:=h.2;grind) rfl
 have e:ag8 (A9 eqD (dIx (B0 0) ⇑1) ⇑1) [[:prD s]]=Oa (.int (if s.2=1 then 1 else 0)):=by
  unfold ag8;rw[B5 (x:=.int s.2) (y:=.int 1) rfl rfl,aC8];by_cases d:s.2=1
  .rw[if_pos d,d];rfl
  .rw[if_neg d,beq_eq_false_iff_ne.mpr d];rfl
 refine rX1 (L0<|(W1 (ac0<|aC ((B5 ((B5 s1 (show dC (.str "/") _=Oa (.str<|sg 47) by rw[sl_];rfl)).trans c1) s2).trans c2) (aC s1 rfl)) e).trans ?_);unfold shT;by_cases d:s.2=1
 .rw[if_pos d,if_pos d];rfl
 .rw[if_neg d,if_neg d];rfl
def bE2{w h:Int}{f g:DE}{y:Rho}(hw:Bi w)(hh:Bi h)(hf:f y=Oa (.int w))(hg:g y=Oa (.int h)):A9 B4 (A9 B4 (Y7 f) !"x") (Y7 g) y=Oa (.str<|szT w h):=by
 have l1:=U4 hw;have l2:=U4 hh;obtain⟨c1,c2⟩:=ca8 (it w) (it h) 120 (by grind) (by grind);rw[B5 ((B5 (aw7 (by grind) hf) (show dC (.str "x") y=Oa (.str<|sg 120) by rw[ex_];rfl)).trans c1) (aw7 (by grind) hg),c2];rfl
def k0n(hk:fE (.str k)=true)(hy:fE (.str y)=true)(h:(k==y)=c){r:Rho}:tB2 eqD (dIx (B0 0) ⇑0) (dC<|.str y) ([:hdD k n m s v ds]::r)=Oa c:=w9 ((W1 (q:=(true,.str k :: .str n :: .str m::prD s :: .bool v::ds)) rfl rfl).trans<|L4 (j:=0) rfl) rfl<|N8 hk hy h
def ixh{t:Rho}{xs:La D}(j:Nat){i:Int}(hi:i=(j:Int))(h:xs[j]? = Oa x):dIx (B0 0) (dC<|.int i) ([:.tuple xs]::t)=Oa x:=by
 subst hi;exact(W1 (q:=(true,xs)) rfl rfl).trans (L4 h)
def cs6(hs:Bs s)(t:Rho)(R:DS):
  B3 (O1 1 {dIx (B0 0) ⇑0,dIx (B0 0) ⇑1,dIx (B0 0) ⇑2,A7 G1 {dIx (B0 0) ⇑3},v8 (!"-+")<|ag8 (dIx (B0 0) ⇑4)}) R ([:hdD k n m s v r]::Z::t)=R ([:hdD k n m s v r]::Oa (.own<|sD (hdW k n m s v))::t):=by
 refine(B2<|aj8 (aC (ixh 0 rfl rfl)<|aC (ixh 1 rfl rfl) (aC (ixh 2 rfl rfl)<|aC ((k1<|ixh 3 rfl rfl).trans<|ba1 hs) (aC (x:=.str<|pm v) ?_ rfl)))).trans rfl;unfold v8 ag8;rw[ixh (i:=4) 4 rfl (x:=.bool v) rfl];cases v
 .show atS "-+" 0=Oa (.str<|sg 45)
  kernel_rfl
 .show atS "-+" 1=Oa (.str<|sg 43)
  kernel_rfl
def lyb:DS:=(B3 (O1 1<|am5 (B0 1) (qN {Y7<|dIx (B0 0) ⇑5,Y7<|dIx (B0 0) ⇑6}))<|B3 (C7 3 !".") (B3 (sIf (tB2 aC7 (dIx (B0 0) ⇑7)<|dC .none) (C7 3<|M0 (!",") (qN<|D2 1 [] (G2<|dIx (B0 0) ⇑7) (D1 0) F6 (A7 G1 {0}))) D6)<|B3 (aY1 (dIx (B0 0) ⇑8)<|ac8 3 (K8 (D1 4)<|K8 (D1 5) (K8 (D1 6) ah7))) (B3 (O1 1<|am5 (B0 1) (qN {3,A9 B4 (A9 B4 (Y7 !4) !"x")<|Y7 !5}))<|O1 1 (am5 (B0 1)<|qN (D2 1 [] (G2 !6) (D1 0) F6<|M0 (!":") (qN<|D2 1 [] (G2 !0) (D1 0) F6 (A7 G1 {0})))))))
noncomputable abbrev y7(d:D)(X:La D)(a b c e:Ob B):Rho:=[[:d],Oa (.own X),Z,a,b,c,e]
def cs1(g:GL l t mk sh){X:La D}(hX:X.length<=10):∃r,lyb (y7 (hdD "layer" n m s v [.int l,.int t,mkD mk,T9 sh]) X Z Z Z Z)=Oa (.nx ([:hdD "layer" n m s v [.int l,.int t,mkD mk,T9 sh]]::Oa (.own<|X++sD (lyW l t mk sh))::r)):=by
 have h1:=g.sh.l;have h3:=g.l;have h4:=g.t;obtain⟨w,h,sp⟩:=sh;have h1:sp.length<=100:=h1;generalize ed:hdD "layer" n m s v [.int l,.int t,mkD mk,T9 (w,h,sp)]=d
 have a3:∀X,sIf (tB2 aC7 (dIx (B0 0) ⇑7)<|dC .none) (C7 3<|M0 (!",") (qN<|D2 1 [] (G2<|dIx (B0 0) ⇑7) (D1 0) F6 (A7 G1 {0}))) D6 (y7 d X ([:.str "."]) Z Z Z)=Oa (.nx<|y7 d X ([:.str (mkT mk)]) Z Z Z):=λX=>by
  rw[<- ed];cases mk with
  | none=>rfl
  | some ms =>
   obtain⟨m1,m2⟩:=g.ms ms rfl;exact(Y3 rfl).trans (S5<|bj4 (l:=ms) cm_ rfl (by grind) (λs hs=>ba1 hs) m2)
 have a6:=λX=>U2 (zd:=[]) (src:=G2 !6) (ρ:=y7 d X ([:.str (mkT mk)]) ([:.int w]) ([:.int h])<|[:.tuple (sp.map spD)]) (e:=M0 (!":")<|qN (D2 1 [] (G2 !0) (D1 0) F6<|A7 G1 {0})) (l:=sp) (h:=spD) (f:=λl=>.str<|sT 58 l) (r:=[]) rfl rfl (by grind) λq hq=>bj4 co_ rfl (by have:=(g.sh.p q hq).1;grind) (λs hs=>ba1 hs) (g.sh.p q hq).2
 refine#[[Z,[:.str (mkT mk)],[:.int w],[:.int h],[:.tuple (sp.map spD)]],?_];refine(B2<|aj8 (am4 rfl (ac0<|aC (aw7 (i:=l) (by grind) (by rw[<- ed];rfl)) (aC (aw7 (i:=t) (by grind) (by rw[<- ed];rfl)) rfl)) (by simp;grind))).trans ((B2 rfl).trans<|(B2<|a3 _).trans ((B2 (ρ':=y7 d (X++[.str (it l),.str (it t)]) ([:.str (mkT mk)]) ([:.int w]) ([:.int h])<|[:.tuple (sp.map spD)]) (by rw[<- ed];rfl)).trans<|(B2<|aj8 (am4 rfl (ac0<|aC rfl (aC (bE2 (w:=w) (h:=h) g.sh.w g.sh.h rfl rfl) rfl)) (by simp;grind))).trans ((aj8<|am4 rfl (ac0<|a6 _) (by simp;grind)).trans ?_)));rw[show X++sD (lyW l t mk (w,h,sp))=X++[.str (it l),.str (it t)]++[.str (mkT mk),.str (szT w h)]++sp.map (λl=>fD<|sT 58 l) by rw[lyW,au,au,sD,xmc,xmc,xmc,xmc,bw];rfl];rfl
theorem cf2{f:La D->Ob D}{a0:Ob B}:∀(l:La Rw) (X:La D) (a2:Ob B),(∀n∈l,f [n.d]=Oa (.list<|sD (nw n)))->X.length+(nws l).length<=1000000->∃b2,m7 (D1 2) (O1 1<|am5 (B0 1) (qE<|A7 f {2})) (Rw.ds l) [a0,Oa (.own X),a2,Z,Z,Z,Z]=Oa (.nx [a0,Oa (.own<|X++sD (nws l)),b2,Z,Z,Z,Z])
 | [],X,a2,_,_=>#[a2,by rw[Rw.ds,nws,sD,xmn,ar];rfl]
 | n::r,X,a2,H,hl=>by
  rw[nws,aj]at hl;obtain⟨b2,e⟩:=cf2 (f:=f) (a0:=a0) r (X++sD (nw n)) ([:n.d]) (λn hn=>H n<|xmm _ hn) (by rw[aj,ai];grind);have c:X.length+(sD<|nw n).length<=16777216:=by rw[ai];grind
  have q:qE (A7 f {2}) [a0,Oa (.own X),[:n.d],Z,Z,Z,Z]=Oa (false,sD<|nw n):=by exists evD,H n<|aQ ..
  have s:=aj8 (i:=1) (am4 (f:=B0 1) rfl q c);refine#[b2,?_];rw[Rw.ds,nws,sD,aO,<- au];unfold m7;show(O1 1 _ [a0,Oa (.own X),[:n.d],Z,Z,Z,Z]).bind _=_;rw[s];exact e
mutual
theorem cJ9:∀(n:Rw) (k:Nat),n.dp+1<=k->Gw n->(nw n).length<=10000->U7 k [n.d]=Oa (.list<|sD (nw n))
 | _,0,hk,_,_=>absurd hk (by grind)
 | .bad,_+1,_,g,_=>by rw[Gw]at g;exact g.elim
 | .grb ..,_+1,_,g,_=>by rw[Gw]at g;exact g.elim
 | .lay n m s v l t mk Z,_+1,_,g,_=>by rw[Gw]at g;exact g.elim
 | .lay n m s v l t mk (Oa sh),k+1,_,g,_=>by
  rw[Gw]at g;rw[Rw.d];obtain⟨r,lb⟩:=cs1 (n:=n) (m:=m) (s:=s) (v:=v) g.2 (X:=sD<|hdW "layer" n m s v) (by simp[hdW]);refine C4 (ρ:=[[:hdD "layer" n m s v [.int l,.int t,mkD mk,T9 sh]],Z,Z,Z,Z,Z,Z]) rfl ((cs6 g.1.s _ _).trans<|(B2<|R9 (k0n ∅ ∅ ∅)).trans ((B2<|(Y3<|k0n ∅ ∅ ∅).trans lb).trans ?_));rw[nw,aJ2];rfl
 | .leaf kk n m s v,k+1,_,g,_=>by
  rw[Gw]at g;rw[Rw.d,nw];exact C4 (ρ:=[[:hdD kk n m s v []],Z,Z,Z,Z,Z,Z]) rfl ((cs6 g.2.1.s _ _).trans<|(B2<|R9 (k0n g.1.lay ∅ g.2.2.2)).trans ((B2<|R9 (k0n g.1.lay ∅ g.2.2.1)).trans rfl))
 | .grp n m s v ns,k+1,hk,g,hn=>by
  rw[Gw]at g;rw[Rw.dp]at hk;rw[nw]at hn;simp only[aj,ag,aU]at hn;rw[Rw.d];obtain⟨b2,lp⟩:=cf2 (f:=U7 k) (a0:=[:hdD "group" n m s v [.tuple (Rw.ds ns)]]) ns (sD (hdW "group" n m s v)++[.str "["]) Z (lns ns k (by grind) g.2<|by grind) (by simp[hdW];grind)
  have ap:∀(x:Str) (X:La D) (c d:Ob B),X.length<=1000000->N5 1 (dC<|.str x) [d,Oa (.own X),c,Z,Z,Z,Z]=Oa (.nx [d,Oa (.own<|X++[.str x]),c,Z,Z,Z,Z]):=λx X c d hX=>by
   simp only[N5,xg0,xg1,dC,xms,if_pos (show X.length < 16777216 by grind)];rfl
  refine C4 (ρ:=[[:hdD "group" n m s v [.tuple (Rw.ds ns)]],Z,Z,Z,Z,Z,Z]) rfl ((cs6 g.1.s _ _).trans<|(B2<|(Y3<|k0n ∅ ∅ ∅).trans ((B2<|ap "[" _ _ _ (by simp[hdW])).trans<|(B2 lp).trans (ap "]" _ _ _ (by simp[hdW];grind)))).trans ((B2<|R9 (k0n ∅ ∅ ∅)).trans ?_));rw[nw,aJ2,aJ2,aJ2];rfl
theorem lns:∀(l:La Rw) (k:Nat),Rw.dps l+1<=k->Gws l->(nws l).length<=10000->∀n∈l,U7 k [n.d]=Oa (.list<|sD (nw n))
 | [],_,_,_,_,n,hn=>by simp at hn
 | m::r,k,hk,g,hl,n,hn=>by
  rw[Gws]at g;rw[Rw.dps]at hk;rw[nws,aj]at hl;have h1:=cu m.dp (Rw.dps r);have h2:=cj m.dp (Rw.dps r);rcases ao.mp hn with q|q
  .rw[q];exact cJ9 m k (by grind) g.1 (by grind)
  .exact lns r k (by grind) g.2 (by grind) n q
end
theorem cd9{f:La D->Ob D}{a0:Ob B}:∀(l:La Rw) (X:La D) (a2:Ob B),(∀n∈l,f [n.d]=Oa (.list<|sD (nw n)))->X.length+(nws l).length<=1000000->∃b2,m7 (D1 2) (C7 1<|A9 B4 (!1) (A7 f {2})) (Rw.ds l) [a0,[:.list X],a2]=Oa (.nx [a0,[:.list (X++sD (nws l))],b2])
 | [],X,a2,_,_=>#[a2,by rw[Rw.ds,nws,sD,xmn,ar];rfl]
 | n::r,X,a2,H,hl=>by
  rw[nws,aj]at hl;obtain⟨b2,e⟩:=cd9 (f:=f) (a0:=a0) r (X++sD (nw n)) ([:n.d]) (λn hn=>H n<|xmm _ hn) (by rw[aj,ai];omega);have c:=X8 (a:=X) (b:=sD<|nw n) (by rw[ai];omega);refine#[b2,?_];rw[Rw.ds,nws,sD,aO,<- au];unfold m7;simp only[D1,C7,A9,A7,A0,A8,A6,xw0,xw1,xg0,xg1,xbs,xms,H n (aQ ..),c];exact e
def ac6(g:Gp p):O5 [p.d]=Oa (.str p.t):=by
 have l:=g.l;have d:=g.d;obtain⟨b2,lp⟩:=cd9 (f:=U7 12) (a0:=[:p.d]) p.ns [.str (szT p.w p.h)] Z (lns p.ns 12 (by grind) g.g l) (by simp;grind);refine C4 (ρ:=[[:p.d],Z,Z]) rfl ?_;unfold at0;refine(B2 (ρ':=[[:p.d],[:.list [.str (szT p.w p.h)]],Z]) ?_).trans ?_
 .unfold C7;rw[cs4 (bE2 g.w g.h rfl rfl)];rfl
 .refine(B2 (ρ':=[[:p.d],[:.list (sD<|pw p)],b2]) lp).trans ?_;unfold B7;rw[bk9 (b:=1600) (ws:=pw p) bl_ rfl (λv hv=>(g.wd v hv).2) (by rw[ag];grind)];rfl
noncomputable def dg(c:Nat):Bool:=decide (48<=c/\c<=57)
def D7(l:La Nat):Prop:=∀w,w <:+: l->w.all dg=true->w.length<=7
structure Bw (w:Str):Prop where
 a:∀c∈cl w,c < 128
 l:w.length<=999
 d:D7 (cl w)
def Bw.sub(h:Bw w)(i:cl u <:+: cl w):Bw u:=by
 refine#[λc hc=>h.a c<|i.subset hc,?_,λv hv=>h.d v<|hv.trans i];have h1:=i.length_le;have h2:=h.l;rw[E3,E3]at h1
 grind
def Bw.asc(h:Bw w):w.cps.all (· < 128)=true:=by
 rw[Array.all_eq_true'];exact λc hc=>decide_eq_true<|h.a c (cH.mpr hc)
def aQ0{x:Str}{p:Nat->Bool}(hx:∀c:Fin 128,bq1 #[(List.toArray [c.val])] x=p c.val)(h:Bw w):aV7 (w.cps.toList.map λc=>fC<|p c)=Oa ((cl w).all p)/\D2 1 [] (az0 !0) (D1 0) F6 (A9 (inS false) (!0)<|dC (.str x)) [[:.str w]]=Oa (w.cps.toList.map λc=>.bool<|p c):=by
 refine#[aB0 p _,U2 (l:=w.cps.toList) (h:=λc=>.str #[(List.toArray [c])]) (r:=[]) rfl ?_ (by show(cl w).length<=1000;rw[E3];have:=h.l;grind) λc hc=>?_]
 .show(if w.cps.all (· < 128)=true then Oa (aE7 w) else Z)=_;rw[if_pos h.asc];rfl
 .show Oa (fC<|bq1 #[(List.toArray [c])] x)=_;rw[hx #[c,h.a c hc]]
def okN(w:Str):Bool:=decide (1<=w.length/\w.length<=400)&&(cl w).all dg
def num(w:Str):Nat:=bif okN w then NumText.digitsVal (cl w) else 0
def ao7(hw:Bw w)(h:b=true\/okN w=true):J2 b [.str w]=Oa (.int<|num w):=by
 obtain⟨al,nc⟩:=aQ0 (x := "0123456789") (p:=dg) ∅ hw;have z:w.length<=16777216:=by have:=hw.l;grind
 refine rX1 ?_;by_cases hl:1<=w.length/\w.length<=400
 .have a':(1:Int)<=w.length:=by grind
  have b':(w.length:Int)<=400:=by grind
  have z6:w.length<=640:=by grind
  cases ha:(cl w).all dg with
  | true =>
   rw[ha]at al;have lo:∀c∈w.cps.toList,48<=c/\c<=57:=λc hc=>of_decide_eq_true<|ay.mp ha c hc
   have hne:w.cps.toList≠[]:=λe=>by
    have:=hl.1;rw[<- E3,cl,e]at this;exact absurd this (by decide)
   have e:=intText_digits lo hne (by grind);have en:num w=NumText.digitsVal (cl w):=by unfold num okN;rw[ha,decide_eq_true hl];rfl
   rw[en]
   exists evD,P9,Y9,aG0,if_pos z,if_pos z6,nc,al,a',b',decide_true,e
  | false =>
   rw[ha]at al;have ok:okN w=false:=by unfold okN;rw[ha,bq]
   rw[ok]at h;obtain rfl:b=true:=by simpa using h
   rw[show num w=0 by unfold num;rw[ok];rfl]
   exists evD,P9,Y9,if_pos z,nc,al,a',b',decide_true,rz,cond_true
   rfl
 .have ok:okN w=false:=by unfold okN;rw[decide_eq_false hl,ce]
  rw[ok]at h;obtain rfl:b=true:=by simpa using h
  rw[show num w=0 by unfold num;rw[ok];rfl];by_cases a':(1:Int)<=w.length
  .have b':¬(w.length:Int)<=400:=by grind
   exists evD,P9,Y9,if_pos z,a',b',decide_true,decide_false,rz,cond_true
   rfl
  .exists evD,P9,Y9,if_pos z,a',decide_false,rz,cond_true
   rfl
def ap0(h:Bw w):num w < 10 ^ 7:=by
 unfold num;cases e:okN w with
 | false=>exact(by decide:0 < 10 ^ 7)
 | true =>
  unfold okN at e;simp only[ae]at e;have l:=h.d (cl w) (dl _) e.2
  have key:∀(l:La Nat) (n k:Nat),l.all dg=true->n < 10 ^ k->l.foldl (λv c=>v*10+(c - 48)) n < 10 ^ (k+l.length):=by
   intro l
   induction l with
   | nil=>intro n k _ h;exact h
   | cons c l ih =>
    intro n k hl hn;rw[aZ,ae]at hl;have hc:48<=c/\c<=57:=of_decide_eq_true hl.1;have:=ih (n*10+(c - 48)) (k+1) hl.2 (by rw[Nat.pow_succ];grind);rw[dj,ag,show k+(l.length+1)=k+1+l.length by grind];exact this
  have:=key (cl w) 0 0 e.2 (by decide);rw[Nat.zero_add]at this;refine aG (show NumText.digitsVal (cl w) < 10 ^ (cl w).length from ?_) (cI (by decide) l);exact this
noncomputable def st(l:La Nat):Str:=#[l.toArray]
def bl7(l:La Nat):cl (st l)=l:=by simp[cl,st]
def aR5(w:Str)(c:Nat):(c∉cl w/\Txt.partition w (sg c)=(w,fI,fI))\/∃a b,w=a++sg c++b/\c∉cl a/\Txt.partition w (sg c)=(a,sg c,b):=by
 by_cases h:c∈cl w
 .obtain⟨a,b,e,na⟩:=List.eq_append_cons_of_mem h;have ew:w=st a++sg c++st b:=Z2 (by rw[L6,L6,bl7,bl7,e];simp[cl]);refine .inr #[st a,st b,ew,by rw[bl7];exact na,?_];rw[ew];exact aK0 _ _ _ (by rw[bl7];exact na)
 .exact .inl #[h,bh7 w c h]
def bM0(a b:Str)(c:Nat):cl a <:+: cl (a++sg c++b)/\cl b <:+: cl (a++sg c++b):=by
 rw[L6,L6];exact#[#[[],cl (sg c)++cl b,by simp],#[cl a++cl (sg c),[],by simp]]
def bM8:Bw fI:=#[(λc h=>by cases h),by decide,λw hw _=>by rw[List.infix_nil.mp hw];decide]
def n4(h:Bw w)(c:Nat):Bw (Txt.partition w<|sg c).1/\Bw (Txt.partition w<|sg c).2.2:=by
 rcases aR5 w c with⟨_,e⟩|⟨a,b,rfl,_,e⟩
 .rw[e];exact#[h,bM8]
 .rw[e];exact#[h.sub (bM0 a b c).1,h.sub (bM0 a b c).2]
theorem bG7(c:Nat):∀(ws:La (La Nat)),∀w∈ws,w <:+: jl c ws
 | [x],w,h=>by rw[aB.mp h];exact dl _
 | x::y::r,w,h=>by
  rcases ao.mp h with rfl|h
  .exact#[[],c::jl c (y::r),rfl]
  .obtain⟨a,b,e⟩:=bG7 c (y::r) w h;exact#[x++c::a,b,by rw[jl,<- e];simp]
theorem bj7(c:Nat):∀(ws:La (La Nat)),ws.length<=(jl c ws).length+1
 | []=>by simp
 | [x]=>by simp
 | x::y::r=>by
  have:=bj7 c (y::r);have e:(jl c (x::y::r)).length=x.length+((jl c (y::r)).length+1):=by rw[jl,aj,ag]
  rw[e,ag (a:=x)]
  grind
abbrev ws(w:Str)(c:Nat):La Str:=Txt.split w<|sg c
def k7(w:Str)(c:Nat):cl w=jl c ((ws w c).map cl)/\(∀p∈ws w c,c∉cl p)/\ws w c≠[]:=by
 have e:=StrLaws.join_split w (sg c);refine#[?_,StrLaws.split_free w c,aP7 w _];rw[<- an9,e]
def T0(h:Bw w)(c:Nat):(∀p∈ws w c,Bw p)/\(ws w c).length<=1000:=by
 obtain⟨e,_,_⟩:=k7 w c;refine#[λp hp=>h.sub (by rw[e];exact bG7 c _ _<|List.mem_map_of_mem hp),?_];have:=bj7 c ((ws w c).map cl);rw[<- e,ai,E3]at this;have:=h.l
 grind
def bQ1(h:Bw w)(c:Nat):txS w (sg c)=Oa (.list<|sD (ws w c)):=by
 have:=(T0 h c).2;have:=h.l;unfold txS;rw[if_pos #[show(1:Nat)≠0 by decide,by grind,by show(ws w c).length<=_;grind]]
def cD5(h:Bw w)(c:Nat):txP w (sg c)=Oa (.tuple [.str (Txt.partition w<|sg c).1,.str (Txt.partition w<|sg c).2.1,.str (Txt.partition w<|sg c).2.2]):=by
 have:=h.l;unfold txP;rw[if_pos #[show(1:Nat)≠0 by decide,by omega]]
def share(w:Str):Sr:=(num (Txt.partition w<|sg 47).1,bif (Txt.partition w<|sg 47).2.1==sg 47 then num (Txt.partition w<|sg 47).2.2 else 1)
def okS(w:Str):Bool:=okN (Txt.partition w<|sg 47).1&&(!((Txt.partition w<|sg 47).2.1==sg 47) || okN (Txt.partition w<|sg 47).2.2)
def cs0(w:Str)(c:Nat)(hc:c < 1000):eqD (.str (Txt.partition w<|sg c).2.1) (.str<|sg c)=Oa (.bool<|(Txt.partition w<|sg c).2.1==sg c):=by
 have h1:fE (.str<|sg c)=true:=by show((List.toArray [c]):Array Nat).all (· < 0x110000)=true;simp;omega
 refine N8 ?_ h1 rfl;rcases aR5 w c with⟨_,e⟩|⟨a,b,_,_,e⟩
 .rw[e];exact(by decide +kernel:fE (.str fI)=true)
 .rw[e];exact h1
def aJ3(hw:Bw w)(h:b=true\/okS w=true):K5 b [.str w]=Oa (prD<|share w):=by
 obtain⟨b1,b2⟩:=n4 hw 47;have t:=cD5 hw 47;have e:=cs0 w 47 (by decide);have o1:b=true\/okN (Txt.partition w<|sg 47).1=true:=h.imp id λh=>by unfold okS at h;rw[ae]at h;exact h.1
 have r1:=ao7 b1 o1;refine C4 (ρ:=[[:.str w],Z,Z]) rfl ?_;unfold share;cases q:(Txt.partition w<|sg 47).2.1==sg 47 with
 | false =>
  rw[q]at e
  exists evD,y9,aq0,dTx,sl_,t,e,r1
  rfl
 | true =>
  rw[q]at e;have r2:=ao7 (b:=b) b2 (h.imp id λh=>by unfold okS at h;rw[q,ae]at h;exact h.2)
  exists evD,y9,aq0,dTx,sl_,t,e,r1,r2
  rfl
def spot(w:Str):La Sr:=(ws w 58).map share
def okP(w:Str):Bool:=(ws w 58).all okS
def aw5{m:Str->Str->Ob D}{f g:DE}{z:Rho}{a y:Str}(hf:f z=Oa (.str a))(hg:g z=Oa (.str y)):dTx m f g z=m a y:=by unfold dTx;rw[hf,xbs,hg];rfl
def bS1(hw:Bw w)(h:b=true\/okP w=true):W2 b [.str w]=Oa (spD<|spot w):=by
 obtain⟨b1,b2⟩:=T0 hw 58
 have n:=U2 (zd:=[]) (src:=G2 (dTx txS (!0) !":")) (e:=A7 (K5 b) {0}) (ρ:=[[:.str w]]) (l:=ws w 58) (h:=fD) (f:=λp=>prD (share p)) (r:=[]) rfl (by
  unfold G2
  rw[aw5 rfl rfl,co_,bQ1 hw];rfl) b2 λp hp=>by exists evD,aJ3 (b1 p hp) (h.imp id λh=>ay.mp h p hp)
 refine rX1 ?_;unfold as8 B7 N1;rw[ac0 n,spot,spD,bw];rfl
def zN(w:Str):Nat×Nat:=(num (Txt.partition w<|sg 120).1,num (Txt.partition w<|sg 120).2.2)
abbrev size(w:Str):Sr:=((zN w).1,(zN w).2)
def okZ(w:Str):Bool:=okN (Txt.partition w<|sg 120).1&&okN (Txt.partition w<|sg 120).2.2
def bg2(hw:Bw w)(h:b=true\/okZ w=true):S1 b [.str w]=Oa (prD<|size w):=by
 obtain⟨b1,b2⟩:=n4 hw 120;have t:=cD5 hw 120;have r1:=ao7 (b:=b) b1 (h.imp id λh=>by unfold okZ at h;rw[ae]at h;exact h.1);have r2:=ao7 (b:=b) b2 (h.imp id λh=>by unfold okZ at h;rw[ae]at h;exact h.2);refine C4 (ρ:=[[:.str w],Z]) rfl ?_
 exists evD,as9,dTx,ex_,t,r1,r2
 rfl
def cb8(hw:Bw w):(zN w).1 < 10 ^ 7/\(zN w).2 < 10 ^ 7:=#[ap0 (n4 hw 120).1,ap0 (n4 hw 120).2]
def bz2(h:Bw w):Bs (share w):=by
 have h1:=ap0 (n4 h 47).1;have h2:=ap0 (n4 h 47).2;unfold share;refine#[#[by show(0:Int)<=_;omega,by show(_:Int) < _;omega],?_];cases(Txt.partition w<|sg 47).2.1==sg 47
 .exact#[(by decide:(0:Int)<=1),(by decide:(1:Int) < 10000000)]
 .exact#[bx _,Int.ofNat_lt.mpr h2]
def mask(w:Str):Ob (La Sr):=bif w==(".":Str) then Z else Oa ((ws w 44).map share)
def okM(w:Str):Bool:=w==(".":Str) || (ws w 44).all okS
def Bw.lay(h:Bw w):fE (.str w)=true:=ay5 h.a λc h=>by omega
def bS3(hw:Bw w)(h:b=true\/okM w=true):i5 b [.str w]=Oa (mkD<|mask w):=by
 obtain⟨b1,b2⟩:=T0 hw 44;have e:eqD (.str w) (.str ".")=Oa (.bool<|w==(".":Str)):=N8 hw.lay ∅ rfl;refine rX1 ?_;unfold mask;cases q:w==(".":Str) with
 | true =>
  rw[q]at e
  exists evD,ad5,e
  rfl
 | false =>
  rw[q]at e
  have n:=U2 (zd:=[]) (src:=G2 (dTx txS (!0) !",")) (e:=A7 (K5 b) {0}) (ρ:=[[:.str w]]) (l:=ws w 44) (h:=fD) (f:=λp=>prD (share p)) (r:=[]) rfl (by
   unfold G2
   rw[aw5 rfl rfl,cm_,bQ1 hw];rfl) b2 λp hp=>by exists evD,aJ3 (b1 p hp) (h.imp id λh=>by unfold okM at h;rw[q,eD]at h;exact ay.mp h p hp)
  unfold ad5;refine(B2 (ρ':=[[:.str w]]) (by exists evD,e)).trans ?_;unfold B7 N1;rw[ac0 n];show Oa (Fl.rt<|PyData.tuple _)=Oa (Fl.rt<|PyData.tuple _);rw[bw];rfl
def aX8{x:Str}{lo hi:Ob Int}{a n:Nat}(h:Builtin.Str.strSliceIndices lo hi 1 x.length=(bf n).map λk=>a+k)(hl:a+n<=x.length):cl (slS x lo hi)=((cl x).drop a).take n:=by
 have pk:((bf n).map λk=>a+k).filterMap (x.cps[·]?)=((cl x).drop a).take n:=by
  have ef:(λi:Nat=>x.cps[i]?)=λi=>(cl x)[i]?:=by funext i;rw[da]
  rw[ef];exact StrLaws.picks (cl x) n a (by rw[E3];exact hl)
 unfold slS;rw[h];split
 .rename_i q;simp only[beq_self_eq_true,bS,beq_iff_eq,ai,bo]at q;have:a=0:=by grind
  subst this;rw[dv,aY (by rw[E3];grind)]
 .rw[pk]
def av0{x:Str}{p:Nat}(h:p<=x.length):cl (slS x Z<|Oa (p:Int))=(cl x).take p:=by
 have e:Builtin.Str.strSliceIndices Z (Oa (p:Int)) 1 x.length=Builtin.Str.strSliceIndices (Oa ((0:Nat):Int)) (Oa (p:Int)) 1 x.length:=by
  unfold Builtin.Str.strSliceIndices;simp
  congr 1
  try omega
 rw[aX8 (a:=0) (n:=p) (by rw[e,StrLaws.strSliceIndices_plain (aA _) h];rfl) (by omega),dv]
def ae2{x:Str}{q:Nat}:cl (slS x (Oa (q:Int)) Z)=(cl x).drop q:=by
 by_cases h:q<=x.length
 .have e:Builtin.Str.strSliceIndices (Oa (q:Int)) Z 1 x.length=Builtin.Str.strSliceIndices (Oa (q:Int)) (Oa (x.length:Int)) 1 x.length:=by
   unfold Builtin.Str.strSliceIndices;simp
   congr 1
   rw[if_neg (by grind)];grind
  rw[aX8 (a:=q) (n:=x.length - q) (by rw[e,StrLaws.strSliceIndices_plain h (ak _)]) (by grind),aY (by rw[bc,E3];exact ak _)]
 .have e:Builtin.Str.strSliceIndices (Oa (q:Int)) Z 1 x.length=Builtin.Str.strSliceIndices (Oa (x.length:Int)) (Oa (x.length:Int)) 1 x.length:=by
   rw[PyProof.Rows.indices_beyond (by grind)];unfold Builtin.Str.strSliceIndices;simp
   congr 1
   rw[if_neg (by grind)];grind
  rw[aX8 (a:=x.length) (n:=0) (by rw[e,StrLaws.strSliceIndices_plain (ak _) (ak _),cq]) (by grind),List.take_zero,ez (by rw[E3];grind)]
def isM(w:Str):Bool:=(cl w).head? == Oa 45
def tl(w:Str):Str:=slS w (Oa 1) Z
def bx4(w:Str):cl (tl w)=(cl w).drop 1:=ae2 (q:=1)
def off(w:Str):Int:=bif isM w then -(num (tl w):Int) else num w
def okO(w:Str):Bool:=bif isM w then okN (tl w) else okN w
def bf6(h:Bw w):Bw (tl w):=h.sub (by rw[bx4];exact(db 1<|cl w).isInfix)
def cD6(w:Str):txB w "-" = Oa (.bool<|isM w):=by
 rw[mns];unfold txB isM
 congr 2
 rw[bv,ae,decide_eq_true_eq,beq_iff_eq,List.head?_eq_getElem?];exact aA8 w 45 0
def al6(hw:Bw w)(h:b=true\/okO w=true):Q1 b [.str w]=Oa (.int<|off w):=by
 have e:=cD6 w;have hl:=hw.l;refine rX1 ?_;unfold off;cases q:isM w with
 | false =>
  rw[q]at e;have r:=ao7 (b:=b) hw (h.imp id λh=>by unfold okO at h;rw[q]at h;exact h)
  exists evD,j8,dTx,e,r
  rfl
 | true =>
  rw[q]at e;have r:=ao7 (b:=b) (bf6 hw) (h.imp id λh=>by unfold okO at h;rw[q]at h;exact h)
  have s:Y8 (!0) (D5 ⇑1) J1 [[:.str w]]=Oa (.str<|tl w):=by
   unfold Y8;show(if w.length<=_/\(slS w (Oa 1) Z).length<=_ then _ else _)=_;rw[if_pos #[by grind,by have:=(bf6 hw).l;unfold tl at this;grind]];rfl
  exists evD,j8,dTx,e,s,r,bd4
  rfl
section
variable {i j:Nat}{kd:Bool}{ρ ρ':Rho}{q q' q1 q2:Fs}{o o':Fo}{d x y z:D}{f g:UX}{m:Str}{F:DF}
def by6(hs:ρ[i]? = Oa (Oa<|.opq j))(hq:q[j]? = Oa o):aa6 i ρ q=Oa (j,o):=by unfold aa6;rw[hs];show(q[j]?).map _=_;rw[hq];rfl
def ab5(hs:ρ[i]? = Oa (Oa<|.opq j))(hq:q[j]? = Oa o)(hm:o.k=kd/\(o.l.lookup m).isNone=true)(hF:F o [Z]=Oa (d,o')):uM0 i kd m F ρ q=Oa (d,q.set j o'):=by
 unfold uM0;rw[by6 hs hq,xbs,if_pos hm,hF];rfl
def aE4{g:Rho->Ob MD}{ms:MD}(hs:ρ[i]? = Oa (Oa<|.opq j))(hq:q[j]? = Oa o)(hg:g (era ρ)=Oa ms)(hF:F o ms=Oa (d,o')):uD i F g ρ q=Oa (d,q.set j o'):=by
 unfold uD;rw[by6 hs hq,xbs,hg,xbs,hF];rfl
def aO5(hs:ρ[i]? = Oa (Oa<|.opq j))(hq:q[j]? = Oa o)(hk:o.k=kd)(h:(o.l.lookup m).bind frD=Oa d):aw4 i kd m ρ q=Oa (d,q):=by
 unfold aw4;rw[by6 hs hq,xbs,if_pos hk,h];rfl
def E4(h:f ρ q=Oa (.nx ρ' q')):N9 f g ρ q=g ρ' q':=by unfold N9;rw[h];rfl
def M3(h:f ρ q=Oa (.rt d q')):N9 f g ρ q=Oa (.rt d q'):=by unfold N9;rw[h];rfl
def bP2{f:UD}(h:f ρ q=Oa (d,q')):bm8 i f ρ q=Oa (.nx (ρ.set i<|[:d]) q'):=by unfold bm8;rw[h];rfl
def bw2{f:UD}(h:f ρ q=Oa (d,q')):uEx f ρ q=Oa (.nx ρ q'):=by unfold uEx;rw[h];rfl
def ae0{f:UD}(h:f ρ q=Oa (d,q')):ab0 f ρ q=Oa (.rt d q'):=by unfold ab0;rw[h];rfl
def ah3{f:DE}(h:f (era ρ)=Oa d):uP f ρ q=Oa (d,q):=by unfold uP;rw[h];rfl
def ai2{h:D->D->Ob D}{f g:UD}(h1:f ρ q=Oa (x,q1))(h2:g ρ q1=Oa (y,q2))(h3:h x y=Oa z):uB2 h f g ρ q=Oa (z,q2):=by
 unfold uB2;rw[h1,xbs,h2,xbs,h3];rfl
def aE5{f:UD}{c:Bool}(h:f ρ q=Oa (.bool c,q')):uTB f ρ q=Oa (c,q'):=by unfold uTB;rw[h];rfl
def bp8{t:UB}(h:t ρ q=Oa (false,q')):uIf t f g ρ q=g ρ q':=by unfold uIf;rw[h];rfl
def bI9{t:UB}(h:t ρ q=Oa (true,q')):uIf t f g ρ q=f ρ q':=by unfold uIf;rw[h];rfl
def F9{g:UX}{n:Nat}{ms:MD}{q:Fs}(h:V5 n ms=ρ)(e:g ρ [o]=Oa (.rt d (o'::q))):S6 g n o ms=Oa (d,o'):=by unfold S6;rw[h,e];rfl
def bz8{g:UX}{n:Nat}{ms:MD}{q:Fs}(h:V5 n ms=ρ)(e:g ρ [o]=Oa (.nx ρ (o'::q))):S6 g n o ms=Oa (.none,o'):=by unfold S6;rw[h,e];rfl
def bl8{F:FnD}{f:UD}(h:f ρ q=Oa (x,q'))(hb:N0 x=false)(hF:F [x]=Oa d):O0 F (ulC f ulN) ρ q=Oa (d,q'):=by
 unfold O0 ulC;rw[h];show(bif N0 x || false then Oa (bad,q') else(F [x]).map _)=_;rw[hb,hF];rfl
def bM3{F:FnD}{f:UD}(h:f ρ q=Oa (bad,q')):O0 F (ulC f ulN) ρ q=Oa (bad,q'):=by
 unfold O0 ulC;rw[h];rfl
def as0{b:Bool}{gb:D}{f:UD}(h:f ρ q=Oa (d,q'))(hb:N0 d=false):kz b gb i f ρ q=Oa (.nx (ρ.set i<|[:d]) q'):=by
 cases b
 .exact bP2 h
 .show(aw2 gb i f ρ q)=_;unfold aw2;rw[h];show Oa (bif N0 d then _ else _)=_;rw[hb];rfl
def aK8{gb:D}{f:UD}(h:f ρ q=Oa (bad,q')):kz true gb i f ρ q=Oa (.rt gb q'):=by
 show(aw2 gb i f ρ q)=_;unfold aw2;rw[h];rfl
def cy9{f g:UD}{xs:La D}{n:Int}(h1:f ρ q=Oa (.list xs,q1))(h2:g ρ q1=Oa (.int n,q2))(h3:atI xs n=Oa d):bw7 f g ρ q=Oa (d,q2):=by
 unfold bw7;simp only[h1,xbs,aJ0,h2,h3,xms]
def cs7{f:UD}{xs:La D}(h:f ρ q=Oa (.list xs,q')):aO6 f ρ q=Oa (.int xs.length,q'):=by unfold aO6;rw[h];rfl
end
def cR2{q:Fs}{j:Nat}{o:Fo}(h:q[j]? = Oa o):q.set j o=q:=aQ2 h
def ob(ws:La Str)(k:Nat):Fo:=#[false,[("words", .frz (.list<|sD ws)),("words_taken", .frz (.int k))]]
def lk1(ws:La Str)(k:Nat):(bK ("words":Str) (ob ws k).l).bind frD=Oa (.list<|sD ws):=by kernel_rfl
def lk2(ws:La Str)(k:Nat):(bK ("words_taken":Str) (ob ws k).l).bind frD=Oa (.int k):=by kernel_rfl
def pt2(ws:La Str)(k:Nat):(#[false,aY6 "words_taken" (.frz<|.int ((k:Int)+1)) (ob ws k).l]:Fo)=ob ws (k+1):=by kernel_rfl
def lk3(ws:La Str)(k:Nat):(ob ws k).k=false/\(bK ("is_at_end":Str) (ob ws k).l).isNone=true:=#[rfl,by kernel_rfl]
def lk4(ws:La Str)(k:Nat):(ob ws k).k=false/\(bK ("word_ahead":Str) (ob ws k).l).isNone=true:=#[rfl,by kernel_rfl]
def lk5(ws:La Str)(k:Nat):(ob ws k).k=false/\(bK ("take_word":Str) (ob ws k).l).isNone=true:=#[rfl,by kernel_rfl]
def bc0(ws:La Str)(k:Nat):S0 (ob ws k) [Z]=Oa (.bool ((k:Int)==((sD ws).length:Int)),ob ws k) :=
 F9 (ρ:=[Oa (.opq 0)]) (q:=[]) rfl (ae0<|ai2 (aO5 rfl rfl rfl<|lk2 ws k) (cs7<|aO5 rfl rfl rfl (lk1 ws k)) (show eqD (.int (k:Int)) (.int ((sD ws).length:Int))=_ by rw[aC8]))
def dr0{ws r:La Str}{w:Str}{k:Nat}(h:ws.drop k=w::r):k < ws.length/\atI (sD ws) (k:Int)=Oa (.str w)/\ws.drop (k+1)=r:=by
 have h0:ws[k]? = Oa w:=by have:=congrArg (·[0]?) h;simpa using this
 obtain⟨hk,e⟩:=am.mp h0;refine#[hk,?_,by rw[<- List.tail_drop,h];rfl];unfold atI;rw[bI5 (by omega) (by rw[ai];omega),xbs,bO,aH,h0];rfl
def cc0{ws r:La Str}{w:Str}{k:Nat}(h:ws.drop k=w::r):M6 b (ob ws k) [Z]=Oa (.str w,ob ws k):=by
 obtain⟨h1,h2,_⟩:=dr0 h;have e:((k:Int)==((sD ws).length:Int))=false:=beq_eq_false_iff_ne.mpr (by rw[ai];omega);have e0:=bc0 ws k;rw[e]at e0;refine F9 (ρ:=[Oa (.opq 0)]) (q:=[]) rfl ?_;unfold Z4;refine(E4<|(bp8<|aE5 (ab5 rfl rfl (lk3 ws k) e0)).trans rfl).trans (ae0 ?_);exact cy9 (aO5 rfl rfl rfl<|lk1 ws k) (aO5 rfl rfl rfl<|lk2 ws k) h2
def cj5(ws:La Str):M6 true (ob ws ws.length) [Z]=Oa (bad,ob ws ws.length):=by
 have e0:=bc0 ws ws.length;rw[show((ws.length:Int)==((sD ws).length:Int))=true by rw[ai];exact beq_self_eq_true _]at e0;refine F9 (ρ:=[Oa (.opq 0)]) (q:=[]) rfl ?_;unfold Z4;exact M3<|(bI9<|aE5 (ab5 rfl rfl (lk3 ws ws.length) e0)).trans rfl
def cD9{ws r:La Str}{w:Str}{k:Nat}(h:ws.drop k=w::r):C6 b (ob ws k) [Z]=Oa (.str w,ob ws<|k+1):=by
 refine F9 (ρ:=[Oa (.opq 0),Z]) (q:=[]) rfl ?_;unfold j9;refine(E4<|as0 (ab5 rfl rfl (lk4 ws k)<|cc0 h) rfl).trans ?_;refine(E4 (ρ':=[Oa (.opq 0),[:.str w]]) (q':=[ob ws (k+1)]) ?_).trans rfl;have e:uB2 (hX bad B4) (aw4 0 false "words_taken") (uP ⇑1) [Oa (.opq 0),[:.str w]] [ob ws k]=Oa (.int ((k:Int)+1),[ob ws k]):=ai2 (aO5 (j:=0) rfl rfl rfl<|lk2 ws k) rfl (O4 _ _);unfold aw3;show((uB2 (hX bad B4) (aw4 0 false "words_taken") (uP ⇑1) [Oa (.opq 0),[:.str w]] [ob ws k]).bind _)=_;rw[e,<- pt2];rfl
def cl3(ws:La Str):C6 true (ob ws ws.length) [Z]=Oa (bad,ob ws ws.length):=by
 refine F9 (ρ:=[Oa (.opq 0),Z]) (q:=[]) rfl ?_;unfold j9;exact M3<|aK8 (ab5 (j:=0) rfl rfl (lk4 ws ws.length)<|cj5 ws)
section
variable {ws r:La Str}{w:Str}{k i j:Nat}{ρ:Rho}{q:Fs}
def tk(hs:ρ[i]? = Oa (Oa<|.opq j))(hq:q[j]? = Oa (ob ws k))(h:ws.drop k=w::r):uM0 i false "take_word" (C6 b) ρ q=Oa (.str w,q.set j<|ob ws (k+1)):=ab5 hs hq (lk5 ws k)<|cD9 h
def tkb(hs:ρ[i]? = Oa (Oa<|.opq j))(hq:q[j]? = Oa (ob ws ws.length)):uM0 i false "take_word" (C6 true) ρ q=Oa (bad,q):=(ab5 hs hq (lk5 ws _)<|cl3 ws).trans (by rw[cR2 hq])
end
def bc1{ws:La Str}{k:Nat}(h:ws.drop k=[])(hk:k<=ws.length):k=ws.length:=by
 have:=congrArg cY h;rw[bc]at this;simp at this;grind
abbrev spR(b:Bool):UD:=O0 (W2 b)<|ulC (uM0 1 false "take_word"<|C6 b) ulN
def tks(r:La Str)(n:Nat):Ob (La D):=if n<=r.length then Oa ((r.take n).map λp=>spD<|spot p) else Z
theorem bM1{ws:La Str}:∀(ks:La D) (r:La Str) (k n:Nat),ws.drop k=r->k<=ws.length->r.length < n->(∀p∈r,Bw p)->(b=true\/(ks.length<=r.length/\(r.take ks.length).all okP=true))->cpX (spR b) n (ob ws k) ks=Oa (tks r ks.length,ob ws<|k+min ks.length r.length)
 | [],r,k,n,_,_,_,_,_=>by unfold tks;rw[if_pos (by simp),aU,Nat.zero_min];cases n<;>rfl
 | x::ks,r,k,0,_,_,h,_,_=>by grind
 | x::ks,[],k,n+1,hd,hk,_,_,h=>by
  obtain rfl:b=true:=h.elim id λh=>by simp at h
  obtain rfl:=bc1 hd hk;unfold cpX;rw[show spR true [[:x],Oa (.opq 0)] [ob ws ws.length]=Oa (bad,[ob ws ws.length]) from bM3 (tkb rfl rfl)];rfl
 | x::ks,p::r,k,n+1,hd,hk,hn,hb,h=>by
  obtain⟨h1,_,h3⟩:=dr0 hd;have e:spR b [[:x],Oa (.opq 0)] [ob ws k]=Oa (spD (spot p),[ob ws (k+1)]):=bl8 (tk (i:=1) (j:=0) (ρ:=[[:x],Oa (.opq 0)]) (q:=[ob ws k]) rfl rfl hd) rfl (bS1 (hb p<|by simp) (h.imp id λh=>by simp at h;exact h.2.1));have i:=bM1 ks r (k+1) n h3 h1 (by simp at hn;grind) (λp hp=>hb p<|xmm _ hp) (h.imp id λh=>by simp at h |-;exact#[h.1,h.2.2]);unfold cpX;rw[e];show((cpX (spR b) n (ob ws<|k+1) ks).map λl=>(l.1.map (spD (spot p)::·),l.2))=_;rw[i,show k+min (x::ks).length (p::r).length=k+1+min ks.length r.length by simp only[ag];grind];show Oa ((tks r ks.length).map _,ob ws<|k+1+min ks.length r.length)=_
  congr 2
  unfold tks;by_cases q:ks.length<=r.length
  .rw[if_pos q,if_pos (by simpa using q)];rfl
  .rw[if_neg q,if_neg (by simpa using q)];rfl
abbrev zM(z:Str):Nat:=(zN z).1*(zN z).2
def sheet:La Str->Ob Sht
 | []=>Z
 | z::r=>if zM z<=r.length then Oa ((zN z).1,(zN z).2,(r.take<|zM z).map spot) else Z
def okT:La Str->Bool
 | []=>false
 | z::r=>okZ z&&decide (zM z<=r.length)&&(r.take<|zM z).all okP
def shN:La Str->Nat
 | []=>0
 | z::r=>1+min (zM z) r.length
def cn4{ws r:La Str}{k:Nat}(hd:ws.drop k=r)(hk:k<=ws.length)(hb:∀p∈r,Bw p)(hl:r.length<=1000)(h:b=true\/okT r=true):T1 b (ob ws k) [Z]=Oa (shO (sheet r),ob ws<|k+shN r):=by
 cases r with
 | nil =>
  obtain rfl:b=true:=h.elim id λh=>nomatch h
  obtain rfl:=bc1 hd hk;refine F9 (ρ:=[Oa (.opq 0),Z,Z]) (q:=[]) rfl ?_;unfold y8;exact M3<|aK8 (bM3<|tkb rfl rfl)
 | cons z r =>
  obtain⟨h1,_,h3⟩:=dr0 hd;have hz:=hb z (by simp);obtain⟨l1,l2⟩:=cb8 hz;have sz:=bg2 (b:=b) hz (h.imp id λh=>by unfold okT at h;simp only[ae]at h;exact h.1.1);have big:zM z < 10 ^ 14:=aG (Nat.mul_lt_mul_of_lt_of_lt l1 l2) (by decide);have m:G7 (.int ((zN z).1:Int)) (.int ((zN z).2:Int))=Oa (.int ((zM z:Nat):Int)):=by rw[ay2 (T8 (k:=30) (by grind)<|by decide) (T8 (k:=30) (by grind)<|by decide),dk]
  have rn:J9 (A9 G7 (dIx (B0 1) ⇑0)<|dIx (B0 1) ⇑1) [Z,[:prD (size z)],Z]=Oa (W6 0 (zM z:Nat)):=by
   unfold J9;rw[show A9 G7 (dIx (B0 1) ⇑0) (dIx (B0 1) ⇑1) [Z,[:prD (size z)],Z]=_ from(B5 rfl rfl).trans m,xbs];show(if _ then _ else _)=_;rw[if_pos #[by grind,by grind]]
  have len:(W6 0 (zM z:Nat)).length=zM z:=by unfold W6;rw[ai,bo,Int.sub_zero,bO]
  have c:=bM1 (ws:=ws) (b:=b) (W6 0 (zM z:Nat)) r (k+1) 100000 h3 h1 (by simp at hl;grind) (λp hp=>hb p (xmm _ hp)) (h.imp id λh=>by
   unfold okT at h;simp only[ae,decide_eq_true_eq]at h
   rw[len];exact#[h.1.2,h.2])
  rw[len]at c;rw[show k+shN (z::r)=k+1+min (zM z) r.length from(Nat.add_assoc ..).symm];refine F9 (ρ:=[Oa (.opq 0),Z,Z]) (q:=[]) rfl ?_;unfold y8;refine(E4<|as0 (bl8 (tk rfl rfl hd) rfl sz) rfl).trans ?_
  have u:bw8 bad 2 0 (J9<|A9 G7 (dIx (B0 1) ⇑0) (dIx (B0 1) ⇑1)) (spR b) [Oa (.opq 0),[:prD (size z)],Z] [ob ws (k+1)]=Oa (cpF bad 2 0 [Oa (.opq 0),[:prD (size z)],Z] [ob ws (k+1)] (tks r (zM z),ob ws<|k+1+min (zM z) r.length)):=by
   unfold bw8;show((J9 (A9 G7 (dIx (B0 1) ⇑0)<|dIx (B0 1) ⇑1) [Z,[:prD (size z)],Z]).bind _)=_;rw[rn];show((cpX (spR b) 100000 (ob ws<|k+1) _).map _)=_;rw[c];rfl
  rw[show sheet (z::r)=if zM z<=r.length then Oa (((zN z).1:Int),((zN z).2:Int),(r.take<|zM z).map spot) else Z from rfl];by_cases q:zM z<=r.length
  .rw[if_pos q];unfold tks at u;rw[if_pos q]at u;refine(E4 u).trans ?_;show Oa (UF.rt (PyData.tuple [.int (zN z).1,.int (zN z).2,.tuple _]) _)=_;rw[show shO (Oa (((zN z).1:Int),((zN z).2:Int),(r.take<|zM z).map spot))=T9 ((zN z).1,(zN z).2,(r.take<|zM z).map spot) from rfl,T9,bw];rfl
  .rw[if_neg q];unfold tks at u;rw[if_neg q]at u;exact M3 u
structure Rd (α:Type) where
 v:α
 r:List Str
 ok:Bool
abbrev Ly4:=Int×Int×Ob (La Sr)×Ob Sht
def rdL:La Str->Rd (Ob Ly4)
 | l::t::m::r=>#[Oa (off l,off t,mask m,sheet r),r.drop<|shN r,okO l&&okO t&&okM m&&okT r]
 | _=>#[Z,[],false]
def lyO:Ob Ly4->D
 | none=>bad
 | some (l,t,m,s)=>.tuple [.int l,.int t,mkD m,shO s]
def cm8:∀r:La Str,shN r<=r.length
 | []=>ak _
 | z::r=>by show 1+min (zM z) r.length<=r.length+1;omega
structure At (W:List Str) (k:Nat) (r:List Str):Prop where
 e:W.drop k=r
 l:k<=W.length
def At.nil(h:At W k []):k=W.length:=bc1 h.e h.l
def At.tl(h:At W k (w::r)):At W (k+1) r:=#[(dr0 h.e).2.2,(dr0 h.e).1]
theorem At.drop(h:At W k r)(n:Nat)(hn:n<=r.length):At W (k+n) (r.drop n):=by
 refine#[by rw[<- h.e,eB],?_];have:=h.l;have e:=congrArg cY h.e;rw[bc]at e
 grind
def tkn{f:FnD}{b:Bool}(A:At W k (w::r))(hf:f [.str w]=Oa d)(hb:N0 d=false):kz b bad i (O0 f<|ulC (uM0 0 false "take_word"<|C6 b) ulN) (Oa (.opq 0)::ρ) [ob W k]=Oa (.nx ((Oa (.opq 0)::ρ).set i<|[:d]) [ob W (k+1)]):=as0 (bl8 (tk (i:=0) (j:=0) (ρ:=Oa (.opq 0)::ρ) (q:=[ob W k]) rfl rfl A.e) rfl hf) hb
def tkz{f:FnD}(A:At W k []):kz true bad i (O0 f<|ulC (uM0 0 false "take_word"<|C6 true) ulN) (Oa (.opq 0)::y) [ob W k]=Oa (.rt bad [ob W k]):=by
 rw[A.nil];exact aK8<|bM3 (tkb rfl rfl)
def cJ5(m:Ob (La Sr)):N0 (mkD m)=false:=by cases m<;>rfl
def cn6(A:At W k r)(hb:∀p∈r,Bw p)(hl:r.length<=1000)(h:b=true\/(rdL r).ok=true):∃k',J6 b (ob W k) [Z]=Oa (lyO (rdL r).v,ob W k')/\At W k' (rdL r).r:=by
 match r,A,hb,hl,h with
 | [],A,hb,hl,h =>
  obtain rfl:b=true:=h.elim id λh=>nomatch h
  exact#[k,F9 (ρ:=[Oa (.opq 0),Z,Z,Z]) (q:=[]) rfl<|M3 (tkz A),A]
 | [l],A,hb,hl,h =>
  obtain rfl:b=true:=h.elim id λh=>nomatch h
  exact#[k+1,F9 (ρ:=[Oa (.opq 0),Z,Z,Z]) (q:=[]) rfl ((E4<|tkn A (al6 (hb l<|by simp)<|.inl rfl) rfl).trans<|M3 (tkz A.tl)),A.tl]
 | [l,t],A,hb,hl,h =>
  obtain rfl:b=true:=h.elim id λh=>nomatch h
  exact#[k+1+1,F9 (ρ:=[Oa (.opq 0),Z,Z,Z]) (q:=[]) rfl ((E4<|tkn A (al6 (hb l<|by simp)<|.inl rfl) rfl).trans<|(E4<|tkn A.tl (al6 (hb t<|by simp)<|.inl rfl) rfl).trans (M3<|tkz A.tl.tl)),A.tl.tl]
 | l::t::m::r,A,hb,hl,h =>
  have o:b=true\/((okO l=true/\okO t=true)/\okM m=true)/\okT r=true:=h.imp id λh=>by
   have h:(okO l&&okO t&&okM m&&okT r)=true:=h;simpa only[ae] using h
  have s:=cn4 (b:=b) A.tl.tl.tl.e A.tl.tl.tl.l (λp hp=>hb p<|by simp[hp]) (by simp at hl;grind) (o.imp id λo=>o.2);refine#[k+1+1+1+shN r,F9 (ρ:=[Oa (.opq 0),Z,Z,Z]) (q:=[]) rfl ?_,A.tl.tl.tl.drop _<|cm8 r];refine(E4<|tkn A (al6 (hb l<|by simp)<|o.imp id λo=>o.1.1.1) rfl).trans ((E4<|tkn A.tl (al6 (hb t<|by simp)<|o.imp id λo=>o.1.1.2) rfl).trans<|(E4<|tkn A.tl.tl (bS3 (hb m<|by simp)<|o.imp id λo=>o.1.2) (cJ5 _)).trans (ae0 ?_));show ag0 _ [Oa (.opq 0),[:.int (off l)],[:.int (off t)],[:mkD (mask m)]] [ob W (k+1+1+1)]=_;have e:uD 0 (T1 b) (mO mN) [Oa (.opq 0),[:.int (off l)],[:.int (off t)],[:mkD (mask m)]] [ob W (k+1+1+1)]=Oa (shO (sheet r),[ob W (k+1+1+1+shN r)]):=aE4 (j:=0) (ms:=[Z]) rfl rfl rfl s;unfold ag0 ulC;simp only[uP,A6,era,cA6,xmc,xmn,xg1,xg0,xbs,xms,ulC,e,ulN];rfl
noncomputable def pv:La Str->Bool
 | []=>true
 | w::_=>w==("+":Str)
def ndL(n m:Str)(s:Sr)(v o:Bool)(x:Rd (Ob Ly4)):Rd Rw:=match x.v with
 | some y=>#[.lay n m s v y.1 y.2.1 y.2.2.1 y.2.2.2,x.r,o&&x.ok]
 | none=>#[.bad,x.r,false]
def ndG(n m:Str)(s:Sr)(v o:Bool)(x:Rd (Ob<|La Rw)):Rd Rw:=match x.v with
 | some ns=>#[.grp n m s v ns,x.r,o&&x.ok]
 | none=>#[.grb n m s v,x.r,false]
def rdN(inn:La Str->Rd (Ob<|La Rw)):La Str->Rd Rw
 | k::n::m::s::r=>bif k==("layer":Str) then ndL n m (share s) (pv r) (okS s && !r.isEmpty) (rdL r.tail) else bif k==("group":Str) then ndG n m (share s) (pv r) (okS s && !r.isEmpty) (inn r.tail) else#[.leaf k n m (share s)<|pv r,r.tail,okS s && !r.isEmpty]
 | _=>#[.bad,[],false]
def aY5:rdN inn (k::n::m::s::r)=bif k==("layer":Str) then ndL n m (share s) (pv r) (okS s && !r.isEmpty) (rdL r.tail) else bif k==("group":Str) then ndG n m (share s) (pv r) (okS s && !r.isEmpty) (inn r.tail) else#[.leaf k n m (share s)<|pv r,r.tail,okS s && !r.isEmpty]:=rfl
def ce5:(ndL n m s v o x).r=x.r:=by unfold ndL;split<;>rfl
def ce6:(ndG n m s v o x).r=x.r:=by unfold ndG;split<;>rfl
def bD0(h:(ndL n m s v o x).ok=true):o=true/\x.ok=true:=by
 unfold ndL at h;split at h
 .exact(ae _ _).mp h
 .cases h
def bD1(h:(ndG n m s v o x).ok=true):o=true/\x.ok=true:=by
 unfold ndG at h;split at h
 .exact(ae _ _).mp h
 .cases h
def inO:Ob (La Rw)->D
 | none=>bad
 | some ns=>.tuple<|Rw.ds ns
def tkw{b:Bool}(A:At W k (w::r)):kz b bad i (uM0 0 false "take_word"<|C6 b) (Oa (.opq 0)::ρ) [ob W k]=Oa (.nx ((Oa (.opq 0)::ρ).set i<|[:.str w]) [ob W (k+1)]):=as0 (tk (i:=0) (j:=0) (ρ:=Oa (.opq 0)::ρ) (q:=[ob W k]) rfl rfl A.e) rfl
def tkv(A:At W k []):kz true bad i (uM0 0 false "take_word"<|C6 true) (Oa (.opq 0)::y) [ob W k]=Oa (.rt bad [ob W k]):=by
 rw[A.nil];exact aK8<|tkb rfl rfl
def tkp(A:At W k r)(hb:∀p∈r,Bw p)(h:b=true\/r.isEmpty=false):∃k',uB2 (hX (.bool true) eqD) (uM0 0 false "take_word"<|C6 b) (uP !"+") (Oa (.opq 0)::ρ) [ob W k]=Oa (.bool (pv r),[ob W k'])/\At W k' r.tail:=by
 cases r with
 | nil =>
  obtain rfl:b=true:=h.elim id λh=>nomatch h
  refine#[k,ai2 (x:=bad) ?_ (ah3 rfl) rfl,A];rw[A.nil];exact tkb rfl rfl
 | cons w r =>
  have e:hX (.bool true) eqD (.str w) (.str "+")=Oa (.bool<|w==("+":Str)):=N8 (hb w<|by simp).lay ∅ rfl;exact#[k+1,ai2 (tk (i:=0) (j:=0) (ρ:=Oa (.opq 0)::ρ) (q:=[ob W k]) rfl rfl A.e) (ah3 rfl) e,A.tl]
def ar1{t:Rho->Ob Bool}(h:t (era y)=Oa c):uTP t y q=Oa (c,q):=by unfold uTP;rw[h];rfl
def ulP{f:DE}{g:UL}{l:La D}(h:f (era y)=Oa x)(e:g y q=Oa (l,q')):ulC (uP f) g y q=Oa (x::l,q'):=by
 unfold ulC;rw[ah3 h,xbs,e];rfl
def cn5{inn:La Str->Rd (Ob<|La Rw)}{d:Nat}{self:Nat->DF}(H:∀{r k},At W k r->(∀p∈r,Bw p)->r.length<=1000->(b=true\/(inn r).ok=true)->∃k',self 0 (ob W k) [Z,Oa (.int d)]=Oa (inO (inn r).v,ob W k')/\At W k' (inn r).r)
  (A:At W k r) (hb:∀p∈r,Bw p) (hl:r.length<=1000) (h:b=true\/(rdN inn r).ok=true):∃k',S6 (i0 b self) 7 (ob W k) [Z,Oa (.int d)]=Oa ((rdN inn r).v.d,ob W k')/\At W k' (rdN inn r).r:=by
 match r,A,hb,hl,h with
 | [],A,hb,hl,h =>
  obtain rfl:b=true:=h.elim id λh=>nomatch h
  exact#[k,F9 (ρ:=[Oa (.opq 0),[:.int d],Z,Z,Z,Z,Z]) (q:=[]) rfl ((M3<|tkv A).trans<|by rw[show(rdN inn _).v=.bad from rfl,Rw.d]),A]
 | [w1],A,hb,hl,h =>
  obtain rfl:b=true:=h.elim id λh=>nomatch h
  exact#[k+1,F9 (ρ:=[Oa (.opq 0),[:.int d],Z,Z,Z,Z,Z]) (q:=[]) rfl ((E4<|tkw A).trans<|(M3<|tkv A.tl).trans (by rw[show(rdN inn _).v=.bad from rfl,Rw.d])),A.tl]
 | [w1,w2],A,hb,hl,h =>
  obtain rfl:b=true:=h.elim id λh=>nomatch h
  exact#[k+1+1,F9 (ρ:=[Oa (.opq 0),[:.int d],Z,Z,Z,Z,Z]) (q:=[]) rfl ((E4<|tkw A).trans<|(E4<|tkw A.tl).trans ((M3<|tkv A.tl.tl).trans<|by rw[show(rdN inn _).v=.bad from rfl,Rw.d])),A.tl.tl]
 | [w1,w2,w3],A,hb,hl,h =>
  obtain rfl:b=true:=h.elim id λh=>nomatch h
  exact#[k+1+1+1,F9 (ρ:=[Oa (.opq 0),[:.int d],Z,Z,Z,Z,Z]) (q:=[]) rfl ((E4<|tkw A).trans<|(E4<|tkw A.tl).trans ((E4<|tkw A.tl.tl).trans<|(M3<|tkz A.tl.tl.tl).trans (by rw[show(rdN inn _).v=.bad from rfl,Rw.d]))),A.tl.tl.tl]
 | w1::w2::w3::w4::r,A,hb,hl,h =>
  have A4:=A.tl.tl.tl.tl;have hb4:∀p∈r,Bw p:=λp hp=>hb p (by simp[hp])
  have hbt:∀p∈r.tail,Bw p:=λp hp=>hb4 p<|List.mem_of_mem_tail hp
  have hlt:r.tail.length<=1000:=by simp at hl |-;grind
  have o:b=true\/okS w4=true/\r.isEmpty=false:=h.imp id λh=>by
   have z:(okS w4 && !r.isEmpty)=true:=by
    rw[aY5]at h;cases q1:w1==("layer":Str) with
    | true=>rw[q1]at h;exact(bD0 h).1
    | false =>
     rw[q1]at h;cases q2:w1==("group":Str) with
     | true=>rw[q2]at h;exact(bD1 h).1
     | false=>rw[q2]at h;exact h
   simpa using z
  obtain⟨k5,e5,A5⟩:=tkp (ρ:=[[:.int d],[:.str w1],[:.str w2],[:.str w3],[:prD (share w4)],Z]) A4 hb4 (o.imp id λo=>o.2);obtain⟨y1,y2⟩:=aa8 (kk:=w1) (n:=w2) (m:=w3) (s:=share w4) (v:=pv r) (r:=[]) (hb w1<|by simp).lay
  have pre:∀{fl:Ob UF},(N9 (uIf (uTP<|E7 (A7 U9 {6})) (ab0<|uB2 (hX bad B4) (uP !6) (uD 0 (J6 b)<|mO mN)) aI0)<|N9 (uIf (uTP<|E7 (A7 J8 {6})) (ab0<|uB2 (hX bad B4) (uP !6) (ag0<|ulC (uD 0 (self 0)<|mO (mC (!1) mN)) ulN)) aI0) (ab0<|uP !6)) [Oa (.opq 0),[:.int d],[:.str w1],[:.str w2],[:.str w3],[:prD (share w4)],[:hdD w1 w2 w3 (share w4) (pv r) []]] [ob W k5]=fl->i0 b self [Oa (.opq 0),[:.int d],Z,Z,Z,Z,Z] [ob W k]=fl:=λ{fl} e=>by
   unfold i0;refine(E4<|tkw A).trans ((E4<|tkw A.tl).trans<|(E4<|tkw A.tl.tl).trans ((E4<|tkn A.tl.tl.tl (aJ3 (hb w4<|by simp)<|o.imp id λo=>o.1) rfl).trans ?_));refine(E4 (ρ':=[Oa (.opq 0),[:.int d],[:.str w1],[:.str w2],[:.str w3],[:prD (share w4)],[:hdD w1 w2 w3 (share w4) (pv r) []]]) (q':=[ob W k5])<|as0 (i:=6) (d:=hdD w1 w2 w3 (share w4) (pv r) []) ?_ rfl).trans e
   have e5':ulC (uB2 (hX (.bool true) eqD) (uM0 0 false "take_word"<|C6 b)<|uP !"+") ulN [Oa (.opq 0),[:.int d],[:.str w1],[:.str w2],[:.str w3],[:prD (share w4)],Z] [ob W (k+1+1+1+1)]=Oa ([.bool (pv r)],[ob W k5]):=by
    unfold ulC;rw[e5];rfl
   show ag0 _ [Oa (.opq 0),[:.int d],[:.str w1],[:.str w2],[:.str w3],[:prD (share w4)],Z] [ob W (k+1+1+1+1)]=_;unfold ag0;rw[ulP (x:=.str w1) rfl (ulP (x:=.str w2) rfl<|ulP (x:=.str w3) rfl (ulP (x:=prD<|share w4) rfl e5'))];rfl
  have st:V5 7 [Z,Oa (.int d)]=[Oa (.opq 0),[:.int d],Z,Z,Z,Z,Z]:=rfl;rw[aY5]at h |-;cases q1:w1==("layer":Str) with
  | true =>
   rw[q1]at y1 h;simp only[cond_true]at h |-;obtain rfl:w1 = "layer" := beq_iff_eq.mp q1;obtain⟨k',eL,AL⟩:=cn6 A5 hbt hlt (h.imp id λh=>(bD0 h).2);refine#[k',F9 st<|pre (M3<|(bI9<|ar1 (X0 rfl y1)).trans (ae0<|ai2 (ah3 rfl) (aE4 (j:=0) (ms:=[Z]) rfl rfl rfl eL) ?_)),by rw[ce5];exact AL];unfold ndL;cases(rdL r.tail).v with
   | none=>rw[Rw.d];rfl
   | some y=>rw[Rw.d];rfl
  | false =>
   rw[q1]at y1 h;simp only[cond_false]at h |-;cases q2:w1==("group":Str) with
   | true =>
    rw[q2]at y2 h;simp only[cond_true]at h |-;obtain rfl:w1 = "group" := beq_iff_eq.mp q2;obtain⟨k',eI,AI⟩:=H A5 hbt hlt<|h.imp id λh=>(bD1 h).2
    have u:ag0 (ulC (uD 0 (self 0)<|mO (mC (!1) mN)) ulN) [Oa (.opq 0),[:.int d],[:.str "group"],[:.str w2],[:.str w3],[:prD (share w4)],[:hdD "group" w2 w3 (share w4) (pv r) []]] [ob W k5]=Oa (.tuple [inO (inn r.tail).v],[ob W k']):=by
     unfold ag0 ulC;rw[aE4 (j:=0) (ms:=[Z,Oa (.int d)]) rfl rfl rfl eI];rfl
    refine#[k',F9 st<|pre ((E4<|(bp8<|ar1 (X0 rfl y1)).trans rfl).trans<|M3 ((bI9<|ar1 (X0 rfl y2)).trans<|ae0 (ai2 (ah3 rfl) u ?_))),by rw[ce6];exact AI];unfold ndG;cases(inn r.tail).v with
    | none=>rw[Rw.d];rfl
    | some y=>rw[Rw.d];rfl
   | false =>
    rw[q2]at y2;simp only[cond_false];refine#[k5,F9 st<|pre ((E4<|(bp8<|ar1 (X0 rfl y1)).trans rfl).trans<|(E4<|(bp8<|ar1 (X0 rfl y2)).trans rfl).trans (ae0<|ah3 ?_)),A5];rw[Rw.d];rfl
def K7(nd:La Str->Rd Rw):Nat->La Str->Rd (La Rw)
 | 0,r=>#[[],r,false]
 | _+1,[]=>#[[],[],true]
 | j+1,w::r=>bif w==("]":Str) then#[[],w::r,true] else#[(nd (w::r)).v::(K7 nd j (nd (w::r)).r).v,(K7 nd j (nd (w::r)).r).r,(nd (w::r)).ok&&(K7 nd j (nd (w::r)).r).ok]
def rdI:Nat->La Str->Rd (Ob<|La Rw)
 | 0,r=>#[Z,r,false]
 | _+1,[]=>#[Z,[],false]
 | d+1,w::r=>bif w==("[":Str) then#[Oa (K7 (rdN<|rdI d) 1000 r).v,(K7 (rdN<|rdI d) 1000 r).r.tail,(K7 (rdN<|rdI d) 1000 r).ok && !(K7 (rdN<|rdI d) 1000 r).r.isEmpty] else#[Z,r,false]
def bS8:∀r:La Str,(rdL r).r <:+ r
 | []=>bE _
 | [_]=>cS
 | [_,_]=>cS
 | _::_::_::r=>(db _ r).trans #[[_,_,_],rfl]
def ai4(r:La Str):r.tail <:+ r:=List.tail_suffix r
def av1{inn:La Str->Rd (Ob<|La Rw)}(S:∀r,(inn r).r <:+ r):∀r:La Str,(rdN inn r).r <:+ r.tail
 | []=>bE _
 | [_]=>cS
 | [_,_]=>cS
 | [_,_,_]=>cS
 | w1::w2::w3::w4::r=>by
  rw[aY5];have t:r <:+ w2::w3::w4::r:=#[[_,_,_],rfl];cases w1==("layer":Str)
  .cases w1==("group":Str)
   .exact(ai4 r).trans t
   .show(ndG _ _ _ _ _ _).r <:+ _;rw[ce6];exact(S _).trans ((ai4 r).trans t)
  .show(ndL _ _ _ _ _ _).r <:+ _;rw[ce5];exact(bS8 _).trans ((ai4 r).trans t)
theorem aQ8{nd:La Str->Rd Rw}(S:∀r,(nd r).r <:+ r.tail):∀(j:Nat) (r:La Str),(K7 nd j r).r <:+ r
 | 0,r=>bE _
 | _+1,[]=>bE _
 | j+1,w::r=>by
  rw[K7];cases w==("]":Str)
  .exact((aQ8 S j _).trans<|S _).trans (ai4 _)
  .exact bE _
theorem ae5:∀(d:Nat) (r:La Str),(rdI d r).r <:+ r
 | 0,r=>bE _
 | _+1,[]=>bE _
 | d+1,w::r=>by
  rw[rdI];cases w==("[":Str)
  .exact ai4 (w::r)
  .exact(ai4 _).trans ((aQ8 (av1<|ae5 d) 1000 r).trans<|ai4 (w::r))
abbrev tst(b:Bool):UB:=bn0 (bm9<|uTB (uM0 0 false "is_at_end" S0))<|uTB (uB2 (hX (.bool true) neD) (uM0 0 false "word_ahead"<|M6 b)<|uP !"]")
def te{W:La Str}:uTB (uM0 0 false "is_at_end" S0) (Oa (.opq 0)::ρ) [ob W k]=Oa ((k:Int)==((sD W).length:Int),[ob W k]):=aE5<|ab5 (i:=0) (j:=0) (ρ:=Oa (.opq 0)::ρ) (q:=[ob W k]) rfl rfl (lk3 W k) (bc0 W k)
def cE2(A:At W k []):tst b (Oa (.opq 0)::ρ) [ob W k]=Oa (false,[ob W k]):=by
 have e:=te (W:=W) (k:=k) (ρ:=ρ);rw[show((k:Int)==((sD W).length:Int))=true by rw[ai,A.nil];exact beq_self_eq_true _]at e;unfold tst bn0 bm9;rw[e];rfl
def cE1(A:At W k (w::r))(hw:Bw w):tst b (Oa (.opq 0)::ρ) [ob W k]=Oa (!(w==("]":Str)),[ob W k]):=by
 have e:=te (W:=W) (k:=k) (ρ:=ρ);rw[show((k:Int)==((sD W).length:Int))=false from beq_eq_false_iff_ne.mpr (by rw[ai];have:=(dr0 A.e).1;grind)]at e;have n:hX (.bool true) neD (.str w) (.str "]")=Oa (.bool (!(w==("]":Str)))):=ae8 hw.lay ∅ rfl;unfold tst bn0 bm9;rw[e];exact aE5<|ai2 (ab5 (i:=0) (j:=0) (ρ:=Oa (.opq 0)::ρ) (q:=[ob W k]) rfl rfl (lk4 W k)<|cc0 A.e) (ah3 rfl) n
theorem bv4{nd:La Str->Rd Rw}{f:DF}{d:Nat}(S:∀r,(nd r).r <:+ r.tail)(H:∀{r k},At W k r->(∀p∈r,Bw p)->r.length<=1000->(b=true\/(nd r).ok=true)->∃k',f (ob W k) [Z,Oa (.int d)]=Oa ((nd r).v.d,ob W k')/\At W k' (nd r).r):
  ∀(j:Nat) (r:La Str) (k:Nat) (X:La D),r.length < j->r.length<=1000->X.length+r.length<=100000->At W k r->(∀p∈r,Bw p)->(b=true\/(K7 nd j r).ok=true)->∃k',as1 (tst b) (aO7 2<|uD 0 f (mO<|mC (!1) mN)) j [Oa (.opq 0),[:.int d],Oa (.own X)] [ob W k]=Oa (.nx [Oa (.opq 0),[:.int d],Oa (.own<|X++Rw.ds (K7 nd j r).v)] [ob W k'])/\At W k' (K7 nd j r).r
 | 0,r,k,X,h,_,_,_,_,_=>by grind
 | j+1,[],k,X,_,_,_,A,_,_=>by
  refine#[k,?_,A];rw[K7,Rw.ds,ar];unfold as1;rw[cE2 A];rfl
 | j+1,w::r,k,X,hj,hl,hX,A,hb,h=>by
  have t:=cE1 (b:=b) (ρ:=[[:.int d],Oa (.own X)]) A (hb w<|by simp);rw[K7]at h |-;cases q:w==("]":Str) with
  | true =>
   rw[q]at t;refine#[k,?_,A];show _=Oa (UF.nx [_,_,Oa (.own<|X++Rw.ds [])] _);rw[Rw.ds,ar];unfold as1;rw[t];rfl
  | false =>
   rw[q]at t h;simp only[cond_false]at h |-;have o:b=true\/(nd (w::r)).ok=true/\(K7 nd j (nd (w::r)).r).ok=true:=h.imp id λh=>(ae _ _).mp h
   obtain⟨k1,e1,A1⟩:=H A hb hl (o.imp id λo=>o.1);have s:(nd (w::r)).r <:+ r:=S (w::r);have sl:=s.length_le;rw[ag]at hj hl hX;obtain⟨k2,e2,A2⟩:=bv4 S H j (nd (w::r)).r k1 (X++[(nd (w::r)).v.d]) (by grind) (by grind) (by rw[aj,bW];grind) A1 (λp hp=>hb p<|xmm _ (s.subset hp)) (o.imp id λo=>o.2);refine#[k2,?_,A2]
   have a:aO7 2 (uD 0 f<|mO (mC (!1) mN)) [Oa (.opq 0),[:.int d],Oa (.own X)] [ob W k]=Oa (.nx [Oa (.opq 0),[:.int d],Oa (.own<|X++[(nd (w::r)).v.d])] [ob W k1]):=by
    unfold aO7;show(if X.length < 16777216 then(uD 0 f (mO<|mC (!1) mN) _ _).map _ else Z)=_;rw[if_pos (by grind),aE4 (j:=0) (ms:=[Z,Oa (.int d)]) rfl rfl rfl e1];rfl
   unfold as1;rw[t];show(aO7 2 (uD 0 f<|mO (mC (!1) mN)) [Oa (.opq 0),[:.int d],Oa (.own X)] [ob W k]).bind _=_;rw[a];refine e2.trans ?_;rw[Rw.ds,au];rfl
def bS2{nd:La Str->Rd Rw}{self:Nat->DF}{d:Nat}(S:∀r,(nd r).r <:+ r.tail)(H:∀{r k},At W k r->(∀p∈r,Bw p)->r.length<=1000->(b=true\/(nd r).ok=true)->∃k',self 1 (ob W k) [Z,Oa (.int d)]=Oa ((nd r).v.d,ob W k')/\At W k' (nd r).r)
  (A:At W k r) (hb:∀p∈r,Bw p) (hl:r.length < 1000) (h:b=true\/(K7 nd 1000 r).ok=true):∃k',S6 (aa0 b self) 3 (ob W k) [Z,Oa (.int d)]=Oa (.tuple (Rw.ds (K7 nd 1000 r).v),ob W k')/\At W k' (K7 nd 1000 r).r:=by
 obtain⟨k',e,A'⟩:=bv4 S H 1000 r k [] hl (by grind) (by simp;grind) A hb h;refine#[k',F9 (ρ:=[Oa (.opq 0),[:.int d],Z]) (q:=[]) rfl ?_,A'];unfold aa0;exact(E4 (ρ':=[Oa (.opq 0),[:.int d],Oa (.own [])]) (q':=[ob W k]) rfl).trans ((E4 e).trans rfl)
def cR8{f g:UB}(h:f y q=Oa (true,q')):uOr f g y q=Oa (true,q'):=by unfold uOr;rw[h];rfl
def cH5{f g:UB}(h:f y q=Oa (false,q')):uOr f g y q=g y q':=by unfold uOr;rw[h];rfl
def ch6{d:Nat}{ρ:Rho}:uTP (tB2 eqD (!1) ⇑0) (Oa (.opq 0)::[:.int (d:Nat)]::ρ) q=Oa ((d:Int)==0,q):=ar1 (by
 show(A9 eqD (!1) ⇑0 (Z::[:.int (d:Nat)]::ρ.map cA6)).bind ad0=_
 rw[B5 (x:=.int (d:Nat)) (y:=.int 0) rfl rfl,aC8];rfl)
def bg3{d:Nat}{self:Nat->DF}(H:∀(r:La Str) (k d':Nat),d=d'+1->At W k r->(∀p∈r,Bw p)->r.length < 1000->(b=true\/(K7 (rdN<|rdI d') 1000 r).ok=true)->∃k',self 2 (ob W k) [Z,Oa (.int d')]=Oa (.tuple (Rw.ds (K7 (rdN<|rdI d') 1000 r).v),ob W k')/\At W k' (K7 (rdN<|rdI d') 1000 r).r)
  (A:At W k r) (hb:∀p∈r,Bw p) (hl:r.length<=1000) (h:b=true\/(rdI d r).ok=true):∃k',S6 (J7 b self) 3 (ob W k) [Z,Oa (.int d)]=Oa (inO (rdI d r).v,ob W k')/\At W k' (rdI d r).r:=by
 have raise:∀k':Nat,b=true->uOr (uTP<|tB2 eqD (!1) ⇑0) (uTB<|uB2 (hX (.bool true) neD) (uM0 0 false "take_word"<|C6 b) (uP !"[")) [Oa (.opq 0),[:.int d],Z] [ob W k]=Oa (true,[ob W k'])->S6 (J7 b self) 3 (ob W k) [Z,Oa (.int d)]=Oa (bad,ob W k'):=λk' eb e=>by
  subst eb;refine F9 (ρ:=[Oa (.opq 0),[:.int d],Z]) (q:=[]) rfl ?_;unfold J7;exact M3<|(bI9 e).trans rfl
 match d,r,A,hb,hl,h,H,raise with
 | 0,r,A,hb,hl,h,H,raise =>
  have hb1:b=true:=h.elim id λh=>nomatch h
  exact#[k,raise _ hb1<|cR8 (ch6 (d:=0)),A]
 | d+1,[],A,hb,hl,h,H,raise =>
  have hb1:b=true:=h.elim id λh=>nomatch h
  have z:(((d+1:Nat):Int)==0)=false:=beq_eq_false_iff_ne.mpr (by grind);have e:=ch6 (d:=d+1) (ρ:=[Z]) (q:=[ob W k]);rw[z]at e;refine#[k,raise _ hb1<|(cH5 e).trans (aE5<|ai2 (x:=bad) ?_ (ah3 rfl) rfl),A];subst hb1;rw[A.nil];exact tkb rfl rfl
 | d+1,w::r,A,hb,hl,h,H,raise =>
  have z:(((d+1:Nat):Int)==0)=false:=beq_eq_false_iff_ne.mpr (by grind);have e:=ch6 (d:=d+1) (ρ:=[Z]) (q:=[ob W k]);rw[z]at e;have n:hX (.bool true) neD (.str w) (.str "[")=Oa (.bool (!(w==("[":Str)))):=ae8 (hb w<|by simp).lay ∅ rfl;have t:=(cH5 (g:=uTB<|uB2 (hX (.bool true) neD) (uM0 0 false "take_word"<|C6 b) (uP !"[")) e).trans (aE5<|ai2 (tk (i:=0) (j:=0) (ρ:=[Oa (.opq 0),[:.int ((d+1:Nat):Int)],Z]) (q:=[ob W k]) rfl rfl A.e) (ah3 rfl) n);rw[rdI]at h |-;cases q:w==("[":Str) with
  | false =>
   rw[q]at t h;have hb1:b=true:=h.elim id λh=>nomatch h
   exact#[k+1,raise _ hb1 t,A.tl]
  | true =>
   rw[q]at t h;simp only[cond_true]at h |-;have o:b=true\/(K7 (rdN<|rdI d) 1000 r).ok=true/\(!(K7 (rdN<|rdI d) 1000 r).r.isEmpty)=true:=h.imp id λh=>(ae _ _).mp h
   obtain⟨k2,e2,A2⟩:=H _ _ d rfl A.tl (λp hp=>hb p<|xmm _ hp) (by rw[ag]at hl;grind)<|o.imp id λo=>o.1
   have s1:ak9 (.int ((d+1:Nat):Int)) (.int 1)=Oa (.int d):=by
    show Oa (fB<|((d+1:Nat):Int) - 1)=_;rw[show((d+1:Nat):Int) - 1=(d:Int) by grind]
   have kk:∃k3,uEx (uM0 0 false "take_word"<|C6 b) [Oa (.opq 0),[:.int ((d+1:Nat):Int)],[:.tuple (Rw.ds (K7 (rdN<|rdI d) 1000 r).v)]] [ob W k2]=Oa (.nx [Oa (.opq 0),[:.int ((d+1:Nat):Int)],[:.tuple (Rw.ds (K7 (rdN<|rdI d) 1000 r).v)]] [ob W k3])/\At W k3 (K7 (rdN<|rdI d) 1000 r).r.tail:=by
    generalize (K7 (rdN<|rdI d) 1000 r).r=rr at A2 o;cases rr with
    | nil =>
     obtain rfl:b=true:=o.elim id λo=>nomatch o.2
     refine#[k2,?_,A2];rw[A2.nil];exact bw2<|tkb rfl rfl
    | cons y rr=>exact#[k2+1,bw2<|tk (j:=0) rfl rfl A2.e,A2.tl]
   obtain⟨k3,e3,A3⟩:=kk;refine#[k3,F9 (ρ:=[Oa (.opq 0),[:.int ((d+1:Nat):Int)],Z]) (q:=[]) rfl ?_,A3];unfold J7;refine(E4<|(bp8 t).trans rfl).trans ((E4<|as0 (aE4 (j:=0) (ms:=[Z,Oa (.int d)]) rfl rfl ?_ e2) rfl).trans<|(E4 e3).trans rfl);show(mO<|mC (A9 ak9 (!1) ⇑1) mN) [Z,[:.int ((d+1:Nat):Int)],Z]=_;unfold mO mC mN;rw[B5 rfl rfl,s1];rfl
theorem rA:∀d:Nat,(∀{r k},At W k r->(∀p∈r,Bw p)->r.length<=1000->(b=true\/(rdI d r).ok=true)->∃k',G3 b (3*d+1) 0 (ob W k) [Z,Oa (.int d)]=Oa (inO (rdI d r).v,ob W k')/\At W k' (rdI d r).r)
  /\ (∀{r k},At W k r->(∀p∈r,Bw p)->r.length<=1000->(b=true\/(rdN (rdI d) r).ok=true)->∃k',G3 b (3*d+2) 1 (ob W k) [Z,Oa (.int d)]=Oa ((rdN (rdI d) r).v.d,ob W k')/\At W k' (rdN (rdI d) r).r)
  /\ (∀{r k},At W k r->(∀p∈r,Bw p)->r.length < 1000->(b=true\/(K7 (rdN<|rdI d) 1000 r).ok=true)->∃k',G3 b (3*d+3) 2 (ob W k) [Z,Oa (.int d)]=Oa (.tuple (Rw.ds (K7 (rdN<|rdI d) 1000 r).v),ob W k')/\At W k' (K7 (rdN<|rdI d) 1000 r).r):=λd=>by
 have I:∀{r k},At W k r->(∀p∈r,Bw p)->r.length<=1000->(b=true\/(rdI d r).ok=true)->∃k',G3 b (3*d+1) 0 (ob W k) [Z,Oa (.int d)]=Oa (inO (rdI d r).v,ob W k')/\At W k' (rdI d r).r:=by
  cases d with
  | zero=>exact λA hb hl h=>bg3 (self:=G3 b 0) (λr k d' e=>nomatch e) A hb hl h
  | succ d=>exact λA hb hl h=>bg3 (self:=G3 b (3*d+3)) (λr k d' e A hb hl h=>by cases e;exact(rA d).2.2 A hb hl h) A hb hl h
 have N:∀{r k},At W k r->(∀p∈r,Bw p)->r.length<=1000->(b=true\/(rdN (rdI d) r).ok=true)->∃k',G3 b (3*d+2) 1 (ob W k) [Z,Oa (.int d)]=Oa ((rdN (rdI d) r).v.d,ob W k')/\At W k' (rdN (rdI d) r).r:=λA hb hl h=>cn5 (self:=G3 b<|3*d+1) I A hb hl h
 exact#[I,N,λA hb hl h=>bS2 (self:=G3 b<|3*d+2) (av1<|ae5 d) N A hb hl h]
noncomputable def W7(s:Sr):Bool:=decide (0 < s.2)&&((decide (0<=s.1)&&decide (s.1<=s.2))&&bR s.1.toNat s.2.toNat==1)
def aL7(s:Sr):U8 [prD s]=Oa (.bool<|W7 s):=by
 refine C4 (ρ:=[[:prD s],Z,Z]) rfl ((B2 rfl).trans<|(B2 rfl).trans ((B2 rfl).trans<|(B2 rfl).trans (L0<|vA rfl λh1=>vA (ch rfl rfl rfl) λh2=>?_)));simp only[ae,decide_eq_true_eq]at h1 h2;have e:=cO8 s.1.toNat s.2.toNat;rw[show((s.1.toNat:Nat):Int)=s.1 by grind,show((s.2.toNat:Nat):Int)=s.2 by grind]at e;rw[B5 ((k2 rfl rfl).trans e) rfl,aC8]
 congr 2
 rw[bv,beq_iff_eq,beq_iff_eq];grind
abbrev Ba(s:Sr):Prop:=s.1.natAbs < 10 ^ 7/\s.2.natAbs < 10 ^ 7
def Bs.a(h:Bs s):Ba s:=#[by have:=h.1;omega,by have:=h.2;omega]
noncomputable def atM(x c:Sr):Bool:=decide (x.1*c.2<=c.1*x.2)
def sml{i:Int}(h:i.natAbs < 10 ^ 7):J0 i:=M9 (k:=30) (Nat.lt_trans h<|by decide) (by decide)
def cz8{x c:Sr}(hx:Ba x)(hc:Ba c):aa4 [prD x,prD c]=Oa (.bool<|atM x c):=by
 have m1:=ac5 (sml hx.1) (sml hc.2);have m2:=ac5 (sml hc.1) (sml hx.2);refine rX2 ?_
 exists evD,ao3,m1,m2,atM
def aR6(l:La Sr):Bool:=l.length==4&&(l.all W7&&l.tail.all λs=>atM s<|l.headD (0,0))
def cz6{l:La Sr}(hl:l.length<=1000)(hb:∀s∈l,Ba s):aq8 [spD l]=Oa (.bool<|aR6 l):=by
 refine rX1<|gd (tO1 rfl<|bi7 4 (f:=prD) rfl rfl) λh4=>gd (tN<|aA9 (h:=prD) (p:=W7) rfl rfl hl λs _=>(k1 rfl).trans<|aL7 s) λ_=>?_
 match l,h4,hb with
 | c::l,h4,hb =>
  have h4:(l.length+1==4)=true:=h4;simp only[beq_iff_eq]at h4;refine L0 (aA9 (l:=l) (h:=prD) (p:=λs=>atM s c) (r:=[[:spD (c::l)]]) rfl ?_ (by grind) λs hs=>(k2 rfl<|(W1 (q:=(true,prD c::l.map prD)) rfl rfl).trans (L4 (j:=0) rfl)).trans<|cz8 (hb s<|xmm _ hs) (hb c<|by simp));show Oa (Z0 (prD c::l.map prD) (Oa 1) Z)=_
  match l,h4 with
  | [x,y,z],_=>rfl
noncomputable def ok8(n:Int):Bool:=decide (1<=n)&&decide (n<=8)
def bJ0(n:Int):af8 [.int n]=Oa (.bool<|ok8 n):=rX1<|L0 (vA1 rfl<|ch rfl rfl rfl)
def bk2(w h:Int)(xs:La D):aa3 [.tuple [.int w,.int h,.tuple xs]]=Oa (.bool<|ok8 w&&ok8 h):=by refine rX1 ((B2 rfl).trans<|L0 (vA ((k1 rfl).trans<|bJ0 w) λ_=>(vA (x:=true) ((k1 rfl).trans<|bJ0 h) λ_=>rfl).trans<|by rw[cz]))
def at5(t:Sht):Bool:=ok8 t.1&&ok8 t.2.1&&((t.2.2.length:Int)==t.1*t.2.1&&t.2.2.all aR6)
structure Bt (t:Sht):Prop where
 l:t.2.2.length<=1000
 p:∀l∈t.2.2,l.length<=1000/\∀s∈l,Ba s
def ac3(h:ok8 n=true):1<=n/\n<=8:=by
 unfold ok8 at h;simpa only[ae,decide_eq_true_eq] using h
def bZ1{t:Sht}(h:Bt t):Z9 [T9 t]=Oa (.bool<|at5 t):=by
 refine C4 (ρ:=[[:T9 t],Z]) rfl (gd (tN<|(k1 rfl).trans (bk2 t.1 t.2.1<|t.2.2.map spD)) λq=>(B2 rfl).trans<|L0 (vA ?_ λ_=>aA9 (h:=spD) rfl rfl h.l λl hl=>(k1 rfl).trans<|cz6 (h.p l hl).1 (h.p l hl).2));rw[ae]at q;have a:=ac3 q.1;have b:=ac3 q.2;rw[B5 (x:=.int (t.2.2.map spD).length) rfl ((B5 rfl rfl).trans<|ay2 (sml<|by omega) (sml<|by omega)),aC8,ai]
def cM6:Z9 [bad]=Oa (.bool false):=by kernel_rfl
noncomputable def aC5(i:Int):Bool:=decide (-9<=i)&&decide (i<=9)
def cg2(i:Int):i7 [.int i]=Oa (.bool<|aC5 i):=rX1<|L0 (vA1 rfl<|ch rfl rfl rfl)
def aR7(m:Ob (La Sr))(t:Sht):Bool:=match m with
 | none=>true
 | some l=>l.length==t.2.2.length&&l.all W7
def cz9{m:Ob (La Sr)}(hm:∀l,m=Oa l->l.length<=1000){t:Sht}(h:Bt t):aq9 [mkD m,T9 t]=Oa (.bool<|aR7 m t):=by
 cases m with
 | none=>rfl
 | some l =>
  refine rX2 ((B2 rfl).trans<|gd (tO1 rfl<|w9 (y:=.int (l.map prD).length) (z:=.int (t.2.2.map spD).length) rfl rfl ?_) λ_=>L0<|aA9 (h:=prD) rfl rfl (hm l rfl) λs _=>(k1 rfl).trans<|aL7 s);rw[aS2,ai,ai]
  congr 3
  rw[bv,beq_iff_eq,beq_iff_eq];omega
noncomputable def ag4:La Str:=["over","multiply","screen","plus","atop","cut"]
noncomputable def ax2:La Str:=["turn","grey","round"]
def an2(neg:Bool){x:Str}(hx:fE (.str x)=true)(ys:La Str)(hy:PyData.canLayAll0 (sD ys)=true):inL neg (.str x) (.tuple<|sD ys)=Oa (.bool<|neg != ys.any λy=>y==x):=by
 show(if _ then _ else _)=_;rw[if_pos #[hx,hy,aA _],sD,List.any_map];rfl
def bi2{m:Str}(h:Bw m):inL true (.str m) (.tuple [.str "over", .str "multiply", .str "screen", .str "plus", .str "atop", .str "cut"])=Oa (.bool (!(ag4.any λy=>y==m))):=(an2 true h.lay ag4 ∅).trans (by rw[cM])
def cz1{m:Str}(h:Bw m):inL false (.str m) (.tuple [.str "turn", .str "grey", .str "round"])=Oa (.bool<|ax2.any λy=>y==m):=(an2 false h.lay ax2 ∅).trans (by rw[du])
def aZ6(m:Str):Bool:=ag4.any λy=>y==m
def aZ3:Ob Sht->Bool
 | none=>false
 | some st=>at5 st
def cM5(hs:∀st,sh=Oa st->Bt st):Z9 [shO sh]=Oa (.bool<|aZ3 sh):=by
 cases sh with
 | none=>exact cM6
 | some st=>exact bZ1<|hs st rfl
def ax9(m:Str)(l t:Int)(mk:Ob (La Sr))(sh:Ob Sht):Bool:=aZ6 m&&aZ3 sh&&(aC5 l&&(aC5 t&&aR7 mk (sh.getD (0,0,[]))))
def bZ2(hm:Bw m)(hk:∀l,mk=Oa l->l.length<=1000)(hs:∀st,sh=Oa st->Bt st):P6 [hdD "layer" n m s v [.int l,.int t,mkD mk,shO sh]]=Oa (.bool<|ax9 m l t mk sh):=by
 refine C4 (ρ:=[[:hdD "layer" n m s v [.int l,.int t,mkD mk,shO sh]]]) rfl (gd (tO1 rfl<|tO (w9 ((k1 rfl).trans<|L3 (j:=2) rfl) rfl<|bi2 hm) λ_=>tN<|(k1<|(k1 rfl).trans (L3 (j:=8) rfl)).trans (cM5 hs)) λq=>L0<|vA ((k1<|(k1 rfl).trans (L3 (j:=5) rfl)).trans<|cg2 l) λ_=>vA ((k1<|(k1 rfl).trans (L3 (j:=6) rfl)).trans<|cg2 t) λ_=>(k2 ((k1 rfl).trans<|L3 (j:=7) rfl)<|(k1 rfl).trans (L3 (j:=8) rfl)).trans ?_);cases sh with
 | none=>rw[aZ3,bq]at q;cases q
 | some st=>exact cz9 hk<|hs st rfl
noncomputable def lt(c:Nat):Bool:=decide (97<=c/\c<=122)
def ag3(w:Str):Bool:=decide ((1:Int)<=w.length)&&decide ((w.length:Int)<=6)&&(cl w).all lt
def cK0{f:DE}(h:Bw w)(hf:f y=Oa (.str w)):Y9 f y=Oa (.int w.length):=by
 have:=h.l;unfold Y9;rw[hf];exact if_pos (by omega)
def cz7(hw:Bw w):af9 [.str w]=Oa (.bool<|ag3 w):=by
 obtain⟨al,nc⟩:=aQ0 (x := "abcdefghijklmnopqrstuvwxyz") (p:=lt) ∅ hw;refine rX1 (L0<|vA1 rfl (vA (ch rfl (cK0 hw rfl) rfl) λ_=>?_));unfold aq1;rw[ac0 nc];show(aV7 _).map _=_;rw[al];rfl
def tO0{t u:Rho->Ob Bool}(h1:t y=Oa (!q))(h2:u y=Oa false):E1 t u y=Oa (!q):=by
 unfold E1;rw[h1];cases q
 .rfl
 .exact h2
def bb4{r:La D}{X:DS}(hn:Bw n)(H:(ag3 n&&W7 s)=true->X [[:hdD k n m s v r],[:d]]=Oa (.rt<|.bool x)):B3 (sIf (E1 (D3<|E7 (O9 "tuple" !0))<|tB2 ltI (F7<|B0 0) ⇑5) (B7<|dC (.bool false)) D6) (B3 (sIf (E1 (D3<|E7 (A7 af9 {A7 N3 {0}}))<|E1 (D3<|E7 (A7 U8 {A7 Q0 {0}})) (D3<|E7 (A7 ak8 {A7 Q9 {0}}))) (B7<|dC (.bool false)) D6) X) [[:hdD k n m s v r],[:d]]=Oa (.rt<|.bool (ag3 n&&W7 s&&x)):=by
 have l5:tB2 ltI (F7<|B0 0) ⇑5 [[:hdD k n m s v r],[:d]]=Oa false:=w9 (y:=.int (.str k :: .str n :: .str m::prD s :: .bool v::r:La D).length) rfl rfl (by rw[ba0,decide_eq_false];simp only[ag];grind);refine(B2 (ρ':=[[:hdD k n m s v r],[:d]]) ?_).trans (gd (tO (tN<|(k1<|(k1 rfl).trans (L3 (j:=1) rfl)).trans (cz7 hn)) λ_=>tO0 (tN<|(k1<|(k1 rfl).trans (L3 (j:=3) rfl)).trans (aL7 s))<|tN (q:=true) ((k1<|(k1 rfl).trans (L3 (j:=4) rfl)).trans rfl)) H);unfold sIf;rw[tO1 rfl l5];rfl
mutual
def Bn(c:Bool):Rw->Prop
 | .leaf k n m s _=>Bw k/\Bw n/\Bw m/\Ba s/\(k==("layer":Str))=false/\(k==("group":Str))=false
 | .lay n m s _ _ _ mk sh=>Bw n/\Bw m/\Ba s/\(∀l,mk=Oa l->l.length<=1000/\∀s∈l,Ba s)/\(∀st,sh=Oa st->Bt st)/\(c=true->sh.isSome=true)
 | .grp n m s _ ns=>Bw n/\Bw m/\Ba s/\ns.length<=1000/\Bns c ns
 | .grb n m _ _=>Bw n/\Bw m/\c=false
 | .bad=>c=false
def Bns(c:Bool):La Rw->Prop
 | []=>True
 | n::r=>Bn c n/\Bns c r
end
theorem ao1:∀{l:La Rw},Bns c l->∀n∈l,Bn c n
 | x::r,h,n,hn=>by
  rw[Bns]at h;rcases ao.mp hn with rfl|q
  .exact h.1
  .exact ao1 h.2 n q
mutual
def jN:Nat->Rw->Bool
 | _,.leaf k n m s _=>ag3 n&&W7 s&&(k==("tone":Str)&&ax2.any λy=>y==m)
 | _,.lay n m s _ l t mk sh=>ag3 n&&W7 s&&ax9 m l t mk sh
 | 0,.grp ..=>false
 | d+1,.grp n m s _ ns=>ag3 n&&W7 s&&(aZ6 m&&jNs d ns)
 | _,.grb ..=>false
 | _,.bad=>false
def jNs:Nat->La Rw->Bool
 | _,[]=>true
 | d,n::r=>jN d n&&jNs d r
end
theorem aL2:∀l:La Rw,jNs d l=l.all (jN d)
 | []=>by rw[jNs];rfl
 | n::r=>by rw[jNs,aL2 r];rfl
abbrev FJ:=B9
def ch4{d f:Nat}(H:∀n,Bn c n->FJ f 1 [n.d,.int d]=Oa (.bool<|jN d n)){ns:La Rw}(hl:ns.length<=1000)(hb:Bns c ns):FJ (f+1) 2 [.tuple (Rw.ds ns),.int d]=Oa (.bool<|jNs d ns):=by
 rw[u7,aL2];exact rX2<|L0 (vA1 rfl<|aA9 (h:=Rw.d) rfl rfl hl λn hn=>(k2 rfl rfl).trans<|H n (ao1 hb n hn))
def cM1{kk:Str}(hk:fE (.str kk)=true):aq7 [hdD kk n m s v r]=Oa (.bool<|kk==("tone":Str)):=by
 have e:S3 [hdD kk n m s v r]=Oa (.str kk):=L3 (j:=0) rfl;refine rX1 ?_
 exists evD,aH7,e,N8 hk (show fE (.str "tone")=true by decide +kernel) rfl
def s1(d:Nat):((d+1:Nat):Int) - 1=d:=by grind
def cg3{f d:Nat}{x:D}{q:Bool}(hm:Bw m)(H:∀d',d=d'+1->FJ f 2 [x,.int d']=Oa (.bool q)):FJ (f+1) 0 [hdD "group" n m s v [x],.int d]=Oa (.bool<|aZ6 m&&decide (d≠0)&&q):=by
 refine C4 (ρ:=[[:hdD "group" n m s v [x]],[:.int d]]) rfl<|gd (tO1 rfl<|tO (w9 ((k1 rfl).trans<|L3 (j:=2) rfl) rfl<|bi2 hm) λ_=>w9 rfl rfl ?_) λh=>L0 ?_
 .rw[aC8]
  congr 2
  rw[bv];simp
 .simp only[ae,decide_eq_true_eq]at h;obtain⟨d',rfl⟩:∃d',d=d'+1:=#[d - 1,by grind];exact(k2 ((k1 rfl).trans<|L3 (j:=5) rfl)<|((B5 rfl rfl).trans<|bx9 _ _).trans (by rw[s1])).trans (H d' rfl)
theorem hnf:∀(d:Nat) (n:Rw),Bn c n->FJ (3*d+2) 1 [n.d,.int d]=Oa (.bool<|jN d n):=by
 intro d;have go:∀{n m:Str}{s:Sr}{v:Bool}{x:D}{q:Bool},Bw n->FJ (3*d+1) 0 [hdD "group" n m s v [x],.int d]=Oa (.bool q)->FJ (3*d+2) 1 [hdD "group" n m s v [x],.int d]=Oa (.bool<|ag3 n&&W7 s&&q):=λ{n m s v x q} hn e=>C4 (ρ:=[[:hdD "group" n m s v [x]],[:.int d]]) rfl (bb4 hn λ_=>(B2<|R9 (X0 rfl (aa8 ∅).1)).trans<|P3 ((Y3<|X0 rfl (aa8 ∅).2).trans<|L0 ((k2 rfl rfl).trans e)))
 intro n b
 match n,b with
 | .bad,_=>rw[Rw.d,jN];exact rX2 rfl
 | .leaf k n m s v,b =>
  rw[Bn]at b;obtain⟨bk,bn,bm,_,k1',k2'⟩:=b;obtain⟨y1,y2⟩:=aa8 (kk:=k) (n:=n) (m:=m) (s:=s) (v:=v) (r:=[]) bk.lay;rw[k1']at y1;rw[k2']at y2;rw[Rw.d,jN];exact rX2<|bb4 bn λ_=>(B2<|R9 (X0 rfl y1)).trans<|(B2<|R9 (X0 rfl y2)).trans (L0<|vA ((Lk91.k1 rfl).trans<|cM1 bk.lay) λ_=>vA1 rfl<|(B5 ((Lk91.k1 rfl).trans<|L3 (j:=2) rfl) rfl).trans (cz1 bm))
 | .lay n m s v l t mk sh,b =>
  rw[Bn]at b;obtain⟨bn,bm,_,b1,b2,_⟩:=b;rw[Rw.d,jN];exact C4 (ρ:=[[:hdD "layer" n m s v [.int l,.int t,mkD mk,shO sh]],[:.int d]]) rfl (bb4 bn λ_=>P3<|(Y3<|X0 rfl (aa8 ∅).1).trans (L0<|(Lk91.k1 rfl).trans (bZ2 bm (λl hl=>(b1 l hl).1) b2)))
 | .grb n m s v,b =>
  rw[Bn]at b
  rw[Rw.d,jN,go b.1 (cg3 (d:=d) (f:=3*d) (q:=false) b.2.1 λd' e=>by
   subst e
   exact rX2 rfl),bq,bq]
 | .grp n m s v ns,b =>
  rw[Bn]at b;obtain⟨bn,bm,_,bl,bs⟩:=b;rw[Rw.d];have e:=λq H=>go (n:=n) (s:=s) (v:=v) bn<|cg3 (d:=d) (f:=3*d) (x:=.tuple<|Rw.ds ns) (q:=q) (n:=n) (s:=s) (v:=v) bm H
  cases d with
  | zero =>
   rw[e false λd' e=>nomatch e];simp[jN]
  | succ d =>
   rw[e (jNs d ns) λd' e=>by cases e;exact ch4 (f:=3*d+2) (hnf d) bl bs,jN];simp
mutual
noncomputable def al:Rw->La Rw
 | .grp n m s v ns=>.grp n m s v ns::als ns
 | n=>[n]
noncomputable def als:La Rw->La Rw
 | []=>[]
 | n::r=>al n++als r
end
noncomputable def Rw.nm:Rw->Str
 | .leaf _ n ..=>n
 | .lay n ..=>n
 | .grp n ..=>n
 | .grb n ..=>n
 | .bad => ""
abbrev nms(l:La Rw):La Str:=(als l).map Rw.nm
def okU(l:La Rw):Bool:=(ddS<|nms l).length==(nms l).length
def cJ1(b:Bn c n)(j:jN d n=true):N3 [n.d]=Oa (.str n.nm)/\((J8 [n.d]=Oa (.bool false)/\al n=[n])\/∃a m s v ns d',n=.grp a m s v ns/\d=d'+1/\Bns c ns/\jNs d' ns=true/\J8 [n.d]=Oa (.bool true)/\K9 [n.d]=Oa (.tuple<|Rw.ds ns)):=by
 cases n with
 | bad=>simp[jN]at j
 | grb=>simp[jN]at j
 | leaf k a m s v =>
  rw[Bn]at b;have y:=(aa8 (n:=a) (m:=m) (s:=s) (v:=v) (r:=[]) b.1.lay).2;rw[b.2.2.2.2.2]at y;rw[Rw.d];exact#[L3 (j:=1) rfl,.inl #[y,by rw[al];exact λ_ _ _ _ _=>nofun]]
 | lay a m s v l t mk sh =>
  rw[Rw.d];exact#[L3 (j:=1) rfl,.inl #[(aa8 ∅).2,by rw[al];exact λ_ _ _ _ _=>nofun]]
 | grp a m s v ns =>
  rw[Bn]at b;cases d with
  | zero=>simp[jN]at j
  | succ d =>
   rw[jN]at j;simp only[ae]at j;rw[Rw.d];exact#[L3 (j:=1) rfl,.inr #[a,m,s,v,ns,d,rfl,rfl,b.2.2.2.2,j.2.2,(aa8 ∅).2,L3 (j:=5) rfl]]
def nbd(f:La D->Ob D):DS:=B3 (N5 1<|A7 N3 {2})<|sIf (E7<|A7 J8 {2}) (aJ1 1<|A7 f {A7 K9 {2}}) D6
theorem ce4{f:La D->Ob D}{a0:Ob B}(H:∀d' ns,d=d'+1->Bns c ns->jNs d' ns=true->(als ns).length<=4000->f [.tuple (Rw.ds ns)]=Oa (.list<|sD (nms ns))):∀(l:La Rw) (X:La D) (a2:Ob B),Bns c l->jNs d l=true->X.length+(als l).length<=4000->∃b2,m7 (D1 2) (nbd f) (Rw.ds l) [a0,Oa (.own X),a2]=Oa (.nx [a0,Oa (.own<|X++sD (nms l)),b2])
 | [],X,a2,_,_,_=>#[a2,by rw[Rw.ds,nms,als,xmn,sD,xmn,ar];rfl]
 | n::r,X,a2,b,j,hl=>by
  rw[Bns]at b;rw[jNs,ae]at j;rw[als,aj]at hl;obtain⟨e1,e2⟩:=cJ1 b.1 j.1
  have step:nbd f [a0,Oa (.own X),[:n.d]]=Oa (.nx [a0,Oa (.own<|X++sD ((al n).map Rw.nm)),[:n.d]]):=by
   have x1:N5 1 (A7 N3 {2}) [a0,Oa (.own X),[:n.d]]=Oa (.nx [a0,Oa (.own<|X++[.str n.nm]),[:n.d]]):=by exists evD,N5,e1,if_pos (show X.length < 16777216 by grind)
   unfold nbd;refine(B2 x1).trans ?_;rcases e2 with⟨g,e⟩|⟨a,m,s,v,ns,d',rfl,rfl,bs,js,g,e⟩
   .exists evD,g,e,sD,xmc,xmn
   .rw[al,ag]at hl;have h:=H d' ns rfl bs js (by grind);have z:(X++[fD (Rw.grp a m s v ns).nm]).length+(sD<|nms ns).length<=16777216:=by simp;grind
    exists evD,aJ1,g,e,h,if_pos z
    rw[al,xmc,sD,sD,xmc,au];rfl
  obtain⟨b2,i⟩:=ce4 H r (X++sD ((al n).map Rw.nm)) ([:n.d]) b.2 j.2 (by simp;grind);refine#[b2,?_];rw[Rw.ds,nms,als,aO,sD,aO,<- au];unfold m7;show(nbd f [a0,Oa (.own X),[:n.d]]).bind _=_;rw[step];exact i
theorem ce7:∀(d f:Nat) (ns:La Rw),d+1<=f->Bns c ns->jNs d ns=true->(als ns).length<=4000->Q2 f [.tuple (Rw.ds ns)]=Oa (.list<|sD (nms ns))
 | d,0,_,h,_,_,_=>absurd h (by grind)
 | d,f+1,ns,h,b,j,l=>by
  obtain⟨b2,lp⟩:=ce4 (f:=Q2 f) (a0:=[:.tuple (Rw.ds ns)]) (λd' ns e b j l=>ce7 d' f ns (by grind) b j l) ns [] Z b j (by simpa using l);refine C4 (ρ:=[[:.tuple (Rw.ds ns)],Z,Z]) rfl ?_;unfold ai3;exact(B2 (ρ':=[[:.tuple (Rw.ds ns)],Oa (.own []),Z]) rfl).trans ((B2 lp).trans rfl)
def cf1{f:Rho->Ob (Bool×La D)}{y:Rho}{ys:La Str}(h:f y=Oa (false,sD ys))(hl:ys.length<=4000):A9 eqD (v7 f) (F7 f) y=Oa (.bool<|(ddS ys).length==ys.length):=by
 have a:v7 f y=Oa (.int (ddS ys).length):=by
  unfold v7;rw[h,xbs];show(if false=true then Z else _)=_;rw[if_neg (by decide),aI2,xbs,if_pos hl]
 have b:F7 f y=Oa (.int ys.length):=by
  unfold F7;rw[h];show Oa (fB (sD ys).length)=_;rw[ai]
 rw[B5 a b,aC8]
 congr 2
 rw[bv,beq_iff_eq,beq_iff_eq];grind
def cD2{ns:La Rw}(hb:Bns c ns)(j:jNs 3 ns=true)(l:(als ns).length<=4000):R4 [.tuple (Rw.ds ns)]=Oa (.bool<|okU ns):=by
 have e:=ce7 3 12 ns (by decide) hb j l;refine C4 (ρ:=[[:.tuple (Rw.ds ns)],Z]) rfl ?_;unfold Z5;refine(B2 (ρ':=[[:.tuple (Rw.ds ns)],[:.list (sD<|nms ns)]]) (by exists evD,e)).trans ?_;unfold B7;rw[cf1 (ys:=nms ns) rfl (by rw[ai];exact l)];rfl
structure Bp (c:Bool) (p:Pc):Prop where
 w:p.w.natAbs < 10 ^ 7
 h:p.h.natAbs < 10 ^ 7
 l:p.ns.length<=1000
 b:Bns c p.ns
 n:(nws p.ns).length<=2000
def jP(p:Pc):Bool:=ok8 p.w&&ok8 p.h&&(jNs 3 p.ns&&okU p.ns)
mutual
theorem cO5:∀(n:Rw) (d:Nat),jN d n=true->5*(al n).length<=(nw n).length
 | .bad,_,j=>by simp[jN]at j
 | .grb ..,_,j=>by simp[jN]at j
 | .leaf ..,_,_=>by rw[nw];simp[al,hdW]
 | .lay n m s v l t mk Z,_,j=>by simp[jN,ax9,aZ3]at j
 | .lay n m s v l t mk (Oa sh),_,_=>by rw[nw];simp[al,hdW]
 | .grp n m s v ns,0,j=>by simp[jN]at j
 | .grp n m s v ns,d+1,j=>by
  rw[jN]at j;simp only[ae]at j;have:=als_nw ns d j.2.2;rw[nw,al];simp[hdW];grind
theorem als_nw:∀(l:La Rw) (d:Nat),jNs d l=true->5*(als l).length<=(nws l).length
 | [],_,_=>by rw[als];simp
 | n::r,d,j=>by
  rw[jNs,ae]at j;have h1:=cO5 n d j.1;have h2:=als_nw r d j.2;rw[als,nws,aj,aj];grind
end
def cz2(b:Bp c p):Y0 [p.d]=Oa (.bool<|jP p):=by
 refine rX1 (L0<|vA ((k1 rfl).trans<|bk2 p.w p.h (Rw.ds p.ns)) λ_=>vA ((k2 rfl rfl).trans<|ch4 (f:=11) (d:=3) (hnf 3) b.l b.b) λq=>(k1 rfl).trans<|cD2 b.b q ?_);have:=als_nw _ _ q;have:=b.n
 grind
def bC9(h:ag3 n=true):Wd n:=by
 unfold ag3 at h;simp only[ae,decide_eq_true_eq,ay]at h;refine#[λc hc=>?_,by grind];have:97<=c/\c<=122:=of_decide_eq_true (h.2 c hc);exact#[by grind,this.2]
def bi6:∀y∈ag4++ax2,((cl y).all (λc=>decide (33<=c/\c<=122))&&decide (y.length<=1600))=true:=∅
def bN0{l:La Str}(h:(l.any λy=>y==m)=true):m∈l:=by
 obtain⟨y,hy,e⟩:=List.any_eq_true.mp h;rw[<- beq_iff_eq.mp e];exact hy
def bD7(h:aZ6 m=true):Wd m:=ah2<|bi6 m (aS _<|bN0 h)
def cn2(h:(ax2.any λy=>y==m)=true):Wd m:=ah2<|bi6 m (aw _<|bN0 h)
def ar6(h:W7 s=true)(b:Ba s):Bs s:=by
 unfold W7 at h;simp only[ae,decide_eq_true_eq]at h;have:=b.1;have:=b.2;exact#[#[h.2.1.1,by grind],#[by grind,by grind]]
def aZ2(h:aR6 l=true):l.length=4/\∀s∈l,W7 s=true:=by
 unfold aR6 at h;simp only[ae,beq_iff_eq,ay]at h;exact#[h.1,h.2.1]
def by3{t:Sht}(h:at5 t=true):(1<=t.1/\t.1<=8)/\(1<=t.2.1/\t.2.1<=8)/\(t.2.2.length:Int)=t.1*t.2.1/\t.2.2.length<=64/\∀l∈t.2.2,aR6 l=true:=by
 unfold at5 at h;simp only[ae,beq_iff_eq,ay]at h;obtain⟨⟨h1,h2⟩,h3,h4⟩:=h;have a:=ac3 h1;have b:=ac3 h2;have m:t.1*t.2.1<=8*8:=Int.mul_le_mul a.2 b.2 (by grind) (by decide);exact#[a,b,h3,by grind,h4]
def cF6{t:Sht}(h:at5 t=true)(b:Bt t):Wt t:=by
 obtain⟨h1,h2,_,h4,h5⟩:=by3 h;exact#[#[by omega,by omega],#[by omega,by omega],by omega,λl hl=>#[dS (aZ2<|h5 l hl).1,λs hs=>ar6 ((aZ2<|h5 l hl).2 s hs)<|(b.p l hl).2 s hs]]
def ce9(h:ax9 m l t mk (Oa sh)=true)(hk:∀l,mk=Oa l->l.length<=1000/\∀s∈l,Ba s)(b:Bt sh):aZ6 m=true/\at5 sh=true/\(∀ms,mk=Oa ms->ms.length<=64/\ms.all W7=true)/\GL l t mk sh:=by
 unfold ax9 aC5 at h;simp only[ae,decide_eq_true_eq]at h;obtain⟨⟨h1,h2⟩,⟨h3,h4⟩,⟨h5,h6⟩,h7⟩:=h;have h2:at5 sh=true:=h2;have h7:aR7 mk sh=true:=h7;have h64:=(by3 h2).2.2.2.1
 have mm:∀ms,mk=Oa ms->ms.length<=64/\ms.all W7=true:=λms e=>by
  subst e;unfold aR7 at h7;simp only[ae,beq_iff_eq]at h7;exact#[by grind,h7.2]
 exact#[h1,h2,mm,by grind,by grind,λms e=>#[by have:=(mm ms e).1;grind,λs hs=>ar6 (ay.mp (mm ms e).2 s hs)<|(hk ms e).2 s hs],cF6 h2 b]
mutual
theorem cN0:∀(n:Rw) (d:Nat),jN d n=true->Bn c n->Gw n/\n.dp<=d
 | .bad,_,j,_=>by simp[jN]at j
 | .grb ..,_,j,_=>by simp[jN]at j
 | .leaf k n m s v,d,j,b=>by
  rw[jN]at j;rw[Bn]at b;simp only[ae,beq_iff_eq]at j;obtain⟨⟨j1,j2⟩,rfl,j4⟩:=j;rw[Gw,Rw.dp.eq_def];exact#[#[ah2 ∅,#[bC9 j1,cn2 j4,ar6 j2 b.2.2.2.1],b.2.2.2.2.1,b.2.2.2.2.2],aA _]
 | .lay n m s v l t mk Z,_,j,_=>by simp[jN,ax9,aZ3]at j
 | .lay n m s v l t mk (Oa sh),d,j,b=>by
  rw[jN]at j;rw[Bn]at b;simp only[ae]at j;obtain⟨y1,_,_,y2⟩:=ce9 j.2 b.2.2.2.1 (b.2.2.2.2.1 sh rfl);rw[Gw,Rw.dp.eq_def];exact#[#[#[bC9 j.1.1,bD7 y1,ar6 j.1.2 b.2.2.1],y2],aA _]
 | .grp n m s v ns,0,j,_=>by simp[jN]at j
 | .grp n m s v ns,d+1,j,b=>by
  rw[jN]at j;rw[Bn]at b;simp only[ae]at j;have i:=gws_of ns d j.2.2 b.2.2.2.2;rw[Gw,Rw.dp];exact#[#[#[bC9 j.1.1,bD7 j.2.1,ar6 j.1.2 b.2.2.1],i.1],ck i.2]
theorem gws_of:∀(l:La Rw) (d:Nat),jNs d l=true->Bns c l->Gws l/\Rw.dps l<=d
 | [],_,_,_=>by rw[Gws,Rw.dps];exact#[trivial,aA _]
 | n::r,d,j,b=>by
  rw[jNs,ae]at j;rw[Bns]at b;have h1:=cN0 n d j.1 b.1;have h2:=gws_of r d j.2 b.2;rw[Gws,Rw.dps];exact#[#[h1.1,h2.1],Nat.max_le.mpr #[h1.2,h2.2]]
end
def bJ7(b:Bp c p)(h:jP p=true):Gp p:=by
 unfold jP at h;simp only[ae]at h;have h1:=ac3 h.1.1;have h2:=ac3 h.1.2;have g:=gws_of p.ns 3 h.2.1 b.b;exact#[#[by omega,by omega],#[by omega,by omega],g.1,by have:=b.n;omega,by have:=g.2;omega]
def Q(r:La Str)(n:Rw)(r':La Str):Prop:=Bn false n/\(nw n).length+2*r'.length<=2*r.length
def Qz(r:La Str)(ns:La Rw)(r':La Str):Prop:=Bns false ns/\(nws ns).length+2*r'.length<=2*r.length/\ns.length+r'.length<=r.length
def aQ1(h:Bw w):Ba (share w):=(bz2 h).a
def bz0(h:Bw w)(c:Nat):((ws w c).map share).length<=1000/\∀s∈(ws w c).map share,Ba s:=by
 obtain⟨h1,h2⟩:=T0 h c;refine#[by rw[ai];exact h2,λs hs=>?_];obtain⟨p,hp,rfl⟩:=aV.mp hs;exact aQ1<|h1 p hp
def bW3(h:Bw w):∀l,mask w=Oa l->l.length<=1000/\∀s∈l,Ba s:=λl e=>by
 unfold mask at e;cases q:w==(".":Str) with
 | true=>rw[q]at e;cases e
 | false =>
  rw[q]at e;cases e;exact bz0 h 44
def bz1{r:La Str}(hb:∀p∈r,Bw p)(hl:r.length<=1000):∀st,sheet r=Oa st->Bt st/\1+st.2.2.length+(r.drop<|shN r).length<=r.length:=λst e=>by
 cases r with
 | nil=>cases e
 | cons z r =>
  rw[show sheet (z::r)=if zM z<=r.length then Oa (((zN z).1:Int),((zN z).2:Int),(r.take<|zM z).map spot) else Z from rfl]at e;split at e
  .rename_i q;cases e;rw[ag]at hl;refine#[#[?_,λl hl=>?_],?_]
   .show((r.take<|zM z).map spot).length<=1000;rw[ai,aW];grind
   .obtain⟨p,hp,rfl⟩:=aV.mp hl;exact bz0 (hb p<|xmm _ ((cA _ _).subset hp)) 58
   .show 1+((r.take<|zM z).map spot).length+((z::r).drop<|1+min (zM z) r.length).length<=_;rw[ai,aW,bc,ag];grind
  .cases e
def cm1(r:La Str):r.tail.length=r.length - 1:=dR
def cd4{inn:La Str->Rd (Ob<|La Rw)}(H:∀r ns,(∀p∈r,Bw p)->r.length<=1000->(inn r).v=Oa ns->Qz r ns (inn r).r)(S:∀r,(inn r).r <:+ r):∀r,(∀p∈r,Bw p)->r.length<=1000->Q r (rdN inn r).v (rdN inn r).r:=by
 intro r hb hl;have short:Q r .bad []:=#[by rw[Bn],by rw[nw];simp]
 match r,hb,hl,short with
 | [],_,_,h=>exact h
 | [_],_,_,h=>exact h
 | [_,_],_,_,h=>exact h
 | [_,_,_],_,_,h=>exact h
 | k::n::m::s::r,hb,hl,_ =>
  have bk:=hb k (by simp);have bn:=hb n (by simp);have bm:=hb m (by simp);have bs:=aQ1 (hb s<|by simp);have bt:∀p∈r.tail,Bw p:=λp hp=>hb p (by simp[List.mem_of_mem_tail hp])
  have tl:=cm1 r;simp only[ag]at hl;rw[aY5];cases q1:k==("layer":Str) with
  | true =>
   rw[cond_true];unfold ndL
   match e:r.tail,bt with
   | [],_=>exact#[by show Bn false .bad;rw[Bn],by show(nw .bad).length+0<=_;rw[nw];simp]
   | [_],_=>exact#[by show Bn false .bad;rw[Bn],by show(nw .bad).length+0<=_;rw[nw];simp]
   | [_,_],_=>exact#[by show Bn false .bad;rw[Bn],by show(nw .bad).length+0<=_;rw[nw];simp]
   | l::t::x::y,bt =>
    rw[e]at tl;simp only[ag]at tl;have st:=bz1 (r:=y) (λp hp=>bt p<|by simp[hp]) (by grind);refine#[?_,?_]
    .show Bn false (.lay n m (share s) (pv r) (off l) (off t) (mask x)<|sheet y);rw[Bn];exact#[bn,bm,bs,bW3 (bt x<|by simp),λs e=>(st s e).1,λe=>nomatch e]
    .show(nw<|.lay n m (share s) (pv r) (off l) (off t) (mask x) (sheet y)).length+2*(y.drop<|shN y).length<=2*(r.length+1+1+1+1);cases e2:sheet y with
     | none=>rw[nw,bc,aU];grind
     | some st' =>
      have:=(st st' e2).2;rw[nw];simp only[hdW,lyW,wt,aj,ag,aU,ai]
      grind
  | false =>
   rw[cond_false];cases q2:k==("group":Str) with
   | true =>
    rw[cond_true];have sl:=(S r.tail).length_le;unfold ndG;cases e:(inn r.tail).v with
    | none=>exact#[by show Bn false (.grb ..);rw[Bn];exact#[bn,bm,rfl],by show(nw<|.grb ..).length+2*(inn r.tail).r.length<=2*(r.length+1+1+1+1);rw[nw,aU];grind]
    | some ns =>
     obtain⟨h1,h2,h3⟩:=H _ _ bt (by grind) e;refine#[?_,?_]
     .show Bn false (.grp n m (share s) (pv r) ns);rw[Bn];exact#[bn,bm,bs,by grind,h1]
     .show(nw<|.grp n m (share s) (pv r) ns).length+2*(inn r.tail).r.length<=2*(r.length+1+1+1+1);rw[nw];simp only[hdW,aj,ag,aU]
      grind
   | false =>
    rw[cond_false];refine#[?_,?_]
    .show Bn false (.leaf k n m (share s)<|pv r);rw[Bn];exact#[bk,bn,bm,bs,q1,q2]
    .show(nw<|.leaf k n m (share s) (pv r)).length+2*r.tail.length<=2*(r.length+1+1+1+1);rw[nw];simp only[hdW,ag,aU]
     grind
theorem aY4{nd:La Str->Rd Rw}(S:∀r,(nd r).r <:+ r.tail)(H:∀r,(∀p∈r,Bw p)->r.length<=1000->Q r (nd r).v (nd r).r):∀(j:Nat) (r:La Str),(∀p∈r,Bw p)->r.length<=1000->Qz r (K7 nd j r).v (K7 nd j r).r
 | 0,r,_,_=>#[by rw[K7,Bns];trivial,by rw[K7,nws];simp,by simp[K7]]
 | _+1,[],_,_=>#[by rw[K7,Bns];trivial,by rw[K7,nws];simp,by simp[K7]]
 | j+1,w::r,hb,hl=>by
  rw[K7];cases w==("]":Str) with
  | true=>exact#[by show Bns false [];rw[Bns];trivial,by show(nws []).length+_<=_;rw[nws];simp,by simp]
  | false =>
   rw[cond_false];have q:=H (w::r) hb hl;have s:(nd (w::r)).r <:+ r:=S (w::r);have sl:=s.length_le;rw[ag]at hl;have i:=aY4 S H j (nd (w::r)).r (λp hp=>hb p<|xmm _ (s.subset hp)) (by grind);refine#[?_,?_,?_]
   .rw[Bns];exact#[q.1,i.1]
   .have:=q.2;have:=i.2.1;rw[nws,aj];dsimp only
    grind
   .have:=i.2.2;rw[ag,ag];dsimp only
    grind
theorem cd5:∀(d:Nat) (r:La Str) (ns:La Rw),(∀p∈r,Bw p)->r.length<=1000->(rdI d r).v=Oa ns->Qz r ns (rdI d r).r
 | 0,r,ns,_,_,e=>by cases e
 | _+1,[],ns,_,_,e=>by cases e
 | d+1,w::r,ns,hb,hl,e=>by
  rw[rdI]at e |-;cases q:w==("[":Str) with
  | false=>rw[q]at e;cases e
  | true =>
   rw[q,cond_true]at e;rw[cond_true];cases e;have i:=aY4 (av1<|ae5 d) (cd4 (cd5 d)<|ae5 d) 1000 r (λp hp=>hb p<|xmm _ hp) (by rw[ag]at hl;grind);refine#[i.1,?_,?_]
   .have:=i.2.1;rw[ag,dR];grind
   .have:=i.2.2;rw[ag,dR];grind
structure Tx (t:Str):Prop where
 a:∀c∈cl t,c < 128
 l:t.length<=9000
 w:∀p∈ws t 32,Bw p
 n:(ws t 32).length<=999
def Tx.s(h:Tx t):txS t (sg 32)=Oa (.list<|sD (ws t 32)):=by
 have:=h.n;have:=h.l;unfold txS;rw[if_pos #[show(1:Nat)≠0 by decide,by omega,by show(ws t 32).length<=_;omega]]
def bv1{ρ:Rho}{x:Str}{ws:La Str}(h1:A6 0 ρ=Oa (.str x))(h2:txS x (sg 32)=Oa (.list<|sD ws)):aS0 false x9 {0} ρ=Oa (ob ws 0):=by
 have e:x9 #[false,[]] [Z,Oa (.str x)]=Oa (.none,ob ws 0):=by
  refine bz8 (ρ:=[Oa (.opq 0),[:.str x]]) (q:=[]) rfl ?_;unfold ad6;refine(E4 (ρ':=[Oa (.opq 0),[:.str x]]) (q':=[#[false,[("words", .frz (.list<|sD ws))]]]) ?_).trans rfl;unfold aw3 uP;rw[bl_,aw5 (a:=x) (y:=sg 32) rfl rfl,h2];rfl
 unfold aS0 A0;rw[h1];show((x9 #[false,[]] [Z,Oa (.str x)]).bind _)=_;rw[e];rfl
abbrev rdR(r:La Str):Rd (La Rw):=K7 (rdN<|rdI 3) 1000 r
def rP(t:Str):Pc:=#[(size<|(ws t 32).headD "").1,(size<|(ws t 32).headD "").2,(rdR (ws t 32).tail).v]
def okR(t:Str):Bool:=okZ ((ws t 32).headD "")&&(rdR (ws t 32).tail).ok
def au7(t:Str)(c:Nat):∃w r,ws t c=w::r:=List.exists_cons_of_ne_nil (k7 t c).2.2
def bg6(h:Tx t):Bp false (rP t):=by
 obtain⟨w,r,e⟩:=au7 t 32;have hw:=h.w;have hn:=h.n;rw[e]at hw hn;rw[ag]at hn;obtain⟨z1,z2⟩:=cb8 (hw w<|by simp);have q:=aY4 (av1<|ae5 3) (cd4 (cd5 3)<|ae5 3) 1000 r (λp hp=>hw p<|xmm _ hp) (by omega);unfold rP;rw[e];exact#[by show((zN w).1:Int).natAbs < _;omega,by show((zN w).2:Int).natAbs < _;omega,aI (cK _ _) (aI q.2.2<|by omega),q.1,aI (cK _ _)<|aI q.2.1 (by omega)]
def bi3{x y:Str}(h:fE (.str x)=true)(h2:fE (.str y)=true):neD (.str x) (.str y)=Oa (.bool (!(x==y))):=by
 cases q:x==y with
 | true=>exact ae8 h h2 (by rw[q])
 | false=>exact ae8 h h2 (by rw[q])
def Gp.lay(g:Gp p):fE (.str p.t)=true:=ay5 (p:=λc=>c < 128) (Al.gl (by decide) λw hw=>(g.wd w hw).1.imp λc h=>by omega) λc h=>by omega
def Tx.lay(h:Tx t):fE (.str t)=true:=ay5 (p:=λc=>c < 128) h.a λc h=>by omega
def ab3(p:Pc)(t:Str):Bool:=jP p&&p.t==t
def bx2{f g F:FnD}(b:Bp c p)(h:Tx t)(h1:f [p.d]=Oa (.bool<|jP p))(h2:∀g',Gp p->g'=g->g' [p.d]=Oa (.str p.t)){e x:DE}{ρ:Rho}(he:e ρ=Oa p.d)(hx:x ρ=Oa (.str t)):E1 (D3<|E7 (A7 f {(e)})) (tB2 neD (A7 g {(e)}) x) ρ=Oa (!ab3 p t):=by
 unfold ab3;cases q:jP p with
 | false =>
  rw[q]at h1
  exists evD,he,h1,ce,xnf
 | true =>
  rw[q]at h1;have gp:=bJ7 b q
  exists evD,he,h1,hx,h2 g gp rfl,bi3 gp.lay h.lay,bS
def aQ7(h:Tx t)(hb:b=true\/okR t=true)(hg:b=true\/ab3 (rP t) t=true):T3 b [.str t]=Oa (bif ab3 (rP t) t then(rP t).d else bad):=by
 obtain⟨w,r,e⟩:=au7 t 32;have bp:=bg6 h;have hw:=h.w;have hn:=h.n;have A:At (ws t 32) 0 (w::r):=#[e,aA _];have z:okR t=(okZ w&&(rdR r).ok):=by unfold okR;rw[e];rfl
 have ep:rP t=#[(size w).1,(size w).2,(rdR r).v]:=by unfold rP;rw[e];rfl
 rw[e]at hw hn;rw[ag]at hn;rw[z,ae]at hb;obtain⟨k',eN,_⟩:=(rA (W:=ws t 32) (b:=b) 3).2.2 A.tl (λp hp=>hw p<|xmm _ hp) (by omega) (hb.imp id λh=>h.2);have eN:P0 b 12 (ob (ws t 32)<|0+1) [Z,Oa (.int 3)]=Oa (.tuple (Rw.ds (rdR r).v),ob (ws t 32) k'):=eN;have sz:=bg2 (b:=b) (hw w<|by simp) (hb.imp id λh=>h.1);have wo:=bv1 (ρ:=[[:.str t],Z,Z,Z]) rfl h.s;have ts:=bx2 (f:=Y0) (g:=K2) (F:=K2) bp h (cz2 bp) (λg' gp eg=>by rw[eg];exact aw1 gp) (e:=A6 3) (x:=A6 0) (ρ:=[[:.str t],Z,[:prD (size w)],Oa (.val (rP t).d)]) rfl rfl
 have u:uB2 (hX bad B4) (uP !2) (ag0<|ulC (uD 1 (P0 b 12)<|mO (mC ⇑3 mN)) ulN) [[:.str t],Oa (.opq 0),[:prD (size w)],Z] [ob (ws t 32) (0+1)]=Oa ((rP t).d,[ob (ws t 32) k']):=by
  refine ai2 (ah3 rfl) (y:=.tuple [.tuple (Rw.ds (rdR r).v)]) (q2:=[ob (ws t 32) k']) ?_ ?_
  .unfold ag0 ulC;rw[aE4 (j:=0) (ms:=[Z,Oa (.int 3)]) rfl rfl rfl eN];rfl
  .rw[ep];rfl
 have pre:∀{g:UX},N9 (bw6 1<|aS0 false x9 {0}) (N9 (kz b bad 2<|O0 (S1 b) (ulC (uM0 1 false "take_word"<|C6 b) ulN))<|N9 (kz b bad 3<|uB2 (hX bad B4) (uP !2) (ag0<|ulC (uD 1 (P0 b 12)<|mO (mC ⇑3 mN)) ulN)) g) [[:.str t],Z,Z,Z] []=g [[:.str t],Oa (.opq 0),[:prD (size w)],Oa (.val (rP t).d)] [ob (ws t 32) k']:=λ{g}=>by
  refine(E4 (ρ':=[[:.str t],Oa (.opq 0),Z,Z]) (q':=[ob (ws t 32) 0]) ?_).trans ?_
  .unfold bw6;show(aS0 false x9 {0} [[:.str t],Z,Z,Z]).map _=_;rw[wo];rfl
  .exact(E4<|as0 (bl8 (tk (j:=0) rfl rfl A.e) rfl sz) rfl).trans (E4<|as0 u rfl)
 unfold T3 bS0;show(be5 b [[:.str t],Z,Z,Z] []).bind _=_;unfold be5;rw[pre];cases q:ab3 (rP t) t with
 | true =>
  rw[q]at ts;rw[E4 ((bp8<|ar1 ts).trans rfl)];rfl
 | false =>
  rw[q]at ts hg;obtain rfl:b=true:=by simpa using hg
  rw[M3 ((bI9<|ar1 ts).trans rfl)];rfl
def bQ7{F:FnD}(h:F [.str t]=Oa d)(hd:N0 d=false):ah4 F [.str t]=Z:=by
 show E2 (B3 (al5 (rB F) (λ_=>Z) 1 aT5)<|B7 (dC<|.bool false)) 3 [.str t]=_
 have e:rB F [[:.str t],Z,Z]=Z:=by
  unfold rB;show(match F [.str t] with|some d=>bif N0 d then Oa _ else Z|none=>Z)=_;rw[h];show(bif N0 d then _ else _)=_;rw[hd];rfl
 unfold E2;show(B3 (al5 (rB F) (λ_=>Z) 1 aT5) (B7<|dC (.bool false)) [[:.str t],Z,Z]).bind _=_;unfold B3 al5;rw[e];rfl
def bx3(h:Tx t)(H:ab3 (rP t) t=true->okR t=true):orF (ah4<|T3 true) (T3 false) [.str t]=Oa (bif ab3 (rP t) t then(rP t).d else .none):=by
 have e:=aQ7 (b:=true) h (.inl rfl) (.inl rfl);unfold orF;cases q:ab3 (rP t) t with
 | true =>
  have e2:=aQ7 (b:=false) h (.inr<|H q) (.inr q);rw[q]at e e2;rw[bQ7 e rfl,e2];rfl
 | false =>
  rw[q]at e;rw[bx5 e];rfl
def lsh(w:Str):Sr:=match (ws w 47).map off with
 | [a]=>(a,1)
 | a::b::_=>(a,b)
 | []=>(0,0)
def oL(w:Str):Bool:=(ws w 47).all okO&&decide ((ws w 47).length<=2)
abbrev U3(c:Nat)(w:Str):La Sr:=(ws w c).map lsh
def oLs(c:Nat)(w:Str):Bool:=(ws w c).all oL
def lsd(z:Str):Sr:=match (ws z 120).map off with
 | [a,b]=>(a,b)
 | _=>(0,0)
def oSd(z:Str):Bool:=(ws z 120).all okO&&(ws z 120).length==2
def lmk(m:Str):Ob (La Sr):=bif m==(".":Str) then Z else Oa (U3 44 m)
def oMk(m:Str):Bool:=m==(".":Str) || oLs 44 m
def lM(z:Str):Int:=(lsd z).1*(lsd z).2
abbrev Ly:=Int×Int×Ob (La Sr)×Sht
def aC6(l t m z:Str)(r:La Str):Bool:=okO l&&okO t&&oSd z&&oMk m&&(decide (0<=lM z)&&decide (lM z<=r.length))&&(r.take (lM z).toNat).all (oLs 58)
def am7:La Str->Ob (Ly×La Str)
 | l::t::m::z::r=>bif aC6 l t m z r then Oa ((off l,off t,lmk m,(lsd z).1,(lsd z).2,(r.take (lM z).toNat).map<|U3 58),r.drop (lM z).toNat) else Z
 | _=>Z
noncomputable def lG(inn:La Str->Ob (La Rw×La Str)):La Str->Ob (La Rw×La Str)
 | []=>Z
 | b::r=>bif b==("[":Str) then match inn r with
  | some (ns,c::r')=>bif c==("]":Str) then Oa (ns,r') else Z
  | _=>Z else Z
def lst(s:Str):Sr:=(U3 44 s).headD (0,0)
def lNb(inn:La Str->Ob (La Rw×La Str))(k n m s v:Str)(r:La Str):Ob (Rw×La Str):=bif (v==("+":Str) || v==("-":Str))&&oLs 44 s then
      (bif k==("tone":Str) then Oa (.leaf k n m (lst s) (v==("+":Str)),r)
      else bif k==("layer":Str) then(am7 r).map λx=>(.lay n m (lst s) (v==("+":Str)) x.1.1 x.1.2.1 x.1.2.2.1 (Oa x.1.2.2.2),x.2)
      else bif k==("group":Str) then(lG inn r).map λx=>(.grp n m (lst s) (v==("+":Str)) x.1,x.2)
      else Z) else Z
def lN(inn:La Str->Ob (La Rw×La Str)):La Str->Ob (Rw×La Str)
 | k::n::m::s::v::r=>lNb inn k n m s v r
 | _=>Z
noncomputable def lNs(nd:La Str->Ob (Rw×La Str)):Nat->La Str->Ob (La Rw×La Str)
 | 0,_=>Z
 | _+1,[]=>Oa ([],[])
 | j+1,w::r=>bif w==("]":Str) then Oa ([],w::r) else(nd (w::r)).bind λx=>(lNs nd j x.2).map λy=>(x.1::y.1,y.2)
def lI:Nat->La Str->Ob (La Rw×La Str)
 | 0=>lNs (λ_=>Z) 1000
 | d+1=>lNs (lN<|lI d) 1000
def bI6(h:Bi i):okN (it i)=true/\(num (it i):Int)=i/\isM (it i)=false:=by
 obtain⟨n,rfl,q⟩:=h.nat;obtain⟨lo,l1⟩:=bC7 n;have l2:=aj9 6 q
 have o:okN (nt n)=true:=by
  unfold okN;rw[decide_eq_true #[l1,by grind],bS,ay];exact λc hc=>decide_eq_true<|lo c hc
 refine#[o,?_,?_]
 .unfold num;rw[show okN (it (n:Int))=true from o,cond_true,show cl (it (n:Int))=_ from aG2 n,PySem.W.KIN.val_back]
 .unfold isM;cases e:cl (it (n:Int)) with
  | nil=>rfl
  | cons c r =>
   have:=lo c (by rw[show cl (nt n)=c::r from e];simp);exact beq_eq_false_iff_ne.mpr λh=>by cases h;grind
def bY9(h:Bi i):okO (it i)=true/\off (it i)=i:=by
 obtain⟨a,b,c⟩:=bI6 h;unfold okO off;rw[c];exact#[a,b]
def cq3:∀n∈bf 19,(okO (it<|(n:Int) - 9)&&off (it<|(n:Int) - 9)==(n:Int) - 9)=true:=∅
def cI1{i:Int}(h:i.natAbs<=9):okO (it i)=true/\off (it i)=i:=by
 have:=cq3 (i+9).toNat (by rw[bF];grind);rw[show((i+9).toNat:Int) - 9=i by grind]at this;simpa using this
def cA0(c:Nat)(w:Str):gl c [w]=w:=Z2 (by rw[aA6];rfl)
def cT5(c:Nat)(a b:Str):gl c [a,b]=a++sg c++b:=Z2 (by rw[aA6,L6,L6];show cl a++c::cl b=(cl a++[c])++cl b;simp)
def aO3{l:La Str}(hn:l≠[])(h:∀w∈l,c∉cl w):ws (gl c l) c=l:=aP8 c hn h
def bv0(h:c∉cl w):ws w c=[w]:=by
 have:=aO3 (c:=c) (l:=[w]) (by simp) (by simpa using h)
 rwa [cA0]at this
def bu9(h1:c∉cl a)(h2:c∉cl b):ws (a++sg c++b) c=[a,b]:=by
 have:=aO3 (c:=c) (l:=[a,b]) (by simp) (λw hw=>by
  rcases ao.mp hw with rfl|hw
  .exact h1
  .rw[aB.mp hw];exact h2)
 rwa [cT5]at this
def al4{s:Sr}(h:Bs s):(share (shT s)=s/\okS (shT s)=true)/\lsh (shT s)=s/\oL (shT s)=true:=by
 obtain⟨a1,a2,_⟩:=bI6 h.1;obtain⟨b1,b2,_⟩:=bI6 h.2;obtain⟨c1,c2⟩:=bY9 h.1;obtain⟨d1,d2⟩:=bY9 h.2;have n1:47∉cl (it s.1):=(aa9 h.1).no (by decide);have n2:47∉cl (it s.2):=(aa9 h.2).no (by decide);unfold shT;by_cases q:s.2=1
 .rw[if_pos q];unfold share okS lsh oL;rw[bh7 _ _ n1,bv0 n1];refine#[#[?_,by simp only[a1,bS];decide],?_,by simp[c1]]
  .show((num (it s.1):Int),_)=s;rw[a2];exact Prod.ext rfl q.symm
  .show(off (it s.1),(1:Int))=s;rw[c2];exact Prod.ext rfl q.symm
 .rw[if_neg q];unfold share okS lsh oL;rw[aK0 _ _ _ n1,bu9 n1 n2];refine#[#[?_,by simp[a1,b1]],?_,by simp[c1,d1]]
  .show((num (it s.1):Int),bif sg 47==sg 47 then(num (it s.2):Int) else 1)=s;rw[a2,beq_self_eq_true,cond_true,b2]
  .show(off (it s.1),off<|it s.2)=s;rw[c2,d2]
def by8{l:La Sr}(hn:l≠[])(hc:¬pS c)(h:∀s∈l,Bs s):ws (sT c l) c=l.map shT/\(l.map shT).map share=l/\(l.map shT).all okS=true/\(l.map shT).map lsh=l/\(l.map shT).all oL=true:=by
 have id:∀{f:Str->Sr},(∀s∈l,f (shT s)=s)->(l.map shT).map f=l:=λ{f} H=>by
  rw[bw];exact(bJ H).trans (List.map_id l)
 have al:∀{f:Str->Bool},(∀s∈l,f (shT s)=true)->(l.map shT).all f=true:=λ{f} H=>by
  rw[List.all_map,ay];exact H
 exact#[aO3 (by simpa using hn) λw hw=>by
  obtain⟨s,hs,rfl⟩:=aV.mp hw
  exact(aj6 (h s hs)).1.no hc,id λs hs=>(al4 (h s hs)).1.1,al λs hs=>(al4 (h s hs)).1.2,id λs hs=>(al4 (h s hs)).2.1,al λs hs=>(al4 (h s hs)).2.2]
def cF7{l:La Sr}(hn:l≠[])(h:∀s∈l,Bs s):(spot (sT 58 l)=l/\okP (sT 58 l)=true)/\U3 58 (sT 58 l)=l/\oLs 58 (sT 58 l)=true:=by
 obtain⟨e,e1,e2,e3,e4⟩:=by8 (c:=58) hn (by decide) h;unfold spot okP oLs U3;rw[e];exact#[#[e1,e2],e3,e4]
def by2{s:Sr}(h:Bs s):lst (shT s)=s/\oLs 44 (shT s)=true:=by
 have e:=bv0 (c:=44) ((aj6 h).1.no<|by decide);unfold lst oLs U3;rw[e];exact#[(al4 h).2.1,by simp[(al4 h).2.2]]
def cJ4{mk:Ob (La Sr)}(h:∀ms,mk=Oa ms->ms≠[]/\∀s∈ms,Bs s):(mask (mkT mk)=mk/\okM (mkT mk)=true)/\lmk (mkT mk)=mk/\oMk (mkT mk)=true:=by
 cases mk with
 | none=>exact#[#[by decide +kernel,by decide +kernel],by decide +kernel,by decide +kernel]
 | some ms =>
  obtain⟨h1,h2⟩:=h ms rfl;obtain⟨e,e1,e2,e3,e4⟩:=by8 (c:=44) h1 (by decide) h2
  have ne:(sT 44 ms==(".":Str))=false:=beq_eq_false_iff_ne.mpr λq=>by
   have a:Al (λc=>c≠46) (sT 44 ms):=Al.gl (by decide) λw hw=>by
    obtain⟨s,hs,rfl⟩:=aV.mp hw;have:=(aj6<|h2 s hs).1;unfold shT at this |-;split
    .exact(aa9 (h2 s hs).1).imp λc h=>by grind
    .exact((aa9 (h2 s hs).1).imp λc h=>by grind).app (Al.sg<|by decide) |>.app ((aa9 (h2 s hs).2).imp λc h=>by grind)
   rw[q]at a;exact a 46 ∅ rfl
  unfold mkT mask okM lmk oMk oLs U3;simp only[ne,cond_false,eD,e];exact#[#[congrArg Oa e1,e2],congrArg Oa e3,e4]
def cc8{w h:Int}(hw:Bi w)(hh:Bi h):((((zN<|szT w h).1:Int)=w/\((zN<|szT w h).2:Int)=h)/\okZ (szT w h)=true)/\lsd (szT w h)=(w,h)/\oSd (szT w h)=true:=by
 obtain⟨a1,a2,_⟩:=bI6 hw;obtain⟨b1,b2,_⟩:=bI6 hh;obtain⟨c1,c2⟩:=bY9 hw;obtain⟨d1,d2⟩:=bY9 hh;have n1:120∉cl (it w):=(aa9 hw).no (by decide);have n2:120∉cl (it h):=(aa9 hh).no (by decide);unfold szT zN okZ lsd oSd;rw[aK0 _ _ _ n1,bu9 n1 n2];refine#[#[#[a2,b2],by simp[a1,b1]],?_,by simp[c1,d1]];show(off (it w),off<|it h)=(w,h);rw[c2,d2]
def cJ7(h:ax9 m l t mk (Oa sh)=true)(g:GL l t mk sh)(r:La Str):rdL (lyW l t mk sh++r)=#[Oa (l,t,mk,Oa sh),r,true]/\am7 (lyW l t mk sh++r)=Oa ((l,t,mk,sh),r):=by
 obtain⟨a1,a2⟩:=cI1 g.l;obtain⟨b1,b2⟩:=cI1 g.t;unfold ax9 at h;simp only[ae]at h;obtain⟨x1,x2,x3,x4,x5⟩:=by3 (show at5 sh=true from h.1.2)
 have pos:1<=sh.2.2.length:=by
  have:1*1<=sh.1*sh.2.1:=Int.mul_le_mul x1.1 x2.1 (by decide) (by grind)
  grind
 obtain⟨⟨c1,c2⟩,c3,c4⟩:=cJ4 (mk:=mk) λms e=>by
  subst e;have k:aR7 (Oa ms) sh=true:=h.2.2.2;unfold aR7 at k;simp only[ae,beq_iff_eq]at k;exact#[λe=>by rw[e]at k;have:=k.1;simp at this;grind,(g.ms ms rfl).2]
 obtain⟨⟨⟨d1,d2⟩,d3⟩,d4,d5⟩:=cc8 g.sh.w g.sh.h;have sp:∀q∈sh.2.2,(spot (sT 58 q)=q/\okP (sT 58 q)=true)/\U3 58 (sT 58 q)=q/\oLs 58 (sT 58 q)=true:=λq hq=>cF7 (λe=>by have:=(aZ2<|x5 q hq).1;rw[e]at this;cases this) (g.sh.p q hq).2
 have id:∀{f:Str->La Sr},(∀q∈sh.2.2,f (sT 58 q)=q)->(sh.2.2.map<|sT 58).map f=sh.2.2:=λ{f} H=>by
  rw[bw];exact(bJ H).trans (List.map_id _)
 have al:∀{f:Str->Bool},(∀q∈sh.2.2,f (sT 58 q)=true)->(sh.2.2.map<|sT 58).all f=true:=λ{f} H=>by
  rw[List.all_map,ay];exact H
 have n1:zM (szT sh.1 sh.2.1)=(sh.2.2.map<|sT 58).length:=by
  rw[ai];have:((zM (szT sh.1 sh.2.1):Nat):Int)=sh.2.2.length:=by rw[zM,dk,d1,d2,x3]
  grind
 have n2:lM (szT sh.1 sh.2.1)=(sh.2.2.map<|sT 58).length:=by unfold lM;rw[d4,ai,x3]
 have e:lyW l t mk sh++r=it l::it t::mkT mk::szT sh.1 sh.2.1::(sh.2.2.map (sT 58)++r):=rfl;have le:(sh.2.2.map<|sT 58).length<=(sh.2.2.map (sT 58)++r).length:=by rw[aj];grind
 rw[e];constructor
 .unfold rdL sheet shN okT;simp only[n1,if_pos le,decide_eq_true le,a1,b1,c2,d3,a2,b2,c1,d1,d2,List.take_left,id λq hq=>(sp q hq).1.1,al λq hq=>(sp q hq).1.2,bU];rw[show 1+min (sh.2.2.map<|sT 58).length (sh.2.2.map (sT 58)++r).length=(sh.2.2.map<|sT 58).length+1 by grind,List.drop_succ_cons,List.drop_left]
 .unfold am7 aC6;simp only[n2,bO,a1,b1,c4,d5,a2,b2,c3,d4,List.take_left,List.drop_left,id λq hq=>(sp q hq).2.1,al λq hq=>(sp q hq).2.2,bU,decide_eq_true (Int.ofNat_le.mpr le),decide_eq_true (bx (sh.2.2.map<|sT 58).length),cond_true]
def co5(v:Bool):(pm v==("+":Str))=v/\(pm v==("+":Str) || pm v==("-":Str))=true:=by cases v<;>decide +kernel
def ba4:(("tone":Str)==("layer":Str))=false/\(("tone":Str)==("group":Str))=false/\(("layer":Str)==("tone":Str))=false/\(("group":Str)==("layer":Str))=false/\(("group":Str)==("tone":Str))=false/\(("tone":Str)==("]":Str))=false/\(("layer":Str)==("]":Str))=false/\(("group":Str)==("]":Str))=false:=∅
def cI7{n:Rw}(j:jN d n=true):∃w x,nw n=w::x/\(w==("]":Str))=false:=by
 obtain⟨_,_,_,_,_,t1,t2,t3⟩:=ba4;cases n with
 | bad=>simp[jN]at j
 | grb=>simp[jN]at j
 | leaf k n m s v =>
  rw[jN]at j;simp only[ae,beq_iff_eq]at j;obtain⟨_,rfl,_⟩:=j;exact#[_,_,by rw[nw];rfl,t1]
 | lay n m s v l t mk sh =>
  cases sh with
  | none=>simp[jN,ax9,aZ3]at j
  | some sh=>exact#[_,_,by rw[nw];rfl,t2]
 | grp n m s v ns=>exact#[_,_,by rw[nw];rfl,t3]
mutual
theorem cJ0:∀(n:Rw) (d:Nat),jN d n=true->Bn c n->(nw n).length < 1000->∀r,rdN (rdI d) (nw n++r)=#[n,r,true]/\lN (lI d) (nw n++r)=Oa (n,r)
 | .bad,_,j,_,_,_=>by simp[jN]at j
 | .grb ..,_,j,_,_,_=>by simp[jN]at j
 | .leaf k n m s v,d,j,b,_,r=>by
  rw[jN]at j;rw[Bn]at b;simp only[ae,beq_iff_eq]at j;obtain⟨⟨_,j2⟩,rfl,_⟩:=j;have bs:=ar6 j2 b.2.2.2.1;obtain⟨⟨a1,a2⟩,_⟩:=al4 bs;obtain⟨a3,a4⟩:=by2 bs;obtain⟨p1,p2⟩:=co5 v;obtain⟨t1,t2,_⟩:=ba4;rw[nw,hdW];constructor
  .show rdN (rdI d) (_::_::_::_::(pm v::r))=_;rw[aY5,t1,t2,a1,a2];simp only[cond_false,pv,p1,cU,dH,xnf,bU]
  .show lNb (lI d) _ _ _ _ (pm v) r=_;unfold lNb;rw[p2,p1,a3,a4,beq_self_eq_true];simp only[bU,cond_true]
 | .lay n m s v l t mk Z,_,j,_,_,_=>by simp[jN,ax9,aZ3]at j
 | .lay n m s v l t mk (Oa sh),d,j,b,_,r=>by
  rw[jN]at j;rw[Bn]at b;simp only[ae]at j;have bs:=ar6 j.1.2 b.2.2.1;obtain⟨⟨a1,a2⟩,_⟩:=al4 bs;obtain⟨a3,a4⟩:=by2 bs;obtain⟨p1,p2⟩:=co5 v;obtain⟨_,_,t3,_⟩:=ba4;obtain⟨_,_,_,g⟩:=ce9 j.2 b.2.2.2.1 (b.2.2.2.2.1 sh rfl);obtain⟨l1,l2⟩:=cJ7 j.2 g r;rw[nw,hdW,au];constructor
  .show rdN (rdI d) (_::_::_::_::(pm v::(lyW l t mk sh++r)))=_;rw[aY5,a1,a2,cU,l1,beq_self_eq_true,cond_true];simp only[pv,p1,ndL,dH,xnf,bU]
  .show lNb (lI d) _ _ _ _ (pm v) (lyW l t mk sh++r)=_;unfold lNb;rw[p2,p1,a3,a4,t3,beq_self_eq_true,l2];simp only[bU,cond_true,cond_false,xms]
 | .grp n m s v ns,0,j,_,_,_=>by simp[jN]at j
 | .grp n m s v ns,d+1,j,b,hl,r=>by
  rw[jN]at j;rw[Bn]at b;simp only[ae]at j;have bs:=ar6 j.1.2 b.2.2.1;obtain⟨⟨a1,a2⟩,_⟩:=al4 bs;obtain⟨a3,a4⟩:=by2 bs;obtain⟨p1,p2⟩:=co5 v;obtain⟨_,_,_,t4,t5,_⟩:=ba4;rw[nw]at hl |-;simp only[aj,ag,aU]at hl;obtain⟨i1,i2⟩:=nds_rd ns d j.2.2 b.2.2.2.2 1000 (by grind) (ak _) (("]":Str)::r) (.inr #[r,rfl]);rw[hdW,au,au,au];constructor
  .show rdN (rdI<|d+1) (_::_::_::_::(pm v::(("[":Str)::(nws ns++(("]":Str)::r)))))=_;rw[aY5,a1,a2,cU,t4,beq_self_eq_true,rdI,i1,beq_self_eq_true];simp only[cond_true,cond_false,pv,p1,ndG,dH,xnf,bU,cU]
  .show lNb (lI<|d+1) _ _ _ _ (pm v) (("[":Str)::(nws ns++(("]":Str)::r)))=_;unfold lNb;rw[p2,p1,a3,a4,t4,t5,beq_self_eq_true,lG,lI,i2,beq_self_eq_true];simp only[bU,cond_true,cond_false,xms,beq_self_eq_true]
theorem nds_rd:∀(l:La Rw) (d:Nat),jNs d l=true->Bns c l->∀j,(nws l).length < j->j<=1000->∀r,(r=[]\/∃r',r=("]":Str)::r')->K7 (rdN<|rdI d) j (nws l++r)=#[l,r,true]/\lNs (lN<|lI d) j (nws l++r)=Oa (l,r)
 | _,_,_,_,0,h,_,_,_=>by grind
 | [],d,_,_,j+1,_,_,r,q=>by
  rw[nws,xna];rcases q with rfl|⟨r',rfl⟩
  .exact#[rfl,rfl]
  .rw[K7,lNs,beq_self_eq_true];exact#[rfl,rfl]
 | n::l,d,h,b,j+1,hj,hk,r,q=>by
  rw[jNs,ae]at h;rw[Bns]at b;obtain⟨w,x,e,ne⟩:=cI7 h.1;rw[nws,aj]at hj;have l1:1<=(nw n).length:=by rw[e];simp
  obtain⟨a1,a2⟩:=cJ0 n d h.1 b.1 (by grind) (nws l++r);obtain⟨i1,i2⟩:=nds_rd l d h.2 b.2 j (by grind) (by grind) r q;rw[nws,au,e,xca];rw[e,xca]at a1 a2;rw[K7,lNs,ne,a1,a2];simp only[cond_false,i1,i2,bU,xbs,xms,and_self]
end
def lPb(z:Str):Ob (La Rw×La Str)->Ob Pc
 | some (ns,[])=>bif oSd z then Oa #[(lsd z).1,(lsd z).2,ns] else Z
 | _=>Z
def lP(t:Str):Ob Pc:=lPb ((ws t 32).headD "")<|lI 4 (ws t 32).tail
def av7(b:Bp c p)(h:Tx t)(g:ab3 p t=true):rP t=p/\okR t=true/\lP t=Oa p:=by
 unfold ab3 at g;simp only[ae,beq_iff_eq]at g;obtain⟨j,rfl⟩:=g;have gp:=bJ7 b j;unfold jP at j;simp only[ae]at j;have e:ws p.t 32=pw p:=aO3 (by simp) λw hw=>(gp.wd w hw).1.no (by decide)
 have hn:=h.n;rw[e,ag]at hn;obtain⟨i1,i2⟩:=nds_rd p.ns 3 j.2.1 b.b 1000 (by omega) (ak _) [] (.inl rfl);rw[ar]at i1 i2;obtain⟨⟨⟨d1,d2⟩,d3⟩,d4,d5⟩:=cc8 gp.w gp.h;unfold rP okR lP;rw[e];show(Pc.mk ((zN<|szT p.w p.h).1:Int) ((zN<|szT p.w p.h).2:Int) (rdR<|nws p.ns).v=p)/\(okZ (szT p.w p.h)&&(rdR<|nws p.ns).ok)=true/\lPb (szT p.w p.h) (lI 4<|nws p.ns)=Oa p;rw[rdR,i1,d1,d2,d3,lI,i2,lPb,d5,d4];exact#[rfl,rfl,rfl]
def Lx(n:Nat)(d:D):Prop:=fE d=true/\PyData.depth d<=n
theorem Lx.all:∀{xs:La D},(∀x∈xs,Lx n x)->PyData.canLayAll0 xs=true/\PyData.depthAll xs<=n
 | [],_=>#[rfl,aA _]
 | x::xs,g=>by
  have a:=g x (aQ ..);have b:=Lx.all λy hy=>g y<|xmm _ hy
  refine#[?_,Nat.max_le.mpr #[a.2,b.2]];show(fE x&&PyData.canLayAll0 xs)=true;rw[a.1,b.1];rfl
def Lx.tup{xs:La D}(h:∀x∈xs,Lx n x):Lx (n+1) (.tuple xs):=#[(Lx.all h).1,ck (Lx.all h).2]
def Lx.lst{xs:La D}(h:∀x∈xs,Lx n x):Lx (n+1) (.list xs):=#[(Lx.all h).1,ck (Lx.all h).2]
def Lx.le(h:Lx n d)(i:n<=k):Lx k d:=#[h.1,aI h.2 i]
def Lx.s(h:Lx n d)(i:n<=60):fy d=true:=by
 unfold fy;rw[h.1,bS];exact decide_eq_true (aI h.2<|by grind)
theorem Lx.map{f:y->D}{l:La y}(h:∀a∈l,Lx n<|f a):∀x∈l.map f,Lx n x:=λx hx=>by
 obtain⟨a,ha,rfl⟩:=aV.mp hx;exact h a ha
def aZ9(i:Int):Lx n (.int i):=#[rfl,aA _]
def cs2(h:Bw w):Lx n (.str w):=#[h.lay,aA _]
def bE0(s:Sr):Lx 1 (prD s):=#[rfl,(by decide:1<=1)]
def bW4(l:La Sr):Lx 2 (spD l):=Lx.tup<|Lx.map λs _=>bE0 s
def cS7(m:Ob (La Sr)):Lx 2 (mkD m):=by
 cases m with
 | none=>exact#[rfl,by decide]
 | some l=>exact bW4 l
def cS6(t:Sht):Lx 4 (T9 t):=Lx.tup λx hx=>by
 simp only[ao,aM,or_false]at hx;rcases hx with rfl|rfl|rfl
 .exact aZ9 _
 .exact aZ9 _
 .exact Lx.tup (Lx.map λl _=>bW4 l)
def tC{f:DE}(h:f y=Oa (.bool q)):D3 (ai5 f) y=Oa (!q):=by
 unfold D3 ai5;rw[h];rfl
def fl{α:Type}{f:α->D}{l:La α}{p:α->Bool}{zd:La Nat}{src:Rho->Ob (La D)}{c:Rho->Ob Bool}{ρ r:Rho}(hr:w8 1 zd ρ=Z::r)(hs:src ρ=Oa (l.map f))(hl:l.length<=1000)(C:∀a∈l,c ([:f a]::r)=Oa (!p a))(g:∀a∈l,Lx n<|f a)(hn:n<=50):
  A9 eqD (E5<|D2 1 zd src (D1 0) c !0) (E5 A8) ρ=Oa (.bool<|l.all p)/\tB2 neD (E5<|D2 1 zd src (D1 0) c !0) (E5 A8) ρ=Oa (!l.all p):=by
 have e:=bV8 (α:=α) (e:=A6 0) (h:=f) (f:=f) (p:=λa=>!p a) hr hs hl C λa _=>rfl
 have e:E5 (D2 1 zd src (D1 0) c !0) ρ=Oa (.list<|(l.filter λa=>!p a).map f):=by unfold E5;rw[e];rfl
 have s:fy (.list<|(l.filter λa=>!p a).map f)=true:=(Lx.lst<|Lx.map λa ha=>g a (cr.mp ha).1).s (by grind)
 have q:fA (.list<|(l.filter λa=>!p a).map f) (.list [])=l.all p:=by
  cases h:l.filter λa=>!p a with
  | nil =>
   have:l.all p=true:=by
    rw[ay];intro a ha;have:=List.filter_eq_nil_iff.mp h a ha;simpa using this
   rw[this];rfl
  | cons x y =>
   have m:x∈l.filter λa=>!p a:=by rw[h];simp
   have:l.all p=false:=by
    rw[List.all_eq_false];exact#[x,(cr.mp m).1,by have:=(cr.mp m).2;simpa using this]
   rw[this];rfl
 unfold tB2;rw[B5 e rfl,B5 e rfl];unfold eqD neD;rw[if_pos #[s,rfl],if_pos #[s,rfl],q];exact#[rfl,rfl]
def bi8{s:Sr}(h:Ba s):M8 [prD s]=Oa (.bool<|W7 s):=by
 refine rX1 ((B2 rfl).trans<|L0 (vA rfl λh1=>vA (ch rfl rfl rfl) λh2=>?_));simp only[ae,decide_eq_true_eq]at h1 h2;have b:=h.2;have q0:0 < s.2.toNat:=by grind
 have e:=bN5 s.1.toNat s.2.toNat 24 q0 (by grind) (by decide);rw[ay3 _ _ q0,show((s.1.toNat:Nat):Int)=s.1 by grind,show((s.2.toNat:Nat):Int)=s.2 by grind]at e;rw[B5 ((k2 rfl rfl).trans e) (y:=prD s) rfl];unfold eqD;rw[if_pos #[rfl,rfl]]
 congr 2
 show((((s.1.toNat / bR s.1.toNat s.2.toNat:Nat):Int)==s.1)&&((((s.2.toNat / bR s.1.toNat s.2.toNat:Nat):Int)==s.2)&&true))=_;rw[bv];simp only[cz,ae,beq_iff_eq];refine#[λh=>?_,λh=>by rw[h,Nat.div_one,Nat.div_one];grind];rcases bP 1 (bR s.1.toNat s.2.toNat) with h5|h5
 .have:=Nat.div_lt_self q0 h5;have:=h.2;generalize s.2.toNat / bR s.1.toNat s.2.toNat=x at *
  grind
 .have:=cT s.1.toNat q0
  grind
def shf{s:Sr}(h:Ba s):D3 (E7<|A7 M8 {0}) ([:prD s]::y)=Oa (!W7 s):=tN<|(k1 rfl).trans (bi8 h)
def ct0{l:La Sr}(hl:l.length<=1000)(hb:∀s∈l,Ba s):ad8 [spD l]=Oa (.bool<|aR6 l):=by
 unfold aR6;rw[<- dw];refine rX1 (gd (tO1 rfl<|tO (bi7 4 (f:=prD) rfl rfl) λ_=>(fl (n:=1) (f:=prD) (p:=W7) rfl rfl hl (λs hs=>shf<|hb s hs) (λs _=>bE0 s)<|by decide).2) λh4=>L0 ?_)
 match l,h4,hb,hl with
 | c::l,_,hb,hl =>
  have q:∀{y:D},dIx (qE<|dIx (B0 1) ⇑0) ⇑1 [[:y],[:spD (c::l)]]=Oa (.int c.2)/\dIx (qE<|dIx (B0 1) ⇑0) ⇑0 [[:y],[:spD (c::l)]]=Oa (.int c.1):=λ{y}=>by
   have e:qE (dIx (B0 1) ⇑0) [[:y],[:spD (c::l)]]=Oa (true,[.int c.1,.int c.2]):=by
    unfold qE;rw[(W1 (q:=(true,prD c::l.map prD)) rfl rfl).trans (L4 (j:=0) rfl)];rfl
   exact#[(W1 e rfl).trans rfl,(W1 e rfl).trans rfl]
  refine(fl (n:=1) (r:=[[:spD (c::l)]]) (l:=c::l) (f:=prD) (p:=λs=>atM s c) rfl rfl hl (λs hs=>?_) (λs _=>bE0 s)<|by decide).1.trans ?_
  .refine w9 ((B5 rfl q.1).trans<|ac5 (sml (hb s hs).1) (sml (hb c<|by simp).2)) ((B5 q.2 rfl).trans<|ac5 (sml (hb c<|by simp).1) (sml (hb s hs).2)) ?_;rw[bJ6];unfold atM;rw[<- decide_not];exact congrArg (λb=>Oa<|fC b) (decide_eq_decide.mpr<|by grind)
  .rw[aZ,show atM c c=true from decide_eq_true (Int.le_refl _)];rfl
def by7{lo hi:Int}{e:DE}{src:Rho->Ob (La D)}(he:∀y,e y=Oa (.int lo))(hs:src y=Oa [.int a,.int b])(hr:w8 1 [] y=[Z]):tB2 neD (E5<|D2 1 [] src (D1 0) (E1 (D3<|E7 (A7 K6 {0}))<|D3 (ai5<|L5 leI leI e (!0) (dC<|.int hi))) !0) (E5 A8) y=Oa (!((decide (lo<=a)&&decide (a<=hi))&&(decide (lo<=b)&&decide (b<=hi)))):=(fl (n:=0) (l:=[a,b]) (f:=fB) (p:=λn=>decide (lo<=n)&&decide (n<=hi)) hr hs (show 2<=1000 by decide) (λn _=>tO1 rfl<|tC (ch (he _) rfl rfl)) (λ_ _=>aZ9 _)<|by decide).2.trans (by simp only[aZ,List.all_nil,cz])
def bW8{t:Sht}(h:Bt t):X9 [T9 t]=Oa (.bool<|at5 t):=by
 refine rX1 ((B2 rfl).trans<|gd (by7 (lo:=1) (hi:=8) (λ_=>rfl) rfl rfl) λq=>gd (tO1 rfl<|w9 (y:=.int (t.2.2.map spD).length) rfl ((B5 rfl rfl).trans<|ay2 (i:=t.1) (j:=t.2.1) (sml ?_) (sml ?_)) ?_) λ_=>L0 (fl (n:=2) (f:=spD) (p:=aR6) rfl rfl h.l (λl hl=>tN<|(k1 rfl).trans (ct0 (h.p l hl).1 (h.p l hl).2)) (λl _=>bW4 l)<|by decide).1)
 .have:=ac3 (n:=t.1) ((ae _ _).mp q).1;omega
 .have:=ac3 (n:=t.2.1) ((ae _ _).mp q).2;omega
 .rw[aS2,ai]
def cG0{x:Str}{p:Nat->Bool}(hx:∀c:Fin 128,bq1 #[(List.toArray [c.val])] x=p c.val)(h:Bw w)(hi:A6 i ρ=Oa (.str w))(hr:w8 1 [] ρ=[Z]):A9 eqD (E5<|D2 1 [] (az0<|A6 i) (D1 0) (tB2 (inS true) (!0)<|dC (.str x)) !0) (E5 A8) ρ=Oa (.bool<|(cl w).all p)/\tB2 neD (E5<|D2 1 [] (az0<|A6 i) (D1 0) (tB2 (inS true) (!0)<|dC (.str x)) !0) (E5 A8) ρ=Oa (!(cl w).all p):=by
 refine fl (n:=0) (l:=w.cps.toList) (f:=λc=>.str #[(List.toArray [c])]) (p:=p) hr ?_ (by show(cl w).length<=1000;rw[E3];have:=h.l;grind) (λc hc=>?_) (λc hc=>#[?_,aA _]) (by decide)
 .unfold az0;rw[hi];show(if w.cps.all (· < 128)=true then Oa (aE7 w) else Z)=_;rw[if_pos h.asc];rfl
 .show Oa (!bq1 #[(List.toArray [c])] x)=_;rw[hx #[c,h.a c hc]]
 .have:=h.a c hc;show((List.toArray [c]):Array Nat).all (· < 0x110000)=true;simp;grind
def ct2(hw:Bw w):ad9 [.str w]=Oa (.bool<|ag3 w):=rX1 (gd (tO1 rfl<|tC (ch rfl (cK0 hw rfl) rfl)) λ_=>L0 (cG0 ∅ hw rfl rfl).1)
def cz5{x:Str}(hx:fE (.str x)=true)(ys:La Str)(hy:PyData.canLayAll0 (sD ys)=true):inL true (.str x) (.list<|sD ys)=Oa (.bool (!(ys.any λy=>y==x))):=by
 show(if _ then _ else _)=_;rw[if_pos #[hx,hy,aA _],sD,List.any_map];rw[cM];rfl
def wds(k:Str):La Str:=bif k==("tone":Str) then ax2 else ag4
def ba3{xs:La D}(e0:At0 (.tuple xs) 0 (.str k))(e1:At0 (.tuple xs) 1 (.str n))(e2:At0 (.tuple xs) 2 (.str m))(e3:At0 (.tuple xs) 3 (prD s))(e4:At0 (.tuple xs) 4 (.bool v))(hk:fE (.str k)=true)(hn:Bw n)(hm:Bw m)(hs:Ba s):T5 [.tuple xs]=Oa (.bool<|ag3 n&&((wds k).any λy=>y==m)&&W7 s):=by
 have q:=N8 hk (show fE (.str "tone")=true by decide +kernel) rfl;have i:=cz5 hm.lay (wds k) (by unfold wds;cases k==("tone":Str)<;>decide +kernel);refine C4 (ρ:=[[:.tuple xs],Z]) rfl ((B2 (ρ':=[[:.tuple xs],[:.list (sD ag4)]]) rfl).trans<|(B2 (ρ':=[[:.tuple xs],[:.list (sD<|wds k)]]) ?_).trans (gd (tO (tN<|(k1<|e1 _).trans (ct2 hn)) λ_=>tO1 ?_<|w9 (e2 _) rfl i) λ_=>L0<|(vA (x:=true) ((k1<|e3 _).trans<|bi8 hs) λ_=>?_).trans (by rw[cz])))
 .unfold sIf;rw[w9 (e0 _) rfl q];unfold wds;cases k==("tone":Str)<;>rfl
 .unfold D3 E7 O9;rw[e2];rfl
 .unfold O9;rw[e4];rfl
def bE6{xs:La D}{X:DS}{e:D}(h5:5<=xs.length)(e0:At0 (.tuple xs) 0 (.str k))(hk:inL true (.str k) (.tuple [.str "layer", .str "group", .str "tone"])=Oa (.bool (!o)))(hh:T5 [.tuple xs]=Oa (.bool q))(H:(o&&q)=true->X [[:.tuple xs],[:e]]=Oa (.rt<|.bool x)):
  B3 (sIf (E1 (D3<|E7 (O9 "tuple" !0))<|E1 (tB2 ltI (F7<|B0 0) ⇑5) (tB2 (inL true) (dIx (B0 0) ⇑0)<|L9 {!"layer",!"group",!"tone"})) (B7<|dC (.bool false)) D6) (B3 (sIf (D3<|E7 (A7 T5 {0})) (B7<|dC (.bool false)) D6) X) [[:.tuple xs],[:e]]=Oa (.rt<|.bool (o&&(q&&x))) :=
 gd (tO1 rfl<|tO1 (w9 (y:=.int xs.length) rfl rfl<|by rw[ba0,decide_eq_false (by omega)]) (w9 (e0 _) rfl hk)) λh1=>gd (tN<|(k1 rfl).trans hh) λh2=>H (by rw[h1,h2];rfl)
def in3{k:Str}(hk:fE (.str k)=true):inL true (.str k) (.tuple [.str "layer", .str "group", .str "tone"])=Oa (.bool (!(([("layer":Str), "group","tone"]).any λy=>y==k))):=(an2 true hk ["layer","group","tone"] ∅).trans (by rw[cM])
theorem av9:∀{l:La Rw}{n:Rw},n∈l->n.dp<=Rw.dps l
 | x::r,n,h=>by
  rw[Rw.dps];rcases ao.mp h with rfl|h
  .exact cu _ _
  .exact aI (av9 h) (cj _ _)
def bE1(hk:fE (.str k)=true)(hn:Bw n)(hm:Bw m){r:La D}(hr:∀x∈r,Lx (i+1) x):Lx (i+2) (hdD k n m s v r):=Lx.tup λx hx=>by
 simp only[ao]at hx;rcases hx with rfl|rfl|rfl|rfl|rfl|hx
 .exact#[hk,aA _]
 .exact cs2 hn
 .exact cs2 hm
 .exact(bE0 s).le (by grind)
 .exact#[rfl,aA _]
 .exact hr x hx
mutual
theorem cd3:∀n:Rw,Bn true n->Lx (2*n.dp+5) n.d
 | .bad,b=>by rw[Bn]at b;cases b
 | .grb ..,b=>by rw[Bn]at b;cases b.2.2
 | .leaf k n m s v,b=>by
  rw[Bn]at b;rw[Rw.d,Rw.dp.eq_def];exact(bE1 (i:=0) b.1.lay b.2.1 b.2.2.1 λx hx=>by simp at hx).le (by grind)
 | .lay n m s v l t mk Z,b=>by rw[Bn]at b;cases b.2.2.2.2.2 rfl
 | .lay n m s v l t mk (Oa sh),b=>by
  rw[Bn]at b;rw[Rw.d,Rw.dp.eq_def];refine bE1 (i:=3) ∅ b.1 b.2.1 λx hx=>?_
  simp only[ao,aM,or_false]at hx;rcases hx with rfl|rfl|rfl|rfl
  .exact aZ9 _
  .exact aZ9 _
  .exact(cS7 mk).le (by decide)
  .exact cS6 sh
 | .grp n m s v ns,b=>by
  rw[Bn]at b;rw[Rw.d,Rw.dp];refine bE1 (i:=2*Rw.dps ns+5) ∅ b.1 b.2.1 λx hx=>?_
  rw[aB.mp hx];exact Lx.tup<|rws_lx ns b.2.2.2.2
theorem rws_lx:∀l:La Rw,Bns true l->∀x∈Rw.ds l,Lx (2*Rw.dps l+5) x
 | [],_,x,h=>by rw[Rw.ds]at h;cases h
 | n::r,b,x,h=>by
  rw[Bns]at b;rw[Rw.ds]at h;rw[Rw.dps];have h1:=cu n.dp (Rw.dps r);have h2:=cj n.dp (Rw.dps r);rcases ao.mp h with rfl|h
  .exact(cd3 n b.1).le (by grind)
  .exact(rws_lx r b.2 x h).le (by grind)
end
def nf{self:La D->Ob D}{d:Nat}{ns:La Rw}{src:Rho->Ob (La D)}{e:DE}{zd:La Nat}(hr:w8 1 zd y=Z::r)(he:∀n,e (n::r)=Oa (.int d))(H:∀n∈ns,self [n.d,.int d]=Oa (.bool<|jN d n))(hs:src y=Oa (Rw.ds ns))(hl:ns.length<=1000)(b:Bns true ns)(hd:Rw.dps ns<=9):A9 eqD (E5<|D2 1 zd src (D1 0) (D3<|E7 (A7 self {0,(e)})) !0) (E5 A8) y=Oa (.bool<|jNs d ns):=by
 rw[aL2];refine(fl (n:=30) (l:=ns) (f:=Rw.d) (p:=jN d) hr (by rw[hs,u7]) hl (λn hn=>tN<|(k2 rfl<|he _).trans (H n hn)) (λn hn=>(cd3 n<|ao1 b n hn).le (by have:=av9 hn;grind))<|by decide).1
def ndX(self:La D->Ob D):DS:=(B3 (sIf (tB2 eqD (dIx (B0 0) ⇑0) !"tone") (B7<|A9 eqD (F7<|B0 0) ⇑5) D6)<|B3 (sIf (tB2 eqD (dIx (B0 0) ⇑0) !"group") (B3 (sIf (E1 (tB2 neD (F7<|B0 0) ⇑6)<|E1 (tB2 eqD (!1) ⇑0) (D3<|E7 (O9 "tuple"<|dIx (B0 0) ⇑5))) (B7<|dC (.bool false)) D6)<|B7 (A9 eqD (E5<|D2 1 [1] (G2<|dIx (B0 0) ⇑5) (D1 0) (D3<|E7 (A7 self {0,A9 ak9 (!1) ⇑1})) !0)<|E5 A8)) D6) (B3 (sIf (E1 (tB2 neD (F7<|B0 0) ⇑9)<|D3 (E7<|A7 X9 {dIx (B0 0) ⇑8})) (B7<|dC (.bool false)) D6)<|B3 (sIf (tB2 neD (E5<|D2 1 [] (G2<|S9 (!0) (D5 ⇑5) (D5 ⇑7)) (D1 0) (E1 (D3<|E7 (A7 K6 {0}))<|D3 (ai5<|L5 leI leI (bd4 ⇑9) (!0) ⇑9)) !0)<|E5 A8) (B7<|dC (.bool false)) D6) (B3 (sIf (tB2 isB (dIx (B0 0) ⇑7)<|dC .none) (B7<|dC (.bool true)) D6)<|B3 (sIf (E1 (D3<|E7 (O9 "tuple"<|dIx (B0 0) ⇑7))<|tB2 neD (F7<|qE (dIx (B0 0) ⇑7)) (F7<|qE (dIx (qE<|dIx (B0 0) ⇑8) ⇑2))) (B7<|dC (.bool false)) D6) (B7<|A9 eqD (E5<|D2 1 [] (G2<|dIx (B0 0) ⇑7) (D1 0) (D3<|E7 (A7 M8 {0})) !0) (E5 A8)))))
def cS5{self:La D->Ob D}{e:D}{st:Sht}(hk:∀l,mk=Oa l->l.length<=1000/\∀s∈l,Ba s)(hs:Bt st):ndX self [[:hdD "layer" n m s v [.int l,.int t,mkD mk,T9 st]],[:e]]=Oa (.rt<|.bool (at5 st&&(aC5 l&&aC5 t&&aR7 mk st))):=by
 refine(B2<|R9 (k0n ∅ ∅ ∅)).trans ((B2<|R9 (k0n ∅ ∅ ∅)).trans<|gd (tO1 rfl<|tN ((k1 rfl).trans<|bW8 hs)) λ_=>gd (by7 (lo:=-9) (hi:=9) (λ_=>rfl) rfl rfl) λ_=>?_);cases mk with
 | none=>rfl
 | some ms =>
  obtain⟨h1,h2⟩:=hk ms rfl;refine(B2 rfl).trans (gd (tO1 rfl<|w9 (y:=.int (ms.map prD).length) (z:=.int (st.2.2.map spD).length) rfl rfl ?_) λ_=>L0 (fl (n:=1) (f:=prD) (p:=W7) rfl rfl h1 (λs hs=>shf<|h2 s hs) (λs _=>bE0 s)<|by decide).1);rw[aS2,ai,ai]
  congr 3
  rw[bv,beq_iff_eq,beq_iff_eq];grind
def gB:Nat->La Rw->Bool
 | 0,_=>false
 | d+1,ns=>jNs d ns
theorem bE8:∀(d f:Nat) (n:Rw),d+1<=f->Bn true n->n.dp<=9->M1 f [n.d,.int d]=Oa (.bool<|jN d n)
 | _,0,_,h,_,_=>absurd h (by grind)
 | _,_+1,.bad,_,b,_=>by rw[Bn]at b;cases b
 | _,_+1,.grb ..,_,b,_=>by rw[Bn]at b;cases b.2.2
 | d,f+1,.leaf k n m s v,_,b,_=>by
  rw[Bn]at b;obtain⟨bk,bn,bm,bs,k1,k2⟩:=b;have hh:=ba3 (xs:=[.str k,.str n,.str m,prD s,.bool v]) (λ_=>rfl) (λ_=>rfl) (λ_=>rfl) (λ_=>rfl) (λ_=>rfl) bk.lay bn bm bs;have i:=in3 bk.lay
  rw[show([("layer":Str), "group","tone"].any λy=>y==k)=(k==("tone":Str)) by
   simp only[cN,List.any_nil,cZ,show(("layer":Str)==k)=_ from BEq.comm,show(("group":Str)==k)=_ from BEq.comm,show(("tone":Str)==k)=_ from BEq.comm,k1,k2,eD]]at i
  rw[Rw.d,jN];refine(rX2<|bE6 (X:=ndX<|M1 f) (x:=true) (by simp) (λ_=>rfl) i hh λq=>P3<|(Y3<|k0n bk.lay ∅ ((ae _ _).mp q).1).trans rfl).trans ?_;unfold wds;cases k==("tone":Str)
  .rw[ce,ce,bq]
  .rw[cond_true];cases ag3 n<;>cases W7 s<;>cases ax2.any λy=>y==m<;>rfl
 | _,_+1,.lay n m s v l t mk Z,_,b,_=>by rw[Bn]at b;cases b.2.2.2.2.2 rfl
 | d,f+1,.lay n m s v l t mk (Oa st),_,b,_=>by
  rw[Bn]at b;obtain⟨bn,bm,bs,b1,b2,_⟩:=b;have hh:=ba3 (xs:=[.str "layer", .str n,.str m,prD s,.bool v,.int l,.int t,mkD mk,T9 st]) (λ_=>rfl) (λ_=>rfl) (λ_=>rfl) (λ_=>rfl) (λ_=>rfl) ∅ bn bm bs;rw[Rw.d,jN];refine(C4 (ρ:=[[:hdD "layer" n m s v [.int l,.int t,mkD mk,T9 st]],[:.int d]]) rfl<|bE6 (X:=ndX<|M1 f) (by simp) (λ_=>rfl) (in3 (k := "layer") ∅) hh λ_=>cS5 b1<|b2 st rfl).trans ?_;rw[show wds "layer" = ag4 by decide +kernel,show([("layer":Str), "group","tone"].any λy=>y==("layer":Str))=true by decide +kernel];unfold ax9 aZ6;show _=Oa (fC<|ag3 n&&W7 s&&((ag4.any λy=>y==m)&&at5 st&&(aC5 l&&(aC5 t&&aR7 mk st))));cases ag3 n<;>cases W7 s<;>cases(ag4.any λy=>y==m)<;>cases at5 st<;>cases aC5 l<;>cases aC5 t<;>rfl
 | d,f+1,.grp n m s v ns,hf,b,hd=>by
  rw[Bn]at b;rw[Rw.dp]at hd;obtain⟨bn,bm,bs,bl,bb⟩:=b;have hh:=ba3 (xs:=[.str "group", .str n,.str m,prD s,.bool v,.tuple (Rw.ds ns)]) (λ_=>rfl) (λ_=>rfl) (λ_=>rfl) (λ_=>rfl) (λ_=>rfl) ∅ bn bm bs;rw[Rw.d];refine(C4 (ρ:=[[:hdD "group" n m s v [.tuple (Rw.ds ns)]],[:.int d]]) rfl<|bE6 (X:=ndX<|M1 f) (x:=gB d ns) (by simp) (λ_=>rfl) (in3 (k := "group") ∅) hh λ_=>(B2<|R9 (k0n ∅ ∅ ∅)).trans<|P3 ((Y3<|k0n ∅ ∅ ∅).trans ?_)).trans ?_
  .cases d with
   | zero=>rfl
   | succ d =>
    refine(B2<|R9 (tO1 rfl<|tO1 (w9 rfl rfl ?_) rfl)).trans (L0<|nf (d:=d) (zd:=[1]) rfl (λn=>by rw[B5 (x:=.int ((d+1:Nat):Int)) (y:=.int 1) rfl rfl,bx9,s1]) (λn hn=>bE8 d f n (by grind) (ao1 bb n hn) (by have:=av9 hn;grind)) rfl bl bb (by grind));rw[aC8,beq_eq_false_iff_ne.mpr (by grind)]
  .rw[show wds "group" = ag4 by decide +kernel,show([("layer":Str), "group","tone"].any λy=>y==("group":Str))=true by decide +kernel];cases d with
   | zero =>
    rw[jN];cases ag3 n&&(ag4.any λy=>y==m)&&W7 s<;>rfl
   | succ d =>
    rw[jN,aZ6,gB];cases ag3 n<;>cases W7 s<;>cases(ag4.any λy=>y==m)<;>rfl
def lab(f:La D->Ob D):DS:=B3 (N5 1 !2)<|sIf (tB2 eqD (dIx (B0 2) ⇑0) !"group") (O1 1<|am5 (B0 1) (qE<|A7 f {dIx (B0 2) ⇑5})) D6
theorem cf3{f:La D->Ob D}{a0:Ob B}(H:∀ns,Rw.dps ns+1<=k->Bns true ns->(als ns).length<=4000->f [.tuple (Rw.ds ns)]=Oa (.list<|(als ns).map Rw.d)):∀(l:La Rw) (X:La D) (a2:Ob B),Rw.dps l<=k->Bns true l->X.length+(als l).length<=4000->∃b2,m7 (D1 2) (lab f) (Rw.ds l) [a0,Oa (.own X),a2]=Oa (.nx [a0,Oa (.own<|X++(als l).map Rw.d),b2])
 | [],X,a2,_,_,_=>#[a2,by rw[Rw.ds,als,xmn,ar];rfl]
 | n::r,X,a2,hd,b,hl=>by
  rw[Bns]at b;rw[Rw.dps]at hd;rw[als,aj]at hl;have h1:=cu n.dp (Rw.dps r);have h2:=cj n.dp (Rw.dps r);have ap:N5 1 (!2) [a0,Oa (.own X),[:n.d]]=Oa (.nx [a0,Oa (.own<|X++[n.d]),[:n.d]]):=by exists evD,N5,if_pos (show X.length < 16777216 by grind)
  have eq:∀{k:Str}{c:Bool}{n m s v r},fE (.str k)=true->(k==("group":Str))=c->tB2 eqD (dIx (B0 2) ⇑0) (!"group") [a0,Oa (.own<|X++[hdD k n m s v r]),[:hdD k n m s v r]]=Oa c:=λ{k c n m s v r} hk e=>by
   unfold tB2;rw[B5 (x:=.str k) (y:=.str "group") ((W1 (q:=(true,.str k :: .str n :: .str m::prD s :: .bool v::r)) rfl rfl).trans<|L4 (j:=0) rfl) rfl,N8 hk ∅ e];rfl
  have step:lab f [a0,Oa (.own X),[:n.d]]=Oa (.nx [a0,Oa (.own<|X++(al n).map Rw.d),[:n.d]]):=by
   unfold lab;refine(B2 ap).trans ?_;cases n with
   | bad=>rw[Bn]at b;cases b.1
   | grb=>rw[Bn]at b;cases b.1.2.2
   | leaf k a m s v =>
    rw[Bn]at b;rw[al,xmc,xmn,Rw.d]
    .unfold sIf;rw[eq b.1.1.lay b.1.2.2.2.2.2];rfl
    .exact λ_ _ _ _ _=>nofun
   | lay a m s v l t mk sh =>
    rw[al,xmc,xmn,Rw.d]
    .unfold sIf;rw[eq (c:=false) ∅ ∅];rfl
    .exact λ_ _ _ _ _=>nofun
   | grp a m s v ns =>
    rw[Bn]at b;rw[Rw.dp]at hd h1;rw[al,ag]at hl;have h:=H ns (by grind) b.1.2.2.2.2 (by grind);rw[al,xmc,Rw.d];unfold sIf;rw[eq (c:=true) ∅ ∅]
    have q:qE (A7 f {dIx (B0 2) ⇑5}) [a0,Oa (.own<|X++[hdD "group" a m s v [.tuple (Rw.ds ns)]]),[:hdD "group" a m s v [.tuple (Rw.ds ns)]]]=Oa (false,(als ns).map Rw.d):=by
     unfold qE A7 A0;rw[show dIx (B0 2) ⇑5 [a0,Oa (.own<|X++[hdD "group" a m s v [.tuple (Rw.ds ns)]]),[:hdD "group" a m s v [.tuple (Rw.ds ns)]]]=Oa (.tuple<|Rw.ds ns) from rfl];show((f [.tuple (Rw.ds ns)]).bind _)=_;rw[h];rfl
    rw[xbs,if_pos rfl];refine((aj8<|am4 (f:=B0 1) (xs:=X++[hdD "group" a m s v [.tuple (Rw.ds ns)]]) rfl q (by simp;grind)).trans ?_);rw[au];rfl
  obtain⟨b2,i⟩:=cf3 H r (X++(al n).map Rw.d) ([:n.d]) (by grind) b.2 (by simp;grind);refine#[b2,?_];rw[Rw.ds,als,aO,<- au];unfold m7;show(lab f [a0,Oa (.own X),[:n.d]]).bind _=_;rw[step];exact i
theorem cf6:∀(f:Nat) (ns:La Rw),Rw.dps ns+1<=f->Bns true ns->(als ns).length<=4000->aa2 f [.tuple (Rw.ds ns)]=Oa (.list<|(als ns).map Rw.d)
 | 0,_,h,_,_=>absurd h (by grind)
 | f+1,ns,h,b,l=>by
  obtain⟨b2,lp⟩:=cf3 (k:=f) (f:=aa2 f) (a0:=[:.tuple (Rw.ds ns)]) (cf6 f) ns [] Z (by grind) b (by simpa using l);refine C4 (ρ:=[[:.tuple (Rw.ds ns)],Z,Z]) rfl ?_;unfold bm4;exact(B2 (ρ':=[[:.tuple (Rw.ds ns)],Oa (.own []),Z]) rfl).trans ((B2 lp).trans rfl)
mutual
theorem cO6:∀n:Rw,Bn true n->∀x∈al n,At0 x.d 1 (.str x.nm)
 | .bad,b=>by rw[Bn]at b;cases b
 | .grb ..,b=>by rw[Bn]at b;cases b.2.2
 | .leaf k n m s v,_=>λx h=>by
  rw[al]at h
  .rw[aB.mp h,Rw.d];exact λ_=>rfl
  .exact λ_ _ _ _ _=>nofun
 | .lay n m s v l t mk sh,_=>λx h=>by
  rw[al]at h
  .rw[aB.mp h,Rw.d];exact λ_=>rfl
  .exact λ_ _ _ _ _=>nofun
 | .grp n m s v ns,b=>λx h=>by
  rw[Bn]at b;rw[al]at h;rcases ao.mp h with rfl|h
  .rw[Rw.d];exact λ_=>rfl
  .exact als_nm ns b.2.2.2.2 x h
theorem als_nm:∀l:La Rw,Bns true l->∀x∈als l,At0 x.d 1 (.str x.nm)
 | [],_,x,h=>by rw[als]at h;cases h
 | n::r,b,x,h=>by
  rw[Bns]at b;rw[als]at h;exact(aE.mp h).elim (cO6 n b.1 x) (als_nm r b.2 x)
end
def cS9{ns:La Rw}(b:Bns true ns)(hd:Rw.dps ns<=9)(hl:(als ns).length<=1000):Z7 [.tuple (Rw.ds ns)]=Oa (.bool<|okU ns):=by
 have n:=U2 (zd:=[]) (src:=G2 (A7 (aa2 12) {0})) (ρ:=[[:.tuple (Rw.ds ns)],Z]) (e:=dIx (B0 0) ⇑1) (l:=als ns) (h:=Rw.d) (f:=λx=>.str x.nm) (r:=[]) rfl (by
  unfold G2;show((aa2 12 [.tuple (Rw.ds ns)]).bind _)=_
  rw[cf6 12 ns (by grind) b (by grind)];rfl) hl λx hx=>als_nm ns b x hx _
 refine C4 (ρ:=[[:.tuple (Rw.ds ns)],Z]) rfl ?_;unfold ad7;refine(B2 (ρ':=[[:.tuple (Rw.ds ns)],[:.list (sD<|nms ns)]]) (by unfold aa7;rw[n,sD,bw];rfl)).trans ?_;unfold B7;rw[cf1 (ys:=nms ns) rfl (by rw[ai];grind)];rfl
def cK2(b:Bp true p)(hd:Rw.dps p.ns<=8):T4 [p.d]=Oa (.bool<|jP p):=by
 refine rX1 ((B2 rfl).trans<|gd (by7 (lo:=1) (hi:=8) (λ_=>rfl) rfl rfl) λ_=>L0<|vA (nf (self:=M1 12) (d:=3) (ns:=p.ns) (e:=dC<|.int 3) rfl (λ_=>rfl) (λn hn=>bE8 3 12 n (by decide) (ao1 b.b n hn) (by have:=av9 hn;grind)) rfl b.l b.b<|by grind) λq=>(k1 rfl).trans<|cS9 b.b (by grind) ?_);have:=als_nw _ _ q;have:=b.n
 grind
def nD(w:Str):D:=bif okO w then .int (off w) else .none
def fg(w:Str):Str:=bif isM w then tl w else w
def cN7(h:Bw w):Bw (fg w):=by
 unfold fg;cases isM w
 .exact h
 .exact bf6 h
def tk1(w:Str):cl (slS w Z<|Oa 1)=(cl w).take 1:=by
 by_cases h:1<=w.length
 .exact av0 (p:=1) h
 .have:cl w=cl fI:=dm (by rw[E3];grind);rw[Z2 this];decide +kernel
def ah5{f:DE}(h:f y=Oa (.int i)):D5 f y=Oa (Oa i):=by unfold D5;rw[h];rfl
def aP6{f:DE}{lo hi:Rho->Ob (Ob Int)}(hf:f y=Oa (.str x))(h1:lo y=Oa l)(h2:hi y=Oa h)(hx:x.length<=10000)(hs:(cl<|slS x l h).length<=16777216):Y8 f lo hi y=Oa (.str<|slS x l h):=by
 unfold Y8;rw[hf,xbs,h1,xbs,h2,xbs];exact if_pos #[hx,by rw[<- E3];exact hs]
def cf4(hw:Bw w):Q8 [.str w]=Oa (nD w):=by
 have hl:=hw.l;have fb:=cN7 hw;have fl:=fb.l;have s1:Y8 (!0) J1 (D5 ⇑1) [[:.str w],Z]=Oa (.str<|slS w Z (Oa 1)):=aP6 rfl rfl rfl (by grind) (by rw[tk1,aW];grind);have lay:fE (.str<|slS w Z (Oa 1))=true:=ay5 (p:=λc=>c < 128) (λc hc=>by rw[tk1]at hc;exact hw.a c<|dh hc) λc h=>by grind
 have fm:(slS w Z (Oa 1)==("-":Str))=isM w:=by
  rw[mns];unfold isM;rw[bv,beq_iff_eq,beq_iff_eq];refine#[λh=>?_,λh=>Z2 ?_]
  .have e:=tk1 w;rw[h]at e;cases q:cl w with
   | nil=>rw[q]at e;cases e
   | cons c r=>rw[q]at e;cases e;rfl
  .rw[tk1];cases q:cl w with
   | nil=>rw[q]at h;cases h
   | cons c r=>rw[q]at h;cases h;rfl
 have t1:ag8 (A9 eqD (Y8 (!0) J1<|D5 ⇑1) !"-") [[:.str w],Z]=Oa (.int (if isM w=true then 1 else 0)):=by
  unfold ag8;rw[B5 s1 rfl,N8 lay ∅ fm];rfl
 have s2:C7 1 (Y8 (!0) (D5<|ag8 (A9 eqD (Y8 (!0) J1<|D5 ⇑1) !"-")) J1) [[:.str w],Z]=Oa (.nx [[:.str w],[:.str (fg w)]]):=by
  have e:slS w (Oa (if isM w=true then 1 else 0)) Z=fg w:=by
   unfold fg;cases isM w with
   | true=>rfl
   | false=>exact Z2<|ae2 (q:=0)
  unfold C7;rw[aP6 (x:=w) (l:=Oa (if isM w=true then 1 else 0)) (h:=Z) rfl (ah5 t1) rfl (by grind) (by rw[e,E3];grind),e];rfl
 have q2:=(cG0 (x := "0123456789") (p:=dg) ∅ fb (i:=1) (ρ:=[[:.str w],[:.str (fg w)]]) rfl rfl).2
 have tst:E1 (tB2 eqD (!1) !"") (E1 (tB2 gtI (Y9 !1) ⇑9)<|tB2 neD (E5<|D2 1 [] (az0 !1) (D1 0) (tB2 (inS true) (!0) !"0123456789") !0) (E5 A8)) [[:.str w],[:.str (fg w)]]=Oa (!okO w):=by
  have z:(fg w).length<=16777216:=by omega
  refine(tO (q:=!decide ((fg w).length=0)) (w9 rfl rfl<|N8 fb.lay ∅ ?_) λ_=>tO (q:=!decide ((9:Int) < (fg w).length)) (by exists evD,Y9,if_pos z,Bool.not_not) λ_=>q2).trans ?_
  .rw[Bool.not_not,bv,beq_iff_eq,decide_eq_true_eq];exact#[λh=>by rw[h];rfl,λh=>Z2<|dm (by rw[E3];exact h)]
  .rw[show okO w=okN (fg w) by unfold okO fg;cases isM w<;>rfl];unfold okN;cases a:(cl<|fg w).all dg with
   | true =>
    have:=fb.d _ (dl _) a;rw[E3]at this;simp only[cz,<- decide_not,<- Bool.decide_and];exact congrArg Oa (decide_eq_decide.mpr<|by omega)
   | false=>simp only[bq]
 refine C4 (ρ:=[[:.str w],Z]) rfl ((B2 s2).trans<|(gn tst).trans ?_);unfold nD;cases q:okO w with
 | false=>rfl
 | true =>
  have ne:∀{u:Str},okN u=true->(∀c∈cl u,48<=c/\c<=57)/\cl u≠[]/\(num u:Int)=(NumText.digitsVal (cl u):Nat):=λ{u} h=>by
   have h':=h;unfold okN at h';simp only[ae,decide_eq_true_eq,ay]at h';exact#[λc hc=>of_decide_eq_true<|h'.2 c hc,λe=>by have:=h'.1.1;rw[<- E3,e]at this;simp at this,by unfold num;rw[h];rfl]
  have it:intText? w=Oa (off w):=by
   unfold okO at q;unfold off;cases m:isM w with
   | false =>
    rw[m]at q;obtain⟨a,b,c⟩:=ne q;rw[cond_false,c];exact intText_digits a b (by grind)
   | true =>
    rw[m]at q;obtain⟨a,b,c⟩:=ne q;rw[cond_true,c];refine intText_neg (cs:=cl<|tl w) ?_ a b (by grind);rw[bx4];unfold isM at m;show cl w=_;cases e:cl w with
    | nil=>rw[e]at m;cases m
    | cons c r =>
     rw[e]at m;have:c=45:=by simpa using m
     rw[this];rfl
  unfold B7 aG0;show((if w.length<=640 then(intText? w).map fB else Z).map _)=_
  have l9:w.length<=640:=by
   have:okN (fg w)=true:=by unfold fg;unfold okO at q;cases m:isM w<;>rw[m]at q<;>exact q
   unfold okN at this;simp only[ae]at this;have:=fb.d _ (dl _) this.2
   have e:(cl w).length<=(cl<|fg w).length+1:=by
    unfold fg;cases isM w
    .exact bM _
    .rw[cond_true,bx4,bc];grind
   rw[E3]at e
   grind
  rw[if_pos l9,it];rfl
def ce3{f:Str->D}{ok:Str->Bool}(h:∀p,fE (f p)=true/\fA (f p) .none = !ok p):∀ps:La Str,inL false .none (.list<|ps.map f)=Oa (.bool (!ps.all ok)):=λps=>by
 have key:∀ps:La Str,PyData.canLayAll0 (ps.map f)=true/\((ps.map f).any λz=>fA z .none) = !ps.all ok:=λps=>by
  induction ps with
  | nil=>exact#[rfl,rfl]
  | cons p ps ih =>
   rw[xmc,cN,aZ,ih.2,(h p).2];show(fE (f p)&&PyData.canLayAll0 (ps.map f))=true/\_;rw[ih.1,(h p).1,Bool.not_and];exact#[rfl,rfl]
 show(if _ then _ else _)=_;rw[if_pos #[rfl,(key ps).1,aA _],du,(key ps).2]
def nsD(w:Str)(c:Nat):D:=bif (ws w c).all okO then .list ((ws w c).map λp=>.int<|off p) else .none
def bE7(hw:Bw w)(hy:y=sg c):O7 [.str w,.str y]=Oa (nsD w c):=by
 subst hy;obtain⟨b1,b2⟩:=T0 hw c
 have n:=U2 (zd:=[]) (src:=G2 (dTx txS (!0) !1)) (e:=A7 Q8 {0}) (ρ:=[[:.str w],[:.str (sg c)],Z]) (l:=ws w c) (h:=fD) (f:=nD) (r:=[]) rfl (by
  unfold G2
  rw[aw5 rfl rfl,bQ1 hw];rfl) b2 λp hp=>(k1 rfl).trans (cf4 (b1 p hp))
 refine C4 (ρ:=[[:.str w],[:.str (sg c)],Z]) rfl ((B2 (ρ':=[[:.str w],[:.str (sg c)],[:.list ((ws w c).map nD)]]) (by unfold aa7;rw[n];rfl)).trans<|(gn<|w9 rfl rfl (ce3 (f:=nD) (ok:=okO) (λp=>by unfold nD;cases okO p<;>exact#[rfl,rfl])<|ws w c)).trans ?_);unfold nsD;cases q:(ws w c).all okO with
 | false=>rfl
 | true =>
  show Oa (Fl.rt<|PyData.list ((ws w c).map nD))=Oa (Fl.rt<|PyData.list _);rw[bJ λp hp=>by unfold nD;rw[ay.mp q p hp,cond_true]]
def shb:DS:=(B3 (C7 4<|A7 O7 {3,!"/"})<|B3 (sIf (E1 (tB2 isB (!4)<|dC .none)<|tB2 gtI (F7<|B0 4) ⇑2) (B7<|dC .none) D6) (N5 2<|N1 (qE<|S9 (A9 B4 (!4)<|E5 {⇑1}) J1 (D5 ⇑2))))
def cm7{a0 a1 a4:Ob B}(hp:Bw p)(hX:X.length < 10000):∃b4,shb [a0,a1,Oa (.own X),[:.str p],a4]=Oa (bif oL p then .nx [a0,a1,Oa (.own<|X++[prD (lsh p)]),[:.str p],b4] else .rt .none):=by
 refine#[[:nsD p 47],?_];have n:=bE7 hp sl_;unfold shb;refine(B2 (ρ':=[a0,a1,Oa (.own X),[:.str p],[:nsD p 47]]) (by exists evD,n)).trans ?_;unfold oL nsD lsh;cases q:(ws p 47).all okO with
 | false=>exact P3 rfl
 | true =>
  have hx:X.length < 16777216:=by grind
  rw[bS,cond_true];have ne:=(k7 p 47).2.2
  match ws p 47,ne with
  | [],ne=>exact absurd rfl ne
  | [a],_ =>
   refine(B2 (ρ':=[a0,a1,Oa (.own X),[:.str p],[:.list [.int (off a)]]]) rfl).trans ?_;unfold N5;show(if X.length < 16777216 then _ else _)=_;rw[if_pos hx];rfl
  | [a,b],_ =>
   refine(B2 (ρ':=[a0,a1,Oa (.own X),[:.str p],[:.list [.int (off a),.int (off b)]]]) rfl).trans ?_;unfold N5;show(if X.length < 16777216 then _ else _)=_;rw[if_pos hx];rfl
  | a::b::c::r,_ =>
   rw[decide_eq_false (show ¬(a::b::c::r).length<=2 by simp)];refine P3 ?_
   have g:tB2 gtI (F7<|B0 4) ⇑2 [a0,a1,Oa (.own X),[:.str p],[:.list ((a::b::c::r).map λp=>.int<|off p)]]=Oa true:=by
    have e:F7 (B0 4) [a0,a1,Oa (.own X),[:.str p],[:.list ((a::b::c::r).map λp=>.int<|off p)]]=Oa (.int ((a::b::c::r).length:Nat)):=by
     show Oa (fB (cY _:Nat))=_;rw[ai]
    unfold tB2;rw[B5 e rfl,bJ6,decide_eq_true (by simp only[ag];grind)];rfl
   unfold sIf E1;rw[g];rfl
theorem by9{a0 a1:Ob B}:∀(ps:La Str) (X:La D) (a3 a4:Ob B),(∀p∈ps,Bw p)->X.length+ps.length < 10000->∃b3 b4,m7 (D1 3) shb (sD ps) [a0,a1,Oa (.own X),a3,a4]=Oa (bif ps.all oL then .nx [a0,a1,Oa (.own<|X++ps.map λp=>prD<|lsh p),b3,b4] else .rt .none)
 | [],X,a3,a4,_,_=>#[a3,a4,by rw[xmn,ar];rfl]
 | p::ps,X,a3,a4,h,hl=>by
  rw[ag]at hl;obtain⟨c4,e⟩:=cm7 (a0:=a0) (a1:=a1) (a4:=a4) (X:=X) (h p<|by simp) (by omega);obtain⟨b3,b4,i⟩:=by9 (a0:=a0) (a1:=a1) ps (X++[prD (lsh p)]) ([:.str p]) c4 (λq hq=>h q<|xmm _ hq) (by rw[aj,bW];omega);refine#[b3,b4,?_];unfold m7 sD;show(shb [a0,a1,Oa (.own X),[:.str p],a4]).bind _=_;rw[e,aZ];cases q:oL p with
  | false=>rfl
  | true =>
   refine i.trans ?_;rw[au];rfl
def i9(w:Str)(c:Nat):D:=bif oLs c w then spD (U3 c w) else .none
def cK1(hw:Bw w)(hy:y=sg c):O6 [.str w,.str y]=Oa (i9 w c):=by
 subst hy;obtain⟨b1,b2⟩:=T0 hw c;obtain⟨b3,b4,lp⟩:=by9 (a0:=[:.str w]) (a1:=[:.str (sg c)]) (ws w c) [] Z Z b1 (by simp;omega);refine C4 (ρ:=[[:.str w],[:.str (sg c)],Z,Z,Z]) rfl ?_;unfold aB2;refine(B2 (ρ':=[[:.str w],[:.str (sg c)],Oa (.own []),Z,Z]) rfl).trans ?_
 have f:=(show ab1 (G2 (dTx txS (!0) !1)) (D1 3) shb [[:.str w],[:.str (sg c)],Oa (.own []),Z,Z]=m7 (D1 3) shb (sD (ws w c)) [[:.str w],[:.str (sg c)],Oa (.own []),Z,Z] by
  unfold ab1 G2
  rw[aw5 rfl rfl,bQ1 hw];rfl).trans lp
 unfold i9 oLs;cases q:(ws w c).all oL with
 | false =>
  rw[q]at f;exact P3 f
 | true =>
  rw[q]at f;refine(B2 f).trans ?_;show Oa (Fl.rt<|PyData.tuple ((ws w c).map λp=>prD<|lsh p))=Oa (Fl.rt<|PyData.tuple (((ws w c).map lsh).map prD));rw[bw];rfl
abbrev wD(W:La Str):Ob B:=[:.list (sD W)]
def At.len(A:At W k r):W.length=k+r.length:=by
 have e:=congrArg cY A.e;have:=A.l;rw[bc]at e
 grind
def bI4(A:At W k r)(i:Nat){f:DE}(h:r[i]? = Oa w)(hf:f (wD W::y)=Oa (.int<|(k:Int)+(i:Int))):dIx (B0 0) f (wD W::y)=Oa (.str w):=by
 rw[W1 (q:=(false,sD W)) rfl hf,show(k:Int)+(i:Int)=((k+i:Nat):Int) by grind];refine L4 ?_;rw[aH,<- List.getElem?_drop,A.e,h];rfl
def cg8(A:At W k r)(n:Nat):Z0 (sD W) (Oa (k:Int)) (Oa ((k+n:Nat):Int))=sD (r.take n):=by
 have l:=A.len;unfold Z0;rw[HT.sIx_nat,HT.sIx_nat,ai,eA A.l,<- dI,A.e,<- dJ]
 congr 1
 by_cases h:n<=r.length
 .rw[show min (k+n) W.length - k=n by omega]
 .rw[show min (k+n) W.length - k=r.length by omega,aY (ak _),aY (by omega)]
def lyD(k:Nat):Ob (Ly×La Str)->D
 | none=>.none
 | some (y,_)=>.tuple [.tuple [.int y.1,.int y.2.1,mkD y.2.2.1,T9 y.2.2.2],.int k]
def cM2{w:Str}(h:A6 i y=Oa (nD w)):tB2 isB (A6 i) (dC .none) y=Oa (!okO w):=by
 unfold tB2;rw[B5 h rfl];unfold nD;cases okO w<;>rfl
def cd0(h:oSd z=true):nsD z 120=.list [.int (lsd z).1,.int (lsd z).2]:=by
 unfold oSd at h;simp only[ae,beq_iff_eq]at h;unfold nsD lsd;rw[h.1]
 match ws z 120,h.2 with
 | [a,b],_=>rfl
def aR8(h:Bw w):(off w).natAbs < 10 ^ 7:=by
 have h1:=ap0 h;have h2:=ap0 (bf6 h);unfold off;cases isM w
 .show((num w:Int)).natAbs < _;omega
 .show(-(num (tl w):Int)).natAbs < _;omega
def cf0(hz:Bw z):Ba (lsd z):=by
 have b:=(T0 hz 120).1;have zz:Ba (0,0):=#[by decide,by decide];unfold lsd
 match e:ws z 120 with
 | []=>exact zz
 | [_]=>exact zz
 | [x,y] =>
  rw[e]at b;exact#[aR8 (b x<|by simp),aR8<|b y (by simp)]
 | _::_::_::_=>exact zz
def cF9(c:Nat)(p:Str):fE (i9 p c)=true/\fA (i9 p c) .none = !oLs c p:=by
 unfold i9;cases oLs c p
 .exact#[rfl,rfl]
 .exact#[(bW4 _).1,rfl]
def ch2{f:DE}(hf:f y=Oa (.str w))(hw:Bw w):A7 Q8 {(f)} y=Oa (nD w):=by
 unfold A7 A0;rw[hf];exact cf4 hw
def bM6{f:DE}(hf:f z=Oa (.str w))(hw:Bw w)(hy:y=sg c):A7 O6 {(f),dC<|.str y} z=Oa (i9 w c):=by
 unfold A7 A0;rw[hf];exact cK1 hw hy
def bM7{f:DE}(hf:f z=Oa (.str w))(hw:Bw w)(hy:y=sg c):A7 O7 {(f),dC<|.str y} z=Oa (nsD w c):=by
 unfold A7 A0;rw[hf];exact bE7 hw hy
def bZ6{r:La Str}(h:¬r.length < 4):∃l t m z r',r=l::t::m::z::r':=by
 match r,h with
 | [],h=>simp at h
 | [_],h=>simp at h
 | [_,_],h=>simp at h
 | [_,_,_],h=>simp at h
 | l::t::m::z::r,_=>exact#[l,t,m,z,r,rfl]
abbrev u8(W:La Str)(k:Nat)(l t:Str)(c d:D)(e f:Ob B):Rho:=[wD W,[:.int k],[:nD l],[:nD t],[:c],[:d],e,f]
def cK5(A:At W k r)(hb:∀p∈r,Bw p)(hl:r.length<=1000):∃k',S2 [.list (sD W),.int k]=Oa (lyD k'<|am7 r)/\∀y r',am7 r=Oa (y,r')->At W k' r':=by
 have len:=A.len
 have t0:tB2 gtI (A9 B4 (!1) ⇑4) (F7<|B0 0) [wD W,[:.int k],Z,Z,Z,Z,Z,Z]=Oa (decide (r.length < 4)):=by
  unfold tB2;rw[B5 ((B5 rfl rfl).trans<|O4 k 4) (y:=.int (sD W).length) rfl,bJ6,ai];exact congrArg Oa (decide_eq_decide.mpr<|by grind)
 by_cases h4:r.length < 4
 .have e:am7 r=Z:=by
   match r,h4 with
   | [],_=>rfl
   | [_],_=>rfl
   | [_,_],_=>rfl
   | [_,_,_],_=>rfl
   | _::_::_::_::_,h=>simp at h;grind
  rw[decide_eq_true h4]at t0;rw[e];exact#[0,C4 (ρ:=[wD W,[:.int k],Z,Z,Z,Z,Z,Z]) rfl<|P3 (Y3 t0),nofun]
 rw[decide_eq_false h4]at t0;obtain⟨l,t,m,z,r,rfl⟩:=bZ6 h4;simp only[ag]at hl len;have hm:=hb m (by simp);have hz:=hb z (by simp)
 have i:∀{ρ:Rho}(j:Nat) {J:Int}{w:Str},(l::t::m::z::r)[j]? = Oa w->J=(j:Int)->dIx (B0 0) (A9 B4 (!1)<|dC (.int J)) (wD W::[:.int k]::ρ)=Oa (.str w):=λ{ρ} j J w h e=>by
  subst e;exact bI4 A j h<|(B5 rfl rfl).trans (O4 _ _)
 have go:∀x:D,(B3 al2<|B3 X1 (B3 al1<|B3 u3 (B3 u0 i8))) (u8 W k l t (i9 m 44) (nsD z 120) Z Z)=Oa (.rt x)->S2 [.list (sD W),.int k]=Oa x:=λx e=>C4 (ρ:=[wD W,[:.int k],Z,Z,Z,Z,Z,Z]) rfl ((B2<|R9 t0).trans<|(B2<|se2 (ch2 (bI4 A 0 rfl (by show Oa (fB k)=_;rw[show(k:Int)+((0:Nat):Int)=k by grind]))<|hb l (by simp))).trans ((B2<|se3 (ch2 (i 1 rfl rfl)<|hb t (by simp))).trans<|(B2<|se4 (bM6 (i 2 rfl rfl) hm cm_)).trans ((B2<|se5 (bM7 (i 3 rfl rfl) hz ex_)).trans e)))
 have no:(okO l&&okO t&&oSd z)=false\/oMk m=false\/(decide (0<=lM z)&&decide (lM z<=r.length)&&(r.take (lM z).toNat).all (oLs 58))=false->S2 [.list (sD W),.int k]=Oa .none->∃k',S2 [.list (sD W),.int k]=Oa (lyD k'<|am7 (l::t::m::z::r))/\∀y r',am7 (l::t::m::z::r)=Oa (y,r')->At W k' r':=λh e=>by
  have:aC6 l t m z r=false:=by
   unfold aC6;rw[dw (okO l&&okO t&&oSd z&&oMk m)];rcases h with h|h|h
   .rw[h];rfl
   .rw[h,bq,ce]
   .rw[h,bq]
  have:am7 (l::t::m::z::r)=Z:=by
   show(bif aC6 l t m z r then _ else _)=_;rw[this];rfl
  rw[this];exact#[0,e,nofun]
 have t5:E1 (tB2 isB (!2)<|dC .none) (E1 (tB2 isB (!3)<|dC .none)<|E1 (tB2 isB (!5)<|dC .none) (tB2 neD (F7<|B0 5) ⇑2)) (u8 W k l t (i9 m 44) (nsD z 120) Z Z)=Oa (!(okO l&&okO t&&oSd z)):=by
  unfold E1;rw[cM2 (w:=l) rfl,cM2 (w:=t) rfl];cases okO l
  .rfl
  cases okO t
  .rfl
  unfold oSd nsD;cases(ws z 120).all okO
  .rfl
  exact bi7 2 (l:=ws z 120) (f:=λp=>fB<|off p) (g:=B0 5) (ρ:=u8 W k l t (i9 m 44) (.list<|(ws z 120).map λp=>fB<|off p) Z Z) (c:=false) rfl rfl
 cases q5:okO l&&okO t&&oSd z with
 | false =>
  rw[q5]at t5;exact no (.inl q5)<|go _ (P3<|Y3 t5)
 | true =>
  rw[q5]at t5;have q5':=q5;simp only[ae]at q5';rw[cd0 q5'.2]at go t5
  have s6:X1 (u8 W k l t (i9 m 44) (.list [.int (lsd z).1,.int (lsd z).2]) Z Z)=Oa (bif oMk m then .nx (u8 W k l t (mkD<|lmk m) (.list [.int (lsd z).1,.int (lsd z).2]) Z Z) else .rt .none):=by
   unfold X1 sIf tB2;rw[B5 (i (J:=2) 2 rfl rfl) rfl,N8 hm.lay ∅ rfl];unfold oMk lmk i9;cases m==(".":Str)
   .cases oLs 44 m<;>rfl
   .rfl
  cases q6:oMk m with
  | false =>
   rw[q6]at s6;exact no (.inr<|.inl q6)<|go _ ((B2<|R9 t5).trans<|P3 s6)
  | true =>
   rw[q6]at s6;have lb:=cf0 hz;have mx:∀{a b c d e:Ob B}{ρ:Rho},A9 G7 (dIx (B0 5) ⇑0) (dIx (B0 5) ⇑1) (a::b::c::d::e::[:.list [.int (lsd z).1,.int (lsd z).2]]::ρ)=Oa (.int<|lM z):=λ{a b c d e ρ}=>(B5 rfl rfl).trans<|ay2 (sml lb.1) (sml lb.2)
   have A4:=A.drop 4 (by simp)
   have mx2:∀{a b c d e:Ob B}{ρ:Rho},aU9 ⇑0 (A9 G7 (dIx (B0 5) ⇑0)<|dIx (B0 5) ⇑1) (a::b::c::d::e::[:.list [.int (lsd z).1,.int (lsd z).2]]::ρ)=Oa (.int ((lM z).toNat:Nat)):=λ{a b c d e ρ}=>by
    unfold aU9;rw[mx];show Oa (fB (if lM z > 0 then lM z else 0))=_
    congr 2
    split<;>grind
   have c8:=U2 (zd:=[]) (src:=G2 (S9 (!0) (D5 (A9 B4 (!1) ⇑4)) (D5 !6))) (ρ:=u8 W k l t (mkD (lmk m)) (.list [.int (lsd z).1,.int (lsd z).2]) ([:.int ((k:Int)+4+((lM z).toNat:Nat))]) Z) (e:=A7 O6 {0,!":"}) (l:=r.take (lM z).toNat) (h:=fD) (f:=λp=>i9 p 58) (r:=[]) rfl (by
    unfold G2 S9;rw[ah5 (i:=((k+4:Nat):Int)) ((B5 rfl rfl).trans<|O4 _ _),ah5 (f:=A6 6) (i:=((k+4+(lM z).toNat:Nat):Int)) rfl];show Oa (Z0 (sD W) (Oa ((k+4:Nat):Int))<|Oa ((k+4+(lM z).toNat:Nat):Int))=_
    rw[cg8 A4];rfl) (by rw[aW];grind) λp hp=>bM6 rfl (hb p (by simp[(cA _ _).subset hp])) co_
   have t9:E1 (tB2 neD (F7<|B0 7)<|A9 G7 (dIx (B0 5) ⇑0) (dIx (B0 5) ⇑1)) (tB2 (inL false) (dC .none) !7) (u8 W k l t (mkD<|lmk m) (.list [.int (lsd z).1,.int (lsd z).2]) ([:.int ((k:Int)+4+((lM z).toNat:Nat))])<|[:.list ((r.take (lM z).toNat).map λp=>i9 p 58)])=Oa (!(decide (0<=lM z)&&decide (lM z<=r.length)&&(r.take (lM z).toNat).all (oLs 58))):=by
    unfold E1 tB2;rw[B5 (x:=.int ((r.take (lM z).toNat).map λp=>i9 p 58).length) rfl mx,aS2,B5 (x:=.none) (y:=.list<|(r.take (lM z).toNat).map λp=>i9 p 58) rfl rfl,ce3 (f:=λp=>i9 p 58) (cF9 58)];have:((((r.take (lM z).toNat).map λp=>i9 p 58).length:Int)==lM z)=(decide (0<=lM z)&&decide (lM z<=r.length)):=by rw[bv,beq_iff_eq,ae,decide_eq_true_eq,decide_eq_true_eq,ai,aW];grind
    rw[this];cases decide (0<=lM z)&&decide (lM z<=r.length)<;>rfl
   have chain:∀x:D,(B3 u0 i8) (u8 W k l t (mkD<|lmk m) (.list [.int (lsd z).1,.int (lsd z).2]) ([:.int ((k:Int)+4+((lM z).toNat:Nat))])<|[:.list ((r.take (lM z).toNat).map λp=>i9 p 58)])=Oa (.rt x)->S2 [.list (sD W),.int k]=Oa x:=λx e=>go _ ((B2<|R9 t5).trans<|(B2 s6).trans ((B2<|se6 ((B5 ((B5 rfl rfl).trans<|O4 k 4) mx2).trans<|O4 _ _)).trans<|(B2 (by unfold u3 aa7;rw[c8];rfl)).trans e))
   cases q9:decide (0<=lM z)&&decide (lM z<=r.length)&&(r.take (lM z).toNat).all (oLs 58) with
   | false =>
    rw[q9]at t9;exact no (.inr<|.inr q9)<|chain _ (P3<|Y3 t9)
   | true =>
    rw[q9]at t9;have q9':=q9;simp only[ae,decide_eq_true_eq]at q9'
    have e:am7 (l::t::m::z::r)=Oa ((off l,off t,lmk m,(lsd z).1,(lsd z).2,(r.take (lM z).toNat).map<|U3 58),r.drop (lM z).toNat):=by
     show(bif aC6 l t m z r then _ else _)=_;unfold aC6;rw[dw (okO l&&okO t&&oSd z&&oMk m),q5,q6,q9];rfl
    refine#[k+4+(lM z).toNat,chain _<|(B2<|R9 t9).trans ?_,λy r' h=>?_]
    .rw[e];show Oa (Fl.rt<|PyData.tuple [.tuple [nD l,nD t,mkD (lmk m),.tuple [.int (lsd z).1,.int (lsd z).2,.tuple ((r.take (lM z).toNat).map λp=>i9 p 58)]],.int _])=Oa (Fl.rt<|PyData.tuple [.tuple [.int (off l),.int (off t),mkD (lmk m),.tuple [.int (lsd z).1,.int (lsd z).2,.tuple (((r.take (lM z).toNat).map<|U3 58).map spD)]],.int _]);have n:∀{w:Str},okO w=true->nD w=.int (off w):=λ{w} h=>by unfold nD;rw[h];rfl
     rw[n q5'.1.1,n q5'.1.2,bw,bJ (g:=spD ∘ U3 58) λp hp=>by unfold i9;rw[ay.mp q9'.2 p hp];rfl];rfl
    .rw[e]at h;cases h;exact A4.drop _ (by simp only[List.drop_succ_cons,dv];grind)
def cs5(h:Bw w):Ba (lsh w):=by
 have b:=(T0 h 47).1;have one:(1:Int).natAbs < 10 ^ 7:=by decide
 unfold lsh
 match e:ws w 47 with
 | []=>exact#[by decide,by decide]
 | [x]=>rw[e]at b;exact#[aR8 (b x<|by simp),one]
 | x::y::_=>rw[e]at b;exact#[aR8 (b x<|by simp),aR8<|b y (by simp)]
def aK5(h:Bw w)(c:Nat):(U3 c w).length<=1000/\∀s∈U3 c w,Ba s:=by
 obtain⟨h1,h2⟩:=T0 h c;refine#[by rw[ai];exact h2,λs hs=>?_];obtain⟨p,hp,rfl⟩:=aV.mp hs;exact cs5<|h1 p hp
def cs3(h:Bw w):Ba (lst w):=by
 unfold lst;have:=(aK5 h 44).2;cases e:U3 44 w with
 | nil=>exact#[by decide,by decide]
 | cons x y=>exact this x (by rw[e];simp)
structure Ql (d:Nat) (r:List Str) (n:Rw) (r':List Str):Prop where
 b:Bn true n
 d:n.dp<=d
 l:(nw n).length+r'.length=r.length
 h:1<=(nw n).length
 s:r' <:+ r
structure Qm (d:Nat) (r:List Str) (ns:List Rw) (r':List Str):Prop where
 b:Bns true ns
 d:Rw.dps ns<=d
 l:(nws ns).length+r'.length=r.length
 h:ns.length<=(nws ns).length
 s:r' <:+ r
def ct4(hb:∀p∈r,Bw p)(hl:r.length<=1000)(e:am7 r=Oa (y,r')):(∀l,y.2.2.1=Oa l->l.length<=1000/\∀s∈l,Ba s)/\Bt y.2.2.2/\(lyW y.1 y.2.1 y.2.2.1 y.2.2.2).length+r'.length=r.length/\r' <:+ r:=by
 match r,hb,hl,e with
 | [],_,_,e=>cases e
 | [_],_,_,e=>cases e
 | [_,_],_,_,e=>cases e
 | [_,_,_],_,_,e=>cases e
 | l::t::m::z::r,hb,hl,e =>
  rw[show am7 (l::t::m::z::r)=bif aC6 l t m z r then Oa ((off l,off t,lmk m,(lsd z).1,(lsd z).2,(r.take (lM z).toNat).map<|U3 58),r.drop (lM z).toNat) else Z from rfl]at e;cases q:aC6 l t m z r with
  | false=>rw[q]at e;cases e
  | true =>
   rw[q]at e;cases e;unfold aC6 at q;simp only[ae,decide_eq_true_eq]at q;simp only[ag]at hl;refine#[λl h=>?_,#[?_,λl h=>?_],?_,(db _ r).trans #[[_,_,_,_],rfl]]
   .have h:lmk m=Oa l:=h;unfold lmk at h;cases q:m==(".":Str) with
    | true=>rw[q]at h;cases h
    | false =>
     rw[q]at h;cases h;exact aK5 (hb m<|by simp) 44
   .show((r.take (lM z).toNat).map<|U3 58).length<=1000;rw[ai,aW];grind
   .obtain⟨p,hp,rfl⟩:=aV.mp h;exact aK5 (hb p<|by simp[(cA _ _).subset hp]) 58
   .simp only[lyW,wt,ag,ai,aW,bc]
    grind
def cK6{inn:La Str->Ob (La Rw×La Str)}(H:∀r ns r',(∀p∈r,Bw p)->r.length<=1000->inn r=Oa (ns,r')->Qm d r ns r')(hb:∀p∈r,Bw p)(hl:r.length<=1000)(e:lN inn r=Oa (n,r')):Ql (d+1) r n r':=by
 match r,hb,hl,e with
 | [],_,_,e=>cases e
 | [_],_,_,e=>cases e
 | [_,_],_,_,e=>cases e
 | [_,_,_],_,_,e=>cases e
 | [_,_,_,_],_,_,e=>cases e
 | k::a::m::s::v::r,hb,hl,e =>
  have ba:=hb a (by simp);have bm:=hb m (by simp);have bs:=cs3 (hb s<|by simp);have br:∀p∈r,Bw p:=λp hp=>hb p (by simp[hp])
  have s5:r <:+ k::a::m::s::v::r:=#[[_,_,_,_,_],rfl];simp only[ag]at hl;rw[show lN inn (k::a::m::s::v::r)=lNb inn k a m s v r from rfl]at e;unfold lNb at e;cases q0:(v==("+":Str) || v==("-":Str))&&oLs 44 s with
  | false=>rw[q0]at e;cases e
  | true =>
   rw[q0,cond_true]at e;cases q1:k==("tone":Str) with
   | true =>
    rw[q1]at e;cases e;have:=beq_iff_eq.mp q1;subst this;obtain⟨t1,t2,_⟩:=ba4;exact#[by rw[Bn];exact#[hb _ (by simp),ba,bm,bs,t1,t2],by rw[Rw.dp.eq_def];exact aA _,by rw[nw];simp only[hdW,ag,aU];grind,by rw[nw];simp[hdW],s5]
   | false =>
    rw[q1,cond_false]at e;cases q2:k==("layer":Str) with
    | true =>
     rw[q2,cond_true]at e;obtain⟨⟨y,r2⟩,e2,e3⟩:=xmo e;cases e3;obtain⟨y1,y2,y3,y4⟩:=ct4 br (by grind) e2;exact#[by rw[Bn];exact#[ba,bm,bs,y1,λst h=>by cases h;exact y2,λ_=>rfl],by rw[Rw.dp.eq_def];exact aA _,by rw[nw,aj];simp only[hdW,ag,aU];grind,by rw[nw];simp[hdW],y4.trans s5]
    | false =>
     rw[q2,cond_false]at e;cases q3:k==("group":Str) with
     | false=>rw[q3]at e;cases e
     | true =>
      rw[q3,cond_true]at e;obtain⟨⟨ns,r2⟩,e2,e3⟩:=xmo e;cases e3
      match r,br,hl,e2,s5 with
      | [],_,_,e2,_=>cases e2
      | b::r,br,hl,e2,s5 =>
       rw[lG]at e2;rw[ag]at hl;cases q4:b==("[":Str) with
       | false=>rw[q4]at e2;cases e2
       | true =>
        rw[q4,cond_true]at e2
        match e5:inn r with
        | none=>rw[e5]at e2;cases e2
        | some (ms,[])=>rw[e5]at e2;cases e2
        | some (ms,c::r3) =>
         rw[e5]at e2;dsimp only at e2;cases q5:c==("]":Str) with
         | false=>rw[q5]at e2;cases e2
         | true =>
          rw[q5]at e2;cases e2;have i:=H r _ _ (λp hp=>br p<|by simp[hp]) (by grind) e5;have il:=i.l;have ih:=i.h;rw[ag]at il;refine#[by rw[Bn];exact#[ba,bm,bs,by dsimp only;grind,i.b],by rw[Rw.dp];exact ck i.d,by rw[nw];simp only[hdW,aj,ag,aU];grind,by rw[nw];simp[hdW],?_];exact((List.suffix_cons _ _).trans i.s).trans ((List.suffix_cons _ _).trans s5)
theorem bE9{nd:La Str->Ob (Rw×La Str)}(H:∀r n r',(∀p∈r,Bw p)->r.length<=1000->nd r=Oa (n,r')->Ql d r n r'):∀(j:Nat) (r:La Str) (ns:La Rw) (r':La Str),(∀p∈r,Bw p)->r.length<=1000->lNs nd j r=Oa (ns,r')->Qm d r ns r'
 | 0,_,_,_,_,_,e=>by cases e
 | _+1,[],_,_,_,_,e=>by
  cases e;exact#[by rw[Bns];trivial,by rw[Rw.dps];exact aA _,by rw[nws];simp,by rw[nws];simp,bE _]
 | j+1,w::r,ns,r',hb,hl,e=>by
  rw[lNs]at e;cases q:w==("]":Str) with
  | true =>
   rw[q]at e;cases e;exact#[by rw[Bns];trivial,by rw[Rw.dps];exact aA _,by rw[nws];simp,by rw[nws];simp,bE _]
  | false =>
   rw[q,cond_false]at e;obtain⟨⟨n,r2⟩,e1,e2⟩:=xbo e;obtain⟨⟨ms,r3⟩,e3,e4⟩:=xmo e2;cases e4;have a:=H _ _ _ hb hl e1;have al:=a.l;have ah:=a.h;have i:=bE9 H j r2 ms _ (λp hp=>hb p<|a.s.subset hp) (by grind) e3;have il:=i.l;have ih:=i.h;exact#[by rw[Bns];exact#[a.b,i.b],by rw[Rw.dps];exact Nat.max_le.mpr #[a.d,i.d],by rw[nws,aj];dsimp only;grind,by rw[nws,aj,ag];dsimp only;grind,i.s.trans a.s]
theorem ct5:∀(d:Nat) (r:La Str) (ns:La Rw) (r':La Str),(∀p∈r,Bw p)->r.length<=1000->lI d r=Oa (ns,r')->Qm d r ns r'
 | 0,r,ns,r',hb,hl,e=>bE9 (λ_ _ _ _ _ e=>by cases e) 1000 r ns r' hb hl e
 | d+1,r,ns,r',hb,hl,e=>bE9 (λ_ _ _ hb hl e=>cK6 (ct5 d) hb hl e) 1000 r ns r' hb hl e
abbrev en(W:La Str)(k:Nat)(d:Int)(X:La D)(a b c:Ob B):Rho:=[wD W,[:.int k],[:.int d],Oa (.own X),a,b,c]
def bG(self:La D->Ob D):DS:=(B3 (sIf (E1 (tB2 neD (dIx (B0 5) ⇑0) !"group")<|tB2 neD (S9 (!0) (D5<|A9 B4 (!1) ⇑5)<|D5 (A9 B4 (!1) ⇑6)) (E5 {!"["})) (B7<|dC .none) D6)<|B3 (C7 6<|A7 self {0,A9 B4 (!1) ⇑6,A9 ak9 (!2) ⇑1}) (B3 (sIf (E1 (tB2 isB (!6)<|dC .none)<|tB2 neD (S9 (!0) (D5<|dIx (B0 6) ⇑1)<|D5 (A9 B4 (dIx (B0 6) ⇑1) ⇑1)) (E5 {!"]"})) (B7<|dC .none) D6)<|B3 (N5 3<|A9 B4 (!5) (L9 {dIx (B0 6) ⇑0})) (C7 1<|A9 B4 (dIx (B0 6) ⇑1) ⇑1)))
def bL:DS:=(B3 (C7 6<|A7 S2 {0,A9 B4 (!1) ⇑5})<|B3 (sIf (tB2 isB (!6)<|dC .none) (B7<|dC .none) D6) (B3 (N5 3<|A9 B4 (!5) (dIx (B0 6) ⇑0))<|C7 1 (dIx (B0 6) ⇑1)))
def bT(self:La D->Ob D):DS:=(sIf (tB2 eqD (dIx (B0 5) ⇑0) !"tone") (B3 (N5 3 !5)<|C7 1 (A9 B4 (!1) ⇑5))<|sIf (tB2 eqD (dIx (B0 5) ⇑0) !"layer") bL (bG self))
def bA(self:La D->Ob D):DS:=(B3 (sIf (E1 (tB2 gtI (A9 B4 (!1) ⇑5)<|F7 (B0 0))<|E1 (tB2 (inL true) (dIx (B0 0)<|A9 B4 (!1) ⇑4)<|L9 {!"+",!"-"}) (tB2 ltI (!2) ⇑0)) (B7<|dC .none) D6)<|B3 (C7 4<|A7 O6 {dIx (B0 0)<|A9 B4 (!1) ⇑3,!","}) (B3 (sIf (tB2 isB (!4)<|dC .none) (B7<|dC .none) D6)<|B3 (C7 5<|L9 {dIx (B0 0) !1,dIx (B0 0)<|A9 B4 (!1) ⇑1,dIx (B0 0)<|A9 B4 (!1) ⇑2,dIx (B0 4) ⇑0,A9 eqD (dIx (B0 0)<|A9 B4 (!1) ⇑4) !"+"}) (bT self)))
section
variable {W:La Str}{k:Nat}{d:Int}{X:La D}{a b c:Ob B}{self:La D->Ob D}
def bE4:F7 (B0 0) (en W k d X a b c)=Oa (.int W.length):=by
 show Oa (fB (sD W).length)=_;rw[ai]
def aT1(A:At W k r)(i:Nat)(h:r[i]? = Oa w){j:Int}(hj:j=(i:Int)):dIx (B0 0) (A9 B4 (!1)<|dC (.int j)) (en W k d X a b c)=Oa (.str w):=by
 subst hj;exact bI4 A i h<|(B5 rfl rfl).trans (O4 _ _)
def bk8{r:La Str}(h:¬r.length < 5):∃k n m s v r',r=k::n::m::s::v::r':=by
 match r,h with
 | [],h=>simp at h
 | [_],h=>simp at h
 | [_,_],h=>simp at h
 | [_,_,_],h=>simp at h
 | [_,_,_,_],h=>simp at h
 | k::n::m::s::v::r,_=>exact#[k,n,m,s,v,r,rfl]
def cN4(A:At W k r):tB2 gtI (A9 B4 (!1) ⇑5) (F7<|B0 0) (en W k d X a b c)=Oa (decide (r.length < 5)):=by
 have:=A.len;unfold tB2;rw[B5 ((B5 rfl rfl).trans<|O4 k 5) bE4,bJ6];show Oa (decide ((W.length:Int) < k+5))=_
 congr 1
 exact decide_eq_decide.mpr (by omega)
def plm(A:At W k (k0::n::m::s::v::r))(hv:Bw v):tB2 (inL true) (dIx (B0 0)<|A9 B4 (!1) ⇑4) (L9 {!"+",!"-"}) (en W k d X a b c)=Oa (!(v==("+":Str) || v==("-":Str))):=by
 have i:inL true (.str v) (.tuple [.str "+", .str "-"])=_:=an2 true hv.lay ["+","-"] ∅;unfold tB2;rw[B5 (aT1 A 4 rfl (j:=4) rfl) (y:=.tuple [.str "+", .str "-"]) rfl,i,cM];show Oa (!((("+":Str)==v) || ((("-":Str)==v) || false)))=_;rw[cZ,show(("+":Str)==v)=_ from BEq.comm,show(("-":Str)==v)=_ from BEq.comm]
def ch3(A:At W k r)(hb:∀p∈r,Bw p)(h:r.length < 5\/d < 0):bA self (en W k d X a b c)=Oa (.rt .none):=by
 refine P3 ((Y3 (?_:E1 _ _ _=Oa true)).trans rfl);unfold E1;rw[cN4 A];by_cases q:r.length < 5
 .rw[decide_eq_true q];rfl
 .obtain⟨k0,n,m,s,v,r,rfl⟩:=bk8 q
  .rw[decide_eq_false q,plm A (hb v<|by simp)]
   have t:tB2 ltI (!2) ⇑0 (en W k d X a b c)=Oa true:=by
    unfold tB2;rw[B5 (x:=.int d) (y:=.int 0) rfl rfl,ba0,decide_eq_true (h.resolve_left q)];rfl
   rw[t];cases v==("+":Str) || v==("-":Str)<;>rfl
def cU5(A:At W k (k0::n::m::s::v::r))(hs:Bw s)(hv:Bw v)(hd:0<=d):bA self (en W k d X a b c)=bif (v==("+":Str) || v==("-":Str))&&oLs 44 s then bT self (en W k d X ([:spD (U3 44 s)]) ([:hdD k0 n m (lst s) (v==("+":Str)) []]) c) else Oa (.rt .none):=by
 have t1:E1 (tB2 gtI (A9 B4 (!1) ⇑5)<|F7 (B0 0)) (E1 (tB2 (inL true) (dIx (B0 0)<|A9 B4 (!1) ⇑4)<|L9 {!"+",!"-"})<|tB2 ltI (!2) ⇑0) (en W k d X a b c)=Oa (!(v==("+":Str) || v==("-":Str))):=by
  have t:tB2 ltI (!2) ⇑0 (en W k d X a b c)=Oa false:=by
   unfold tB2;rw[B5 (x:=.int d) (y:=.int 0) rfl rfl,ba0,decide_eq_false (by grind)];rfl
  unfold E1;rw[cN4 A,decide_eq_false (by simp),plm A hv,t];cases v==("+":Str) || v==("-":Str)<;>rfl
 refine(gn t1).trans ?_;cases v==("+":Str) || v==("-":Str) with
 | false=>rfl
 | true =>
  refine(B2<|se4 (bM6 (aT1 A 3 rfl rfl) hs cm_)).trans ?_;rw[bS];unfold i9;cases oLs 44 s with
  | false=>rfl
  | true =>
    refine(B2 (ρ':=en W k d X ([:spD (U3 44 s)]) b c) rfl).trans (B2 ?_);have x0:dIx (B0 0) (!1) (en W k d X ([:spD (U3 44 s)]) b c)=Oa (.str k0):=bI4 A 0 rfl (by show Oa (fB k)=_;rw[show(k:Int)+((0:Nat):Int)=k by grind]);have x1:dIx (B0 0) (A9 B4 (!1) ⇑1) (en W k d X ([:spD (U3 44 s)]) b c)=Oa (.str n):=aT1 A 1 rfl rfl;have x2:dIx (B0 0) (A9 B4 (!1) ⇑2) (en W k d X ([:spD (U3 44 s)]) b c)=Oa (.str m):=aT1 A 2 rfl rfl;have x4:dIx (B0 0) (A9 B4 (!1) ⇑4) (en W k d X ([:spD (U3 44 s)]) b c)=Oa (.str v):=aT1 A 4 rfl rfl;have x5:A9 eqD (dIx (B0 0)<|A9 B4 (!1) ⇑4) (!"+") (en W k d X ([:spD (U3 44 s)]) b c)=Oa (.bool<|v==("+":Str)):=(B5 x4 rfl).trans (N8 hv.lay ∅ rfl)
    have x3:dIx (B0 4) ⇑0 (en W k d X ([:spD (U3 44 s)]) b c)=Oa (prD<|lst s):=by
     have ne:=(k7 s 44).2.2;unfold lst U3
     match ws s 44,ne with
     | x::y,_=>exact(W1 (q:=(true,(prD<|lsh x)::(y.map lsh).map prD)) rfl rfl).trans (L4 (j:=0) rfl)
     | [],ne=>exact absurd rfl ne
    unfold C7 L9;simp only[A0,A8,x0,x1,x2,x3,x5,xbs,xms];rfl
end
def NdR(W:La Str)(d:Int)(X:La D)(x:Ob Fl):Ob (Rw×La Str)->Prop
 | none=>x=Oa (.rt .none)
 | some (n,r)=>∃k a b c,At W k r/\x=Oa (.nx<|en W k d (X++[n.d]) a b c)
def nsR(k:Nat):Ob (La Rw×La Str)->D
 | none=>.none
 | some (ns,_)=>.tuple [.tuple (Rw.ds ns),.int k]
noncomputable def bK1:La Str->Str->Bool
 | [],_=>false
 | p::_,c=>p==c
def cS2{x:La Str}(hx:∀p∈x,Bw p){c:Str}(hc:fE (.str c)=true):neD (.list<|sD (x.take 1)) (.list [.str c])=Oa (.bool (!bK1 x c)):=by
 have s2:fy (.list [.str c])=true:=(Lx.lst (n:=0) λy hy=>by rw[aB.mp hy];exact#[hc,aA _]).s (by decide);have s1:fy (.list<|sD (x.take 1))=true:=(Lx.lst (n:=0)<|Lx.map λp hp=>cs2<|hx p ((cA _ _).subset hp)).s (by decide);unfold neD;rw[if_pos #[s1,s2]];cases x with
 | nil=>rfl
 | cons p r =>
  show Oa (fC (!((p==c)&&true)))=_;rw[cz];rfl
def cA7{W:La Str}(A:At W k r):r=W.drop k:=A.e.symm
abbrev eh(W:La Str)(k:Nat)(d:Int)(X:La D)(a:Ob B)(k0 n m:Str)(s:Sr)(v:Bool)(c:Ob B):Rho:=en W k d X a ([:hdD k0 n m s v []]) c
def k5{W:La Str}{k:Nat}{d:Int}{X:La D}{a c:Ob B}{k0 y:Str}(hk:fE (.str k0)=true)(hy:fE (.str y)=true):tB2 eqD (dIx (B0 5) ⇑0) (dC<|.str y) (eh W k d X a k0 n m s v c)=Oa (k0==y)/\tB2 neD (dIx (B0 5) ⇑0) (dC<|.str y) (eh W k d X a k0 n m s v c)=Oa (!(k0==y)):=by
 unfold tB2;rw[B5 (x:=.str k0) (y:=.str y) rfl rfl,N8 hk hy rfl,B5 (x:=.str k0) (y:=.str y) rfl rfl,ae8 hk hy rfl];exact#[rfl,rfl]
def cB5{f:DE}(hX:X.length<=5000)(h:f (en W k d X a b c)=Oa x):N5 3 f (en W k d X a b c)=Oa (.nx<|en W k d (X++[x]) a b c):=by
 unfold N5;show(if X.length < 16777216 then(f<|en W k d X a b c).map _ else Z)=_;rw[if_pos (by omega),h];rfl
def cg9{f g:DE}{W:La Str}(A:At W k r)(hf:f (wD W::z)=Oa (.int (k:Nat)))(hg:g (wD W::z)=Oa (.int ((k+1:Nat):Int)))(hb:∀p∈r,Bw p)(hc:fE (.str y)=true):tB2 neD (S9 (!0) (D5 f)<|D5 g) (E5 {dC<|.str y}) (wD W::z)=Oa (!bK1 r y):=by
 refine w9 (y:=.list<|sD (r.take 1)) ?_ rfl (cS2 hb hc);unfold S9;rw[ah5 hf,ah5 hg];show Oa (PyData.list<|Z0 (sD W) (Oa (k:Int)) (Oa ((k+1:Nat):Int)))=_;rw[cg8 A]
def ndr(h:x=y)(H:NdR W d X y o):NdR W d X x o:=h ▸ H
def cU4{W:La Str}{inn:La Str->Ob (La Rw×La Str)}{self:La D->Ob D}{d:Nat}(hW:∀p∈W,Bw p)(hw:W.length<=999)
  (H:∀(r:La Str) (k:Nat),At W k r->∃k',self [.list (sD W),.int k,.int ((d:Int) - 1)]=Oa (nsR k'<|inn r)/\∀ns r',inn r=Oa (ns,r')->At W k' r')
  (A:At W k r) (hX:X.length<=5000) (a b c:Ob B):NdR W d X (bA self<|en W k d X a b c) (lN inn r):=by
 have hb:∀{r:La Str}{k:Nat},At W k r->∀p∈r,Bw p:=λ{r k} A p hp=>hW p (by rw[cA7 A]at hp;exact cJ hp)
 by_cases h5:r.length < 5
 .have:lN inn r=Z:=by
   match r,h5 with
   | [],_=>rfl
   | [_],_=>rfl
   | [_,_],_=>rfl
   | [_,_,_],_=>rfl
   | [_,_,_,_],_=>rfl
   | _::_::_::_::_::_,h=>simp at h;grind
  rw[this];exact ch3 A (hb A)<|.inl h5
 obtain⟨k0,n,m,s,v,r,rfl⟩:=bk8 h5;have bk:=(hb A k0<|by simp).lay;have A5:At W (k+5) r:=A.drop 5 (by simp);rw[cU5 A (hb A s<|by simp) (hb A v<|by simp) (bx d),show lN inn (k0::n::m::s::v::r)=lNb inn k0 n m s v r from rfl];unfold lNb;cases(v==("+":Str) || v==("-":Str))&&oLs 44 s with
 | false=>rfl
 | true =>
 rw[cond_true,cond_true];generalize Oa (B.val<|spD (U3 44 s))=a4;generalize (v==("+":Str))=v';generalize lst s=s'
 have pl:∀{i:Int}{j:Nat}{x:Ob B}{y:Str},i=(j:Int)->A9 B4 (!1) (dC<|.int i) (eh W k d X a4 y n m s' v' x)=Oa (.int ((k+j:Nat):Int)):=λ{i j x y} e=>by
  subst e;exact(B5 rfl rfl).trans (O4 _ _)
 have e1:=(k5 (W:=W) (k:=k) (d:=d) (X:=X) (a:=a4) (c:=c) (n:=n) (m:=m) (s:=s') (v:=v') bk (y := "tone") ∅).1;have e2:=(k5 (W:=W) (k:=k) (d:=d) (X:=X) (a:=a4) (c:=c) (n:=n) (m:=m) (s:=s') (v:=v') bk (y := "layer") ∅).1;have e3:=(k5 (W:=W) (k:=k) (d:=d) (X:=X) (a:=a4) (c:=c) (n:=n) (m:=m) (s:=s') (v:=v') bk (y := "group") ∅).2;unfold bT;cases q1:k0==("tone":Str) with
 | true =>
  rw[q1]at e1;refine#[k+5,a4,[:hdD k0 n m s' v' []],c,A5,(Y3 e1).trans<|(B2<|cB5 hX rfl).trans ?_];rw[Rw.d];rfl
 | false =>
  rw[q1]at e1;rw[show sIf _ _ _ (eh W k d X a4 k0 n m s' v' c)=_ from R9 e1,cond_false];cases q2:k0==("layer":Str) with
  | true =>
   rw[q2]at e2;have:=beq_iff_eq.mp q2;subst this;obtain⟨k',eL,AL⟩:=cK5 A5 (hb A5) (by have:=A5.len;grind);have go:∀{z:Ob Fl},(B3 (sIf (tB2 isB (!6)<|dC .none) (B7<|dC .none) D6)<|B3 (N5 3<|A9 B4 (!5) (dIx (B0 6) ⇑0)) (C7 1<|dIx (B0 6) ⇑1)) (eh W k d X a4 "layer" n m s' v'<|[:lyD k' (am7 r)])=z->sIf (tB2 eqD (dIx (B0 5) ⇑0) !"layer") bL (bG self) (eh W k d X a4 "layer" n m s' v' c)=z:=λ{z} e=>(Y3 e2).trans<|(B2<|S5 ((k2 rfl<|pl rfl).trans eL)).trans e
   match e:am7 r with
   | none =>
    rw[e]at go;exact go rfl
   | some (y,r') =>
    rw[e]at go;refine#[k',a4,[:hdD "layer" n m s' v' []],[:lyD k' (Oa (y,r'))],AL y r' e,go<|(B2 rfl).trans ((B2<|cB5 hX rfl).trans ?_)];rw[Rw.d];rfl
  | false =>
   rw[q2]at e2;rw[show sIf _ _ _ (eh W k d X a4 k0 n m s' v' c)=_ from R9 e2,cond_false];have g:bG self (eh W k d X a4 k0 n m s' v' c)=bif (k0==("group":Str))&&bK1 r "[" then _ else Oa (.rt .none):=gn (tO e3 λ_=>cg9 A5 (pl rfl) (pl rfl) (hb A5) ∅)
   rw[g];cases q3:k0==("group":Str) with
   | false=>rfl
   | true =>
    have:=beq_iff_eq.mp q3;subst this;rw[bS,cond_true]
    match r,A5 with
    | [],_=>rfl
    | p::r,A5 =>
     rw[lG,bK1];cases p==("[":Str) with
     | false=>rfl
     | true =>
      rw[cond_true,cond_true];obtain⟨k',eI,AI⟩:=H r (k+6) A5.tl;refine ndr (B2<|S5 ((k3 rfl (pl rfl) rfl).trans eI)) ?_
      match e:inn r with
      | none=>rfl
      | some (ns,r') =>
       have A':=AI ns r' e;refine ndr (gn<|tO1 rfl (cg9 A' rfl ((B5 rfl rfl).trans<|O4 _ _) (hb A') ∅)) ?_
       match r',A' with
       | [],_=>rfl
       | p'::r',A' =>
        rw[bK1];show NdR W d X _ ((bif p'==("]":Str) then Oa (ns,r') else Z).map λx=>(Rw.grp n m s' v' x.1,x.2));cases p'==("]":Str) with
        | false=>rfl
        | true =>
         refine#[k'+1,a4,[:hdD "group" n m s' v' []],[:nsR k' (Oa (ns,p'::r'))],A'.tl,(B2<|cB5 hX rfl).trans ?_];rw[Rw.d];rfl
def NsR(W:La Str)(d:Int)(X:La D)(x:Ob Fl):Ob (La Rw×La Str)->Prop
 | none=>x=Oa (.rt .none)
 | some (ns,r)=>∃k a b c,At W k r/\x=Oa (.nx<|en W k d (X++Rw.ds ns) a b c)
abbrev wT:Rho->Ob Bool:=ab6 (tB2 ltI (!1)<|F7 (B0 0))<|tB2 neD (dIx (B0 0) !1) !"]"
def cP3{d:Int}(A:At W k []):wT (en W k d X a b c)=Oa false:=by
 have:=A.nil;unfold wT ab6 tB2;rw[B5 (x:=.int k) rfl bE4,ba0,decide_eq_false (by omega)];rfl
def cP2{d:Int}(A:At W k (w::r))(h:Bw w):wT (en W k d X a b c)=Oa (!(w==("]":Str))):=by
 have:=A.len;have x0:dIx (B0 0) (!1) (en W k d X a b c)=Oa (.str w):=bI4 A 0 rfl (by show Oa (fB k)=_;rw[show(k:Int)+((0:Nat):Int)=k by grind]);unfold wT ab6 tB2;rw[B5 (x:=.int k) rfl bE4,ba0,decide_eq_true (by rw[ag]at this;grind),B5 x0 rfl,ae8 h.lay ∅ rfl];rfl
theorem cK4{W:La Str}{d:Int}{nd:La Str->Ob (Rw×La Str)}{self:La D->Ob D}(hW:∀p∈W,Bw p)(hw:W.length<=999)
  (H:∀(r:La Str) (k:Nat) (X:La D) (a b c:Ob B),At W k r->X.length<=5000->NdR W d X (bA self<|en W k d X a b c) (nd r))
  (S:∀r n r',(∀p∈r,Bw p)->r.length<=1000->nd r=Oa (n,r')->r'.length < r.length) :
  ∀(j:Nat) (r:La Str) (k:Nat) (X:La D) (a b c:Ob B),At W k r->r.length < j->X.length+r.length<=5000->NsR W d X (N7 wT (bA self) j<|en W k d X a b c) (lNs nd j r)
 | 0,_,_,_,_,_,_,_,h,_=>by grind
 | j+1,[],k,X,a,b,c,A,_,_=>by
  refine#[k,a,b,c,A,?_];rw[cz0 (cP3 A),Rw.ds,ar]
 | j+1,w::r,k,X,a,b,c,A,hj,hX=>by
  have hb:∀p∈w::r,Bw p:=λp hp=>hW p (by rw[cA7 A]at hp;exact cJ hp)
  have t:=cP2 (X:=X) (a:=a) (b:=b) (c:=c) (d:=d) A (hb w<|by simp);have len:=A.len;rw[ag]at hj hX len;rw[lNs];cases q:w==("]":Str) with
  | true =>
   rw[q]at t;refine#[k,a,b,c,A,?_];rw[cz0 t,Rw.ds,ar]
  | false =>
   rw[q]at t;have h:=H _ k X a b c A (by grind);rw[cond_false]
   match e:nd (w::r) with
   | none =>
    rw[e]at h;have h:bA self (en W k d X a b c)=Oa (.rt .none):=h;show N7 wT (bA self) (j+1) (en W k d X a b c)=Oa (.rt .none);unfold N7;rw[t];show(bA self<|en W k d X a b c).bind _=_;rw[h];rfl
   | some (n,r2) =>
    rw[e]at h;obtain⟨k2,a2,b2,c2,A2,e2⟩:=h;have s:=S _ _ _ hb (by simp;grind) e;rw[ag]at s;have i:=cK4 hW hw H S j r2 k2 (X++[n.d]) a2 b2 c2 A2 (by grind) (by rw[aj,bW];grind);rw[cT2 t e2];show NsR W d X _ ((lNs nd j r2).map λy=>(n::y.1,y.2))
    match e3:lNs nd j r2 with
    | none=>rw[e3]at i;exact i
    | some (ns,r3) =>
     rw[e3]at i;obtain⟨k3,a3,b3,c3,A3,e4⟩:=i;refine#[k3,a3,b3,c3,A3,e4.trans ?_];rw[Rw.ds,au];rfl
def cf5{W:La Str}{d:Int}{nd:La Str->Ob (Rw×La Str)}{f:Nat}(hW:∀p∈W,Bw p)(hw:W.length<=999)
  (H:∀(r:La Str) (k:Nat) (X:La D) (a b c:Ob B),At W k r->X.length<=5000->NdR W d X (bA (L8 f)<|en W k d X a b c) (nd r))
  (S:∀r n r',(∀p∈r,Bw p)->r.length<=1000->nd r=Oa (n,r')->r'.length < r.length) (A:At W k r):∃k',L8 (f+1) [.list (sD W),.int k,.int d]=Oa (nsR k'<|lNs nd 1000 r)/\∀ns r',lNs nd 1000 r=Oa (ns,r')->At W k' r':=by
 have len:=A.len;have h:=cK4 hW hw H S 1000 r k [] Z Z Z A (by grind) (by simp;grind);have st:O1 3 A8 [wD W,[:.int k],[:.int d],Z,Z,Z,Z]=Oa (.nx<|en W k d [] Z Z Z):=rfl
 match e:lNs nd 1000 r with
 | none =>
  rw[e]at h;exact#[0,C4 (ρ:=[wD W,[:.int k],[:.int d],Z,Z,Z,Z]) rfl<|(B2 st).trans (P3<|k9 h),nofun]
 | some (ns,r') =>
  rw[e]at h;obtain⟨k',a,b,c,A',e'⟩:=h;refine#[k',C4 (ρ:=[wD W,[:.int k],[:.int d],Z,Z,Z,Z]) rfl<|(B2 st).trans ((B2<|k9 e').trans rfl),λns r' h=>by cases h;exact A']
theorem cK3{W:La Str}(hW:∀p∈W,Bw p)(hw:W.length<=999):∀(d f:Nat) (r:La Str) (k:Nat),d+1<=f->At W k r->∃k',L8 f [.list (sD W),.int k,.int ((d:Int) - 1)]=Oa (nsR k'<|lI d r)/\∀ns r',lI d r=Oa (ns,r')->At W k' r'
 | _,0,_,_,h,_=>absurd h (by grind)
 | 0,f+1,r,k,_,A=>cf5 (nd:=λ_=>Z) hW hw (λr k X a b c A _=>ch3 A (λp hp=>hW p (by rw[cA7 A]at hp;exact cJ hp))<|.inr (by decide)) nofun A
 | d+1,f+1,r,k,h,A=>by
  have e:(((d+1:Nat):Int)) - 1=d:=by grind
  rw[e]
  exact cf5 (nd:=lN (lI d)) hW hw (λr k X a b c A hX=>cU4 hW hw (λr k A=>cK3 hW hw d f r k (by grind) A) A hX a b c) (λr n r' hb hl e=>by
   have q:=cK6 (ct5 d) hb hl e;have:=q.l;have:=q.h
   grind) A
def ct3(h:Tx t)(e:lP t=Oa p):Bp true p/\Rw.dps p.ns<=4:=by
 have hw:=h.w;have hn:=h.n;unfold lP at e;obtain⟨z,r,q⟩:=au7 t 32
 .rw[q]at e hw hn;rw[ag]at hn;have e:lPb z (lI 4 r)=Oa p:=e
  match q2:lI 4 r with
  | none=>rw[q2]at e;cases e
  | some (ns,_::_)=>rw[q2]at e;cases e
  | some (ns,[]) =>
   rw[q2,lPb]at e;cases q3:oSd z with
   | false=>rw[q3]at e;cases e
   | true =>
    rw[q3]at e;cases e;have a:=ct5 4 r ns [] (λp hp=>hw p<|by simp[hp]) (by grind) q2;have al:=a.l;have ah:=a.h;rw[aU]at al;have b:=cf0 (hw z<|by simp);exact#[#[b.1,b.2,by dsimp only;grind,a.b,by dsimp only;grind],a.d]
def lRb(t:Str):Ob Pc->D
 | none=>.none
 | some p=>bif ab3 p t then p.d else .none
noncomputable def okE:Ob (La Rw×La Str)->Bool
 | some (_,[])=>true
 | _=>false
def ct1(h:Tx t):J4 [.str t]=Oa (lRb t<|lP t):=by
 have hw:=h.w;have hn:=h.n;have tq:=λp=>ct3 (p:=p) h
 obtain⟨z,r,e⟩:=au7 t 32;unfold lP at tq |-;rw[e]at hw hn tq |-;rw[List.headD_cons,cU]at tq |-;obtain⟨k',eI,AI⟩:=cK3 (W:=z::r) hw hn 4 12 r 1 (by decide) #[rfl,by simp]
 have t3:E1 (tB2 isB (!2)<|dC .none) (E1 (tB2 neD (F7<|B0 2) ⇑2)<|E1 (tB2 isB (!3)<|dC .none) (tB2 neD (dIx (B0 3) ⇑1)<|F7 (B0 1))) [[:.str t],wD (z::r),[:nsD z 120],[:nsR k' (lI 4 r)],Z]=Oa (!((ws z 120).all okO&&((ws z 120).length==2&&okE (lI 4 r)))):=by
  refine tO (by unfold nsD;cases(ws z 120).all okO<;>rfl) λq=>?_
  unfold nsD;rw[q];refine tO (bi7 2 (f:=λp=>fB<|off p) rfl rfl) λ_=>?_
  match q:lI 4 r with
  | none=>rfl
  | some (ns,r') =>
   rw[q]at AI;have la:=(AI ns r' rfl).len;refine tO1 rfl (w9 (y:=.int k') (z:=.int (sD (z::r)).length) rfl rfl ?_);rw[aS2,ai];cases r' with
   | nil=>rw[show(k':Int)=(z::r).length by rw[aU]at la;grind,beq_self_eq_true];rfl
   | cons y r'=>rw[beq_eq_false_iff_ne.mpr (by rw[ag (as:=r')]at la;grind)];rfl
 refine C4 (ρ:=[[:.str t],Z,Z,Z,Z]) rfl ((B2 (ρ':=[[:.str t],wD (z::r),Z,Z,Z])<|S5 ((aw5 rfl rfl).trans<|by rw[bl_,h.s,e])).trans<|(B2<|se2 (bM7 ((W1 (q:=(false,sD (z::r))) rfl rfl).trans<|L4 (j:=0) rfl) (hw z<|by simp) ex_)).trans ((B2<|se3 ((k3 rfl rfl rfl).trans eI)).trans<|(gn t3).trans ?_));have d:oSd z=((ws z 120).all okO&&(ws z 120).length==2):=rfl;rw[<- dw,<- d]
 match q:lI 4 r with
 | none=>rw[show okE Z=false from rfl,bq];rfl
 | some (_,_::_)=>rw[show okE (Oa (_,_::_))=false from rfl,bq];rfl
 | some (ns,[]) =>
  rw[okE,cz,lPb];cases q3:oSd z with
  | false=>rfl
  | true =>
   obtain⟨bp,bd⟩:=tq #[(lsd z).1,(lsd z).2,ns] (by rw[q,lPb,q3];rfl);rw[cond_true,cond_true,lRb,cd0 q3];have ts:=bx2 (f:=T4) (g:=O5) (F:=O5) (p:=#[(lsd z).1,(lsd z).2,ns]) bp h (cK2 bp<|by grind) (λg' gp eg=>by rw[eg];exact ac6 gp) (e:=A6 4) (x:=A6 0) (ρ:=[[:.str t],wD (z::r),[:.list [.int (lsd z).1,.int (lsd z).2]],[:nsR k' (Oa (ns,[]))],Oa (.val (Pc.mk (lsd z).1 (lsd z).2 ns).d)]) rfl rfl;refine(B2 rfl).trans ((gn ts).trans ?_);cases ab3 (Pc.mk (lsd z).1 (lsd z).2 ns) t<;>rfl
def rdD(t:Str):D:=bif ab3 (rP t) t then(rP t).d else .none
def both(h:Tx t):orF (ah4<|T3 true) (T3 false) [.str t]=Oa (rdD t)/\J4 [.str t]=Oa (rdD t):=by
 have b:=bg6 h;refine#[bx3 h λg=>(av7 b h g).2.1,?_];rw[ct1 h];unfold rdD;cases q:ab3 (rP t) t with
 | true=>rw[(av7 b h q).2.2,lRb,q]
 | false =>
  match e:lP t with
  | none=>rfl
  | some p =>
   rw[lRb];cases g:ab3 p t with
   | false=>rfl
   | true =>
    rw[(av7 (ct3 h e).1 h g).1,g]at q;cases q
def Rn(p:Nat->Bool)(k:Nat)(l:La Nat):Prop:=∀w,w <:+: l->w.all p=true->w.length<=k
def bI8{w X Y:La Nat}(h:w <:+: X++Y):∃a b,w=a++b/\a <:+: X/\b <:+: Y/\(a=[]\/b <+: Y):=by
 obtain⟨s,t,e⟩:=h;rw[au]at e;rcases dL.mp e with⟨c,e1,e2⟩|⟨c,e1,e2⟩
 .rcases dL.mp e2 with⟨d,f1,f2⟩|⟨d,f1,f2⟩
  .exact#[w,[],by simp,#[s,d,by rw[e1,f1];simp],#[[],Y,rfl],.inr #[Y,rfl]]
  .exact#[c,d,f1,#[s,[],by rw[e1];simp],#[[],t,by rw[f2];rfl],.inr #[t,f2.symm]]
 .exact#[[],w,rfl,#[[],X,rfl],#[c,t,by rw[e2,au]],.inl rfl]
def Rn.app(h1:Rn p j X)(h2:Rn p k Y):Rn p (j+k) (X++Y):=λw hw hd=>by
 obtain⟨a,b,rfl,ha,hb,_⟩:=bI8 hw;rw[List.all_append,ae]at hd;have:=h1 a ha hd.1;have:=h2 b hb hd.2;rw[aj];grind
def Rn.cut(h1:Rn p k X)(h2:Rn p k Y)(hc:p c=false):Rn p k (X++c::Y):=λw hw hd=>by
 obtain⟨a,b,rfl,ha,hb,z⟩:=bI8 hw;rw[List.all_append,ae]at hd
 have no:∀{b:La Nat},b <+: c::Y->b.all p=true->b=[]:=λ{b} q hd=>by
  cases b with
  | nil=>rfl
  | cons x b =>
   obtain⟨t,e⟩:=q;cases e;rw[aZ,hc]at hd;cases hd
 rcases z with rfl|z
 .rcases List.infix_cons_iff.mp hb with q|q
  .rw[no q hd.2];exact aA _
  .exact h2 _ q hd.2
 .rw[no z hd.2,ar];exact h1 a ha hd.1
def Rn.len{l:La Nat}(h:l.length<=k):Rn p k l:=λw hw _=>aI hw.length_le h
def Rn.sub(h:Rn p k l)(i:u <:+: l):Rn p k u:=λw hw=>h w<|hw.trans i
def Rn.le(h:Rn p k l)(i:k<=j):Rn p j l:=λw hw hd=>aI (h w hw hd) i
def Rn.no{l:La Nat}(h:∀c∈l,p c=false):Rn p k l:=λw hw hd=>by
 cases w with
 | nil=>exact aA _
 | cons c w =>rw[aZ,h c (hw.subset<|by simp)]at hd;cases hd
theorem Rn.jl(hc:p c=false):∀ws:La (La Nat),(∀w∈ws,Rn p k w)->Rn p k (jl c ws)
 | [],_=>Rn.len<|aA _
 | [x],h=>h x (by simp)
 | x::y::r,h=>(h x (by simp)).cut (Rn.jl hc (y::r) λw hw=>h w<|xmm _ hw) hc
theorem Rn.gl{ws:La Str}(hc:p c=false)(h:∀w∈ws,Rn p k<|cl w):Rn p k (cl<|gl c ws):=by
 rw[aA6];exact Rn.jl hc _ λw hw=>by obtain⟨v,hv,rfl⟩:=aV.mp hw;exact h v hv
noncomputable def nb(c:Nat):Bool:=c != 32
theorem aA4{c:Nat}:∀ws:La (La Nat),(∀w∈ws,c∉w)->(jl c ws).count c=ws.length - 1
 | [],_=>rfl
 | [x],h=>List.count_eq_zero.mpr (h x<|by simp)
 | x::y::r,h=>by
  have i:=aA4 (y::r) λw hw=>h w<|xmm _ hw
  rw[jl,cV,List.count_cons_self,i,List.count_eq_zero.mpr (h x<|by simp)];simp
def aX3{t:Str}(a:∀c∈cl t,c < 128)(l:(cl t).length<=9000)(d:Rn dg 7 (cl t))(n:Rn nb 999 (cl t))(c:(cl t).count 32<=998):Tx t:=by
 obtain⟨e,f,ne⟩:=k7 t 32;refine#[a,by rw[<- E3];exact l,λp hp=>?_,?_]
 .have i:cl p <:+: cl t:=by rw[e];exact bG7 32 _ _ (List.mem_map_of_mem hp)
  refine#[λc hc=>a c<|i.subset hc,?_,d.sub i];rw[<- E3];refine n _ i (ay.mpr λc hc=>?_);unfold nb;exact bne_iff_ne.mpr λh=>f p hp<|h ▸ hc
 .rw[e,aA4 _ λw hw=>by obtain⟨v,hv,rfl⟩:=aV.mp hw;exact f v hv,ai]at c;omega
noncomputable def cw(V:La Str):Nat:=(V.map λw=>w.length+1).sum
theorem cg1(c:Nat):∀V:La Str,(jl c<|V.map cl).length<=cw V
 | []=>aA _
 | [x]=>by show(cl x).length<=x.length+1+0;rw[E3];grind
 | x::y::r=>by
  have:=cg1 c (y::r);show(cl x++c::jl c ((y::r).map cl)).length<=x.length+1+cw (y::r);rw[aj,ag,E3];grind
structure Wk (k:Nat) (w:Str):Prop where
 a:Al pW w
 d:Rn dg k (cl w)
 l:w.length<=80
def cg4{V:La Str}(h:∀w∈V,Wk k w):(∀c∈cl (gl 32 V),c < 128)/\Rn dg k (cl<|gl 32 V)/\Rn nb 80 (cl<|gl 32 V)/\(cl<|gl 32 V).count 32<=V.length/\(cl<|gl 32 V).length<=cw V:=by
 refine#[Al.gl (by decide) λw hw=>(h w hw).a.imp λc h=>by omega,Rn.gl (by decide) λw hw=>(h w hw).d,Rn.gl (by decide) λw hw=>Rn.len (by rw[E3];exact(h w hw).l),?_,by rw[aA6];exact cg1 32 V];rw[aA6,aA4 _ λw hw=>by obtain⟨v,hv,rfl⟩:=aV.mp hw;exact(h v hv).a.no (by decide),ai];omega
def cc3{V:La Str}(h:∀w∈V,Wk 7 w)(hc:cw V<=9000)(hl:V.length<=998):Tx (gl 32 V):=by
 obtain⟨a,b,c,d,e⟩:=cg4 h;exact aX3 a (aI e hc) b (c.le<|by decide)<|aI d hl
structure Tl (t:Str):Prop where
 a:∀c∈cl t,c < 128
 l:(cl t).length<=6000
 d:Rn dg 3 (cl t)
 n:Rn nb 80 (cl t)
 c:(cl t).count 32<=300
def aw8(h:Tl t){x:Str}{y:La Nat}{p q:Nat}(e:cl x=(cl t).take p++(y++(cl t).drop q))(hy:∀c∈y,c < 128)(h1:y.length<=2)(hd:Rn dg 1 y)(hq:p<=q):Tx x:=by
 have i1:(cl t).take p <:+: cl t:=(List.take_prefix _ _).isInfix;have i2:(cl t).drop q <:+: cl t:=(db _ _).isInfix;refine aX3 (λc hc=>?_) ?_ ?_ ?_ ?_
 .rw[e]at hc;rcases aE.mp hc with z|z
  .exact h.a c (i1.subset z)
  .rcases aE.mp z with z|z
   .exact hy c z
   .exact h.a c (i2.subset z)
 .rw[e,aj,aj,aW,bc];have:=h.l
  grind
 .rw[e];exact(h.d.sub i1).app (hd.app<|h.d.sub i2)
 .rw[e];exact((h.n.sub i1).app<|(Rn.len h1).app (h.n.sub i2)).le (by decide)
 .rw[e,cV,cV]
  have c1:((cl t).drop q).count 32<=((cl t).drop p).count 32:=by
   have:(cl t).drop q=((cl t).drop p).drop (q - p):=by rw[eB];congr 1;grind
   rw[this];exact(List.drop_sublist _ _).count_le _
  have c2:((cl t).take p).count 32+((cl t).drop p).count 32=(cl t).count 32:=by rw[<- cV,cG]
  have c3:y.count 32<=2:=aI (List.count_le_length) h1;have:=h.c
  grind
def ay1{y z:Type}{zd:La Nat}{src:Rho->Ob (La D)}{e:DE}{ρ r:Rho}{l:La y}{h:y->D}{g:z->D}{P:z->Prop}(hr:w8 1 zd ρ=Z::r)(hs:src ρ=Oa (l.map h))(hl:l.length<=1000)(H:∀a∈l,∃b,e ([:h a]::r)=Oa (g b)/\P b):∃bs:La z,D2 1 zd src (D1 0) F6 e ρ=Oa (bs.map g)/\bs.length=l.length/\∀b∈bs,P b:=by
 have key:∀l:La y,(∀a∈l,∃b,e ([:h a]::r)=Oa (g b)/\P b)->∃bs:La z,l.map (λa=>(e ([:h a]::r)).getD .none)=bs.map g/\bs.length=l.length/\∀b∈bs,P b:=λl=>by
  induction l with
  | nil=>exact λ_=>#[[],rfl,rfl,nofun]
  | cons a l ih =>
   intro H;obtain⟨b,e1,e2⟩:=H a (by simp);obtain⟨bs,e3,e4,e5⟩:=ih λa ha=>H a<|xmm _ ha
   exact#[b::bs,by rw[xmc,xmc,e3,e1];rfl,by rw[ag,ag,e4],λx hx=>(ao.mp hx).elim (· ▸ e2)<|e5 x]
 obtain⟨bs,e1,e2⟩:=key l H;refine#[bs,(U2 hr hs hl λa ha=>?_).trans<|congrArg Oa e1,e2];obtain⟨b,e,_⟩:=H a ha;rw[e];rfl
noncomputable abbrev pn(p q:Nat):Sr:=(p,q)
def made{t u:Nat}(hu:0 < u)(h:u < 256):∃p q:Nat,p9 [.int t,.int u]=Oa (prD<|pn p q)/\p<=t/\q<=u/\0 < q:=by
 have e:=bN5 t u 8 hu (by omega) (by decide);rw[ay3 t u hu]at e;exact#[_,_,e,ei ..,ei ..,Nat.div_pos (Nat.gcd_le_right _ hu)<|cT _ hu]
def cR7{L:La D}{Q:D->Prop}(h:∀d∈L,Q d){n:Nat}(hn:n < L.length):∃d,atI L (n:Int)=Oa d/\Q d:=#[_,L4<|aL hn,h _<|bD hn]
section
variable (ns:La Int) (hn:ns.length<=63)
include hn
def bz3{e:Int}(k:Nat)(he:e=(k:Int))(hk:k < 2 ^ 30):∃p q:Nat,N4 [scr ns,.int e]=Oa (prD<|pn p q)/\p<=12/\q<=12/\0 < q:=by
 subst he;obtain⟨d1,e1,l1⟩:=K4 ns hn (e:=k) (m':=12) k 12 rfl rfl (by grind) (by decide);obtain⟨d2,e2,l2⟩:=K4 ns hn (e:=(k:Int)+1) (m':=((1+d1:Nat):Int)+1) (k+1) (d1+2) (by grind) (by grind) (by grind) (by grind);obtain⟨d3,e3,l3⟩:=drw ns hn k 2 5 (by grind);obtain⟨p,q,e4,h⟩:=made (t:=d2) (u:=1+d1) (by grind) (by grind)
 obtain⟨x,ex,p',q',rfl,h'⟩:=cR7 (L:=[prD (pn p q),prD (pn p q),prD (pn p q),prD (0,1),prD (1,1)]) (Q:=λd=>∃p q:Nat,d=prD (pn p q)/\p<=12/\q<=12/\0 < q) (λd hd=>by
  simp only[ao,aM,or_false]at hd;rcases hd with rfl|rfl|rfl|rfl|rfl
  .exact#[p,q,rfl,by grind]
  .exact#[p,q,rfl,by grind]
  .exact#[p,q,rfl,by grind]
  .exact#[0,1,rfl,by decide]
  .exact#[1,1,rfl,by decide]) l3
 refine#[p',q',C4 (ρ:=[[:scr ns],[:.int k],Z,Z]) rfl ?_,h']
 exists evC,aH3,e1,ad1,e2,e3,e4,ex
def Sb(s:Sr):Prop:=∃p q:Nat,s=pn p q/\p < 256/\q < 256
def cQ9{e:Int}(k:Nat)(he:e=(k:Int))(hk:k < 2 ^ 25):∃l:La Sr,ao4 [scr ns,.int e]=Oa (spD l)/\l.length=4/\∀s∈l,Sb s:=by
 subst he;obtain⟨p,q,ec,hp,hq,q0⟩:=bz3 ns hn k rfl (by grind)
 obtain⟨l,el,ll,hl⟩:=ay1 (P:=Sb) (g:=prD) (zd:=[2,0,1]) (src:=J9 ⇑3) (e:=A7 af4 {1,A7 N4 {2,A9 v9 (A9 v9 (!3) ⇑3)<|A9 b0 ⇑3 !0}}) (ρ:=[[:scr ns],[:.int k],[:prD (pn p q)]]) (l:=bf 3) (h:=λj:Nat=>fB j) (r:=[[:prD (pn p q)],[:scr ns],[:.int k]]) rfl rfl (by decide) λj hj=>by
  have hj:=bF.mp hj;have mn:∀{i j:Nat},i<=1000->j<=1000->b0 (.int i) (.int j)=Oa (.int ((i*j:Nat):Int)):=λ{i j} h1 h2=>V9 h1 h2
  have m3:=mn (i:=3) (j:=j) (by decide) (by grind);obtain⟨p',q',es,hp',hq',q0'⟩:=bz3 ns hn (e:=(k:Int)+3+((3*j:Nat):Int)) (k+3+3*j) (by grind) (by grind);have b1:p*p'<=12*12:=cg hp hp';have b2:q*q'<=12*12:=cg hq hq';obtain⟨x,y,ex,hx,hy,_⟩:=made (t:=p*p') (u:=q*q') (Nat.mul_pos q0 q0') (by grind);refine#[pn x y,?_,x,y,rfl,by grind,by grind]
  have t:af4 [prD (pn p q),prD (pn p' q')]=Oa (prD<|pn x y):=by
   refine rX2 ?_
   exists evC,aH1,mn (i:=p) (j:=p') (by grind) (by grind),mn (i:=q) (j:=q') (by grind) (by grind),ex
  have m3:b0 (.int 3) (.int j)=_:=m3
  exists evD,m3,es,t
 refine#[pn p q::l,C4 (ρ:=[[:scr ns],[:.int k],Z]) rfl ?_,by rw[ag,ll];rfl,λs hs=>(ao.mp hs).elim (λe=>#[p,q,e,by grind,by grind])<|hl s];unfold aW0;refine(B2 (ρ':=[[:scr ns],[:.int k],[:prD (pn p q)]]) (by exists evD,ec)).trans ?_;unfold B7 N1;rw[B5 rfl (by rw[ac0 el];rfl)]
 match l,ll with
 | [a,b,c],_=>rfl
abbrev s4(ns:La Int)(k w h:Nat)(a:Ob B):Rho:=[[:scr ns],[:.int k],[:.int w],[:.int h],a]
def cQ8{e:Int}(k w h:Nat)(he:e=(k:Int))(hk:k < 2 ^ 20)(hw:1<=w/\w<=3)(hh:1<=h/\h<=3):∃l:La (La Sr),af5 [scr ns,.int e,.int w,.int h]=Oa (T9 (w,h,l))/\l.length=w*h/\∀q∈l,q.length=4/\∀s∈q,Sb s:=by
 subst he;have wh:w*h<=9:=cg hw.2 hh.2;have wh1:1<=w*h:=cg hw.1 hh.1;have mwh:∀a,A9 G7 (!2) (!3) (s4 ns k w h a)=Oa (.int ((w*h:Nat):Int)):=λa=>(B5 rfl rfl).trans (V9 (by grind)<|by grind)
 obtain⟨t,et,_⟩:=drw ns hn k 7 3 (by grind)
 obtain⟨l,el,ll,hl⟩:=ay1 (P:=λq:La Sr=>q.length=4/\∀s∈q,Sb s) (g:=spD) (zd:=[0,1]) (src:=J9<|A9 G7 (!2) !3) (e:=A7 ao4 {1,A9 B4 (!2)<|A9 G7 ⇑12 !0}) (ρ:=s4 ns k w h Z) (l:=bf<|w*h) (h:=λj:Nat=>fB j) (r:=[[:scr ns],[:.int k]]) rfl (am0 (mwh _)<|by grind) (by rw[bo];grind) λj hj=>by
  have hj:=bF.mp hj;have m12:G7 (.int 12) (.int j)=Oa (.int ((12*j:Nat):Int)):=V9 (i:=12) (by decide) (by grind);obtain⟨q,eq,hq⟩:=cQ9 ns hn (e:=(k:Int)+((12*j:Nat):Int)) (k+12*j) (by grind) (by grind);exact#[q,by(exists evD,m12,eq),hq]
 rw[bo]at ll;have t0:tB2 eqD (A7 B6 {0,A9 B4 (!1) ⇑7,⇑3}) ⇑0 (s4 ns k w h<|[:.list (l.map spD)])=Oa ((t:Int)==0):=by exists evD,et
 have fin:∀l':La (La Sr),sIf (tB2 eqD (A7 B6 {0,A9 B4 (!1) ⇑7,⇑3}) ⇑0) (C7 4<|A9 G7 (S9 (!4) J1<|D5 ⇑1) (A9 G7 (!2) !3)) D6 (s4 ns k w h<|[:.list (l.map spD)])=Oa (.nx<|s4 ns k w h ([:.list (l'.map spD)]))->af5 [scr ns,.int k,.int w,.int h]=Oa (T9 (w,h,l')):=λl' e=>by
  refine C4 (ρ:=s4 ns k w h Z) rfl ?_;unfold aH2;exact(B2 (by unfold aa7;rw[el];rfl)).trans ((B2 e).trans rfl)
 cases q:(t:Int)==0 with
 | false =>
  rw[q]at t0;exact#[l,fin l (by unfold sIf;rw[t0];rfl),ll,hl]
 | true =>
  rw[q]at t0
  match l,ll,hl,t0,fin with
  | [],ll,_,_,_=>simp at ll;grind
  | x::l,ll,hl,t0,fin =>
   refine#[av (w*h) x,fin _ ?_,bN ..,λy hy=>by rw[(dD.mp hy).2];exact hl x<|by simp];have a3:=bD2 (xs:=[spD x]) (show w*h<=1000 by grind) (show 1<=1000 by decide);rw[Sh.ax6]at a3;unfold sIf C7;rw[t0,B5 (x:=.list [spD x]) (by show Oa (PyData.list<|Z0 _ Z (Oa 1))=_;rw[xmc,cU1]) (mwh _),a3,List.map_replicate];rfl
end
def ar0{w:Str}(h:((cl w).all (λc=>decide (33<=c/\c<=122) && !dg c)&&decide (w.length<=8))=true):Wk 3 w/\w.length<=8:=by
 simp only[ae,decide_eq_true_eq,ay,bj]at h;exact#[#[λc hc=>(h.1 c hc).1,Rn.no λc hc=>(h.1 c hc).2,by omega],h.2]
def Wk.wd(h:Wk k w):Wd w:=#[h.a,aI h.l<|by decide]
def sh3{s:Sr}(h:Sb s):Bs s/\Wk 3 (shT s)/\(shT s).length<=7:=by
 obtain⟨p,q,rfl,hp,hq⟩:=h;have b:Bs (pn p q):=#[#[bx p,by show(p:Int) < _;grind],#[bx q,by show(q:Int) < _;grind]];have l1:(it (p:Int)).length<=3:=aj9 2 (by grind);have l2:(it (q:Int)).length<=3:=aj9 2 (by grind)
 have k:Rn dg 3 (cl<|shT (pn p q))/\(shT<|pn p q).length<=7:=by
  unfold shT;split
  .exact#[Rn.len (by rw[E3];exact l1),aI l1<|by decide]
  .rw[L6,L6,au];refine#[Rn.cut (Y:=cl<|it (q:Int)) (Rn.len (by rw[E3];exact l1)) (Rn.len (by rw[E3];exact l2)) (by decide),?_];rw[Q5,Q5,show(sg 47).length=1 from rfl];show(it (p:Int)).length+1+(it (q:Int)).length<=7
   grind
 exact#[b,#[(cc9 b).1,k.1,by grind],k.2]
def sT3{l:La Sr}(hc:pW c)(hd:dg c=false)(h:∀s∈l,Sb s)(hl:l.length<=9):Wk 3 (sT c l)/\(sT c l).length<=8*l.length:=by
 have w:∀v∈l.map shT,Wk 3 v/\v.length<=7:=λv hv=>by
  obtain⟨r,hr,rfl⟩:=aV.mp hv;exact(sh3<|h r hr).2
 have e:=bb7 (c:=c) λv hv=>(w v hv).2
 rw[ai]at e;exact#[#[(cd2 hc λs hs=>(sh3<|h s hs).1).1,Rn.gl hd λv hv=>(w v hv).1.d,aI e<|by grind],e]
def sz3{w h:Nat}(hw:w<=3)(hh:h<=3):Wk 3 (szT w h)/\(szT (w:Int) h).length<=3:=by
 have l1:(it (w:Int)).length<=1:=aj9 0 (by grind);have l2:(it (h:Int)).length<=1:=aj9 0 (by grind);have l:(szT (w:Int) h).length<=3:=by unfold szT;rw[Q5,Q5,show(sg 120).length=1 from rfl];grind
 exact#[#[(bx8 #[by grind,by grind] #[by grind,by grind]).1,Rn.len (by rw[E3];exact l),by grind],l]
def bV4:∀n∈bf 5,decide ((it<|(n:Int) - 2).length<=2)=true:=∅
def of3{i:Int}(h:-2<=i/\i<=2):Wk 3 (it i)/\(it i).length<=2:=by
 have l:=of_decide_eq_true (bV4 (i+2).toNat (by rw[bF];grind));rw[show((i+2).toNat:Int) - 2=i by grind]at l;exact#[#[(ay0<|by grind).1,Rn.len (by rw[E3];grind),by grind],l]
def Mn(m:Str):Prop:=Wk 3 m/\m.length<=8
def Nm(x:Str):Prop:=Wk 3 x/\x.length<=5
def hd3(hk:Mn k)(hn:Nm n)(hm:Mn m)(hs:Sb s):(∀w∈hdW k n m s v,Wk 3 w)/\cw (hdW k n m s v)<=34:=by
 have s:=(sh3 hs).2;have p:Wk 3 (pm v)/\(pm v).length=1:=by cases v<;>exact#[(ar0 ∅).1,rfl]
 refine#[λw hw=>?_,?_]
 .simp only[hdW,ao,aM,or_false]at hw;rcases hw with rfl|rfl|rfl|rfl|rfl
  .exact hk.1
  .exact hn.1
  .exact hm.1
  .exact s.1
  .exact p.1
 .show k.length+1+(n.length+1+(m.length+1+((shT _).length+1+((pm v).length+1+0))))<=_;have:=hk.2;have:=hn.2;have:=hm.2;have:=s.2;have:=p.2
  grind
def W8(a b:La Str):cw (a++b)=cw a+cw b:=by unfold cw;rw[aO,List.sum_append]
def cN9{V:La Str}(h:∀w∈V,w.length<=k):cw V<=(k+1)*V.length:=by
 induction V with
 | nil=>exact aA _
 | cons w V ih =>
  have a:=h w (by simp);have b:=ih λv hv=>h v<|xmm _ hv
  show w.length+1+cw V<=_;rw[ag,Nat.mul_succ];grind
structure Ts (a b:Nat) (xs:List Rw):Prop where
 g:Gws xs
 p:Rw.dps xs<=b
 w:∀w∈nws xs,Wk 3 w
 c:cw (nws xs)<=420*a+40*b
 l:(nws xs).length<=18*a+7*b
 n:xs.length<=a+b
def cl4:Ts 0 0 []:=#[by rw[Gws];trivial,by rw[Rw.dps];exact aA _,by rw[nws];simp,by rw[nws];exact aA _,by rw[nws];exact aA _,aA _]
theorem Q3:∀a b:La Rw,nws (a++b)=nws a++nws b
 | [],b=>by rw[nws];rfl
 | x::a,b=>by rw[xca,nws,nws,Q3 a b,au]
theorem af0:∀{a b:La Rw},Gws (a++b)↔Gws a/\Gws b
 | [],b=>by rw[Gws];simp
 | x::a,b=>by rw[xca,Gws,Gws,af0 (a:=a),and_assoc]
theorem af1:∀a b:La Rw,Rw.dps (a++b)=max (Rw.dps a) (Rw.dps b)
 | [],b=>by simp[Rw.dps]
 | x::a,b=>by rw[xca,Rw.dps,Rw.dps,af1 a b,Nat.max_assoc]
def cl7(h1:Ts a b xs)(h2:Ts a' b' ys):Ts (a+a') (b+b') (xs++ys):=by
 have:=h1.p;have:=h1.c;have:=h1.l;have:=h1.n;have:=h2.p;have:=h2.c;have:=h2.l;have:=h2.n;exact#[af0.mpr #[h1.g,h2.g],by rw[af1];grind,by rw[Q3];exact λw hw=>(aE.mp hw).elim (h1.w w)<|h2.w w,by rw[Q3,W8];grind,by rw[Q3,aj];grind,by rw[aj];grind]
def kw3:Mn "tone" /\ Mn "layer" /\ Mn "group" := #[ar0 ∅,ar0 ∅,ar0 ∅]
def cl6{A B C:La Rw}(h:Ts a b (A++B++C))(hn:Nm n)(hm:Mn m)(hs:Sb s):Ts a (b+1) (A++[Rw.grp n m s v B]++C):=by
 obtain⟨g,p,w,c,l,k⟩:=h;obtain⟨h1,h2⟩:=hd3 (v:=v) kw3.2.2 hn hm hs;rw[af0,af0]at g;rw[af1,af1]at p;rw[Q3,Q3]at w c l;rw[W8,W8]at c;simp only[aj]at l k;have e:nws [Rw.grp n m s v B]=hdW "group" n m s v++[("[":Str)]++nws B++[("]":Str)]:=by rw[nws,nws,nw,ar]
 have b1:cw [("[":Str)]=2:=∅
 have b2:cw [("]":Str)]=2:=∅
 refine#[af0.mpr #[af0.mpr #[g.1.1,?_],g.2],?_,?_,?_,?_,?_]
 .rw[Gws,Gws,Gw];exact#[#[#[hn.1.wd,hm.1.wd,(sh3 hs).1],g.1.2],trivial]
 .rw[af1,af1,Rw.dps,Rw.dps,Rw.dp];grind
 .rw[Q3,Q3,e];intro v hv;simp only[aE,aB]at hv w;rcases hv with(hv|((hv|rfl)|hv)|rfl)|hv
  .exact w v (.inl<|.inl hv)
  .exact h1 v hv
  .exact(ar0 ∅).1
  .exact w v (.inl<|.inr hv)
  .exact(ar0 ∅).1
  .exact w v (.inr hv)
 .rw[Q3,Q3,e,W8,W8,W8,W8,W8];grind
 .rw[Q3,Q3,e];simp only[aj,hdW,ag,aU];grind
 .simp only[aj,ag,aU];grind
def bQ5(hn:Nm n)(hm:Mn m)(hs:Sb s):Ts 1 0 [Rw.leaf "tone" n m s v]:=by
 obtain⟨h1,h2⟩:=hd3 (v:=v) kw3.1 hn hm hs;have e:nws [Rw.leaf "tone" n m s v]=hdW "tone" n m s v:=by rw[nws,nws,nw,ar]
 refine#[?_,by rw[Rw.dps,Rw.dps,Rw.dp.eq_def];exact ak _,by rw[e];exact h1,by rw[e];omega,by rw[e];simp[hdW],by simp];rw[Gws,Gws,Gw];exact#[#[kw3.1.1.wd,#[hn.1.wd,hm.1.wd,(sh3 hs).1],ba4.1,ba4.2.1],trivial]
def cl5{w h:Nat}{l:La (La Sr)}(hn:Nm n)(hm:Mn m)(hs:Sb s)(hw:w<=3)(hh:h<=3)(hi:-2<=i/\i<=2)(hj:-2<=j/\j<=2)(hk:∀ms,mk=Oa ms->ms.length<=9/\∀s∈ms,Sb s)(ll:l.length=w*h)(hl:∀q∈l,q.length=4/\∀s∈q,Sb s):Ts 1 0 [Rw.lay n m s v i j mk (Oa (w,h,l))]:=by
 obtain⟨h1,h2⟩:=hd3 (v:=v) kw3.2.1 hn hm hs;have wh:w*h<=9:=cg hw hh
 have sp:∀v∈l.map (sT 58),Wk 3 v/\v.length<=32:=λv hv=>by
  obtain⟨q,hq,rfl⟩:=aV.mp hv;have e:=(hl q hq).1;obtain⟨y1,y2⟩:=sT3 (c:=58) (by decide) (by decide) (hl q hq).2 (by grind);exact#[y1,by grind]
 have mw:Wk 3 (mkT mk)/\(mkT mk).length<=72:=by
  cases mk with
  | none=>exact#[(ar0 ∅).1,by decide +kernel]
  | some ms =>
   have:=(hk ms rfl).1;obtain⟨y1,y2⟩:=sT3 (c:=44) (by decide) (by decide) (hk ms rfl).2 this;exact#[y1,by show(sT 44 ms).length<=72;grind]
 have sz:=sz3 hw hh;have a1:=of3 hi;have a2:=of3 hj;have e:nws [Rw.lay n m s v i j mk (Oa (w,h,l))]=hdW "layer" n m s v++lyW i j mk (w,h,l):=by rw[nws,nws,nw,ar]
 have lc:cw (lyW i j mk (w,h,l))<=3+3+73+4+33*9:=by
  have c:=cN9 λv hv=>(sp v hv).2
  rw[ai,ll]at c;show(it i).length+1+((it j).length+1+((mkT mk).length+1+((szT (w:Int) h).length+1+cw (l.map<|sT 58))))<=_;have:=a1.2;have:=a2.2;have:=mw.2;have:=sz.2
  grind
 refine#[?_,by rw[Rw.dps,Rw.dps,Rw.dp.eq_def];exact ak _,?_,by rw[e,W8];grind,?_,by simp]
 .rw[Gws,Gws,Gw];refine#[#[#[hn.1.wd,hm.1.wd,(sh3 hs).1],by grind,by grind,λms e=>#[by have:=(hk ms e).1;grind,λs hs=>(sh3<|(hk ms e).2 s hs).1],#[bx w,by show(w:Int) < _;grind],#[bx h,by show(h:Int) < _;grind],by show l.length<=_;grind,λt ht=>#[dS (hl t ht).1,λs hs=>(sh3<|(hl t ht).2 s hs).1]],trivial]
 .rw[e];intro v hv;simp only[lyW,aE,ao]at hv;rcases hv with hv|rfl|rfl|rfl|rfl|hv
  .exact h1 v hv
  .exact a1.1
  .exact a2.1
  .exact mw.1
  .exact sz.1
  .exact(sp v hv).1
 .rw[e];simp only[hdW,lyW,wt,aj,ag,aU,ai,ll]
  grind
def aE9{L:La Str}{Q:Str->Prop}(h:∀w∈L,Q w){n:Nat}(hn:n < L.length):∃m,atI (sD L) (n:Int)=Oa (.str m)/\Q m:=#[_,L4 (by rw[aH,aL hn];rfl),h _<|bD hn]
def cO4{x:Str}{p:Nat->Bool}(h:(cl x).all p=true){d:Nat}(hd:d < (cl x).length)(hx:x.length<=1000):∃c,atS x (d:Int)=Oa (.str<|sg c)/\p c=true:=by
 refine#[(cl x)[d],?_,ay.mp h _<|bD hd];unfold atS;rw[if_pos (by grind),L4 (aL hd)];rfl
def bb1{g:DE}(h:g y=Oa (.int i)):v8 (dC<|.str x) g y=atS x i:=by
 unfold v8;rw[h];rfl
abbrev n7(ns:La Int)(b:Bool)(N:La Str)(r:Rho):Rho:=[:scr ns]::[:.int 0]::[:.int 5]::[:.bool b]::Oa (.own<|sD N)::r
def cS1(ns:La Int)(hn:ns.length<=63)(j:Nat)(hj:j < 5)(b:Bool)(N:La Str)(hN:N.length<=5)(a6:Ob B):∃w x,Nm w/\bi5 (n7 ns b N [[:.int j],a6])=Oa (.nx<|n7 ns b (N++[w]) [[:.int j],x]):=by
 have m3:∀{f:DE}{ρ:Rho},f ρ=Oa (.int (j:Nat))->A9 G7 ⇑3 f ρ=Oa (.int ((3*j:Nat):Int)):=λ{f ρ} h=>(B5 rfl h).trans (V9 (i:=3) (by decide)<|by grind)
 have ad:∀{f g:DE}{ρ:Rho}{i k:Nat},f ρ=Oa (.int (i:Nat))->g ρ=Oa (.int (k:Nat))->A9 B4 f g ρ=Oa (.int ((i+k:Nat):Int)):=λ{f g ρ i k} h1 h2=>(B5 h1 h2).trans<|O4 _ _
 have lo:∀{x:Str},((cl x).all λc=>decide (97<=c/\c<=122))=true->∀d < (cl x).length,x.length<=1000->∃c,atS x (d:Int)=Oa (.str<|sg c)/\SOk (sg c):=λ{x} h d hd hx=>by
  obtain⟨c,e,h⟩:=cO4 h hd hx;exact#[c,e,λy hy=>by rw[show y=c by simpa using hy];exact of_decide_eq_true h]
 obtain⟨cs,ec,lc,hc⟩:=ay1 (P:=λc=>SOk<|sg c) (g:=λc=>fD<|sg c) (zd:=[0,1,5]) (src:=J9 ⇑2) (e:=v8 (!"abcdefghijklmnopqrstuvwxyz")<|A7 B6 {1,A9 B4 (A9 B4 (A9 B4 (!2) ⇑1)<|A9 G7 ⇑3 !3) !0,⇑26}) (ρ:=n7 ns b N [[:.int j],a6]) (l:=bf 2) (h:=λi:Nat=>fB i) (r:=[[:scr ns],[:.int 0],[:.int j]]) rfl rfl (by decide) λi hi=>by
  have hi:=bF.mp hi;obtain⟨d,ed,ld⟩:=ac9 ns (0+1+3*j+i) 26 hn (by grind) (by decide);obtain⟨c,e,h⟩:=lo (x := "abcdefghijklmnopqrstuvwxyz") ∅ d ld ∅;exact#[c,(bb1<|(k3 rfl (ad (ad (ad (i:=0) (k:=1) rfl rfl)<|m3 rfl) rfl) rfl).trans ed).trans e,h]
 match cs,lc,hc,ec with
 | [c1,c2],_,hc,ec =>
  generalize ex:Builtin.Str.glued "" [sg c1,sg c2]=x;have cx:cl x=[c1,c2]:=by rw[<- ex,aF8];rfl
  have lx:x.length=2:=by rw[<- E3,cx];rfl
  have sx:SOk x:=λy hy=>by
   rw[show x.cps.toList=[c1,c2] from cx]at hy;rcases ao.mp hy with rfl|hy
   .exact hc y (by simp) y (by simp)
   .rw[aB.mp hy];exact hc c2 (by simp) c2 (by simp)
  have jx:M0 (!"") (qN<|D2 1 [0,1,5] (J9 ⇑2) (D1 0) F6 (v8 (!"abcdefghijklmnopqrstuvwxyz")<|A7 B6 {1,A9 B4 (A9 B4 (A9 B4 (!2) ⇑1)<|A9 G7 ⇑3 !3) !0,⇑26})) (n7 ns b N [[:.int j],a6])=Oa (.str x):=by
   rw[<- ex];exact bX6 rfl (ac0 ec) rfl rfl
  obtain⟨d,ed,ld⟩:=ac9 ns (0+3+3*j) 3 hn (by grind) (by decide);obtain⟨d',ed',ld'⟩:=ac9 ns (0+2+3*j) 2 hn (by grind) (by decide);obtain⟨kk,ek,hk⟩:=cT1 d' ld';have tk:=av0 (x:=x) (p:=d) (by grind);have sl:(slS x Z<|Oa (d:Int)).length<=2:=by rw[<- E3,tk,aW];grind
  have rl:=aQ6 (slS x Z<|Oa (d:Int)) kk hk;have sr:=bA1 (x:=slS x Z<|Oa (d:Int)) (λc hc=>sx c<|dh (i:=d) (by rw[<- show cl (slS x Z<|Oa (d:Int))=(cl x).take d from tk];exact hc)) kk hk;obtain⟨l,el,sl'⟩:=lo (x := "abcdefghijklmn") ∅ j (show j < 14 by grind) ∅;have mS:=bV9 (slS x Z<|Oa (d:Int)) kk hk (by grind);generalize at4 (slS x Z<|Oa (d:Int)) kk=y at rl sr mS;have ll:(sg l).length=1:=rfl;have q1:=X7 (a:=y) (b:=sg l) (by grind);have q2:=X7 (a:=sg l) (b:=y) (by grind);have nm:∀{w:Str},SOk w->w.length<=5->Nm w:=λ{w} so h=>#[#[λc hc=>#[by have:=so c hc;grind,(so c hc).2],Rn.no λc hc=>decide_eq_false (by have:=so c hc;grind),by grind],h]
  refine#[if b=true then sg l++y else y++sg l,[:.str y],?_,?_]
  .cases b
   .exact nm (sr.app sl') (by show(y++sg l).length<=5;rw[Q5];grind)
   .exact nm (sl'.app sr) (by show(sg l++y).length<=5;rw[Q5];grind)
  .unfold bi5;refine(B2 (ρ':=n7 ns b N [[:.int j],[:.str x]])<|S5 jx).trans ((B2 (ρ':=n7 ns b N [[:.int j],[:.str y]])<|S5 ((B5 (aP6 (x:=x) rfl rfl (ah5<|(k3 rfl (ad (ad (i:=0) (k:=3) rfl rfl)<|m3 rfl) rfl).trans ed) (by grind) (by rw[tk,aW];grind))<|(W1 (q:=(false,[.int 1,.int 2])) rfl<|(k3 rfl (ad (ad (i:=0) (k:=2) rfl rfl)<|m3 rfl) rfl).trans ed').trans ek).trans mS)).trans ?_)
   have e:dIx (qN {A9 B4 (!6)<|v8 (!"abcdefghijklmn") !5,A9 B4 (v8 (!"abcdefghijklmn") !5) !6}) (ag8 !3) (n7 ns b N [[:.int j],[:.str y]])=Oa (.str (if b=true then sg l++y else y++sg l)):=by
    have z:v8 (!"abcdefghijklmn") (!5) (n7 ns b N [[:.int j],[:.str y]])=Oa (.str<|sg l):=(bb1 rfl).trans el;rw[W1 (q:=(false,[.str (y++sg l),.str (sg l++y)])) (i:=if b=true then 1 else 0) (by simp only[qN,A0,A8,(B5 (h:=B4) (show A6 6 (n7 ns b N [[:.int j],[:.str y]])=Oa (.str y) from rfl) z).trans q1,(B5 (h:=B4) (g:=A6 6) z rfl).trans q2,xbs,xms]) rfl];cases b<;>rfl
   unfold nbC N5;show(if(sD N).length < 16777216 then _ else _)=_;unfold n7;rw[if_pos (by rw[ai];grind),e,show sD (N++[_])=sD N++[_] from aO];rfl
def cS0(ns:La Int)(hn:ns.length<=63):∃N:La Str,af7 [scr ns,.int 0,.int 5]=Oa (.list<|sD N)/\N.length=5/\∀w∈N,Nm w:=by
 obtain⟨d,ed,ld⟩:=ac9 ns 0 2 hn (by decide) (by decide)
 obtain⟨ρ',e,N,a5,a6,rfl,hN,hP⟩:=az2 (g:=D1 5) (f:=bi5) (h:=λj:Nat=>fB j) (I:=λi ρ=>∃(N:La Str) (a5 a6:Ob B),ρ=n7 ns ((d:Int)==0) N [a5,a6]/\N.length=i/\∀w∈N,Nm w) (bf 5) 0 (n7 ns ((d:Int)==0) [] [Z,Z]) #[[],Z,Z,rfl,rfl,nofun] (λj a hj ρ hρ=>by
  obtain⟨N,a5,a6,rfl,hN,hP⟩:=hρ;obtain⟨hj1,hj2⟩:=am.mp hj;rw[bo]at hj1;rw[List.getElem_range]at hj2;subst hj2;obtain⟨w,x,hw,e⟩:=cS1 ns hn j hj1 ((d:Int)==0) N (by grind) a6
  exact#[_,rfl,_,e,N++[w],_,_,rfl,by rw[aj,hN];rfl,λy hy=>(aE.mp hy).elim (hP y) λh=>aB.mp h ▸ hw])
 refine#[N,C4 (ρ:=[[:scr ns],[:.int 0],[:.int 5],Z,Z,Z,Z]) rfl ?_,hN,hP];rw[bJ5];refine(B2 (ρ':=[[:scr ns],[:.int 0],[:.int 5],[:.bool ((d:Int)==0)],Z,Z,Z])<|S5 ((B5 ((k3 rfl rfl rfl).trans ed) rfl).trans<|aC8 _ _)).trans ((B2 rfl).trans<|(B2 (ρ':=n7 ns ((d:Int)==0) N [a5,a6]) ?_).trans rfl);unfold ab1;rw[am0 (n:=5) rfl (by decide)];exact e
def cr9:∀w∈ag4++ax2,((cl w).all (λc=>decide (33<=c/\c<=122) && !dg c)&&decide (w.length<=8))=true:=∅
def bD5{w:Str}(h:w∈ag4++ax2):Mn w:=ar0<|cr9 w h
abbrev lw(ns:La Int)(k:Nat)(n m:Str)(s:Sr)(v:Bool)(r:Rho):Rho:=[:scr ns]::[:.int k]::[:.str n]::[:.str m]::[:prD s]::[:.bool v]::r
section
variable (ns:La Int) (hn:ns.length<=63)
include hn
def cS8{e:Int}(k:Nat)(he:e=(k:Int))(hk:k < 2 ^ 19)(n m:Str)(hnm:Nm n)(hm:Mn m):∃x:Rw,r6 [scr ns,.int e,.str n,.str m]=Oa x.d/\Ts 1 0 [x]:=by
 subst he;obtain⟨p,q,es,hp,hq,_⟩:=bz3 ns hn k rfl (by grind);have hs:Sb (pn p q):=#[p,q,rfl,by grind,by grind];obtain⟨d3,e3,l3⟩:=drw ns hn k 3 6 (by grind);obtain⟨d4,e4,l4⟩:=drw ns hn k 4 6 (by grind);obtain⟨d6,e6,l6⟩:=drw ns hn k 6 3 (by grind);obtain⟨d7,e7,l7⟩:=drw ns hn k 7 3 (by grind);obtain⟨d8,e8,l8⟩:=drw ns hn k 8 3 (by grind);obtain⟨d9,e9,l9⟩:=drw ns hn k 9 3 (by grind);obtain⟨d10,e10,l10⟩:=drw ns hn k 10 4 (by grind);obtain⟨d11,e11,l11⟩:=drw ns hn k 11 4 (by grind);obtain⟨d12,e12,l12⟩:=drw ns hn k 12 3 (by grind);obtain⟨d5,e5,l5⟩:=drw ns hn k 5 3 (by grind);obtain⟨d5',e5',l5'⟩:=drw ns hn k 5 6 (by grind);generalize ev:decide ((0:Int) < (d3:Int))=v
 have pre:∀{x:D},(B3 V8<|B3 h8 (B3 R6<|B3 g8 (B3 b6<|B3 ab9 (B3 V7<|B3 ab8 (B3 t7<|B3 S4 (B3 r9 al0)))))) (lw ns k n m (pn p q) v [Z,Z,Z,Z,Z,Z,Z])=Oa (.rt x)->r6 [scr ns,.int k,.str n,.str m]=Oa x:=λ{x} e=>by
  refine C4 (ρ:=[[:scr ns],[:.int k],[:.str n],[:.str m],Z,Z,Z,Z,Z,Z,Z,Z,Z]) rfl ?_;unfold aW2;refine(B2 (by exists evD,ar5,es;try rfl)).trans ((B2 (by exists evD,ar4,e3,ev;try rfl)).trans e)
 cases q4:(d4:Int)==0 with
 | true =>
  obtain⟨r,er,hr⟩:=aE9 (L:=ax2) (Q:=Mn) (λw hw=>bD5<|aw _ hw) l5;have er:atI ([.str "turn", .str "grey", .str "round"]:La D) (d5:Int)=Oa (.str r):=er;refine#[.leaf "tone" n r (pn p q) v,pre<|P3 ?_,bQ5 hnm hr hs];rw[Rw.d]
  exists evD,V8,e4,q4,e5,er
 | false =>
 obtain⟨m0,em0,hm0⟩:=aE9 (L:=ag4) (Q:=Mn) (λw hw=>bD5<|aS _ hw) l5';have em0:atI ([.str "over", .str "multiply", .str "screen", .str "plus", .str "atop", .str "cut"]:La D) (d5':Int)=Oa (.str m0):=em0
 obtain⟨m1,hm1,s4⟩:∃m1,Mn m1/\R6 (lw ns k n m (pn p q) v [[:.str m0],Z,Z,Z,Z,Z,Z])=Oa (.nx<|lw ns k n m (pn p q) v [[:.str m1],Z,Z,Z,Z,Z,Z]):=by
  cases t6:decide ((0:Int) < (d6:Int)) with
  | true=>exact#[m,hm,by exists evD,R6,e6,t6]
  | false=>exact#[m0,hm0,by exists evD,R6,e6,t6]
 generalize ew:1+d7=w0;generalize eh:1+d8=h0;have w3:w0<=3:=by grind
 have h3:h0<=3:=by grind
 have wh:w0*h0<=9:=cg w3 h3;have s7:∀{X:DS},(B3 V8<|B3 h8 (B3 R6<|B3 g8 (B3 b6<|B3 ab9 X))) (lw ns k n m (pn p q) v [Z,Z,Z,Z,Z,Z,Z])=X (lw ns k n m (pn p q) v [[:.str m1],[:.int w0],[:.int h0],Oa (.val .none),Z,Z,Z]):=λ{X}=>by refine(B2 (ρ':=lw ns k n m (pn p q) v [Z,Z,Z,Z,Z,Z,Z]) (by exists evD,V8,e4,q4)).trans ((B2 (by exists evD,h8,e5',em0;try rfl)).trans<|(B2 s4).trans ((B2 (by exists evD,g8,e7,ad1,ew;try rfl)).trans<|(B2 (by exists evD,b6,e8,ad1,eh;try rfl)).trans (B2 rfl)))
 obtain⟨mk,s8,hmk⟩:∃mk:Ob (La Sr),V7 (lw ns k n m (pn p q) v [[:.str m1],[:.int w0],[:.int h0],Oa (.val .none),Z,Z,Z])=Oa (.nx<|lw ns k n m (pn p q) v [[:.str m1],[:.int w0],[:.int h0],[:mkD mk],Z,Z,Z])/\∀ms,mk=Oa ms->ms.length<=9/\∀s∈ms,Sb s:=by
  cases t9:(d9:Int)==0 with
  | false=>exact#[Z,by exists evD,V7,e9,t9;rfl,nofun]
  | true =>
   obtain⟨l,el,ll,hl⟩:=ay1 (P:=Sb) (g:=prD) (zd:=[0,1]) (src:=J9<|A9 G7 (!7) !8) (e:=A7 N4 {1,A9 B4 (A9 B4 (!2) ⇑20)<|A9 G7 ⇑3 !0}) (ρ:=lw ns k n m (pn p q) v [[:.str m1],[:.int w0],[:.int h0],Oa (.val .none),Z,Z,Z]) (l:=bf<|w0*h0) (h:=λj:Nat=>fB j) (r:=[[:scr ns],[:.int k]]) rfl (am0 ((B5 rfl rfl).trans<|V9 (by grind) (by grind))<|by grind) (by rw[bo];grind) λj hj=>by
    have hj:=bF.mp hj;have m3:G7 (.int 3) (.int j)=Oa (.int ((3*j:Nat):Int)):=V9 (i:=3) (by decide) (by grind);obtain⟨p,q,es,hp,hq,_⟩:=bz3 ns hn (e:=(k:Int)+20+((3*j:Nat):Int)) (k+20+3*j) (by grind) (by grind);exact#[pn p q,by(exists evD,m3,es),p,q,rfl,by grind,by grind]
   rw[bo]at ll;refine#[Oa l,?_,λms e=>by cases e;exact#[by grind,hl]];have t:tB2 eqD (A7 B6 {0,A9 B4 (!1) ⇑9,⇑3}) ⇑0 (lw ns k n m (pn p q) v [[:.str m1],[:.int w0],[:.int h0],Oa (.val .none),Z,Z,Z])=Oa true:=by exists evD,e9,t9
   unfold V7 sIf;rw[t];show(C7 9 _ _)=_;unfold C7 N1;rw[ac0 el];rfl
 obtain⟨w,h,i,j,mk',s11,hw,hh,hi,hj,hmk'⟩:∃(w h:Nat) (i j:Int) (mk':Ob (La Sr)),S4 (lw ns k n m (pn p q) v [[:.str m1],[:.int w0],[:.int h0],[:mkD mk],[:.int ((d10:Int) - 1)],[:.int ((d11:Int) - 1)],Z])=Oa (.nx<|lw ns k n m (pn p q) v [[:.str m1],[:.int w],[:.int h],[:mkD mk'],[:.int i],[:.int j],Z])/\(1<=w/\w<=3)/\(1<=h/\h<=3)/\(-2<=i/\i<=2)/\(-2<=j/\j<=2)/\∀ms,mk'=Oa ms->ms.length<=9/\∀s∈ms,Sb s:=by
  cases t12:(d12:Int)==0 with
  | true =>
   refine#[3,3,0,0,Z,?_,by decide,by decide,by decide,by decide,nofun];have l5:∀a b c d e:D,([a,b,c,d,e]:La D).length=5:=λ_ _ _ _ _=>rfl
   exists evD,S4,e12,t12,l5
   rfl
  | false=>exact#[w0,h0,(d10:Int) - 1,(d11:Int) - 1,mk,by(exists evD,S4,e12,t12),by grind,by grind,by grind,by grind,hmk]
 obtain⟨l,el,ll,hl⟩:=cQ8 ns hn (e:=(k:Int)+50) (k+50) w h (by grind) (by grind) hw hh;refine#[.lay n m1 (pn p q) v i j mk'<|Oa (w,h,l),pre (s7.trans<|(B2 s8).trans ((B2 (by exists evD,ab8,e10;try rfl)).trans<|(B2 (by exists evD,t7,e11;try rfl)).trans ((B2 s11).trans<|(B2 (by exists evD,r9,el;try rfl)).trans ?_))),cl5 hnm hm1 hs hw.2 hh.2 hi hj hmk' ll hl];rw[Rw.d];rfl
abbrev gW(ns:La Int)(k:Nat)(N:La Str)(m:Str)(r:Rho):Rho:=[:scr ns]::[:.int k]::[:.int 3]::[:.list (sD N)]::[:.str m]::r
def cT6(k j:Nat)(hk:k < 2 ^ 18)(hj:j < 2)(N:La Str)(hN:N.length=5)(hm:∀w∈N,Nm w)(m:Str)(mm:Mn m)(l:La Rw)(h:Ts a b l)(hl:l.length<=100)(a5 a8 a9 a10 a11 a12:Ob B):∃(l':La Rw) (b8 b9 b10 b11 b12:Ob B),bk5 (gW ns k N m [a5,Oa (.own<|Rw.ds l),[:.int j],a8,a9,a10,a11,a12])=Oa (.nx<|gW ns k N m [a5,Oa (.own<|Rw.ds l'),[:.int j],b8,b9,b10,b11,b12])/\Ts a (b+1) l':=by
 have m5:G7 (.int 5) (.int j)=Oa (.int ((5*j:Nat):Int)):=V9 (i:=5) (by decide) (by grind);have hds:(Rw.ds l).length=l.length:=by rw[u7,ai]
 obtain⟨f,ef,lf⟩:=K4 ns hn (e:=(k:Int)+3+((5*j:Nat):Int)) (m':=(((Rw.ds l).length:Nat):Int)+1) (k+3+5*j) (l.length+1) (by grind) (by rw[hds];grind) (by grind) (by grind);obtain⟨d,ed,ld⟩:=K4 ns hn (e:=(k:Int)+4+((5*j:Nat):Int)) (m':=3) (k+4+5*j) 3 (by grind) rfl (by grind) (by decide);obtain⟨p,q,es,hp,hq,_⟩:=bz3 ns hn (e:=(k:Int)+5+((5*j:Nat):Int)) (k+5+5*j) (by grind) (by grind);obtain⟨d6,e6,l6⟩:=K4 ns hn (e:=(k:Int)+6+((5*j:Nat):Int)) (m':=2) (k+6+5*j) 2 (by grind) rfl (by grind) (by decide);obtain⟨d7,e7,l7⟩:=K4 ns hn (e:=(k:Int)+7+((5*j:Nat):Int)) (m':=4) (k+7+5*j) 4 (by grind) rfl (by grind) (by decide);obtain⟨d14,e14,l14⟩:=K4 ns hn (e:=(k:Int)+14+(j:Int)) (m':=7) (k+14+j) 7 (by grind) rfl (by grind) (by decide)
 obtain⟨m',em,hm'⟩:=aE9 (L:=[m, "atop", m, "cut"]) (Q:=Mn) (λw hw=>by
  simp only[ao,aM,or_false]at hw;rcases hw with rfl|rfl|rfl|rfl
  .exact mm
  .exact bD5 ∅
  .exact mm
  .exact bD5 ∅) l7
 have em:atI ([.str m,.str "atop", .str m,.str "cut"]:La D) (d7:Int)=Oa (.str m'):=em
 obtain⟨s,est,hs⟩:∃s,atI [prD (1,1),prD (pn p q)] (d6:Int)=Oa (prD s)/\Sb s:=by
  match d6,l6 with
  | 0,_=>exact#[(1,1),rfl,1,1,rfl,by decide,by decide]
  | 1,_=>exact#[pn p q,rfl,p,q,rfl,by grind,by grind]
 obtain⟨nm,en,hnm⟩:=aE9 (L:=N) (Q:=Nm) (n:=3+j) hm (by grind);have en:atI (sD N) ((3:Int)+(j:Int))=Oa (.str nm):=by rw[<- en];congr 1
 generalize ev:decide ((0:Int) < (d14:Int))=v;generalize ec:max f (min (f+d) l.length)=c;have fc:f<=c:=by grind
 have sp:l=l.take f++(l.drop f).take (c - f)++l.drop c:=by
  have e:l.drop c=(l.drop f).drop (c - f):=by rw[eB];congr 1;grind
  rw[e,au,cG,cG]
 obtain⟨q1,q2⟩:=ca4 (ds:=Rw.ds l) (a:=f) (b:=f+d) (by grind)
 have mid:((Rw.ds l).drop f).take (min (f+d) (Rw.ds l).length - f)=Rw.ds ((l.drop f).take<|c - f):=by
  rw[hds,u7,u7,<- dI,<- dJ]
  congr 2;grind
 rw[sp]at h;refine#[l.take f++[Rw.grp nm m' s v ((l.drop f).take<|c - f)]++l.drop c,[:.int f],[:.int ((f+d:Nat):Int)],[:prD s],[:.str m'],[:hdD "group" nm m' s v []],?_,cl6 h hnm hm' hs];have fd:(f:Int)+(d:Int)=((f+d:Nat):Int):=by grind
 unfold bk5;refine(B2 (by exists evD,gb0,m5,ef;try rfl)).trans ((B2 (by exists evD,gb1,m5,ed,fd;try rfl)).trans<|(B2 (by exists evD,gb2,m5,es,e6,est;try rfl)).trans ((B2 (by exists evD,gb3,m5,e7,em;try rfl)).trans<|(B2 (by exists evD,gb4,en,e14,ev;try rfl)).trans ?_))
 suffices H:∀E,gW ns k N m [a5,Oa (.own<|Rw.ds l),[:.int j],[:.int f],[:.int ((f+d:Nat):Int)],[:prD s],[:.str m'],[:hdD "group" nm m' s v []]]=E->gb5 E=Oa (.nx<|gW ns k N m [a5,Oa (.own<|Rw.ds (l.take f++[Rw.grp nm m' s v ((l.drop f).take<|c - f)]++l.drop c)),[:.int j],[:.int f],[:.int ((f+d:Nat):Int)],[:prD s],[:.str m'],[:hdD "group" nm m' s v []]]) from H _ rfl
 intro E eE;have x1:bs3 (B0 6) (D5 !8) (D5 !9) E=Oa (.list<|Rw.ds ((l.drop f).take<|c - f)):=by rw[<- mid,<- q1,<- eE];rfl
 have x2:{A9 B4 (!12)<|L9 {N1<|qE (bs3 (B0 6) (D5 !8)<|D5 !9)}} E=Oa [(Rw.grp nm m' s v<|(l.drop f).take (c - f)).d]:=by
  have x3:A6 12 E=Oa (hdD "group" nm m' s v []):=by rw[<- eE];rfl
  rw[Rw.d];simp only[A0,A8,A9,L9,N1,qE,x1,x3,aJ0,xbs,xms,xft,if_false];rfl
 have fin:aw9 (Rw.ds l) (Oa (f:Int)) (Oa ((f+d:Nat):Int)) [(Rw.grp nm m' s v<|(l.drop f).take (c - f)).d]=Rw.ds (l.take f++[Rw.grp nm m' s v ((l.drop f).take<|c - f)]++l.drop c):=by rw[q2,hds,ec,u7,u7,aO,aO,dJ,dI];rfl
 rw[<- fin];unfold gb5 bz6;rw[x2,<- eE,xbs];show(if(Rw.ds l).length+1<=16777216 then Oa (Fl.nx _) else Z)=_;rw[if_pos (by grind)];rfl
def cS3(k:Nat)(hk:k < 2 ^ 17)(N:La Str)(hN:N.length=5)(hm:∀w∈N,Nm w):∃l:La Rw,af6 [scr ns,.int k,.int 3,.list (sD N)]=Oa (.tuple<|Rw.ds l)/\Ts 3 2 l:=by
 obtain⟨d0,e0,l0⟩:=K4 ns hn (e:=(k:Int)) (m':=4) k 4 rfl rfl (by grind) (by decide);obtain⟨d1,e1,l1⟩:=K4 ns hn (e:=(k:Int)+1) (m':=(3:Int)+1) (k+1) 4 (by grind) rfl (by grind) (by decide);obtain⟨d2,e2,l2⟩:=drw ns hn k 2 3 (by grind);obtain⟨m,em,mm⟩:=aE9 (L:=["over","multiply","screen","plus"]) (Q:=Mn) (λw hw=>bD5 (by simp only[ag4,ax2,aE,ao,aM,or_false]at hw |-;rcases hw with h|h|h|h<;>simp[h])) l0;have em:atI ([.str "over", .str "multiply", .str "screen", .str "plus"]:La D) (d0:Int)=Oa (.str m):=em
 obtain⟨xs,ex,lx,hx⟩:=ay1 (P:=λx=>Ts 1 0 [x]) (g:=Rw.d) (zd:=[0,4,3,1]) (src:=J9 !5) (e:=A7 r6 {1,A9 B4 (A9 B4 (!4) ⇑20)<|A9 G7 ⇑170 !0,dIx (B0 3) !0,2}) (ρ:=gW ns k N m [[:.int d1],Z,Z,Z,Z,Z,Z,Z]) (l:=bf d1) (h:=λj:Nat=>fB j) (r:=[[:scr ns],[:.str m],[:.list (sD N)],[:.int k]]) rfl (am0 (n:=d1) rfl<|by grind) (by rw[bo];grind) λj hj=>by
  have hj:=bF.mp hj;have m170:G7 (.int 170) (.int j)=Oa (.int ((170*j:Nat):Int)):=V9 (i:=170) (by decide) (by grind);obtain⟨nm,en,hnm⟩:=aE9 (L:=N) (Q:=Nm) (n:=j) hm (by grind);obtain⟨x,ex,hx⟩:=cS8 ns hn (e:=(k:Int)+20+((170*j:Nat):Int)) (k+20+170*j) (by grind) (by grind) nm m hnm mm;exact#[x,by(exists evD,m170,en,ex),hx]
 rw[bo]at lx
 have start:Ts d1 0 xs:=by
  have key:∀xs:La Rw,(∀x∈xs,Ts 1 0 [x])->Ts xs.length 0 xs:=λxs=>by
   induction xs with
   | nil=>exact λ_=>cl4
   | cons x xs ih =>
    intro h;have:=cl7 (h x<|by simp)<|ih λy hy=>h y<|xmm _ hy
    rwa [Nat.add_comm 1]at this
  rw[<- lx];exact key xs hx
 obtain⟨ρ',e3,l,b7,b8,b9,b10,b11,b12,hρ,hl⟩:=az2 (g:=D1 7) (f:=bk5) (h:=λj:Nat=>fB j) (I:=λi ρ=>∃(l:La Rw) (b7 b8 b9 b10 b11 b12:Ob B),ρ=gW ns k N m [[:.int d1],Oa (.own (Rw.ds l)),b7,b8,b9,b10,b11,b12]/\Ts d1 i l) (bf d2) 0 (gW ns k N m [[:.int d1],Oa (.own (Rw.ds xs)),Z,Z,Z,Z,Z,Z]) #[_,_,_,_,_,_,_,rfl,start] (λj a hj ρ hρ=>by
  obtain⟨l,b7,b8,b9,b10,b11,b12,rfl,hl⟩:=hρ;obtain⟨hj1,hj2⟩:=am.mp hj;rw[bo]at hj1;rw[List.getElem_range]at hj2;subst hj2;refine#[_,rfl,?_];have:=hl.n;obtain⟨l',c8,c9,c10,c11,c12,eb,h'⟩:=cT6 ns hn k j (by grind) (by grind) N hN hm m mm l hl (by grind) ([:.int d1]) b8 b9 b10 b11 b12
  exact#[_,eb,l',_,_,_,_,_,_,rfl,h'])
 subst hρ;rw[bo,Nat.zero_add]at hl;have hc:=hl.c;have hp:=hl.p;have hll:=hl.l;have hn':=hl.n;refine#[l,C4 (ρ:=[[:scr ns],[:.int k],[:.int 3],[:.list (sD N)],Z,Z,Z,Z,Z,Z,Z,Z,Z]) rfl ?_,hl.g,by grind,hl.w,by grind,by grind,by grind];rw[bJ4];refine(B2 (by exists evD,gn0,e0,em;try rfl)).trans ((B2 (by exists evD,gn1,e1;try rfl)).trans<|(B2 (ρ':=gW ns k N m [[:.int d1],Oa (.own<|Rw.ds xs),Z,Z,Z,Z,Z,Z]) (by unfold gn2 O1;rw[ex,u7];rfl)).trans ((B2 (ρ':=gW ns k N m [[:.int d1],Oa (.own<|Rw.ds l),b7,b8,b9,b10,b11,b12]) ?_).trans rfl));unfold gn3 ab1;rw[am0 (n:=d2) (by exists evD,e2) (by grind)];exact e3
def bW6:∃U:La Str,A7 O5 {A7 i6 {0,⇑30,⇑3,A7 af7 {0,⇑0,⇑5}}} ([:scr ns]::ρ)=Oa (.str<|gl 32 U)/\U≠[]/\(∀w∈U,Wk 3 w)/\cw U<=5990/\U.length<=262:=by
 obtain⟨N,eN,hN,hm⟩:=cS0 ns hn;obtain⟨d0,e0,l0⟩:=K4 ns hn (e:=30) (m':=3) 30 3 rfl rfl (by decide) (by decide);obtain⟨d1,e1,l1⟩:=K4 ns hn (e:=31) (m':=3) 31 3 rfl rfl (by decide) (by decide);obtain⟨xs,ex,t⟩:=cS3 ns hn 32 (by decide) N hN hm;have ex:af6 [scr ns,.int 32,.int 3,.list (sD N)]=_:=ex;generalize ew:1+d0=w;generalize eh:1+d1=h
 have ep:i6 [scr ns,.int 30,.int 3,.list (sD N)]=Oa (Pc.mk w h xs).d:=by
  refine C4 (ρ:=[[:scr ns],[:.int 30],[:.int 3],[:.list (sD N)],Z,Z]) rfl ?_;have a1:(30:Int)+1=31:=rfl;have a2:(30:Int)+2=32:=rfl
  exists evD,at1,a1,a2,e0,e1,ad1,ex,ew,eh
 have tc:=t.c;have tl:=t.l;have tp:=t.p;have sz:=sz3 (w:=w) (h:=h) (by grind) (by grind);have e:=ac6 (p:=#[w,h,xs]) #[#[bx w,by show(w:Int) < _;grind],#[bx h,by show(h:Int) < _;grind],t.g,by show(nws xs).length<=_;grind,by show Rw.dps xs<=_;grind];refine#[pw #[w,h,xs],by(exists evD,eN,ep,e),by simp,λv hv=>?_,?_,?_]
 .rcases ao.mp hv with rfl|hv
  .exact sz.1
  .exact t.w v hv
 .show(szT (w:Int) h).length+1+cw (nws xs)<=_;have:=sz.2
  grind
 .show(nws xs).length+1<=_
  grind
end
def cR1{V:La Str}{f g:DE}(hf:f y=Oa (.list<|sD V))(hg:g y=Oa (.int (n:Nat))):S9 f J1 (D5 g) y=Oa (.list<|sD (V.take n)):=by
 unfold S9;rw[hf,ah5 hg];show Oa (PyData.list<|Z0 (sD V) Z (Oa (n:Int)))=_;unfold Z0;rw[HT.sIx_nat,show HT.sIx (sD V).length 0 Z=0 from rfl,dv,Nat.sub_zero,sD,ai,<- dJ]
 congr 3
 by_cases h:n<=V.length
 .rw[eA h]
 .rw[Nat.min_eq_right (by grind),aY (ak _),aY (by grind)]
def cR0{V:La Str}{f g:DE}(hf:f y=Oa (.list<|sD V))(hg:g y=Oa (.int (n:Nat)))(hn:n<=V.length):S9 f (D5 g) J1 y=Oa (.list<|sD (V.drop n)):=by
 unfold S9;rw[hf,ah5 hg];show Oa (PyData.list<|Z0 (sD V) (Oa (n:Int)) Z)=_;unfold Z0;rw[HT.sIx_nat,show HT.sIx (sD V).length (sD V).length Z=(sD V).length from rfl,ai,eA hn,<- dI,aY (by rw[ai,bc];exact ak _)]
theorem bd5{w:Str}(hw:w.length<=80):∀(V:La Str) (i:Nat),cw (V.set i w)<=cw V+81
 | [],_=>by simp[cw]
 | x::V,0=>by show w.length+1+cw V<=x.length+1+cw V+81;grind
 | x::V,i+1=>by
  have:=bd5 hw V i;show x.length+1+cw (V.set i w)<=x.length+1+cw V+81
  grind
def cg7(V:La Str)(n:Nat):cw (V.take n)+cw (V.drop n)=cw V:=by rw[<- W8,cG]
def jn{V:La Str}{g:Rho->Ob (Bool×La D)}(hg:g y=Oa (false,sD V))(h:∀w∈V,Wk 3 w)(hl:V.length<=600):M0 (!" ") g y=Oa (.str<|gl 32 V):=bk9 (b:=80) bl_ hg (λw hw=>(h w hw).l) (by grind)
def aO8{t:Str}(h:((cl t).all (λc=>decide (c < 128))&&decide ((cl t).length<=7))=true):Tx t:=by
 simp only[ae,decide_eq_true_eq,ay]at h;exact aX3 h.1 (by grind) (Rn.len h.2) (Rn.len<|by grind) (aI List.count_le_length<|by grind)
abbrev e9(ns:La Int)(t:Str)(p c:Nat)(V:La Str)(f l:Nat)(U:La Str)(r:Ob B):Rho:=[[:scr ns],[:.str t],[:.int p],[:.str (sg c)],[:.list (sD V)],[:.int f],[:.int l],Oa (.own<|sD U),r]
def cG8{V U:La Str}{h x:DE}{i:Nat}(hi:i < U.length)(h1:h (e9 ns t p c V f l U Z)=Oa (.int (i:Nat)))(h2:x (e9 ns t p c V f l U Z)=Oa (.str w)):bn7 7 h x (e9 ns t p c V f l U Z)=Oa (.nx<|e9 ns t p c V f l (U.set i w) Z):=by
 unfold bn7;rw[h2,xbs,h1,xbs];show((ixN (sD U).length (i:Int)).map λj=>Fl.nx _)=_;rw[bI5 (by grind) (by rw[ai];grind),xms,bO];unfold e9;rw[show sD (U.set i w)=(sD U).set i (.str w) from dU ..];rfl
def ix4{V:La Str}{h:DE}{i:Nat}(e:V[i]? = Oa w)(e3:h y=Oa (.int (i:Nat)))(e2:B0 4 y=Oa (false,sD V)):dIx (B0 4) h y=Oa (.str w):=by
 rw[W1 e2 e3];refine L4 ?_;rw[aH,e];rfl
def st8{V U:La Str}{g:DE}(h:g (e9 ns t p c V f l U r)=Oa d):C7 8 g (e9 ns t p c V f l U r)=Oa (.nx<|e9 ns t p c V f l U ([:d])):=S5 h
def qn{U:La Str}{g:DE}(h:g y=Oa (.list<|sD U)):qE g y=Oa (false,sD U):=by
 unfold qE;rw[h];rfl
def bn4(ns:La Int)(hn:ns.length<=63){V:La Str}(V0:V≠[])(hV:∀w∈V,Wk 3 w)(hc:cw V<=5990)(hl:V.length<=262):∃x,Q6 [scr ns,.str (gl 32 V)]=Oa (.str x)/\Tx x:=by
 obtain⟨g1,g2,g3,g4,g5⟩:=cg4 hV;have T:Tl (gl 32 V):=#[g1,by grind,g2,g3,by grind];have Vp:0 < V.length:=List.length_pos_iff.mpr V0;have w7:∀{U:La Str},(∀w∈U,w∈V)->cw U<=6200->U.length<=600->Tx (gl 32 U):=λ{U} h1 h2 h3=>cc3 (λw hw=>have q:=hV w (h1 w hw);#[q.a,q.d.le (by decide),q.l]) (by grind) (by grind)
 have sp:ws (gl 32 V) 32=V:=aO3 V0 λw hw=>(hV w hw).a.no (by decide)
 have tl:(gl 32 V).length<=6000:=by rw[<- E3];grind
 generalize gl 32 V=t at *;obtain⟨p,ep,lp⟩:=K4 ns hn (e:=800) (m':=(t.length:Int)+1) 800 (t.length+1) rfl (by grind) (by decide) (by grind);obtain⟨d1,e1,l1⟩:=K4 ns hn (e:=801) (m':=24) 801 24 rfl rfl (by decide) (by decide);obtain⟨f,ef,lf⟩:=K4 ns hn (e:=802) (m':=V.length) 802 V.length rfl rfl (by decide) Vp;obtain⟨la,el,ll⟩:=K4 ns hn (e:=803) (m':=V.length) 803 V.length rfl rfl (by decide) Vp;obtain⟨d4,e4,l4⟩:=K4 ns hn (e:=804) (m':=7) 804 7 rfl rfl (by decide) (by decide);obtain⟨c,es,hc'⟩:=cO4 (x := "0123456789/:,.x+-[] abtg") (p:=λc=>decide (c < 128)) ∅ l1 ∅;have hc':=of_decide_eq_true hc'
 have len:∀{g:Rho->Ob (Bool×La D)}{ρ:Rho},g ρ=Oa (false,sD V)->F7 g ρ=Oa (.int V.length):=λ{g ρ} h=>by
  unfold F7;rw[h];show Oa (fB (sD V).length)=_;rw[ai]
 have ts:txS t (sg 32)=Oa (.list<|sD V):=by
  unfold txS;rw[if_pos #[show(1:Nat)≠0 by decide,by grind,by show(ws t 32).length<=_;rw[sp];grind],show Txt.split t (sg 32)=V from sp]
 have hp:p<=t.length:=by grind
 have c1:∀{ρ:Rho},A6 1 ρ=Oa (.str t)->A6 2 ρ=Oa (.int p)->Y8 (!1) J1 (D5 !2) ρ=Oa (.str<|slS t Z (Oa (p:Int))):=λ{ρ} h1 h2=>aP6 h1 rfl (ah5 h2) (by grind) (by rw[av0 hp,aW];grind)
 have c2:∀{ρ:Rho}{g:DE}{q:Nat},A6 1 ρ=Oa (.str t)->g ρ=Oa (.int (q:Nat))->Y8 (!1) (D5 g) J1 ρ=Oa (.str<|slS t (Oa (q:Int)) Z):=λ{ρ g q} h1 h2=>aP6 h1 (ah5 h2) rfl (by grind) (by rw[ae2,bc];grind)
 have tk:=av0 hp;have k1:(slS t Z<|Oa (p:Int)).length<=6000:=by rw[<- E3,tk,aW];grind
 have k2:∀q:Nat,(slS t (Oa (q:Int)) Z).length<=6000:=λq=>by rw[<- E3,ae2,bc];grind
 have sc:(sg c).length=1:=rfl;have x1:∀q:Nat,p<=q->Tx (slS t Z (Oa (p:Int))++sg c++slS t (Oa (q:Int)) Z):=λq hq=>aw8 T (y:=[c]) (by rw[L6,L6,tk,ae2,au]) (λd hd=>by rw[aB.mp hd];exact hc') (show 1<=2 by decide) (Rn.len<|ak _) hq
 have x2:Tx (slS t Z (Oa (p:Int))++slS t (Oa ((p+1:Nat):Int)) Z):=aw8 T (y:=[]) (by rw[L6,tk,ae2];rfl) (λd hd=>by cases hd) (by decide) (Rn.len<|aA _) (bM p);have a1:=X7 (a:=slS t Z<|Oa (p:Int)) (b:=sg c) (by grind);have a2:∀q:Nat,B4 (.str<|slS t Z (Oa (p:Int))++sg c) (.str<|slS t (Oa (q:Int)) Z)=_:=λq=>X7 (by have:=k2 q;rw[Q5];grind)
 have a3:=X7 (a:=slS t Z<|Oa (p:Int)) (b:=slS t (Oa ((p+1:Nat):Int)) Z) (by have:=k2 (p+1);grind);have pp:∀{ρ:Rho}{i q:Nat},A6 i ρ=Oa (.int (q:Nat))->A9 B4 (A6 i) ⇑1 ρ=Oa (.int ((q+1:Nat):Int)):=λ{ρ i q} h=>(B5 h rfl).trans<|O4 _ _
 have vm:∀{i j:Nat}{w:Str},w∈V.take i++V.drop j->w∈V:=λ{i j w} hw=>(aE.mp hw).elim dh cJ
 generalize eO:(V.set f V[la]).set la V[f]=O
 have hO:∀w∈O,w∈V:=λw hw=>by
  rw[<- eO]at hw;rcases cP hw with hw|rfl
  .rcases cP hw with hw|rfl
   .exact hw
   .exact bD _
  .exact bD _
 have cO:cw O<=6152:=by
  have a:=bd5 (hV _<|bD ll).l V f;have b:=bd5 (hV _<|bD lf).l (V.set f V[la]) la;rw[eO]at b
  grind
 have lO:O.length=V.length:=by rw[<- eO,bC,bC]
 have jt:∀{i j:Nat}{g h:DE}{r:Ob B},j<=V.length->g (e9 ns t p c V f la O r)=Oa (.int (i:Nat))->h (e9 ns t p c V f la O r)=Oa (.int (j:Nat))->M0 (!" ") (qE<|A9 B4 (S9 (!4) J1<|D5 g) (S9 (!4) (D5 h) J1)) (e9 ns t p c V f la O r)=Oa (.str<|gl 32 (V.take i++V.drop j)):=λ{i j g h r} hj h1 h2=>jn (qn<|(B5 (cR1 rfl h1)<|cR0 rfl h2 hj).trans (by rw[X8 (by simp;grind),sD,sD,sD,aO])) (λw hw=>hV w<|vm hw) (by simp;grind)
 have b1:=X7 (a:=t) (b := " ") (by rw[bl_];show t.length+1<=_;grind);have b2:=X7 (a:=t) (b := " ]") (by rw[show(" ]":Str).length=2 by decide +kernel];grind);have tn:∀{y:Str}{z:La Nat},cl y=z->(∀c∈z,c < 128)->z.length<=2->Rn dg 1 z->Tx (t++y):=λ{y z} e h1 h2 h3=>aw8 T (y:=z) (p:=(cl t).length) (q:=(cl t).length) (by rw[L6,e,aY (ak _),ez (ak _),ar]) h1 h2 h3<|ak _
 obtain⟨y,ey,ty⟩:∃y,([.str "", .str " ", .str "1x1", .str "x", .str (t ++ " "),.str (t ++ " ]")]:La D)[p % 6]? = Oa (.str y)/\Tx y:=by
  match p % 6,dQ p (show 6 > 0 by decide) with
  | 0,_=>exact#[_,rfl,aO8 ∅]
  | 1,_=>exact#[_,rfl,aO8 ∅]
  | 2,_=>exact#[_,rfl,aO8 ∅]
  | 3,_=>exact#[_,rfl,aO8 ∅]
  | 4,_=>exact#[_,rfl,tn (z:=[32]) ∅ (by decide) (by decide)<|Rn.len (by decide)]
  | 5,_=>exact#[_,rfl,tn (z:=[32,93]) ∅ (by decide) (by decide)<|Rn.no (by decide)]
 have j4:∀{r:Ob B},dIx (qN {!"",!" ",!"1x1",!"x",A9 B4 (!1) !" ",A9 B4 (!1) !" ]"}) (A9 X3 (!2) ⇑6) (e9 ns t p c V f la O r)=Oa (.str y):=λ{r}=>by
  refine(W1 (q:=(false,[.str "", .str " ", .str "1x1", .str "x", .str (t ++ " "),.str (t ++ " ]")])) (i:=((p % 6:Nat):Int)) ?_ ?_).trans (L4 ey)
  .simp only[qN,A0,A8,(B5 (h:=B4) (g:=dC<|.str " ") (show A6 1 (e9 ns t p c V f la O r)=Oa (.str t) from rfl) rfl).trans b1,(B5 (h:=B4) (g:=dC<|.str " ]") (show A6 1 (e9 ns t p c V f la O r)=Oa (.str t) from rfl) rfl).trans b2,dC,xbs,xms]
  .rw[B5 (x:=.int p) rfl rfl,aF1 (by decide)];simp
 obtain⟨x,ex,tx⟩:∃x,([.str (slS t Z (Oa (p:Int))++sg c++slS t (Oa (p:Int)) Z),.str (slS t Z (Oa (p:Int))++slS t (Oa ((p+1:Nat):Int)) Z),.str (slS t Z (Oa (p:Int))++sg c++slS t (Oa ((p+1:Nat):Int)) Z),.str (gl 32<|V.take f++V.drop (f+1)),.str (gl 32<|V.take (f+1)++V.drop f),.str (gl 32 O),.str y]:La D)[d4]? = Oa (.str x)/\Tx x:=by
  have cc:=cg7 V f;have cd:=cg7 V (f+1);have q:=(hV _<|bD lf).l;have cs:cw (V.drop f)=V[f].length+1+cw (V.drop<|f+1):=by rw[cb lf];rfl
  match d4,l4 with
  | 0,_=>exact#[_,rfl,x1 p<|ak _]
  | 1,_=>exact#[_,rfl,x2]
  | 2,_=>exact#[_,rfl,x1 (p+1)<|bM _]
  | 3,_=>exact#[_,rfl,w7 (λw=>vm) (by rw[W8];grind) (by simp;grind)]
  | 4,_=>exact#[_,rfl,w7 (λw=>vm) (by rw[W8];grind) (by simp;grind)]
  | 5,_=>exact#[_,rfl,w7 hO (by grind)<|by grind]
  | 6,_=>exact#[_,rfl,ty]
 refine#[x,C4 (ρ:=[[:scr ns],[:.str t],Z,Z,Z,Z,Z,Z,Z]) rfl ((B2<|se2 ((k3 rfl rfl<|(B5 (if_pos<|by grind) rfl).trans (O4 _ _)).trans ep)).trans<|(B2<|se3 ((bb1<|(k3 rfl rfl rfl).trans e1).trans es)).trans ((B2<|se4 ((aw5 rfl rfl).trans (by rw[bl_];exact ts))).trans<|(B2<|se5 ((k3 rfl rfl<|len rfl).trans ef)).trans ((B2<|se6 ((k3 rfl rfl<|len rfl).trans el)).trans<|(B2 rfl).trans ((B2<|cG8 lf rfl (ix4 (aL ll) rfl rfl)).trans<|(B2<|cG8 (by rw[bC];exact ll) rfl (ix4 (aL lf) rfl rfl)).trans ?_)))),tx];rw[eO];refine(B2<|st8 (d:=.list [.str (slS t Z (Oa (p:Int))++sg c++slS t (Oa (p:Int)) Z),.str (slS t Z (Oa (p:Int))++slS t (Oa ((p+1:Nat):Int)) Z),.str (slS t Z (Oa (p:Int))++sg c++slS t (Oa ((p+1:Nat):Int)) Z)]) ?_).trans ((B2<|st8 ((B5 rfl<|cJ8 (jt lf rfl<|pp rfl) (jt (cn lf) (pp rfl) rfl)).trans rfl)).trans<|(B2<|st8 ((B5 rfl<|cJ8 (jn rfl (λw hw=>hV w<|hO w hw)<|by grind) j4).trans rfl)).trans (L0<|(W1 rfl<|(k3 rfl rfl rfl).trans e4).trans (L4 ex)));unfold E5 A0;rw[B5 ((B5 (c1 rfl rfl) rfl).trans a1) (c2 rfl rfl),a2,B5 (c1 rfl rfl) (c2 rfl<|pp rfl),a3,B5 ((B5 (c1 rfl rfl) rfl).trans a1) (c2 rfl<|pp rfl),a2];rfl
noncomputable def inn:Str := "1x1 group c over 1 + [ group b over 1 + [ group a over 1 + [ tone d grey 1 + ] ] ]"
noncomputable def cM4:La Str:=["1x1","group","c","over","1","+","[","group","b","over","1","+","[","group","a","over","1","+","[","tone","d","grey","1","+","]","]","]"]
def cz4:Tx inn:=by
 have e:gl 32 cM4=inn:=∅
 rw[<- e];have h:∀w∈cM4,((cl w).all (λc=>decide (33<=c/\c<=122))&&decide (w.length<=7))=true:=∅
 refine cc3 (λw hw=>?_) ∅ ∅;have q:=h w hw;simp only[ae,decide_eq_true_eq,ay]at q;exact#[λc hc=>q.1 c hc,Rn.len (by rw[E3];exact q.2),by omega]
def cG1(h:Tx t):Lx 20 (rdD t):=by
 unfold rdD;cases q:ab3 (rP t) t with
 | false=>exact#[rfl,aA _]
 | true =>
  obtain⟨b,d⟩:=ct3 h (av7 (bg6 h) h q).2.2;refine Lx.tup λx hx=>?_
  simp only[ao,aM,or_false]at hx;rcases hx with rfl|rfl|rfl
  .exact aZ9 _
  .exact aZ9 _
  .exact(Lx.tup<|rws_lx _ b.b).le (by grind)
def main(ns:La Int)(hn:ns.length<=63):bm5 [.list (ns.map fB)]=Oa (.bool true):=by
 obtain⟨V,eV,V0,V1,V2,V3⟩:=bW6 ns hn (ρ:=[[:.str inn],Z,Z]);obtain⟨x,ex,tx⟩:=bn4 ns hn V0 V1 V2 V3;have t8:Tx "8x8" := aO8 ∅
 have T:∀t∈[x, "8x8", inn],Tx t:=λt ht=>by
  simp only[ao,aM,or_false]at ht;rcases ht with rfl|rfl|rfl
  .exact tx
  .exact t8
  .exact cz4
 have c1:=U2 (zd:=[]) (src:=G2 !3) (ρ:=[[:scr ns],[:.str inn],[:.str (gl 32 V)],[:.list (sD [x, "8x8", inn])]]) (e:=A7 (orF (ah4<|T3 true)<|T3 false) {0}) (l:=[x, "8x8", inn]) (h:=fD) (f:=rdD) (r:=[]) rfl rfl (show 3<=1000 by decide) λt ht=>by
  show(orF (ah4<|T3 true) (T3 false) [.str t])=_;rw[(both<|T t ht).1]
 have c2:=U2 (zd:=[]) (src:=G2 !3) (ρ:=[[:scr ns],[:.str inn],[:.str (gl 32 V)],[:.list (sD [x, "8x8", inn])]]) (e:=A7 J4 {0}) (l:=[x, "8x8", inn]) (h:=fD) (f:=rdD) (r:=[]) rfl rfl (show 3<=1000 by decide) λt ht=>by
  show(J4 [.str t])=_;rw[(both<|T t ht).2]
 have f3:=fl (n:=0) (zd:=[]) (src:=G2 !3) (ρ:=[[:scr ns],[:.str inn],[:.str (gl 32 V)],[:.list (sD [x, "8x8", inn])]]) (r:=[]) (c:=ab6 (tB2 aC7 (A7 J4 {0}) (dC .none)) (tB2 neD (A7 K2 {A7 J4 {0}}) !0)) (l:=[x, "8x8", inn]) (f:=fD) (p:=λ_=>true) rfl rfl (show 3<=1000 by decide) (λt ht=>by
  have h:=T t ht
  have e:A7 J4 {0} [[:.str t]]=Oa (rdD t):=by
   show(J4 [.str t])=_;rw[(both h).2]
  unfold ab6 tB2;rw[B5 e rfl]
  have w:A7 K2 {A7 J4 {0}} [[:.str t]]=K2 [rdD t]:=by
   show(((A7 J4 {0} [[:.str t]]).bind λd=>Oa [d]).bind K2)=_;rw[e];rfl
  unfold rdD at w |-;cases q:ab3 (rP t) t with
  | false=>rfl
  | true =>
   rw[q]at w;have b:=bg6 h;have q':=q;unfold ab3 at q';simp only[ae,beq_iff_eq]at q';have g:=bJ7 b q'.1;have w:A7 K2 {A7 J4 {0}} [[:.str t]]=Oa (.str t):=w.trans ((aw1 g).trans<|by rw[q'.2]);show((A9 neD (A7 K2 {A7 J4 {0}}) (!0) [[:.str t]]).bind ad0)=_
   rw[B5 w rfl,bi3 h.lay h.lay,beq_self_eq_true];rfl) (λt ht=>#[(T t ht).lay,aA _]) (by decide)
 refine C4 (ρ:=[[:scr ns],Z,Z,Z]) rfl ?_;unfold ch5;have lx:Lx 21 (.list<|[x, "8x8", inn].map rdD):=Lx.lst (Lx.map λt ht=>cG1<|T t ht);refine(B2 (ρ':=[[:scr ns],[:.str inn],Z,Z]) rfl).trans ((B2 (ρ':=[[:scr ns],[:.str inn],[:.str (gl 32 V)],Z]) (by unfold C7;rw[eV];rfl)).trans<|(B2 (ρ':=[[:scr ns],[:.str inn],[:.str (gl 32 V)],[:.list (sD [x, "8x8", inn])]]) ?_).trans ((B2 (ρ':=[[:scr ns],[:.str inn],[:.str (gl 32 V)],[:.list (sD [x, "8x8", inn])]]) ?_).trans ?_))
 .have:A7 Q6 {0,2} [[:scr ns],[:.str inn],[:.str (gl 32 V)],Z]=Oa (.str x):=ex;simp only[C7,E5,A0,A8,this,dC,A6,xg0,xg1,xbs,xms];rfl
 .have n:neD (.list<|[x, "8x8", inn].map rdD) (.list<|[x, "8x8", inn].map rdD)=Oa (.bool false):=by
   unfold neD;rw[if_pos #[lx.s (by decide),lx.s<|by decide],SeqAt.eqv_refl _ lx.1];rfl
  unfold sIf tB2 E5;rw[B5 (by rw[c1];rfl) (by rw[c2];rfl),n];rfl
 .unfold B7;rw[f3.1];rfl
end Lk91
namespace Lk91
open PySem PySem.Spec PyProof.Rows L2 G Sh
def O3{K:af}(x:Str)(t:Tok):aV8 K (.str x) (.str x t):=#[.str x,#[t,rfl],λ_=>rfl]
def zcs:La (Str×D):=[("MANNERS", (.tuple [(.str "over"),(.str "multiply"),(.str "screen"),(.str "plus"),(.str "atop"),(.str "cut")])),("RULES", (.tuple [(.str "turn"),(.str "grey"),(.str "round")])),("GREATEST", (.int 8)),("LETTERS", (.str "abcdefghijklmnopqrstuvwxyz")),("DEEPEST", (.int 3)),("FARTHEST", (.int 9)),("FIGURES", (.str "0123456789")),("MOST_FIGURES", (.int 400))]
def zbl:La Str:=["ValueError","all","bool","dict","int","isinstance","len","list","max","range","reversed","set","sorted","str","tuple","zip"]
def tb0:Tab:=[]
def br8:Fd:={ fdm "is_spot" (top 28) 1 ["thing"] true with hc:=[((66,15),[0])] }
def bs0:Fd:={ fdm "is_name" (top 38) 1 ["thing"] with tx:=[0] }
def aU7:Fd:={ fdm "are_nodes" (top 45) 2 ["thing","deepest"] with hc:=[((115,44),[1])] }
def aD1:Fd:={ fdm "names_among" (top 46) 1 ["nodes","names","node"] with own:=[1],fz:=[(122,[1])] }
def ap6:Fd:={ fdm "written_number" (top 50) 1 ["number","piece","pieces"] with own:=[2] }
def at8:Fd:={ fdm "words_of_node" (top 57) 1 ["node","words"] with own:=[1],fz:=[(158,[1]),(160,[1]),(161,[1])] }
def ap8:Fd:={ fdm "words_of_nodes" (top 58) 1 ["nodes","words","node"] with own:=[1],fz:=[(166,[1])] }
def bL4:Fd:={ fdm "_law_spot" (top 84) 2 ["_law_script","_law_at","_law_cover"] true with hc:=[((276,33),[2,0,1])] }
def br0:Fd:={ fdm "_law_sheet" (top 85) 4 ["_law_script","_law_at","_law_wide","_law_high","_law_spots"] with hc:=[((278,17),[0,1])] }
def br3:Fd:={ fdm "_law_names" (top 86) 3 ["_law_script","_law_at","_law_many","_law_is_first","_law_found","_law_k","_law_word"] with own:=[4],tx:=[6],fz:=[(289,[4])],hc:=[((286,28),[0,1,5])] }
def bL7:Fd:={ fdm "_law_leaf" (top 87) 4 ["_law_script","_law_at","_law_name","_law_main","_law_strength","_law_is_shown","_law_manner","_law_wide","_law_high","_law_mask","_law_left","_law_top","_law_sheet_here"] with hc:=[((302,26),[0,1])] }
def br2:Fd:={ fdm "_law_nodes" (top 88) 4 ["_law_script","_law_at","_law_most","_law_names_here","_law_main","_law_many","_law_found","_law_k","_law_first","_law_last","_law_strength","_law_manner","_law_group"] with own:=[6],hc:=[((312,17),[0,4,3,1])] }
def aU3:Fd:={ fdm "_law_is_spot" (top 92) 1 ["_law_thing"] true with hc:=[((334,11),[0])] }
def ca3:Fd:={ fdm "_law_all" (top 93) 1 ["_law_nodes_here","_law_found","_law_node"] with own:=[1],fz:=[(341,[1])] }
def aU5:Fd:={ fdm "_law_is_name" (top 94) 1 ["_law_thing"] with tx:=[0] }
def aU4:Fd:={ fdm "_law_is_node" (top 97) 2 ["_law_thing","_law_deep"] with hc:=[((371,15),[1])] }
def bq8:Fd:={ fdm "_law_words" (top 101) 1 ["_law_node","_law_found","_law_one","_law_mask","_law_wide","_law_high","_law_spots"] with own:=[1],tx:=[3],fz:=[(407,[1])] }
def bc5:Fd:={ fdm "_law_number" (top 103) 1 ["_law_word","_law_figures"] with tx:=[0,1] }
def bc4:Fd:={ fdm "_law_shares" (top 105) 2 ["_law_word","_law_sign","_law_found","_law_part","_law_numbers_here"] with own:=[2] }
def aA1:Fd:={ fdm "_law_read_nodes" (top 107) 3 ["_law_words_here","_law_at","_law_deep","_law_found","_law_share_here","_law_head","_law_more"] with own:=[3] }
def at9:Fd:={ fdm "_law_spoilt_text" (top 109) 2 ["_law_script","_law_text","_law_at","_law_sign","_law_words_here","_law_first","_law_last","_law_other","_law_some"] with own:=[7],tx:=[1] }
def ai1(b:Bool):Fd:={ { fdm "read_number" (top 64) 1 ["word"] with tx:=[0] } with up:=bif b then 2 else 0,gb:=(.int 0) }
def ai0(b:Bool):Fd:={ { fdm "read_offset" (top 65) 1 ["word"] with tx:=[0] } with up:=bif b then 2 else 0,gb:=.none }
def an5(b:Bool):Fd:={ fdm "read_share" (top 66) 1 ["word","parts","under"] with up:=bif b then 2 else 0,gb:=.none }
def as2(b:Bool):Fd:={ fdm "read_spot" (top 67) 1 ["word"] with up:=bif b then 2 else 0,gb:=.none }
def as5(b:Bool):Fd:={ fdm "read_mask" (top 68) 1 ["word"] with up:=bif b then 2 else 0,gb:=.none }
def as3(b:Bool):Fd:={ fdm "read_size" (top 69) 1 ["word","parts"] with up:=bif b then 2 else 0,gb:=.none }
def bc3(b:Bool):Fd:={ fdm "read" (top 75) 1 ["text","words","size","picture"] with up:=bif b then 2 else 0,gb:=bad }
def cg6:Fd:=fdm "law" (top 111) 1 ["_law_script","_law_inner","_law_text","_law_some"]
def W0(j:Nat):Stmt:=(cU2<|top 63).getD j<|.Pass #[0,0,0,0]
def ah9(b:Bool):Fd:={ fdm "word_ahead" (W0 2) 1 ["self"] with up:=bif b then 2 else 0,gb:=bad }
def an3(b:Bool):Fd:={ fdm "take_word" (W0 3) 1 ["self","word"] with up:=bif b then 2 else 0,gb:=bad }
def an4(b:Bool):Fd:={ { fdm "read_sheet" (top 70) 1 ["words","size","spots"] with hc:=[((213,12),[0])] } with up:=bif b then 2 else 0,gb:=bad }
def Y5(b:Bool):Fd:={ fdm "read_layer_alone" (top 71) 1 ["words","left","top","mask"] with up:=bif b then 2 else 0,gb:=bad }
def Y6(b:Bool):Fd:={ fdm "read_inner_nodes" (top 72) 2 ["words","deepest","nodes"] with up:=bif b then 2 else 0,gb:=bad }
def as4(b:Bool):Fd:={ fdm "read_node" (top 73) 2 ["words","deepest","word","name","manner","strength","node"] with up:=bif b then 2 else 0,gb:=bad }
def an6(b:Bool):Fd:={ { fdm "read_nodes" (top 74) 2 ["words","deepest","nodes"] with own:=[2] } with up:=bif b then 2 else 0,gb:=bad }
structure Ms (K:af) (C:fL):Prop where
 m_is_at_end:KM K C "is_at_end" "Words.is_at_end" (W0 1)
 m_init_Words:KM K C "__init__" "Words.__init__" (W0 0)
 m_word_ahead:KM K C "word_ahead" "Words.word_ahead" (W0 2)
 m_take_word:KM K C "take_word" "Words.take_word" (W0 3)
abbrev aw0:La Str:=["words","words_taken"]
abbrev zfd:La (Str×Bool×Nat):=[("words", false,0),("words_taken", false,0)]
structure Qs (K:af):Prop where
 aa:KF K "is_whole" (top 6)
 ab:KF K "common_divisor" (top 7)
 ac:KF K "is_share" (top 8)
 ad:KF K "is_at_most" (top 9)
 ae:KF K "kind_of" (top 11)
 af:KF K "is_layer" (top 12)
 ag:KF K "is_group" (top 13)
 ah:KF K "is_tone" (top 14)
 ai:KF K "name_of" (top 15)
 aj:KF K "manner_of" (top 16)
 ak:KF K "rule_of" (top 17)
 al:KF K "strength_of" (top 18)
 am:KF K "is_shown" (top 19)
 an:KF K "left_of" (top 20)
 ao:KF K "top_of" (top 21)
 ap:KF K "mask_of" (top 22)
 aq:KF K "sheet_of" (top 23)
 ar:KF K "inner_nodes" (top 24)
 au:KF K "is_spot" (top 28)
 av:KF K "is_size" (top 31)
 aw:KF K "is_sized" (top 32)
 ax:KF K "is_sheet" (top 33)
 ay:KF K "is_name" (top 38)
 az:KF K "is_truth" (top 39)
 a0:KF K "is_offset" (top 40)
 a1:KF K "is_mask" (top 41)
 a2:KF K "is_layer_of_parts" (top 42)
 a3:KF K "is_group_of_nodes" (top 43)
 a4:KF K "has_node_form" (top 44)
 a5:KF K "are_nodes" (top 45)
 a6:KF K "names_among" (top 46)
 a7:KF K "are_names_unlike" (top 47)
 a8:KF K "is_picture" (top 48)
 a9:KF K "written_number" (top 50)
 ba:KF K "written_share" (top 51)
 bb:KF K "written_spot" (top 52)
 bc:KF K "written_mask" (top 53)
 bd:KF K "written_size" (top 54)
 be:KF K "words_of_sheet" (top 55)
 bf:KF K "words_of_layer_alone" (top 56)
 bg:KF K "words_of_node" (top 57)
 bh:KF K "words_of_nodes" (top 58)
 bi:KF K "written" (top 59)
 bj:KF K "read_number" (top 64)
 bk:KF K "read_offset" (top 65)
 bl:KF K "read_share" (top 66)
 bm:KF K "read_spot" (top 67)
 bn:KF K "read_mask" (top 68)
 bo:KF K "read_size" (top 69)
 bp:KF K "read_sheet" (top 70)
 bq:KF K "read_layer_alone" (top 71)
 br:KF K "read_inner_nodes" (top 72)
 bs:KF K "read_node" (top 73)
 bt:KF K "read_nodes" (top 74)
 bu:KF K "read" (top 75)
 bv:KF K "_law_cell" (top 77)
 bw:KF K "_law_drawn" (top 78)
 bx:KF K "_law_made" (top 79)
 bz:KF K "_law_times" (top 81)
 b0:KF K "_law_share" (top 83)
 b1:KF K "_law_spot" (top 84)
 b2:KF K "_law_sheet" (top 85)
 b3:KF K "_law_names" (top 86)
 b4:KF K "_law_leaf" (top 87)
 b5:KF K "_law_nodes" (top 88)
 b6:KF K "_law_picture" (top 89)
 b7:KF K "_law_is_whole" (top 90)
 b8:KF K "_law_is_share" (top 91)
 b9:KF K "_law_is_spot" (top 92)
 ca:KF K "_law_all" (top 93)
 cb:KF K "_law_is_name" (top 94)
 cc:KF K "_law_is_sheet" (top 95)
 cd:KF K "_law_has_head" (top 96)
 ce:KF K "_law_is_node" (top 97)
 cf:KF K "_law_are_unlike" (top 98)
 cg:KF K "_law_is_picture" (top 99)
 ch:KF K "_law_share_text" (top 100)
 ci:KF K "_law_words" (top 101)
 cj:KF K "_law_written" (top 102)
 ck:KF K "_law_number" (top 103)
 cl:KF K "_law_numbers" (top 104)
 cm:KF K "_law_shares" (top 105)
 cn:KF K "_law_layer" (top 106)
 co:KF K "_law_read_nodes" (top 107)
 cp:KF K "_law_read" (top 108)
 cq:KF K "_law_spoilt_text" (top 109)
 cr:KF K "_law_told" (top 110)
 cs:KF K "law" (top 111)
 ct:∃C:fL,KCl K C "Words" aw0/\Ms K C
 cu:(ao5 K "GlazeError" && by1 K "NoText" "GlazeError" && ao5 K "NoText" && bS7 K)=true
def zfc{K:af}{C:CT}(cC:C true=C false)(cW:KCl K (C false) "Words" aw0):∀kd,FoC K (C kd) (Og5.fn #[[],[],[],zfd] kd)
 | false=>cW.foc
 | true=>by rw[cC];exact cW.foc.few
def cO9{P:eX}{w:World}{K:af}{mg:Str->Ob fJ}(M:Md K mg zcs zbl)(q:Qs K){C:CT}(cC:C true=C false)(cW:KCl K (C false) "Words" aw0)(z:Ms K (C false)):∃tab,rd tab zcs zbl cg6=bm5/\∀base:Heap,TOk false P w K mg base 175 tab:=by
 have Fc:=zfc cC cW;have hb:=q.cu;simp only[ae]at hb;have nt:NT K mg:=cI8 M hb.1.2;refine#[?tab,?e,λbase=>?t]
 case t =>
  have t:TOk false P w K mg base 0 tb0:=TOk.nil;have t:=t.add M (fdm "is_whole" (top 6) 1 ["thing"] true) q.aa Z8;have t:=t.add M (fdm "common_divisor" (top 7) 2 ["one","other","left_over"] true) q.ab V4;have t:=t.add M (fdm "is_share" (top 8) 1 ["thing","top","under"] true) q.ac U8;have t:=t.add M (fdm "is_at_most" (top 9) 2 ["one","other"] true) q.ad aa4;have t:=t.add M (fdm "kind_of" (top 11) 1 ["node"]) q.ae S3;have t:=t.add M (fdm "is_layer" (top 12) 1 ["node"]) q.af U9;have t:=t.add M (fdm "is_group" (top 13) 1 ["node"]) q.ag J8;have t:=t.add M (fdm "is_tone" (top 14) 1 ["node"]) q.ah aq7;have t:=t.add M (fdm "name_of" (top 15) 1 ["node"]) q.ai N3;have t:=t.add M (fdm "manner_of" (top 16) 1 ["node"]) q.aj W3;have t:=t.add M (fdm "rule_of" (top 17) 1 ["tone"]) q.ak aH8;have t:=t.add M (fdm "strength_of" (top 18) 1 ["node"]) q.al Q0;have t:=t.add M (fdm "is_shown" (top 19) 1 ["node"]) q.am Q9;have t:=t.add M (fdm "left_of" (top 20) 1 ["layer"]) q.an aq6;have t:=t.add M (fdm "top_of" (top 21) 1 ["layer"]) q.ao aC0;have t:=t.add M (fdm "mask_of" (top 22) 1 ["layer"]) q.ap aq5;have t:=t.add M (fdm "sheet_of" (top 23) 1 ["layer"]) q.aq aa1;have t:=t.add M (fdm "inner_nodes" (top 24) 1 ["group"]) q.ar K9;have t:=t.add M br8 q.au aq8;have t:=t.add M (fdm "is_size" (top 31) 1 ["thing"]) q.av af8;have t:=t.add M (fdm "is_sized" (top 32) 1 ["thing"]) q.aw aa3;have t:=t.add M (fdm "is_sheet" (top 33) 1 ["thing","spots"]) q.ax Z9;have t:=t.add M bs0 q.ay af9;have t:=t.add M (fdm "is_truth" (top 39) 1 ["thing"]) q.az ak8;have t:=t.add M (fdm "is_offset" (top 40) 1 ["thing"]) q.a0 i7;have t:=t.add M (fdm "is_mask" (top 41) 2 ["thing","sheet"]) q.a1 aq9;have t:=t.add M (fdm "is_layer_of_parts" (top 42) 1 ["thing"]) q.a2 P6;have t:=TOk.recs t M [((fdm "is_group_of_nodes" (top 43) 2 ["thing","deepest"]),ah1),((fdm "has_node_form" (top 44) 2 ["thing","deepest"]),au6),(aU7,at2)] (by intro p hp;simp only[ao,aM,or_false]at hp;rcases hp with rfl|rfl|rfl;exact#[q.a3,rfl,by intro;kernel_rfl,rfl,by kernel_rfl,by repeat (first|exact rfl|intro _)];exact#[q.a4,rfl,by intro;kernel_rfl,rfl,by kernel_rfl,by repeat (first|exact rfl|intro _)];exact#[q.a5,rfl,by intro;kernel_rfl,rfl,by kernel_rfl,by repeat (first|exact rfl|intro _)]) 12;have t:=TOk.recs t M [(aD1,Q2)] (by intro p hp;simp only[ao,aM,or_false]at hp;subst hp;exact#[q.a6,rfl,by intro;kernel_rfl,rfl,by kernel_rfl,by repeat (first|exact rfl|intro _)]) 12;have t:=t.add M (fdm "are_names_unlike" (top 47) 1 ["nodes","names"]) q.a7 R4;have t:=t.add M (fdm "is_picture" (top 48) 1 ["thing"]) q.a8 Y0;have t:=t.add M ap6 q.a9 F5;have t:=t.add M (fdm "written_share" (top 51) 1 ["share"]) q.ba K1;have t:=t.add M (fdm "written_spot" (top 52) 1 ["spot"]) q.bb T2;have t:=t.add M (fdm "written_mask" (top 53) 1 ["mask"]) q.bc Z6;have t:=t.add M (fdm "written_size" (top 54) 1 ["thing"]) q.bd L7;have t:=t.add M (fdm "words_of_sheet" (top 55) 1 ["sheet"]) q.be U6;have t:=t.add M (fdm "words_of_layer_alone" (top 56) 1 ["layer","words"]) q.bf M7;have t:=TOk.recs t M [(at8,au5),(ap8,P1)] (by intro p hp;simp only[ao,aM,or_false]at hp;rcases hp with rfl|rfl;exact#[q.bg,rfl,by intro;kernel_rfl,rfl,by kernel_rfl,by repeat (first|exact rfl|intro _)];exact#[q.bh,rfl,by intro;kernel_rfl,rfl,by kernel_rfl,by repeat (first|exact rfl|intro _)]) 12;have t:=t.add M (fdm "written" (top 59) 1 ["picture"]) q.bi K2;have t:=t.add M (fdm "_law_cell" (top 77) 2 ["_law_script","_law_k"] true) q.bv aC2;have t:=t.add M (fdm "_law_drawn" (top 78) 3 ["_law_script","_law_k","_law_many","_law_cell_here"] true) q.bw B6;have t:=t.add M (fdm "_law_made" (top 79) 2 ["_law_top","_law_under","_law_one","_law_by"] true) q.bx p9;have t:=t.add M (fdm "_law_times" (top 81) 2 ["_law_one","_law_other"] true) q.bz af4;have t:=t.add M (fdm "_law_share" (top 83) 2 ["_law_script","_law_at","_law_under","_law_drawn_here"] true) q.b0 N4;have t:=t.add M bL4 q.b1 ao4;have t:=t.add M br0 q.b2 af5;have t:=t.add M br3 q.b3 af7;have t:=t.add M bL7 q.b4 r6;have t:=t.add M br2 q.b5 af6;have t:=t.add M (fdm "_law_picture" (top 89) 4 ["_law_script","_law_at","_law_most","_law_names_here","_law_wide","_law_high"]) q.b6 i6;have t:=t.add M (fdm "_law_is_whole" (top 90) 1 ["_law_thing"] true) q.b7 K6;have t:=t.add M (fdm "_law_is_share" (top 91) 1 ["_law_thing"] true) q.b8 M8;have t:=t.add M aU3 q.b9 ad8;have t:=TOk.recs t M [(ca3,aa2)] (by intro p hp;simp only[ao,aM,or_false]at hp;subst hp;exact#[q.ca,rfl,by intro;kernel_rfl,rfl,by kernel_rfl,by repeat (first|exact rfl|intro _)]) 12;have t:=t.add M aU5 q.cb ad9;have t:=t.add M (fdm "_law_is_sheet" (top 95) 1 ["_law_thing"]) q.cc X9;have t:=t.add M (fdm "_law_has_head" (top 96) 1 ["_law_thing","_law_words_here"]) q.cd T5;have t:=TOk.recs t M [(aU4,M1)] (by intro p hp;simp only[ao,aM,or_false]at hp;subst hp;exact#[q.ce,rfl,by intro;kernel_rfl,rfl,by kernel_rfl,by repeat (first|exact rfl|intro _)]) 12;have t:=t.add M (fdm "_law_are_unlike" (top 98) 1 ["_law_nodes_here","_law_names_here"]) q.cf Z7;have t:=t.add M (fdm "_law_is_picture" (top 99) 1 ["_law_thing"]) q.cg T4;have t:=t.add M (fdm "_law_share_text" (top 100) 1 ["_law_share_here"]) q.ch G1;have t:=TOk.recs t M [(bq8,U7)] (by intro p hp;simp only[ao,aM,or_false]at hp;subst hp;exact#[q.ci,rfl,by intro;kernel_rfl,rfl,by kernel_rfl,by repeat (first|exact rfl|intro _)]) 12;have t:=t.add M (fdm "_law_written" (top 102) 1 ["_law_picture_here","_law_found","_law_node"]) q.cj O5;have t:=t.add M bc5 q.ck Q8;have t:=t.add M (fdm "_law_numbers" (top 104) 2 ["_law_word","_law_sign","_law_found"]) q.cl O7;have t:=t.add M bc4 q.cm O6;have t:=t.add M (fdm "_law_layer" (top 106) 2 ["_law_words_here","_law_at","_law_left","_law_top","_law_mask","_law_sides","_law_behind","_law_spots"]) q.cn S2;have t:=TOk.recs t M [(aA1,L8)] (by intro p hp;simp only[ao,aM,or_false]at hp;subst hp;exact#[q.co,rfl,by intro;kernel_rfl,rfl,by kernel_rfl,by repeat (first|exact rfl|intro _)]) 12;have t:=t.add M (fdm "_law_read" (top 108) 1 ["_law_text","_law_words_here","_law_sides","_law_told_here","_law_picture_here"]) q.cp J4;have t:=t.add M at9 q.cq Q6;have t:TOk false P w K mg base 148 _:=t;have v:ZOk false P w K mg base C 148 _ #[[],[],[],zfd]:=ZOk.start t;have v:ZOk false P w K mg base C 149 _ _:=v.addM M Fc false (fdm "is_at_end" (W0 1) 1 ["self"]) z.m_is_at_end S0 0;have v:ZOk false P w K mg base C 151 _ _:=v.addI M Fc false cW (fdm "__init__" (W0 0) 2 ["self","text"]) z.m_init_Words rfl x9 1;have v0:=v;have v:ZOk false P w K mg base C 152 _ _:=v.addP M (ai1 false) q.bj (J2 false);have v:ZOk false P w K mg base C 153 _ _:=v.addP M (ai0 false) q.bk (Q1 false);have v:ZOk false P w K mg base C 154 _ _:=v.addP M (an5 false) q.bl (K5 false);have v:ZOk false P w K mg base C 155 _ _:=v.addP M (as2 false) q.bm (W2 false);have v:ZOk false P w K mg base C 156 _ _:=v.addP M (as5 false) q.bn (i5 false);have v:ZOk false P w K mg base C 157 _ _:=v.addP M (as3 false) q.bo (S1 false);have v:ZOk false P w K mg base C 158 _ _:=v.addM M Fc false (ah9 false) z.m_word_ahead (M6 false) 0;have v:ZOk false P w K mg base C 159 _ _:=v.addM M Fc false (an3 false) z.m_take_word (C6 false) 0;have v:ZOk false P w K mg base C 160 _ _:=v.addD M Fc (an4 false) q.bp (T1 false) 0;have v:ZOk false P w K mg base C 161 _ _:=v.addD M Fc (Y5 false) q.bq (J6 false) 0;have v:ZOk false P w K mg base C 173 _ _:=v.rec3 M Fc (Y6 false) (as4 false) (an6 false) q.br q.bs q.bt (Z3 false) (as7 false) (P0 false) 12;have t:TOk false P w K mg base 174 _:=TOk.addY v M Fc (bc3 false) q.bu (T3 false);have y:ZOk true P w K mg base C 151 _ _:=v0.up;have y:ZOk true P w K mg base C 152 _ _:=y.addP M (ai1 true) q.bj (J2 true) (nt:=λ_=>nt);have y:ZOk true P w K mg base C 153 _ _:=y.addP M (ai0 true) q.bk (Q1 true) (nt:=λ_=>nt);have y:ZOk true P w K mg base C 154 _ _:=y.addP M (an5 true) q.bl (K5 true) (nt:=λ_=>nt);have y:ZOk true P w K mg base C 155 _ _:=y.addP M (as2 true) q.bm (W2 true) (nt:=λ_=>nt);have y:ZOk true P w K mg base C 156 _ _:=y.addP M (as5 true) q.bn (i5 true) (nt:=λ_=>nt);have y:ZOk true P w K mg base C 157 _ _:=y.addP M (as3 true) q.bo (S1 true) (nt:=λ_=>nt);have y:ZOk true P w K mg base C 158 _ _:=y.addM M Fc false (ah9 true) z.m_word_ahead (M6 true) 0 (nt:=λ_=>nt);have y:ZOk true P w K mg base C 159 _ _:=y.addM M Fc false (an3 true) z.m_take_word (C6 true) 0 (nt:=λ_=>nt);have y:ZOk true P w K mg base C 160 _ _:=y.addD M Fc (an4 true) q.bp (T1 true) 0 (nt:=λ_=>nt);have y:ZOk true P w K mg base C 161 _ _:=y.addD M Fc (Y5 true) q.bq (J6 true) 0 (nt:=λ_=>nt);have y:ZOk true P w K mg base C 173 _ _:=y.rec3 M Fc (Y6 true) (as4 true) (an6 true) q.br q.bs q.bt (Z3 true) (as7 true) (P0 true) 12 (nt:=λ_=>nt);have y:TOk true P w K mg base 174 _:=TOk.addY y M Fc (bc3 true) q.bu (T3 true) (nt:=λ_=>nt);have t:TOk false P w K mg base 175 _:=t.told y M (bc3 false) q.bu rfl rfl (fdm "_law_told" (top 110) 1 ["_law_text","e","_law_flags"]) q.cr hb.1.1.1 hb.1.1.2 hb.1.2 hb.2 #[rfl] rfl rfl (by kernel_rfl) rfl (by kernel_rfl);exact t
 case e=>kernel_rfl
def zmd{K:af}{h:Heap}{mg:Str->Ob fJ}{q0 q1:fL}{y0 y1:Array (Ob fJ)}{g0t0 g0t1 g0t2 g0t3 g0t4 g0t5 g1t0 g1t1 g1t2 g2 g3 g4 g5 g6 g7:Tok}{n0 n1:Nat}(X:K.In h)(G:h.Ns eW mg)(p0:aJ K eW "MANNERS" = Oa (Oa<|.ref q0))(r0:K.lookup q0=Oa #[.type "tuple", Z,.seq (List.toArray [.str "over" g0t0,.str "multiply" g0t1,.str "screen" g0t2,.str "plus" g0t3,.str "atop" g0t4,.str "cut" g0t5]) n0,y0])(p1:aJ K eW "RULES" = Oa (Oa<|.ref q1))(r1:K.lookup q1=Oa #[.type "tuple", Z,.seq (List.toArray [.str "turn" g1t0,.str "grey" g1t1,.str "round" g1t2]) n1,y1])(p2:aJ K eW "GREATEST" = Oa (Oa<|.int 8 g2))(p3:aJ K eW "LETTERS" = Oa (Oa<|.str "abcdefghijklmnopqrstuvwxyz" g3))(p4:aJ K eW "DEEPEST" = Oa (Oa<|.int 3 g4))(p5:aJ K eW "FARTHEST" = Oa (Oa<|.int 9 g5))(p6:aJ K eW "FIGURES" = Oa (Oa<|.str "0123456789" g6))(p7:aJ K eW "MOST_FIGURES" = Oa (Oa<|.int 400 g7))(z0:aJ K eW "ValueError" = Oa Z)(z1:aJ K eW "all" = Oa Z)(z2:aJ K eW "bool" = Oa Z)(z3:aJ K eW "dict" = Oa Z)(z4:aJ K eW "int" = Oa Z)(z5:aJ K eW "isinstance" = Oa Z)(z6:aJ K eW "len" = Oa Z)(z7:aJ K eW "list" = Oa Z)(z8:aJ K eW "max" = Oa Z)(z9:aJ K eW "range" = Oa Z)(z10:aJ K eW "reversed" = Oa Z)(z11:aJ K eW "set" = Oa Z)(z12:aJ K eW "sorted" = Oa Z)(z13:aJ K eW "str" = Oa Z)(z14:aJ K eW "tuple" = Oa Z)(z15:aJ K eW "zip" = Oa Z):Md K mg zcs zbl:=by
 refine#[λx v e=>bV X G e,λx d e=>?_,λx e=>?_]
 .unfold zcs at e;rw[aF]at e;split at e
  .rename_i q;cases e;simp only[beq_iff_eq]at q;subst q;exact#[_,(aS6 r0 rfl rfl rfl (by show 6<=1000;decide)<|M4 (O3 "over" g0t0) (M4 (O3 "multiply" g0t1)<|M4 (O3 "screen" g0t2) (M4 (O3 "plus" g0t3)<|M4 (O3 "atop" g0t4) (M4 (O3 "cut" g0t5) aF2)))),bV X G p0]
  rw[aF]at e;split at e
  .rename_i q;cases e;simp only[beq_iff_eq]at q;subst q;exact#[_,(aS6 r1 rfl rfl rfl (by show 3<=1000;decide)<|M4 (O3 "turn" g1t0) (M4 (O3 "grey" g1t1)<|M4 (O3 "round" g1t2) aF2)),bV X G p1]
  rw[aF]at e;split at e
  .rename_i q;cases e;simp only[beq_iff_eq]at q;subst q;exact#[_,(am8 8 g2),bV X G p2]
  rw[aF]at e;split at e
  .rename_i q;cases e;simp only[beq_iff_eq]at q;subst q;exact#[_,(O3 "abcdefghijklmnopqrstuvwxyz" g3),bV X G p3]
  rw[aF]at e;split at e
  .rename_i q;cases e;simp only[beq_iff_eq]at q;subst q;exact#[_,(am8 3 g4),bV X G p4]
  rw[aF]at e;split at e
  .rename_i q;cases e;simp only[beq_iff_eq]at q;subst q;exact#[_,(am8 9 g5),bV X G p5]
  rw[aF]at e;split at e
  .rename_i q;cases e;simp only[beq_iff_eq]at q;subst q;exact#[_,(O3 "0123456789" g6),bV X G p6]
  rw[aF]at e;split at e
  .rename_i q;cases e;simp only[beq_iff_eq]at q;subst q;exact#[_,(am8 400 g7),bV X G p7]
  cases e
 .unfold zbl at e;simp only[List.contains_cons,List.contains_nil,cZ,cy,beq_iff_eq]at e;rcases e with e|e|e|e|e|e|e|e|e|e|e|e|e|e|e|e
  .subst e;exact aR X G z0
  .subst e;exact aR X G z1
  .subst e;exact aR X G z2
  .subst e;exact aR X G z3
  .subst e;exact aR X G z4
  .subst e;exact aR X G z5
  .subst e;exact aR X G z6
  .subst e;exact aR X G z7
  .subst e;exact aR X G z8
  .subst e;exact aR X G z9
  .subst e;exact aR X G z10
  .subst e;exact aR X G z11
  .subst e;exact aR X G z12
  .subst e;exact aR X G z13
  .subst e;exact aR X G z14
  .subst e;exact aR X G z15
def cC0{l:PySem.W.OpenLaw}{q:eX}{loose:La Str}{XP:(Str->Ob fJ)->Heap->Prop}{YP:World->Heap->Prop}{d:DefRec}{K:Params->af}(hn:l.most=Oa 63)(hdf:d.params.defaults=[])
  (hY:∀(w:World) (h:Heap),YP w h->(K w.params).In h) (hd:d.name = "law")
  (F:∀(w:World) (mg:Str->Ob fJ) (h:Heap),(K w.params).In h->h.Ns eW mg->Md (K w.params) mg zcs zbl)
  (Q:∀w:World,Qs<|K w.params)
  (M:∀ns:La Int,ns.length<=63->bm5 [.list (ns.map fB)]=Oa (.bool true)) :
  PySem.W.WalkO q loose XP YP l.row.toRowW d [] (λf vs=>PySem.call f vs) :=
 L2.bO8 (n:=63) (k:=176) (x := "_law_script") (CX:=λ_=>CX0) (sp:=λw=>spF (K w.params) 1 bm5) hn (by decide) hdf #[rfl,by decide,by decide] hY
  (λw mg fa h hk hg hm=>by
   have N:=F w mg h hk hg;have q:=Q w;rw[hd]at hm;obtain⟨A,cW,z⟩:=q.ct;obtain⟨_,e,t⟩:=cO9 (C:=λ_=>A) N q rfl cW z;obtain⟨fd,b1,b2⟩:=bW7 N t cg6 q.cs e hm
   exact#[fd,b1,λbase _ _=>b2 base])
  (λw H a ns hl _ hS=>#[rfl,H,[.list (ns.map fB)],.bool true,D8.refl _,#[.ref a,[],rfl,#[a,_,rfl,hS,Reps.ints ns],rfl],M ns hl,λv H' zc g r=>r]) λ_ _ _ _ _ z=>z
end Lk91
namespace PySem.W.Fast
def tw9388490001409673119:=()
def tw11148875753572742360:=()
def tw6160496178563886072:=()
def tw10428043529801686222:=()
def tw11310419127692034216:=()
def tw3672256300376237079:=()
def tw8824761202198231383:=()
def tw5431971821989234600:=()
def tw17353896370118487458:=()
def tw15144407284541411909:=()
def tw15558212289997032599:=()
def tw8637534109806689066:=()
def tw2428468736213816972:=()
def tw10112990565050728992:=()
def tw630336093204906701:=()
def tw14806250683854927707:=()
def tw14044914049187798402:=()
def tw5979919624617244311:=()
def tw16146962456818449598:=()
def tw13643739142759587911:=()
def tw10779265772121900832:=()
def tw16242675637668517760:=()
def tw17123774026895560306:=()
def tw6905263812510455214:=()
def tw1332049253372435954:=()
def tw2482101354015461626:=()
def tw16672403810148794360:=()
def tw14249455470806778962:=()
def tw517861509904211445:=()
def tw11280035676242765695:=()
def tw11517950165042205869:=()
def tw4742325985776339041:=()
def tw14213459695636539605:=()
def tw11801478705787852460:=()
def tw3864913493939562247:=()
def tw11757748981912999268:=()
def tw6194419183849170475:=()
def tw9933680684635378209:=()
def tw13560407588445184412:=()
def tw6892760685929557643:=()
def tw5825735309823704482:=()
def tw6895734123086995605:=()
def tw9726381714983338660:=()
def tw6581306074986062424:=()
def tw12607991479366915557:=()
def tw15287218328096734166:=()
def tw6274814574509154961:=()
def tw14717468110359932129:=()
def tw14585705678875770695:=()
def tw14642606648943996707:=()
def tw9914608413372354733:=()
def tw16945618376936385146:=()
def tw5521119693535875243:=()
def tw11784645359040989392:=()
def tw3980931120780898197:=()
def tw5030081453817004521:=()
def tw10730193548638957493:=()
def tw3799360995754016696:=()
def tw12926945416821607129:=()
def tw4592542629870902092:=()
def tw5931287925177036720:=()
def tw12661477116736511642:=()
def tw7111228373773357264:=()
def tw12282345347029395866:=()
def tw5172006584377281842:=()
def tw10787792938700433938:=()
def tw8138523632393429734:=()
def tw13272961975253944471:=()
def tw3402419403887556631:=()
def tw3171380174070927485:=()
def tw14262671386761555746:=()
def tw17352277238332224373:=()
def tw8894119028964975024:=()
def tw7945426939445175107:=()
def tw3298571567846359098:=()
def tw313541385923685551:=()
def tw12129281878084222138:=()
def tw13621805418421080608:=()
def tw6958420785378154640:=()
def tw8308487334126212767:=()
def tw12740945848862357792:=()
def tw14633973084784324928:=()
def tw10626699964251136482:=()
def tw5611399239707938440:=()
def tw14764210767271551980:=()
def tw17869217257048164393:=()
def tw8986909912002415438:=()
def tw8781528482860710619:=()
def tw11004072958620269342:=()
def tw5167041167443543795:=()
def tw9944035568648118163:=()
def tw744871514991005525:=()
def tw11355863284498999861:=()
def tw9324022288704064827:=()
def tw1286626715517725497:=()
def tw15253275299199485651:=()
def tw10601534698553817229:=()
def tw1659611607876434896:=()
def tw8015602684141277499:=()
def tw7618125132204400779:=()
def tw12581815759452452317:=()
def tw13661559280863608872:=()
def tw15684612984283897222:=()
def tw4226020833029514580:=()
def tw17979031222408673977:=()
def tw2931875634209396689:=()
def tw1053826914399494846:=()
def tw6221450559220139829:=()
def tw13354139165324329729:=()
def tw4100752966971296793:=()
def tw7937974059508833842:=()
def tw14959192334580995253:=()
def tw4020540084848544562:=()
def tw3841903925732535230:=()
def tw2869226165215330510:=()
def tw7158946271808668979:=()
def tw5951607452478023368:=()
def tw13924554619274630307:=()
def tw3166889555841027136:=()
def tw739819332447722279:=()
def tw13288819000520544484:=()
def tw17589702698668935428:=()
def tw9874492908033337356:=()
def tw6707190246008289413:=()
def tw9835907153491751549:=()
def tw13471029990907983136:=()
def tw4933370525803565919:=()
def tw6333015723167612876:=()
def tw15168991336379157691:=()
def tw1317491414626003993:=()
def tw15707565709772291071:=()
def tw9684343637615261881:=()
def tw15343271398825452097:=()
def tw1785828211493209764:=()
def tw888262711350916636:=()
def tw13091733859147268633:=()
def tw15260595531955394069:=()
def tw1271182285574404987:=()
def tw17410936973389777769:=()
def tw16348513264505836341:=()
def tw6492366511323798585:=()
def tw5220609153224864801:=()
def tw1707538838819106260:=()
def tw11482578285796267094:=()
def tw13790352640276235498:=()
def tw6909371683663222623:=()
def tw9972083642594073984:=()
def tw13344862370411769:=()
def tw17770351665609219386:=()
def tw6680062146237136977:=()
def tw12147483837754926433:=()
def tw3891280267533646258:=()
def tw10911776634772659601:=()
def tw7042518430080581630:=()
def tw15800203565780073439:=()
def tw11029321852299300503:=()
def tw1592631316303821724:=()
def tw13759151749487733126:=()
def tw3211864452000945328:=()
def tw14682117025091964906:=()
def tw7501883894830688992:=()
def tw2651341706480072889:=()
def tw12687890623206373477:=()
def tw3936270283607931510:=()
def tw13139674836374487419:=()
def tw85375321542734210:=()
def tw3028095904213956120:=()
def tw1857489075218958449:=()
def tw16849520039662595721:=()
def tw12409524654791627470:=()
def tw10308060621708953478:=()
def tw15692127849917917239:=()
def tw4840770455249304980:=()
def tw9626372853812960242:=()
def tw5013955022006905837:=()
def tw10186694970696977815:=()
def tw9831933586049818447:=()
def tw13377381373862117950:=()
def tw4196638018258009481:=()
def tw17198365810193346620:=()
def tw10724264428857877935:=()
def tw6552568936034382334:=()
def tw5626249486101651588:=()
def tw5812098919751887639:=()
def tw14646215357065051423:=()
def tw6037011526001241809:=()
def tw302489725164239231:=()
def tw5172300563462743999:=()
def tw3890781200168830887:=()
def tw4864670857123922453:=()
def tw10025112673249601474:=()
def tw450086627911148644:=()
def tw2105205342872871491:=()
def tw696399926371842244:=()
def tw5354679267594778673:=()
def tw9271085495213969448:=()
def tw6648396128911399480:=()
def tw7868935156420194843:=()
def tw10719624420880368204:=()
def tw2973973246411596967:=()
def tw1877505261135890578:=()
def tw12919032593968265339:=()
def tw18412111203472043308:=()
def tw3102257649322351781:=()
def tw10208585568971192342:=()
end PySem.W.Fast
namespace Lk91
open PySem PySem.W PyProof.Rows
set_option maxHeartbeats 0 in
open_top head for PySem.Challenge.rw_glazework_k91_whole_read
end Lk91
open PySem PySem.W PyProof.Rows
set_option maxRecDepth 100000 in
set_option maxHeartbeats 0 in
theorem PySem.Challenge.cw_glazework_k91_whole_read_holds : PySem.Challenge.rw_glazework_k91_whole_read.Holds := by
 refine Lk91.head ?_
 k_fill
 refine Lk91.cC0 (l:=PySem.Challenge.rw_glazework_k91_whole_read) rfl rfl (λw h Y=>PySem.W.kIn_of Y) rfl ?F ?Q Lk91.main
 case F =>
  intro w mg h KX G
  refine' Lk91.zmd KX G ?p0 ?r0 ?p1 ?r1 ?p2 ?p3 ?p4 ?p5 ?p6 ?p7 ?z0 ?z1 ?z2 ?z3 ?z4 ?z5 ?z6 ?z7 ?z8 ?z9 ?z10 ?z11 ?z12 ?z13 ?z14 ?z15
  (case p0=>k_is);(case r0=>k_is);(case p1=>k_is);(case r1=>k_is);(case p2=>k_is);(case p3=>k_is);(case p4=>k_is);(case p5=>k_is);(case p6=>k_is);(case p7=>k_is);(case z0=>k_is);(case z1=>k_is);(case z2=>k_is);(case z3=>k_is);(case z4=>k_is);(case z5=>k_is);(case z6=>k_is);(case z7=>k_is);(case z8=>k_is);(case z9=>k_is);(case z10=>k_is);(case z11=>k_is);(case z12=>k_is);(case z13=>k_is);(case z14=>k_is);(case z15=>k_is)
 case Q =>
  intro w;constructor
  case cu=>kernel_rfl
  case ct =>
   refine' #[_,G.cu0 ?a ?b ?c ?pg ?hd ?po ?sa ?is ?n,?ms]
   (case a=>k_is);(case b=>k_is);(case c=>k_is);(case pg=>k_is);(case hd=>k_is);(case po=>k_is);(case sa=>k_is)
   case is=>kernel_rfl
   case n=>intro f hf;simp only[ao,aM,or_false]at hf;rcases hf with rfl|rfl<;>k_is
   case ms =>
    constructor
    all_goals (refine' G.cK7 ?a ?i ?l ?c ?k;(case a=>k_is);(case i=>k_is);(case l=>k_is);(case c=>k_is);(case k=>k_is))
  all_goals (refine' G.cK8 ?a ?l ?c ?k;(case a=>k_is);(case l=>k_is);(case c=>k_is);(case k=>k_is))
