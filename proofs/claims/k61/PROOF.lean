import PyProof.Rows.All
import Wide.All
import OpenK.AllK
import Wide.FinOn
import Lean
import PyProof.EqAt
import PyProof.EqKinds
import PyProof.TupleCall
import PySem.Challenge.RW_glazework_k61_whole_boxes
set_option Elab.async false
set_option linter.all false
set_option maxRecDepth 100000
namespace L2
open PySem PySem.Spec PyProof.Rows
abbrev Key := Sum Int Str
def keyIs : Key → Value → Bool
 | .inl k, v => Value.isInt k v
 | .inr x, v => Value.isStrOf x v
def keyH (w : World) : Key → Int
 | .inl k => hashInt k
 | .inr x => hashStr w x
theorem keyIs_shape : ∀ {k : Key} {v : Value}, keyIs k v = true → (∃ i t, k = Sum.inl i ∧ v = Value.int i t) ∨ (∃ x t, k = Sum.inr x ∧ v = Value.str x t)
 | .inl i, v, h => by
  obtain ⟨t, e⟩ := Value.isInt_shape (k := i) (v := v) h
  exact .inl ⟨i, t, rfl, e⟩
 | .inr x, v, h => by
  obtain ⟨t, e⟩ := Value.isStrOf_shape (x := x) (v := v) h
  exact .inr ⟨x, t, rfl, e⟩
theorem key_ll (a b : Int) : decide ((Sum.inl a : Key) = Sum.inl b) = (a == b) := by
 by_cases e : a = b
 ·subst e; simp
 ·have h : ¬ (Sum.inl a : Key) = Sum.inl b := fun q => e (Sum.inl.inj q)
  rw [decide_eq_false h]
  exact (beq_eq_false_iff_ne.mpr e).symm
theorem key_rr (a b : Str) : decide ((Sum.inr a : Key) = Sum.inr b) = decide (a = b) := by
 by_cases e : a = b
 ·subst e; simp
 ·have h : ¬ (Sum.inr a : Key) = Sum.inr b := fun q => e (Sum.inr.inj q)
  rw [decide_eq_false h, decide_eq_false e]
theorem key_lr (a : Int) (b : Str) : decide ((Sum.inl a : Key) = Sum.inr b) = false := decide_eq_false (fun q => nomatch q)
theorem key_rl (a : Str) (b : Int) : decide ((Sum.inr a : Key) = Sum.inl b) = false := decide_eq_false (fun q => nomatch q)
def mixKind (prog : Program) (w : World) : PySem.KeyKind prog w Key where
 is := keyIs
 hash := keyH w
 inj := fun v a b ha hb => by
  rcases keyIs_shape ha with ⟨i, t, rfl, rfl⟩ | ⟨x, t, rfl, rfl⟩
  ·rcases keyIs_shape hb with ⟨j, u, rfl, e⟩ | ⟨y, u, rfl, e⟩
   ·injection e with e1 _; rw [e1]
   ·exact nomatch e
  ·rcases keyIs_shape hb with ⟨j, u, rfl, e⟩ | ⟨y, u, rfl, e⟩
   ·exact nomatch e
   ·injection e with e1 _; rw [e1]
 byValue := fun k v h => by
  rcases keyIs_shape h with ⟨i, t, rfl, rfl⟩ | ⟨x, t, rfl, rfl⟩ <;> rfl
 pyHash := fun hv h => by
  rcases keyIs_shape hv with ⟨i, t, rfl, rfl⟩ | ⟨x, t, rfl, rfl⟩
  ·exact wpAny_pyHash_int h
  ·exact wpAny_pyHash_str h
 eqBool := fun hu hv h => by
  rcases keyIs_shape hu with ⟨i, t, rfl, rfl⟩ | ⟨x, t, rfl, rfl⟩
  ·rcases keyIs_shape hv with ⟨j, u, rfl, rfl⟩ | ⟨y, u, rfl, rfl⟩
   ·rw [key_ll] at h; exact wpAny_eqBool_int h
   ·rw [key_lr] at h; exact SeqAt.EqAt.int_str i t y u _ _ _ _ h
  ·rcases keyIs_shape hv with ⟨j, u, rfl, rfl⟩ | ⟨y, u, rfl, rfl⟩
   ·rw [key_rl] at h; exact SeqAt.EqAt.str_int x t j u _ _ _ _ h
   ·rw [key_rr] at h; exact wpAny_eqBool_str h
 «strs» := fun k x t v h => by
  rcases keyIs_shape h with ⟨i, u, rfl, e⟩ | ⟨y, u, rfl, e⟩
  ·exact nomatch e
  ·injection e with e1 _
   subst e1
   cases v <;> rfl
end L2
namespace L2
open PySem PySem.Spec PyProof.Rows
inductive V where
 | non | bl (b : Bool) | int (i : Int) | str (x : Str) | byt (b : Array UInt8) | flt (b : UInt64) | ref (a : Addr) | ty (n : String)
 deriving DecidableEq
def RelV : V → Value → Prop
 | .non, u => u = Value.none
 | .bl b, u => u = Value.bool b
 | .int i, u => ∃ t, u = Value.int i t
 | .str x, u => ∃ t, u = Value.str x t
 | .byt b, u => ∃ t, u = Value.bytes b t
 | .flt b, u => ∃ t, u = Value.float b t
 | .ref a, u => u = Value.ref a
 | .ty n, u => u = Value.type n
abbrev Vals : List V → List Value → Prop := Paired RelV
theorem Vals.length {xs : List V} {us : List Value} (r : Vals xs us) : xs.length = us.length := Paired.length r
theorem Vals.get : ∀ {xs : List V} {us : List Value} {i : Nat} {x : V}, Vals xs us → xs[i]? = some x → ∃ u, us[i]? = some u ∧ RelV x u
 | _, _, _, _, .nil, e => by simp at e
 | _, _, 0, _, .cons r _, e => by simp at e; subst e; exact ⟨_, rfl, r⟩
 | _, _, i + 1, x, .cons _ t, e => by
  obtain ⟨u, h1, h2⟩ := Vals.get (i := i) (x := x) t (by simpa using e)
  exact ⟨u, by simpa using h1, h2⟩
theorem Vals.append : ∀ {xs ys : List V} {us ws : List Value}, Vals xs us → Vals ys ws → Vals (xs ++ ys) (us ++ ws)
 | _, _, _, _, .nil, s => s
 | _, _, _, _, .cons r t, s => .cons r (Vals.append t s)
theorem Vals.take : ∀ {xs : List V} {us : List Value} (n : Nat), Vals xs us → Vals (xs.take n) (us.take n)
 | _, _, 0, _ => .nil
 | _, _, _ + 1, .nil => .nil
 | _, _, n + 1, .cons r t => .cons r (Vals.take n t)
theorem Vals.drop : ∀ {xs : List V} {us : List Value} (n : Nat), Vals xs us → Vals (xs.drop n) (us.drop n)
 | _, _, 0, r => r
 | _, _, _ + 1, .nil => .nil
 | _, _, n + 1, .cons _ t => Vals.drop n t
def RelO : Option V → Option Value → Prop
 | some v, some u => RelV v u
 | none, none => True
 | _, _ => False
def KV {κ : Type} : List (κ × V) → List (κ × Value) → Prop := Paired fun (p : κ × V) (q : κ × Value) => p.1 = q.1 ∧ RelV p.2 q.2
def kV : Key → V
 | .inl i => .int i
 | .inr x => .str x
inductive HO where
 /-- a list -/
 | lst (xs : List V)
 /-- a tuple (never changes) -/
 | tup (xs : List V)
 /-- a dict whose keys are ints and texts; one whose keys are tuples of ints and texts (the empty one is both) -/
 | dK (kvs : List (Key × V)) | dT (kvs : List (List Key × V))
 /-- a set of ints: its members, its size -/
 | set (S : Int → Bool) (n : Nat)
 /-- an instance of the class at C, its dict at dx, its attributes -/
 | ins (C dx : Addr) (fs : List (Str × V))
 /-- the dict of the instance at x -/
 | own (x : Addr)
 /-- the dict of an exception -/
 | xd (fs : List (Str × V))
 /-- a bound method, f of x -/
 | met (f x : Addr)
 /-- a range object lo, lo + 1, .. below hi -/
 | rng (lo hi : Int)
 /-- a thing that is known to the object (the script; a dict while a loop walks it): read, never written while it is so -/
 | frz (o : Obj) (u : HO)
 /-- a code object's table -/
 | tbl (ps : Array Value)
 /-- any other thing, by what is true of its one object (a def of one's own: SetO a S n := HO.ext fun h => ..) -/
 | ext (φ : Heap → Prop)
abbrev Hp := Addr → Option HO
def upd (H : Hp) (a : Addr) (o : HO) : Hp := fun b => if b = a then some o else H b
theorem upd_same {H : Hp} {a : Addr} {o : HO} : upd H a o a = some o := by unfold upd; rw [if_pos rfl]
theorem upd_ne {H : Hp} {a b : Addr} {o : HO} (h : b ≠ a) : upd H a o b = H b := by unfold upd; rw [if_neg h]
theorem ne_of_none {H : Hp} {a b : Addr} {o : HO} (h : H a = some o) (h' : H b = none) : a ≠ b := by
 intro e; subst e; rw [h] at h'; cases h'
section
variable (P : Program) (w : World)
def ObjOk (H : Hp) (h : Heap) (a : Addr) : HO → Prop
 | .lst xs => xs.length ≤ sizeLine ∧ ∃ (its : List Value) (n : Nat), Vals xs its ∧ h.get? a = some { cls := .type "list", data := .seq its.toArray n }
 | .tup xs => xs.length ≤ sizeLine ∧ ∃ its : List Value, Vals xs its ∧ IsTup h a its.toArray
 | .dK kvs => kvs.length ≤ sizeLine ∧ (a == sysModules) = false ∧ ∃ vs, KV kvs vs ∧ h.DictOf (mixKind P w) a vs
 | .dT kvs => kvs.length ≤ sizeLine ∧ (a == sysModules) = false ∧ ∃ xs : List (List Key × Addr × Value),
   Paired (fun (p : List Key × V) (q : List Key × Addr × Value) => p.1 = q.1 ∧ H q.2.1 = some (.tup (p.1.map kV)) ∧ RelV p.2 q.2.2) kvs xs ∧
   ∃ o es ep, h.get? a = some o ∧ o.ExactDict ∧ o.data = .dict es ep ∧ es.toList = xs.map (entryOfKey (tupleKind (mixKind P w))) ∧ (xs.map (·.1)).Nodup
 | .set S n => h.SetOf (intKind P w) a S n
 | .ins C dx fs => H dx = some (.own a) ∧ fs.length ≤ 1000 ∧ dx ≠ a ∧ h.get? a = some (PySem.W.instObj C dx) ∧
   ∃ mA, h.Ns1 dx mA ∧ (∀ f, RelO (fs.lookup f) (mA f)) ∧ PySem.Within mA (fs.map (·.1))
 | .own _ => ∃ o, h.get? a = some o
 | .xd fs => ∃ mA, h.Ns1 a mA ∧ ∀ f, RelO (fs.lookup f) (mA f)
 | .rng lo hi => ∃ t u v, h.get? a = some { cls := .type "range", data := .fields #[.int lo t, .int hi u, .int 1 v] }
 | .frz o u => h.get? a = some o ∧ ObjOk H h a u
 | .tbl ps => h.get? a = some { cls := .none, data := .fields ps }
 | .met f x => h.get? a = some (PySem.W.methodObj (.ref f) (.ref x))
 | .ext φ => φ h ∧ (∃ o, h.get? a = some o) ∧ ∀ h1 h2 : Heap, φ h1 → (∀ o, h1.get? a = some o → h2.get? a = some o) → φ h2
def HOk (H : Hp) (h : Heap) : Prop := ∀ a o, H a = some o → ObjOk P w H h a o
end
section
variable {P : Program} {w : World} {H H' : Hp} {h h' : Heap} {a : Addr} {o : HO}
theorem ObjOk.lt (x : ObjOk P w H h a o) : a < h.objs.size := by
 cases o with
 | lst xs => obtain ⟨_, _, _, _, e⟩ := x; exact Heap.lt_size e
 | tup xs => obtain ⟨_, _, _, p⟩ := x; exact p.lt
 | dK kvs => obtain ⟨_, _, _, _, o, _, _, e, _⟩ := x; exact Heap.lt_size e
 | dT kvs => obtain ⟨_, _, _, _, o, _, _, e, _⟩ := x; exact Heap.lt_size e
 | set S n => obtain ⟨o, _, _, _, e, _⟩ := x; exact Heap.lt_size e
 | ins C dx fs => obtain ⟨_, _, _, e, _⟩ := x; exact Heap.lt_size e
 | own y => obtain ⟨_, e⟩ := x; exact Heap.lt_size e
 | xd fs => obtain ⟨_, ⟨_, _, _, e, _⟩, _⟩ := x; exact Heap.lt_size e
 | rng lo hi => obtain ⟨_, _, _, e⟩ := x; exact Heap.lt_size e
 | frz ob u => obtain ⟨e, _⟩ := x; exact Heap.lt_size e
 | tbl ps => exact Heap.lt_size (show h.get? a = some _ from x)
 | met f y => exact Heap.lt_size (show h.get? a = some _ from x)
 | ext φ => obtain ⟨_, ⟨_, e⟩, _⟩ := x; exact Heap.lt_size e
theorem Paired.mapP {α β : Type} {F G : α → β → Prop} : ∀ {l₁ : List α} {l₂ : List β}, Paired F l₁ l₂ → (∀ a b, F a b → G a b) → Paired G l₁ l₂
 | _, _, .nil, _ => .nil
 | _, _, .cons r t, f => .cons (f _ _ r) (Paired.mapP t f)
theorem ObjOk.stay (x : ObjOk P w H h a o) (k : ∀ b u, (b = a ∨ H b = some (.own a)) → h.get? b = some u → h'.get? b = some u)
  (ho : ∀ b, H b = some (.own a) → H' b = some (.own a)) (ht : ∀ b xs, H b = some (.tup xs) → H' b = some (.tup xs)) : ObjOk P w H' h' a o := by
 induction o with
 | lst xs => obtain ⟨z, its, n, r, e⟩ := x; exact ⟨z, its, n, r, k _ _ (.inl rfl) e⟩
 | tup xs => obtain ⟨z, its, r, ob, e, c⟩ := x; exact ⟨z, its, r, ob, k _ _ (.inl rfl) e, c⟩
 | dK kvs => obtain ⟨z, y, vs, r, ob, es, ep, e, c⟩ := x; exact ⟨z, y, vs, r, ob, es, ep, k _ _ (.inl rfl) e, c⟩
 | dT kvs =>
  obtain ⟨z, y, xs, r, ob, es, ep, e, c⟩ := x
  exact ⟨z, y, xs, Paired.mapP r fun p q z => ⟨z.1, ht _ _ z.2.1, z.2.2⟩, ob, es, ep, k _ _ (.inl rfl) e, c⟩
 | set S n => obtain ⟨ob, es, ep, t, e, c⟩ := x; exact ⟨ob, es, ep, t, k _ _ (.inl rfl) e, c⟩
 | ins C dx fs =>
  obtain ⟨d, z, ne, e, mA, ⟨od, es, ep, e2, c⟩, r⟩ := x
  exact ⟨ho _ d, z, ne, k _ _ (.inl rfl) e, mA, ⟨od, es, ep, k _ _ (.inr d) e2, c⟩, r⟩
 | own y => obtain ⟨ob, e⟩ := x; exact ⟨ob, k _ _ (.inl rfl) e⟩
 | xd fs => obtain ⟨mA, ⟨od, es, ep, e, c⟩, r⟩ := x; exact ⟨mA, ⟨od, es, ep, k _ _ (.inl rfl) e, c⟩, r⟩
 | rng lo hi => obtain ⟨t, u, v, e⟩ := x; exact ⟨t, u, v, k _ _ (.inl rfl) e⟩
 | frz ob u ih => obtain ⟨e, q⟩ := x; exact ⟨k _ _ (.inl rfl) e, ih q⟩
 | tbl ps =>
  have e : h.get? a = some { cls := .none, data := .fields ps } := x
  show h'.get? a = some { cls := .none, data := .fields ps }
  exact k a _ (.inl rfl) e
 | met f y =>
  have e : h.get? a = some (PySem.W.methodObj (.ref f) (.ref y)) := x
  show h'.get? a = some (PySem.W.methodObj (.ref f) (.ref y))
  exact k a _ (.inl rfl) e
 | ext φ => obtain ⟨p, ⟨o, e⟩, st⟩ := x; exact ⟨st _ _ p fun o q => k _ _ (.inl rfl) q, ⟨o, k _ _ (.inl rfl) e⟩, st⟩
theorem HOk.lt (x : HOk P w H h) (e : H a = some o) : a < h.objs.size := (x a o e).lt
theorem HOk.fresh (x : HOk P w H h) (e : h.objs.size ≤ a) : H a = none := by
 cases q : H a with
 | none => rfl
 | some u => exact absurd (Nat.lt_of_lt_of_le (x.lt q) e) (Nat.lt_irrefl _)
theorem HOk.kept (x : HOk P w H h) (k : ∀ b u, h.get? b = some u → h'.get? b = some u) : HOk P w H h' := fun a o e =>
 (x a o e).stay (fun b u _ q => k b u q) (fun _ q => q) fun _ _ q => q
theorem HOk.laid (x : HOk P w H h) (k : ∀ b u, h.get? b = some u → h'.get? b = some u) (hp : h.objs.size ≤ a) (new : ObjOk P w (upd H a o) h' a o) : HOk P w (upd H a o) h' := fun b u e => by
 have hn := x.fresh hp
 by_cases hb : b = a
 ·subst hb; rw [upd_same] at e; cases e; exact new
 ·rw [upd_ne hb] at e
  exact (x b u e).stay (fun c v _ q => k c v q) (fun c q => by rw [upd_ne (ne_of_none q hn)]; exact q) fun c xs q => by rw [upd_ne (ne_of_none q hn)]; exact q
end
def Rd (H : Hp) (a : Addr) (u : HO) : Prop := H a = some u ∨ ∃ o, H a = some (.frz o u)
theorem Rd.ok {P : Program} {w : World} {H : Hp} {h : Heap} {a : Addr} {u : HO} (r : Rd H a u) (x : HOk P w H h) : ObjOk P w H h a u := by
 rcases r with r | ⟨o, r⟩
 ·exact x a u r
 ·obtain ⟨_, q⟩ := x a _ r
  exact q
def Mut : Option HO → Prop
 | some (.lst _) => True
 | some (.dK _) => True
 | some (.dT _) => True
 | some (.set _ _) => True
 | some (.ins _ _ _) => True
 | some (.ext _) => True
 | _ => False
section
variable {P : Program} {w : World} {H : Hp} {h h' : Heap} {x e : Addr} {o' : HO}
theorem HOk.write (ok : HOk P w H h) (mu : Mut (H x)) (he : e = x ∨ H e = some (.own x)) (k : ∀ b u, b ≠ e → h.get? b = some u → h'.get? b = some u) (heo : ∃ u, h'.get? e = some u)
  (new : ObjOk P w (upd H x o') h' x o') : HOk P w (upd H x o') h' := fun b u q => by
 have nown : ∀ c y, H c = some (.own y) → c ≠ x := fun c y r z => by subst z; rw [r] at mu; exact mu
 have ntup : ∀ c xs, H c = some (.tup xs) → c ≠ x := fun c xs r z => by subst z; rw [r] at mu; exact mu
 by_cases hb : b = x
 ·subst hb; rw [upd_same] at q; cases q; exact new
 ·rw [upd_ne hb] at q
  by_cases hbe : b = e
  ·have q' : H b = some (.own x) := by
    rcases he with z | z
    ·exact absurd (hbe.trans z) hb
    ·rw [hbe]; exact z
   rw [q] at q'; cases q'
   obtain ⟨v, hv⟩ := heo
   exact ⟨v, by rw [hbe]; exact hv⟩
  ·refine (ok b u q).stay (fun c v hc r => k c v ?_ r) (fun c r => by rw [upd_ne (nown c b r)]; exact r) fun c xs r => by rw [upd_ne (ntup c xs r)]; exact r
   rcases hc with rfl | hc
   ·exact hbe
   ·rintro rfl
    rcases he with z | z
    ·exact nown c b hc z
    ·rw [hc] at z; cases z; exact hb rfl
end
structure Un (fs ex : List Addr) (H H' : Hp) (h h' : Heap) : Prop where
 keep : ∀ b o, h.get? b = some o → H b = none → b ∉ fs → b ∉ ex → h'.get? b = some o
 slot : ∀ b o, h.get? b = some o → H b = none → b ∈ fs → b ∉ ex → ∃ sl, h'.get? b = some { o with slots := sl }
 free : ∀ b o, h.get? b = some o → H b = none → b ∉ ex → H' b = none
 there : ∀ b o, h.get? b = some o → b ∉ ex → ∃ o', h'.get? b = some o'
 tups : ∀ b xs, H b = some (.tup xs) → H' b = some (.tup xs)
 frzs : ∀ b o u, H b = some (.frz o u) → H' b = some (.frz o u)
 tbls : ∀ b ps, H b = some (.tbl ps) → ∃ more, H' b = some (.tbl (ps ++ more))
section
variable {fs fs' ex ex' : List Addr} {H H1 H2 : Hp} {h h1 h2 h' : Heap} {a x e : Addr} {o : HO}
theorem Un.any (u : Un fs ex H H1 h h1) {b : Addr} {ob : Obj} (q : h.get? b = some ob) (n : H b = none) (hx : b ∉ ex) : ∃ sl, h1.get? b = some { ob with slots := sl } := by
 by_cases hb : b ∈ fs
 ·exact u.slot b ob q n hb hx
 ·exact ⟨ob.slots, u.keep b ob q n hb hx⟩
theorem Un.kept (k : ∀ b u, h.get? b = some u → h'.get? b = some u) : Un fs ex H H h h' :=
 ⟨fun b ob q _ _ _ => k b ob q, fun b ob q _ _ _ => ⟨ob.slots, k b ob q⟩, fun _ _ _ n _ => n, fun b ob q _ => ⟨ob, k b ob q⟩, fun _ _ q => q, fun _ _ _ q => q, fun _ ps q => ⟨#[], by rw [q]; simp⟩⟩
theorem Un.refl : Un fs ex H H h h := Un.kept fun _ _ q => q
theorem Un.laid (k : ∀ b u, h.get? b = some u → h'.get? b = some u) (hp : h.objs.size ≤ a) (hn : H a = none) : Un fs ex H (upd H a o) h h' where
 keep := fun b u q _ _ _ => k b u q
 slot := fun b u q _ _ _ => ⟨u.slots, k b u q⟩
 free := fun b u q n _ => by rw [upd_ne (Nat.ne_of_lt (Nat.lt_of_lt_of_le (Heap.lt_size q) hp))]; exact n
 there := fun b u q _ => ⟨u, k b u q⟩
 tups := fun b xs q => by rw [upd_ne (ne_of_none q hn)]; exact q
 frzs := fun b u xs q => by rw [upd_ne (ne_of_none q hn)]; exact q
 tbls := fun b ps q => ⟨#[], by rw [upd_ne (ne_of_none q hn), q]; simp⟩
theorem Un.write (mu : Mut (H x)) (he : e = x ∨ H e = some (.own x)) (k : ∀ b u, b ≠ e → h.get? b = some u → h'.get? b = some u) (heo : ∃ u, h'.get? e = some u) : Un fs ex H (upd H x o) h h' := by
 have hx : ∀ b, H b = none → b ≠ x := fun b n z => by subst z; rw [n] at mu; exact mu
 have hb : ∀ b, H b = none → b ≠ e := fun b n z => by
  subst z
  rcases he with r | r
  ·exact hx b n r
  ·rw [n] at r; cases r
 have hm : ∀ b u, H b = some u → ¬ Mut (some u) → b ≠ x := fun b u q nm z => by subst z; rw [q] at mu; exact nm mu
 refine ⟨fun b u q n _ _ => k b u (hb b n) q, fun b u q n _ _ => ⟨u.slots, k b u (hb b n) q⟩, fun b u q n _ => by rw [upd_ne (hx b n)]; exact n, fun b u q _ => ?_,
  fun b xs q => by rw [upd_ne (hm b _ q fun z => z)]; exact q, fun b u xs q => by rw [upd_ne (hm b _ q fun z => z)]; exact q, fun b ps q => ⟨#[], by rw [upd_ne (hm b _ q fun z => z), q]; simp⟩⟩
 by_cases hbe : b = e
 ·subst hbe; exact heo
 ·exact ⟨u, k b u hbe q⟩
end
def trk (h : Heap) (H : Hp) : List Addr := (List.range h.objs.size).filter fun a => (H a).isSome
def hidT (h : Heap) (H : Hp) : Heap := PySem.W.hideAll h (trk h H)
theorem hidT_size (h : Heap) (H : Hp) : (hidT h H).objs.size = h.objs.size := PySem.W.hideAll_size _ _
theorem hidT_get {h : Heap} {H : Hp} {b : Addr} {o : Obj} (e : h.get? b = some o) (n : H b = none) : (hidT h H).get? b = some o :=
 PySem.W.hideAll_get _ e fun hm => by
  have q : (H b).isSome = true := (List.mem_filter.mp hm).2
  rw [n] at q; simp at q
theorem of_hidT {h : Heap} {H : Hp} {b : Addr} {o : Obj} (e : (hidT h H).get? b = some o) : h.get? b = some o ∧ H b = none := by
 have e' : h.get? b = some o := PySem.W.of_hideAll (trk h H) e
 refine ⟨e', ?_⟩
 cases q : H b with
 | none => rfl
 | some x =>
  have hm : b ∈ trk h H := List.mem_filter.mpr ⟨List.mem_range.mpr (Heap.lt_size e'), by simp [q]⟩
  have z : (hidT h H).get? b = none := PySem.W.hideAll_none (trk h H) hm
  rw [z] at e; cases e
def allNews (g h : Heap) (L : Addr) : List (Addr × Obj) := (List.range h.objs.size).filterMap fun a => if a = L ∨ (g.get? a).isSome = true then none else (h.get? a).map fun o => (a, o)
def rest (g h : Heap) (L d : Addr) : List (Addr × Obj) := (allNews g h L).filter fun p => decide (p.1 ≠ d)
end L2
namespace L2
open PySem PySem.Spec PyProof.Rows
structure Mod (K : PySem.W.Frag) (mg : Str → Option Value) (base : Heap) : Prop where
 kin : K.In base
 glob : base.Ns mainGlobals mg
 blt : ∃ mb, base.Ns builtinsNs mb ∧ ∀ x : Str, x ≠ "__name__" → mb x = bootBuiltins x
 nolimit : base.NoLimit
structure Cx where
 prog : Program
 w : World
 K : PySem.W.Frag
 mg : Str → Option Value
 base : Heap
 A : Around
 N : List Str
 s₀ : Shared
 H₀ : Hp
 env : Env
 outer : List Env
 stack : List Env
 ex : List Addr
 fn : Str → Bool
 calm : Bool
 pn : List (Addr × Obj)
 xe : Value → Shared → Prop
def frs (l : List Env) : List Addr := l.filterMap (·.frame)
abbrev Cx.fs (X : Cx) : List Addr := frs X.outer
def Vis (sc : Scope) (x : Str) : Prop := sc.names.lookup x = some .local ∨ sc.names.lookup x = some .cell ∨ sc.names.lookup x = some .free
def Loc (sc : Scope) (x : Str) : Prop := sc.names.lookup x = some .local ∨ sc.names.lookup x = some .cell
def Look (env : Env) (h : Heap) (m : Str → Option Value) (x : Str) (u : Value) : Prop :=
 (env.kindOf x = some .local ∧ m x = some u) ∨ ((env.kindOf x = some .cell ∨ env.kindOf x = some .free) ∧ ∃ c, env.cells.lookup x = some c ∧ h.IsCell c (some u))
structure Cx.Ok (X : Cx) : Prop where
 mod : Mod X.K X.mg X.base
 kind : X.env.scope.kind = .function
 glob : X.env.globals = mainGlobals
 blt : X.env.builtins = builtinsNs
 above : X.s₀.heap.objs.size ≤ X.env.locals
 inj : ∀ x y c, X.env.cells.lookup x = some c → X.env.cells.lookup y = some c → x = y
 has : ∀ x, (X.env.kindOf x = some .cell ∨ X.env.kindOf x = some .free) → ∃ c, X.env.cells.lookup x = some c
 cab : ∀ x c, X.fn x = true → X.env.cells.lookup x = some c → X.s₀.heap.objs.size ≤ c
 hd : X.calm = true → X.A.handled = none
 frames : X.A.frames = some X.stack
 stk : X.stack = X.outer ∨ (X.stack = X.env :: X.outer ∧ X.env.frame = some X.env.locals)
 exf : ∀ b ∈ X.ex, b ≠ X.env.locals ∧ ∀ x c, X.env.cells.lookup x = some c → c ≠ b
 bs : ∀ b o, X.base.get? b = some o → X.s₀.heap.get? b = some o ∧ X.H₀ b = none
 bsz : X.base.objs.size ≤ X.s₀.heap.objs.size
 noex : ∀ b o, X.base.get? b = some o → b ∉ X.ex
 exfs : ∀ b ∈ X.ex, b ∉ X.fs
 funs : X.s₀.heap.FunFrames X.base X.outer
 frf : ∀ b ∈ X.fs, X.H₀ b = none
structure Inv (X : Cx) (pins : List (Addr × Obj)) (σ : List (Option V)) (H : Hp) (s : Shared) : Prop where
 ok : X.Ok
 os : s.os = X.s₀.os
 bare : AllBare s.gens
 base : Un X.fs X.ex X.H₀ H X.s₀.heap s.heap
 loc : ∃ m, s.heap.Ns X.env.locals m ∧ ∀ (i : Nat) (x : Str) (v : V), X.N[i]? = some x → σ[i]? = some (some v) → Vis X.env.scope x → ∃ u, RelV v u ∧ Look X.env s.heap m x u
 cell : ∀ x c, X.env.cells.lookup x = some c → ∃ v, s.heap.IsCell c v
 free : H X.env.locals = none
 freeC : ∀ x c, X.env.cells.lookup x = some c → H c = none
 pin : ∀ p ∈ X.pn ++ pins, s.heap.get? p.1 = some p.2 ∧ H p.1 = none ∧ p.1 ≠ X.env.locals ∧ p.1 ∉ X.fs ∧ ∀ v, p.2.data ≠ .cell v
 hok : HOk X.prog X.w H s.heap
 len : σ.length = X.N.length
section
variable {X : Cx} {pins : List (Addr × Obj)} {σ : List (Option V)} {H H' : Hp} {s : Shared} {h' : Heap}
theorem Cx.Ok.nofr (ok : X.Ok) {b : Addr} {o : Obj} (e : X.base.get? b = some o) : b ∉ X.fs := fun hb => by
 have := (ok.funs.mem hb).1
 rw [e] at this; cases this
theorem Inv.bs (I : Inv X pins σ H s) : ∀ b o, X.base.get? b = some o → s.heap.get? b = some o ∧ H b = none := fun b o e =>
 ⟨I.base.keep b o (I.ok.bs b o e).1 (I.ok.bs b o e).2 (I.ok.nofr e) (I.ok.noex b o e), I.base.free b o (I.ok.bs b o e).1 (I.ok.bs b o e).2 (I.ok.noex b o e)⟩
theorem Inv.bk (I : Inv X pins σ H s) : ∀ b o, X.base.get? b = some o → s.heap.get? b = some o := fun b o e => (I.bs b o e).1
theorem Inv.mod (I : Inv X pins σ H s) : Mod X.K X.mg X.base := I.ok.mod
theorem Inv.kIn (I : Inv X pins σ H s) : X.K.In s.heap := I.ok.mod.kin.keeps I.bk
theorem Inv.lt (I : Inv X pins σ H s) : X.env.locals < s.heap.objs.size := let ⟨_, hn, _⟩ := I.loc; hn.lt
theorem Inv.sz (I : Inv X pins σ H s) : X.s₀.heap.objs.size ≤ s.heap.objs.size := Nat.le_trans I.ok.above (Nat.le_of_lt I.lt)
theorem Inv.nofs (I : Inv X pins σ H s) {a : Addr} (h : s.heap.objs.size ≤ a) : a ∉ X.fs := fun hb => by
 obtain ⟨_, o, ho, _⟩ := I.ok.funs.mem hb
 exact absurd (Nat.lt_of_lt_of_le (Heap.lt_size ho) (Nat.le_trans I.sz h)) (Nat.lt_irrefl _)
theorem Inv.cne (I : Inv X pins σ H s) : ∀ x c, X.env.cells.lookup x = some c → c ≠ X.env.locals := fun x c e z => by
 obtain ⟨v, o, ho, hd⟩ := I.cell x c e
 obtain ⟨m, ⟨o', es, ep, ho', hd', _⟩, _⟩ := I.loc
 rw [z, ho'] at ho; cases ho; rw [hd'] at hd; cases hd
theorem Inv.funs (I : Inv X pins σ H s) : s.heap.FunFrames X.base X.outer := by
 have all : ∀ (l : List Env), (∀ b ∈ frs l, b ∈ X.fs) → X.s₀.heap.FunFrames X.base l → s.heap.FunFrames X.base l := by
  intro l
  induction l with
  | nil => intro _ _; trivial
  | cons env r ih =>
   intro hs hl
   obtain ⟨hk, ⟨L, o, hf, hn, ho, hd⟩, hr⟩ := hl
   have hL : L ∈ X.fs := hs L (by unfold frs; rw [List.filterMap_cons, hf]; exact List.mem_cons_self)
   obtain ⟨sl, e⟩ := I.base.slot L o ho (I.ok.frf L hL) hL fun z => I.ok.exfs L z hL
   exact ⟨hk, ⟨L, _, hf, hn, e, hd⟩, ih (fun b hb => hs b (by unfold frs; rw [List.filterMap_cons, hf]; exact List.mem_cons_of_mem _ hb)) hr⟩
 exact all X.outer (fun _ hb => hb) I.ok.funs
theorem Inv.stack (I : Inv X pins σ H s) : s.heap.FunFrames X.base X.stack := by
 rcases I.ok.stk with e | ⟨e, hf⟩
 ·rw [e]; exact I.funs
 ·rw [e]
  obtain ⟨m, hn, _⟩ := I.loc
  refine .cons (by rw [I.ok.kind]; decide) hf hn ?_ I.funs
  exact Heap.get?_none_of_le (Nat.le_trans I.ok.bsz I.ok.above)
theorem Inv.stkSub (I : Inv X pins σ H s) : ∀ b ∈ frs X.stack, b ∈ X.env.locals :: X.fs := fun b hb => by
 rcases I.ok.stk with e | ⟨e, hf⟩
 ·rw [e] at hb; exact List.mem_cons_of_mem _ hb
 ·rw [e] at hb
  unfold frs at hb
  rw [List.filterMap_cons, hf] at hb
  exact hb
theorem Inv.stkFree (I : Inv X pins σ H s) : ∀ b ∈ frs X.stack, H b = none := fun b hb => by
 rcases List.mem_cons.mp (I.stkSub b hb) with e | hb
 ·rw [e]; exact I.free
 ·obtain ⟨_, o, ho, _⟩ := I.ok.funs.mem hb
  exact I.base.free b o ho (I.ok.frf b hb) fun z => I.ok.exfs b z hb
theorem Inv.step {g' : Array GenState} {t' : Nat} {d' : Drawn} {ch : List Addr} (I : Inv X pins σ H s)
  (hch : ∀ b ∈ ch, (b ∈ X.ex ∨ X.s₀.heap.objs.size ≤ b) ∧ b ≠ X.env.locals ∧ (∀ x c, X.env.cells.lookup x = some c → c ≠ b) ∧ ∀ p ∈ X.pn ++ pins, p.1 ≠ b)
  (keep : ∀ b o, b ≠ X.env.locals → b ∉ X.fs → b ∉ ch → s.heap.get? b = some o → H b = none → h'.get? b = some o)
  (slot : ∀ b o, b ≠ X.env.locals → b ∈ X.fs → b ∉ ch → s.heap.get? b = some o → H b = none → ∃ sl, h'.get? b = some { o with slots := sl }) (free : ∀ b o, b ∉ ch → s.heap.get? b = some o → H b = none → H' b = none)
  (there : ∀ b o, b ∉ ch → s.heap.get? b = some o → ∃ o', h'.get? b = some o')
  (tups : ∀ b xs, H b = some (.tup xs) → H' b = some (.tup xs)) (frzs : ∀ b o u, H b = some (.frz o u) → H' b = some (.frz o u)) (tbls : ∀ b ps, H b = some (.tbl ps) → ∃ more, H' b = some (.tbl (ps ++ more)))
  (ns : ∀ m, s.heap.Ns X.env.locals m → h'.Ns X.env.locals m) (hok : HOk X.prog X.w H' h') (hg : AllBare g') :
  Inv X pins σ H' { s with heap := h', gens := g', drawn := d', toks := t' } := by
 have neL : ∀ b o, X.s₀.heap.get? b = some o → b ≠ X.env.locals := fun b o e => Nat.ne_of_lt (Nat.lt_of_lt_of_le (Heap.lt_size e) I.ok.above)
 have neC : ∀ b o, X.s₀.heap.get? b = some o → b ∉ X.ex → b ∉ ch := fun b o e hx hb => by
  rcases (hch b hb).1 with z | z
  ·exact hx z
  ·exact absurd (Nat.lt_of_lt_of_le (Heap.lt_size e) z) (Nat.lt_irrefl _)
 have cellK : ∀ x c, X.env.cells.lookup x = some c → ∀ v, s.heap.IsCell c v → h'.IsCell c v := fun x c e v ⟨o, ho, hd⟩ => by
  have nch : c ∉ ch := fun z => (hch c z).2.2.1 x c e rfl
  by_cases hc : c ∈ X.fs
  ·obtain ⟨sl, q⟩ := slot c o (I.cne x c e) hc nch ho (I.freeC x c e)
   exact ⟨_, q, hd⟩
  ·exact ⟨o, keep c o (I.cne x c e) hc nch ho (I.freeC x c e), hd⟩
 refine ⟨I.ok, I.os, hg, ⟨fun b o e n hb hx => ?_, fun b o e n hb hx => ?_, fun b o e n hx => ?_, fun b o e hx => ?_, fun b xs e => tups b xs (I.base.tups b xs e), fun b o xs e => frzs b o xs (I.base.frzs b o xs e), fun b ps e => ?_⟩, ?_, fun x c e => ?_, ?_, fun x c e => ?_, fun p hp => ?_, hok, I.len⟩
 ·exact keep b o (neL b o e) hb (neC b o e hx) (I.base.keep b o e n hb hx) (I.base.free b o e n hx)
 ·obtain ⟨sl, e1⟩ := I.base.slot b o e n hb hx
  obtain ⟨sl', e2⟩ := slot b _ (neL b o e) hb (neC b o e hx) e1 (I.base.free b o e n hx)
  exact ⟨sl', e2⟩
 ·obtain ⟨o', e1⟩ := I.base.there b o e hx
  exact free b o' (neC b o e hx) e1 (I.base.free b o e n hx)
 ·obtain ⟨o', e1⟩ := I.base.there b o e hx
  exact there b o' (neC b o e hx) e1
 ·obtain ⟨m1, e1⟩ := I.base.tbls b ps e
  obtain ⟨m2, e2⟩ := tbls b _ e1
  exact ⟨m1 ++ m2, by rw [e2, Array.append_assoc]⟩
 ·obtain ⟨m, hn, hl⟩ := I.loc
  refine ⟨m, ns m hn, fun i x v e1 e2 e3 => ?_⟩
  obtain ⟨u, r, l⟩ := hl i x v e1 e2 e3
  refine ⟨u, r, ?_⟩
  rcases l with l | ⟨k, c, e, z⟩
  ·exact .inl l
  ·exact .inr ⟨k, c, e, cellK x c e _ z⟩
 ·obtain ⟨v, z⟩ := I.cell x c e
  exact ⟨v, cellK x c e v z⟩
 ·obtain ⟨m, ⟨o, _, _, ho, _⟩, _⟩ := I.loc
  exact free _ o (fun z => (hch _ z).2.1 rfl) ho I.free
 ·obtain ⟨v, o, ho, hd⟩ := I.cell x c e
  exact free c o (fun z => (hch c z).2.2.1 x c e rfl) ho (I.freeC x c e)
 ·obtain ⟨e, n, ne, nf, d⟩ := I.pin p hp
  have nch : p.1 ∉ ch := fun z => (hch p.1 z).2.2.2 p hp rfl
  exact ⟨keep p.1 p.2 ne nf nch e n, free p.1 p.2 nch e n, ne, nf, d⟩
theorem Inv.un {t' : Nat} (I : Inv X pins σ H s) (u : Un X.fs [] H H' s.heap h') (hok : HOk X.prog X.w H' h') : Inv X pins σ H' { s with heap := h', toks := t' } := by
 obtain ⟨m, ⟨o, es, ep, ho, r⟩, _⟩ := id I.loc
 obtain ⟨sl, hL⟩ := u.any ho I.free (by simp)
 exact I.step (g' := s.gens) (d' := s.drawn) (ch := []) (fun _ z => nomatch z) (fun b o _ hb _ e n => u.keep b o e n hb (by simp)) (fun b o _ hb _ e n => u.slot b o e n hb (by simp)) (fun b o _ e n => u.free b o e n (by simp)) (fun b o _ e => u.there b o e (by simp)) u.tups u.frzs u.tbls (fun m' hm => by
  obtain ⟨o', es', ep', ho', r'⟩ := hm
  rw [ho] at ho'; cases ho'
  exact ⟨_, es', ep', hL, r'⟩) hok I.bare
theorem Inv.call {g' : Array GenState} {t' : Nat} {d' : Drawn} {ch : List Addr} (I : Inv X pins σ H s) (u : Un (frs X.stack) ch H H' s.heap h') (hok : HOk X.prog X.w H' h') (hg : AllBare g')
  (hch : ∀ b ∈ ch, (b ∈ X.ex ∨ X.s₀.heap.objs.size ≤ b) ∧ b ≠ X.env.locals ∧ (∀ x c, X.env.cells.lookup x = some c → c ≠ b) ∧ ∀ p ∈ X.pn ++ pins, p.1 ≠ b) :
  Inv X pins σ H' { s with heap := h', gens := g', drawn := d', toks := t' } := by
 obtain ⟨m, ⟨o, es, ep, ho, r⟩, _⟩ := id I.loc
 obtain ⟨sl, hL⟩ := u.any ho I.free fun z => (hch _ z).2.1 rfl
 exact I.step (ch := ch) hch (fun b o hL hb hc e n => u.keep b o e n (fun z => (List.mem_cons.mp (I.stkSub b z)).elim hL hb) hc) (fun b o _ _ hc e n => u.any e n hc) (fun b o hc e n => u.free b o e n hc) (fun b o hc e => u.there b o e hc) u.tups u.frzs u.tbls (fun m' hm => by
  obtain ⟨o', es', ep', ho', r'⟩ := hm
  rw [ho] at ho'; cases ho'
  exact ⟨_, es', ep', hL, r'⟩) hok hg
theorem Inv.turned {t' : Nat} {it : Addr} (I : Inv X pins σ H s) (k : ∀ b o, b ≠ it → s.heap.get? b = some o → h'.get? b = some o) (hn : H it = none) (hL : it ≠ X.env.locals)
  (h1 : it ∈ X.ex ∨ X.s₀.heap.objs.size ≤ it) (h2 : ∀ x c, X.env.cells.lookup x = some c → c ≠ it) (h3 : ∀ p ∈ X.pn ++ pins, p.1 ≠ it) : Inv X pins σ H { s with heap := h', toks := t' } := by
 have nit : ∀ b u, H b = some u → b ≠ it := fun b u e z => by rw [z, hn] at e; cases e
 refine I.step (g' := s.gens) (d' := s.drawn) (ch := [it]) (fun b hb => ?_) (fun b o _ _ hc e _ => k b o (fun z => hc (by simp [z])) e) (fun b o _ _ hc e _ => ⟨o.slots, k b o (fun z => hc (by simp [z])) e⟩) (fun _ _ _ _ n => n)
  (fun b o hc e => ⟨o, k b o (fun z => hc (by simp [z])) e⟩) (fun _ _ e => e) (fun _ _ _ e => e) (fun b ps e => ⟨#[], by rw [e]; simp⟩) (fun m hm => ?_) (fun b u e => ?_) I.bare
 ·have e : b = it := by simpa using hb
  subst e
  exact ⟨h1, hL, h2, h3⟩
 ·obtain ⟨o, es, ep, ho, r⟩ := hm
  exact ⟨o, es, ep, k _ o (Ne.symm hL) ho, r⟩
 ·refine (I.hok b u e).stay (fun c v hc q => k c v ?_ q) (fun _ q => q) fun _ _ q => q
  rcases hc with z | z
  ·rw [z]; exact nit b u e
  ·exact nit c _ z
theorem Inv.tok (I : Inv X pins σ H s) (t : Nat) : Inv X pins σ H { s with toks := t } := I.un (h' := s.heap) (t' := t) Un.refl I.hok
theorem Inv.kept {t' : Nat} (I : Inv X pins σ H s) (k : ∀ b u, s.heap.get? b = some u → h'.get? b = some u) : Inv X pins σ H { s with heap := h', toks := t' } := I.un (Un.kept k) (I.hok.kept k)
theorem Inv.laid {a : Addr} {o : HO} {t' : Nat} (I : Inv X pins σ H s) (k : ∀ b u, s.heap.get? b = some u → h'.get? b = some u) (hp : s.heap.objs.size ≤ a) (new : ObjOk X.prog X.w (upd H a o) h' a o) :
  Inv X pins σ (upd H a o) { s with heap := h', toks := t' } := I.un (Un.laid k hp (I.hok.fresh hp)) (I.hok.laid k hp new)
theorem Inv.write {x e : Addr} {o : HO} {t' : Nat} (I : Inv X pins σ H s) (mu : Mut (H x)) (he : e = x ∨ H e = some (.own x)) (k : ∀ b u, b ≠ e → s.heap.get? b = some u → h'.get? b = some u) (heo : ∃ u, h'.get? e = some u)
  (new : ObjOk X.prog X.w (upd H x o) h' x o) : Inv X pins σ (upd H x o) { s with heap := h', toks := t' } := I.un (Un.write mu he k heo) (I.hok.write mu he k heo new)
theorem Inv.pins_of {pins' : List (Addr × Obj)} (I : Inv X pins σ H s) (h : ∀ p ∈ pins', s.heap.get? p.1 = some p.2 ∧ H p.1 = none ∧ p.1 ≠ X.env.locals ∧ p.1 ∉ X.fs ∧ ∀ v, p.2.data ≠ .cell v) : Inv X pins' σ H s :=
 ⟨I.ok, I.os, I.bare, I.base, I.loc, I.cell, I.free, I.freeC, fun p hp => (List.mem_append.mp hp).elim (fun z => I.pin p (List.mem_append_left _ z)) (h p), I.hok, I.len⟩
theorem nodup_ix {N : List Str} (hN : N.Nodup) {i j : Nat} {x : Str} (a : N[i]? = some x) (b : N[j]? = some x) : i = j := by
 obtain ⟨h1, e1⟩ := List.getElem?_eq_some_iff.mp a
 obtain ⟨h2, e2⟩ := List.getElem?_eq_some_iff.mp b
 exact (List.getElem_inj hN).mp (e1.trans e2.symm)
theorem store_ok2 {M : Model} {A : Around} {E : Value → Shared → Prop} {i : Nat} {x : Str} {v : V} {u : Value} {Q : Unit → Shared → Prop} (I : Inv X pins σ H s) (hN : X.N.Nodup) (hi : X.N[i]? = some x) (hx : Loc X.env.scope x) (r : RelV v u)
  (h : ∀ s', Inv X pins (σ.set i (some v)) H s' → (∃ a, Heap.SameBut a s.heap s'.heap ∧ (a = X.env.locals ∨ X.env.cells.lookup x = some a)) → Q () s') (hf : X.fn x = true ∨ X.env.scope.names.lookup x = some .local := by first | exact .inl rfl | exact .inr rfl | assumption) : wpAny M A (storeName X.env x u) Q E s := by
 obtain ⟨m, hn, hl⟩ := id I.loc
 have hcls : (X.env.scope.kind == .class || (X.env.scope.kind == .module && X.env.locals != X.env.globals)) = false := by rw [I.ok.kind]; rfl
 have hiσ : i < σ.length := by rw [I.len]; exact (List.getElem?_eq_some_iff.mp hi).1
 have cne := I.cne
 have tracked : ∀ {a : Addr} {h' : Heap}, (∃ o, s.heap.get? a = some o ∧ H a = none) → Heap.SameBut a s.heap h' → HOk X.prog X.w H h' := fun {a h'} ha hs b ob e => by
  obtain ⟨_, _, hfree⟩ := ha
  refine (I.hok b ob e).stay (fun c w' hc q => (hs.2 c ?_).trans q) (fun _ q => q) fun _ _ q => q
  rintro rfl
  rcases hc with rfl | hc
  ·rw [hfree] at e; cases e
  ·rw [hfree] at hc; cases hc
 rcases hx with hk | hk
 ·refine wpAny_storeName_local hk hn (fun h' hn' hs => ?_) hcls
  obtain ⟨oL, _, _, hoL, _⟩ := id hn
  refine h _ ⟨I.ok, I.os, I.bare, ⟨fun b o e n hb hx => ?_, fun b o e n hb hx => ?_, I.base.free, fun b o e hx => ?_, I.base.tups, I.base.frzs, I.base.tbls⟩, ⟨_, hn', fun j y v' e1 e2 e3 => ?_⟩, fun y c e => ?_, I.free, I.freeC, fun p hp => ?_, tracked ⟨oL, hoL, I.free⟩ hs, by simpa using I.len⟩ ⟨_, hs, .inl rfl⟩
  ·exact (hs.2 b (Nat.ne_of_lt (Nat.lt_of_lt_of_le (Heap.lt_size e) I.ok.above))).trans (I.base.keep b o e n hb hx)
  ·obtain ⟨sl, e1⟩ := I.base.slot b o e n hb hx
   exact ⟨sl, (hs.2 b (Nat.ne_of_lt (Nat.lt_of_lt_of_le (Heap.lt_size e) I.ok.above))).trans e1⟩
  ·obtain ⟨o', e1⟩ := I.base.there b o e hx
   exact ⟨o', (hs.2 b (Nat.ne_of_lt (Nat.lt_of_lt_of_le (Heap.lt_size e) I.ok.above))).trans e1⟩
  ·by_cases hj : j = i
   ·subst hj
    rw [hi] at e1; cases e1
    rw [List.getElem?_set_self hiσ] at e2
    cases e2
    exact ⟨u, r, .inl ⟨hk, by simp⟩⟩
   ·rw [List.getElem?_set_ne (Ne.symm hj)] at e2
    obtain ⟨u', r', q⟩ := hl j y v' e1 e2 e3
    refine ⟨u', r', ?_⟩
    rcases q with ⟨k, e⟩ | ⟨k, c, e, z⟩
    ·refine .inl ⟨k, ?_⟩
     have : y ≠ x := fun e => hj (nodup_ix hN e1 (e ▸ hi))
     simp [this, e]
    ·exact .inr ⟨k, c, e, z.sameBut hs (cne y c e)⟩
  ·obtain ⟨w', z⟩ := I.cell y c e
   exact ⟨w', z.sameBut hs (cne y c e)⟩
  ·obtain ⟨e, n, ne, nf, d⟩ := I.pin p hp
   exact ⟨(hs.2 p.1 ne).trans e, n, ne, nf, d⟩
 ·have hfn : X.fn x = true := by
   rcases hf with z | z
   ·exact z
   ·rw [z] at hk; cases hk
  obtain ⟨c, hc⟩ := I.ok.has x (.inl hk)
  obtain ⟨w', z⟩ := I.cell x c hc
  refine wpAny_storeName_cell I.ok.kind hk hc z (fun h' hc' hs => ?_)
  obtain ⟨oc, hoc, hocd⟩ := id z
  refine h { s with heap := h' } ⟨I.ok, I.os, I.bare, ⟨fun b o e n hb hx => ?_, fun b o e n hb hx => ?_, I.base.free, fun b o e hx => ?_, I.base.tups, I.base.frzs, I.base.tbls⟩, ⟨m, hn.sameBut hs (Ne.symm (cne x c hc)), fun j y v' e1 e2 e3 => ?_⟩, fun y c' e => ?_, I.free, I.freeC, fun p hp => ?_, tracked ⟨oc, hoc, I.freeC x c hc⟩ hs, by simpa using I.len⟩ ⟨c, hs, .inr hc⟩
  ·exact (hs.2 b (Nat.ne_of_lt (Nat.lt_of_lt_of_le (Heap.lt_size e) (I.ok.cab x c hfn hc)))).trans (I.base.keep b o e n hb hx)
  ·obtain ⟨sl, e1⟩ := I.base.slot b o e n hb hx
   exact ⟨sl, (hs.2 b (Nat.ne_of_lt (Nat.lt_of_lt_of_le (Heap.lt_size e) (I.ok.cab x c hfn hc)))).trans e1⟩
  ·obtain ⟨o', e1⟩ := I.base.there b o e hx
   exact ⟨o', (hs.2 b (Nat.ne_of_lt (Nat.lt_of_lt_of_le (Heap.lt_size e) (I.ok.cab x c hfn hc)))).trans e1⟩
  ·by_cases hj : j = i
   ·subst hj
    rw [hi] at e1; cases e1
    rw [List.getElem?_set_self hiσ] at e2
    cases e2
    exact ⟨u, r, .inr ⟨.inl hk, c, hc, hc'⟩⟩
   ·rw [List.getElem?_set_ne (Ne.symm hj)] at e2
    obtain ⟨u', r', q⟩ := hl j y v' e1 e2 e3
    refine ⟨u', r', ?_⟩
    rcases q with q | ⟨k, c', e, z'⟩
    ·exact .inl q
    ·refine .inr ⟨k, c', e, z'.sameBut hs ?_⟩
     rintro rfl
     exact hj (nodup_ix hN e1 (I.ok.inj _ _ _ e hc ▸ hi))
  ·by_cases hcc : c' = c
   ·subst hcc; exact ⟨_, hc'⟩
   ·obtain ⟨w2, z2⟩ := I.cell y c' e
    exact ⟨w2, z2.sameBut hs hcc⟩
  ·obtain ⟨e, n, ne, nf, d⟩ := I.pin p hp
   refine ⟨(hs.2 p.1 ?_).trans e, n, ne, nf, d⟩
   intro q
   rw [q, hoc] at e
   have q' : oc = p.2 := Option.some.inj e
   exact d w' (by rw [← q']; exact hocd)
theorem store_ok {M : Model} {A : Around} {E : Value → Shared → Prop} {i : Nat} {x : Str} {v : V} {u : Value} {Q : Unit → Shared → Prop} (I : Inv X pins σ H s) (hN : X.N.Nodup) (hi : X.N[i]? = some x) (hx : Loc X.env.scope x) (r : RelV v u)
  (h : ∀ s', Inv X pins (σ.set i (some v)) H s' → Q () s') (hf : X.fn x = true ∨ X.env.scope.names.lookup x = some .local := by first | exact .inl rfl | exact .inr rfl | assumption) : wpAny M A (storeName X.env x u) Q E s :=
 store_ok2 I hN hi hx r (fun s' I' _ => h s' I') hf
theorem Inv.call' {s' : Shared} {ch : List Addr} (I : Inv X pins σ H s) (ho : s'.os = s.os) (u : Un (frs X.stack) ch H H' s.heap s'.heap) (hok : HOk X.prog X.w H' s'.heap) (hg : AllBare s'.gens)
  (hch : ∀ b ∈ ch, (b ∈ X.ex ∨ X.s₀.heap.objs.size ≤ b) ∧ b ≠ X.env.locals ∧ (∀ x c, X.env.cells.lookup x = some c → c ≠ b) ∧ ∀ p ∈ X.pn ++ pins, p.1 ≠ b) : Inv X pins σ H' s' := by
 obtain ⟨h', g', d', t', o'⟩ := s'
 have e : o' = s.os := ho
 subst e
 exact I.call (g' := g') (t' := t') (d' := d') u hok hg hch
end
abbrev XK := Value → Option Addr → Hp → Prop
abbrev St := List (Option V)
abbrev VK := V → Hp → Prop
abbrev TE := St → Hp → VK → Prop
abbrev TT := St → Hp → (Bool → Hp → Prop) → Prop
abbrev TA := St → Hp → (List V → Hp → Prop) → Prop
structure Ends where
 nx : St → Hp → Prop
 rt : VK
 bk : St → Hp → Prop := fun _ _ => False
 ct : St → Hp → Prop := fun _ _ => False
abbrev TS := Ends → St → Hp → Prop
def EP (X : Cx) (pins : List (Addr × Obj)) (σ : St) (Q : VK) (u : Value) (s' : Shared) : Prop := ∃ v H', Inv X pins σ H' s' ∧ RelV v u ∧ Q v H'
def TP (X : Cx) (pins : List (Addr × Obj)) (σ : St) (Q : Bool → Hp → Prop) (b : Bool) (s' : Shared) : Prop := ∃ H', Inv X pins σ H' s' ∧ Q b H'
def AP (X : Cx) (pins : List (Addr × Obj)) (σ : St) (Q : List V → Hp → Prop) (us : List Value) (s' : Shared) : Prop := ∃ vs H', Inv X pins σ H' s' ∧ Vals vs us ∧ Q vs H'
def SP (X : Cx) (pins : List (Addr × Obj)) (D : Ends) (f : Flow) (s' : Shared) : Prop :=
 match f with
 | .next => ∃ σ' H', Inv X pins σ' H' s' ∧ D.nx σ' H'
 | .brk => ∃ σ' H', Inv X pins σ' H' s' ∧ D.bk σ' H'
 | .cont => ∃ σ' H', Inv X pins σ' H' s' ∧ D.ct σ' H'
 | .ret u => ∃ v σ' H', Inv X pins σ' H' s' ∧ RelV v u ∧ D.rt v H'
def PE (X : Cx) (e : Expr) (t : TE) : Prop :=
 ∀ (pins : List (Addr × Obj)) (s : Shared) (σ : St) (H : Hp) (Q : VK), Inv X pins σ H s → t σ H Q → wpAny (model X.prog X.w) X.A (eval e X.env) (EP X pins σ Q) X.xe s
def PT (X : Cx) (e : Expr) (t : TT) : Prop :=
 ∀ (pins : List (Addr × Obj)) (s : Shared) (σ : St) (H : Hp) (Q : Bool → Hp → Prop), Inv X pins σ H s → t σ H Q → wpAny (model X.prog X.w) X.A (isTrue e X.env (eval e X.env)) (TP X pins σ Q) X.xe s
def PW (X : Cx) (e : Expr) (t : TT) : Prop :=
 ∀ (whole : Sem Value) (pins : List (Addr × Obj)) (s : Shared) (σ : St) (H : Hp) (Q : Bool → Hp → Prop), Inv X pins σ H s → t σ H Q → wpAny (model X.prog X.w) X.A (isTrue e X.env whole) (TP X pins σ Q) X.xe s
theorem PW.pt {X : Cx} {e : Expr} {t : TT} (h : PW X e t) : PT X e t := h _
def PA (X : Cx) (es : List Expr) (t : TA) : Prop :=
 ∀ (pos : Pos) (pins : List (Addr × Obj)) (s : Shared) (σ : St) (H : Hp) (Q : List V → Hp → Prop), Inv X pins σ H s → t σ H Q → wpAny (model X.prog X.w) X.A (spliced (backTo pos (starEach es X.env))) (AP X pins σ Q) X.xe s
def PS (X : Cx) (st : Stmt) (t : TS) : Prop :=
 ∀ (pins : List (Addr × Obj)) (s : Shared) (σ : St) (H : Hp) (D : Ends), Inv X pins σ H s → t D σ H → wpAny (model X.prog X.w) X.A (exec st X.env) (SP X pins D) X.xe s
def PSs (X : Cx) (st : List Stmt) (t : TS) : Prop :=
 ∀ (pins : List (Addr × Obj)) (s : Shared) (σ : St) (H : Hp) (D : Ends), Inv X pins σ H s → t D σ H → wpAny (model X.prog X.w) X.A (execs st X.env) (SP X pins D) X.xe s
theorem thn {α : Type} {t : Sem α} {Q Q' : α → Shared → Prop} {M : Model} {A : Around} {E : Value → Shared → Prop} {s : Shared} (h : wpAny M A t Q E s) (hQ : ∀ a s, Q a s → Q' a s) : wpAny M A t Q' E s := wpAny_mono h hQ fun _ _ x => x
end L2
namespace L2
open PySem PySem.Spec PyProof.Rows
section
variable {X : Cx}
theorem bin {a b : Expr} {ta tb : TE} (ha : PE X a ta) (hb : PE X b tb) {pins : List (Addr × Obj)} {s : Shared} {σ : St} {H : Hp} {R : V → V → Hp → Prop} (I : Inv X pins σ H s) (h : ta σ H fun x H1 => tb σ H1 fun y H2 => R x y H2)
  {α : Type} {Q : α → Shared → Prop} {f : Value → Value → Sem α}
  (hf : ∀ v u s2 x y H2, Inv X pins σ H2 s2 → RelV x v → RelV y u → R x y H2 → wpAny (model X.prog X.w) X.A (f v u) Q X.xe s2) :
  wpAny (model X.prog X.w) X.A (eval a X.env) (fun v s₁ => wpAny (model X.prog X.w) X.A (eval b X.env) (fun u s₂ => wpAny (model X.prog X.w) X.A (f v u) Q X.xe s₂) X.xe s₁) X.xe s := by
 refine thn (ha pins s σ H _ I h) fun v s1 ⟨x, H1, I1, r1, q1⟩ => ?_
 refine thn (hb pins s1 σ H1 _ I1 q1) fun u s2 ⟨y, H2, I2, r2, q2⟩ => ?_
 exact hf v u s2 x y H2 I2 r1 r2 q2
def tVar (i : Nat) : TE := fun σ H Q => ∃ v, σ[i]? = some (some v) ∧ Q v H
def tC (v : V) : TE := fun _ H Q => Q v H
theorem pe_var {i : Nat} {x : Str} {pos : Pos} (hN : X.N[i]? = some x) (hv : Vis X.env.scope x) (hd : (x == ("__debug__" : Str)) = false := by decide) (hcd : (x == ("__classdict__" : Str)) = false := by decide) : PE X (.Name x pos) (tVar i) := by
 intro pins s σ H Q I h
 obtain ⟨v, e, h⟩ := h
 obtain ⟨m, hn, hl⟩ := I.loc
 obtain ⟨u, r, l⟩ := hl i x v hN e hv
 have fin : EP X pins σ Q u s := ⟨v, H, I, r, h⟩
 rcases l with ⟨hk, hm⟩ | ⟨hk, c, hc, hcell⟩
 ·exact wpAny_Name (wpAny_loadName_local I.ok.kind hk hn hm fin) hd
 ·rcases hk with hk | hk
  ·exact wpAny_Name (wpAny_loadName_cell I.ok.kind hk hc hcell fin) hd
  ·exact wpAny_Name (wpAny_loadName_free I.ok.kind hk hc hcell fin hcd) hd
theorem pe_int {i j pos} : PE X (.Constant (.int i) j pos) (tC (.int i)) := fun _ _ _ H _ I h => wpAny_Constant_int ⟨.int i, H, I.tok _, ⟨_, rfl⟩, h⟩
theorem pe_bl {b j pos} : PE X (.Constant (.bool b) j pos) (tC (.bl b)) := fun _ _ _ H _ I h => Constant_bool ⟨.bl b, H, I, rfl, h⟩
theorem pe_non {j pos} : PE X (.Constant .none j pos) (tC .non) := fun _ _ _ H _ I h => Constant_none ⟨.non, H, I, rfl, h⟩
theorem pe_str {x j pos} : PE X (.Constant (.str x) j pos) (tC (.str x)) := fun _ _ _ H _ I h => Calls.Constant_str ⟨.str x, H, I.tok _, ⟨_, rfl⟩, h⟩
def Gl (X : Cx) (x : Str) : Prop := X.env.kindOf x = some .globalImplicit
theorem ld_glob {E : Value → Shared → Prop} {pins : List (Addr × Obj)} {s : Shared} {σ : St} {H : Hp} {x : Str} {u : Value} {pos : Pos} {Q : Value → Shared → Prop} (I : Inv X pins σ H s) (hg : Gl X x) (hm : X.mg x = some u) (h : Q u s)
  (hd : (x == ("__debug__" : Str)) = false := by decide) : wpAny (model X.prog X.w) X.A (eval (.Name x pos) X.env) Q E s :=
 Calls.Name_function_global I.ok.kind hg (Calls.loadGlobal_global (by rw [I.ok.glob]; exact I.mod.glob.keeps I.bk) hm h) hd
theorem ld_blt {E : Value → Shared → Prop} {pins : List (Addr × Obj)} {s : Shared} {σ : St} {H : Hp} {x : Str} {u : Value} {pos : Pos} {Q : Value → Shared → Prop} (I : Inv X pins σ H s) (hg : Gl X x) (hm : X.mg x = none) (hv : bootBuiltins x = some u) (h : Q u s)
  (hn : x ≠ "__name__" := by decide) (hd : (x == ("__debug__" : Str)) = false := by decide) : wpAny (model X.prog X.w) X.A (eval (.Name x pos) X.env) Q E s := by
 obtain ⟨mb, h1, h2⟩ := I.mod.blt
 exact Calls.Name_function_global I.ok.kind hg (Calls.loadGlobal_builtin (by rw [I.ok.glob]; exact I.mod.glob.keeps I.bk) hm (by rw [I.ok.blt]; exact h1.keeps I.bk) ((h2 x hn).trans hv) h) hd
theorem pe_glob {x : Str} {v : V} {u : Value} {pos : Pos} (hg : Gl X x) (hm : X.mg x = some u) (r : RelV v u) (hd : (x == ("__debug__" : Str)) = false := by decide) : PE X (.Name x pos) (tC v) :=
 fun _ _ _ H _ I h => ld_glob I hg hm ⟨v, H, I, r, h⟩ hd
theorem pe_bltn {x : Str} {v : V} {u : Value} {pos : Pos} (hg : Gl X x) (hm : X.mg x = none) (hv : bootBuiltins x = some u) (r : RelV v u) (hn : x ≠ "__name__" := by decide) (hd : (x == ("__debug__" : Str)) = false := by decide) : PE X (.Name x pos) (tC v) :=
 fun _ _ _ H _ I h => ld_blt I hg hm hv ⟨v, H, I, r, h⟩ hn hd
variable {a b : Expr} {ta tb : TE} {pos : Pos}
variable {tA tB' : TT} {rest : List Expr}
def tAnd (t u : TT) : TT := fun σ H Q => t σ H fun c H1 => if c = true then u σ H1 Q else Q false H1
def tOr (t u : TT) : TT := fun σ H Q => t σ H fun c H1 => if c = true then Q true H1 else u σ H1 Q
def tNot (t : TT) : TT := fun σ H Q => t σ H fun c H1 => Q (!c) H1
theorem pw_and1 (ha : PT X a tA) : PW X (.BoolOp .And [a] pos) tA := by
 intro wh pins s σ H Q I h
 refine isTrue_and (thn (ha pins s σ H Q I h) fun c s1 e => ?_)
 cases c with
 | true => exact isTrue_and_nil e
 | false => exact e
theorem pw_or1 (ha : PT X a tA) : PW X (.BoolOp .Or [a] pos) tA := by
 intro wh pins s σ H Q I h
 refine isTrue_or (thn (ha pins s σ H Q I h) fun c s1 e => ?_)
 cases c with
 | false => exact isTrue_or_nil e
 | true => exact e
theorem pw_and (ha : PT X a tA) (hb : PW X (.BoolOp .And (b :: rest) pos) tB') : PW X (.BoolOp .And (a :: b :: rest) pos) (tAnd tA tB') := by
 intro wh pins s σ H Q I h
 refine isTrue_and (thn (ha pins s σ H _ I h) fun c s1 ⟨H1, I1, q1⟩ => ?_)
 cases c with
 | true => exact hb wh pins s1 σ H1 Q I1 q1
 | false => exact ⟨H1, I1, q1⟩
theorem pw_or (ha : PT X a tA) (hb : PW X (.BoolOp .Or (b :: rest) pos) tB') : PW X (.BoolOp .Or (a :: b :: rest) pos) (tOr tA tB') := by
 intro wh pins s σ H Q I h
 refine isTrue_or (thn (ha pins s σ H _ I h) fun c s1 ⟨H1, I1, q1⟩ => ?_)
 cases c with
 | true => exact ⟨H1, I1, q1⟩
 | false => exact hb wh pins s1 σ H1 Q I1 q1
theorem pt_not (ha : PT X a tA) : PT X (.UnaryOp .Not a pos) (tNot tA) := by
 intro pins s σ H Q I h
 exact isTrue_not (ha pins s σ H (fun c H1 => Q (!c) H1) I h)
def tAndV (ta tb : TE) : TE := fun σ H Q => ta σ H fun x H1 => ∃ c, x = .bl c ∧ if c = true then tb σ H1 Q else Q (.bl false) H1
def tOrV (ta tb : TE) : TE := fun σ H Q => ta σ H fun x H1 => ∃ c, x = .bl c ∧ if c = true then Q (.bl true) H1 else tb σ H1 Q
def tNotV (ta : TE) : TE := fun σ H Q => ta σ H fun x H1 => ∃ c, x = .bl c ∧ Q (.bl (!c)) H1
theorem pe_one {op} {t : TE} (h : PE X a t) : PE X (.BoolOp op [a] pos) t := fun pins s σ H Q I hw => BoolOp_one (h pins s σ H Q I hw)
theorem pe_and (ha : PE X a ta) (hb : PE X (.BoolOp .And (b :: rest) pos) tb) : PE X (.BoolOp .And (a :: b :: rest) pos) (tAndV ta tb) := by
 intro pins s σ H Q I h
 refine BoolOp_and (thn (ha pins s σ H _ I h) fun v s1 ⟨x, H1, I1, r1, q1⟩ => ?_)
 obtain ⟨c, rfl, q1⟩ := q1
 cases r1
 refine wpAny_truthy_bool ?_
 cases c with
 | true => exact hb pins s1 σ H1 Q I1 q1
 | false => exact ⟨.bl false, H1, I1, rfl, q1⟩
theorem pe_or (ha : PE X a ta) (hb : PE X (.BoolOp .Or (b :: rest) pos) tb) : PE X (.BoolOp .Or (a :: b :: rest) pos) (tOrV ta tb) := by
 intro pins s σ H Q I h
 refine BoolOp_or (thn (ha pins s σ H _ I h) fun v s1 ⟨x, H1, I1, r1, q1⟩ => ?_)
 obtain ⟨c, rfl, q1⟩ := q1
 cases r1
 refine wpAny_truthy_bool ?_
 cases c with
 | false => exact hb pins s1 σ H1 Q I1 q1
 | true => exact ⟨.bl true, H1, I1, rfl, q1⟩
theorem pe_not (ha : PE X a ta) : PE X (.UnaryOp .Not a pos) (tNotV ta) := by
 intro pins s σ H Q I h
 refine UnaryOp_ (thn (ha pins s σ H _ I h) fun v s1 ⟨x, H1, I1, r1, q1⟩ => ?_)
 obtain ⟨c, rfl, q1⟩ := q1
 cases r1
 exact not_of (wpAny_truthy_bool ⟨.bl (!c), H1, I1, rfl, q1⟩)
def tIf (t : TT) (ta tb : TE) : TE := fun σ H Q => t σ H fun c H1 => if c = true then ta σ H1 Q else tb σ H1 Q
theorem pe_ifExp {c : Expr} (hc : PT X c tA) (ha : PE X a ta) (hb : PE X b tb) : PE X (.IfExp c a b pos) (tIf tA ta tb) := by
 intro pins s σ H Q I h
 refine wpAny_IfExp (thn (hc pins s σ H _ I h) fun d s1 ⟨H1, I1, q1⟩ => ?_)
 cases d with
 | true => exact ha pins s1 σ H1 Q I1 q1
 | false => exact hb pins s1 σ H1 Q I1 q1
end
end L2
namespace L2
open PySem PySem.Spec PyProof.Rows
def SqL (K : PySem.W.Frag) (H : Hp) (a : Addr) (xs : List V) : Prop :=
 Rd H a (.lst xs) ∨
  ∃ (o : Obj) (its : Array Value) (n : Nat), K.lookup a = some o ∧ o.cls = .type "list" ∧ o.dict = none ∧ o.data = .seq its n ∧ its.size ≤ sizeLine ∧ Vals xs its.toList
def SqT (K : PySem.W.Frag) (H : Hp) (a : Addr) (xs : List V) : Prop :=
 Rd H a (.tup xs) ∨
  ∃ (o : Obj) (its : Array Value) (n : Nat), K.lookup a = some o ∧ o.cls = .type "tuple" ∧ o.data = .seq its n ∧ its.size ≤ sizeLine ∧ Vals xs its.toList
def absV : Value → Option V
 | .none => some .non
 | .bool b => some (.bl b)
 | .int i _ => some (.int i)
 | .str x _ => some (.str x)
 | .bytes b _ => some (.byt b)
 | .float b _ => some (.flt b)
 | .ref a => some (.ref a)
 | .type n => some (.ty n)
 | _ => none
theorem RelV.abs {x : V} {u : Value} (r : RelV x u) : absV u = some x := by
 cases x with
 | non => cases r; rfl
 | bl _ => cases r; rfl
 | int _ => obtain ⟨t, rfl⟩ := r; rfl
 | str _ => obtain ⟨t, rfl⟩ := r; rfl
 | byt _ => obtain ⟨t, rfl⟩ := r; rfl
 | flt _ => obtain ⟨t, rfl⟩ := r; rfl
 | ref _ => cases r; rfl
 | ty _ => cases r; rfl
theorem RelV.inj {x y : V} {u : Value} (r : RelV x u) (q : RelV y u) : x = y := Option.some.inj (r.abs.symm.trans q.abs)
theorem Vals.inj : ∀ {xs ys : List V} {us : List Value}, Vals xs us → Vals ys us → xs = ys
 | _, _, _, .nil, .nil => rfl
 | _, _, _, .cons r t, .cons r' t' => by rw [r.inj r', Vals.inj t t']
section
variable {X : Cx} {pins : List (Addr × Obj)} {σ : St} {H : Hp} {s : Shared} {a : Addr} {xs ys : List V}
theorem SqL.of {K : PySem.W.Frag} (h : H a = some (.lst xs)) : SqL K H a xs := .inl (.inl h)
theorem SqT.of {K : PySem.W.Frag} (h : H a = some (.tup xs)) : SqT K H a xs := .inl (.inl h)
theorem Inv.list (I : Inv X pins σ H s) (h : SqL X.K H a xs) : ∃ its : List Value, Vals xs its ∧ PlainL s.heap a its.toArray ∧ xs.length ≤ sizeLine := by
 rcases h with h | ⟨o, its, n, hk, hc, hd, hs, hz, r⟩
 ·obtain ⟨z, its, n, r, e⟩ := h.ok I.hok
  exact ⟨its, r, ⟨_, n, e, rfl, rfl, rfl⟩, z⟩
 ·refine ⟨its.toList, r, ⟨o, n, I.kIn a o hk, hc, hd, by simpa using hs⟩, ?_⟩
  have e := r.length
  simp only [Array.length_toList] at e
  omega
theorem Inv.tuple (I : Inv X pins σ H s) (h : SqT X.K H a xs) : ∃ its : List Value, Vals xs its ∧ IsTup s.heap a its.toArray ∧ xs.length ≤ sizeLine := by
 rcases h with h | ⟨o, its, n, hk, hc, hs, hz, r⟩
 ·obtain ⟨z, its, r, p⟩ := h.ok I.hok
  exact ⟨its, r, p, z⟩
 ·refine ⟨its.toList, r, ⟨o, I.kIn a o hk, hc, n, by simpa using hs⟩, ?_⟩
  have e := r.length
  simp only [Array.length_toList] at e
  omega
theorem Inv.list_inj (I : Inv X pins σ H s) (h : SqL X.K H a xs) (h' : SqL X.K H a ys) : xs = ys := by
 obtain ⟨its, r, ⟨o, n, e, _, _, d⟩, _⟩ := I.list h
 obtain ⟨its', r', ⟨o', n', e', _, _, d'⟩, _⟩ := I.list h'
 rw [e] at e'; cases e'
 rw [d] at d'
 injection d' with d1 _
 have : its = its' := by simpa using congrArg Array.toList d1
 subst this
 exact r.inj r'
theorem Inv.tuple_inj (I : Inv X pins σ H s) (h : SqT X.K H a xs) (h' : SqT X.K H a ys) : xs = ys := by
 obtain ⟨its, r, ⟨o, e, _, n, d⟩, _⟩ := I.tuple h
 obtain ⟨its', r', ⟨o', e', _, n', d'⟩, _⟩ := I.tuple h'
 rw [e] at e'; cases e'
 rw [d] at d'
 injection d' with d1 _
 have : its = its' := by simpa using congrArg Array.toList d1
 subst this
 exact r.inj r'
end
abbrev Cx.wish (X : Cx) (E : Value → Shared → Prop) : Cx := { X with xe := E }
abbrev Cx.nox (X : Cx) : Cx := X.wish fun _ _ => False
theorem Cx.Ok.wish {X : Cx} (ok : X.Ok) (E : Value → Shared → Prop) : (X.wish E).Ok :=
 ⟨ok.mod, ok.kind, ok.glob, ok.blt, ok.above, ok.inj, ok.has, ok.cab, ok.hd, ok.frames, ok.stk, ok.exf, ok.bs, ok.bsz, ok.noex, ok.exfs, ok.funs, ok.frf⟩
theorem Cx.Ok.unwish {X : Cx} {E : Value → Shared → Prop} (ok : (X.wish E).Ok) : X.Ok :=
 ⟨ok.mod, ok.kind, ok.glob, ok.blt, ok.above, ok.inj, ok.has, ok.cab, ok.hd, ok.frames, ok.stk, ok.exf, ok.bs, ok.bsz, ok.noex, ok.exfs, ok.funs, ok.frf⟩
section
variable {X : Cx} {pins : List (Addr × Obj)} {σ : St} {H : Hp} {s : Shared} {E : Value → Shared → Prop}
theorem Inv.wish (I : Inv X pins σ H s) (E : Value → Shared → Prop) : Inv (X.wish E) pins σ H s := ⟨I.ok.wish E, I.os, I.bare, I.base, I.loc, I.cell, I.free, I.freeC, I.pin, I.hok, I.len⟩
theorem Inv.unwish (I : Inv (X.wish E) pins σ H s) : Inv X pins σ H s := ⟨I.ok.unwish, I.os, I.bare, I.base, I.loc, I.cell, I.free, I.freeC, I.pin, I.hok, I.len⟩
theorem SP.unwish {D : Ends} {f : Flow} {s' : Shared} (h : SP (X.wish E) pins D f s') : SP X pins D f s' := by
 cases f with
 | next => obtain ⟨σ', H', I, q⟩ := h; exact ⟨σ', H', I.unwish, q⟩
 | brk => obtain ⟨σ', H', I, q⟩ := h; exact ⟨σ', H', I.unwish, q⟩
 | cont => obtain ⟨σ', H', I, q⟩ := h; exact ⟨σ', H', I.unwish, q⟩
 | ret u => obtain ⟨v, σ', H', I, r, q⟩ := h; exact ⟨v, σ', H', I.unwish, r, q⟩
theorem PSs.nox {st : List Stmt} {t : TS} (h : PSs X.nox st t) : PSs X st t := fun pins s σ H D I hw =>
 wpAny_mono (h pins s σ H D (I.wish _) hw) (fun _ _ q => q.unwish) fun _ _ z => False.elim z
end
section
variable {X : Cx} {st : Stmt} {rest : List Stmt} {t u : TS} {e : Expr} {te : TE} {pos : Pos}
def tNext : TS := fun D σ H => D.nx σ H
def tSeq (t u : TS) : TS := fun D σ H => t { D with nx := u D } σ H
theorem pss_nil : PSs X [] tNext := fun _ _ σ H _ I h => wpAny_execs_nil ⟨σ, H, I, h⟩
theorem pss_cons (h1 : PS X st t) (h2 : PSs X rest u) : PSs X (st :: rest) (tSeq t u) := by
 intro pins s σ H D I h
 refine wpAny_execs_cons (thn (h1 pins s σ H { D with nx := u D } I h) fun f s1 q => ?_)
 cases f with
 | next =>
  obtain ⟨σ', H', I', q⟩ := q
  exact h2 pins s1 σ' H' D I' q
 | ret v => exact q
 | brk => exact q
 | cont => exact q
theorem pss_one (h1 : PS X st t) : PSs X [st] t := by
 intro pins s σ H D I h
 refine wpAny_execs_cons (thn (h1 pins s σ H D I h) fun f s1 q => ?_)
 cases f with
 | next => exact wpAny_execs_nil q
 | ret v => exact q
 | brk => exact q
 | cont => exact q
def tBreak : TS := fun D σ H => D.bk σ H
def tCont : TS := fun D σ H => D.ct σ H
theorem ps_pass : PS X (.Pass pos) tNext := fun _ _ σ H _ I h => wpAny_Pass ⟨σ, H, I, h⟩
theorem ps_break : PS X (.Break pos) tBreak := fun _ _ σ H _ I h => wpAny_Break ⟨σ, H, I, h⟩
theorem ps_continue : PS X (.Continue pos) tCont := fun _ _ σ H _ I h => wpAny_Continue ⟨σ, H, I, h⟩
theorem Inv.quiet {pins : List (Addr × Obj)} {σ : St} {H : Hp} {s : Shared} (I : Inv X pins σ H s) : interactive X.env = false := by simp [interactive, I.ok.kind]
def tDrop (te : TE) : TS := fun D σ H => te σ H fun _ H1 => D.nx σ H1
theorem ps_expr (he : PE X e te) (hs : swapsWith e none pos.line X.env = pure false := by rfl) : PS X (.Expr e pos) (tDrop te) := by
 intro pins s σ H D I h
 exact wpAny_Expr_any (thn (he pins s σ H _ I h) fun v s1 ⟨x, H1, I1, r1, q1⟩ => ⟨σ, H1, I1, q1⟩) I.quiet hs
def tRet (te : TE) : TS := fun D σ H => te σ H D.rt
theorem ps_ret (he : PE X e te) : PS X (.Return (some e) pos) (tRet te) := by
 intro pins s σ H D I h
 exact wpAny_Return_some (thn (he pins s σ H _ I h) fun v s1 ⟨x, H1, I1, r1, q1⟩ => ⟨x, σ, H1, I1, r1, q1⟩)
def tIfS (c : TT) (t u : TS) : TS := fun D σ H => c σ H fun b H1 => if b = true then t D σ H1 else u D σ H1
theorem ps_if {c : Expr} {a b : List Stmt} {tc : TT} (hc : PT X c tc) (ha : PSs X a t) (hb : PSs X b u) : PS X (.If c a b pos) (tIfS tc t u) := by
 intro pins s σ H D I h
 refine wpAny_If (thn (hc pins s σ H _ I h) fun d s1 ⟨H1, I1, q1⟩ => ?_)
 cases d with
 | true => exact ha pins s1 σ H1 D I1 q1
 | false => exact hb pins s1 σ H1 D I1 q1
def tNever : TS := fun _ _ _ => False
theorem pss_never {sts : List Stmt} : PSs X sts tNever := fun _ _ _ _ _ _ h => h.elim
end
abbrev TG := V → St → Hp → (St → Hp → Prop) → Prop
abbrev TGs := List V → St → Hp → (St → Hp → Prop) → Prop
def PG (X : Cx) (target : Expr) (t : TG) : Prop :=
 ∀ (pins : List (Addr × Obj)) (s : Shared) (σ : St) (H : Hp) (v : V) (u : Value) (Q : St → Hp → Prop), Inv X pins σ H s → RelV v u → t v σ H Q →
  wpAny (model X.prog X.w) X.A (assign target X.env u) (fun _ s' => ∃ σ' H', Inv X pins σ' H' s' ∧ Q σ' H') X.xe s
def PGs (X : Cx) (ts : List Expr) (t : TGs) : Prop :=
 ∀ (pins : List (Addr × Obj)) (s : Shared) (σ : St) (H : Hp) (vs : List V) (us : List Value) (Q : St → Hp → Prop), Inv X pins σ H s → Vals vs us → t vs σ H Q →
  wpAny (model X.prog X.w) X.A (assignInOrder ((assignEach ts X.env).map (·.2)) us) (fun _ s' => ∃ σ' H', Inv X pins σ' H' s' ∧ Q σ' H') X.xe s
section
variable {X : Cx} {pos : Pos}
def gName (i : Nat) : TG := fun v σ H Q => Q (σ.set i (some v)) H
theorem pg_name {i : Nat} {x : Str} (hN : X.N.Nodup) (hi : X.N[i]? = some x) (hx : Loc X.env.scope x) (hf : X.fn x = true ∨ X.env.scope.names.lookup x = some .local := by first | exact .inl rfl | exact .inr rfl | assumption) : PG X (.Name x pos) (gName i) := by
 intro pins s σ H v u Q I r h
 exact wpAny_assign_Name (store_ok I hN hi hx r (fun s' I' => ⟨_, H, I', h⟩) hf)
def gNil : TGs := fun vs σ H Q => vs = [] ∧ Q σ H
def gCons (t : TG) (u : TGs) : TGs := fun vs σ H Q => ∃ v r, vs = v :: r ∧ t v σ H fun σ' H' => u r σ' H' Q
theorem pgs_nil : PGs X [] gNil := by
 intro pins s σ H vs us Q I r h
 obtain ⟨e, h⟩ := h
 subst e
 cases r
 exact assignInOrder_nil ⟨σ, H, I, h⟩
theorem pgs_cons {e : Expr} {es : List Expr} {t : TG} {u : TGs} (h1 : PG X e t) (h2 : PGs X es u)
  (hs : (assignEach (e :: es) X.env).map (·.2) = assign e X.env :: (assignEach es X.env).map (·.2) := by rfl) : PGs X (e :: es) (gCons t u) := by
 intro pins s σ H vs us Q I r h
 obtain ⟨v, vr, e1, h⟩ := h
 subst e1
 cases r with
 | cons r rr =>
  rw [hs]
  refine assignInOrder_cons (thn (h1 pins s σ H _ _ _ I r h) fun _ s1 ⟨σ1, H1, I1, q1⟩ => ?_)
  exact h2 pins s1 σ1 H1 _ _ Q I1 rr q1
def gTup (K : PySem.W.Frag) (n : Nat) (t : TGs) : TG := fun v σ H Q => ∃ a xs, v = .ref a ∧ SqT K H a xs ∧ xs.length = n ∧ t xs σ H Q
theorem pg_tup {es : List Expr} {k : Nat} {t : TGs} {n : Nat} (hc : X.calm = true) (h : PGs X es t)
  (hn : (assignEach es X.env).length = n := by rfl) (hst : (assignEach es X.env).findIdx? (·.1) = none := by rfl) : PG X (.Tuple es k pos) (gTup X.K n t) := by
 intro pins s σ H v u Q I r hw
 obtain ⟨a, xs, e1, hq, hl, hw⟩ := hw
 subst e1
 cases r
 obtain ⟨its, rv, ht, hz⟩ := I.tuple hq
 refine assign_Tuple_tuple (I.ok.hd hc) ht (by simp [hn, ← hl, rv.length]) hst fun h' hx => ?_
 have I1 : Inv X pins σ H { s with heap := h' } := I.kept (t' := s.toks) fun b o e => hx b o (Nat.ne_of_lt (Heap.lt_size e)) e
 exact h pins _ σ H xs _ Q I1 (by simpa using rv) hw
def tAsg (te : TE) (g : TG) : TS := fun D σ H => te σ H fun x H1 => g x σ H1 D.nx
theorem ps_asg {tg e : Expr} {te : TE} {g : TG} (he : PE X e te) (hg : PG X tg g) (hs : swapsWithSole [tg] e pos.line X.env = pure false := by rfl) (hw : swappedStores [tg] e X.env = pure none := by rfl)
  (h1 : (assignEach [tg] X.env).map (·.2) = [assign tg X.env] := by rfl) : PS X (.Assign [tg] e pos) (tAsg te g) := by
 intro pins s σ H D I h
 refine wpAny_Assign_stores (thn (he pins s σ H _ I h) fun v s1 ⟨x, H1, I1, r1, q1⟩ => ?_) hs hw
 rw [h1]
 exact thn (hg pins s1 σ H1 x v _ I1 r1 q1) fun _ s2 q => q
theorem ps_set {i : Nat} {x : Str} {e : Expr} {te : TE} {pos' : Pos} (hN : X.N.Nodup) (hi : X.N[i]? = some x) (hx : Loc X.env.scope x) (he : PE X e te) (hs : swapsWith e (some (.Name x pos')) pos.line X.env = pure false := by rfl) (hf : X.fn x = true ∨ X.env.scope.names.lookup x = some .local := by first | exact .inl rfl | exact .inr rfl | assumption) :
  PS X (.Assign [.Name x pos'] e pos) (tAsg te (gName i)) := by
 intro pins s σ H D I h
 refine wpAny_Assign_Name (thn (he pins s σ H _ I h) fun v s1 ⟨y, H1, I1, r1, q1⟩ => ?_) hs
 exact store_ok I1 hN hi hx r1 (fun s2 I2 => ⟨_, H1, I2, q1⟩) hf
def tPar (i j : Nat) (ta : TA) : TS := fun D σ H => ta σ H fun vs H1 => ∃ v w, vs = [v, w] ∧ D.nx ((σ.set i (some v)).set j (some w)) H1
theorem ps_par {i j : Nat} {x y : Str} {a b : Expr} {ta : TA} {px py pt : Pos} {kt k2 pt2} (hc : X.calm = true) (hN : X.N.Nodup) (hi : X.N[i]? = some x) (hj : X.N[j]? = some y) (hij : i ≠ j)
  (hx : X.env.scope.names.lookup x = some .local) (hy : X.env.scope.names.lookup y = some .local) (ha : PA X [a, b] ta)
  (hw : swappedStores [.Tuple [.Name x px, .Name y py] kt pt] (.Tuple [a, b] k2 pt2) X.env = pure (some [x, y]))
  (hs : swapsWithSole [.Tuple [.Name x px, .Name y py] kt pt] (.Tuple [a, b] k2 pt2) pos.line X.env = pure false := by rfl) :
  PS X (.Assign [.Tuple [.Name x px, .Name y py] kt pt] (.Tuple [a, b] k2 pt2) pos) (tPar i j ta) := by
 intro pins s σ H D I h
 rw [exec_Assign_arm]
 refine wpAny_bind (wpAny_standAt ?_)
 rw [hs]
 refine wpAny_bind (wpAny_pure ?_)
 rw [if_neg (by decide)]
 refine wpAny_bind (Tuple_ (thn (ha _ pins s σ H _ I h) fun us s1 ⟨vs, H1, I1, r1, q1⟩ => ?_))
 obtain ⟨v, w, e1, q1⟩ := q1
 subst e1
 obtain ⟨u1, u2, rfl, rv, rw'⟩ : ∃ u1 u2, us = [u1, u2] ∧ RelV v u1 ∧ RelV w u2 := by
  cases r1 with
  | cons p q =>
   cases q with
   | cons p' q' =>
    cases q'
    exact ⟨_, _, rfl, p, p'⟩
 refine wpAny_newObj_type ?_ (by show 2 ≤ sizeLine; decide)
 have I2 : Inv X pins σ H1 { s1 with heap := s1.heap.push { cls := .type "tuple", data := .seq [u1, u2].toArray } } := I1.kept (t' := s1.toks) fun b o e => Heap.get?_push_of_some _ e
 rw [hw]
 refine wpAny_bind (wpAny_pure ?_)
 show wpAny (model X.prog X.w) X.A (do rule "assign.swapped-stores"; let items ← unpackItems (.ref s1.heap.objs.size) 2 none; assignInOrder [fun v => bindName X.env y v, fun v => bindName X.env x v] items.reverse; pure Flow.next) _ _ _
 refine wpAny_bind (wpAny_rule (wpAny_bind (unpackItems_tuple (items := #[u1, u2]) (I.ok.hd hc) (IsTup.new s1.heap _) fun h' hx' => ?_)))
 have I3 := I2.kept (h' := h') (t' := s1.toks) fun b o e => hx' b o (Nat.ne_of_lt (Heap.lt_size e)) e
 show wpAny _ _ (assignInOrder [fun v => bindName X.env y v, fun v => bindName X.env x v] [u2, u1] >>= fun _ => pure Flow.next) _ _ _
 refine wpAny_bind (assignInOrder_cons (wpAny_bindName (store_ok I3 hN hj (.inl hy) rw' (fun s2 I4 => ?_) (.inr hy))))
 refine assignInOrder_cons (wpAny_bindName (store_ok I4 hN hi (.inl hx) rv (fun s3 I5 => assignInOrder_nil (wpAny_pure ?_)) (.inr hx)))
 rw [List.set_comm _ _ (Ne.symm hij)] at I5
 exact ⟨_, H1, I5, q1⟩
end
section
variable {X : Cx} {pos : Pos}
def tWhile (c : TT) (tb : TS) : TS := fun D σ H => ∃ W : Nat → St → Hp → Prop, (∃ m, W m σ H) ∧ ∀ m σ H, W m σ H →
 c σ H fun b H1 => if b = true then ∃ N : St → Hp → Prop, (∀ σ' H', N σ' H' → ∃ m', m' < m ∧ W m' σ' H') ∧ tb { D with nx := N, ct := N, bk := D.nx } σ H1 else D.nx σ H1
theorem ps_while {c : Expr} {body : List Stmt} {tc : TT} {tb : TS} (hp : PassesOwn (model X.prog X.w) X.A X.env X.xe) (hc : PT X c tc) (hb : PSs X body tb) : PS X (.While c body [] pos) (tWhile tc tb) := by
 intro pins s σ H D I h
 obtain ⟨W, ⟨m0, w0⟩, turn⟩ := h
 refine wpAny_While (codeAny_whileLoop (fun n s' => ∃ σ' H', Inv X pins σ' H' s' ∧ W n σ' H') ?_ m0 ⟨σ, H, I, w0⟩)
 rintro n s1 ⟨σ1, H1, I1, w1⟩
 refine wpAny_passesOwn hp (thn (hc pins s1 σ1 H1 _ I1 (turn n σ1 H1 w1)) fun b s2 ⟨H2, I2, q2⟩ => ?_)
 cases b with
 | true =>
  obtain ⟨N, hN, q2⟩ := q2
  rw [if_pos rfl]
  refine wpAny_passesOwn hp (thn (hb pins s2 σ1 H2 _ I2 q2) fun f s3 q3 => ?_)
  cases f with
  | next =>
   obtain ⟨σ3, H3, I3, n3⟩ := q3
   obtain ⟨m', hm, w3⟩ := hN σ3 H3 n3
   exact ⟨m', hm, σ3, H3, I3, w3⟩
  | cont =>
   obtain ⟨σ3, H3, I3, n3⟩ := q3
   obtain ⟨m', hm, w3⟩ := hN σ3 H3 n3
   exact ⟨m', hm, σ3, H3, I3, w3⟩
  | brk => exact q3
  | ret v => exact q3
 | false =>
  rw [if_neg Bool.false_ne_true]
  exact wpAny_execs_nil ⟨σ1, H2, I2, q2⟩
end
structure It where
 go : Nat → Hp → Prop
 yld : Nat → Hp → V → Hp → Prop
 stop : Nat → Hp → Prop
def FpOk (X : Cx) (pins : List (Addr × Obj)) (H : Hp) (b : Addr) : Prop :=
 H b = none ∧ b ≠ X.env.locals ∧ b ∉ X.fs ∧ (b ∈ X.ex ∨ X.s₀.heap.objs.size ≤ b) ∧ (∀ x c, X.env.cells.lookup x = some c → c ≠ b) ∧ ∀ p ∈ X.pn ++ pins, p.1 ≠ b
theorem Inv.fpOk {X : Cx} {pins : List (Addr × Obj)} {σ : St} {H H' : Hp} {s : Shared} {b : Addr} (I : Inv X pins σ H s) (hb : s.heap.objs.size ≤ b) (hn : H' b = none) : FpOk X pins H' b := by
 refine ⟨hn, Nat.ne_of_gt (Nat.lt_of_lt_of_le I.lt hb), I.nofs hb, .inr (Nat.le_trans I.sz hb), fun x c e z => ?_, fun p hp z => ?_⟩
 ·obtain ⟨v, q⟩ := I.cell x c e
  exact absurd (Nat.lt_of_lt_of_le q.lt (by rw [z]; exact hb)) (Nat.lt_irrefl _)
 ·exact absurd (Nat.lt_of_lt_of_le (Heap.lt_size (I.pin p hp).1) (by rw [z]; exact hb)) (Nat.lt_irrefl _)
structure Turn (P : Program) (w : World) (K : PySem.W.Frag) (tg : Expr) (J : It) (fp : List Addr) (it : Addr) (tn : Nat → Heap → Prop) : Prop where
 mem : it ∈ fp
 obj : ∀ i h, tn i h → ∀ b ∈ fp, ∃ o, h.get? b = some o ∧ ∀ v, o.data ≠ .cell v
 keep : ∀ i h h', tn i h → (∀ b ∈ fp, ∀ o, h.get? b = some o → h'.get? b = some o) → tn i h'
 item : ∀ (X : Cx), X.prog = P → X.w = w → X.K = K → X.calm = true → ∀ (i : Nat) (pins : List (Addr × Obj)) (s : Shared) (σ : St) (H : Hp) (E : Value → Shared → Prop), Inv X pins σ H s → (∀ b ∈ fp, FpOk X pins H b) → tn i s.heap → J.go i H →
  wpAny (model P w) X.A (pyNext (.ref it)) (fun r s1 => ∃ u, r = some u ∧
   wpAny (model P w) X.A (letOwnedTupleGo tg (.ref it) u) (fun _ s2 => ∃ x H', Inv X pins σ H' s2 ∧ RelV x u ∧ J.yld i H x H' ∧ tn (i + 1) s2.heap ∧ ∀ b ∈ fp, H' b = none) E s1) E s
 done : ∀ (X : Cx), X.prog = P → X.w = w → X.K = K → X.calm = true → ∀ (i : Nat) (pins : List (Addr × Obj)) (s : Shared) (σ : St) (H : Hp) (E : Value → Shared → Prop), Inv X pins σ H s → (∀ b ∈ fp, FpOk X pins H b) → tn i s.heap → J.stop i H →
  wpAny (model P w) X.A (pyNext (.ref it)) (fun r s1 => r = none ∧ Inv X pins σ H s1) E s
 self : ∀ (A : Around) (i : Nat) (s : Shared) (Q : Value → Shared → Prop) (E : Value → Shared → Prop), tn i s.heap → Q (.ref it) s → wpAny (model P w) A (pyIter (.ref it)) Q E s
abbrev TI := St → Hp → (It → Hp → Prop) → Prop
def PIE (X : Cx) (pins : List (Addr × Obj)) (σ : St) (tg : Expr) (R : It → Hp → Prop) (itv : Value) (s2 : Shared) : Prop :=
 ∃ (it : Addr) (fp : List Addr) (tn : Nat → Heap → Prop) (J : It) (H' : Hp), itv = .ref it ∧ Inv X pins σ H' s2 ∧ Turn X.prog X.w X.K tg J fp it tn ∧ tn 0 s2.heap ∧ (∀ b ∈ fp, FpOk X pins H' b) ∧ R J H'
def PI (X : Cx) (tg iter : Expr) (wi : TI) : Prop :=
 ∀ (pins : List (Addr × Obj)) (s : Shared) (σ : St) (H : Hp) (R : It → Hp → Prop), Inv X pins σ H s → wi σ H R →
  wpAny (model X.prog X.w) X.A (eval iter X.env) (fun v s1 => wpAny (model X.prog X.w) X.A (pyIter v) (PIE X pins σ tg R) X.xe s1) X.xe s
theorem go_of {M : Model} {A : Around} {E : Value → Shared → Prop} {s : Shared} {tg : Expr} {it : Addr} {u : Value} {o : Obj} {n : String} {vs : Array Value} {Q : Unit → Shared → Prop} (ho : s.heap.get? it = some o) (hc : o.cls = .type n) (hd : o.data = .fields vs)
    (hn : ["enumerate", "zip", "dict_itemiterator", "dict_reverseitemiterator", "odict_iterator", "itertools.zip_longest", "itertools.pairwise"].contains n = false) (hQ : Q () s) : wpAny M A (letOwnedTupleGo tg (.ref it) u) Q E s := by
  unfold letOwnedTupleGo
  cases tg <;> first
    | exact wpAny_pure hQ
    | (cases u <;> first
        | exact wpAny_pure hQ
        | (refine wpAny_bind (wpAny_load ho ?_)
           rw [hc, hd]
           show wpAny M A (if (["enumerate", "zip", "dict_itemiterator", "dict_reverseitemiterator", "odict_iterator", "itertools.zip_longest", "itertools.pairwise"].contains n && vs[0]? == some (rawInt _)) = true then _ else _) Q E s
           rw [if_neg (by intro h; rw [hn, Bool.false_and] at h; cases h)]
           exact wpAny_pure hQ))
def Itl (K : PySem.W.Frag) (a : Addr) : It :=
 ⟨fun i H => ∃ xs x, SqL K H a xs ∧ xs[i]? = some x, fun i H x H' => H' = H ∧ ∀ xs, SqL K H a xs → xs[i]? = some x, fun i H => ∃ xs, SqL K H a xs ∧ xs.length ≤ i⟩
def Itt (K : PySem.W.Frag) (a : Addr) : It :=
 ⟨fun i H => ∃ xs x, SqT K H a xs ∧ xs[i]? = some x, fun i H x H' => H' = H ∧ ∀ xs, SqT K H a xs → xs[i]? = some x, fun i H => ∃ xs, SqT K H a xs ∧ xs.length ≤ i⟩
def Itr (lo : Int) (n : Nat) : It := ⟨fun i _ => i < n, fun i H x H' => H' = H ∧ x = .int (lo + i), fun i _ => n ≤ i⟩
theorem turn_list {P : Program} {w : World} {K : PySem.W.Frag} {tg : Expr} (a it : Addr) : Turn P w K tg (Itl K a) [it] it (fun i h => h.IsListIter it a i) where
 mem := by simp
 obj := fun i h st b hb => by
  have e : b = it := by simpa using hb
  subst e
  obtain ⟨o, e, c, d⟩ := st
  exact ⟨o, e, fun v z => by rw [d] at z; cases z⟩
 keep := fun i h h' st k => st.at fun o e => k it (by simp) o e
 item := by
  intro X hP hw hK hc i pins s σ H E I hf st hg
  subst hP hw hK
  obtain ⟨xs, x, hq, hx⟩ := hg
  obtain ⟨its, rv, p, hz⟩ := I.list hq
  obtain ⟨u, hu, ru⟩ := rv.get hx
  obtain ⟨f0, f1, f2, f3, f4, f5⟩ := hf it (by simp)
  refine wpAny_pyNext_list_item st p.isList (x := u) (by simpa using hu) fun h' st' sb => ?_
  have I1 : Inv X pins σ H { s with heap := h' } := I.turned (t' := s.toks) (fun b o hb e => (sb.2 b hb).trans e) f0 f1 f3 f4 f5
  obtain ⟨o, e, c, d⟩ := id st'
  exact ⟨u, rfl, go_of (s := { s with heap := h' }) e c d (by decide) ⟨x, H, I1, ru, ⟨rfl, fun ys hy => by rw [I.list_inj hy hq]; exact hx⟩, st', fun b hb => (hf b hb).1⟩⟩
 done := by
  intro X hP hw hK hc i pins s σ H E I hf st hg
  subst hP hw hK
  obtain ⟨xs, hq, hx⟩ := hg
  obtain ⟨its, rv, p, hz⟩ := I.list hq
  obtain ⟨f0, f1, f2, f3, f4, f5⟩ := hf it (by simp)
  have hl := rv.length
  exact wpAny_pyNext_list_end (I.ok.hd hc) st p.isList (by simp; omega) fun h' eb => ⟨rfl, I.turned (t' := s.toks) (fun b o hb e => eb b o hb e) f0 f1 f3 f4 f5⟩
 self := fun _ _ _ _ _ st h => wpAny_pyIter_listiter st h
theorem turn_tuple {P : Program} {w : World} {K : PySem.W.Frag} {tg : Expr} (a it : Addr) : Turn P w K tg (Itt K a) [it] it (fun i h => h.IsTupleIter it a i) where
 mem := by simp
 obj := fun i h st b hb => by
  have e : b = it := by simpa using hb
  subst e
  obtain ⟨o, e, c, d⟩ := st
  exact ⟨o, e, fun v z => by rw [d] at z; cases z⟩
 keep := fun i h h' st k => st.at fun o e => k it (by simp) o e
 item := by
  intro X hP hw hK hc i pins s σ H E I hf st hg
  subst hP hw hK
  obtain ⟨xs, x, hq, hx⟩ := hg
  obtain ⟨its, rv, p, hz⟩ := I.tuple hq
  obtain ⟨u, hu, ru⟩ := rv.get hx
  obtain ⟨f0, f1, f2, f3, f4, f5⟩ := hf it (by simp)
  refine wpAny_pyNext_tuple_item st (show s.heap.IsTuple a its.toArray from p) (x := u) (by simpa using hu) fun h' st' sb => ?_
  have I1 : Inv X pins σ H { s with heap := h' } := I.turned (t' := s.toks) (fun b o hb e => (sb.2 b hb).trans e) f0 f1 f3 f4 f5
  obtain ⟨o, e, c, d⟩ := id st'
  exact ⟨u, rfl, go_of (s := { s with heap := h' }) e c d (by decide) ⟨x, H, I1, ru, ⟨rfl, fun ys hy => by rw [I.tuple_inj hy hq]; exact hx⟩, st', fun b hb => (hf b hb).1⟩⟩
 done := by
  intro X hP hw hK hc i pins s σ H E I hf st hg
  subst hP hw hK
  obtain ⟨xs, hq, hx⟩ := hg
  obtain ⟨its, rv, p, hz⟩ := I.tuple hq
  obtain ⟨f0, f1, f2, f3, f4, f5⟩ := hf it (by simp)
  have hl := rv.length
  exact wpAny_pyNext_tuple_end (I.ok.hd hc) st (show s.heap.IsTuple a its.toArray from p) (by simp; omega) fun h' eb => ⟨rfl, I.turned (t' := s.toks) (fun b o hb e => eb b o hb e) f0 f1 f3 f4 f5⟩
 self := fun _ _ _ _ _ st h => wpAny_pyIter_tupleiter st h
theorem turn_range {P : Program} {w : World} {K : PySem.W.Frag} {tg : Expr} (it : Addr) (lo : Int) (n : Nat) : Turn P w K tg (Itr lo n) [it] it (fun i h => IsRangeIter h it (lo + (i : Nat) * 1) ((n : Int) - (i : Nat)) 1) where
 mem := by simp
 obj := fun i h st b hb => by
  have e : b = it := by simpa using hb
  subst e
  exact ⟨_, st, fun v z => by
   have z' : Data.fields _ = Data.cell v := z
   cases z'⟩
 keep := fun i h h' st k => k it (by simp) _ st
 item := by
  intro X hP hw hK hc i pins s σ H E I hf st hg
  subst hP hw hK
  obtain ⟨f0, f1, f2, f3, f4, f5⟩ := hf it (by simp)
  have W := Walks.range (prog := X.prog) (w := X.w) (I.ok.hd hc) it lo 1 n
  refine W.item i s _ _ hg st fun v h' tk hv st' kk => ?_
  obtain ⟨t, rfl⟩ := hv
  have I1 : Inv X pins σ H { s with heap := h', toks := tk } := I.turned (fun b o hb e => kk b o (by simpa using hb) e) f0 f1 f3 f4 f5
  refine ⟨_, rfl, go_of (s := { s with heap := h', toks := tk }) (n := "range_iterator") st' rfl rfl (by decide) ⟨.int (lo + i), H, I1, ⟨t, ?_⟩, ⟨rfl, rfl⟩, st', fun b hb => (hf b hb).1⟩⟩
  rw [Int.mul_one]
 done := by
  intro X hP hw hK hc i pins s σ H E I hf st hg
  subst hP hw hK
  obtain ⟨f0, f1, f2, f3, f4, f5⟩ := hf it (by simp)
  exact wpAny_pyNext_range_end (I.ok.hd hc) st (by have : n ≤ i := hg; omega) fun h' eb => ⟨rfl, I.turned (t' := s.toks) (fun b o hb e => eb b o hb e) f0 f1 f3 f4 f5⟩
 self := fun _ _ _ _ _ st h => wpAny_pyIter_rangeiter st h
end L2
namespace L2
open PySem PySem.Spec PyProof.Rows
section
variable {X : Cx} {tg : Expr}
def iList (K : PySem.W.Frag) (tl : TE) : TI := fun σ H R => tl σ H fun x H1 => ∃ a, x = .ref a ∧ (∃ xs, SqL K H1 a xs) ∧ R (Itl K a) H1
def iTup (K : PySem.W.Frag) (tl : TE) : TI := fun σ H R => tl σ H fun x H1 => ∃ a, x = .ref a ∧ (∃ xs, SqT K H1 a xs) ∧ R (Itt K a) H1
theorem pi_list {l : Expr} {tl : TE} (hl : PE X l tl) : PI X tg l (iList X.K tl) := by
 intro pins s σ H R I h
 refine thn (hl pins s σ H _ I h) fun v s1 ⟨x, H1, I1, r1, q1⟩ => ?_
 obtain ⟨a, e, ⟨xs, hq⟩, q⟩ := q1
 subst e
 cases r1
 obtain ⟨its, rv, p, hz⟩ := I1.list hq
 refine wpAny_pyIter_list p.isList ?_
 refine ⟨s1.heap.objs.size, [s1.heap.objs.size], _, _, H1, rfl, I1.kept (t' := s1.toks) fun b o e => Heap.get?_push_of_some _ e, turn_list a _, ⟨_, Heap.get?_push_size _ rfl, rfl, rfl⟩, fun b hb => ?_, q⟩
 have e : b = s1.heap.objs.size := by simpa using hb
 subst e
 exact I1.fpOk (Nat.le_refl _) (I1.hok.fresh (Nat.le_refl _))
theorem pi_tup {l : Expr} {tl : TE} (hl : PE X l tl) : PI X tg l (iTup X.K tl) := by
 intro pins s σ H R I h
 refine thn (hl pins s σ H _ I h) fun v s1 ⟨x, H1, I1, r1, q1⟩ => ?_
 obtain ⟨a, e, ⟨xs, hq⟩, q⟩ := q1
 subst e
 cases r1
 obtain ⟨its, rv, p, hz⟩ := I1.tuple hq
 refine wpAny_pyIter_tuple (show s1.heap.IsTuple a its.toArray from p) ?_
 refine ⟨s1.heap.objs.size, [s1.heap.objs.size], _, _, H1, rfl, I1.kept (t' := s1.toks) fun b o e => Heap.get?_push_of_some _ e, turn_tuple a _, ⟨_, Heap.get?_push_size _ rfl, rfl, rfl⟩, fun b hb => ?_, q⟩
 have e : b = s1.heap.objs.size := by simpa using hb
 subst e
 exact I1.fpOk (Nat.le_refl _) (I1.hok.fresh (Nat.le_refl _))
theorem range_it {pins : List (Addr × Obj)} {σ : St} {H : Hp} {s : Shared} {R : It → Hp → Prop} {E : Value → Shared → Prop} {lo hi : Int} {t u v : Tok} {tk : Nat} (I : Inv X pins σ H s) (h1 : -(2 ^ 62) ≤ lo) (h2 : lo < 2 ^ 62) (h3 : -(2 ^ 62) ≤ hi) (h4 : hi < 2 ^ 62)
  (q : R (Itr lo (hi - lo).toNat) H) : wpAny (model X.prog X.w) X.A (pyIter (.ref s.heap.objs.size)) (PIE X pins σ tg R) E { s with heap := s.heap.push { cls := .type "range", data := .fields #[.int lo t, .int hi u, .int 1 v] }, toks := tk } := by
 refine wpAny_pyIter_range (IsRange.new ..) (small_one h1 h2 h3 h4) ?_
 have I1 : Inv X pins σ H { s with heap := s.heap.push { cls := .type "range", data := .fields #[.int lo t, .int hi u, .int 1 v] }, toks := tk } := I.kept fun b o e => Heap.get?_push_of_some _ e
 refine ⟨(s.heap.push { cls := .type "range", data := .fields #[.int lo t, .int hi u, .int 1 v] }).objs.size, [(s.heap.push { cls := .type "range", data := .fields #[.int lo t, .int hi u, .int 1 v] }).objs.size], _, _, H, rfl,
  I1.kept (t' := tk) fun b o e => Heap.get?_push_of_some _ e, turn_range _ lo (hi - lo).toNat, ?_, fun b hb => ?_, q⟩
 ·have e1 : lo + ((0 : Nat) : Int) * 1 = lo := by simp
  have e2 : (((hi - lo).toNat : Nat) : Int) - ((0 : Nat) : Int) = Builtin.Range.rangeSize lo hi 1 := by rw [rangeSize_one]; split <;> omega
  show IsRangeIter _ _ (lo + ((0 : Nat) : Int) * 1) ((((hi - lo).toNat : Nat) : Int) - ((0 : Nat) : Int)) 1
  rw [e1, e2]
  exact Heap.get?_push_size _ rfl
 ·have e : b = (s.heap.push { cls := .type "range", data := .fields #[.int lo t, .int hi u, .int 1 v] }).objs.size := by simpa using hb
  subst e
  exact I1.fpOk (Nat.le_refl _) (I1.hok.fresh (Nat.le_refl _))
def iRng1 (ta : TA) : TI := fun σ H R => ta σ H fun vs H1 => ∃ j : Int, vs = [.int j] ∧ -(2 ^ 62) ≤ j ∧ j < 2 ^ 62 ∧ R (Itr 0 j.toNat) H1
def iRng2 (ta : TA) : TI := fun σ H R => ta σ H fun vs H1 => ∃ i j : Int, vs = [.int i, .int j] ∧ (-(2 ^ 62) ≤ i ∧ i < 2 ^ 62 ∧ -(2 ^ 62) ≤ j ∧ j < 2 ^ 62) ∧ R (Itr i (j - i).toNat) H1
theorem pi_range1 {a : Expr} {ta : TA} {p pos : Pos} (hg : Gl X "range") (hm : X.mg "range" = none) (ha : PA X [a] ta) (hs : starEach [a] X.env = [(false, eval a X.env)] := by rfl) : PI X tg (.Call (.Name "range" p) [a] [] pos) (iRng1 ta) := by
 intro pins s σ H R I h
 refine Call_ (ld_blt I hg hm boot_range (PyProof.Rows.callWith_type1 (thn (ha pos pins s σ H _ I h) fun us s1 ⟨vs, H1, I1, r1, q1⟩ => ?_) hs rfl))
 obtain ⟨j, e, q1, q2, q⟩ := q1
 subst e
 cases r1 with
 | cons r rr =>
  cases rr
  obtain ⟨t, rfl⟩ := r
  exact call_range_1 (range_it I1 (by omega) (by omega) q1 q2 (by simpa using q))
theorem pi_range2 {a b : Expr} {ta : TA} {p pos : Pos} (hg : Gl X "range") (hm : X.mg "range" = none) (ha : PA X [a, b] ta) (hs : starEach [a, b] X.env = [(false, eval a X.env), (false, eval b X.env)] := by rfl) (hs2 : starEach [b] X.env = [(false, eval b X.env)] := by rfl) :
  PI X tg (.Call (.Name "range" p) [a, b] [] pos) (iRng2 ta) := by
 intro pins s σ H R I h
 refine Call_ (ld_blt I hg hm boot_range (PyProof.Rows.callWith_type1 (thn (ha pos pins s σ H _ I h) fun us s1 ⟨vs, H1, I1, r1, q1⟩ => ?_) (by rw [hs, hs2]) (by rw [hs2]; rfl)))
 obtain ⟨i, j, e, ⟨q1, q2, q3, q4⟩, q⟩ := q1
 subst e
 cases r1 with
 | cons r rr =>
  cases rr with
  | cons r' rr =>
   cases rr
   obtain ⟨t, rfl⟩ := r
   obtain ⟨t', rfl⟩ := r'
   exact call_range_2 (range_it I1 q1 q2 q3 q4 q)
def tFor (wi : TI) (g : TG) (tb : TS) : TS := fun D σ H => wi σ H fun J H1 => ∃ W : Nat → Nat → St → Hp → Prop, (∃ m, W 0 m σ H1) ∧ ∀ i m σ H, W i m σ H →
 (J.stop i H ∧ D.nx σ H) ∨ (J.go i H ∧ ∃ N : St → Hp → Prop, (∀ σ' H', N σ' H' → ∃ m', m' < m ∧ W (i + 1) m' σ' H') ∧ ∀ x H', J.yld i H x H' → g x σ H' fun σ2 H2 => tb { D with nx := N, ct := N, bk := D.nx } σ2 H2)
def pinsAt (fp : List Addr) (h : Heap) : List (Addr × Obj) := fp.filterMap fun b => (h.get? b).map fun o => (b, o)
theorem mem_pinsAt {fp : List Addr} {h : Heap} {b : Addr} {o : Obj} (hb : b ∈ fp) (e : h.get? b = some o) : (b, o) ∈ pinsAt fp h := List.mem_filterMap.mpr ⟨b, hb, by rw [e]; rfl⟩
theorem of_pinsAt {fp : List Addr} {h : Heap} {p : Addr × Obj} (hp : p ∈ pinsAt fp h) : p.1 ∈ fp ∧ h.get? p.1 = some p.2 := by
 obtain ⟨b, hb, e⟩ := List.mem_filterMap.mp hp
 cases q : h.get? b with
 | none => rw [q] at e; cases e
 | some o =>
  rw [q] at e
  have e' : (b, o) = p := Option.some.inj e
  subst e'
  exact ⟨hb, q⟩
theorem Inv.pinned {pins : List (Addr × Obj)} {σ : St} {H : Hp} {s : Shared} {fp : List Addr} (I : Inv X pins σ H s) (hf : ∀ b ∈ fp, FpOk X pins H b) (ho : ∀ b ∈ fp, ∃ o, s.heap.get? b = some o ∧ ∀ v, o.data ≠ .cell v) : Inv X (pins ++ pinsAt fp s.heap) σ H s :=
 I.pins_of fun p hp => (List.mem_append.mp hp).elim (fun z => I.pin p (List.mem_append_right _ z)) fun z => by
  obtain ⟨hb, e⟩ := of_pinsAt z
  obtain ⟨f0, f1, f2, _⟩ := hf p.1 hb
  obtain ⟨o, e', d⟩ := ho p.1 hb
  rw [e] at e'; cases e'
  exact ⟨e, f0, f1, f2, d⟩
theorem Inv.unpinned {pins pl : List (Addr × Obj)} {σ : St} {H : Hp} {s : Shared} (I : Inv X (pins ++ pl) σ H s) : Inv X pins σ H s := I.pins_of fun p hp => I.pin p (List.mem_append_right _ (List.mem_append_left _ hp))
theorem ps_for {iter : Expr} {body : List Stmt} {wi : TI} {g : TG} {tb : TS} {pos : Pos} (hp : PassesOwn (model X.prog X.w) X.A X.env X.xe) (hc : X.calm = true) (hi : PI X tg iter wi) (hg : PG X tg g) (hb : PSs X body tb)
  (hs : ∀ x, foldedSetIterable iter X.env x = pure x := by intro _; rfl) : PS X (.For tg iter body [] pos) (tFor wi g tb) := by
 intro pins s σ H D I h
 refine wpAny_For (thn (hi pins s σ H _ I h) fun v s1 h1 => thn h1 fun itv s2 h2 => ?_) hs
 obtain ⟨it, fp, tn, J, H2, e, I2, T, st2, f2, W, ⟨m0, w0⟩, turn⟩ := h2
 subst e
 have stat : ∀ {H' : Hp}, (∀ b ∈ fp, H' b = none) → ∀ b ∈ fp, FpOk X pins H' b := fun hn b hb => ⟨hn b hb, (f2 b hb).2⟩
 refine codeAny_forLoop_any (fun n s' => ∃ i σ' H', Inv X pins σ' H' s' ∧ tn i s'.heap ∧ (∀ b ∈ fp, H' b = none) ∧ W i n σ' H') ?_ m0 ⟨0, σ, H2, I2, st2, fun b hb => (f2 b hb).1, w0⟩
 rintro n s3 ⟨i, σ3, H3, I3, st3, fr3, w3⟩
 rcases turn i n σ3 H3 w3 with ⟨stop, qn⟩ | ⟨go, N, hN, step⟩
 ·refine wpAny_passesOwn hp (thn (T.done X rfl rfl rfl hc i pins s3 σ3 H3 X.xe I3 (stat fr3) st3 stop) fun r s4 ⟨hr, I4⟩ => ?_)
  subst hr
  exact wpAny_execs_nil ⟨σ3, H3, I4, qn⟩
 ·refine wpAny_passesOwn hp (thn (T.item X rfl rfl rfl hc i pins s3 σ3 H3 X.xe I3 (stat fr3) st3 go) fun r s4 ⟨u, hr, h4⟩ => ?_)
  subst hr
  refine wpAny_passesOwn hp (thn h4 fun _ s5 ⟨x, H5, I5, r5, y5, st5, fr5⟩ => ?_)
  have I5' := I5.pinned (stat fr5) (T.obj _ _ st5)
  refine wpAny_passesOwn hp (thn (hg _ s5 σ3 H5 x u _ I5' r5 (step x H5 y5)) fun _ s6 ⟨σ6, H6, I6, q6⟩ => ?_)
  refine wpAny_passesOwn hp (thn (hb _ s6 σ6 H6 _ I6 q6) fun f s7 q7 => ?_)
  have again : ∀ {σ7 : St} {H7 : Hp}, Inv X (pins ++ pinsAt fp s5.heap) σ7 H7 s7 → N σ7 H7 → ∃ m, m < n ∧ ∃ i σ' H', Inv X pins σ' H' s7 ∧ tn i s7.heap ∧ (∀ b ∈ fp, H' b = none) ∧ W i m σ' H' := fun {σ7 H7} I7 n7 => by
   obtain ⟨m', hm, w7⟩ := hN σ7 H7 n7
   refine ⟨m', hm, i + 1, σ7, H7, I7.unpinned, T.keep _ _ _ st5 fun b hb o e => (I7.pin (b, o) (List.mem_append_right _ (List.mem_append_right _ (mem_pinsAt hb e)))).1, fun b hb => ?_, w7⟩
   obtain ⟨o, e, d⟩ := T.obj _ _ st5 b hb
   exact (I7.pin (b, o) (List.mem_append_right _ (List.mem_append_right _ (mem_pinsAt hb e)))).2.1
  cases f with
  | next => obtain ⟨σ7, H7, I7, n7⟩ := q7; exact again I7 n7
  | cont => obtain ⟨σ7, H7, I7, n7⟩ := q7; exact again I7 n7
  | brk => obtain ⟨σ7, H7, I7, q7⟩ := q7; exact ⟨σ7, H7, I7.unpinned, q7⟩
  | ret v => obtain ⟨x7, σ7, H7, I7, r7, q7⟩ := q7; exact ⟨x7, σ7, H7, I7.unpinned, r7, q7⟩
end
end L2
namespace L2
open PySem PySem.Spec PyProof.Rows
abbrev R2 := V → V → Hp → VK → Prop
def OpR (X : Cx) (f : Value → Value → Sem Value) (r : R2) : Prop :=
 ∀ (pins : List (Addr × Obj)) (s : Shared) (σ : St) (H : Hp) (x y : V) (v u : Value) (Q : VK), Inv X pins σ H s → RelV x v → RelV y u → r x y H Q →
  wpAny (model X.prog X.w) X.A (f v u) (EP X pins σ Q) X.xe s
def UnR (X : Cx) (f : Value → Sem Value) (r : V → Hp → VK → Prop) : Prop :=
 ∀ (pins : List (Addr × Obj)) (s : Shared) (σ : St) (H : Hp) (x : V) (v : Value) (Q : VK), Inv X pins σ H s → RelV x v → r x H Q →
  wpAny (model X.prog X.w) X.A (f v) (EP X pins σ Q) X.xe s
def CallR (X : Cx) (f : Value) (r : List V → Hp → VK → Prop) : Prop :=
 ∀ (pins : List (Addr × Obj)) (s : Shared) (σ : St) (H : Hp) (xs : List V) (us : List Value) (Q : VK), Inv X pins σ H s → Vals xs us → r xs H Q →
  wpAny (model X.prog X.w) X.A (call f us) (EP X pins σ Q) X.xe s
def TruR (X : Cx) (r : V → Hp → (Bool → Hp → Prop) → Prop) : Prop :=
 ∀ (pins : List (Addr × Obj)) (s : Shared) (σ : St) (H : Hp) (x : V) (v : Value) (Q : Bool → Hp → Prop), Inv X pins σ H s → RelV x v → r x H Q →
  wpAny (model X.prog X.w) X.A (truthy v) (TP X pins σ Q) X.xe s
def tOp (r : R2) (ta tb : TE) : TE := fun σ H Q => ta σ H fun x H1 => tb σ H1 fun y H2 => r x y H2 Q
def tUn (r : V → Hp → VK → Prop) (ta : TE) : TE := fun σ H Q => ta σ H fun x H1 => r x H1 Q
def rI (C : Int → Int → Prop) (g : Int → Int → V) : R2 := fun x y H Q => ∃ i j, x = .int i ∧ y = .int j ∧ C i j ∧ Q (g i j) H
def rI0 (g : Int → Int → V) : R2 := fun x y H Q => ∃ i j, x = .int i ∧ y = .int j ∧ Q (g i j) H
def rU (g : Int → V) : V → Hp → VK → Prop := fun x H Q => ∃ i, x = .int i ∧ Q (g i) H
section
variable {X : Cx} {a b c : Expr} {ta tb tc : TE} {pos : Pos}
theorem binT (ha : PE X a ta) (hb : PE X b tb) {pins : List (Addr × Obj)} {s : Shared} {σ : St} {H : Hp} {R : V → V → Hp → Prop} (I : Inv X pins σ H s)
  (h : ta σ H fun x H1 => tb σ H1 fun y H2 => R x y H2) {Q : Value → Shared → Prop} {f : Value → Value → Sem Value}
  (hf : ∀ v u s2 x y H2, Inv X pins σ H2 s2 → RelV x v → RelV y u → R x y H2 → wpAny (model X.prog X.w) X.A (f v u) Q X.xe s2) :
  wpAny (model X.prog X.w) X.A (eval a X.env) (fun v s₁ => wpAny (model X.prog X.w) X.A (eval b X.env) (fun u s₂ => wpAny (model X.prog X.w) X.A (f v u) Q X.xe s₂) X.xe s₁) X.xe s := by
 refine thn (ha pins s σ H _ I h) fun v s1 ⟨x, H1, I1, r1, q1⟩ => ?_
 refine thn (hb pins s1 σ H1 _ I1 q1) fun u s2 ⟨y, H2, I2, r2, q2⟩ => ?_
 exact hf v u s2 x y H2 I2 r1 r2 q2
theorem pe_op {op : Operator} {r : R2} (ho : OpR X (binaryOp op) r) (ha : PE X a ta) (hb : PE X b tb) : PE X (.BinOp a op b pos) (tOp r ta tb) := by
 intro pins s σ H Q I h
 exact wpAny_BinOp (binT ha hb I h fun v u s2 x y H2 I2 rx ry q => ho pins s2 σ H2 x y v u Q I2 rx ry q)
theorem pe_un {op : UnaryOp} {r : V → Hp → VK → Prop} (ho : UnR X (unaryOp op) r) (ha : PE X a ta) : PE X (.UnaryOp op a pos) (tUn r ta) := by
 intro pins s σ H Q I h
 exact UnaryOp_ (thn (ha pins s σ H _ I h) fun v s1 ⟨x, H1, I1, r1, q1⟩ => ho pins s1 σ H1 x v Q I1 r1 q1)
theorem opI {f : Value → Value → Sem Value} {C : Int → Int → Prop} {g : Int → Int → Int}
  (rule : ∀ (i j : Int) (t u : Tok) (s : Shared) (Q : Value → Shared → Prop) (E : Value → Shared → Prop), C i j → Q (.int (g i j) s.toks) { s with toks := s.toks + 1 } → wpAny (model X.prog X.w) X.A (f (.int i t) (.int j u)) Q E s) :
  OpR X f (rI C fun i j => .int (g i j)) := by
 intro pins s σ H x y v u Q I rx ry h
 obtain ⟨i, j, rfl, rfl, hc, q⟩ := h
 obtain ⟨t, rfl⟩ := rx
 obtain ⟨t', rfl⟩ := ry
 exact rule i j t t' s _ _ hc ⟨.int (g i j), H, I.tok _, ⟨_, rfl⟩, q⟩
theorem opI0 {f : Value → Value → Sem Value} {g : Int → Int → Int}
  (rule : ∀ (i j : Int) (t u : Tok) (s : Shared) (Q : Value → Shared → Prop) (E : Value → Shared → Prop), Q (.int (g i j) s.toks) { s with toks := s.toks + 1 } → wpAny (model X.prog X.w) X.A (f (.int i t) (.int j u)) Q E s) :
  OpR X f (rI0 fun i j => .int (g i j)) := by
 intro pins s σ H x y v u Q I rx ry h
 obtain ⟨i, j, rfl, rfl, q⟩ := h
 obtain ⟨t, rfl⟩ := rx
 obtain ⟨t', rfl⟩ := ry
 exact rule i j t t' s _ _ ⟨.int (g i j), H, I.tok _, ⟨_, rfl⟩, q⟩
theorem opB0 {f : Value → Value → Sem Value} {g : Int → Int → Bool}
  (rule : ∀ (i j : Int) (t u : Tok) (s : Shared) (Q : Value → Shared → Prop) (E : Value → Shared → Prop), Q (.bool (g i j)) s → wpAny (model X.prog X.w) X.A (f (.int i t) (.int j u)) Q E s) :
  OpR X f (rI0 fun i j => .bl (g i j)) := by
 intro pins s σ H x y v u Q I rx ry h
 obtain ⟨i, j, rfl, rfl, q⟩ := h
 obtain ⟨t, rfl⟩ := rx
 obtain ⟨t', rfl⟩ := ry
 exact rule i j t t' s _ _ ⟨.bl (g i j), H, I, rfl, q⟩
def CPow (i j : Int) : Prop := 0 ≤ j ∧ j ≤ 1000000 ∧ i.natAbs < 2 ^ 64
theorem op_add : OpR X (binaryOp .Add) (rI0 fun i j => .int (i + j)) := opI0 fun _ _ _ _ _ _ _ q => add_int q
theorem op_sub : OpR X (binaryOp .Sub) (rI0 fun i j => .int (i - j)) := opI0 fun _ _ _ _ _ _ _ q => sub_int q
theorem op_mod : OpR X (binaryOp .Mod) (rI (fun _ j => 0 < j) fun i j => .int (i % j)) := opI fun i j _ _ _ _ _ hc q => by
 have h1 : (0 : Int) < j := hc
 exact mod_int' (by omega) (by rw [Int.fmod_eq_emod_of_nonneg i (by omega)]; exact q)
theorem op_pow : OpR X (binaryOp .Pow) (rI CPow fun i j => .int (i ^ j.toNat)) := opI fun _ _ _ _ _ _ _ hc q => pow_int_small hc.1 hc.2.1 hc.2.2 q
theorem unI {f : Value → Sem Value} {g : Int → Int}
  (rule : ∀ (i : Int) (t : Tok) (s : Shared) (Q : Value → Shared → Prop) (E : Value → Shared → Prop), Q (.int (g i) s.toks) { s with toks := s.toks + 1 } → wpAny (model X.prog X.w) X.A (f (.int i t)) Q E s) :
  UnR X f (rU fun i => .int (g i)) := by
 intro pins s σ H x v Q I rx h
 obtain ⟨i, rfl, q⟩ := h
 obtain ⟨t, rfl⟩ := rx
 exact rule i t s _ _ ⟨.int (g i), H, I.tok _, ⟨_, rfl⟩, q⟩
theorem un_neg : UnR X (unaryOp .USub) (rU fun i => .int (-i)) := unI fun _ _ _ _ _ q => neg_int q
end
section
variable {X : Cx} {a b c : Expr} {ta tb tc : TE} {pos : Pos}
theorem fin_bl {pins : List (Addr × Obj)} {σ : St} {H : Hp} {s : Shared} {Q : VK} {k k' : Bool} (I : Inv X pins σ H s) (q : Q (.bl k) H) (e : k = k') : EP X pins σ Q (.bool k') s := by
 subst e
 exact ⟨.bl k, H, I, rfl, q⟩
theorem op_lt : OpR X (compareOp .Lt) (rI0 fun i j => .bl (decide (i < j))) := opB0 fun _ _ _ _ _ _ _ q => lt_int q
theorem op_le : OpR X (compareOp .LtE) (rI0 fun i j => .bl (decide (i ≤ j))) := opB0 fun _ _ _ _ _ _ _ q => le_int q
theorem op_gt : OpR X (compareOp .Gt) (rI0 fun i j => .bl (decide (j < i))) := opB0 fun _ _ _ _ _ _ _ q => gt_int q
theorem op_ge : OpR X (compareOp .GtE) (rI0 fun i j => .bl (decide (j ≤ i))) := opB0 fun _ _ _ _ _ _ _ q => ge_int q
theorem op_in_str : OpR X (compareOp .In) (fun x y H Q => ∃ i j, x = .str i ∧ y = .str j ∧ Q (.bl (!(Builtin.Str.occurrences j i 0 j.length 1).isEmpty)) H) := by
 intro pins s σ H x y v u Q I rx ry h
 obtain ⟨i, j, rfl, rfl, q⟩ := h
 obtain ⟨t, rfl⟩ := rx
 obtain ⟨t', rfl⟩ := ry
 exact in_str (fin_bl I q rfl)
theorem op_isN : OpR X (compareOp .Is) (fun x y H Q => y = .non ∧ Q (.bl (decide (x = .non))) H) := by
 intro pins s σ H x y v u Q I rx ry h
 obtain ⟨rfl, q⟩ := h
 cases ry
 refine is_none_gen (fin_bl I q ?_)
 cases x <;> first
  | (cases rx; rfl)
  | (obtain ⟨t, rfl⟩ := rx; rfl)
theorem op_notN : OpR X (compareOp .IsNot) (fun x y H Q => y = .non ∧ Q (.bl (!decide (x = .non))) H) := by
 intro pins s σ H x y v u Q I rx ry h
 obtain ⟨rfl, q⟩ := h
 cases ry
 refine isnot_none_gen (fin_bl I q ?_)
 cases x <;> first
  | (cases rx; rfl)
  | (obtain ⟨t, rfl⟩ := rx; rfl)
theorem op_notin_str : OpR X (compareOp .NotIn) (fun x y H Q => ∃ i j, x = .str i ∧ y = .str j ∧ Q (.bl (!(!(Builtin.Str.occurrences j i 0 j.length 1).isEmpty))) H) := by
 intro pins s σ H x y v u Q I rx ry h
 obtain ⟨i, j, rfl, rfl, q⟩ := h
 obtain ⟨t, rfl⟩ := rx
 obtain ⟨t', rfl⟩ := ry
 exact notIn_str (fin_bl I q rfl)
theorem nomark (b : Expr) {op : CmpOp} (h : op ≠ .In := by decide) (h2 : op ≠ .NotIn := by decide) : behindInMarks op b = false := by
 have e1 : (op == CmpOp.In) = false := by cases op <;> first | rfl | exact absurd rfl h
 have e2 : (op == CmpOp.NotIn) = false := by cases op <;> first | rfl | exact absurd rfl h2
 cases b <;> simp [behindInMarks, e1, e2]
theorem pe_cmpR {op : CmpOp} {r : R2} (ho : OpR X (compareOp op) r) (ha : PE X a ta) (hb : PE X b tb) (hm : behindInMarks op b = false) : PE X (.Compare a [op] [b] pos) (tOp r ta tb) := by
 intro pins s σ H Q I h
 exact wpAny_Compare1 (binT ha hb I h fun v u s2 x y H2 I2 rx ry q => ho pins s2 σ H2 x y v u Q I2 rx ry q) hm
def tTest (t : TE) : TT := fun σ H Q => t σ H fun x H' => ∃ k, x = .bl k ∧ Q k H'
theorem pt_cmpR {op : CmpOp} {r : R2} (ho : OpR X (compareOp op) r) (ha : PE X a ta) (hb : PE X b tb) (hm : behindInMarks op b = false) : PT X (.Compare a [op] [b] pos) (tTest (tOp r ta tb)) := by
 intro pins s σ H Q I h
 refine wpAny_isTrue_Compare1 (thn (ha pins s σ H _ I h) fun v s1 ⟨x, H1, I1, r1, q1⟩ => thn (hb pins s1 σ H1 _ I1 q1) fun u s2 ⟨y, H2, I2, r2, q2⟩ =>
  thn (ho pins s2 σ H2 x y v u _ I2 r1 r2 q2) fun c s3 ⟨z, H3, I3, r3, k, e, q3⟩ => ?_) hm
 subst e
 cases r3
 exact wpAny_truthy_bool ⟨H3, I3, q3⟩
def tChain (r r' : R2) (ta tb tc : TE) : TE := fun σ H Q => ta σ H fun x H1 => tb σ H1 fun y H2 => r x y H2 fun z H3 => ∃ k, z = .bl k ∧
 (if k = true then tc σ H3 fun w' H4 => r' y w' H4 Q else Q (.bl false) H3)
theorem pe_chain {op op' : CmpOp} {r r' : R2} (ho : OpR X (compareOp op) r) (ho' : OpR X (compareOp op') r') (ha : PE X a ta) (hb : PE X b tb) (hc : PE X c tc)
  (hm : lastMarks [op, op'] [b, c] = false := by with_unfolding_all rfl) : PE X (.Compare a [op, op'] [b, c] pos) (tChain r r' ta tb tc) := by
 intro pins s σ H Q I h
 refine Compare_chain (thn (ha pins s σ H _ I h) fun v s1 ⟨x, H1, I1, r1, q1⟩ => chain_link (thn (hb pins s1 σ H1 _ I1 q1) fun u s2 ⟨y, H2, I2, r2, q2⟩ =>
  thn (ho pins s2 σ H2 x y v u _ I2 r1 r2 q2) fun d s3 ⟨z, H3, I3, r3, k, e, q3⟩ => ?_)) hm
 subst e
 cases r3
 refine wpAny_truthy_bool ?_
 cases k with
 | false => exact ite_ff ⟨.bl false, H3, I3, rfl, q3⟩
 | true => exact ite_tt (chain_last (thn (hc pins s3 σ H3 _ I3 q3) fun w' s4 ⟨z', H4, I4, r4, q4⟩ => ho' pins s4 σ H4 y z' u w' Q I4 r2 r4 q4))
theorem pt_chain {op op' : CmpOp} {r r' : R2} (ho : OpR X (compareOp op) r) (ho' : OpR X (compareOp op') r') (ha : PE X a ta) (hb : PE X b tb) (hc : PE X c tc)
  (hm : lastMarks [op, op'] [b, c] = false := by with_unfolding_all rfl) : PT X (.Compare a [op, op'] [b, c] pos) (tTest (tChain r r' ta tb tc)) := by
 intro pins s σ H Q I h
 refine isTrue_chain (thn (ha pins s σ H _ I h) fun v s1 ⟨x, H1, I1, r1, q1⟩ => test_link (thn (hb pins s1 σ H1 _ I1 q1) fun u s2 ⟨y, H2, I2, r2, q2⟩ =>
  thn (ho pins s2 σ H2 x y v u _ I2 r1 r2 q2) fun d s3 ⟨z, H3, I3, r3, k, e, q3⟩ => ?_)) hm
 subst e
 cases r3
 refine wpAny_truthy_bool ?_
 cases k with
 | false =>
  obtain ⟨k', e', q'⟩ := q3
  cases e'
  exact ite_ff ⟨H3, I3, q'⟩
 | true =>
  refine ite_tt (test_last (thn (hc pins s3 σ H3 _ I3 q3) fun w' s4 ⟨z', H4, I4, r4, q4⟩ => thn (ho' pins s4 σ H4 y z' u w' _ I4 r2 r4 q4) fun d' s5 ⟨z2, H5, I5, r5, k2, e2, q5⟩ => ?_))
  subst e2
  cases r5
  exact wpAny_truthy_bool ⟨H5, I5, q5⟩
def TruV (K : PySem.W.Frag) (x : V) (H : Hp) (k : Bool) : Prop :=
 match x with
 | .non => k = false
 | .bl b => k = b
 | .int i => k = (i != 0)
 | .str y => y.length ≤ sizeLine ∧ k = ((y.length : Int) != 0)
 | .byt y => y.size ≤ sizeLine ∧ k = ((y.size : Int) != 0)
 | .ref p => (∃ xs, SqL K H p xs ∧ k = !xs.isEmpty) ∨ (∃ xs, SqT K H p xs ∧ k = !xs.isEmpty) ∨ ∃ kvs, H p = some (.dK kvs) ∧ k = !kvs.isEmpty
 | _ => False
theorem isEmpty_kv {κ : Type} {kvs : List (κ × V)} {vs : List (κ × Value)} (r : KV kvs vs) : (!vs.isEmpty) = !kvs.isEmpty := by
 cases r <;> rfl
theorem isEmpty_of {xs : List V} {its : List Value} (r : Vals xs its) : (!its.toArray.isEmpty) = !xs.isEmpty := by
 cases r <;> simp
theorem line63 : (sizeLine : Nat) < 2 ^ 63 := by rw [sizeLine_eq]; decide
theorem tru_ok : TruR X (fun x H Q => ∃ k, TruV X.K x H k ∧ Q k H) := by
 intro pins s σ H x v Q I rx h
 obtain ⟨k, e, q⟩ := h
 have hl := line63
 have hs : sizeLine = 16777216 := sizeLine_eq
 cases x with
 | non =>
  cases rx
  have e' : k = false := e
  subst e'
  exact truthy_none ⟨H, I, q⟩
 | bl b =>
  cases rx
  have e' : k = b := e
  subst e'
  exact wpAny_truthy_bool ⟨H, I, q⟩
 | int i =>
  obtain ⟨t, rfl⟩ := rx
  have e' : k = (i != 0) := e
  subst e'
  exact PySem.P.truthy_int ⟨H, I, q⟩
 | str y =>
  obtain ⟨t, rfl⟩ := rx
  obtain ⟨hy, e'⟩ : y.length ≤ sizeLine ∧ k = ((y.length : Int) != 0) := e
  subst e'
  exact PySem.P.truthy_str (by omega) ⟨H, I.tok _, q⟩
 | byt y =>
  obtain ⟨t, rfl⟩ := rx
  obtain ⟨hy, e'⟩ : y.size ≤ sizeLine ∧ k = ((y.size : Int) != 0) := e
  subst e'
  exact PySem.W.truthy_bytes (by omega) ⟨H, I.tok _, q⟩
 | ref p =>
  cases rx
  have e' : (∃ xs, SqL X.K H p xs ∧ k = !xs.isEmpty) ∨ (∃ xs, SqT X.K H p xs ∧ k = !xs.isEmpty) ∨ ∃ kvs, H p = some (.dK kvs) ∧ k = !kvs.isEmpty := e
  rcases e' with ⟨xs, hx, e'⟩ | ⟨xs, hx, e'⟩ | ⟨kvs, hx, e'⟩
  ·subst e'
   obtain ⟨its, r, pl, hz⟩ := I.list hx
   have hlen := r.length
   exact wpAny_truthy_list pl.isList (by simp only [List.size_toArray]; omega) ⟨H, I.tok _, by rw [isEmpty_of r]; exact q⟩
  ·subst e'
   obtain ⟨its, r, pl, hz⟩ := I.tuple hx
   have hlen := r.length
   exact truthy_tuple pl (by simp only [List.size_toArray]; omega) ⟨H, I.tok _, by rw [isEmpty_of r]; exact q⟩
  ·subst e'
   obtain ⟨hz, hS, vs, r, m⟩ : kvs.length ≤ sizeLine ∧ (p == sysModules) = false ∧ ∃ vs, KV kvs vs ∧ s.heap.DictOf (mixKind X.prog X.w) p vs := I.hok p _ hx
   have hlen : kvs.length = vs.length := Paired.length r
   exact wpAny_truthy_dict hS m (by omega) ⟨H, I.tok _, by rw [isEmpty_kv r]; exact q⟩
 | _ => exact (show False from e).elim
theorem pt_truth (ha : PE X a ta) (he : ∀ whole, isTrue a X.env whole = (do let v ← whole; standAt a.pos; holding [v] (truthy v))) :
  PT X a (fun σ H Q => ta σ H fun x H' => ∃ k, TruV X.K x H' k ∧ Q k H') := by
 intro pins s σ H Q I h
 exact isTrue_plain (thn (ha pins s σ H _ I h) fun v s1 ⟨x, H1, I1, r1, q1⟩ => tru_ok pins s1 σ H1 x v Q I1 r1 q1) (he _)
theorem op_add_str : OpR X (binaryOp .Add) (fun x y H Q => ∃ i j, x = .str i ∧ y = .str j ∧ i.length + j.length ≤ sizeLine ∧ Q (.str (i ++ j)) H) := by
 intro pins s σ H x y v u Q I rx ry h
 obtain ⟨i, j, rfl, rfl, hz, q⟩ := h
 obtain ⟨t, rfl⟩ := rx
 obtain ⟨t', rfl⟩ := ry
 exact add_str (fun t' tk => ⟨.str (i ++ j), H, I.tok _, ⟨_, rfl⟩, q⟩) hz
theorem vals1 {x : V} {us : List Value} (r : Vals [x] us) : ∃ u, us = [u] ∧ RelV x u := by
 cases r with
 | cons r1 r2 => cases r2; exact ⟨_, rfl, r1⟩
theorem vals2 {x y : V} {us : List Value} (r : Vals [x, y] us) : ∃ u w', us = [u, w'] ∧ RelV x u ∧ RelV y w' := by
 cases r with
 | cons r1 r2 =>
  cases r2 with
  | cons r3 r4 => cases r4; exact ⟨_, _, rfl, r1, r3⟩
theorem call_abs : CallR X (.builtin "abs") (fun xs H Q => ∃ i, xs = [.int i] ∧ Q (.int (if i < 0 then -i else i)) H) := by
 intro pins s σ H xs us Q I r h
 obtain ⟨i, rfl, q⟩ := h
 obtain ⟨u, rfl, t, rfl⟩ := vals1 r
 exact call_abs_int fun u tk => ⟨.int (if i < 0 then -i else i), H, I.tok _, ⟨_, rfl⟩, q⟩
theorem call_max2 (hc : X.calm = true) : CallR X (.builtin "max") (fun xs H Q => ∃ i j, xs = [.int i, .int j] ∧ Q (.int (if j > i then j else i)) H) := by
 intro pins s σ H xs us Q I r h
 obtain ⟨i, j, rfl, q⟩ := h
 obtain ⟨u, w', rfl, ⟨t, rfl⟩, ⟨t', rfl⟩⟩ := vals2 r
 refine max_two_ints (I.ok.hd hc) fun h' tk k => ⟨_, H, I.kept k, ?_, q⟩
 by_cases hj : j > i
 ·rw [if_pos hj, if_pos hj]; exact ⟨_, rfl⟩
 ·rw [if_neg hj, if_neg hj]; exact ⟨_, rfl⟩
theorem call_min2 (hc : X.calm = true) : CallR X (.builtin "min") (fun xs H Q => ∃ i j, xs = [.int i, .int j] ∧ Q (.int (if j < i then j else i)) H) := by
 intro pins s σ H xs us Q I r h
 obtain ⟨i, j, rfl, q⟩ := h
 obtain ⟨u, w', rfl, ⟨t, rfl⟩, ⟨t', rfl⟩⟩ := vals2 r
 refine min_two_ints (I.ok.hd hc) fun h' tk k => ⟨_, H, I.kept k, ?_, q⟩
 by_cases hj : j < i
 ·rw [if_pos hj, if_pos hj]; exact ⟨_, rfl⟩
 ·rw [if_neg hj, if_neg hj]; exact ⟨_, rfl⟩
theorem call_int1 : CallR X (.type "int") (fun xs H Q => (∃ i, xs = [.int i] ∧ Q (.int i) H) ∨ ∃ k, xs = [.bl k] ∧ Q (.int (if k then 1 else 0)) H) := by
 intro pins s σ H xs us Q I r h
 rcases h with ⟨i, rfl, q⟩ | ⟨k, rfl, q⟩
 ·obtain ⟨u, rfl, t, rfl⟩ := vals1 r
  exact call_int_int ⟨.int i, H, I, ⟨_, rfl⟩, q⟩
 ·obtain ⟨u, rfl, r1⟩ := vals1 r
  cases r1
  exact call_int_bool ⟨.int (if k then 1 else 0), H, I.tok _, ⟨_, rfl⟩, q⟩
theorem call_str_int : CallR X (.type "str") (fun xs H Q => ∃ i, xs = [.int i] ∧ i.natAbs.log2 < 1920 ∧ Q (.str (toString i)) H) := by
 intro pins s σ H xs us Q I r h
 obtain ⟨i, rfl, hz, q⟩ := h
 obtain ⟨u, rfl, t, rfl⟩ := vals1 r
 exact PySem.P.str_of_int hz ⟨.str _, H, I.tok _, ⟨_, rfl⟩, q⟩
end
end L2
namespace L2
open PySem PySem.Spec PyProof.Rows
section
variable {prog : Program} {w : World} {A : Around} {E : Value → Shared → Prop} {s : Shared} {K : PySem.W.Frag} {x dx C f : Addr} {mA : Str → Option Value} {name : Str} {v : Value}
end
section
variable {P : Program} {w : World} {H H' : Hp} {h h' : Heap} {a C dx : Addr} {fs fs' : List (Str × V)}
end
section
variable {X : Cx} {pins : List (Addr × Obj)} {σ : St} {H : Hp} {s : Shared} {a C dx : Addr} {fs : List (Str × V)} {f : Str} {v : V} {A : Around} {E : Value → Shared → Prop}
end
section
variable {X : Cx} {o e value : Expr} {f : Str} {pos pos' tpos : Pos} {ta tv : TE}
end
section
variable {X : Cx} {pins : List (Addr × Obj)} {σ : St} {H : Hp} {s : Shared} {A : Around} {E : Value → Shared → Prop} {Q : Value → Shared → Prop} {c : Value} {b : Bool}
end
end L2
namespace L2
open PySem PySem.Spec PyProof.Rows
structure Room (k : Nat) (A : Around) : Prop where
 hd : A.handled = none
 dp : A.depth + 3 * k + 5 < recursionLimit
 un : A.units + 16 * k + 200 < cLine
theorem Room.mono {j k : Nat} {A : Around} (r : Room k A) (h : j ≤ k) : Room j A := ⟨r.hd, by have := r.dp; omega, by have := r.un; omega⟩
theorem Room.deeper {k : Nat} {A : Around} (r : Room (k + 1) A) (env : Env) : Room k (A.deeper env) :=
 ⟨r.hd, by have := r.dp; show A.depth + 1 + 3 * k + 5 < _; omega, by have := r.un; show A.units + 3 + 16 * k + 200 < _; omega⟩
theorem Room.depth {k : Nat} {A : Around} (r : Room k A) : A.depth < recursionLimit := by have := r.dp; omega
theorem Room.units {k : Nat} {A : Around} (r : Room k A) : A.units + 64 < cLine := by have := r.un; omega
def tNil : TA := fun _ H Q => Q [] H
def tCons (ta : TE) (tr : TA) : TA := fun σ H Q => ta σ H fun x H1 => tr σ H1 fun xs H2 => Q (x :: xs) H2
section
variable {X : Cx} {e : Expr} {es : List Expr} {te : TE} {t : TA} {pos : Pos}
theorem pa_nil : PA X [] tNil := fun _ _ _ _ H Q I h => Calls.spliced_nil ⟨[], H, I, .nil, h⟩
theorem pa_cons (ha : PE X e te) (hr : PA X es t) (hs : starEach (e :: es) X.env = (false, eval e X.env) :: starEach es X.env := by rfl) : PA X (e :: es) (tCons te t) := by
 intro pos pins s σ H Q I h
 rw [hs]
 show wpAny _ _ (spliced ((false, eval e X.env) :: backTo pos (starEach es X.env))) _ _ s
 refine Calls.spliced_cons (thn (ha pins s σ H _ I h) fun u s1 ⟨x, H1, I1, r1, q1⟩ => ?_)
 exact thn (hr pos pins s1 σ H1 _ I1 q1) fun us s2 ⟨xs, H2, I2, r2, q2⟩ => ⟨x :: xs, H2, I2, .cons r1 r2, q2⟩
def tTup (t : TA) : TE := fun σ H Q => t σ H fun xs H1 => xs.length ≤ sizeLine ∧ ∀ p, H1 p = none → Q (.ref p) (upd H1 p (.tup xs))
def tLst (t : TA) : TE := fun σ H Q => t σ H fun xs H1 => xs.length ≤ sizeLine ∧ ∀ p, H1 p = none → Q (.ref p) (upd H1 p (.lst xs))
theorem pe_tup {x1} (h : PA X es t) : PE X (.Tuple es x1 pos) (tTup t) := by
 intro pins s σ H Q I hq
 refine wpAny_Tuple_spliced (thn (h pos pins s σ H _ I hq) fun us s1 ⟨xs, H1, I1, r, z, q⟩ => ⟨by rw [← r.length]; exact z, ?_⟩)
 have hf : H1 s1.heap.objs.size = none := I1.hok.fresh (Nat.le_refl _)
 refine ⟨.ref s1.heap.objs.size, upd H1 s1.heap.objs.size (.tup xs), I1.laid (t' := s1.toks) (fun b u e => Heap.get?_push_of_some _ e) (Nat.le_refl _) ?_, rfl, q _ hf⟩
 exact ⟨z, us, r, ⟨_, Heap.get?_push_size _ rfl, rfl, _, rfl⟩⟩
theorem pe_lst (h : PA X es t) : PE X (.List es pos) (tLst t) := by
 intro pins s σ H Q I hq
 refine wpAny_List_spliced (thn (h pos pins s σ H _ I hq) fun us s1 ⟨xs, H1, I1, r, z, q⟩ => ⟨by rw [← r.length]; exact z, ?_⟩)
 have hf : H1 s1.heap.objs.size = none := I1.hok.fresh (Nat.le_refl _)
 refine ⟨.ref s1.heap.objs.size, upd H1 s1.heap.objs.size (.lst xs), I1.laid (t' := s1.toks) (fun b u e => Heap.get?_push_of_some _ e) (Nat.le_refl _) ?_, rfl, q _ hf⟩
 exact ⟨z, us, 0, r, Heap.get?_push_size _ rfl⟩
end
abbrev Sp := List V → Hp → VK → XK → Prop
abbrev CXT := List Env → Hp → Shared → XK → Value → Shared → Prop
structure Env0 (P : Program) (w : World) (K : PySem.W.Frag) (mg : Str → Option Value) (base : Heap) (A : Around) (outer : List Env) (s : Shared) (H : Hp) : Prop where
 frames : A.frames = some outer
 mod : Mod K mg base
 bs : ∀ b o, base.get? b = some o → s.heap.get? b = some o ∧ H b = none
 bsz : base.objs.size ≤ s.heap.objs.size
 funs : s.heap.FunFrames base outer
 frf : ∀ b ∈ frs outer, H b = none
 hok : HOk P w H s.heap
 bare : AllBare s.gens
def CE (outer : List Env) (P : Program) (w : World) (H : Hp) (s : Shared) (Q : VK) (u : Value) (s' : Shared) : Prop :=
 ∃ v H', s'.os = s.os ∧ AllBare s'.gens ∧ Un (frs outer) [] H H' s.heap s'.heap ∧ HOk P w H' s'.heap ∧ RelV v u ∧ Q v H'
def CR (CX : CXT) (outer : List Env) (P : Program) (w : World) (H : Hp) (s : Shared) (Q : VK) (E : XK) (r : Result) (s' : Shared) : Prop :=
 match r with
 | .ok (.ret u) => CE outer P w H s Q u s'
 | .ok _ => False
 | .error e => CX outer H s E e s'
structure FnOk (P : Program) (w : World) (K : PySem.W.Frag) (mg : Str → Option Value) (base : Heap) (CX : CXT) (k : Nat) (f : Addr) (fd : FuncData) (ps : List Str) (sp : Sp) : Prop where
 len : ∀ vs H Q E, sp vs H Q E → vs.length = ps.length
 run : ∀ (A : Around) (outer : List Env) (s : Shared) (H : Hp) (args : Args) (us : List Value) (vs : List V) (Q : VK) (E : XK), Room k A → Env0 P w K mg base A outer s H → BindsTo s fd args (ps.zip us) → Vals vs us → sp vs H Q E →
  codeAny (model P w) A (.call (.ref f) args) (CR CX outer P w H s Q E) s
theorem FnOk.mono {P : Program} {w : World} {K : PySem.W.Frag} {mg : Str → Option Value} {base : Heap} {CX : CXT} {j k : Nat} {f : Addr} {fd : FuncData} {ps : List Str} {sp : Sp} (F : FnOk P w K mg base CX j f fd ps sp) (h : j ≤ k) :
  FnOk P w K mg base CX k f fd ps sp := ⟨F.len, fun A outer s H args us vs Q E hr => F.run A outer s H args us vs Q E (hr.mono h)⟩
section
variable {X : Cx} {pins : List (Addr × Obj)} {σ : St} {H : Hp} {s s' : Shared}
theorem Inv.env0 (I : Inv X pins σ H s) : Env0 X.prog X.w X.K X.mg X.base X.A X.stack s H :=
 ⟨I.ok.frames, I.ok.mod, I.bs, Nat.le_trans I.ok.bsz I.sz, I.stack, I.stkFree, I.hok, I.bare⟩
theorem Inv.after {Q : VK} {u : Value} (I : Inv X pins σ H s) (h : CE X.stack X.prog X.w H s Q u s') : EP X pins σ Q u s' := by
 obtain ⟨v, H', os, bare, un, hok, r, q⟩ := h
 obtain ⟨hh, g, d, t, os'⟩ := s'
 obtain rfl : os' = s.os := os
 exact ⟨v, H', I.call (h' := hh) (g' := g) (d' := d) (t' := t) (ch := []) un hok bare (fun b z => absurd z (by simp)), r, q⟩
end
def tCall (sp : Sp) (dvs : List V) (E : XK) (t : TA) : TE := fun σ H Q => t σ H fun vs H1 => sp (vs ++ dvs) H1 Q E
def Binds (K : PySem.W.Frag) (fd : FuncData) (ps : List Str) (ds : List Value) : Prop :=
 ∀ (s : Shared) (us : List Value), K.In s.heap → (us ++ ds).length = ps.length → BindsTo s fd ⟨us, []⟩ (ps.zip (us ++ ds))
theorem Binds.all {K : PySem.W.Frag} {fd : FuncData} {ps : List Str} (h : ∀ us : List Value, us.length = ps.length → bindArgs fd ⟨us, []⟩ = pure (ps.zip us)) : Binds K fd ps [] := fun s us _ hl => by
 rw [List.append_nil] at hl ⊢
 exact .of_eq (h us hl)
def Passes (CX : CXT) (X : Cx) (E : XK) : Prop := ∀ (pins : List (Addr × Obj)) (σ : St) (H : Hp) (s : Shared) (e : Value) (s' : Shared), Inv X pins σ H s → CX X.stack H s E e s' → X.xe e s'
section
variable {X : Cx} {CX : CXT} {k : Nat} {f C : Addr} {fd : FuncData} {ps : List Str} {sp : Sp} {dvs : List V} {ds : List Value} {E : XK} {x m : Str} {p pos apos : Pos} {e o : Expr} {es : List Expr} {ta : TE} {t : TA}
theorem run_fn {pins : List (Addr × Obj)} {σ : St} {H : Hp} {s : Shared} {Q : VK} {us : List Value} {vs : List V} (F : FnOk X.prog X.w X.K X.mg X.base CX k f fd ps sp) (hr : Room k X.A) (hb : Binds X.K fd ps ds) (hd : Vals dvs ds) (hx : Passes CX X E)
  (I : Inv X pins σ H s) (r : Vals vs us) (h : sp (vs ++ dvs) H Q E) : wpAny (model X.prog X.w) X.A (call (.ref f) us) (EP X pins σ Q) X.xe s := by
 have r2 : Vals (vs ++ dvs) (us ++ ds) := r.append hd
 have hl : (us ++ ds).length = ps.length := by rw [← r2.length]; exact F.len _ _ _ _ h
 refine wpAny_call (codeAny_mono (F.run X.A X.stack s H ⟨us, []⟩ (us ++ ds) (vs ++ dvs) Q E hr I.env0 (hb s us I.kIn hl) r2 h) fun r s' hq => ?_)
 cases r with
 | error e => exact hx pins σ H s e s' I hq
 | ok fl =>
  cases fl with
  | ret u => exact I.after hq
  | next => exact False.elim hq
  | brk => exact False.elim hq
  | cont => exact False.elim hq
theorem pe_call (F : FnOk X.prog X.w X.K X.mg X.base CX k f fd ps sp) (hr : Room k X.A) (hg : Gl X x) (hm : X.mg x = some (.ref f)) (hk : PySem.W.keepIn X.K (.ref f) = true) (hb : Binds X.K fd ps ds) (hd : Vals dvs ds) (hx : Passes CX X E)
  (ha : PA X (e :: es) t) (hdb : (x == ("__debug__" : Str)) = false := by decide) (he : starEach (e :: es) X.env = (false, eval e X.env) :: starEach es X.env := by rfl) (hpl : (backTo pos (starEach es X.env)).any (·.1) = false := by rfl) :
  PE X (.Call (.Name x p) (e :: es) [] pos) (tCall sp dvs E t) := by
 intro pins s σ H Q I h
 refine wpAny_Call_Name_kw (ld_glob I hg hm ?_ hdb)
 refine PySem.W.callWith_K (h₀ := X.base) I.ok.mod.kin hk (thn (ha pos pins s σ H _ I h) fun us s1 ⟨vs, H1, I1, r, q⟩ => ⟨I1.kIn, ?_⟩) he hpl
 exact run_fn F hr hb hd hx I1 r q
theorem pe_call0 (F : FnOk X.prog X.w X.K X.mg X.base CX k f fd ps sp) (hr : Room k X.A) (hg : Gl X x) (hm : X.mg x = some (.ref f)) (hk : PySem.W.keepIn X.K (.ref f) = true) (hb : Binds X.K fd ps ds) (hd : Vals dvs ds) (hx : Passes CX X E)
  (hdb : (x == ("__debug__" : Str)) = false := by decide) : PE X (.Call (.Name x p) [] [] pos) (tCall sp dvs E tNil) := by
 intro pins s σ H Q I h
 refine wpAny_Call_Name_kw (ld_glob I hg hm ?_ hdb)
 exact PySem.W.callWith_K0 I.kIn hk (run_fn (us := []) F hr hb hd hx I .nil h)
end
section
variable {X : Cx} {CX : CXT} {k : Nat} {f C : Addr} {fd : FuncData} {ps ks : List Str} {sp : Sp} {E : XK} {x m : Str} {p pos apos kpos : Pos} {e o : Expr} {es : List Expr} {kws : List Keyword} {te ta : TE} {t tk : TA} {nm : Option Str}
variable {g : List Value → List Value → List Value} {gV : List V → List V → List V}
end
structure FnScope (N P : List Str) (sc : Scope) : Prop where
 kind : sc.kind = .function
 co : sc.isCoroutine = false
 gen : sc.isGenerator = false
 nd : N.Nodup
 pre : N.take P.length = P
 par : ∀ x ∈ P, sc.names.lookup x = some .local ∨ sc.names.lookup x = some .cell
 nofree : ∀ y ∈ sc.names, y.2 ≠ .free
theorem bindL_out {kindOf : Str → Option NameKind} {x : Str} : ∀ {binds : List (Str × Value)} {m : Str → Option Value}, (∀ v, (x, v) ∉ binds) → bindL kindOf binds m x = m x
 | [], _, _ => rfl
 | (n, v) :: r, m, h => by
  unfold bindL
  rw [bindL_out fun w hw => h w (List.mem_cons_of_mem _ hw)]
  split
  ·have : x ≠ n := by rintro rfl; exact h v List.mem_cons_self
   simp [this]
  ·rfl
theorem bindC_out {kindOf : Str → Option NameKind} {x : Str} : ∀ {binds : List (Str × Value)} {m : Str → Option Value}, (∀ v, (x, v) ∉ binds) → bindC kindOf binds m x = m x
 | [], _, _ => rfl
 | (n, v) :: r, m, h => by
  unfold bindC
  rw [bindC_out fun w hw => h w (List.mem_cons_of_mem _ hw)]
  split
  ·rfl
  ·have : x ≠ n := by rintro rfl; exact h v List.mem_cons_self
   simp [this]
theorem bindL_get {kindOf : Str → Option NameKind} {x : Str} {v : Value} : ∀ {P : List Str} {vs : List Value} {i : Nat} {m : Str → Option Value}, P.Nodup → P[i]? = some x → vs[i]? = some v → kindOf x = some .local →
  bindL kindOf (P.zip vs) m x = some v
 | [], _, _, _, _, h, _, _ => by simp at h
 | _ :: _, [], _, _, _, _, h, _ => by simp at h
 | p :: P, w :: vs, 0, m, nd, h1, h2, hk => by
  simp at h1 h2; subst h1; subst h2
  show bindL kindOf ((p, w) :: P.zip vs) m p = _
  unfold bindL
  rw [bindL_out fun v hv => (List.nodup_cons.mp nd).1 (List.of_mem_zip hv).1, if_pos hk]
  simp
 | p :: P, w :: vs, i + 1, m, nd, h1, h2, hk => by
  show bindL kindOf ((p, w) :: P.zip vs) m x = _
  unfold bindL
  exact bindL_get (i := i) (List.nodup_cons.mp nd).2 (by simpa using h1) (by simpa using h2) hk
theorem bindC_get {kindOf : Str → Option NameKind} {x : Str} {v : Value} : ∀ {P : List Str} {vs : List Value} {i : Nat} {m : Str → Option Value}, P.Nodup → P[i]? = some x → vs[i]? = some v → kindOf x ≠ some .local →
  bindC kindOf (P.zip vs) m x = some v
 | [], _, _, _, _, h, _, _ => by simp at h
 | _ :: _, [], _, _, _, _, h, _ => by simp at h
 | p :: P, w :: vs, 0, m, nd, h1, h2, hk => by
  simp at h1 h2; subst h1; subst h2
  show bindC kindOf ((p, w) :: P.zip vs) m p = _
  unfold bindC
  rw [bindC_out fun v hv => (List.nodup_cons.mp nd).1 (List.of_mem_zip hv).1, if_neg hk]
  simp
 | p :: P, w :: vs, i + 1, m, nd, h1, h2, hk => by
  show bindC kindOf ((p, w) :: P.zip vs) m x = _
  unfold bindC
  exact bindC_get (i := i) (List.nodup_cons.mp nd).2 (by simpa using h1) (by simpa using h2) hk
def start (N : List Str) (vs : List V) : St := vs.map some ++ List.replicate (N.length - vs.length) none
def cxOf (CX : CXT) (P : Program) (w : World) (K : PySem.W.Frag) (mg : Str → Option Value) (base : Heap) (N : List Str) (qual : Str) (scope : Scope) (f : Addr) (cd : Value) (A : Around) (outer : List Env) (s : Shared) (H : Hp) (E : XK) : Cx where
 prog := P
 w := w
 K := K
 mg := mg
 base := base
 A := A.deeper (envOfC qual scope s.heap.objs.size f cd)
 N := N
 s₀ := s
 H₀ := H
 env := envOfC qual scope s.heap.objs.size f cd
 outer := outer
 stack := envOfC qual scope s.heap.objs.size f cd :: outer
 ex := []
 calm := true
 fn := fun _ => true
 pn := []
 xe := fun e s' => wpAny (model P w) (A.deeper (envOfC qual scope s.heap.objs.size f cd)) (leaving (envOfC qual scope s.heap.objs.size f cd) e) (fun _ s'' => CX outer H s E e s'') (fun e' s'' => CX outer H s E e' s'') s'
theorem cell_has {sc : Scope} {n : Nat} {x : Str} (h : sc.names.lookup x = some .cell) : ∃ c, (cellsFrom n sc.names []).lookup x = some c := by
 have q := PySem.W.cellsFrom_some sc.names n [] (.inl h)
 exact Option.isSome_iff_exists.mp q
theorem inv_start {CX : CXT} {P : Program} {w : World} {K : PySem.W.Frag} {mg : Str → Option Value} {base : Heap} {N ps : List Str} {qual : Str} {scope : Scope} {f : Addr} {cd : Value} {A : Around} {outer : List Env} {s s1 : Shared} {H : Hp} {E : XK} {us : List Value} {vs : List V}
  (S : FnScope N ps scope) (hd : A.handled = none) (e0 : Env0 P w K mg base A outer s H) (hl : vs.length = ps.length) (r : Vals vs us)
  (x : InCallC s s.heap.objs.size (bindL (envOfC qual scope s.heap.objs.size f cd).kindOf (ps.zip us) fun _ => none) (cellsFrom (s.heap.objs.size + 1) scope.names []) (bindC (envOfC qual scope s.heap.objs.size f cd).kindOf (ps.zip us) fun _ => none) s1) :
  Inv (cxOf CX P w K mg base N qual scope f cd A outer s H E) [] (start N vs) H s1 := by
 have hpl : ps.length ≤ N.length := by have := congrArg List.length S.pre; rw [List.length_take] at this; omega
 obtain ⟨h1, tk, rfl, hk⟩ := x.done
 have noA : ∀ b : Addr, b ∉ (cxOf CX P w K mg base N qual scope f cd A outer s H E).ex := fun b z => absurd (show b ∈ ([] : List Addr) from z) (by simp)
 refine ⟨⟨e0.mod, S.kind, rfl, rfl, Nat.le_refl _, fun y z c h1 h2 => ?_, fun y hy => ?_, fun y c _ h => ?_, fun _ => hd, Around.frames_deeper e0.frames, .inr ⟨rfl, rfl⟩, fun b z => absurd z (noA b), e0.bs, e0.bsz, fun b _ _ => noA b, fun b z => absurd z (noA b), e0.funs, e0.frf⟩,
  rfl, e0.bare, Un.kept hk, ⟨_, x.toInCall.ns, fun i y v h1 h2 h3 => ?_⟩, fun y c h => ⟨_, x.cell y c h⟩, e0.hok.fresh (Nat.le_refl _), fun y c h => ?_, fun p hp => absurd (show p ∈ ([] : List (Addr × Obj)) from hp) (by simp), e0.hok.kept hk, ?_⟩
 ·exact name_of_addr x.apart (PySem.mem_of_lookup h1) (PySem.mem_of_lookup h2)
 ·have hy : scope.names.lookup y = some .cell ∨ scope.names.lookup y = some .free := hy
  rcases hy with hy | hy
  ·exact cell_has hy
  ·exact absurd rfl (S.nofree _ (PySem.mem_of_lookup hy))
 ·exact Nat.le_of_lt (x.above y c (PySem.mem_of_lookup h))
 ·have hi : i < vs.length := by
   unfold start at h2
   by_cases hi : i < vs.length
   ·exact hi
   ·rw [List.getElem?_append_right (by simpa using hi)] at h2
    rw [List.getElem?_replicate] at h2
    split at h2 <;> cases h2
  have ha : vs[i]? = some v := by
   unfold start at h2
   rw [List.getElem?_append_left (by simpa using hi), List.getElem?_map] at h2
   cases e : vs[i]? with
   | none => rw [e] at h2; cases h2
   | some a => rw [e] at h2; cases h2; rfl
  obtain ⟨u, hu, rv⟩ := r.get ha
  have hp : ps[i]? = some y := by
   rw [← S.pre, List.getElem?_take_of_lt (by omega)]; exact h1
  have ndP : ps.Nodup := by rw [← S.pre]; exact S.nd.sublist (List.take_sublist _ _)
  refine ⟨u, rv, ?_⟩
  rcases S.par y (List.mem_of_getElem? hp) with k | k
  ·exact .inl ⟨k, bindL_get ndP hp hu k⟩
  ·obtain ⟨c, e⟩ := cell_has (n := s.heap.objs.size + 1) k
   refine .inr ⟨.inl k, c, e, ?_⟩
   have q := x.cell y c e
   rw [bindC_get ndP hp hu (by show scope.names.lookup y ≠ _; rw [k]; decide)] at q
   exact q
 ·exact e0.hok.fresh (Nat.le_of_lt (x.above y c (PySem.mem_of_lookup h)))
 ·unfold start
  show _ = N.length
  rw [List.length_append, List.length_map, List.length_replicate]
  omega
theorem fn_of {CX : CXT} {P : Program} {w : World} {K : PySem.W.Frag} {mg : Str → Option Value} {base : Heap} {k : Nat} {f : Addr} {name qual : Str} {params : Arguments} {body : List Stmt} {scope : Scope} {dV kV doc pm cdv ct oc : Value} {an od : Option Addr}
  {osl : Array (Option Value)} {N ps : List Str} {sp : Sp} (lk : K.lookup f = some ⟨oc, od, .func (PySem.W.fnOf name qual params body scope dV kV doc pm an cdv ct), osl⟩) (hcd : PySem.W.codeIn K cdv qual = true) (S : FnScope N ps scope)
  (len : ∀ vs H Q E, sp vs H Q E → vs.length = ps.length)
  (hbody : ∀ (A : Around) (outer : List Env) (s : Shared) (H : Hp) (vs : List V) (Q : VK) (E : XK), Room k (A.deeper (envOfC qual scope s.heap.objs.size f cdv)) → sp vs H Q E →
   ∃ t, PSs (cxOf CX P w K mg base N qual scope f cdv A outer s H E) body t ∧ t { nx := fun _ H' => Q .non H', rt := Q } (start N vs) H) :
  FnOk P w K mg base CX (k + 1) f (PySem.W.fnOf name qual params body scope dV kV doc pm an cdv ct) ps sp := by
 refine ⟨len, fun A outer s H args us vs Q E hr e0 hb r hsp => ?_⟩
 have hl := len _ _ _ _ hsp
 have KX : K.In s.heap := e0.mod.kin.keeps fun b o e => (e0.bs b o e).1
 have lim : s.heap.NoLimit := e0.mod.nolimit.keeps fun b o e => (e0.bs b o e).1
 have hkind : ∀ y ∈ ps.zip us, scope.names.lookup y.1 = some .local ∨ (scope.names.lookup y.1 = some .cell ∧ ((cellsFrom (s.heap.objs.size + 1) scope.names []).lookup y.1).isSome = true) := fun ⟨n, v⟩ hy => by
  rcases S.par n (List.of_mem_zip hy).1 with q | q
  ·exact .inl q
  ·exact .inr ⟨q, PySem.W.cellsFrom_some _ _ _ (.inl q)⟩
 refine codeAny_call_function hr.depth (KX _ _ lk) rfl S.co S.gen rfl (PySem.W.codeRec_of KX hcd) (hb _ _ _ _ ?_)
 refine wpAny_newFunctionEnv_cells S.kind hkind fun env he s1 x => ?_
 subst he
 refine ⟨lim.keeps x.toInCall.keep, codeAny_func ?_⟩
 obtain ⟨t, ht, hq⟩ := hbody A outer s H vs Q E (hr.deeper _) hsp
 have I : Inv (cxOf CX P w K mg base N qual scope f cdv A outer s H E) [] (start N vs) H s1 := inv_start S hr.hd e0 hl r x
 refine wpAny_mono (ht [] s1 (start N vs) H _ I hq) (fun fl s' hs => ?_) fun e s' hs => hs
 have fin : ∀ {σ' : St} {H' : Hp} {v : V} {u : Value}, Inv (cxOf CX P w K mg base N qual scope f cdv A outer s H E) [] σ' H' s' → RelV v u → Q v H' → CE outer P w H s Q u s' :=
  fun {σ' H' v u} J rv q => ⟨v, H', J.os, J.bare, J.base, J.hok, rv, q⟩
 cases fl with
 | ret u =>
  obtain ⟨v, σ', H', J, rv, q⟩ := hs
  exact fin J rv q
 | next =>
  obtain ⟨σ', H', J, q⟩ := hs
  exact fin (v := V.non) (u := Value.none) J rfl q
 | brk =>
  obtain ⟨_, _, _, q⟩ := hs
  exact False.elim q
 | cont =>
  obtain ⟨_, _, _, q⟩ := hs
  exact False.elim q
end L2
namespace L2
open PySem PySem.Spec PyProof.Rows
section
variable {X : Cx} {x : Str} {p pos : Pos} {e : Expr} {es : List Expr} {t : TA} {id T : String} {r : List V → Hp → VK → Prop}
def tCB (r : List V → Hp → VK → Prop) (t : TA) : TE := fun σ H Q => t σ H fun vs H1 => r vs H1 Q
theorem pe_callB (hc : CallR X (.builtin id) r) (hg : Gl X x) (hm : X.mg x = none) (hv : bootBuiltins x = some (.builtin id)) (ha : PA X (e :: es) t) (hn : x ≠ "__name__" := by decide) (hdb : (x == ("__debug__" : Str)) = false := by decide)
  (he : starEach (e :: es) X.env = (false, eval e X.env) :: starEach es X.env := by rfl) (hpl : (backTo pos (starEach es X.env)).any (·.1) = false := by rfl) : PE X (.Call (.Name x p) (e :: es) [] pos) (tCB r t) := by
 intro pins s σ H Q I h
 refine wpAny_Call_Name_kw (ld_blt I hg hm hv ?_ hn hdb)
 exact PyProof.Rows.callWith_builtin1 (thn (ha pos pins s σ H _ I h) fun us s1 ⟨vs, H1, I1, r1, q1⟩ => hc pins s1 σ H1 vs us Q I1 r1 q1) he hpl
theorem pe_callTy (hc : CallR X (.type T) r) (hg : Gl X x) (hm : X.mg x = none) (hv : bootBuiltins x = some (.type T)) (ha : PA X (e :: es) t) (hn : x ≠ "__name__" := by decide) (hdb : (x == ("__debug__" : Str)) = false := by decide)
  (he : starEach (e :: es) X.env = (false, eval e X.env) :: starEach es X.env := by rfl) (hpl : (backTo pos (starEach es X.env)).any (·.1) = false := by rfl) : PE X (.Call (.Name x p) (e :: es) [] pos) (tCB r t) := by
 intro pins s σ H Q I h
 refine wpAny_Call_Name_kw (ld_blt I hg hm hv ?_ hn hdb)
 exact PyProof.Rows.callWith_type1 (thn (ha pos pins s σ H _ I h) fun us s1 ⟨vs, H1, I1, r1, q1⟩ => hc pins s1 σ H1 vs us Q I1 r1 q1) he hpl
end
end L2
namespace HT
open PySem PyProof.Rows
section
open PySem.SeqAt
open PySem.AutoSeq1 (wpAny_loadPart')
open PySem.MeetsSeq PySem.MeetsSeq2 PySem.MeetsSeq3
end
section
variable {prog : Program} {w : World} {A : Around} {E : Value → Shared → Prop} {s : Shared}
theorem cat_tup {t b : Addr} {vs ws : List Value} {Q : Value → Shared → Prop} (ht : IsTup s.heap t vs.toArray) (hb : IsTup s.heap b ws.toArray) (hv : vs ≠ [])
  (h1 : ws = [] → Q (.ref t) s) (h2 : ws ≠ [] → Q (.ref s.heap.objs.size) { s with heap := s.heap.push { cls := .type "tuple", data := .seq (vs ++ ws).toArray } })
  (hsz : vs.length + ws.length ≤ sizeLine) : wpAny (model prog w) A (binaryOp .Add (.ref t) (.ref b)) Q E s := by
 obtain ⟨⟨cls, dd, data, sl⟩, ho, hc, n, hd⟩ := id ht
 obtain ⟨⟨cls2, dd2, data2, sl2⟩, ho2, hc2, n2, hd2⟩ := id hb
 simp only at hc hd hc2 hd2
 subst hc hd hc2 hd2
 have e : vs.toArray ++ ws.toArray = (vs ++ ws).toArray := by simp
 by_cases hw : ws = []
 ·exact concat_meets ⟨_, ho, rfl⟩ ⟨_, ho2, rfl⟩ noFill_tuple_add seq_tuple_add PySem.F.slot_tuple_add PySem.F.entry_tuple_add (PySem.F.args_tuple_add_2 _ _)
   (tuple_addW1 t b vs.toArray ws.toArray n n2 dd dd2 sl sl2 (by simpa using hv) (by simp [hw])) ⟨ho, ho2, h1 hw⟩
 ·refine concat_meets ⟨_, ho, rfl⟩ ⟨_, ho2, rfl⟩ noFill_tuple_add seq_tuple_add PySem.F.slot_tuple_add PySem.F.entry_tuple_add (PySem.F.args_tuple_add_2 _ _)
   (tuple_addW2 t b vs.toArray ws.toArray n n2 dd dd2 sl sl2 (by simpa using hv) (by simpa using hw) (by rw [List.size_toArray, List.size_toArray]; exact hsz)) ⟨ho, ho2, ?_⟩
  rw [e]
  exact h2 hw
def sIx (n d : Nat) : Option Int → Nat
 | none => d
 | some v => if v < 0 then (v + (n : Int)).toNat else min v.toNat n
theorem sIx_none (n d : Nat) : sIx n d none = d := rfl
theorem sIx_nat (n d k : Nat) : sIx n d (some (k : Int)) = min k n := by
 show (if (k : Int) < 0 then ((k : Int) + (n : Int)).toNat else min (k : Int).toNat n) = min k n
 rw [if_neg (by omega), Int.toNat_natCast]
theorem sIx_le (n d : Nat) (hd : d ≤ n) (o : Option Int) : sIx n d o ≤ n := by
 cases o with
 | none => exact hd
 | some v =>
  show (if v < 0 then (v + (n : Int)).toNat else min v.toNat n) ≤ n
  by_cases hv : v < 0
  ·rw [if_pos hv]; omega
  ·rw [if_neg hv]; exact Nat.min_le_right _ _
theorem clip_eq (v : Int) (n d : Nat) : (if v < 0 then max (v + (n : Int)) 0 else min v (n : Int)) = ((sIx n d (some v) : Nat) : Int) := by
 show (if v < 0 then max (v + (n : Int)) 0 else min v (n : Int)) = (((if v < 0 then (v + (n : Int)).toNat else min v.toNat n) : Nat) : Int)
 by_cases hv : v < 0
 ·simp only [if_pos hv]; omega
 ·simp only [if_neg hv]; omega
theorem adjust_gen (lo hi : Option Int) (n : Nat) : Builtin.Slice.sliceAdjust lo hi 1 (n : Int) = (((sIx n 0 lo : Nat) : Int), ((sIx n n hi : Nat) : Int)) := by
 have h1 : ¬ ((1 : Int) < 0) := by omega
 unfold Builtin.Slice.sliceAdjust
 simp only [h1, if_false]
 refine Prod.ext ?_ ?_
 ·cases lo with
  | none => rfl
  | some v => exact clip_eq v n 0
 ·cases hi with
  | none => rfl
  | some v => exact clip_eq v n n
theorem places_gen (i j : Nat) : Builtin.Slice.slicePlaces (i : Int) (j : Int) 1 = j - i := by
 unfold Builtin.Slice.slicePlaces
 have h1 : (1 : Int) > 0 := by omega
 simp only [h1, if_true, Int.ediv_one]
 split <;> omega
theorem slicePart_ {v : Value} {o : Option Int} {Q : Option Int → Shared → Prop} (p : IsPart v o) (h : Q o s) : wpAny (model prog w) A (Builtin.Slice.slicePartIndex v) Q E s := by
 cases p with
 | none => exact slicePart_none h
 | int i t => exact slicePart_int h
theorem sliceApplied_gen {sl : Addr} {vl vu : Value} {lo hi : Option Int} {n : Nat} {Q : Int × Int × Nat → Shared → Prop} (hs : s.heap.IsSliceOf sl vl vu .none) (pl : IsPart vl lo) (pu : IsPart vu hi)
  (h : Q (((sIx n 0 lo : Nat) : Int), 1, sIx n n hi - sIx n 0 lo) s) : wpAny (model prog w) A (Builtin.Slice.sliceApplied (.ref sl) (pure (n : Int))) Q E s := by
 obtain ⟨os, hos, hcs, hds⟩ := id hs
 unfold Builtin.Slice.sliceApplied Builtin.Slice.sliceFields
 refine wpAny_bind (wpAny_bind (wpAny_field hos hds (x := vl) rfl (wpAny_bind (wpAny_field hos hds (x := vu) rfl (wpAny_bind (wpAny_field hos hds (x := .none) rfl (wpAny_pure ?_)))))))
 refine wpAny_bind (slicePart_none ?_)
 show wpAny _ _ (if ((1 : Int) == 0) = true then _ else _) _ _ s
 rw [if_neg (by decide)]
 refine wpAny_bind (slicePart_ pl (wpAny_bind (slicePart_ pu (wpAny_bind (wpAny_pure ?_)))))
 show wpAny _ _ (match Builtin.Slice.sliceAdjust lo hi 1 (n : Int) with | (lo, hi) => pure (lo, (1 : Int), Builtin.Slice.slicePlaces lo hi 1)) _ _ s
 rw [adjust_gen lo hi n]
 show wpAny _ _ (pure (((sIx n 0 lo : Nat) : Int), (1 : Int), Builtin.Slice.slicePlaces ((sIx n 0 lo : Nat) : Int) ((sIx n n hi : Nat) : Int) 1)) _ _ s
 rw [places_gen]
 exact wpAny_pure h
theorem pick_gen (xs : Array Value) (i k : Nat) : ((List.range k).filterMap fun (m : Nat) => xs[((i : Int) + (m : Int) * 1).toNat]?).toArray = ((xs.toList.drop i).take k).toArray := by
 have e : (fun (m : Nat) => xs[((i : Int) + (m : Int) * 1).toNat]?) = fun m => xs[i + m]? := by
  funext m
  have : ((i : Int) + (m : Int) * 1).toNat = i + m := by omega
  rw [this]
 rw [e]
 have := pick_run xs i k
 rw [List.filterMap_map] at this
 have e2 : ((fun x => xs[x]?) ∘ fun x => i + x) = fun m => xs[i + m]? := rfl
 rw [e2] at this
 rw [this]
theorem getItem_tuple_cut {t sl : Addr} {items : Array Value} {vl vu : Value} {lo hi : Option Int} {Q : Value → Shared → Prop} (ht : IsTup s.heap t items) (hs : s.heap.IsSliceOf sl vl vu .none) (pl : IsPart vl lo) (pu : IsPart vu hi)
  (hw : ¬ (sIx items.size 0 lo = 0 ∧ sIx items.size items.size hi = items.size))
  (h : Q (.ref s.heap.objs.size) { s with heap := s.heap.push { cls := .type "tuple", data := .seq ((items.toList.drop (sIx items.size 0 lo)).take (sIx items.size items.size hi - sIx items.size 0 lo)).toArray } })
  (hsz : items.size ≤ sizeLine) : wpAny (model prog w) A (getItem (.ref t) (.ref sl)) Q E s := by
 have htake : sizeOk (.seq ((items.toList.drop (sIx items.size 0 lo)).take (sIx items.size items.size hi - sIx items.size 0 lo)).toArray) := by
  show ((items.toList.drop (sIx items.size 0 lo)).take (sIx items.size items.size hi - sIx items.size 0 lo)).toArray.size ≤ sizeLine
  rw [List.size_toArray, List.length_take, List.length_drop, Array.length_toList]
  omega
 have hj : sIx items.size items.size hi ≤ items.size := sIx_le _ _ (Nat.le_refl _) hi
 obtain ⟨os, hos, hcs, hds⟩ := id hs
 have hTs : s.TypeIs (.ref sl) "slice" := ⟨os, hos, hcs⟩
 unfold getItem
 try with_reducible refine wpAny_holding ?_
 first | refine wpAny_bind (wpAny_pure ?_) | skip
 refine wpAny_bind (wpAny_sequenceKey ht.typeIs (by decide) ?_)
 refine wpAny_bind (wpAny_callSpecial?_slot (name := Str.ofString "__getitem__") ht.typeIs PyProof.Rows.slot_tuple_getitem
  (wpAny_call_entry PyProof.Rows.slot_tuple_getitem ht.typeIs entry_tuple_getitem ?_ (args_tuple_getitem _ _)))
 show wpAny _ _ (Builtin.Tuple.tupleItemsOf (.ref t) >>= _) _ _ s
 refine wpAny_bind (tupleItemsOf_ ht ?_)
 refine wpAny_bind (wpAny_typeOf hTs ?_)
 rw [if_pos (by decide)]
 refine wpAny_bind (sliceApplied_gen hs pl pu ?_)
 have hno : ¬ ((((sIx items.size 0 lo : Nat) : Int) == 0 && (1 : Int) == 1 && (sIx items.size items.size hi - sIx items.size 0 lo) == items.size) = true) := by
  intro q
  rw [Bool.and_eq_true, Bool.and_eq_true] at q
  have q1 : ((sIx items.size 0 lo : Nat) : Int) = 0 := eq_of_beq q.1.1
  have q2 : sIx items.size items.size hi - sIx items.size 0 lo = items.size := eq_of_beq q.2
  exact hw ⟨by omega, by omega⟩
 show wpAny _ _ (if (((sIx items.size 0 lo : Nat) : Int) == 0 && (1 : Int) == 1 && (sIx items.size items.size hi - sIx items.size 0 lo) == items.size) = true then _ else _) _ _ s
 rw [if_neg hno, pick_gen]
 first
  | exact wpAny_bind (m := Builtin.Tuple.tupleExact _) (wpAny_newObj_type (wpAny_pure ⟨_, rfl, wpAny_pure h⟩) htake)
  | exact wpAny_bind (m := Builtin.Tuple.tupleExact _) (wpAny_newObj_type (wpAny_bind (wpAny_pure (wpAny_pure ⟨_, rfl, wpAny_pure h⟩))) htake)
  | exact wpAny_bind (wpAny_bind (m := Builtin.Tuple.tupleExact _) (wpAny_newObj_type (wpAny_pure (wpAny_pure ⟨_, rfl, wpAny_pure h⟩)) htake))
  | exact wpAny_bind (wpAny_bind (m := Builtin.Tuple.tupleExact _) (wpAny_newObj_type (wpAny_pure ⟨_, rfl, wpAny_pure h⟩) htake))
end
end HT
namespace L2
open PySem PySem.Spec PyProof.Rows
abbrev TO := St → Hp → (Option Int → Hp → Prop) → Prop
def PO (X : Cx) (e : Option Expr) (t : TO) : Prop :=
 ∀ (pins : List (Addr × Obj)) (s : Shared) (σ : St) (H : Hp) (Q : Option Int → Hp → Prop), Inv X pins σ H s → t σ H Q →
  wpAny (model X.prog X.w) X.A (evalPart e X.env) (fun u s' => ∃ o H', Inv X pins σ H' s' ∧ IsPart u o ∧ Q o H') X.xe s
def tNoPart : TO := fun _ H Q => Q none H
def tPart (t : TE) : TO := fun σ H Q => t σ H fun x H1 => ∃ i, x = .int i ∧ Q (some i) H1
section
variable {X : Cx} {e : Expr} {te : TE} {lo hi : Option Expr} {tl th : TO} {pos p2 : Pos}
theorem po_none : PO X none tNoPart := by
 intro pins s σ H Q I h
 rw [evalPart_none]
 exact wpAny_pure ⟨none, H, I, .none, h⟩
theorem po_some (h : PE X e te) : PO X (some e) (tPart te) := by
 intro pins s σ H Q I hw
 rw [evalPart_some]
 refine thn (h pins s σ H _ I hw) fun u s1 ⟨x, H1, I1, r1, q1⟩ => ?_
 obtain ⟨i, rfl, q⟩ := q1
 obtain ⟨t, rfl⟩ := r1
 exact ⟨some i, H1, I1, .int i t, q⟩
def SlR (X : Cx) (r : V → Option Int → Option Int → Hp → VK → Prop) : Prop :=
 ∀ (pins : List (Addr × Obj)) (s : Shared) (σ : St) (H : Hp) (x : V) (v vl vu : Value) (lo hi : Option Int) (sl : Addr) (Q : VK), Inv X pins σ H s → RelV x v → s.heap.IsSliceOf sl vl vu .none → IsPart vl lo → IsPart vu hi → r x lo hi H Q →
  ∃ T id, typeLookup (.type T) "__getitem__" = pure (some (.builtin id)) ∧ s.TypeIs v T ∧ wpAny (model X.prog X.w) X.A (getItem v (.ref sl)) (EP X pins σ Q) X.xe s
theorem SlR.or {r r' : V → Option Int → Option Int → Hp → VK → Prop} (h : SlR X r) (h' : SlR X r') : SlR X (fun x lo hi H Q => r x lo hi H Q ∨ r' x lo hi H Q) := by
 intro pins s σ H x v vl vu lo hi sl Q I rx hs pl pu q
 rcases q with q | q
 ·exact h pins s σ H x v vl vu lo hi sl Q I rx hs pl pu q
 ·exact h' pins s σ H x v vl vu lo hi sl Q I rx hs pl pu q
def tSl (r : V → Option Int → Option Int → Hp → VK → Prop) (te : TE) (tl th : TO) : TE := fun σ H Q => te σ H fun x H1 => tl σ H1 fun l H2 => th σ H2 fun u H3 => r x l u H3 Q
theorem pe_slice {r : V → Option Int → Option Int → Hp → VK → Prop} (hr : SlR X r) (he : PE X e te) (hl : PO X lo tl) (hu : PO X hi th) : PE X (.Subscript e (.Slice lo hi none p2) pos) (tSl r te tl th) := by
 intro pins s σ H Q I h
 refine Subscript_ (thn (he pins s σ H _ I h) fun v s1 ⟨x, H1, I1, r1, q1⟩ => ?_)
 refine wpAny_Slice (thn (hl pins s1 σ H1 _ I1 q1) fun vl s2 ⟨l, H2, I2, pl, q2⟩ => thn (hu pins s2 σ H2 _ I2 q2) fun vu s3 ⟨u, H3, I3, pu, q3⟩ => ?_)
 rw [evalPart_none]
 refine wpAny_pure ?_
 have I4 : Inv X pins σ H3 { s3 with heap := s3.heap.push { cls := .type "slice", data := .fields #[vl, vu, .none] } } := I3.kept (t' := s3.toks) fun b ob q => Heap.get?_push_of_some _ q
 obtain ⟨T, id, hT, ht, hg⟩ := hr pins { s3 with heap := s3.heap.push { cls := .type "slice", data := .fields #[vl, vu, .none] } } σ H3 x v vl vu l u s3.heap.objs.size Q I4 r1 (Heap.IsSliceOf.new ..) pl pu q3
 show wpAny (model X.prog X.w) X.A (subscriptTail e (.Slice lo hi none p2) v (.ref s3.heap.objs.size)) (EP X pins σ Q) X.xe { s3 with heap := s3.heap.push { cls := .type "slice", data := .fields #[vl, vu, .none] } }
 exact tail_any (ops := [.ref s3.heap.objs.size, v]) ht hT hg (by with_unfolding_all rfl)
def cutV (xs : List V) (lo hi : Option Int) : List V := (xs.drop (HT.sIx xs.length 0 lo)).take (HT.sIx xs.length xs.length hi - HT.sIx xs.length 0 lo)
theorem cutV_length (xs : List V) (lo hi : Option Int) : (cutV xs lo hi).length ≤ xs.length := by
 unfold cutV
 rw [List.length_take, List.length_drop]
 omega
def rSlT (K : PySem.W.Frag) : V → Option Int → Option Int → Hp → VK → Prop := fun x lo hi H Q => ∃ a xs, x = .ref a ∧ SqT K H a xs ∧
 ¬ (HT.sIx xs.length 0 lo = 0 ∧ HT.sIx xs.length xs.length hi = xs.length) ∧ ∀ p, H p = none → Q (.ref p) (upd H p (.tup (cutV xs lo hi)))
theorem sl_tup : SlR X (rSlT X.K) := by
 intro pins s σ H x v vl vu lo hi sl Q I rx hs pl pu h
 obtain ⟨a, xs, rfl, hx, hw, q⟩ := h
 cases rx
 obtain ⟨its, r, ht, hz⟩ := I.tuple hx
 have hlen : its.toArray.size = xs.length := by rw [List.size_toArray]; exact r.length.symm
 refine ⟨"tuple", _, PyProof.Rows.slot_tuple_getitem.lookup, ht.typeIs, ?_⟩
 refine HT.getItem_tuple_cut ht hs pl pu (by rw [hlen]; exact hw) ?_ (by rw [hlen]; exact hz)
 rw [hlen]
 refine ⟨.ref s.heap.objs.size, _, I.laid (t' := s.toks) (o := .tup (cutV xs lo hi)) (fun b ob q => Heap.get?_push_of_some _ q) (Nat.le_refl _) ?_, rfl, q _ (I.hok.fresh (Nat.le_refl _))⟩
 exact ⟨Nat.le_trans (cutV_length xs lo hi) hz, _, (r.drop (HT.sIx xs.length 0 lo)).take (HT.sIx xs.length xs.length hi - HT.sIx xs.length 0 lo), IsTup.new _ _⟩
def rCatT (K : PySem.W.Frag) : R2 := fun x y H Q => ∃ a b xs ys, x = .ref a ∧ y = .ref b ∧ SqT K H a xs ∧ SqT K H b ys ∧ xs ≠ [] ∧ xs.length + ys.length ≤ sizeLine ∧
 (ys = [] → Q (.ref a) H) ∧ (ys ≠ [] → ∀ p, H p = none → Q (.ref p) (upd H p (.tup (xs ++ ys))))
theorem Vals.nil_iff {xs : List V} {us : List Value} (r : Vals xs us) : us = [] ↔ xs = [] := by
 cases r with
 | nil => simp
 | cons _ _ => simp
theorem op_catT : OpR X (binaryOp .Add) (rCatT X.K) := by
 intro pins s σ H x y v u Q I rx ry h
 obtain ⟨a, b, xs, ys, rfl, rfl, ha, hb, hx, hz, q1, q2⟩ := h
 cases rx
 cases ry
 obtain ⟨its, r1, p1, _⟩ := I.tuple ha
 obtain ⟨its2, r2, p2, _⟩ := I.tuple hb
 refine HT.cat_tup p1 p2 (fun z => hx (r1.nil_iff.mp z)) (fun z => ⟨.ref a, H, I, rfl, q1 (r2.nil_iff.mp z)⟩) (fun z => ?_) (by rw [← r1.length, ← r2.length]; exact hz)
 refine ⟨.ref s.heap.objs.size, _, I.laid (t' := s.toks) (o := .tup (xs ++ ys)) (fun b ob q => Heap.get?_push_of_some _ q) (Nat.le_refl _) ?_, rfl, q2 (fun w => z (r2.nil_iff.mpr w)) _ (I.hok.fresh (Nat.le_refl _))⟩
 exact ⟨by rw [List.length_append]; exact hz, _, r1.append r2, IsTup.new _ _⟩
end
end L2
namespace L2
open PySem PySem.Spec PyProof.Rows
def ixN (n : Nat) (i : Int) : Option Nat := if 0 ≤ i then (if i < n then some i.toNat else none) else if -(n : Int) ≤ i then some (i + n).toNat else none
def atI {α : Type} (xs : List α) (i : Int) : Option α := (ixN xs.length i).bind fun j => xs[j]?
theorem ixN_seq {n : Nat} {i : Int} {j : Nat} (h : ixN n i = some j) : seqIndex? i n = some j ∧ j < n ∧ -(n : Int) ≤ i ∧ i < n := by
 unfold ixN at h
 by_cases h0 : 0 ≤ i
 ·rw [if_pos h0] at h
  by_cases h1 : i < n
  ·rw [if_pos h1] at h
   have e : i.toNat = j := Option.some.inj h
   exact ⟨by rw [seqIndex_of h0 h1, e], by omega, by omega, h1⟩
  ·rw [if_neg h1] at h; cases h
 ·rw [if_neg h0] at h
  by_cases h1 : -(n : Int) ≤ i
  ·rw [if_pos h1] at h
   have e : (i + n).toNat = j := Option.some.inj h
   exact ⟨by rw [seqIndex_neg (by omega) h1, e], by omega, h1, by omega⟩
  ·rw [if_neg h1] at h; cases h
theorem atI_get {α : Type} {xs : List α} {i : Int} {v : α} (h : atI xs i = some v) : ∃ j, seqIndex? i xs.length = some j ∧ xs[j]? = some v ∧ j < xs.length ∧ -(xs.length : Int) ≤ i ∧ i < xs.length := by
 unfold atI at h
 cases e : ixN xs.length i with
 | none => rw [e] at h; cases h
 | some j =>
  rw [e] at h
  obtain ⟨h1, h2, h3, h4⟩ := ixN_seq e
  exact ⟨j, h1, h, h2, h3, h4⟩
theorem atI_nat {α : Type} {xs : List α} {j : Nat} {v : α} (h : xs[j]? = some v) : atI xs (j : Int) = some v := by
 have hj : j < xs.length := (List.getElem?_eq_some_iff.mp h).1
 have e : ixN xs.length (j : Int) = some j := by
  unfold ixN
  rw [if_pos (by omega), if_pos (by omega)]; simp
 unfold atI; rw [e]; exact h
def PlainIx (b : Expr) : Prop := ∀ o i, subscripted b false o i = operate [o, i] (getItem o i)
def IxR (X : Cx) (r : R2) : Prop :=
 ∀ (value slice : Expr) (pins : List (Addr × Obj)) (s : Shared) (σ : St) (H : Hp) (x y : V) (v u : Value) (Q : VK), Inv X pins σ H s → RelV x v → RelV y u → r x y H Q →
  subscripted slice false v u = operate [v, u] (getItem v u) → wpAny (model X.prog X.w) X.A (subscriptTail value slice v u) (EP X pins σ Q) X.xe s
def MtR (X : Cx) (id : String) (r : V → List V → Hp → VK → Prop) : Prop :=
 ∀ (pins : List (Addr × Obj)) (s : Shared) (σ : St) (H : Hp) (x : V) (xs : List V) (v : Value) (us : List Value) (Q : VK), Inv X pins σ H s → RelV x v → Vals xs us → r x xs H Q →
  wpAny (model X.prog X.w) X.A (call (.builtin id) (v :: us)) (EP X pins σ Q) X.xe s
section
variable {X : Cx} {a b : Expr} {ta tb : TE} {pos : Pos}
theorem IxR.or {r r' : R2} (h : IxR X r) (h' : IxR X r') : IxR X (fun x y H Q => r x y H Q ∨ r' x y H Q) := by
 intro value slice pins s σ H x y v u Q I rx ry q hs
 rcases q with q | q
 ·exact h value slice pins s σ H x y v u Q I rx ry q hs
 ·exact h' value slice pins s σ H x y v u Q I rx ry q hs
theorem pe_ix {r : R2} (hr : IxR X r) (ha : PE X a ta) (hb : PE X b tb) (hs : PlainIx b) : PE X (.Subscript a b pos) (tOp r ta tb) := by
 intro pins s σ H Q I h
 exact Subscript_ (binT ha hb I h fun v u s2 x y H2 I2 rx ry q => hr a b pins s2 σ H2 x y v u Q I2 rx ry q (hs _ _))
def rIxL (K : PySem.W.Frag) : R2 := fun x y H Q => ∃ p xs i v, x = .ref p ∧ y = .int i ∧ SqL K H p xs ∧ atI xs i = some v ∧ Q v H
def rIxT (K : PySem.W.Frag) : R2 := fun x y H Q => ∃ p xs i v, x = .ref p ∧ y = .int i ∧ SqT K H p xs ∧ atI xs i = some v ∧ Q v H
def rIxS : R2 := fun x y H Q => ∃ z i c, x = .str z ∧ y = .int i ∧ z.length ≤ sizeLine ∧ atI z.cps.toList i = some c ∧ Q (.str ⟨#[c]⟩) H
theorem ix_list : IxR X (rIxL X.K) := by
 intro value slice pins s σ H x y v u Q I rx ry h hs
 obtain ⟨p, xs, i, z, rfl, rfl, hq, he, q⟩ := h
 cases rx
 obtain ⟨t, rfl⟩ := ry
 obtain ⟨its, r, pl, hz⟩ := I.list hq
 obtain ⟨j, h1, h2, h3, h4, h5⟩ := atI_get he
 obtain ⟨w, ew, rw'⟩ := r.get h2
 have hl := r.length
 have hn := line63
 have fin : EP X pins σ Q w s := ⟨z, H, I, rw', q⟩
 by_cases h0 : 0 ≤ i
 ·have hj : i.toNat = j := by
   rw [seqIndex_of h0 h5] at h1
   exact Option.some.inj h1
  exact item_listR pl.isList h0 (by omega) (by rw [hj]; simpa using ew) fin hs
 ·have hj : (i + (its.toArray.size : Int)).toNat = j := by
   rw [seqIndex_neg (by omega) h4] at h1
   rw [List.size_toArray, ← hl]
   exact Option.some.inj h1
  exact subscriptTail_builtinR (x := w) pl.isList.typeIs slot_list_getitem.lookup
   (wpAny_getItem_list_neg (Q := fun r s' => r = w ∧ EP X pins σ Q r s') pl.isList (by omega) (by rw [List.size_toArray] <;> omega) (by omega) (by rw [hj]; simpa using ew) ⟨rfl, fin⟩) hs
theorem ix_tup : IxR X (rIxT X.K) := by
 intro value slice pins s σ H x y v u Q I rx ry h hs
 obtain ⟨p, xs, i, z, rfl, rfl, hq, he, q⟩ := h
 cases rx
 obtain ⟨t, rfl⟩ := ry
 obtain ⟨its, r, pl, hz⟩ := I.tuple hq
 obtain ⟨j, h1, h2, h3, h4, h5⟩ := atI_get he
 obtain ⟨w, ew, rw'⟩ := r.get h2
 have hl := r.length
 have hn := line63
 have fin : EP X pins σ Q w s := ⟨z, H, I, rw', q⟩
 exact subscriptTail_builtinR (x := w) pl.typeIs slot_tuple_getitem.lookup
  (getItem_tuple (j := j) (Q := fun r s' => r = w ∧ EP X pins σ Q r s') pl (by omega) (by omega) (by rw [List.size_toArray, ← hl]; exact h1) (by simpa using ew) ⟨rfl, fin⟩) hs
theorem ix_str : IxR X rIxS := by
 intro value slice pins s σ H x y v u Q I rx ry h hs
 obtain ⟨z, i, c, rfl, rfl, hz, he, q⟩ := h
 obtain ⟨t, rfl⟩ := rx
 obtain ⟨t', rfl⟩ := ry
 obtain ⟨j, h1, h2, h3, h4, h5⟩ := atI_get he
 have hl : z.cps.toList.length = z.length := by simp [Str.length]
 rw [hl] at h1 h4 h5
 have hn := line63
 exact tail_any (typeIs_str s z t) slot_str_getitem.lookup (getItem_str (c := c) (by
  have e1 : decide (i < -(2 ^ 63 : Int)) = false := decide_eq_false (by omega)
  have e2 : decide (i ≥ 2 ^ 63) = false := decide_eq_false (by omega)
  rw [e1, e2, Bool.or_false]) (by rw [h1]; simpa using h2) ⟨.str ⟨#[c]⟩, H, I.tok _, ⟨_, rfl⟩, q⟩) hs
def rIx (K : PySem.W.Frag) : R2 := fun x y H Q => rIxL K x y H Q ∨ rIxT K x y H Q ∨ rIxS x y H Q
theorem ix_seq : IxR X (rIx X.K) := ix_list.or (ix_tup.or ix_str)
theorem slice_bounds (lo hi : Option Int) (n : Nat) : (sliceBounds lo hi none n).1 = ((HT.sIx n 0 lo : Nat) : Int) ∧ (sliceBounds lo hi none n).2.1 = ((HT.sIx n n hi : Nat) : Int) ∧ (sliceBounds lo hi none n).2.2 = 1 := by
 refine ⟨?_, ?_, rfl⟩
 ·cases lo with
  | none => simp [sliceBounds, HT.sIx]
  | some i =>
   simp only [sliceBounds, HT.sIx, Option.getD_none, show (1 : Int) > 0 by decide, if_true]
   by_cases h : i < 0
   ·simp only [h, if_true] <;> omega
   ·simp only [h, if_false] <;> omega
 ·cases hi with
  | none => simp [sliceBounds, HT.sIx]
  | some i =>
   simp only [sliceBounds, HT.sIx, Option.getD_none, show (1 : Int) > 0 by decide, if_true]
   by_cases h : i < 0
   ·simp only [h, if_true] <;> omega
   ·simp only [h, if_false] <;> omega
theorem slicePick_cut (its : List Value) (lo hi : Option Int) : slicePick its.toArray lo hi none = ((its.drop (HT.sIx its.length 0 lo)).take (HT.sIx its.length its.length hi - HT.sIx its.length 0 lo)).toArray := by
 obtain ⟨h1, h2, h3⟩ := slice_bounds lo hi its.toArray.size
 unfold slicePick
 rw [h1, h2, h3]
 simp only [sliceRange_one, pick_run, List.size_toArray] <;> rfl
def rSlL (K : PySem.W.Frag) : V → Option Int → Option Int → Hp → VK → Prop := fun x lo hi H Q => ∃ a xs, x = .ref a ∧ SqL K H a xs ∧ ∀ p, H p = none → Q (.ref p) (upd H p (.lst (cutV xs lo hi)))
theorem sl_list : SlR X (rSlL X.K) := by
 intro pins s σ H x v vl vu lo hi sl Q I rx hs pl pu h
 obtain ⟨a, xs, rfl, hx, q⟩ := h
 cases rx
 obtain ⟨its, r, ht, hz⟩ := I.list hx
 have hlen := r.length
 refine ⟨"list", _, slot_list_getitem.lookup, ht.isList.typeIs, ?_⟩
 refine wpAny_getItem_list_slice ht.isList hs pl pu .none (by simp) ?_ (by rw [List.size_toArray] <;> omega)
 rw [slicePick_cut, ← hlen]
 refine ⟨.ref s.heap.objs.size, _, I.laid (t' := s.toks) (o := .lst (cutV xs lo hi)) (fun b ob q => Heap.get?_push_of_some _ q) (Nat.le_refl _) ?_, rfl, q _ (I.hok.fresh (Nat.le_refl _))⟩
 exact ⟨Nat.le_trans (cutV_length xs lo hi) hz, _, 0, (r.drop (HT.sIx xs.length 0 lo)).take (HT.sIx xs.length xs.length hi - HT.sIx xs.length 0 lo), Heap.get?_push_size _ rfl⟩
def flatV : V → Bool
 | .non => true
 | .bl _ => true
 | .int _ => true
 | .str _ => true
 | _ => false
def eqV : V → V → Bool
 | .non, .non => true
 | .bl a, .bl b => a == b
 | .bl a, .int b => (if a then 1 else 0) == b
 | .int a, .bl b => a == (if b then 1 else 0)
 | .int a, .int b => a == b
 | .str a, .str b => a == b
 | _, _ => false
theorem eqAt_V {A : Around} {s : Shared} {y x : V} {u v : Value} (ry : RelV y u) (rx : RelV x v) (fy : flatV y = true) (fx : flatV x = true) : SeqAt.EqAt A s u v (eqV y x) := by
 cases y with
 | non =>
  cases ry
  cases x with
  | non => cases rx; exact SeqAt.EqAt.same _
  | bl b => cases rx; exact SeqAt.EqAt.none_bool b
  | int b => obtain ⟨t, rfl⟩ := rx; exact SeqAt.EqAt.none_int b t
  | str b => obtain ⟨t, rfl⟩ := rx; exact SeqAt.EqAt.none_str b t
  | _ => exact absurd (show false = true from fx) Bool.false_ne_true
 | bl a =>
  cases ry
  cases x with
  | non => cases rx; exact SeqAt.EqAt.bool_none a
  | bl b => cases rx; exact SeqAt.EqAt.bool_bool a b
  | int b => obtain ⟨t, rfl⟩ := rx; exact SeqAt.EqAt.bool_int a b t
  | str b => obtain ⟨t, rfl⟩ := rx; exact SeqAt.EqAt.bool_str a b t
  | _ => exact absurd (show false = true from fx) Bool.false_ne_true
 | int a =>
  obtain ⟨t', rfl⟩ := ry
  cases x with
  | non => cases rx; exact SeqAt.EqAt.int_none a t'
  | bl b => cases rx; exact SeqAt.EqAt.int_bool a t' b
  | int b => obtain ⟨t, rfl⟩ := rx; exact SeqAt.EqAt.int_int a t' b t
  | str b => obtain ⟨t, rfl⟩ := rx; exact SeqAt.EqAt.int_str a t' b t
  | _ => exact absurd (show false = true from fx) Bool.false_ne_true
 | str a =>
  obtain ⟨t', rfl⟩ := ry
  cases x with
  | non => cases rx; exact SeqAt.EqAt.str_none a t'
  | bl b => cases rx; exact SeqAt.EqAt.str_bool a t' b
  | int b => obtain ⟨t, rfl⟩ := rx; exact SeqAt.EqAt.str_int a t' b t
  | str b => obtain ⟨t, rfl⟩ := rx; exact SeqAt.EqAt.str_str a t' b t
  | _ => exact absurd (show false = true from fx) Bool.false_ne_true
 | _ => exact absurd (show false = true from fy) Bool.false_ne_true
def eqU (x : V) (u : Value) : Bool := match u with
 | .none => eqV .non x
 | .bool b => eqV (.bl b) x
 | .int i _ => eqV (.int i) x
 | .str z _ => eqV (.str z) x
 | _ => false
theorem eqU_of {x y : V} {u : Value} (r : RelV y u) (f : flatV y = true) : eqU x u = eqV y x := by
 cases y with
 | non => cases r; rfl
 | bl b => cases r; rfl
 | int i => obtain ⟨t, rfl⟩ := r; rfl
 | str z => obtain ⟨t, rfl⟩ := r; rfl
 | _ => exact absurd (show false = true from f) Bool.false_ne_true
theorem any_eqU {x : V} : ∀ {xs : List V} {us : List Value}, Vals xs us → xs.all flatV = true → us.any (eqU x) = xs.any fun y => eqV y x
 | _, _, .nil, _ => rfl
 | y :: xs, u :: us, .cons r t, f => by
  rw [List.all_cons, Bool.and_eq_true] at f
  rw [List.any_cons, List.any_cons, eqU_of r f.1, any_eqU t f.2]
theorem mem_eqAt {A : Around} {s : Shared} {x : V} {v : Value} (rx : RelV x v) (fx : flatV x = true) : ∀ {xs : List V} {us : List Value}, Vals xs us → xs.all flatV = true → ∀ u ∈ us, SeqAt.EqAt A s u v (eqU x u)
 | _, _, .nil, _ => fun u hu => by cases hu
 | y :: xs, u :: us, .cons r t, f => fun u' hu => by
  rw [List.all_cons, Bool.and_eq_true] at f
  rcases List.mem_cons.mp hu with rfl | hu
  ·rw [eqU_of r f.1]; exact eqAt_V r rx f.1 fx
  ·exact mem_eqAt rx fx t f.2 u' hu
def inV (x : V) (xs : List V) : Bool := xs.any fun y => eqV y x
def rIn (K : PySem.W.Frag) (neg : Bool) : R2 := fun x y H Q => ∃ p xs, y = .ref p ∧ (SqL K H p xs ∨ SqT K H p xs) ∧ flatV x = true ∧ xs.all flatV = true ∧ Q (.bl (if neg then !inV x xs else inV x xs)) H
theorem op_in_seq : OpR X (compareOp .In) (rIn X.K false) := by
 intro pins s σ H x y v u Q I rx ry h
 obtain ⟨p, xs, rfl, hq, fx, fs, q⟩ := h
 cases ry
 rcases hq with hq | hq
 ·obtain ⟨its, r, pl, hz⟩ := I.list hq
  refine SeqAt.in_listAt (eqU x) pl.isList (fun w hw => mem_eqAt rx fx r fs w (by simpa using hw)) ⟨.bl _, H, I, rfl, ?_⟩
  rw [show its.toArray.any (eqU x) = its.any (eqU x) by simp, any_eqU r fs]
  exact q
 ·obtain ⟨its, r, pl, hz⟩ := I.tuple hq
  refine SeqAt.in_tupleAt (eqU x) pl (fun w hw => mem_eqAt rx fx r fs w (by simpa using hw)) ⟨.bl _, H, I, rfl, ?_⟩
  rw [show its.toArray.any (eqU x) = its.any (eqU x) by simp, any_eqU r fs]
  exact q
theorem op_notIn_seq : OpR X (compareOp .NotIn) (rIn X.K true) := by
 intro pins s σ H x y v u Q I rx ry h
 obtain ⟨p, xs, rfl, hq, fx, fs, q⟩ := h
 cases ry
 rcases hq with hq | hq
 ·obtain ⟨its, r, pl, hz⟩ := I.list hq
  refine SeqAt.notIn_listAt (eqU x) pl.isList (fun w hw => mem_eqAt rx fx r fs w (by simpa using hw)) ⟨.bl _, H, I, rfl, ?_⟩
  rw [show its.toArray.any (eqU x) = its.any (eqU x) by simp, any_eqU r fs]
  exact q
 ·obtain ⟨its, r, pl, hz⟩ := I.tuple hq
  refine SeqAt.notIn_tupleAt (eqU x) pl (fun w hw => mem_eqAt rx fx r fs w (by simpa using hw)) ⟨.bl _, H, I, rfl, ?_⟩
  rw [show its.toArray.any (eqU x) = its.any (eqU x) by simp, any_eqU r fs]
  exact q
theorem call_len_seq : CallR X (.builtin "len") (fun xs H Q => ∃ p ys, xs = [.ref p] ∧ (SqL X.K H p ys ∨ SqT X.K H p ys) ∧ Q (.int ys.length) H) := by
 intro pins s σ H xs us Q I r h
 obtain ⟨p, ys, rfl, hq, q⟩ := h
 obtain ⟨u, rfl, rx⟩ := vals1 r
 cases rx
 have hn := line63
 rcases hq with hq | hq
 ·obtain ⟨its, r', pl, hz⟩ := I.list hq
  have hlen := r'.length
  exact Calls.call_len_list pl.isList (by simp only [List.size_toArray] <;> omega) ⟨.int ys.length, H, I.tok _, ⟨s.toks + 1, by rw [List.size_toArray, hlen]⟩, q⟩
 ·obtain ⟨its, r', pl, hz⟩ := I.tuple hq
  have hlen := r'.length
  exact len_tuple pl (by simp only [List.size_toArray] <;> omega) ⟨.int ys.length, H, I.tok _, ⟨s.toks + 1, by rw [List.size_toArray, hlen]⟩, q⟩
theorem call_len_str : CallR X (.builtin "len") (fun xs H Q => ∃ z, xs = [.str z] ∧ z.length ≤ sizeLine ∧ Q (.int z.length) H) := by
 intro pins s σ H xs us Q I r h
 obtain ⟨z, rfl, hz, q⟩ := h
 obtain ⟨u, rfl, t, rfl⟩ := vals1 r
 have hn := line63
 exact len_str (by omega) ⟨.int z.length, H, I.tok _, ⟨_, rfl⟩, q⟩
theorem call_list_of : CallR X (.type "list") (fun xs H Q => ∃ p ys, xs = [.ref p] ∧ (SqL X.K H p ys ∨ SqT X.K H p ys) ∧ ∀ l, H l = none → Q (.ref l) (upd H l (.lst ys))) := by
 intro pins s σ H xs us Q I r h
 obtain ⟨p, ys, rfl, hq, q⟩ := h
 obtain ⟨u, rfl, rx⟩ := vals1 r
 cases rx
 have fin : ∀ (its : List Value), Vals ys its → ys.length ≤ sizeLine → ∀ (h' : Heap) (c' : Nat), (∀ b o', s.heap.get? b = some o' → h'.get? b = some o') →
   h'.get? s.heap.objs.size = some { cls := .type "list", dict := none, data := .seq its.toArray c', slots := #[] } → EP X pins σ Q (.ref s.heap.objs.size) { s with heap := h' } := fun its r' hz h' c' kp e =>
  ⟨.ref s.heap.objs.size, _, I.laid (t' := s.toks) kp (Nat.le_refl _) (show ObjOk X.prog X.w _ h' _ (.lst ys) from ⟨hz, its, c', r', e⟩), rfl, q _ (I.hok.fresh (Nat.le_refl _))⟩
 rcases hq with hq | hq
 ·obtain ⟨its, r', pl, hz⟩ := I.list hq
  have hlen := r'.length
  obtain ⟨o, ho, hc, n, hd⟩ := pl.isList
  exact call_list_seq p (.inl rfl) ho hc hd (fun h' c' kp e => fin its r' hz h' c' kp e) (by simp only [List.size_toArray] <;> omega)
 ·obtain ⟨its, r', pl, hz⟩ := I.tuple hq
  have hlen := r'.length
  obtain ⟨o, ho, hc, n, hd⟩ := pl
  exact call_list_seq p (.inr rfl) ho hc hd (fun h' c' kp e => fin its r' hz h' c' kp e) (by simp only [List.size_toArray] <;> omega)
theorem call_tuple_of : CallR X (.type "tuple") (fun xs H Q => ∃ p ys, xs = [.ref p] ∧ ((SqL X.K H p ys ∧ ∀ l, H l = none → Q (.ref l) (upd H l (.tup ys))) ∨ (SqT X.K H p ys ∧ Q (.ref p) H))) := by
 intro pins s σ H xs us Q I r h
 obtain ⟨p, ys, rfl, h⟩ := h
 obtain ⟨u, rfl, rx⟩ := vals1 r
 cases rx
 rcases h with ⟨hq, q⟩ | ⟨hq, q⟩
 ·obtain ⟨its, r', pl, hz⟩ := I.list hq
  have hlen := r'.length
  refine call_tuple_list pl.isList (fun h' kp => ?_) (by simp only [List.size_toArray] <;> omega)
  have I1 : Inv X pins σ H { s with heap := h' } := I.kept (t' := s.toks) kp
  have I2 : Inv X pins σ (upd H h'.objs.size (.tup ys)) { s with heap := h'.push { cls := .type "tuple", data := .seq its.toArray } } :=
   I1.laid (t' := s.toks) (fun b o e => Heap.get?_push_of_some _ e) (Nat.le_refl _) (show ObjOk X.prog X.w _ _ _ (.tup ys) from ⟨hz, its, r', IsTup.new _ _⟩)
  exact ⟨.ref h'.objs.size, _, I2, rfl, q _ (I1.hok.fresh (Nat.le_refl _))⟩
 ·obtain ⟨its, r', pl, hz⟩ := I.tuple hq
  exact call_tuple_same pl ⟨.ref p, H, I, rfl, q⟩
def tyV (K : PySem.W.Frag) (T : String) (x : V) (H : Hp) : Prop := match x with
 | .str _ => T = "str"
 | .int _ => T = "int"
 | .ref p => (T = "list" ∧ ∃ xs, SqL K H p xs) ∨ (T = "tuple" ∧ ∃ o, K.lookup p = some o ∧ o.cls = .type "tuple" ∧ o.dict = none) ∨
   (T = "dict" ∧ ((∃ kvs, H p = some (.dK kvs)) ∨ ∃ kvs, H p = some (.dT kvs))) ∨ (T = "set" ∧ ∃ S n, H p = some (.set S n))
 | _ => False
theorem tyV_is {pins : List (Addr × Obj)} {σ : St} {H : Hp} {s : Shared} {T : String} {x : V} {v : Value} (I : Inv X pins σ H s) (r : RelV x v) (ty : tyV X.K T x H) :
  s.TypeIs v T ∧ ∀ a, v = .ref a → ∃ ob, s.heap.get? a = some ob ∧ ob.dict = none := by
 cases x with
 | str z =>
  obtain ⟨t, rfl⟩ := r
  cases (show T = "str" from ty)
  exact ⟨typeIs_str s z t, fun _ e => nomatch e⟩
 | int i =>
  obtain ⟨t, rfl⟩ := r
  cases (show T = "int" from ty)
  exact ⟨typeIs_int s i t, fun _ e => nomatch e⟩
 | ref p =>
  cases r
  rcases ty with ⟨rfl, xs, hq⟩ | ⟨rfl, o, hk, hc, hd⟩ | ⟨rfl, hk⟩ | ⟨rfl, S, n, hk⟩
  ·obtain ⟨its, _, pl, _⟩ := I.list hq
   refine ⟨pl.isList.typeIs, fun a e => ?_⟩
   cases e
   obtain ⟨o, n, e, c, hd, _⟩ := pl
   exact ⟨o, e, hd⟩
  ·refine ⟨⟨o, I.kIn p o hk, hc⟩, fun a e => ?_⟩
   cases e
   exact ⟨o, I.kIn _ o hk, hd⟩
  ·have z : ∃ o, s.heap.get? p = some o ∧ o.ExactDict := by
    rcases hk with ⟨kvs, hk⟩ | ⟨kvs, hk⟩
    ·obtain ⟨_, _, _, _, o, _, _, e, ex, _⟩ := I.hok p _ hk
     exact ⟨o, e, ex⟩
    ·obtain ⟨_, _, _, _, o, _, _, e, ex, _⟩ := I.hok p _ hk
     exact ⟨o, e, ex⟩
   obtain ⟨o, e, ex⟩ := z
   refine ⟨⟨o, e, ex.1⟩, fun a e2 => ?_⟩
   cases e2
   exact ⟨o, e, ex.2.1⟩
  ·obtain ⟨o, _, _, _, e, ex, _⟩ := I.hok p _ hk
   refine ⟨⟨o, e, ex.1⟩, fun a e2 => ?_⟩
   cases e2
   exact ⟨o, e, ex.2.1⟩
 | _ => exact False.elim ty
def tBM (K : PySem.W.Frag) (T : String) (r : V → List V → Hp → VK → Prop) (to : TE) (t : TA) : TE := fun σ H Q => to σ H fun x H1 => tyV K T x H1 ∧ t σ H1 fun xs H2 => r x xs H2 Q
variable {o e : Expr} {es : List Expr} {to : TE} {t : TA} {name : Str} {apos cpos : Pos} {T id : String} {r : V → List V → Hp → VK → Prop}
theorem pe_bm (pa : PlainAttrs T) (slot : Slot T name id) (hty : typeOf (.builtin id) = pure (.type "method_descriptor")) (hm : MtR X id r) (ho : PE X o to) (ha : PA X (e :: es) t)
  (hbase : attributeBase o name X.env (eval o X.env) = eval o X.env := by rfl)
  (hfew : ((backTo cpos (starEach (e :: es) X.env)).all (fun x => !x.1) && (backToKw cpos (keywordEach [] X.env)).all (fun x => x.1.isSome)
   && decide ((e :: es).length + ([] : List Keyword).length + (if ([] : List Keyword).isEmpty then 0 else 1) < 30)) = true := by rfl)
  (hline : (apos.endLine == cpos.line) = true := by rfl) (hs : starEach (e :: es) X.env = (false, eval e X.env) :: starEach es X.env := by rfl) (hplain : (backTo cpos (starEach es X.env)).any (·.1) = false := by rfl) :
  PE X (.Call (.Attribute o name apos) (e :: es) [] cpos) (tBM X.K T r to t) := by
 intro pins s σ H Q I h
 refine wpAny_Call_method_late hbase hfew hline rfl (thn (ho pins s σ H _ I h) fun v s1 ⟨x, H1, I1, r1, ty, q1⟩ => ?_)
 obtain ⟨h1, h2⟩ := tyV_is I1 r1 ty
 refine ⟨T, id, pa, slot, hty, h1, h2, ?_⟩
 have hA := ha cpos pins s1 σ H1 _ I1 q1
 rw [hs] at hA ⊢
 refine Calls.callWith_builtin (by show (false || (backTo cpos (starEach es X.env)).any (·.1)) = false; rw [hplain] <;> rfl) (Calls.evalArgs_plain ?_)
 exact thn hA fun us s2 ⟨vs, H2, I2, r2, q2⟩ => hm pins s2 σ H2 x vs v us Q I2 r1 r2 q2
end
end L2
namespace L2
open PySem PySem.Spec PyProof.Rows
def MtM (X : Cx) (id : String) (r : V → List V → Hp → VK → Prop) : Prop :=
 ∀ (pins : List (Addr × Obj)) (s : Shared) (σ : St) (H : Hp) (x : V) (xs : List V) (v : Value) (us : List Value) (Q : VK), Inv X pins σ H s → RelV x v → Vals xs us → r x xs H Q →
  wpAny (model X.prog X.w) X.A (call (.builtin id) (v :: us)) (EP X pins σ Q) X.xe s
theorem Vals.one : ∀ {x : V} {us : List Value}, Vals [x] us → ∃ u, us = [u] ∧ RelV x u
 | _, _, .cons r .nil => ⟨_, rfl, r⟩
theorem Vals.rep {xs : List V} {us : List Value} (h : Vals xs us) : ∀ k : Nat, Vals (List.replicate k xs).flatten (List.replicate k us).flatten
 | 0 => .nil
 | k + 1 => by
  rw [List.replicate_succ, List.replicate_succ, List.flatten_cons, List.flatten_cons]
  exact Vals.append h (Vals.rep h k)
theorem foldl_rep (its : List Value) : ∀ (k : Nat) (acc : List Value),
  List.foldl (fun x1 x2 => x1 ++ x2) acc.toArray (List.replicate k its.toArray) = (acc ++ (List.replicate k its).flatten).toArray
 | 0, acc => by simp
 | k + 1, acc => by
  have e : acc.toArray ++ its.toArray = (acc ++ its).toArray := by simp
  have e2 : (acc ++ its) ++ (List.replicate k its).flatten = acc ++ (List.replicate (k + 1) its).flatten := by
   rw [List.replicate_succ, List.flatten_cons, List.append_assoc]
  rw [← e2, ← foldl_rep its k (acc ++ its), ← e, List.replicate_succ, List.foldl_cons]
section
variable {X : Cx} {pins : List (Addr × Obj)} {σ : St} {H : Hp} {s : Shared} {l b : Addr} {xs ys zs : List V}
theorem Inv.lset {its its' : List Value} {n : Nat} {f : Array Value → Array Value} {t' : Nat} (I : Inv X pins σ H s) (hH : H l = some (.lst xs))
  (e : s.heap.get? l = some { cls := .type "list", data := .seq its.toArray n }) (hf : f its.toArray = its'.toArray) (hv : Vals ys its') (hz : ys.length ≤ sizeLine) :
  Inv X pins σ (upd H l (.lst ys)) { s with heap := s.heap.update l (Obj.mapSeq f), toks := t' } := by
 have q := PySem.IsL.update e f
 rw [hf] at q
 refine I.write (x := l) (e := l) (by rw [hH]; exact trivial) (.inl rfl) (fun b' u hb hu => (Heap.get?_update_other s.heap (Obj.mapSeq f) (Ne.symm hb)).trans hu) ⟨_, q⟩ ?_
 exact ⟨hz, its', _, hv, q⟩
theorem Inv.lnew {its : List Value} {t' : Nat} (I : Inv X pins σ H s) (hv : Vals ys its) (hz : ys.length ≤ sizeLine) :
  Inv X pins σ (upd H s.heap.objs.size (.lst ys)) { s with heap := s.heap.push { cls := .type "list", data := .seq its.toArray }, toks := t' } :=
 I.laid (fun _ _ q => Heap.get?_push_of_some _ q) (Nat.le_refl _) ⟨hz, its, 0, hv, Heap.get?_push_size _ rfl⟩
theorem Inv.fresh (I : Inv X pins σ H s) : H s.heap.objs.size = none := I.hok.fresh (Nat.le_refl _)
theorem Inv.lstM (I : Inv X pins σ H s) (hH : H l = some (.lst xs)) : xs.length ≤ sizeLine ∧ ∃ (its : List Value) (n : Nat), Vals xs its ∧ xs.length = its.length ∧ s.heap.get? l = some { cls := .type "list", data := .seq its.toArray n } := by
 obtain ⟨z, its, n, r, e⟩ := I.hok l _ hH
 exact ⟨z, its, n, r, r.length, e⟩
theorem notLongL {n : Nat} (h : n ≤ sizeLine) : Builtin.List.listTooLong n = false := by
 unfold Builtin.List.listTooLong
 exact decide_eq_false (by omega)
end
section
variable {X : Cx}
def rAppend : V → List V → Hp → VK → Prop := fun x vs H Q => ∃ l xs y, x = .ref l ∧ vs = [y] ∧ H l = some (.lst xs) ∧ xs.length < sizeLine ∧ Q .non (upd H l (.lst (xs ++ [y])))
theorem mt_append : MtM X "list.append" rAppend := by
 intro pins s σ H x vs v us Q I rx rv h
 obtain ⟨l, xs, y, rfl, rfl, hH, hz, q⟩ := h
 cases rx
 obtain ⟨u, rfl, ru⟩ := rv.one
 obtain ⟨z, its, n, r, hl, e⟩ := I.lstM hH
 refine call_meets F.slot_list_append ⟨_, e, rfl⟩ F.entry_list_append (F.args_list_append_2 _ _) (PySem.list_append l its.toArray n u (by rw [List.size_toArray]; omega)) ⟨e, ?_⟩
 refine ⟨.non, _, I.lset (its' := its ++ [u]) hH e (by simp) (r.append (.cons ru .nil)) ?_, rfl, q⟩
 rw [List.length_append, List.length_singleton]
 omega
theorem len_rep {α : Type} (xs : List α) (k : Nat) : (List.replicate k xs).flatten.length = k * xs.length := by
 induction k with
 | zero => simp
 | succ k ih => rw [List.replicate_succ, List.flatten_cons, List.length_append, ih, Nat.succ_mul, Nat.add_comm]
end
section
variable {prog : Program} {w : World} {A : Around} {E : Value → Shared → Prop} {s : Shared}
theorem splice_eq (its its2 : List Value) (a c : Nat) : its.toArray.extract 0 a ++ its2.toArray ++ its.toArray.extract c its.toArray.size = (its.take a ++ its2 ++ its.drop c).toArray := by
  apply Array.toList_inj.mp
  first
    | (simp
       exact List.take_of_length_le (by simp))
    | simp [List.take_of_length_le]
    | simp
set_option maxRecDepth 100000 in
end
section
variable {X : Cx}
end
end L2
namespace Att
open PySem PySem.W PySem.Calls PyProof.Rows
theorem ints_of_wellAll {P : Params} {h : Heap} : ∀ (ns : List Int) (vs : List Value), WellAll P h vs (ns.map WData.int) → IntsAre vs ns := by
 intro ns
 induction ns with
 | nil =>
  intro vs w
  rw [List.map_nil] at w
  cases w
  exact .nil
 | cons n ns ih =>
  intro vs w
  rw [List.map_cons] at w
  cases w with
  | cons a b =>
   cases a
   exact .cons _ _ (ih _ b)
theorem script_of {l : OpenLaw} {n : Nat} (hn : l.most = some n) {P : Params} {h : Heap} {args : List WData} {vals : List Value}
  (hpre : l.row.toRowW.claim.pre args = true) (hwl : WellAll P h vals args) :
  ∃ a vs ns, vals = [Value.ref a] ∧ args = [WData.list (ns.map WData.int)] ∧ h.get? a = some { cls := .type "list", data := .seq vs.toArray } ∧ IntsAre vs ns ∧ ns.length ≤ n := by
 have hsh : WShape.hasAll [] args [.list .int] = true := (pre_splitW hpre).1
 have hc : l.pre.holds [] { args := args } = true := (pre_splitW hpre).2
 obtain ⟨d, r, rfl, h1, h2⟩ := hasAllW_cons hsh
 obtain rfl := hasAllW_nil h2
 obtain ⟨xs, rfl, h3⟩ := hasW_list h1
 obtain ⟨ns, rfl⟩ := items_int h3
 have hlen : ns.length ≤ n := by
  unfold OpenLaw.pre at hc
  have h4 : (WTm.not (.lt (.lit (.int (n : Int))) (.len (.arg 0)))).holds [] { args := [.list (ns.map .int)] } = true := by
   have h4 := (holds_andW hc).1
   rw [hn] at h4
   exact h4
  have h5 := condW_of h4 (w_not (w_lt w_lit (w_len_list (w_arg rfl))))
  rw [List.length_map] at h5
  refine Nat.le_of_not_lt fun q => ?_
  have q' : (n : Int) < ((ns.length : Nat) : Int) := by omega
  first
   | (rw [decide_eq_true q'] at h5; exact absurd h5 (by decide))
   | (simp at h5; omega)
 cases hwl with
 | cons w1 w2 =>
  cases w2
  cases w1 with
  | list ho hall => exact ⟨_, _, ns, rfl, rfl, ho, ints_of_wellAll ns _ hall, hlen⟩
theorem post_true (l : OpenLaw) (args : List WData) : l.row.toRowW.claim.post args (.bool true) args = true :=
 postW_of (r := l.row.toRowW) (X := (true == true))
  (show WShape.has [] (.bool true) .bool = true by first | rfl | decide | simp [WShape.has, WShape.arms, WShape.armsAll])
  (show (WTm.eq .res (.lit (.bool true))).value [] { args := args, res := some (.bool true), after := args } = some (.bool (true == true)) from w_eq_bool (w_res rfl) w_lit) rfl
theorem attach_call {l : OpenLaw} {n : Nat} {q : Program} {loose : List Str} {XP : (Str → Option Value) → Heap → Prop} {YP : World → Heap → Prop} {d : DefRec}
  (hn : l.most = some n) (hdf : d.params.defaults = [])
  (call : ∀ (w : World) (s₀ s₁ : Shared) (mg mb : Str → Option Value) (fa : Addr) (o : Obj) (pm cd doc : Value) (a : Addr) (vs : List Value) (ns : List Int),
   Ground q loose [] XP w s₀ mg mb s₁.heap → YP w s₁.heap →
   s₁.heap.get? fa = some o → o.data = .func (docDef d.name d.params d.body d.scope pm cd doc) → s₁.heap.CodeRec cd d.name → mg d.name = some (.ref fa) →
   s₁.heap.get? a = some { cls := .type "list", data := .seq vs.toArray } → IntsAre vs ns → ns.length ≤ n → s₁.gens = #[] →
   codeAny (model l.prog w) callerA (.call (.ref fa) ⟨[.ref a], []⟩) (fun r s' => r = .ok (.ret (.bool true)) ∧ OldK s₁.heap s'.heap ∧ s'.os = s₁.os ∧ AllBare s'.gens) s₁) :
  WalkO q loose XP YP l.row.toRowW d [] (fun f vs => PySem.call f vs) := by
 intro w s₀ s₁ mg mb G Y fa o pm cd doc dV kV ho hd hcd hD hmg hg args vals as hpre hlay hrd hwl hlo
 obtain rfl : dV = .none := Dflts.none hD hdf
 obtain rfl : kV = .none := Dflts.noKw hD
 obtain ⟨a, vs, ns, rfl, rfl, hobj, hints, hlen⟩ := script_of hn hpre hwl
 refine enter_call (codeAny_mono (call w s₀ s₁ mg mb fa o pm cd doc a vs ns G Y ho (fd_plain hd) hcd hmg hobj hints hlen hg) fun r s' hq => ?_)
 obtain ⟨rfl, h2, h3, h4⟩ := hq
 exact ⟨.inl ⟨.bool true, .bool true, [], rfl, fun _ => rfl, .bool true, post_true l _, fun _ => ⟨List.Pairwise.nil, fun _ hm => (nomatch hm)⟩⟩, h2, h3, h4⟩
section
variable {prog : Program} {w : World} {A : Around} {E : Value → Shared → Prop} {s : Shared} {K : Frag}
end
end Att
namespace L2
open PySem PySem.Spec PyProof.Rows
theorem vals_ints : ∀ {vs : List Value} {ns : List Int}, IntsAre vs ns → Vals (ns.map V.int) vs
 | _, _, .nil => .nil
 | _, _, .cons n t h => .cons ⟨t, rfl⟩ (vals_ints h)
def Only (H : Hp) : Prop := ∀ b, H b = none ∨ ∃ o xs, H b = some (.frz o (.lst xs))
theorem law_call {P : Program} {w : World} {K : PySem.W.Frag} {mg mb : Str → Option Value} {CX : CXT} {k : Nat} {fa a : Addr} {fd : FuncData} {x : Str} {sp : Sp} {s₁ : Shared} {vs : List Value} {ns : List Int}
  (KX : K.In s₁.heap) (hns : s₁.heap.Ns mainGlobals mg) (hb : s₁.heap.Ns builtinsNs mb) (hbb : ∀ x : Str, x ≠ "__name__" → mb x = bootBuiltins x) (hlim : s₁.heap.NoLimit) (hg : s₁.gens = #[])
  (ha : s₁.heap.get? a = some { cls := .type "list", data := .seq vs.toArray }) (hi : IntsAre vs ns) (hl : ns.length ≤ sizeLine) (hr : Room k callerA)
  (F : ∀ base : Heap, K.In base → base.Ns mainGlobals mg → FnOk P w K mg base CX k fa fd [x] sp) (hbind : ∀ (s : Shared) (u : Value), BindsTo s fd ⟨[u], []⟩ [(x, u)])
  (hsp : ∀ H : Hp, Only H → SqL K H a (ns.map V.int) → sp [.ref a] H (fun v _ => v = .bl true) fun _ _ _ => False)
  (hCX : ∀ H e s', CX [] H s₁ (fun _ _ _ => False) e s' → False) :
  codeAny (model P w) callerA (.call (.ref fa) ⟨[.ref a], []⟩) (fun r s' => r = .ok (.ret (.bool true)) ∧ OldK s₁.heap s'.heap ∧ s'.os = s₁.os ∧ AllBare s'.gens) s₁ := by
 have rv := vals_ints hi
 have lenV := hi.length
 have core : ∀ H : Hp, Only H → SqL K H a (ns.map V.int) → HOk P w H s₁.heap → (∀ b, H b ≠ none → b = a) → (H a ≠ none → K.lookup a = none) →
   codeAny (model P w) callerA (.call (.ref fa) ⟨[.ref a], []⟩) (fun r s' => r = .ok (.ret (.bool true)) ∧ OldK s₁.heap s'.heap ∧ s'.os = s₁.os ∧ AllBare s'.gens) s₁ := by
  intro H hO hS hok hA hK
  have base_of : ∀ {b : Addr} {o : Obj}, s₁.heap.get? b = some o → H b = none → (hidT s₁.heap H).get? b = some o := fun e n => hidT_get e n
  have noA : ∀ {b : Addr} {o : Obj} {es : Array DictEntry} {ep : Nat}, s₁.heap.get? b = some o → o.data = .dict es ep → H b = none := fun {b o es ep} e d => by
   cases q : H b with
   | none => rfl
   | some u =>
    have e' : b = a := hA b (by rw [q]; simp)
    subst e'
    rw [ha] at e; cases e
    have d' : Data.seq vs.toArray _ = Data.dict es ep := d
    cases d'
  have nsK : ∀ {b : Addr} {m : Str → Option Value}, s₁.heap.Ns b m → (hidT s₁.heap H).Ns b m := fun {b m} ⟨o, es, ep, e, d, r⟩ => ⟨o, es, ep, base_of e (noA e d), d, r⟩
  have hKb : K.In (hidT s₁.heap H) := fun b o e => base_of (KX b o e) (by
   cases q : H b with
   | none => rfl
   | some u =>
    have e' : b = a := hA b (by rw [q]; simp)
    subst e'
    rw [hK (by rw [q]; simp)] at e; cases e)
  have hM : Mod K mg (hidT s₁.heap H) := ⟨hKb, nsK hns, ⟨mb, nsK hb, hbb⟩, let ⟨mc, h1, h2⟩ := hlim; ⟨mc, nsK h1, h2⟩⟩
  have e0 : Env0 P w K mg (hidT s₁.heap H) callerA [] s₁ H := ⟨rfl, hM, fun b o e => of_hidT e, Nat.le_of_eq (hidT_size _ _), trivial, fun b hb => absurd (show b ∈ ([] : List Addr) from hb) (by simp), hok, .of_eq hg⟩
  refine codeAny_mono ((F _ hKb (nsK hns)).run callerA [] s₁ H ⟨[.ref a], []⟩ [.ref a] [.ref a] _ _ hr e0 (hbind s₁ (.ref a)) (.cons rfl .nil) (hsp H hO hS)) fun r s' h => ?_
  cases r with
  | error e => exact (hCX H e s' h).elim
  | ok fl =>
   cases fl with
   | next => exact False.elim h
   | brk => exact False.elim h
   | cont => exact False.elim h
   | ret u =>
    obtain ⟨v, H', os, bare, un, hok', r', q⟩ := h
    have q' : v = .bl true := q
    subst q'
    obtain rfl : u = Value.bool true := r'
    refine ⟨rfl, OldK.of_keep fun b o e => ?_, os, bare⟩
    cases q : H b with
    | none => exact un.keep b o e q (by intro z; exact absurd (show b ∈ ([] : List Addr) from z) (by simp)) (by simp)
    | some u =>
     rcases hO b with z | ⟨ob, xs, z⟩
     ·rw [q] at z; cases z
     ·have z2 := un.frzs b ob _ z
      obtain ⟨e1, _⟩ := hok b _ z
      obtain ⟨e2, _⟩ := hok' b _ z2
      rw [e] at e1; cases e1
      exact e2
 cases hk : K.lookup a with
 | some o =>
  have e := KX a o hk
  rw [ha] at e
  cases e
  refine core (fun _ => none) (fun _ => .inl rfl) (.inr ⟨_, vs.toArray, _, hk, rfl, rfl, rfl, by rw [List.size_toArray, lenV]; exact hl, by simpa using rv⟩) (fun b u z => by have z' : (none : Option HO) = some u := z; cases z') (fun b z => absurd rfl z) fun z => absurd rfl z
 | none =>
  refine core (fun b => if b = a then some (.frz { cls := .type "list", data := .seq vs.toArray } (.lst (ns.map V.int))) else none) (fun b => ?_) (.inl (.inr ⟨{ cls := .type "list", data := .seq vs.toArray }, if_pos rfl⟩)) (fun b u z => ?_) (fun b z => ?_) fun _ => hk
  ·by_cases hb : b = a
   ·exact .inr ⟨_, _, if_pos hb⟩
   ·exact .inl (if_neg hb)
  ·by_cases hb : b = a
   ·have z' := (if_pos hb).symm.trans z
    cases z'
    subst hb
    exact ⟨ha, by rw [List.length_map]; exact hl, vs, _, rv, ha⟩
   ·have z' := (if_neg hb).symm.trans z
    cases z'
  ·by_cases hb : b = a
   ·exact hb
   ·exact absurd (if_neg hb) z
end L2
namespace L2
open PySem PySem.Spec PyProof.Rows
theorem walk_of {l : PySem.W.OpenLaw} {n k : Nat} {q : Program} {loose : List Str} {XP : (Str → Option Value) → Heap → Prop} {YP : World → Heap → Prop} {d : DefRec} {K : Params → PySem.W.Frag} {CX : World → CXT} {sp : World → Sp} {x : Str}
  (hn : l.most = some n) (hn2 : n ≤ sizeLine) (hdf : d.params.defaults = []) (hr : Room k callerA)
  (hY : ∀ (w : World) (h : Heap), YP w h → (K w.params).In h)
  (F : ∀ (w : World) (mg : Str → Option Value) (fa : Addr) (h : Heap), (K w.params).In h → h.Ns mainGlobals mg → mg d.name = some (.ref fa) →
   ∃ fd : FuncData, (∀ (s : Shared) (u : Value), BindsTo s fd ⟨[u], []⟩ [(x, u)]) ∧
    ∀ base : Heap, (K w.params).In base → base.Ns mainGlobals mg → FnOk l.prog w (K w.params) mg base (CX w) k fa fd [x] (sp w))
  (hsp : ∀ (w : World) (H : Hp) (a : Addr) (ns : List Int), ns.length ≤ n → Only H → SqL (K w.params) H a (ns.map V.int) → sp w [.ref a] H (fun v _ => v = .bl true) fun _ _ _ => False)
  (hCX : ∀ (w : World) (H : Hp) (s : Shared) (e : Value) (s' : Shared), CX w [] H s (fun _ _ _ => False) e s' → False) :
  PySem.W.WalkO q loose XP YP l.row.toRowW d [] (fun f vs => PySem.call f vs) := by
 refine Att.attach_call hn hdf fun w s₀ s₁ mg mb fa o pm cd doc a vs ns G Y ho hd hcd hmg hobj hints hlen hg => ?_
 have KX := hY w _ Y
 obtain ⟨fd, hb, hF⟩ := F w mg fa _ KX G.T.g hmg
 exact law_call KX G.T.g G.T.b G.T.builtins G.T.nolimit hg hobj hints (Nat.le_trans hlen hn2) hr hF hb (fun H hO hS => hsp w H a ns hlen hO hS) fun H e s' => hCX w H s₁ e s'
end L2
namespace L2
open PySem PySem.Spec PyProof.Rows
def defArgs (s : Stmt) : Arguments := match s with
 | .FunctionDef _ a _ _ _ _ _ _ _ _ => a
 | _ => { posonlyargs := [], args := [], vararg := none, kwonlyargs := [], kw_defaults := [], kwarg := none, defaults := [] }
def defBody (s : Stmt) : List Stmt := match s with
 | .FunctionDef _ _ b _ _ _ _ _ _ _ => b
 | _ => []
def defScope (s : Stmt) : Scope := match s with
 | .FunctionDef _ _ _ _ _ _ sc _ _ _ => sc
 | _ => { kind := .function, names := [], isGenerator := false, isCoroutine := false }
abbrev CX0 : CXT := fun _ _ _ _ _ _ => False
abbrev E0 : XK := fun _ _ _ => False
theorem pass0 {X : Cx} : Passes CX0 X E0 := fun _ _ _ _ _ _ _ h => h.elim
structure Fun (K : PySem.W.Frag) (x qual : Str) (st : Stmt) (f : Addr) (fd : FuncData) : Prop where
 ex : ∃ (oc : Value) (od : Option Addr) (kV doc pm : Value) (an : Option Addr) (cdv ct : Value) (osl : Array (Option Value)),
  fd = PySem.W.fnOf x qual (defArgs st) (defBody st) (defScope st) .none kV doc pm an cdv ct ∧ K.lookup f = some ⟨oc, od, .func fd, osl⟩ ∧ PySem.W.codeIn K cdv qual = true
 kp : PySem.W.keepIn K (.ref f) = true
section
variable {P : Program} {w : World} {K : PySem.W.Frag} {mg : Str → Option Value} {base : Heap}
theorem Fun.ok {x qual : Str} {st : Stmt} {f : Addr} {fd : FuncData} {N ps : List Str} {k : Nat} {sp : Sp} (F : Fun K x qual st f fd) (S : FnScope N ps (defScope st)) (len : ∀ vs H Q E, sp vs H Q E → vs.length = ps.length)
  (hbody : ∀ (cdv : Value) (A : Around) (outer : List Env) (s : Shared) (H : Hp) (vs : List V) (Q : VK) (E : XK), Room k (A.deeper (envOfC qual (defScope st) s.heap.objs.size f cdv)) → sp vs H Q E →
   ∃ t, PSs (cxOf CX0 P w K mg base N qual (defScope st) f cdv A outer s H E).nox (defBody st) t ∧ t { nx := fun _ H' => Q .non H', rt := Q } (start N vs) H) : FnOk P w K mg base CX0 (k + 1) f fd ps sp := by
 obtain ⟨oc, od, kV, doc, pm, an, cdv, ct, osl, rfl, lk, hcd⟩ := F.ex
 refine fn_of lk hcd S len fun A outer s H vs Q E hr hsp => ?_
 obtain ⟨t, h, q⟩ := hbody cdv A outer s H vs Q E hr hsp
 exact ⟨t, h.nox, q⟩
theorem fun_mk {x qual : Str} {st : Stmt} {f : Addr} {oc : Value} {od an : Option Addr} {osl : Array (Option Value)} {kV doc pm cdv ct : Value} (l : K.lookup f = some ⟨oc, od, .func (PySem.W.fnOf x qual (defArgs st) (defBody st) (defScope st) .none kV doc pm an cdv ct), osl⟩)
  (c : PySem.W.codeIn K cdv qual = true) (k : PySem.W.keepIn K (.ref f) = true) : Fun K x qual st f (PySem.W.fnOf x qual (defArgs st) (defBody st) (defScope st) .none kV doc pm an cdv ct) := ⟨⟨oc, od, kV, doc, pm, an, cdv, ct, osl, rfl, l, c⟩, k⟩
end
theorem small1000 {n : Nat} (h : n ≤ 1000) : n < sizeLine := Nat.lt_of_le_of_lt h (by decide)
section
variable {X : Cx}
theorem pv (i : Nat) {x : Str} {pos : Pos} (hN : X.N[i]? = some x := by rfl) (hv : Vis X.env.scope x := by first | exact Or.inl rfl | exact Or.inr (Or.inl rfl) | exact Or.inr (Or.inr rfl)) (hd : (x == ("__debug__" : Str)) = false := by decide)
  (hcd : (x == ("__classdict__" : Str)) = false := by decide) : PE X (.Name x pos) (tVar i) := pe_var hN hv hd hcd
end
theorem iteF {A B : Prop} (h : B) : if false = true then A else B := by
 rw [if_neg Bool.false_ne_true]
 exact h
theorem iteT {A B : Prop} (h : A) : if true = true then A else B := by
 rw [if_pos rfl]
 exact h
def Same (H H' : Hp) : Prop := ∀ b o, H b = some o → H' b = some o
theorem Same.refl (H : Hp) : Same H H := fun _ _ h => h
theorem Same.trans {H H1 H2 : Hp} (a : Same H H1) (b : Same H1 H2) : Same H H2 := fun c o h => b c o (a c o h)
theorem Same.free {H H' : Hp} (e : Same H H') {l : Addr} (h : H' l = Option.none) : H l = Option.none := by
 cases q : H l with
 | none => rfl
 | some o =>
  rw [e l o q] at h
  cases h
end L2
set_option maxHeartbeats 4000000
namespace G
theorem xbm {α β : Type} {o : Option α} {f : α → Option β} {b : β} (h : o.bind f = some b) : ∃ a, o = some a ∧ f a = some b := Option.bind_eq_some_iff.mp h
open PySem PySem.Spec PyProof.Rows L2
abbrev D := PyData
mutual
def Rep (K : PySem.W.Frag) (H : Hp) : D → V → Prop
 | .none, v => v = .non
 | .bool b, v => v = .bl b
 | .int i, v => v = .int i
 | .str x, v => v = .str x
 | .tuple ds, v => ∃ a vs, v = .ref a ∧ SqT K H a vs ∧ Reps K H ds vs
 | .list ds, v => ∃ a vs, v = .ref a ∧ SqL K H a vs ∧ Reps K H ds vs
 | .dict _, _ => False
def Reps (K : PySem.W.Frag) (H : Hp) : List D → List V → Prop
 | [], vs => vs = []
 | d :: ds, vs => ∃ v r, vs = v :: r ∧ Rep K H d v ∧ Reps K H ds r
end
section
variable {K : PySem.W.Frag} {H H' H0 H1 H2 Hf Hf' Hf1 Hf2 : Hp}
theorem same_rd {a : Addr} {u : HO} (e : Same H H') (h : Rd H a u) : Rd H' a u := by
 rcases h with h | ⟨o, h⟩
 ·exact .inl (e _ _ h)
 ·exact .inr ⟨o, e _ _ h⟩
theorem sqT_mono {a : Addr} {xs : List V} (e : Same H H') (h : SqT K H a xs) : SqT K H' a xs := h.imp (same_rd e) id
theorem sqL_mono {a : Addr} {xs : List V} (e : Same H H') (h : SqL K H a xs) : SqL K H' a xs := h.imp (same_rd e) id
mutual
theorem Rep.mono (e : Same H H') : ∀ {d : D} {v : V}, Rep K H d v → Rep K H' d v
 | .none, _, h => h
 | .bool _, _, h => h
 | .int _, _, h => h
 | .str _, _, h => h
 | .tuple _, _, ⟨a, vs, h1, h2, h3⟩ => ⟨a, vs, h1, sqT_mono e h2, Reps.mono e h3⟩
 | .list _, _, ⟨a, vs, h1, h2, h3⟩ => ⟨a, vs, h1, sqL_mono e h2, Reps.mono e h3⟩
 | .dict _, _, h => h
theorem Reps.mono (e : Same H H') : ∀ {ds : List D} {vs : List V}, Reps K H ds vs → Reps K H' ds vs
 | [], _, h => h
 | _ :: _, _, ⟨v, r, h1, h2, h3⟩ => ⟨v, r, h1, Rep.mono e h2, Reps.mono e h3⟩
end
theorem Reps.length : ∀ {ds : List D} {vs : List V}, Reps K H ds vs → vs.length = ds.length
 | [], _, h => by cases h; rfl
 | _ :: _, _, ⟨v, r, h1, h2, h3⟩ => by subst h1; simp [Reps.length h3]
theorem Reps.get : ∀ {ds : List D} {vs : List V} {i : Nat} {d : D}, Reps K H ds vs → ds[i]? = some d → ∃ v, vs[i]? = some v ∧ Rep K H d v
 | [], _, _, _, _, e => by simp at e
 | x :: _, _, 0, _, ⟨v, r, h1, h2, h3⟩, e => by subst h1; simp at e; subst e; exact ⟨v, rfl, h2⟩
 | x :: _, _, i + 1, _, ⟨v, r, h1, h2, h3⟩, e => by
  subst h1
  obtain ⟨u, q1, q2⟩ := Reps.get (i := i) h3 (by simpa using e)
  exact ⟨u, by simpa using q1, q2⟩
theorem Reps.append : ∀ {ds es : List D} {vs us : List V}, Reps K H ds vs → Reps K H es us → Reps K H (ds ++ es) (vs ++ us)
 | [], _, _, _, h, q => by cases h; exact q
 | _ :: _, _, _, _, ⟨v, r, h1, h2, h3⟩, q => by subst h1; exact ⟨v, r ++ _, rfl, h2, Reps.append h3 q⟩
theorem Reps.take : ∀ {ds : List D} {vs : List V} (n : Nat), Reps K H ds vs → Reps K H (ds.take n) (vs.take n)
 | [], _, n, h => by cases h; simp [Reps]
 | _ :: _, _, 0, h => by simp [Reps]
 | _ :: _, _, n + 1, ⟨v, r, h1, h2, h3⟩ => by subst h1; exact ⟨v, r.take n, rfl, h2, Reps.take n h3⟩
theorem Reps.drop : ∀ {ds : List D} {vs : List V} (n : Nat), Reps K H ds vs → Reps K H (ds.drop n) (vs.drop n)
 | [], _, n, h => by cases h; simp [Reps]
 | _ :: _, _, 0, h => h
 | _ :: _, _, n + 1, ⟨v, r, h1, h2, h3⟩ => by subst h1; exact Reps.drop n h3
theorem Reps.ints : ∀ (ns : List Int), Reps K H (ns.map PyData.int) (ns.map V.int)
 | [] => rfl
 | n :: r => ⟨.int n, r.map V.int, rfl, rfl, Reps.ints r⟩
theorem Reps.flatten {ds : List D} {vs : List V} (h : Reps K H ds vs) : ∀ k : Nat, Reps K H (List.replicate k ds).flatten (List.replicate k vs).flatten
 | 0 => rfl
 | k + 1 => by simp only [List.replicate_succ, List.flatten_cons]; exact h.append (Reps.flatten h k)
structure Grow (H Hf H' Hf' : Hp) : Prop where
 big : Same H H'
 sub : Same Hf' H'
 ext : Same Hf Hf'
 new : ∀ b, Hf' b ≠ none → Hf b ≠ none ∨ H b = none
theorem Grow.refl (h : Same Hf H) : Grow H Hf H Hf := ⟨Same.refl _, h, Same.refl _, fun _ h => .inl h⟩
theorem Grow.trans (a : Grow H Hf H1 Hf1) (b : Grow H1 Hf1 H2 Hf2) : Grow H Hf H2 Hf2 :=
 ⟨a.big.trans b.big, b.sub, a.ext.trans b.ext, fun x h => (b.new x h).elim (a.new x) fun z => .inr (a.big.free z)⟩
theorem same_upd {p : Addr} {o : HO} (h : H p = none) : Same H (upd H p o) := fun b u e => by rw [upd_ne (ne_of_none e h)]; exact e
theorem Grow.laid {p : Addr} {o : HO} (s : Same Hf H) (h : H p = none) : Grow H Hf (upd H p o) (upd Hf p o) := by
 refine ⟨same_upd h, fun b u e => ?_, same_upd (s.free h), fun b e => ?_⟩
 ·by_cases q : b = p
  ·subst q; rw [upd_same] at e; rw [upd_same]; exact e
  ·rw [upd_ne q] at e; rw [upd_ne q]; exact s b u e
 ·by_cases q : b = p
  ·subst q; exact .inr h
  ·rw [upd_ne q] at e; exact .inl e
theorem Grow.made {p : Addr} {o : HO} (s : Same Hf H) (h : H p = none) : Grow H Hf (upd H p o) Hf :=
 ⟨same_upd h, s.trans (same_upd h), Same.refl _, fun _ e => .inl e⟩
theorem Grow.freeze {p : Addr} {o : HO} (g : Grow H Hf H1 Hf1) (h : H1 p = some o) (n : Hf1 p = none) (f : H p = none) : Grow H Hf H1 (upd Hf1 p o) := by
 refine ⟨g.big, fun b u e => ?_, g.ext.trans (same_upd n), fun b e => ?_⟩
 ·by_cases q : b = p
  ·subst q; rw [upd_same] at e; rw [h]; exact e
  ·rw [upd_ne q] at e; exact g.sub b u e
 ·by_cases q : b = p
  ·subst q; exact .inr f
  ·rw [upd_ne q] at e; exact g.new b e
end
inductive B where
 | val (d : D)
 | own (ds : List D)
abbrev Rho := List (Option B)
def SB (K : PySem.W.Frag) (H0 H Hf : Hp) : B → V → Prop
 | .val d, v => Rep K Hf d v
 | .own ds, v => ∃ a vs, v = .ref a ∧ H a = some (.lst vs) ∧ Hf a = none ∧ H0 a = none ∧ Reps K Hf ds vs
structure Slots (K : PySem.W.Frag) (H0 : Hp) (ρ : Rho) (σ : L2.St) (H Hf : Hp) : Prop where
 len : ρ.length = σ.length
 is : ∀ (i : Nat) (b : B), ρ[i]? = some (some b) → ∃ v, σ[i]? = some (some v) ∧ SB K H0 H Hf b v
 apart : ∀ (i j : Nat) (ds es : List D) (a : Addr), ρ[i]? = some (some (.own ds)) → ρ[j]? = some (some (.own es)) → σ[i]? = some (some (V.ref a)) → σ[j]? = some (some (V.ref a)) → i = j
section
variable {K : PySem.W.Frag} {H H' H0 H1 H2 Hf Hf' Hf1 Hf2 : Hp} {ρ : Rho} {σ : L2.St}
theorem SB.grow {b : B} {v : V} (h : SB K H0 H Hf b v) (g : Grow H Hf H' Hf') : SB K H0 H' Hf' b v := by
 cases b with
 | val d => exact Rep.mono g.ext h
 | own ds =>
  obtain ⟨a, vs, e, h1, h2, h3, h4⟩ := h
  refine ⟨a, vs, e, g.big _ _ h1, ?_, h3, h4.mono g.ext⟩
  cases q : Hf' a with
  | none => rfl
  | some u =>
   rcases g.new a (by rw [q]; simp) with z | z
   ·exact absurd h2 z
   ·rw [h1] at z; cases z
theorem Slots.grow (s : Slots K H0 ρ σ H Hf) (g : Grow H Hf H' Hf') : Slots K H0 ρ σ H' Hf' :=
 ⟨s.len, fun i b e => let ⟨v, h1, h2⟩ := s.is i b e; ⟨v, h1, h2.grow g⟩, s.apart⟩
end
abbrev DE := Rho → Option D
def tJ (K : PySem.W.Frag) (ρ : Rho) (R : Hp → V → Hp → Hp → Prop) : TE := fun σ H Q => ∃ H0 Hf, Same Hf H ∧ Slots K H0 ρ σ H Hf ∧ ∀ v H' Hf', Grow H Hf H' Hf' → R H v H' Hf' → Q v H'
def JE (X : Cx) (e : Expr) (f : DE) : Prop := ∀ ρ d, f ρ = some d → PE X e (tJ X.K ρ fun _ v _ Hf => Rep X.K Hf d v)
def Sq (K : PySem.W.Frag) : Bool → Hp → Addr → List V → Prop
 | true => SqT K
 | false => SqL K
def RQ (K : PySem.W.Frag) (t : Bool) (ds : List D) (v : V) (H Hf : Hp) : Prop := ∃ a vs, v = .ref a ∧ Sq K t H a vs ∧ Reps K Hf ds vs
def JQ (X : Cx) (e : Expr) (f : Rho → Option (Bool × List D)) : Prop := ∀ ρ t ds, f ρ = some (t, ds) → PE X e (tJ X.K ρ fun _ v H Hf => RQ X.K t ds v H Hf)
def JN (X : Cx) (e : Expr) (f : Rho → Option (List D)) : Prop := ∀ ρ ds, f ρ = some ds → PE X e (tJ X.K ρ fun H v H' Hf' => ∃ a vs, v = .ref a ∧ H a = none ∧ H' a = some (.lst vs) ∧ Hf' a = none ∧ Reps X.K Hf' ds vs)
def tJA (K : PySem.W.Frag) (ρ : Rho) (ds : List D) : TA := fun σ H Q => ∃ H0 Hf, Same Hf H ∧ Slots K H0 ρ σ H Hf ∧ ∀ vs H' Hf', Grow H Hf H' Hf' → Reps K Hf' ds vs → Q vs H'
structure JA (X : Cx) (es : List Expr) (f : Rho → Option (List D)) : Prop where
 len : ∀ ρ ds, f ρ = some ds → ds.length = es.length
 run : ∀ ρ ds, f ρ = some ds → PA X es (tJA X.K ρ ds)
def JT (X : Cx) (e : Expr) (f : Rho → Option Bool) : Prop := ∀ ρ c, f ρ = some c → PT X e (fun σ H Q => ∃ H0 Hf, Same Hf H ∧ Slots X.K H0 ρ σ H Hf ∧ ∀ H' Hf', Grow H Hf H' Hf' → Q c H')
def JW (X : Cx) (e : Expr) (f : Rho → Option Bool) : Prop := ∀ ρ c, f ρ = some c → PW X e (fun σ H Q => ∃ H0 Hf, Same Hf H ∧ Slots X.K H0 ρ σ H Hf ∧ ∀ H' Hf', Grow H Hf H' Hf' → Q c H')
section
variable {X : Cx}
theorem pe_imp {e : Expr} {t t' : TE} (h : PE X e t) (i : ∀ σ H Q, t' σ H Q → t σ H Q) : PE X e t' := fun pins s σ H Q I q => h pins s σ H Q I (i σ H Q q)
theorem pt_imp {e : Expr} {t t' : TT} (h : PT X e t) (i : ∀ σ H Q, t' σ H Q → t σ H Q) : PT X e t' := fun pins s σ H Q I q => h pins s σ H Q I (i σ H Q q)
def dC (d : D) : DE := fun _ => some d
def dVar (i : Nat) : DE := fun ρ => match ρ[i]? with
 | some (some (.val d)) => some d
 | _ => none
def qVar (i : Nat) : Rho → Option (Bool × List D) := fun ρ => match ρ[i]? with
 | some (some (.own ds)) => some (false, ds)
 | some (some (.val (.list ds))) => some (false, ds)
 | some (some (.val (.tuple ds))) => some (true, ds)
 | _ => none
def seqD : D → Option (Bool × List D)
 | .list ds => some (false, ds)
 | .tuple ds => some (true, ds)
 | _ => none
theorem je_int {i : Int} {j : Nat} {pos : Pos} : JE X (.Constant (.int i) j pos) (dC (.int i)) := fun ρ d h => by
 cases h
 exact pe_imp pe_int fun σ H Q ⟨H0, Hf, s, sl, k⟩ => k _ H Hf (Grow.refl s) rfl
theorem je_bl {b : Bool} {j : Nat} {pos : Pos} : JE X (.Constant (.bool b) j pos) (dC (.bool b)) := fun ρ d h => by
 cases h
 exact pe_imp pe_bl fun σ H Q ⟨H0, Hf, s, sl, k⟩ => k _ H Hf (Grow.refl s) rfl
theorem je_non {j : Nat} {pos : Pos} : JE X (.Constant .none j pos) (dC .none) := fun ρ d h => by
 cases h
 exact pe_imp pe_non fun σ H Q ⟨H0, Hf, s, sl, k⟩ => k _ H Hf (Grow.refl s) rfl
theorem je_str {x : Str} {j : Nat} {pos : Pos} : JE X (.Constant (.str x) j pos) (dC (.str x)) := fun ρ d h => by
 cases h
 exact pe_imp pe_str fun σ H Q ⟨H0, Hf, s, sl, k⟩ => k _ H Hf (Grow.refl s) rfl
theorem je_var (i : Nat) {x : Str} {pos : Pos} (hN : X.N[i]? = some x := by rfl) (hv : Vis X.env.scope x := by first | exact Or.inl rfl | exact Or.inr (Or.inl rfl) | exact Or.inr (Or.inr rfl)) (hd : (x == ("__debug__" : Str)) = false := by decide)
  (hcd : (x == ("__classdict__" : Str)) = false := by decide) : JE X (.Name x pos) (dVar i) := fun ρ d h => by
 refine pe_imp (pe_var hN hv hd hcd) fun σ H Q ⟨H0, Hf, s, sl, k⟩ => ?_
 unfold dVar at h
 split at h
 ·rename_i d' e
  cases h
  obtain ⟨v, h1, h2⟩ := sl.is i _ e
  exact ⟨v, h1, k v H Hf (Grow.refl s) h2⟩
 ·cases h
theorem jq_var (i : Nat) {x : Str} {pos : Pos} (hN : X.N[i]? = some x := by rfl) (hv : Vis X.env.scope x := by first | exact Or.inl rfl | exact Or.inr (Or.inl rfl) | exact Or.inr (Or.inr rfl)) (hd : (x == ("__debug__" : Str)) = false := by decide)
  (hcd : (x == ("__classdict__" : Str)) = false := by decide) : JQ X (.Name x pos) (qVar i) := fun ρ t ds h => by
 refine pe_imp (pe_var hN hv hd hcd) fun σ H Q ⟨H0, Hf, s, sl, k⟩ => ?_
 unfold qVar at h
 split at h
 ·rename_i d' e
  cases h
  obtain ⟨v, h1, a, vs, rfl, h2, h3, h4, h5⟩ := sl.is i _ e
  exact ⟨_, h1, k _ H Hf (Grow.refl s) ⟨a, vs, rfl, SqL.of h2, h5⟩⟩
 ·rename_i d' e
  cases h
  obtain ⟨v, h1, a, vs, rfl, h2, h3⟩ := sl.is i _ e
  exact ⟨_, h1, k _ H Hf (Grow.refl s) ⟨a, vs, rfl, sqL_mono s h2, h3⟩⟩
 ·rename_i d' e
  cases h
  obtain ⟨v, h1, a, vs, rfl, h2, h3⟩ := sl.is i _ e
  exact ⟨_, h1, k _ H Hf (Grow.refl s) ⟨a, vs, rfl, sqT_mono s h2, h3⟩⟩
 ·cases h
theorem Rep.seq {K : PySem.W.Frag} {H Hf : Hp} {d : D} {v : V} {t : Bool} {ds : List D} (h : Rep K Hf d v) (s : Same Hf H) (e : seqD d = some (t, ds)) : RQ K t ds v H Hf := by
 cases d with
 | list xs => cases e; obtain ⟨a, vs, e1, e2, e3⟩ := h; exact ⟨a, vs, e1, sqL_mono s e2, e3⟩
 | tuple xs => cases e; obtain ⟨a, vs, e1, e2, e3⟩ := h; exact ⟨a, vs, e1, sqT_mono s e2, e3⟩
 | _ => cases e
def qE (f : DE) : Rho → Option (Bool × List D) := fun ρ => (f ρ).bind seqD
theorem jq_of {e : Expr} {f : DE} (h : JE X e f) : JQ X e (qE f) := fun ρ t ds q => by
 obtain ⟨d, h1, h2⟩ := xbm q
 exact pe_imp (h ρ d h1) fun σ H Q ⟨H0, Hf, s, sl, k⟩ => ⟨H0, Hf, s, sl, fun v H' Hf' g r => k v H' Hf' g (r.seq g.sub h2)⟩
def aNil : Rho → Option (List D) := fun _ => some []
def aCons (f : DE) (g : Rho → Option (List D)) : Rho → Option (List D) := fun ρ => (f ρ).bind fun d => (g ρ).map fun ds => d :: ds
theorem ja_nil : JA X [] aNil := ⟨fun ρ ds h => by cases h; rfl, fun ρ ds h pos pins s σ H Q I ⟨H0, Hf, ss, sl, k⟩ => by
 cases h
 exact pa_nil pos pins s σ H Q I (k [] H Hf (Grow.refl ss) rfl)⟩
theorem ja_cons {e : Expr} {es : List Expr} {f : DE} {g : Rho → Option (List D)} (h : JE X e f) (r : JA X es g) (hs : starEach (e :: es) X.env = (false, eval e X.env) :: starEach es X.env := by rfl) : JA X (e :: es) (aCons f g) := by
 refine ⟨fun ρ ds q => ?_, fun ρ ds q => ?_⟩
 ·obtain ⟨d, h1, h2⟩ := xbm q
  obtain ⟨es', h3, h4⟩ := Option.map_eq_some_iff.mp h2
  subst h4
  simp [r.len ρ es' h3]
 ·obtain ⟨d, h1, h2⟩ := xbm q
  obtain ⟨es', h3, h4⟩ := Option.map_eq_some_iff.mp h2
  subst h4
  intro pos pins s σ H Q I ⟨H0, Hf, ss, sl, k⟩
  refine pa_cons (h ρ d h1) (r.run ρ es' h3) hs pos pins s σ H Q I ⟨H0, Hf, ss, sl, fun v H1 Hf1 g1 r1 => ⟨H0, Hf1, g1.sub, sl.grow g1, fun vs H2 Hf2 g2 r2 => ?_⟩⟩
  exact k (v :: vs) H2 Hf2 (g1.trans g2) ⟨v, vs, rfl, r1.mono g2.ext, r2⟩
def dTup (f : Rho → Option (List D)) : DE := fun ρ => (f ρ).map PyData.tuple
theorem je_tup {es : List Expr} {f : Rho → Option (List D)} {k : Nat} {pos : Pos} (h : JA X es f) (hn : es.length ≤ 1000 := by decide) : JE X (.Tuple es k pos) (dTup f) := fun ρ d q => by
 obtain ⟨ds, h1, h2⟩ := Option.map_eq_some_iff.mp q
 subst h2
 refine pe_imp (pe_tup fun pos pins s σ H Q I t => h.run ρ ds h1 pos pins s σ H Q I t) fun σ H Q ⟨H0, Hf, s, sl, k⟩ => ?_
 refine ⟨H0, Hf, s, sl, fun vs H1 Hf1 g r => ⟨?_, fun p hp => ?_⟩⟩
 ·rw [r.length, h.len ρ ds h1]; exact Nat.le_of_lt (small1000 hn)
 ·exact k _ _ _ (g.trans (Grow.laid g.sub hp)) ⟨p, vs, rfl, SqT.of upd_same, r.mono (Grow.laid (o := .tup vs) g.sub hp).ext⟩
theorem jn_lst {es : List Expr} {f : Rho → Option (List D)} {pos : Pos} (h : JA X es f) (hn : es.length ≤ 1000 := by decide) : JN X (.List es pos) f := fun ρ ds h1 => by
 refine pe_imp (pe_lst fun pos pins s σ H Q I t => h.run ρ ds h1 pos pins s σ H Q I t) fun σ H Q ⟨H0, Hf, s, sl, k⟩ => ?_
 refine ⟨H0, Hf, s, sl, fun vs H1 Hf1 g r => ⟨?_, fun p hp => ?_⟩⟩
 ·rw [r.length, h.len ρ ds h1]; exact Nat.le_of_lt (small1000 hn)
 ·exact k _ _ _ (g.trans (Grow.made g.sub hp)) ⟨p, vs, rfl, g.big.free hp, upd_same, g.sub.free hp, r⟩
def dLst (f : Rho → Option (List D)) : DE := fun ρ => (f ρ).map PyData.list
theorem je_of_jn {e : Expr} {f : Rho → Option (List D)} (h : JN X e f) : JE X e (dLst f) := fun ρ d q => by
 obtain ⟨ds, h1, h2⟩ := Option.map_eq_some_iff.mp q
 subst h2
 refine pe_imp (h ρ ds h1) fun σ H Q ⟨H0, Hf, s, sl, k⟩ => ⟨H0, Hf, s, sl, fun v H' Hf' g ⟨a, vs, e1, e2, e3, e4, e5⟩ => ?_⟩
 subst e1
 exact k _ _ _ (g.freeze e3 e4 e2) ⟨a, vs, rfl, SqL.of upd_same, e5.mono (same_upd e4)⟩
theorem jq_of_jn {e : Expr} {f : Rho → Option (List D)} (h : JN X e f) : JQ X e (fun ρ => (f ρ).map fun ds => (false, ds)) := fun ρ t ds q => by
 obtain ⟨ds', h1, h2⟩ := Option.map_eq_some_iff.mp q
 cases h2
 refine pe_imp (h ρ ds h1) fun σ H Q ⟨H0, Hf, s, sl, k⟩ => ⟨H0, Hf, s, sl, fun v H' Hf' g ⟨a, vs, e1, e2, e3, e4, e5⟩ => ?_⟩
 subst e1
 exact k _ _ _ g ⟨a, vs, rfl, SqL.of e3, e5⟩
def OpD (X : Cx) (F : Value → Value → Sem Value) (h : D → D → Option D) : Prop := ∀ x y z, h x y = some z →
 OpR X F fun vx vy H Q => ∃ Hf, Same Hf H ∧ Rep X.K Hf x vx ∧ Rep X.K Hf y vy ∧ ∀ v H' Hf', Grow H Hf H' Hf' → Rep X.K Hf' z v → Q v H'
def dBin (h : D → D → Option D) (f g : DE) : DE := fun ρ => (f ρ).bind fun x => (g ρ).bind fun y => h x y
theorem je_bin {op : Operator} {h : D → D → Option D} {a b : Expr} {f g : DE} {pos : Pos} (o : OpD X (binaryOp op) h) (ha : JE X a f) (hb : JE X b g) : JE X (.BinOp a op b pos) (dBin h f g) := fun ρ d q => by
 obtain ⟨x, h1, q⟩ := xbm q
 obtain ⟨y, h2, h3⟩ := xbm q
 refine pe_imp (pe_op (o x y d h3) (ha ρ x h1) (hb ρ y h2)) fun σ H Q ⟨H0, Hf, s, sl, k⟩ => ?_
 refine ⟨H0, Hf, s, sl, fun v H1 Hf1 g1 r1 => ⟨H0, Hf1, g1.sub, sl.grow g1, fun u H2 Hf2 g2 r2 => ?_⟩⟩
 exact ⟨Hf2, g2.sub, r1.mono g2.ext, r2, fun w H3 Hf3 g3 r3 => k w H3 Hf3 ((g1.trans g2).trans g3) r3⟩
theorem je_cmp {op : CmpOp} {h : D → D → Option D} {a b : Expr} {f g : DE} {pos : Pos} (o : OpD X (compareOp op) h) (ha : JE X a f) (hb : JE X b g) (hm : behindInMarks op b = false := by first | exact nomark _ | rfl) : JE X (.Compare a [op] [b] pos) (dBin h f g) := fun ρ d q => by
 obtain ⟨x, h1, q⟩ := xbm q
 obtain ⟨y, h2, h3⟩ := xbm q
 refine pe_imp (pe_cmpR (o x y d h3) (ha ρ x h1) (hb ρ y h2) hm) fun σ H Q ⟨H0, Hf, s, sl, k⟩ => ?_
 refine ⟨H0, Hf, s, sl, fun v H1 Hf1 g1 r1 => ⟨H0, Hf1, g1.sub, sl.grow g1, fun u H2 Hf2 g2 r2 => ?_⟩⟩
 exact ⟨Hf2, g2.sub, r1.mono g2.ext, r2, fun w H3 Hf3 g3 r3 => k w H3 Hf3 ((g1.trans g2).trans g3) r3⟩
theorem OpR.imp {F : Value → Value → Sem Value} {r r' : R2} (h : OpR X F r) (i : ∀ x y H Q, r' x y H Q → r x y H Q) : OpR X F r' := fun pins s σ H x y v u Q I rx ry q => h pins s σ H x y v u Q I rx ry (i x y H Q q)
end
end G
namespace G
open PySem PySem.Spec PyProof.Rows L2
section
variable {X : Cx}
def Small (i : Int) : Prop := i.natAbs < 2 ^ 8000
instance : DecidablePred Small := fun i => inferInstanceAs (Decidable (i.natAbs < 2 ^ 8000))
theorem Small.log {i : Int} (h : Small i) (h0 : i.natAbs ≠ 0) : i.natAbs.log2 < 8000 := (Nat.log2_lt h0).mpr h
theorem Small.bits {i : Int} (h : Small i) : Builtin.Int.intBits i ≤ 2 ^ 20 := by
 unfold Builtin.Int.intBits
 split
 ·exact Nat.zero_le _
 ·rename_i h0
  have := h.log (by simpa using h0)
  omega
theorem op_mulS {X : Cx} : OpR X (binaryOp .Mult) (rI (fun i j => Small i ∧ Small j) fun i j => .int (i * j)) := opI fun _ _ _ _ _ _ _ hc q => mul_int q (PySem.IntMulOk.of_bits hc.1.bits hc.2.bits)
def addI (x y : D) : Option D := match x, y with
 | .int i, .int j => some (.int (i + j))
 | _, _ => none
def subI (x y : D) : Option D := match x, y with
 | .int i, .int j => some (.int (i - j))
 | _, _ => none
def mulI (x y : D) : Option D := match x, y with
 | .int i, .int j => if Small i ∧ Small j then some (.int (i * j)) else none
 | _, _ => none
def divI (x y : D) : Option D := match x, y with
 | .int i, .int j => if 0 < j ∧ Small j then some (.int (i / j)) else none
 | _, _ => none
def modI (x y : D) : Option D := match x, y with
 | .int i, .int j => if 0 < j then some (.int (i % j)) else none
 | _, _ => none
def powI (x y : D) : Option D := match x, y with
 | .int i, .int j => if 0 ≤ j ∧ j ≤ 1000000 ∧ i.natAbs < 2 ^ 64 then some (.int (i ^ j.toNat)) else none
 | _, _ => none
theorem od_add : OpD X (binaryOp .Add) addI := fun x y z h => by
 unfold addI at h
 split at h
 ·cases h
  exact OpR.imp op_add fun vx vy H Q ⟨Hf, s, r1, r2, k⟩ => ⟨_, _, r1, r2, k _ H Hf (Grow.refl s) rfl⟩
 ·cases h
theorem od_sub : OpD X (binaryOp .Sub) subI := fun x y z h => by
 unfold subI at h
 split at h
 ·cases h
  exact OpR.imp op_sub fun vx vy H Q ⟨Hf, s, r1, r2, k⟩ => ⟨_, _, r1, r2, k _ H Hf (Grow.refl s) rfl⟩
 ·cases h
theorem od_mul : OpD X (binaryOp .Mult) mulI := fun x y z h => by
 unfold mulI at h
 split at h
 ·split at h
  ·rename_i c
   cases h
   exact OpR.imp op_mulS fun vx vy H Q ⟨Hf, s, r1, r2, k⟩ => ⟨_, _, r1, r2, c, k _ H Hf (Grow.refl s) rfl⟩
  ·cases h
 ·cases h
theorem op_fdiv64 : OpR X (binaryOp .FloorDiv) (rI (fun _ j => 0 < j ∧ Small j) fun i j => .int (i / j)) := opI fun i j _ _ s Q E hc q => by
 have e : i.fdiv j = i / j := Int.fdiv_eq_ediv_of_nonneg i (Int.le_of_lt hc.1)
 refine floordiv_int (by omega) (by rw [e]; exact q) (.inl (PyProof.noPylong_of_log2 ?_))
 have h2 := hc.2.log (by omega)
 omega
theorem od_div : OpD X (binaryOp .FloorDiv) divI := fun x y z h => by
 unfold divI at h
 split at h
 ·split at h
  ·rename_i c
   cases h
   exact OpR.imp op_fdiv64 fun vx vy H Q ⟨Hf, s, r1, r2, k⟩ => ⟨_, _, r1, r2, c, k _ H Hf (Grow.refl s) rfl⟩
  ·cases h
 ·cases h
theorem od_mod : OpD X (binaryOp .Mod) modI := fun x y z h => by
 unfold modI at h
 split at h
 ·split at h
  ·rename_i c
   cases h
   exact OpR.imp op_mod fun vx vy H Q ⟨Hf, s, r1, r2, k⟩ => ⟨_, _, r1, r2, c, k _ H Hf (Grow.refl s) rfl⟩
  ·cases h
 ·cases h
theorem od_pow : OpD X (binaryOp .Pow) powI := fun x y z h => by
 unfold powI at h
 split at h
 ·split at h
  ·rename_i c
   cases h
   exact OpR.imp op_pow fun vx vy H Q ⟨Hf, s, r1, r2, k⟩ => ⟨_, _, r1, r2, c, k _ H Hf (Grow.refl s) rfl⟩
  ·cases h
 ·cases h
theorem op_catT0 : OpR X (binaryOp .Add) (fun x y H Q => ∃ a b ys, x = .ref a ∧ y = .ref b ∧ SqT X.K H a [] ∧ SqT X.K H b ys ∧ Q (.ref b) H) := by
 intro pins s σ H x y v u Q I rx ry h
 obtain ⟨a, b, ys, rfl, rfl, ha, hb, q⟩ := h
 cases rx
 cases ry
 obtain ⟨its, r1, p1, _⟩ := I.tuple ha
 obtain ⟨its2, r2, p2, _⟩ := I.tuple hb
 cases r1
 obtain ⟨⟨cls, dd, data, sl⟩, ho, hc, n, hd⟩ := id p1
 obtain ⟨⟨cls2, dd2, data2, sl2⟩, ho2, hc2, n2, hd2⟩ := id p2
 simp only at hc hd hc2 hd2
 subst hc hd hc2 hd2
 exact concat_meets ⟨_, ho, rfl⟩ ⟨_, ho2, rfl⟩ noFill_tuple_add seq_tuple_add PySem.F.slot_tuple_add PySem.F.entry_tuple_add (PySem.F.args_tuple_add_2 _ _)
   (tuple_addW0 a b _ its2.toArray n n2 dd dd2 sl sl2 (by rfl)) ⟨ho, ho2, ⟨.ref b, H, I, rfl, q⟩⟩
def catD (x y : D) : Option D := match x, y with
 | .tuple xs, .tuple ys => if xs.length + ys.length ≤ 16777216 then some (.tuple (xs ++ ys)) else none
 | .str a, .str b => if a.length + b.length ≤ 16777216 then some (.str (a ++ b)) else none
 | .int i, .int j => some (.int (i + j))
 | _, _ => none
theorem od_cat : OpD X (binaryOp .Add) catD := fun x y z h => by
 unfold catD at h
 split at h
 ·split at h
  ·rename_i xs ys c
   cases h
   cases xs with
   | nil =>
    refine OpR.imp op_catT0 fun vx vy H Q ⟨Hf, s, r1, r2, k⟩ => ?_
    obtain ⟨a, vs, rfl, h2, h3⟩ := r1
    obtain ⟨b, us, rfl, h5, h6⟩ := r2
    cases h3
    exact ⟨a, b, us, rfl, rfl, sqT_mono s h2, sqT_mono s h5, k _ H Hf (Grow.refl s) ⟨b, us, rfl, h5, h6⟩⟩
   | cons d0 ds0 =>
    refine OpR.imp op_catT fun vx vy H Q ⟨Hf, s, r1, r2, k⟩ => ?_
    obtain ⟨a, vs, rfl, h2, h3⟩ := r1
    obtain ⟨b, us, rfl, h5, h6⟩ := r2
    have l1 := h3.length
    have l2 := h6.length
    refine ⟨a, b, vs, us, rfl, rfl, sqT_mono s h2, sqT_mono s h5, ?_, by rw [sizeLine_eq]; omega, fun e => ?_, fun e p hp => ?_⟩
    ·intro e; subst e; simp at l1
    ·subst e
     have : ys = [] := by cases ys <;> simp_all
     subst this
     exact k _ H Hf (Grow.refl s) ⟨a, vs, rfl, h2, by rw [List.append_nil]; exact h3⟩
    ·exact k _ _ _ (Grow.laid s hp) ⟨p, vs ++ us, rfl, SqT.of upd_same, (h3.append h6).mono (same_upd (s.free hp))⟩
  ·cases h
 ·split at h
  ·rename_i c
   cases h
   exact OpR.imp op_add_str fun vx vy H Q ⟨Hf, s, r1, r2, k⟩ => ⟨_, _, r1, r2, by rw [sizeLine_eq]; exact c, k _ H Hf (Grow.refl s) rfl⟩
  ·cases h
 ·cases h
  exact OpR.imp op_add fun vx vy H Q ⟨Hf, s, r1, r2, k⟩ => ⟨_, _, r1, r2, k _ H Hf (Grow.refl s) rfl⟩
 ·cases h
def ltI (x y : D) : Option D := match x, y with
 | .int i, .int j => some (.bool (decide (i < j)))
 | _, _ => none
def leI (x y : D) : Option D := match x, y with
 | .int i, .int j => some (.bool (decide (i ≤ j)))
 | _, _ => none
def gtI (x y : D) : Option D := match x, y with
 | .int i, .int j => some (.bool (decide (j < i)))
 | _, _ => none
def geI (x y : D) : Option D := match x, y with
 | .int i, .int j => some (.bool (decide (j ≤ i)))
 | _, _ => none
theorem od_lt : OpD X (compareOp .Lt) ltI := fun x y z h => by
 unfold ltI at h
 split at h
 ·cases h
  exact OpR.imp op_lt fun vx vy H Q ⟨Hf, s, r1, r2, k⟩ => ⟨_, _, r1, r2, k _ H Hf (Grow.refl s) rfl⟩
 ·cases h
theorem od_le : OpD X (compareOp .LtE) leI := fun x y z h => by
 unfold leI at h
 split at h
 ·cases h
  exact OpR.imp op_le fun vx vy H Q ⟨Hf, s, r1, r2, k⟩ => ⟨_, _, r1, r2, k _ H Hf (Grow.refl s) rfl⟩
 ·cases h
theorem od_gt : OpD X (compareOp .Gt) gtI := fun x y z h => by
 unfold gtI at h
 split at h
 ·cases h
  exact OpR.imp op_gt fun vx vy H Q ⟨Hf, s, r1, r2, k⟩ => ⟨_, _, r1, r2, k _ H Hf (Grow.refl s) rfl⟩
 ·cases h
theorem od_ge : OpD X (compareOp .GtE) geI := fun x y z h => by
 unfold geI at h
 split at h
 ·cases h
  exact OpR.imp op_ge fun vx vy H Q ⟨Hf, s, r1, r2, k⟩ => ⟨_, _, r1, r2, k _ H Hf (Grow.refl s) rfl⟩
 ·cases h
mutual
theorem Rep.reads {pins : List (Addr × Obj)} {σ : L2.St} {H : Hp} {s : Shared} (I : Inv X pins σ H s) : ∀ {d : D} {v : V} {u : Value}, Rep X.K H d v → RelV v u → ∃ as, Reads s.heap u d as
 | .none, _, _, h, r => by cases h; cases r; exact ⟨_, .none⟩
 | .bool b, _, _, h, r => by cases h; cases r; exact ⟨_, .bool b⟩
 | .int i, _, _, h, r => by cases h; obtain ⟨t, rfl⟩ := r; exact ⟨_, .int i t⟩
 | .str x, _, _, h, r => by cases h; obtain ⟨t, rfl⟩ := r; exact ⟨_, .str x t⟩
 | .tuple ds, _, _, ⟨a, vs, h1, h2, h3⟩, r => by
  subst h1; cases r
  obtain ⟨its, rv, ⟨o, ho, hc, n, hd⟩, _⟩ := I.tuple h2
  obtain ⟨as, q⟩ := Reps.reads I h3 rv
  exact ⟨_, .tuple ho hc hd (by simpa using q)⟩
 | .list ds, _, _, ⟨a, vs, h1, h2, h3⟩, r => by
  subst h1; cases r
  obtain ⟨its, rv, pl, _⟩ := I.list h2
  obtain ⟨o, ho, hc, n, hd⟩ := pl.isList
  obtain ⟨as, q⟩ := Reps.reads I h3 rv
  exact ⟨_, .list ho hc hd (by simpa using q)⟩
 | .dict _, _, _, h, _ => h.elim
theorem Reps.reads {pins : List (Addr × Obj)} {σ : L2.St} {H : Hp} {s : Shared} (I : Inv X pins σ H s) : ∀ {ds : List D} {vs : List V} {us : List Value}, Reps X.K H ds vs → Vals vs us → ∃ as, ReadsAll s.heap us ds as
 | [], _, _, h, r => by cases h; cases r; exact ⟨_, .nil⟩
 | d :: ds, _, _, ⟨v, vr, h1, h2, h3⟩, r => by
  subst h1
  cases r with
  | cons r1 r2 =>
   obtain ⟨as, q1⟩ := Rep.reads I h2 r1
   obtain ⟨bs, q2⟩ := Reps.reads I h3 r2
   exact ⟨_, .cons q1 q2⟩
end
def eqD (x y : D) : Option D := if SeqAt.shaped x = true ∧ SeqAt.shaped y = true then some (.bool (PyData.eqv x y)) else none
def neD (x y : D) : Option D := if SeqAt.shaped x = true ∧ SeqAt.shaped y = true then some (.bool (!PyData.eqv x y)) else none
theorem od_eq (hu : X.A.units + 64 < cLine) : OpD X (compareOp .Eq) eqD := fun x y z h => by
 unfold eqD at h
 split at h
 ·rename_i c
  cases h
  intro pins s σ H vx vy v u Q I rx ry ⟨Hf, ss, r1, r2, k⟩
  obtain ⟨as, q1⟩ := Rep.reads I (r1.mono ss) rx
  obtain ⟨bs, q2⟩ := Rep.reads I (r2.mono ss) ry
  exact eq_dataH q1 q2 c.1 c.2 hu ⟨.bl _, H, I, rfl, k _ H Hf (Grow.refl ss) rfl⟩
 ·cases h
theorem od_ne (hu : X.A.units + 64 < cLine) : OpD X (compareOp .NotEq) neD := fun x y z h => by
 unfold neD at h
 split at h
 ·rename_i c
  cases h
  intro pins s σ H vx vy v u Q I rx ry ⟨Hf, ss, r1, r2, k⟩
  obtain ⟨as, q1⟩ := Rep.reads I (r1.mono ss) rx
  obtain ⟨bs, q2⟩ := Rep.reads I (r2.mono ss) ry
  exact ne_dataH q1 q2 c.1 c.2 hu ⟨.bl _, H, I, rfl, k _ H Hf (Grow.refl ss) rfl⟩
 ·cases h
def isN (x y : D) : Option D := match x, y with
 | .none, .none => some (.bool true)
 | .dict _, _ => none
 | _, .none => some (.bool false)
 | _, _ => none
theorem rep_non {K : PySem.W.Frag} {H : Hp} {d : D} {v : V} (h : Rep K H d v) : (decide (v = .non)) = (match d with | .none => true | _ => false) := by
 cases d with
 | none => cases h; rfl
 | bool b => cases h; rfl
 | int b => cases h; rfl
 | str b => cases h; rfl
 | tuple ds => obtain ⟨a, vs, rfl, _⟩ := h; rfl
 | list ds => obtain ⟨a, vs, rfl, _⟩ := h; rfl
 | dict ds => exact h.elim
theorem od_isN : OpD X (compareOp .Is) isN := fun x y z h => by
 refine OpR.imp op_isN fun vx vy H Q ⟨Hf, s, r1, r2, k⟩ => ?_
 have e := rep_non r1
 cases y <;> cases x <;> simp only [isN, Option.some.injEq, reduceCtorEq] at h <;>
  (subst h; simp only at e; rw [e]; exact ⟨r2, k _ H Hf (Grow.refl s) rfl⟩)
def notN (x y : D) : Option D := match x, y with
 | .none, .none => some (.bool false)
 | .dict _, _ => none
 | _, .none => some (.bool true)
 | _, _ => none
theorem od_notN : OpD X (compareOp .IsNot) notN := fun x y z h => by
 refine OpR.imp op_notN fun vx vy H Q ⟨Hf, s, r1, r2, k⟩ => ?_
 have e := rep_non r1
 cases y <;> cases x <;> simp only [notN, Option.some.injEq, reduceCtorEq] at h <;>
  (subst h; simp only at e; rw [e]; exact ⟨r2, k _ H Hf (Grow.refl s) rfl⟩)
def dChain (h1 h2 : D → D → Option D) (f g k : DE) : DE := fun ρ => (f ρ).bind fun x => (g ρ).bind fun y => (h1 x y).bind fun z => match z with
 | .bool true => (k ρ).bind fun w => h2 y w
 | .bool false => some (.bool false)
 | _ => none
theorem je_chain {op op' : CmpOp} {h1 h2 : D → D → Option D} {a b c : Expr} {f g k : DE} {pos : Pos} (o1 : OpD X (compareOp op) h1) (o2 : OpD X (compareOp op') h2) (ha : JE X a f) (hb : JE X b g) (hc : JE X c k)
  (hm : lastMarks [op, op'] [b, c] = false := by with_unfolding_all rfl) : JE X (.Compare a [op, op'] [b, c] pos) (dChain h1 h2 f g k) := fun ρ d q => by
 obtain ⟨x, e1, q⟩ := xbm q
 obtain ⟨y, e2, q⟩ := xbm q
 obtain ⟨z, e3, q⟩ := xbm q
 split at q
 ·obtain ⟨w, e4, e5⟩ := xbm q
  refine pe_imp (pe_chain (o1 x y _ e3) (o2 y w d e5) (ha ρ x e1) (hb ρ y e2) (hc ρ w e4) hm) fun σ H Q ⟨H0, Hf, s, sl, kk⟩ => ?_
  refine ⟨H0, Hf, s, sl, fun v H1 Hf1 g1 r1 => ⟨H0, Hf1, g1.sub, sl.grow g1, fun u H2 Hf2 g2 r2 => ⟨Hf2, g2.sub, r1.mono g2.ext, r2, fun z' H3 Hf3 g3 r3 => ?_⟩⟩⟩
  refine ⟨true, r3, iteT ⟨H0, Hf3, g3.sub, sl.grow ((g1.trans g2).trans g3), fun w' H4 Hf4 g4 r4 => ⟨Hf4, g4.sub, r2.mono (g3.trans g4).ext, r4, fun z2 H5 Hf5 g5 r5 => ?_⟩⟩⟩
  exact kk z2 H5 Hf5 ((((g1.trans g2).trans g3).trans g4).trans g5) r5
 ·cases q
  intro pins s σ H Q I ⟨H0, Hf, ss, sl, kk⟩
  refine pe_chain (tc := fun _ _ _ => False) (r' := fun _ _ _ _ => False) (o1 x y _ e3) (fun _ _ _ _ _ _ _ _ _ _ _ _ h => h.elim) (ha ρ x e1) (hb ρ y e2) (fun _ _ _ _ _ _ h => h.elim) hm pins s σ H Q I ?_
  refine ⟨H0, Hf, ss, sl, fun v H1 Hf1 g1 r1 => ⟨H0, Hf1, g1.sub, sl.grow g1, fun u H2 Hf2 g2 r2 => ⟨Hf2, g2.sub, r1.mono g2.ext, r2, fun z' H3 Hf3 g3 r3 => ?_⟩⟩⟩
  exact ⟨false, r3, iteF (kk _ H3 Hf3 ((g1.trans g2).trans g3) rfl)⟩
 ·cases q
theorem je_one {op : BoolOp} {a : Expr} {f : DE} {pos : Pos} (h : JE X a f) : JE X (.BoolOp op [a] pos) f := fun ρ d q => pe_one (h ρ d q)
def dAnd (f g : DE) : DE := fun ρ => (f ρ).bind fun x => match x with
 | .bool true => g ρ
 | .bool false => some (.bool false)
 | _ => none
def dOr (f g : DE) : DE := fun ρ => (f ρ).bind fun x => match x with
 | .bool true => some (.bool true)
 | .bool false => g ρ
 | _ => none
def dNot (f : DE) : DE := fun ρ => (f ρ).bind fun x => match x with
 | .bool c => some (.bool (!c))
 | _ => none
theorem je_and {a b : Expr} {rest : List Expr} {f g : DE} {pos : Pos} (ha : JE X a f) (hb : JE X (.BoolOp .And (b :: rest) pos) g) : JE X (.BoolOp .And (a :: b :: rest) pos) (dAnd f g) := fun ρ d q => by
 obtain ⟨x, e1, q⟩ := xbm q
 split at q
 ·refine pe_imp (pe_and (ha ρ _ e1) (hb ρ d q)) fun σ H Q ⟨H0, Hf, s, sl, k⟩ => ⟨H0, Hf, s, sl, fun v H1 Hf1 g1 r1 => ⟨true, r1, iteT ⟨H0, Hf1, g1.sub, sl.grow g1, fun u H2 Hf2 g2 r2 => k u H2 Hf2 (g1.trans g2) r2⟩⟩⟩
 ·cases q
  refine pe_imp (pe_and (tb := fun _ _ _ => False) (ha ρ _ e1) (fun _ _ _ _ _ _ h => h.elim)) fun σ H Q ⟨H0, Hf, s, sl, k⟩ => ⟨H0, Hf, s, sl, fun v H1 Hf1 g1 r1 => ⟨false, r1, iteF (k _ H1 Hf1 g1 rfl)⟩⟩
 ·cases q
theorem je_or {a b : Expr} {rest : List Expr} {f g : DE} {pos : Pos} (ha : JE X a f) (hb : JE X (.BoolOp .Or (b :: rest) pos) g) : JE X (.BoolOp .Or (a :: b :: rest) pos) (dOr f g) := fun ρ d q => by
 obtain ⟨x, e1, q⟩ := xbm q
 split at q
 ·cases q
  refine pe_imp (pe_or (tb := fun _ _ _ => False) (ha ρ _ e1) (fun _ _ _ _ _ _ h => h.elim)) fun σ H Q ⟨H0, Hf, s, sl, k⟩ => ⟨H0, Hf, s, sl, fun v H1 Hf1 g1 r1 => ⟨true, r1, iteT (k _ H1 Hf1 g1 rfl)⟩⟩
 ·refine pe_imp (pe_or (ha ρ _ e1) (hb ρ d q)) fun σ H Q ⟨H0, Hf, s, sl, k⟩ => ⟨H0, Hf, s, sl, fun v H1 Hf1 g1 r1 => ⟨false, r1, iteF ⟨H0, Hf1, g1.sub, sl.grow g1, fun u H2 Hf2 g2 r2 => k u H2 Hf2 (g1.trans g2) r2⟩⟩⟩
 ·cases q
theorem je_not {a : Expr} {f : DE} {pos : Pos} (ha : JE X a f) : JE X (.UnaryOp .Not a pos) (dNot f) := fun ρ d q => by
 obtain ⟨x, e1, q⟩ := xbm q
 split at q
 ·cases q
  exact pe_imp (pe_not (ha ρ _ e1)) fun σ H Q ⟨H0, Hf, s, sl, k⟩ => ⟨H0, Hf, s, sl, fun v H1 Hf1 g1 r1 => ⟨_, r1, k _ H1 Hf1 g1 rfl⟩⟩
 ·cases q
def truD : D → Option Bool
 | .none => some false
 | .bool b => some b
 | .int i => some (i != 0)
 | .str x => if x.length ≤ 16777216 then some ((x.length : Int) != 0) else none
 | .list ds => some (!ds.isEmpty)
 | .tuple ds => some (!ds.isEmpty)
 | .dict _ => none
def tTru (f : DE) : Rho → Option Bool := fun ρ => (f ρ).bind truD
theorem jt_tru {a : Expr} {f : DE} (ha : JE X a f) (he : ∀ whole, isTrue a X.env whole = (do let v ← whole; standAt a.pos; holding [v] (truthy v)) := by intro _; rfl) : JT X a (tTru f) := fun ρ c q => by
 obtain ⟨d, e1, e2⟩ := xbm q
 refine pt_imp (pt_truth (ha ρ d e1) he) fun σ H Q ⟨H0, Hf, s, sl, k⟩ => ⟨H0, Hf, s, sl, fun v H1 Hf1 g1 r1 => ⟨c, ?_, k H1 Hf1 g1⟩⟩
 cases d with
 | none => cases e2; cases r1; rfl
 | bool b => cases e2; cases r1; rfl
 | int i => cases e2; cases r1; rfl
 | str x =>
  simp only [truD] at e2
  split at e2
  ·rename_i hx; cases e2; cases r1; exact ⟨by rw [sizeLine_eq]; exact hx, rfl⟩
  ·cases e2
 | list ds =>
  cases e2
  obtain ⟨a, vs, rfl, h2, h3⟩ := r1
  refine .inl ⟨vs, sqL_mono g1.sub h2, ?_⟩
  have := h3.length
  cases ds <;> cases vs <;> simp_all
 | tuple ds =>
  cases e2
  obtain ⟨a, vs, rfl, h2, h3⟩ := r1
  refine .inr (.inl ⟨vs, sqT_mono g1.sub h2, ?_⟩)
  have := h3.length
  cases ds <;> cases vs <;> simp_all
 | dict _ => cases e2
def boolOf : D → Option Bool
 | .bool b => some b
 | _ => none
def tB2 (h : D → D → Option D) (f g : DE) : Rho → Option Bool := fun ρ => (dBin h f g ρ).bind boolOf
theorem bool_of {d : D} {c : Bool} (h : boolOf d = some c) : d = .bool c := by
 cases d <;> simp [boolOf] at h
 subst h; rfl
theorem jt_cmp {op : CmpOp} {h : D → D → Option D} {a b : Expr} {f g : DE} {pos : Pos} (o : OpD X (compareOp op) h) (ha : JE X a f) (hb : JE X b g) (hm : behindInMarks op b = false := by first | exact nomark _ | rfl) : JT X (.Compare a [op] [b] pos) (tB2 h f g) := fun ρ c q => by
 obtain ⟨d, q, e⟩ := xbm q
 obtain ⟨x, h1, q⟩ := xbm q
 obtain ⟨y, h2, h3⟩ := xbm q
 have := bool_of e
 subst this
 refine pt_imp (pt_cmpR (o x y _ h3) (ha ρ x h1) (hb ρ y h2) hm) fun σ H Q ⟨H0, Hf, s, sl, k⟩ => ?_
 refine ⟨H0, Hf, s, sl, fun v H1 Hf1 g1 r1 => ⟨H0, Hf1, g1.sub, sl.grow g1, fun u H2 Hf2 g2 r2 => ?_⟩⟩
 exact ⟨Hf2, g2.sub, r1.mono g2.ext, r2, fun w H3 Hf3 g3 r3 => ⟨c, r3, k H3 Hf3 ((g1.trans g2).trans g3)⟩⟩
def tAnd2 (f g : Rho → Option Bool) : Rho → Option Bool := fun ρ => (f ρ).bind fun c => if c then g ρ else some false
def tOr2 (f g : Rho → Option Bool) : Rho → Option Bool := fun ρ => (f ρ).bind fun c => if c then some true else g ρ
def tNot2 (f : Rho → Option Bool) : Rho → Option Bool := fun ρ => (f ρ).map fun c => !c
theorem pw_imp {e : Expr} {t t' : TT} (h : PW X e t) (i : ∀ σ H Q, t' σ H Q → t σ H Q) : PW X e t' := fun whole pins s σ H Q I q => h whole pins s σ H Q I (i σ H Q q)
theorem jt_of_jw {e : Expr} {f : Rho → Option Bool} (h : JW X e f) : JT X e f := fun ρ c q => (h ρ c q).pt
theorem jw_and1 {a : Expr} {f : Rho → Option Bool} {pos : Pos} (h : JT X a f) : JW X (.BoolOp .And [a] pos) f := fun ρ c q => pw_and1 (h ρ c q)
theorem jw_or1 {a : Expr} {f : Rho → Option Bool} {pos : Pos} (h : JT X a f) : JW X (.BoolOp .Or [a] pos) f := fun ρ c q => pw_or1 (h ρ c q)
theorem jw_and {a b : Expr} {rest : List Expr} {f g : Rho → Option Bool} {pos : Pos} (ha : JT X a f) (hb : JW X (.BoolOp .And (b :: rest) pos) g) : JW X (.BoolOp .And (a :: b :: rest) pos) (tAnd2 f g) := fun ρ c q => by
 obtain ⟨x, e1, q⟩ := xbm q
 cases x with
 | true => exact pw_imp (pw_and (ha ρ _ e1) (hb ρ c (by simpa using q))) fun σ H Q ⟨H0, Hf, s, sl, k⟩ => ⟨H0, Hf, s, sl, fun H1 Hf1 g1 => iteT ⟨H0, Hf1, g1.sub, sl.grow g1, fun H2 Hf2 g2 => k H2 Hf2 (g1.trans g2)⟩⟩
 | false =>
  have : c = false := by simpa using q.symm
  subst this
  exact pw_imp (pw_and (tB' := fun _ _ _ => False) (ha ρ _ e1) (fun _ _ _ _ _ _ _ h => h.elim)) fun σ H Q ⟨H0, Hf, s, sl, k⟩ => ⟨H0, Hf, s, sl, fun H1 Hf1 g1 => iteF (k H1 Hf1 g1)⟩
theorem jw_or {a b : Expr} {rest : List Expr} {f g : Rho → Option Bool} {pos : Pos} (ha : JT X a f) (hb : JW X (.BoolOp .Or (b :: rest) pos) g) : JW X (.BoolOp .Or (a :: b :: rest) pos) (tOr2 f g) := fun ρ c q => by
 obtain ⟨x, e1, q⟩ := xbm q
 cases x with
 | false => exact pw_imp (pw_or (ha ρ _ e1) (hb ρ c (by simpa using q))) fun σ H Q ⟨H0, Hf, s, sl, k⟩ => ⟨H0, Hf, s, sl, fun H1 Hf1 g1 => iteF ⟨H0, Hf1, g1.sub, sl.grow g1, fun H2 Hf2 g2 => k H2 Hf2 (g1.trans g2)⟩⟩
 | true =>
  have : c = true := by simpa using q.symm
  subst this
  exact pw_imp (pw_or (tB' := fun _ _ _ => False) (ha ρ _ e1) (fun _ _ _ _ _ _ _ h => h.elim)) fun σ H Q ⟨H0, Hf, s, sl, k⟩ => ⟨H0, Hf, s, sl, fun H1 Hf1 g1 => iteT (k H1 Hf1 g1)⟩
theorem jt_not {a : Expr} {f : Rho → Option Bool} {pos : Pos} (ha : JT X a f) : JT X (.UnaryOp .Not a pos) (tNot2 f) := fun ρ c q => by
 obtain ⟨x, e1, e2⟩ := Option.map_eq_some_iff.mp q
 subst e2
 exact pt_imp (pt_not (ha ρ x e1)) fun σ H Q ⟨H0, Hf, s, sl, k⟩ => ⟨H0, Hf, s, sl, fun H1 Hf1 g1 => k H1 Hf1 g1⟩
def dIte (t : Rho → Option Bool) (f g : DE) : DE := fun ρ => (t ρ).bind fun c => if c then f ρ else g ρ
theorem je_ife {c a b : Expr} {t : Rho → Option Bool} {f g : DE} {pos : Pos} (hc : JT X c t) (ha : JE X a f) (hb : JE X b g) : JE X (.IfExp c a b pos) (dIte t f g) := fun ρ d q => by
 obtain ⟨x, e1, q⟩ := xbm q
 cases x with
 | true => exact pe_imp (pe_ifExp (tb := fun _ _ _ => False) (hc ρ _ e1) (ha ρ d (by simpa using q)) (fun _ _ _ _ _ _ h => h.elim)) fun σ H Q ⟨H0, Hf, s, sl, k⟩ => ⟨H0, Hf, s, sl, fun H1 Hf1 g1 => iteT ⟨H0, Hf1, g1.sub, sl.grow g1, fun u H2 Hf2 g2 r2 => k u H2 Hf2 (g1.trans g2) r2⟩⟩
 | false => exact pe_imp (pe_ifExp (ta := fun _ _ _ => False) (hc ρ _ e1) (fun _ _ _ _ _ _ h => h.elim) (hb ρ d (by simpa using q))) fun σ H Q ⟨H0, Hf, s, sl, k⟩ => ⟨H0, Hf, s, sl, fun H1 Hf1 g1 => iteF ⟨H0, Hf1, g1.sub, sl.grow g1, fun u H2 Hf2 g2 r2 => k u H2 Hf2 (g1.trans g2) r2⟩⟩
def dIx (f : Rho → Option (Bool × List D)) (g : DE) : DE := fun ρ => (f ρ).bind fun q => (g ρ).bind fun i => match i with
 | .int i => atI q.2 i
 | _ => none
theorem reps_at {K : PySem.W.Frag} {H : Hp} {ds : List D} {vs : List V} {i : Int} {d : D} (h : Reps K H ds vs) (e : atI ds i = some d) : ∃ v, atI vs i = some v ∧ Rep K H d v := by
 unfold atI at e ⊢
 rw [h.length]
 obtain ⟨j, h1, h2⟩ := xbm e
 obtain ⟨v, h3, h4⟩ := h.get h2
 exact ⟨v, by rw [h1]; exact h3, h4⟩
theorem je_ix {a b : Expr} {f : Rho → Option (Bool × List D)} {g : DE} {pos : Pos} (ha : JQ X a f) (hb : JE X b g) (hs : PlainIx b := by intro _ _; rfl) : JE X (.Subscript a b pos) (dIx f g) := fun ρ d q => by
 obtain ⟨⟨t, ds⟩, h1, q⟩ := xbm q
 obtain ⟨y, h2, h3⟩ := xbm q
 split at h3
 ·refine pe_imp (pe_ix ix_seq (ha ρ t ds h1) (hb ρ _ h2) hs) fun σ H Q ⟨H0, Hf, s, sl, k⟩ => ?_
  refine ⟨H0, Hf, s, sl, fun v H1 Hf1 g1 ⟨p, vs, e1, e2, e3⟩ => ⟨H0, Hf1, g1.sub, sl.grow g1, fun u H2 Hf2 g2 r2 => ?_⟩⟩
  obtain ⟨w, q1, q2⟩ := reps_at (e3.mono g2.ext) h3
  cases t with
  | true => exact .inr (.inl ⟨p, vs, _, w, e1, r2, sqT_mono g2.big e2, q1, k w H2 Hf2 (g1.trans g2) q2⟩)
  | false => exact .inl ⟨p, vs, _, w, e1, r2, sqL_mono g2.big e2, q1, k w H2 Hf2 (g1.trans g2) q2⟩
 ·cases h3
def cutD (xs : List D) (lo hi : Option Int) : List D := (xs.drop (HT.sIx xs.length 0 lo)).take (HT.sIx xs.length xs.length hi - HT.sIx xs.length 0 lo)
theorem reps_cut {K : PySem.W.Frag} {H : Hp} {ds : List D} {vs : List V} (h : Reps K H ds vs) (lo hi : Option Int) : Reps K H (cutD ds lo hi) (cutV vs lo hi) := by
 unfold cutD cutV
 rw [h.length]
 exact (h.drop _).take _
def JO (X : Cx) (e : Option Expr) (f : Rho → Option (Option Int)) : Prop := ∀ ρ o, f ρ = some o → PO X e (fun σ H Q => ∃ H0 Hf, Same Hf H ∧ Slots X.K H0 ρ σ H Hf ∧ ∀ H' Hf', Grow H Hf H' Hf' → Q o H')
def oNone : Rho → Option (Option Int) := fun _ => some none
def intOf : D → Option Int
 | .int i => some i
 | _ => none
def oSome (f : DE) : Rho → Option (Option Int) := fun ρ => (f ρ).bind fun d => (intOf d).map some
theorem jo_none : JO X none oNone := fun ρ o q => by
 cases q
 intro pins s σ H Q I ⟨H0, Hf, ss, sl, k⟩
 exact po_none pins s σ H Q I (k H Hf (Grow.refl ss))
theorem jo_some {e : Expr} {f : DE} (h : JE X e f) : JO X (some e) (oSome f) := fun ρ o q => by
 obtain ⟨d, e1, e2⟩ := xbm q
 obtain ⟨i, e3, e4⟩ := Option.map_eq_some_iff.mp e2
 subst e4
 cases d <;> simp [intOf] at e3
 subst e3
 intro pins s σ H Q I ⟨H0, Hf, ss, sl, k⟩
 exact po_some (h ρ _ e1) pins s σ H Q I ⟨H0, Hf, ss, sl, fun v H1 Hf1 g1 r1 => ⟨_, r1, k H1 Hf1 g1⟩⟩
def dSlT (f : DE) (lo hi : Rho → Option (Option Int)) : DE := fun ρ => (f ρ).bind fun d => (lo ρ).bind fun l => (hi ρ).bind fun h => match d with
 | .tuple xs => some (.tuple (cutD xs l h))
 | _ => none
theorem getItem_tuple_whole {prog : Program} {w : World} {A : Around} {E : Value → Shared → Prop} {s : Shared} {t sl : Addr} {items : Array Value} {vl vu : Value} {lo hi : Option Int} {Q : Value → Shared → Prop} (ht : IsTup s.heap t items) (hs : s.heap.IsSliceOf sl vl vu .none) (pl : IsPart vl lo) (pu : IsPart vu hi)
  (hw : HT.sIx items.size 0 lo = 0 ∧ HT.sIx items.size items.size hi = items.size) (h : Q (.ref t) s) : wpAny (model prog w) A (getItem (.ref t) (.ref sl)) Q E s := by
 obtain ⟨os, hos, hcs, hds⟩ := id hs
 have hTs : s.TypeIs (.ref sl) "slice" := ⟨os, hos, hcs⟩
 unfold getItem
 try with_reducible refine wpAny_holding ?_
 first | refine wpAny_bind (wpAny_pure ?_) | skip
 refine wpAny_bind (wpAny_sequenceKey ht.typeIs (by decide) ?_)
 refine wpAny_bind (wpAny_callSpecial?_slot (name := Str.ofString "__getitem__") ht.typeIs PyProof.Rows.slot_tuple_getitem
  (wpAny_call_entry PyProof.Rows.slot_tuple_getitem ht.typeIs entry_tuple_getitem ?_ (args_tuple_getitem _ _)))
 show wpAny _ _ (Builtin.Tuple.tupleItemsOf (.ref t) >>= _) _ _ s
 refine wpAny_bind (tupleItemsOf_ ht ?_)
 refine wpAny_bind (wpAny_typeOf hTs ?_)
 rw [if_pos (by decide)]
 refine wpAny_bind (HT.sliceApplied_gen hs pl pu ?_)
 have hyes : ((((HT.sIx items.size 0 lo : Nat) : Int) == 0 && (1 : Int) == 1 && (HT.sIx items.size items.size hi - HT.sIx items.size 0 lo) == items.size) = true) := by
  rw [hw.1, hw.2]; simp
 show wpAny _ _ (if (((HT.sIx items.size 0 lo : Nat) : Int) == 0 && (1 : Int) == 1 && (HT.sIx items.size items.size hi - HT.sIx items.size 0 lo) == items.size) = true then _ else _) _ _ s
 rw [if_pos hyes]
 unfold Builtin.Tuple.tupleIsExact
 refine wpAny_bind (wpAny_bind (wpAny_typeOf ht.typeIs (wpAny_pure ?_)))
 rw [if_pos (by decide +kernel)]
 exact wpAny_bind (wpAny_rule (wpAny_pure ⟨_, rfl, wpAny_pure h⟩))
theorem sl_tup_whole : SlR X (fun x lo hi H Q => ∃ a xs, x = .ref a ∧ SqT X.K H a xs ∧ (HT.sIx xs.length 0 lo = 0 ∧ HT.sIx xs.length xs.length hi = xs.length) ∧ Q (.ref a) H) := by
 intro pins s σ H x v vl vu lo hi sl Q I rx hs pl pu h
 obtain ⟨a, xs, rfl, hx, hw, q⟩ := h
 cases rx
 obtain ⟨its, r, ht, hz⟩ := I.tuple hx
 have hlen : its.toArray.size = xs.length := by rw [List.size_toArray]; exact r.length.symm
 refine ⟨"tuple", _, PyProof.Rows.slot_tuple_getitem.lookup, ht.typeIs, ?_⟩
 exact getItem_tuple_whole ht hs pl pu (by rw [hlen]; exact hw) ⟨.ref a, H, I, rfl, q⟩
theorem je_slT {a : Expr} {lo hi : Option Expr} {f : DE} {l h : Rho → Option (Option Int)} {pos p2 : Pos} (ha : JE X a f) (hl : JO X lo l) (hh : JO X hi h) : JE X (.Subscript a (.Slice lo hi none p2) pos) (dSlT f l h) := fun ρ d q => by
 obtain ⟨x, e1, q⟩ := xbm q
 obtain ⟨y, e2, q⟩ := xbm q
 obtain ⟨z, e3, q⟩ := xbm q
 cases x with
 | tuple xs =>
  cases q
  refine pe_imp (pe_slice (sl_tup.or sl_tup_whole) (ha ρ _ e1) (hl ρ y e2) (hh ρ z e3)) fun σ H Q ⟨H0, Hf, s, sl, k⟩ => ?_
  refine ⟨H0, Hf, s, sl, fun v H1 Hf1 g1 ⟨p, vs, q1, q2, q3⟩ => ⟨H0, Hf1, g1.sub, sl.grow g1, fun H2 Hf2 g2 => ⟨H0, Hf2, g2.sub, sl.grow (g1.trans g2), fun H3 Hf3 g3 => ?_⟩⟩⟩
  subst q1
  have q2' := sqT_mono (g2.trans g3).ext q2
  have q3' := q3.mono (g2.trans g3).ext
  by_cases c : HT.sIx vs.length 0 y = 0 ∧ HT.sIx vs.length vs.length z = vs.length
  ·refine .inr ⟨p, vs, rfl, sqT_mono g3.sub q2', c, k _ H3 Hf3 ((g1.trans g2).trans g3) ⟨p, vs, rfl, q2', ?_⟩⟩
   have : cutD xs y z = xs := by
    unfold cutD
    rw [← q3.length, c.1, c.2]
    simp [q3.length]
   rw [this]; exact q3'
  ·refine .inl ⟨p, vs, rfl, sqT_mono g3.sub q2', c, fun p' hp => ?_⟩
   exact k _ _ _ (((g1.trans g2).trans g3).trans (Grow.laid g3.sub hp)) ⟨p', _, rfl, SqT.of upd_same, (reps_cut q3' y z).mono (same_upd (g3.sub.free hp))⟩
 | _ => cases q
end
end G
namespace G
open PySem PySem.Spec PyProof.Rows L2
section
variable {X : Cx}
theorem bb_len : bootBuiltins "len" = some (.builtin "len") := PySem.boot_len
theorem bb_all : bootBuiltins "all" = some (.builtin "all") := by decide +kernel
theorem bb_isi : bootBuiltins "isinstance" = some (.builtin "isinstance") := by decide +kernel
theorem bb_int : bootBuiltins "int" = some (.type "int") := by decide +kernel
theorem bb_bool : bootBuiltins "bool" = some (.type "bool") := by decide +kernel
theorem bb_str : bootBuiltins "str" = some (.type "str") := by decide +kernel
theorem bb_list : bootBuiltins "list" = some (.type "list") := by decide +kernel
theorem bb_tuple : bootBuiltins "tuple" = some (.type "tuple") := by decide +kernel
theorem bb_zip : bootBuiltins "zip" = some (.type "zip") := by decide +kernel
def dLen (f : Rho → Option (Bool × List D)) : DE := fun ρ => (f ρ).map fun q => .int q.2.length
theorem je_len {e : Expr} {f : Rho → Option (Bool × List D)} {p pos : Pos} (hg : Gl X "len") (hm : X.mg "len" = none) (h : JQ X e f) (he : starEach [e] X.env = [(false, eval e X.env)] := by rfl) : JE X (.Call (.Name "len" p) [e] [] pos) (dLen f) := fun ρ d q => by
 obtain ⟨⟨t, ds⟩, h1, h2⟩ := Option.map_eq_some_iff.mp q
 subst h2
 refine pe_imp (pe_callB call_len_seq hg hm bb_len (pa_cons (h ρ t ds h1) pa_nil he) (he := he)) fun σ H Q ⟨H0, Hf, s, sl, k⟩ => ?_
 refine ⟨H0, Hf, s, sl, fun v H1 Hf1 g1 ⟨a, vs, e1, e2, e3⟩ => ⟨a, vs, by rw [e1], ?_, ?_⟩⟩
 ·cases t with
  | true => exact .inr e2
  | false => exact .inl e2
 ·exact k _ H1 Hf1 g1 (by rw [e3.length]; rfl)
theorem je_tupOf {e : Expr} {f : Rho → Option (Bool × List D)} {p pos : Pos} (hg : Gl X "tuple") (hm : X.mg "tuple" = none) (h : JQ X e f) (hz : ∀ ρ ds, f ρ ≠ some (true, ds) ∨ True := by intros; exact .inr trivial) (he : starEach [e] X.env = [(false, eval e X.env)] := by rfl) :
  JE X (.Call (.Name "tuple" p) [e] [] pos) (fun ρ => (f ρ).bind fun q => if q.1 = true then none else some (.tuple q.2)) := fun ρ d q => by
 obtain ⟨⟨t, ds⟩, h1, h2⟩ := xbm q
 cases t with
 | true => simp at h2
 | false =>
  simp only [Bool.false_eq_true, if_false, Option.some.injEq] at h2
  subst h2
  refine pe_imp (pe_callTy call_tuple_of hg hm bb_tuple (pa_cons (h ρ false ds h1) pa_nil he) (he := he)) fun σ H Q ⟨H0, Hf, s, sl, k⟩ => ?_
  refine ⟨H0, Hf, s, sl, fun v H1 Hf1 g1 ⟨a, vs, e1, e2, e3⟩ => ⟨a, vs, by rw [e1], .inl ⟨e2, fun l hl => ?_⟩⟩⟩
  exact k _ _ _ (g1.trans (Grow.laid g1.sub hl)) ⟨l, vs, rfl, SqT.of upd_same, e3.mono (same_upd (g1.sub.free hl))⟩
theorem jn_list {e : Expr} {f : Rho → Option (Bool × List D)} {p pos : Pos} (hg : Gl X "list") (hm : X.mg "list" = none) (h : JQ X e f) (he : starEach [e] X.env = [(false, eval e X.env)] := by rfl) : JN X (.Call (.Name "list" p) [e] [] pos) (fun ρ => (f ρ).map fun q => q.2) := fun ρ ds' q => by
 obtain ⟨⟨t, ds⟩, h1, h2⟩ := Option.map_eq_some_iff.mp q
 subst h2
 refine pe_imp (pe_callTy call_list_of hg hm bb_list (pa_cons (h ρ t ds h1) pa_nil he) (he := he)) fun σ H Q ⟨H0, Hf, s, sl, k⟩ => ?_
 refine ⟨H0, Hf, s, sl, fun v H1 Hf1 g1 ⟨a, vs, e1, e2, e3⟩ => ⟨a, vs, by rw [e1], ?_, fun l hl => ?_⟩⟩
 ·cases t with
  | true => exact .inr e2
  | false => exact .inl e2
 ·exact k _ _ _ (g1.trans (Grow.made g1.sub hl)) ⟨l, vs, rfl, g1.big.free hl, upd_same, g1.sub.free hl, e3⟩
def dInt (f : DE) : DE := fun ρ => (f ρ).bind fun d => match d with
 | .int i => some (.int i)
 | .bool b => some (.int (if b then 1 else 0))
 | _ => none
theorem je_intOf {e : Expr} {f : DE} {p pos : Pos} (hg : Gl X "int") (hm : X.mg "int" = none) (h : JE X e f) (he : starEach [e] X.env = [(false, eval e X.env)] := by rfl) : JE X (.Call (.Name "int" p) [e] [] pos) (dInt f) := fun ρ d q => by
 obtain ⟨x, h1, h2⟩ := xbm q
 split at h2
 ·cases h2
  exact pe_imp (pe_callTy call_int1 hg hm bb_int (pa_cons (h ρ _ h1) pa_nil he) (he := he)) fun σ H Q ⟨H0, Hf, s, sl, k⟩ =>
   ⟨H0, Hf, s, sl, fun v H1 Hf1 g1 r => .inl ⟨_, by rw [show v = _ from r], k _ H1 Hf1 g1 rfl⟩⟩
 ·cases h2
  exact pe_imp (pe_callTy call_int1 hg hm bb_int (pa_cons (h ρ _ h1) pa_nil he) (he := he)) fun σ H Q ⟨H0, Hf, s, sl, k⟩ =>
   ⟨H0, Hf, s, sl, fun v H1 Hf1 g1 r => .inr ⟨_, by rw [show v = _ from r], k _ H1 Hf1 g1 rfl⟩⟩
 ·cases h2
def dStr (f : DE) : DE := fun ρ => (f ρ).bind fun d => match d with
 | .int i => if i.natAbs.log2 < 1920 then some (.str (toString i)) else none
 | _ => none
theorem je_strOf {e : Expr} {f : DE} {p pos : Pos} (hg : Gl X "str") (hm : X.mg "str" = none) (h : JE X e f) (he : starEach [e] X.env = [(false, eval e X.env)] := by rfl) : JE X (.Call (.Name "str" p) [e] [] pos) (dStr f) := fun ρ d q => by
 obtain ⟨x, h1, h2⟩ := xbm q
 split at h2
 ·split at h2
  ·rename_i c
   cases h2
   exact pe_imp (pe_callTy call_str_int hg hm bb_str (pa_cons (h ρ _ h1) pa_nil he) (he := he)) fun σ H Q ⟨H0, Hf, s, sl, k⟩ =>
    ⟨H0, Hf, s, sl, fun v H1 Hf1 g1 r => ⟨_, by rw [show v = _ from r], c, k _ H1 Hf1 g1 rfl⟩⟩
  ·cases h2
 ·cases h2
def allB : List D → Option Bool
 | [] => some true
 | .bool b :: r => (allB r).map fun c => b && c
 | _ :: _ => none
theorem allB_get : ∀ {ds : List D} {c : Bool}, allB ds = some c → ∃ bs : List Bool, ds = bs.map PyData.bool ∧ c = bs.all id
 | [], c, h => by cases h; exact ⟨[], rfl, rfl⟩
 | .bool b :: r, c, h => by
  obtain ⟨c', h1, h2⟩ := Option.map_eq_some_iff.mp h
  obtain ⟨bs, h3, h4⟩ := allB_get h1
  exact ⟨b :: bs, by simp [h3], by simp [← h2, h4]⟩
theorem reps_bools {K : PySem.W.Frag} {H : Hp} : ∀ {bs : List Bool} {vs : List V}, Reps K H (bs.map PyData.bool) vs → vs = bs.map V.bl
 | [], _, h => h
 | _ :: _, _, ⟨v, r, h1, h2, h3⟩ => by subst h1; rw [show v = _ from h2, reps_bools h3]; rfl
theorem call_allL : CallR X (.builtin "all") (fun xs H Q => X.calm = true ∧ ∃ (p : Addr) (bs : List Bool), xs = [.ref p] ∧ SqL X.K H p (bs.map V.bl) ∧ Q (.bl (bs.all id)) H) := by
 intro pins s σ H xs us Q I r h
 obtain ⟨hc, p, bs, rfl, hq, q⟩ := h
 obtain ⟨u, rfl, rx⟩ := vals1 r
 cases rx
 obtain ⟨its, rv, pl, hz⟩ := I.list hq
 have hlen := rv.length
 have hh : X.A.in1.handled = none := I.ok.hd hc
 have hlt : p < s.heap.objs.size := by obtain ⟨_, e, _⟩ := pl.isList; exact Heap.lt_size e
 refine call_all_walk (wpAny_pyIter_list pl.isList ?_)
 refine ⟨s.heap.objs.size, _, _, _, _, _, fun i => (bs[i]?).getD false, rfl, Walks.list hh _ p (Nat.ne_of_lt hlt) its.toArray, ⟨⟨_, Heap.get?_push_size _ rfl, rfl, rfl⟩, pl.isList.at fun o e => Heap.get?_push_of_some _ e⟩, ?_, ?_⟩
 ·intro i v s' Q' E' hv hQ
  have hv' : its[i]? = some v := by simpa using hv
  have : ∃ b, bs[i]? = some b := by
   have : i < its.length := (List.getElem?_eq_some_iff.mp hv').1
   have : i < bs.length := by simpa using (by omega : i < (bs.map V.bl).length)
   exact ⟨bs[i], by simp [this]⟩
  obtain ⟨b, hb⟩ := this
  obtain ⟨u, hu, ru⟩ := rv.get (i := i) (x := .bl b) (by simp [hb])
  rw [hv'] at hu; cases hu
  cases ru
  exact wpAny_truthy_bool (by simpa [hb] using hQ)
 ·intro h' tk hk
  have e : ((List.range its.toArray.size).all fun i => (bs[i]?).getD false) = bs.all id := by
   have hn : its.toArray.size = bs.length := by simpa using hlen.symm
   rw [hn, Bool.eq_iff_iff]
   simp only [List.all_eq_true, List.mem_range, id]
   constructor
   ·intro h x hx
    obtain ⟨i, hi, rfl⟩ := List.mem_iff_getElem.mp hx
    simpa [hi] using h i hi
   ·intro h i hi
    simpa [hi] using h bs[i] (List.getElem_mem hi)
  rw [e]
  have I1 : Inv X pins σ H { s with heap := h', toks := tk } := by
   have I0 : Inv X pins σ H { s with heap := s.heap.push { cls := .type "list_iterator", data := .fields #[.ref p, rawInt 0] } } := I.kept (t' := s.toks) fun b o e => Heap.get?_push_of_some _ e
   refine I.kept (t' := tk) fun b o e => hk b o ?_ (Heap.get?_push_of_some _ e)
   intro hb
   have : b = s.heap.objs.size := by simpa using hb
   subst this
   exact absurd (Heap.lt_size e) (Nat.lt_irrefl _)
  exact ⟨.bl (bs.all id), H, I1, rfl, q⟩
def dAll (f : Rho → Option (Bool × List D)) : DE := fun ρ => (f ρ).bind fun q => if q.1 = true then none else (allB q.2).map PyData.bool
theorem je_all {e : Expr} {f : Rho → Option (Bool × List D)} {p pos : Pos} (hg : Gl X "all") (hm : X.mg "all" = none) (h : JQ X e f) (hc : X.calm = true := by rfl) (he : starEach [e] X.env = [(false, eval e X.env)] := by rfl) : JE X (.Call (.Name "all" p) [e] [] pos) (dAll f) := fun ρ d q => by
 obtain ⟨⟨t, ds⟩, h1, h2⟩ := xbm q
 cases t with
 | true => simp at h2
 | false =>
  simp only [Bool.false_eq_true, if_false] at h2
  obtain ⟨c, h3, h4⟩ := Option.map_eq_some_iff.mp h2
  subst h4
  obtain ⟨bs, h5, h6⟩ := allB_get h3
  subst h5 h6
  refine pe_imp (pe_callB call_allL hg hm bb_all (pa_cons (h ρ false _ h1) pa_nil he) (he := he)) fun σ H Q ⟨H0, Hf, s, sl, k⟩ => ?_
  refine ⟨H0, Hf, s, sl, fun v H1 Hf1 g1 ⟨a, vs, e1, e2, e3⟩ => ⟨hc, a, bs, by rw [e1], ?_, k _ H1 Hf1 g1 rfl⟩⟩
  rw [reps_bools e3] at e2
  exact e2
def isiD (T : String) (d : D) : Option Bool := match T, d with
 | "int", .int _ => some true
 | "int", .bool _ => some true
 | "int", .none => some false
 | "int", .str _ => some false
 | "int", .tuple _ => some false
 | "int", .list _ => some false
 | "bool", .int _ => some false
 | "bool", .bool _ => some true
 | "bool", .none => some false
 | "bool", .str _ => some false
 | "bool", .tuple _ => some false
 | "bool", .list _ => some false
 | "str", .int _ => some false
 | "str", .bool _ => some false
 | "str", .none => some false
 | "str", .str _ => some true
 | "str", .tuple _ => some false
 | "str", .list _ => some false
 | "tuple", .int _ => some false
 | "tuple", .bool _ => some false
 | "tuple", .none => some false
 | "tuple", .str _ => some false
 | "tuple", .tuple _ => some true
 | "tuple", .list _ => some false
 | "list", .int _ => some false
 | "list", .bool _ => some false
 | "list", .none => some false
 | "list", .str _ => some false
 | "list", .tuple _ => some false
 | "list", .list _ => some true
 | _, _ => none
def tyD : D → String
 | .int _ => "int"
 | .bool _ => "bool"
 | .none => "NoneType"
 | .str _ => "str"
 | .tuple _ => "tuple"
 | .list _ => "list"
 | .dict _ => "dict"
theorem isi_kit {K : PySem.W.Frag} {T : String} {d : D} {b : Bool} (h : isiD T d = some b) : PySem.W.kitOne K (.type (tyD d)) (.type T) = some b := by
 unfold isiD at h
 split at h <;> first
  | (cases h; rfl)
  | cases h
theorem call_isi {T : String} : CallR X (.builtin "isinstance") (fun xs H Q => ∃ d x b, xs = [x, .ty T] ∧ Rep X.K H d x ∧ isiD T d = some b ∧ Q (.bl b) H) := by
 intro pins s σ H xs us Q I r h
 obtain ⟨d, x, b, rfl, hd, hb, q⟩ := h
 obtain ⟨u, c, rfl, rx, rc⟩ := vals2 r
 cases rc
 have e := isi_kit (K := X.K) hb
 have fin : ∀ tk, EP X pins σ Q (.bool b) { s with toks := tk } := fun tk => ⟨.bl b, H, I.tok tk, rfl, q⟩
 cases d with
 | none => cases hd; cases rx; exact PySem.W.kia_one PySem.W.kitx_none I.kIn True.intro e (fun z => nomatch z) fin
 | bool y => cases hd; cases rx; exact PySem.W.kia_one PySem.W.kitx_bool I.kIn True.intro e (fun z => nomatch z) fin
 | int i => cases hd; obtain ⟨t, rfl⟩ := rx; exact PySem.W.kia_one PySem.W.kitx_int I.kIn True.intro e (fun z => nomatch z) fin
 | str i => cases hd; obtain ⟨t, rfl⟩ := rx; exact PySem.W.kia_one PySem.W.kitx_str I.kIn True.intro e (fun z => nomatch z) fin
 | tuple ds =>
  obtain ⟨a, vs, rfl, h2, h3⟩ := hd
  cases rx
  obtain ⟨its, rv, ⟨o, ho, hc, _⟩, _⟩ := I.tuple h2
  exact PySem.W.kia_one PySem.W.kitx_tuple I.kIn ⟨o, ho, hc⟩ e (fun z => nomatch z) fin
 | list ds =>
  obtain ⟨a, vs, rfl, h2, h3⟩ := hd
  cases rx
  obtain ⟨its, rv, pl, _⟩ := I.list h2
  obtain ⟨o, ho, hc, _⟩ := pl.isList
  exact PySem.W.kia_one PySem.W.kitx_list I.kIn ⟨o, ho, hc⟩ e (fun z => nomatch z) fin
 | dict ds => exact hd.elim
def dIsi (T : String) (f : DE) : DE := fun ρ => (f ρ).bind fun d => (isiD T d).map PyData.bool
theorem je_isi {e : Expr} {f : DE} {x : Str} {T : String} {p p2 pos : Pos} (hg : Gl X "isinstance") (hm : X.mg "isinstance" = none) (hgT : Gl X x) (hmT : X.mg x = none) (hvT : bootBuiltins x = some (.type T)) (h : JE X e f)
  (hn : x ≠ "__name__" := by decide) (hd : (x == ("__debug__" : Str)) = false := by decide)
  (he : starEach [e, .Name x p2] X.env = (false, eval e X.env) :: starEach [.Name x p2] X.env := by rfl) (he2 : starEach [.Name x p2] X.env = [(false, eval (.Name x p2) X.env)] := by rfl) (hpl : (backTo pos (starEach [.Name x p2] X.env)).any (·.1) = false := by rfl) :
  JE X (.Call (.Name "isinstance" p) [e, .Name x p2] [] pos) (dIsi T f) := fun ρ d q => by
 obtain ⟨y, h1, h2⟩ := xbm q
 obtain ⟨b, h3, h4⟩ := Option.map_eq_some_iff.mp h2
 subst h4
 refine pe_imp (pe_callB (call_isi (T := T)) hg hm bb_isi (pa_cons (h ρ y h1) (pa_cons (pe_bltn (v := .ty T) hgT hmT hvT rfl hn hd) pa_nil he2) he) (he := he) (hpl := hpl)) fun σ H Q ⟨H0, Hf, s, sl, k⟩ => ?_
 exact ⟨H0, Hf, s, sl, fun v H1 Hf1 g1 r => ⟨y, v, b, rfl, r.mono g1.sub, h3, k _ H1 Hf1 g1 rfl⟩⟩
def spF (K : PySem.W.Frag) (n : Nat) (F : List D → Option D) : Sp := fun vs H Q _ => vs.length = n ∧ ∃ Hf ds d, Same Hf H ∧ Reps K Hf ds vs ∧ F ds = some d ∧ ∀ v H' Hf', Grow H Hf H' Hf' → Rep K Hf' d v → Q v H'
def dCall (F : List D → Option D) (f : Rho → Option (List D)) : DE := fun ρ => (f ρ).bind F
theorem je_call {k : Nat} {f : Addr} {fd : FuncData} {ps : List Str} {n : Nat} {F : List D → Option D} {x : Str} {e : Expr} {es : List Expr} {g : Rho → Option (List D)} {p pos : Pos} (Fk : FnOk X.prog X.w X.K X.mg X.base CX0 k f fd ps (spF X.K n F)) (hr : Room k X.A) (hg : Gl X x) (hm : X.mg x = some (.ref f)) (hk : PySem.W.keepIn X.K (.ref f) = true) (hb : Binds X.K fd ps [])
  (ha : JA X (e :: es) g) (hn : (e :: es).length = n := by rfl) (hdb : (x == ("__debug__" : Str)) = false := by decide) (he : starEach (e :: es) X.env = (false, eval e X.env) :: starEach es X.env := by rfl) (hpl : (backTo pos (starEach es X.env)).any (·.1) = false := by rfl) :
  JE X (.Call (.Name x p) (e :: es) [] pos) (dCall F g) := fun ρ d q => by
 obtain ⟨ds, h1, h2⟩ := xbm q
 refine pe_imp (pe_call Fk hr hg hm hk hb .nil pass0 (fun pos pins s σ H Q I t => ha.run ρ ds h1 pos pins s σ H Q I t) hdb he hpl) fun σ H Q ⟨H0, Hf, s, sl, kk⟩ => ?_
 refine ⟨H0, Hf, s, sl, fun vs H1 Hf1 g1 r1 => ⟨?_, Hf1, ds, d, g1.sub, by rw [List.append_nil]; exact r1, h2, fun v H2 Hf2 g2 r2 => kk v H2 Hf2 (g1.trans g2) r2⟩⟩
 rw [List.append_nil, r1.length, ha.len ρ ds h1, hn]
inductive Fl where
 | nx (ρ : Rho)
 | rt (d : D)
 | bk (ρ : Rho)
 | ct (ρ : Rho)
abbrev DS := Rho → Option Fl
structure At (K : PySem.W.Frag) (H0 Hf0 : Hp) (ρ : Rho) (σ : L2.St) (H Hf : Hp) : Prop where
 gr : Grow H0 Hf0 H Hf
 sl : Slots K H0 ρ σ H Hf
def Fl.ends (K : PySem.W.Frag) (H0 Hf0 Hf : Hp) (En : Ends) : Fl → Prop
 | .nx ρ => ∀ σ' H' Hf', At K H0 Hf0 ρ σ' H' Hf' → Same Hf Hf' → En.nx σ' H'
 | .bk ρ => ∀ σ' H' Hf', At K H0 Hf0 ρ σ' H' Hf' → Same Hf Hf' → En.bk σ' H'
 | .ct ρ => ∀ σ' H' Hf', At K H0 Hf0 ρ σ' H' Hf' → Same Hf Hf' → En.ct σ' H'
 | .rt d => ∀ v H' Hf', Grow H0 Hf0 H' Hf' → Rep K Hf' d v → En.rt v H'
def tJS (K : PySem.W.Frag) (H0 Hf0 : Hp) (ρ : Rho) (fl : Fl) : TS := fun En σ H => ∃ Hf, At K H0 Hf0 ρ σ H Hf ∧ fl.ends K H0 Hf0 Hf En
def JS (X : Cx) (st : Stmt) (f : DS) : Prop := ∀ ρ fl, f ρ = some fl → ∀ H0 Hf0, PS X st (tJS X.K H0 Hf0 ρ fl)
def JSs (X : Cx) (sts : List Stmt) (f : DS) : Prop := ∀ ρ fl, f ρ = some fl → ∀ H0 Hf0, PSs X sts (tJS X.K H0 Hf0 ρ fl)
theorem ps_imp {st : Stmt} {t t' : TS} (h : PS X st t) (i : ∀ En σ H, t' En σ H → t En σ H) : PS X st t' := fun pins s σ H En I q => h pins s σ H En I (i En σ H q)
theorem pss_imp {st : List Stmt} {t t' : TS} (h : PSs X st t) (i : ∀ En σ H, t' En σ H → t En σ H) : PSs X st t' := fun pins s σ H En I q => h pins s σ H En I (i En σ H q)
theorem At.grow {K : PySem.W.Frag} {H0 Hf0 H Hf H' Hf' : Hp} {ρ : Rho} {σ : L2.St} (a : At K H0 Hf0 ρ σ H Hf) (g : Grow H Hf H' Hf') : At K H0 Hf0 ρ σ H' Hf' := ⟨a.gr.trans g, a.sl.grow g⟩
theorem Fl.ends_mono {K : PySem.W.Frag} {H0 Hf0 Hf Hf' : Hp} {En : Ends} {fl : Fl} (h : fl.ends K H0 Hf0 Hf En) (e : Same Hf Hf') : fl.ends K H0 Hf0 Hf' En := by
 cases fl with
 | nx ρ => exact fun σ' H' Hf'' a s => h σ' H' Hf'' a (e.trans s)
 | bk ρ => exact fun σ' H' Hf'' a s => h σ' H' Hf'' a (e.trans s)
 | ct ρ => exact fun σ' H' Hf'' a s => h σ' H' Hf'' a (e.trans s)
 | rt d => exact h
def sNil : DS := fun ρ => some (.nx ρ)
def sSeq (f g : DS) : DS := fun ρ => (f ρ).bind fun fl => match fl with
 | .nx ρ' => g ρ'
 | fl => some fl
theorem jss_nil : JSs X [] sNil := fun ρ fl q H0 Hf0 => by
 cases q
 exact pss_imp pss_nil fun En σ H ⟨Hf, a, e⟩ => e σ H Hf a (Same.refl _)
theorem jss_cons {st : Stmt} {sts : List Stmt} {f g : DS} (h1 : JS X st f) (h2 : JSs X sts g) : JSs X (st :: sts) (sSeq f g) := fun ρ fl q H0 Hf0 => by
 obtain ⟨fl1, e1, q⟩ := xbm q
 cases fl1 with
 | nx ρ' =>
  refine pss_imp (pss_cons (h1 ρ _ e1 H0 Hf0) (h2 ρ' fl q H0 Hf0)) fun En σ H ⟨Hf, a, e⟩ => ⟨Hf, a, fun σ' H' Hf' a' s' => ⟨Hf', a', Fl.ends_mono e s'⟩⟩
 | rt d => cases q; exact pss_imp (pss_cons (h1 ρ _ e1 H0 Hf0) pss_never) fun En σ H ⟨Hf, a, e⟩ => ⟨Hf, a, e⟩
 | bk ρ' => cases q; exact pss_imp (pss_cons (h1 ρ _ e1 H0 Hf0) pss_never) fun En σ H ⟨Hf, a, e⟩ => ⟨Hf, a, e⟩
 | ct ρ' => cases q; exact pss_imp (pss_cons (h1 ρ _ e1 H0 Hf0) pss_never) fun En σ H ⟨Hf, a, e⟩ => ⟨Hf, a, e⟩
theorem jss_one {st : Stmt} {f : DS} (h1 : JS X st f) : JSs X [st] f := fun ρ fl q H0 Hf0 => pss_one (h1 ρ fl q H0 Hf0)
def sRet (f : DE) : DS := fun ρ => (f ρ).map Fl.rt
theorem js_ret {e : Expr} {f : DE} {pos : Pos} (h : JE X e f) : JS X (.Return (some e) pos) (sRet f) := fun ρ fl q H0 Hf0 => by
 obtain ⟨d, e1, e2⟩ := Option.map_eq_some_iff.mp q
 subst e2
 exact ps_imp (ps_ret (h ρ d e1)) fun En σ H ⟨Hf, a, e⟩ => ⟨H0, Hf, a.gr.sub, a.sl, fun v H' Hf' g r => e v H' Hf' (a.gr.trans g) r⟩
def sIf (t : Rho → Option Bool) (f g : DS) : DS := fun ρ => (t ρ).bind fun c => if c then f ρ else g ρ
theorem js_if {c : Expr} {a b : List Stmt} {t : Rho → Option Bool} {f g : DS} {pos : Pos} (hc : JT X c t) (ha : JSs X a f) (hb : JSs X b g) : JS X (.If c a b pos) (sIf t f g) := fun ρ fl q H0 Hf0 => by
 obtain ⟨x, e1, q⟩ := xbm q
 cases x with
 | true =>
  refine ps_imp (ps_if (hc ρ _ e1) (ha ρ fl (by simpa using q) H0 Hf0) pss_never) fun En σ H ⟨Hf, a, e⟩ => ⟨H0, Hf, a.gr.sub, a.sl, fun H' Hf' g => iteT ⟨Hf', a.grow g, Fl.ends_mono e g.ext⟩⟩
 | false =>
  refine ps_imp (ps_if (hc ρ _ e1) pss_never (hb ρ fl (by simpa using q) H0 Hf0)) fun En σ H ⟨Hf, a, e⟩ => ⟨H0, Hf, a.gr.sub, a.sl, fun H' Hf' g => iteF ⟨Hf', a.grow g, Fl.ends_mono e g.ext⟩⟩
theorem Slots.set {K : PySem.W.Frag} {H0 H Hf : Hp} {ρ : Rho} {σ : L2.St} {i : Nat} {d : D} {v : V} (s : Slots K H0 ρ σ H Hf) (r : Rep K Hf d v) : Slots K H0 (ρ.set i (some (.val d))) (σ.set i (some v)) H Hf := by
 refine ⟨by simp [s.len], fun j b e => ?_, fun j k ds es a h1 h2 h3 h4 => ?_⟩
 ·by_cases q : i = j
  ·subst q
   have hi : i < ρ.length := by
    have := (List.getElem?_eq_some_iff.mp e).1
    simpa using this
   have hi' : i < σ.length := by rw [← s.len]; exact hi
   rw [List.getElem?_set_self hi] at e
   cases e
   exact ⟨v, List.getElem?_set_self hi', r⟩
  ·rw [List.getElem?_set_ne q] at e
   obtain ⟨u, h1, h2⟩ := s.is j b e
   exact ⟨u, by rw [List.getElem?_set_ne q]; exact h1, h2⟩
 ·have hj : i ≠ j := by
   intro q; subst q
   have hi : i < ρ.length := by
    have := (List.getElem?_eq_some_iff.mp h1).1
    simpa using this
   rw [List.getElem?_set_self hi] at h1
   cases h1
  have hk : i ≠ k := by
   intro q; subst q
   have hi : i < ρ.length := by
    have := (List.getElem?_eq_some_iff.mp h2).1
    simpa using this
   rw [List.getElem?_set_self hi] at h2
   cases h2
  rw [List.getElem?_set_ne hj] at h1 h3
  rw [List.getElem?_set_ne hk] at h2 h4
  exact s.apart j k ds es a h1 h2 h3 h4
def sSet (i : Nat) (f : DE) : DS := fun ρ => (f ρ).map fun d => .nx (ρ.set i (some (.val d)))
theorem js_set (i : Nat) {x : Str} {e : Expr} {f : DE} {pos pos' : Pos} (hN : X.N.Nodup) (h : JE X e f) (hi : X.N[i]? = some x := by rfl) (hx : Loc X.env.scope x := by first | exact Or.inl rfl | exact Or.inr rfl)
  (hs : swapsWith e (some (.Name x pos')) pos.line X.env = pure false := by rfl) (hf : X.fn x = true ∨ X.env.scope.names.lookup x = some .local := by first | exact .inl rfl | exact .inr rfl) : JS X (.Assign [.Name x pos'] e pos) (sSet i f) := fun ρ fl q H0 Hf0 => by
 obtain ⟨d, e1, e2⟩ := Option.map_eq_some_iff.mp q
 subst e2
 exact ps_imp (ps_set hN hi hx (h ρ d e1) hs hf) fun En σ H ⟨Hf, a, e⟩ => ⟨H0, Hf, a.gr.sub, a.sl, fun v H' Hf' g r => e _ H' Hf' ⟨a.gr.trans g, (a.sl.grow g).set r⟩ g.ext⟩
def sPar (i j : Nat) (f : Rho → Option (List D)) : DS := fun ρ => (f ρ).bind fun ds => match ds with
 | [a, b] => some (.nx ((ρ.set i (some (.val a))).set j (some (.val b))))
 | _ => none
end
end G
namespace G
open PySem PySem.Spec PyProof.Rows L2
theorem comp_loop {prog : Program} {w : World} {A : Around} {R : Result → Shared → Prop} {s : Shared} {elt target iter : Expr} {ifs : List Expr} {scope : Scope} {pos : Pos} {it acc : Value} {env : Env} (I : Nat → Shared → Prop)
  (turn : ∀ n s, I n s → wpAny (model prog w) A (pyNext it) (fun r s1 => match r with
   | none => R (.ok .next) s1
   | some v => wpAny (model prog w) A (letOwnedTupleGo target it v) (fun _ s1' => wpAny (model prog w) A (assign target env v) (fun _ s2 =>
     wpAny (model prog w) A (forIn ifs true fun c r => if r = true then do let ok ← isTrue c env (eval c env); pure (ForInStep.yield ok) else pure (ForInStep.yield r)) (fun ok s3 =>
      if ok = true then wpAny (model prog w) A (eval elt env) (fun x s4 =>
       wpAny (model prog w) A (call (.builtin "list.append") [acc, x]) (fun _ s5 => ∃ m, m < n ∧ I m s5) (fun _ _ => False) s4) (fun _ _ => False) s3
      else ∃ m, m < n ∧ I m s3) (fun _ _ => False) s2) (fun _ _ => False) s1') (fun _ _ => False) s1) (fun _ _ => False) s)
  (n : Nat) (h : I n s) :
  codeAny (model prog w) A (.compLoop (.ListComp elt [⟨target, iter, ifs, 0⟩] scope pos) 0 it acc env) R s := by
 refine codeAny_loop rfl I (fun n s hI => ?_) n h
 show wpAny _ A ((compTurn (.ListComp elt [⟨target, iter, ifs, 0⟩] scope pos) 0 it acc env).onRaise (fun x => do noteFrame x env; theTreesLotGoes x)) _ _ s
 refine wpAny_noted ?_
 rw [compTurn_list]
 refine wpAny_bind (wpAny_standAt (wpAny_bind (wpAny_mono (turn n s hI) (fun r s1 h1 => ?_) fun _ _ h' => h'.elim)))
 cases r with
 | none => exact wpAny_pure h1
 | some v =>
  refine wpAny_bind (wpAny_mono h1 (fun _ s1' h1' => ?_) fun _ _ h' => h'.elim)
  refine wpAny_bind (wpAny_mono h1' (fun _ s2 h2 => wpAny_bind (wpAny_mono h2 (fun ok s3 h3 => ?_) fun _ _ h' => h'.elim)) fun _ _ h' => h'.elim)
  cases ok with
  | false => exact wpAny_pure ⟨rfl, h3⟩
  | true =>
   exact wpAny_bind (wpAny_bind (wpAny_mono h3 (fun x s4 h4 => wpAny_bind (wpAny_mono h4 (fun _ s5 h5 => wpAny_pure (wpAny_pure ⟨rfl, h5⟩)) fun _ _ h' => h'.elim)) fun _ _ h' => h'.elim))
def closOf (cells : List (Str × Addr)) : List (Str × NameKind) → List (Str × Addr) → List (Str × Addr)
 | [], cs => cs
 | (n, k) :: r, cs => if (k == NameKind.free) = true then closOf cells r ((n, (cells.lookup n).getD 0) :: cs) else closOf cells r cs
theorem clos_run {env : Env} : ∀ (names : List (Str × NameKind)) (cs : List (Str × Addr)), (∀ y ∈ names, y.2 = .free → ∃ c, env.cells.lookup y.1 = some c) →
  (forIn names cs fun (x : Str × NameKind) (r : List (Str × Addr)) => if (x.2 == NameKind.free) = true then do let a ← cellOf env x.1; pure (ForInStep.yield ((x.1, a) :: r)) else pure (ForInStep.yield r) : Sem (List (Str × Addr))) = pure (closOf env.cells names cs)
 | [], cs, _ => rfl
 | (n, k) :: r, cs, h => by
  rw [List.forIn_cons]
  have hr : ∀ y ∈ r, y.2 = .free → ∃ c, env.cells.lookup y.1 = some c := fun y hy => h y (List.mem_cons_of_mem _ hy)
  by_cases hk : (k == NameKind.free) = true
  ·obtain ⟨c, hc⟩ := h (n, k) List.mem_cons_self (by simpa using hk)
   have hc' : env.cells.lookup n = some c := hc
   simp only [hk, if_true]
   have e : cellOf env n = pure c := by unfold cellOf; rw [hc']
   rw [e]
   show (forIn r ((n, c) :: cs) _ : Sem _) = _
   rw [clos_run r _ hr]
   simp only [closOf, hk, if_true, hc', Option.getD_some]
  ·have hk' : (k == NameKind.free) = false := by simpa using hk
   simp only [hk', Bool.false_eq_true, if_false]
   show (forIn r cs _ : Sem _) = _
   rw [clos_run r _ hr]
   simp only [closOf, hk', Bool.false_eq_true, if_false]
theorem clos_eq {scope : Scope} {env : Env} (h : ∀ y ∈ scope.names, y.2 = .free → ∃ c, env.cells.lookup y.1 = some c) : closureFor scope env = pure (closOf env.cells scope.names []) := by
 have := clos_run (env := env) scope.names [] h
 unfold closureFor
 exact congrArg (fun z => z >>= fun cs => pure cs) this
theorem clos_mem {cells : List (Str × Addr)} : ∀ {names : List (Str × NameKind)} {cs : List (Str × Addr)} {x : Str} {c : Addr}, (x, c) ∈ closOf cells names cs → (x, c) ∈ cs ∨ ((x, NameKind.free) ∈ names ∧ c = (cells.lookup x).getD 0)
 | [], cs, x, c, h => .inl h
 | (n, k) :: r, cs, x, c, h => by
  unfold closOf at h
  split at h
  ·rename_i hk
   rcases clos_mem h with q | ⟨q1, q2⟩
   ·rcases List.mem_cons.mp q with q | q
    ·cases q
     have : k = .free := by simpa using hk
     subst this
     exact .inr ⟨List.mem_cons_self, rfl⟩
    ·exact .inl q
   ·exact .inr ⟨List.mem_cons_of_mem _ q1, q2⟩
  ·rcases clos_mem h with q | ⟨q1, q2⟩
   ·exact .inl q
   ·exact .inr ⟨List.mem_cons_of_mem _ q1, q2⟩
theorem clos_has {cells : List (Str × Addr)} : ∀ {names : List (Str × NameKind)} {cs : List (Str × Addr)} {x : Str}, ((x, NameKind.free) ∈ names ∨ ∃ c, (x, c) ∈ cs) → ∃ c, (x, c) ∈ closOf cells names cs
 | [], cs, x, h => by
  rcases h with h | h
  ·cases h
  ·exact h
 | (n, k) :: r, cs, x, h => by
  unfold closOf
  rcases h with h | ⟨c, h⟩
  ·rcases List.mem_cons.mp h with q | q
   ·cases q
    rw [if_pos (by rfl)]
    exact clos_has (.inr ⟨_, List.mem_cons_self⟩)
   ·split
    ·exact clos_has (.inl q)
    ·exact clos_has (.inl q)
  ·split
   ·exact clos_has (.inr ⟨c, List.mem_cons_of_mem _ h⟩)
   ·exact clos_has (.inr ⟨c, h⟩)
theorem lookup_some_of_mem {l : List (Str × Addr)} {x : Str} {c : Addr} (h : (x, c) ∈ l) : ∃ c', l.lookup x = some c' := by
 induction l with
 | nil => cases h
 | cons p r ih =>
  obtain ⟨n, a⟩ := p
  rw [List.lookup_cons]
  cases e : x == n with
  | true => exact ⟨a, rfl⟩
  | false =>
   rcases List.mem_cons.mp h with q | q
   ·cases q; simp at e
   ·exact ih q
theorem relabel_look {scope : Scope} {env : Env} {x : Str} {k : NameKind} : (relabel scope env).names.lookup x = some k → ∃ k0, scope.names.lookup x = some k0 ∧ (k = k0 ∨ k0 = .free) := by
 unfold relabel
 simp only
 generalize scope.names = names
 induction names with
 | nil => intro h; simp at h
 | cons p r ih =>
  obtain ⟨n, k1⟩ := p
  intro h
  rw [List.map_cons] at h
  by_cases hc : (k1 == NameKind.free && env.scope.kind == .function && env.kindOf n == some .cell) = true
  ·simp only [hc, if_true, List.lookup_cons] at h
   rw [List.lookup_cons]
   cases e : x == n with
   | true =>
    rw [e] at h
    rw [Bool.and_eq_true, Bool.and_eq_true] at hc
    exact ⟨k1, rfl, .inr (by simpa using hc.1.1)⟩
   | false => rw [e] at h; exact ih h
  ·have hc' : (k1 == NameKind.free && env.scope.kind == .function && env.kindOf n == some .cell) = false := by simpa using hc
   simp only [hc', Bool.false_eq_true, if_false, List.lookup_cons] at h
   rw [List.lookup_cons]
   cases e : x == n with
   | true => rw [e] at h; cases h; exact ⟨_, rfl, .inl rfl⟩
   | false => rw [e] at h; exact ih h
theorem relabel_free {scope : Scope} {env : Env} {x : Str} : scope.names.lookup x = some .free → (relabel scope env).names.lookup x = some .cell ∨ (relabel scope env).names.lookup x = some .free := by
 unfold relabel
 simp only
 generalize scope.names = names
 induction names with
 | nil => intro h; simp at h
 | cons p r ih =>
  obtain ⟨n, k1⟩ := p
  intro h
  rw [List.lookup_cons] at h
  rw [List.map_cons]
  cases e : x == n with
  | true =>
   rw [e] at h
   cases h
   have en : x = n := by simpa using e
   subst en
   by_cases hc : (NameKind.free == NameKind.free && env.scope.kind == .function && env.kindOf x == some .cell) = true
   ·simp only [hc, if_true, List.lookup_cons, e]; exact .inl trivial
   ·have hc' : (NameKind.free == NameKind.free && env.scope.kind == .function && env.kindOf x == some .cell) = false := by simpa using hc
    simp only [hc', Bool.false_eq_true, if_false, List.lookup_cons, e]; exact .inr trivial
  | false =>
   rw [e] at h
   by_cases hc : (k1 == NameKind.free && env.scope.kind == .function && env.kindOf n == some .cell) = true
   ·simp only [hc, if_true, List.lookup_cons, e]; exact ih h
   ·have hc' : (k1 == NameKind.free && env.scope.kind == .function && env.kindOf n == some .cell) = false := by simpa using hc
    simp only [hc', Bool.false_eq_true, if_false, List.lookup_cons, e]; exact ih h
def compCx (X : Cx) (N' : List Str) (scope : Scope) (C : Addr) (s₀ : Shared) (H₀ : Hp) (ex : List Addr) : Cx where
 prog := X.prog
 w := X.w
 K := X.K
 mg := X.mg
 base := X.base
 A := X.A
 N := N'
 s₀ := s₀
 H₀ := H₀
 env := compEnvC scope (closOf X.env.cells scope.names []) C X.env
 outer := X.stack
 stack := X.stack
 ex := ex
 fn := fun _ => false
 calm := X.calm
 pn := []
 xe := fun _ _ => False
structure CompSc (X : Cx) (N' : List Str) (n : Nat) (caps : List Nat) (scope : Scope) : Prop where
 kind : scope.kind = .function
 cell : ∀ y ∈ scope.names, y.2 ≠ .cell
 loc : ∀ y ∈ scope.names, y.2 = .local → scope.names.lookup y.1 = some .local
 free : ∀ y ∈ scope.names, y.2 = .free → X.env.scope.names.lookup y.1 = some .cell ∨ X.env.scope.names.lookup y.1 = some .free
 len : N'.length = n + caps.length
 cap : ∀ (i j : Nat), caps[i]? = some j → ∃ x, X.N[j]? = some x ∧ N'[n + i]? = some x ∧ scope.names.lookup x = some .free
section
variable {X : Cx} {N' : List Str} {n : Nat} {caps : List Nat} {scope : Scope}
theorem mem_lookup {l : List (Str × NameKind)} {x : Str} {k : NameKind} (h : l.lookup x = some k) : (x, k) ∈ l := PySem.mem_of_lookup h
def capS (n : Nat) (caps : List Nat) (σ : L2.St) : L2.St := List.replicate n none ++ caps.map fun j => (σ[j]?).join
theorem comp_start {pins : List (Addr × Obj)} {σ : L2.St} {H : Hp} {s : Shared} {h1 : Heap} {tk : Nat} {fp : List Addr} {m : Str → Option Value} (S : CompSc X N' n caps scope) (I : Inv X pins σ H s) (hf : ∀ b ∈ fp, FpOk X pins H b) (hlt : ∀ b ∈ fp, b < s.heap.objs.size)
  (hns : h1.Ns s.heap.objs.size m) (hk : ∀ b o, s.heap.get? b = some o → h1.get? b = some o) :
  Inv (compCx X N' scope s.heap.objs.size s H fp) [] (capS n caps σ) H { s with heap := h1, toks := tk } := by
 have cl_of : ∀ x c, (closOf X.env.cells scope.names []).lookup x = some c → X.env.cells.lookup x = some c := fun x c h => by
  have hm := PySem.mem_of_lookup h
  rcases clos_mem hm with q | ⟨q1, q2⟩
  ·cases q
  ·obtain ⟨c', hc'⟩ := I.ok.has x (S.free _ q1 rfl)
   rw [hc'] at q2
   rw [hc', q2]; rfl
 have cl_has : ∀ x, (x, NameKind.free) ∈ scope.names → ∃ c, (closOf X.env.cells scope.names []).lookup x = some c := fun x h => by
  obtain ⟨c, hc⟩ := clos_has (cells := X.env.cells) (cs := []) (.inl h)
  exact lookup_some_of_mem hc
 have kind_free : ∀ x, ((relabel scope X.env).names.lookup x = some .cell ∨ (relabel scope X.env).names.lookup x = some .free) → (x, NameKind.free) ∈ scope.names := fun x h => by
  rcases h with h | h
  ·obtain ⟨k0, e1, e2⟩ := relabel_look h
   rcases e2 with e2 | e2
   ·subst e2; exact absurd rfl (S.cell _ (mem_lookup e1))
   ·subst e2; exact mem_lookup e1
  ·obtain ⟨k0, e1, e2⟩ := relabel_look h
   rcases e2 with e2 | e2
   ·subst e2; exact mem_lookup e1
   ·subst e2; exact mem_lookup e1
 have cell_lt : ∀ x c, X.env.cells.lookup x = some c → c < s.heap.objs.size := fun x c e => by
  obtain ⟨v, q⟩ := I.cell x c e
  exact q.lt
 have ok : (compCx X N' scope s.heap.objs.size s H fp).Ok := by
  refine ⟨I.ok.mod, S.kind, I.ok.glob, I.ok.blt, Nat.le_refl _, fun x y c e1 e2 => I.ok.inj x y c (cl_of x c e1) (cl_of y c e2), fun x hx => cl_has x (kind_free x hx), fun x c e _ => (Bool.false_ne_true e).elim, I.ok.hd, I.ok.frames, .inl rfl, fun b hb => ⟨Nat.ne_of_lt (hlt b hb), fun x c e => (hf b hb).2.2.2.2.1 x c (cl_of x c e)⟩,
   I.bs, Nat.le_trans I.ok.bsz I.sz, fun b o e hb => ?_, fun b hb hb2 => ?_, I.stack, I.stkFree⟩
  ·rcases (hf b hb).2.2.2.1 with z | z
   ·exact I.ok.noex b o e z
   ·exact absurd (Nat.lt_of_lt_of_le (Heap.lt_size e) (Nat.le_trans I.ok.bsz z)) (Nat.lt_irrefl _)
  ·rcases List.mem_cons.mp (I.stkSub b hb2) with z | z
   ·exact (hf b hb).2.1 z
   ·exact (hf b hb).2.2.1 z
 refine ⟨ok, rfl, I.bare, Un.kept hk, ⟨m, hns, fun i x v e1 e2 e3 => ?_⟩, fun x c e => ?_, I.hok.fresh (Nat.le_refl _), fun x c e => I.freeC x c (cl_of x c e), fun p hp => absurd (show p ∈ ([] : List (Addr × Obj)) from hp) (by simp), I.hok.kept hk, ?_⟩
 ·have hi : n ≤ i := by
   rcases Nat.lt_or_ge i n with h | h
   ·unfold capS at e2
    rw [List.getElem?_append_left (by simpa using h), List.getElem?_replicate, if_pos h] at e2
    cases e2
   ·exact h
  unfold capS at e2
  rw [List.getElem?_append_right (by simpa using hi), List.getElem?_map] at e2
  simp only [List.length_replicate] at e2
  cases hj : caps[i - n]? with
  | none => rw [hj] at e2; cases e2
  | some j =>
   rw [hj] at e2
   have e2' : (σ[j]?).join = some v := by simpa using e2
   have e2'' : σ[j]? = some (some v) := by
    cases q : σ[j]? with
    | none => rw [q] at e2'; cases e2'
    | some o => rw [q] at e2'; simp at e2'; rw [e2']
   obtain ⟨y, q1, q2, q3⟩ := S.cap _ _ hj
   have : y = x := by
    have e1' : N'[i]? = some x := e1
    rw [show n + (i - n) = i by omega, e1'] at q2
    cases q2; rfl
   subst this
   obtain ⟨m0, hn0, hl0⟩ := I.loc
   have hv : Vis X.env.scope y := by
    rcases S.free _ (mem_lookup q3) rfl with z | z
    ·exact .inr (.inl z)
    ·exact .inr (.inr z)
   obtain ⟨u, ru, lk⟩ := hl0 j y v q1 e2'' hv
   refine ⟨u, ru, .inr ⟨relabel_free q3, ?_⟩⟩
   rcases lk with ⟨lk, _⟩ | ⟨_, c, hc, hcell⟩
   ·rcases S.free _ (mem_lookup q3) rfl with z | z
    ·have : X.env.scope.names.lookup y = some .local := lk
     rw [z] at this; cases this
    ·have : X.env.scope.names.lookup y = some .local := lk
     rw [z] at this; cases this
   ·obtain ⟨c', hc'⟩ := cl_has y (mem_lookup q3)
    have := cl_of y c' hc'
    rw [hc] at this; cases this
    obtain ⟨o, ho, hd⟩ := hcell
    exact ⟨c, hc', o, hk c o ho, hd⟩
 ·obtain ⟨v, o, ho, hd⟩ := I.cell x c (cl_of x c e)
  exact ⟨v, o, hk c o ho, hd⟩
 ·show (capS n caps σ).length = N'.length
  unfold capS
  rw [S.len]; simp
theorem comp_back {pins : List (Addr × Obj)} {σ σ' : L2.St} {H H' : Hp} {s s' : Shared} {h' : Heap} {fp : List Addr} (I : Inv X pins σ H s) (hf : ∀ b ∈ fp, FpOk X pins H b)
  (I' : Inv (compCx X N' scope s.heap.objs.size s H fp) [] σ' H' s') (sb : Heap.SameBut s.heap.objs.size s'.heap h') : Inv X pins σ H' { s' with heap := h' } := by
 have ne : ∀ b o, s.heap.get? b = some o → b ≠ s.heap.objs.size := fun b o e => Nat.ne_of_lt (Heap.lt_size e)
 refine I.call' (s' := { s' with heap := h' }) (ch := fp) I'.os ?_ ?_ I'.bare fun b hb => ⟨(hf b hb).2.2.2.1, (hf b hb).2.1, (hf b hb).2.2.2.2.1, (hf b hb).2.2.2.2.2⟩
 ·refine ⟨fun b o e n hb hx => sb.extBut b o (ne b o e) (I'.base.keep b o e n hb hx), fun b o e n hb hx => ?_, I'.base.free, fun b o e hx => ?_, I'.base.tups, I'.base.frzs, I'.base.tbls⟩
  ·obtain ⟨sl, q⟩ := I'.base.slot b o e n hb hx
   exact ⟨sl, sb.extBut b _ (ne b o e) q⟩
  ·obtain ⟨o', q⟩ := I'.base.there b o e hx
   exact ⟨o', sb.extBut b _ (ne b o e) q⟩
 ·intro b u e
  have nC : ∀ c v, H' c = some v → c ≠ s.heap.objs.size := fun c v q z => by
   have := I'.free
   have z' : H' c = none := by rw [z]; exact this
   rw [z'] at q; cases q
  refine (I'.hok b u e).stay (fun c v hc q => sb.extBut c v ?_ q) (fun _ q => q) fun _ _ q => q
  rcases hc with z | z
  ·rw [z]; exact nC b u e
  ·exact nC c _ z
def PTs (X : Cx) (ifs : List Expr) (t : TT) : Prop :=
 ∀ (pins : List (Addr × Obj)) (s : Shared) (σ : L2.St) (H : Hp) (Q : Bool → Hp → Prop), Inv X pins σ H s → t σ H Q →
  wpAny (model X.prog X.w) X.A (forIn ifs true fun c r => if r = true then do let ok ← isTrue c X.env (eval c X.env); pure (ForInStep.yield ok) else pure (ForInStep.yield r)) (TP X pins σ Q) X.xe s
theorem pts_nil : PTs X [] (fun _ H Q => Q true H) := fun pins s σ H Q I h => wpAny_tests_nil ⟨H, I, h⟩
theorem pts_one {c : Expr} {t : TT} (h : PT X c t) : PTs X [c] t := fun pins s σ H Q I q => wpAny_tests_one (h pins s σ H Q I q)
def tComp (n : Nat) (caps : List Nat) (wi : TI) (g : TG) (tc : TT) (te : TE) : TE := fun σ H Q => wi σ H fun J H1 => ∀ Dd, H1 Dd = none → ∃ W : Nat → Nat → List V → L2.St → Hp → Prop,
 (∃ m, W 0 m [] (capS n caps σ) (upd H1 Dd (.lst []))) ∧
 ∀ i m ys σ' H', W i m ys σ' H' →
  (J.stop i H' ∧ Q (.ref Dd) H') ∨
  (J.go i H' ∧ ∀ x H2, J.yld i H' x H2 → g x σ' H2 fun σ3 H3 => tc σ3 H3 fun b H4 =>
   if b = true then te σ3 H4 fun y H5 => H5 Dd = some (.lst ys) ∧ ys.length < sizeLine ∧ ∃ m', m' < m ∧ W (i + 1) m' (ys ++ [y]) σ3 (upd H5 Dd (.lst (ys ++ [y])))
   else ∃ m', m' < m ∧ W (i + 1) m' ys σ3 H4)
theorem comp_run {elt tgt iter : Expr} {ifs : List Expr} {pos : Pos} {wi : TI} {g : TG} {tc : TT} {te : TE} {RR : Value → Addr → Result → Shared → Prop} {E : Value → Shared → Prop} (S : CompSc X N' n caps scope) (hx : ∀ e s, X.xe e s → False) (hc : X.calm = true)
  (hi : PI X tgt iter wi) (hg : ∀ C s0 H0 ex, PG (compCx X N' scope C s0 H0 ex) tgt g) (ht : ∀ C s0 H0 ex, PTs (compCx X N' scope C s0 H0 ex) ifs tc) (he : ∀ C s0 H0 ex, PE (compCx X N' scope C s0 H0 ex) elt te)
  {pins : List (Addr × Obj)} {s : Shared} {σ : L2.St} {H : Hp} {Q : VK} (I : Inv X pins σ H s) (h : tComp n caps wi g tc te σ H Q)
  (hRR : ∀ D C r s', r = .ok .next → (∃ m, s'.heap.Ns C m ∧ ∀ h', Heap.SameBut C s'.heap h' → ∃ H', Inv X pins σ H' { s' with heap := h' } ∧ Q (.ref D) H') →
   (∃ s2 fp σ' H2 H', s2.heap.objs.size = C ∧ Inv X pins σ H2 s2 ∧ (∀ b ∈ fp, FpOk X pins H2 b) ∧ Inv (compCx X N' scope s2.heap.objs.size s2 H2 fp) [] σ' H' s' ∧ Q (.ref D) H') → RR (.ref D) C r s') :
  wpAny (model X.prog X.w) X.A (eval iter X.env) (fun x s₁ => wpAny (model X.prog X.w) X.A (pyIter x) (fun it s₂ => wpAny (model X.prog X.w) X.A (newList []) (fun acc s₃ =>
   wpAny (model X.prog X.w) X.A (newFunctionEnv scope X.env.globals (closOf X.env.cells scope.names []) [] X.env.qual none .none (some X.env)) (fun cenv s₄ =>
    codeAny (model X.prog X.w) X.A (.compStart (.ListComp elt [⟨tgt, iter, ifs, 0⟩] scope pos) 0 it acc { cenv with scope := relabel scope X.env }) (RR acc cenv.locals) s₄) E s₃) E s₂) E s₁) E s := by
 refine wpAny_mono (hi pins s σ H _ I h) (fun v s1 h1 => wpAny_mono h1 (fun itv s2 h2 => ?_) fun _ _ z => (hx _ _ z).elim) fun _ _ z => (hx _ _ z).elim
 obtain ⟨it, fp, tn, J, H2, e, I2, T, st2, f2, R⟩ := h2
 subst e
 refine wpAny_newObj_type (wpAny_newFunctionEnv S.cell (by intro y hy; simp at hy) (fun h₁ hns₁ hsb₁ => ?_) S.kind)
 dsimp only at hns₁ hsb₁ ⊢
 obtain ⟨W, ⟨m0, w0⟩, turn⟩ := R s2.heap.objs.size (I2.hok.fresh (Nat.le_refl _))
 have lt2 : ∀ b ∈ fp, b < s2.heap.objs.size := fun b hb => by
  obtain ⟨o, ho, _⟩ := T.obj _ _ st2 b hb
  exact Heap.lt_size ho
 have I3 : Inv X pins σ (upd H2 s2.heap.objs.size (.lst [])) { s2 with heap := s2.heap.push { cls := .type "list", dict := none, data := .seq ([] : List Value).toArray } } :=
  I2.laid (t' := s2.toks) (fun b u e => Heap.get?_push_of_some _ e) (Nat.le_refl _) ⟨Nat.zero_le _, [], 0, .nil, Heap.get?_push_size _ rfl⟩
 generalize hs3 : ({ s2 with heap := s2.heap.push { cls := .type "list", dict := none, data := .seq ([] : List Value).toArray } } : Shared) = s3 at I3
 have es3 : s3.heap = s2.heap.push { cls := .type "list", dict := none, data := .seq ([] : List Value).toArray } := by rw [← hs3]
 rw [← es3] at hns₁ hsb₁ ⊢
 have keep3 : ∀ b o, s3.heap.get? b = some o → h₁.get? b = some o := fun b o e => hsb₁.extBut b o (Nat.ne_of_lt (Heap.lt_size e)) (Heap.get?_push_of_some _ e)
 have lt3 : ∀ b ∈ fp, b < s3.heap.objs.size := fun b hb => by rw [es3, Heap.size_push]; exact Nat.lt_succ_of_lt (lt2 b hb)
 have f3 : ∀ b ∈ fp, FpOk X pins (upd H2 s2.heap.objs.size (.lst [])) b := fun b hb => ⟨by rw [upd_ne (Nat.ne_of_lt (lt2 b hb))]; exact (f2 b hb).1, (f2 b hb).2⟩
 generalize hH3 : upd H2 s2.heap.objs.size (HO.lst []) = H3 at I3 f3 w0
 have fin3 : ∀ {σ' : L2.St} {H' : Hp} {pl : List (Addr × Obj)}, (∀ b ∈ fp, H' b = none) → (∀ p ∈ pl, False) → ∀ b ∈ fp, FpOk (compCx X N' scope s3.heap.objs.size s3 H3 fp) pl H' b := fun {σ' H' pl} hn hp b hb => by
  refine ⟨hn b hb, Nat.ne_of_lt (lt3 b hb), fun z => ?_, .inl hb, fun x c e => ?_, fun p hp' => ?_⟩
  ·rcases List.mem_cons.mp (I3.stkSub b z) with z | z
   ·exact (f3 b hb).2.1 z
   ·exact (f3 b hb).2.2.1 z
  ·have hm := PySem.mem_of_lookup e
   rcases clos_mem hm with q | ⟨q1, q2⟩
   ·cases q
   ·obtain ⟨c', hc'⟩ := I3.ok.has x (S.free _ q1 rfl)
    rw [hc'] at q2
    have q2' : c = c' := q2
    subst q2'
    exact (f3 b hb).2.2.2.2.1 x c hc'
  ·exact (hp p (by simpa [compCx] using hp')).elim
 have toks : ∃ tk, ({ s2 with heap := h₁, toks := s2.toks + ([] : List (Str × Value)).length } : Shared) = { s3 with heap := h₁, toks := tk } := ⟨s2.toks, by rw [← hs3]; rfl⟩
 obtain ⟨tk, htk⟩ := toks
 have st4 : tn 0 h₁ := T.keep 0 s2.heap h₁ st2 fun b hb o e => keep3 b o (by rw [es3]; exact Heap.get?_push_of_some _ e)
 have I4 : Inv (compCx X N' scope s3.heap.objs.size s3 H3 fp) [] (capS n caps σ) H3 { s3 with heap := h₁, toks := tk } := comp_start S I3 f3 lt3 hns₁ keep3
 have loop : codeAny (model X.prog X.w) X.A (.compLoop (.ListComp elt [⟨tgt, iter, ifs, 0⟩] scope pos) 0 (.ref it) (.ref s2.heap.objs.size) (compEnvC scope (closOf X.env.cells scope.names []) s3.heap.objs.size X.env)) (RR (.ref s2.heap.objs.size) s3.heap.objs.size) { s3 with heap := h₁, toks := tk } := by
  refine comp_loop (fun k s' => ∃ i ys σ' H', Inv (compCx X N' scope s3.heap.objs.size s3 H3 fp) [] σ' H' s' ∧ tn i s'.heap ∧ (∀ b ∈ fp, H' b = none) ∧ W i k ys σ' H') ?_ m0 ⟨0, [], _, H3, I4, st4, fun b hb => (f3 b hb).1, w0⟩
  rintro k s5 ⟨i, ys, σ5, H5, I5, st5, fr5, w5⟩
  have pz : ∀ p ∈ ([] : List (Addr × Obj)), False := fun p hp => by cases hp
  rcases turn i k ys σ5 H5 w5 with ⟨stop, qn⟩ | ⟨go, step⟩
  ·refine wpAny_mono (T.done (compCx X N' scope s3.heap.objs.size s3 H3 fp) rfl rfl rfl hc i [] s5 σ5 H5 (fun _ _ => False) I5 (fin3 (σ' := σ5) fr5 pz) st5 stop) (fun r s6 ⟨hr, I6⟩ => ?_) fun _ _ z => z
   subst hr
   obtain ⟨m6, hn6, _⟩ := I6.loc
   refine hRR _ _ _ s6 rfl ⟨m6, hn6, fun h' sb => ⟨H5, comp_back I3 f3 I6 sb, qn⟩⟩ ⟨s3, fp, σ5, H3, H5, rfl, I3, f3, I6, qn⟩
  ·refine wpAny_mono (T.item (compCx X N' scope s3.heap.objs.size s3 H3 fp) rfl rfl rfl hc i [] s5 σ5 H5 (fun _ _ => False) I5 (fin3 (σ' := σ5) fr5 pz) st5 go) (fun r s6 ⟨u, hr, h6⟩ => ?_) fun _ _ z => z
   subst hr
   refine wpAny_mono h6 (fun _ s7 ⟨x, H7, I7, r7, y7, st7, fr7⟩ => ?_) fun _ _ z => z
   have I7' := I7.pinned (fin3 (σ' := σ5) fr7 pz) (T.obj _ _ st7)
   refine wpAny_mono (hg _ _ _ _ _ s7 σ5 H7 x u _ I7' r7 (step x H7 y7)) (fun _ s8 ⟨σ8, H8, I8, q8⟩ => ?_) fun _ _ z => z
   refine wpAny_mono (ht _ _ _ _ _ s8 σ8 H8 _ I8 q8) (fun ok s9 ⟨H9, I9, q9⟩ => ?_) fun _ _ z => z
   have again : ∀ {σ' : L2.St} {H' : Hp} {s' : Shared}, Inv (compCx X N' scope s3.heap.objs.size s3 H3 fp) ([] ++ pinsAt fp s7.heap) σ' H' s' → Inv (compCx X N' scope s3.heap.objs.size s3 H3 fp) [] σ' H' s' ∧ tn (i + 1) s'.heap ∧ ∀ b ∈ fp, H' b = none := fun {σ' H' s'} I' => by
    refine ⟨I'.unpinned, T.keep _ _ _ st7 fun b hb o e => (I'.pin (b, o) (List.mem_append_right _ (List.mem_append_right _ (mem_pinsAt hb e)))).1, fun b hb => ?_⟩
    obtain ⟨o, e, d⟩ := T.obj _ _ st7 b hb
    exact (I'.pin (b, o) (List.mem_append_right _ (List.mem_append_right _ (mem_pinsAt hb e)))).2.1
   cases ok with
   | false =>
    rw [if_neg Bool.false_ne_true] at q9 ⊢
    obtain ⟨m', hm, w'⟩ := q9
    obtain ⟨a1, a2, a3⟩ := again I9
    exact ⟨m', hm, i + 1, ys, σ8, H9, a1, a2, a3, w'⟩
   | true =>
    rw [if_pos rfl] at q9 ⊢
    refine wpAny_mono (he _ _ _ _ _ s9 σ8 H9 _ I9 q9) (fun y s10 ⟨vy, H10, I10, r10, q10, z10, m', hm, w'⟩ => ?_) fun _ _ z => z
    refine wpAny_mono (mt_append (X := compCx X N' scope s3.heap.objs.size s3 H3 fp) _ s10 σ8 H10 (.ref s2.heap.objs.size) [vy] _ _ (fun v H' => v = .non ∧ H' = upd H10 s2.heap.objs.size (.lst (ys ++ [vy]))) I10 rfl (.cons r10 .nil) ⟨_, ys, vy, rfl, rfl, q10, z10, rfl, rfl⟩) (fun _ s11 ⟨v11, H11, I11, r11, e11, e12⟩ => ?_) fun _ _ z => z
    subst e12
    obtain ⟨a1, a2, a3⟩ := again I11
    exact ⟨m', hm, i + 1, ys ++ [vy], σ8, _, a1, a2, a3, w'⟩
 show codeAny (model X.prog X.w) X.A _ _ ({ s2 with heap := h₁, toks := s2.toks + ([] : List (Str × Value)).length } : Shared)
 rw [htk]
 exact codeAny_compStart_list loop (T.self _ _ _ _ _ st4 loop)
end
end G
namespace G
open PySem PySem.Spec PyProof.Rows L2
section
variable {X : Cx}
def tgJ (K : PySem.W.Frag) (f : D → Rho → Option Rho) : TG := fun v σ H Q => ∃ d ρ ρ' H0 Hf, f d ρ = some ρ' ∧ Same Hf H ∧ Slots K H0 ρ σ H Hf ∧ Rep K Hf d v ∧ ∀ σ', Slots K H0 ρ' σ' H Hf → Q σ' H
def JG (X : Cx) (tg : Expr) (f : D → Rho → Option Rho) : Prop := PG X tg (tgJ X.K f)
def tgJs (K : PySem.W.Frag) (f : List D → Rho → Option Rho) : TGs := fun vs σ H Q => ∃ ds ρ ρ' H0 Hf, f ds ρ = some ρ' ∧ Same Hf H ∧ Slots K H0 ρ σ H Hf ∧ Reps K Hf ds vs ∧ ∀ σ', Slots K H0 ρ' σ' H Hf → Q σ' H
def JGs (X : Cx) (tg : List Expr) (f : List D → Rho → Option Rho) : Prop := PGs X tg (tgJs X.K f)
def gSet (i : Nat) : D → Rho → Option Rho := fun d ρ => some (ρ.set i (some (.val d)))
theorem jg_name (i : Nat) {x : Str} {pos : Pos} (hN : X.N.Nodup) (hi : X.N[i]? = some x := by rfl) (hx : Loc X.env.scope x := by first | exact Or.inl rfl | exact Or.inr rfl) (hf : X.fn x = true ∨ X.env.scope.names.lookup x = some .local := by first | exact .inl rfl | exact .inr rfl) : JG X (.Name x pos) (gSet i) := by
 intro pins s σ H v u Q I r ⟨d, ρ, ρ', H0, Hf, e, ss, sl, rp, k⟩
 cases e
 exact pg_name hN hi hx hf pins s σ H v u Q I r (k _ (sl.set rp))
def gsNil : List D → Rho → Option Rho := fun ds ρ => match ds with
 | [] => some ρ
 | _ => none
def gsCons (f : D → Rho → Option Rho) (g : List D → Rho → Option Rho) : List D → Rho → Option Rho := fun ds ρ => match ds with
 | d :: r => (f d ρ).bind fun ρ' => g r ρ'
 | [] => none
theorem jgs_nil : JGs X [] gsNil := by
 intro pins s σ H vs us Q I r ⟨ds, ρ, ρ', H0, Hf, e, ss, sl, rp, k⟩
 cases ds with
 | nil => cases e; exact pgs_nil pins s σ H vs us Q I r ⟨rp, k _ sl⟩
 | cons d ds => cases e
theorem jgs_cons {e : Expr} {es : List Expr} {f : D → Rho → Option Rho} {g : List D → Rho → Option Rho} (h1 : JG X e f) (h2 : JGs X es g) (hs : (assignEach (e :: es) X.env).map (·.2) = assign e X.env :: (assignEach es X.env).map (·.2) := by rfl) : JGs X (e :: es) (gsCons f g) := by
 intro pins s σ H vs us Q I r ⟨ds, ρ, ρ', H0, Hf, e, ss, sl, rp, k⟩
 cases ds with
 | nil => cases e
 | cons d ds =>
  obtain ⟨ρ1, e1, e2⟩ := xbm e
  obtain ⟨v, vr, rfl, q1, q2⟩ := rp
  exact pgs_cons h1 h2 hs pins s σ H _ us Q I r ⟨v, vr, rfl, d, ρ, ρ1, H0, Hf, e1, ss, sl, q1, fun σ' sl' => ⟨ds, ρ1, ρ', H0, Hf, e2, ss, sl', q2, k⟩⟩
def gTupD (n : Nat) (g : List D → Rho → Option Rho) : D → Rho → Option Rho := fun d ρ => match d with
 | .tuple ds => if ds.length = n then g ds ρ else none
 | _ => none
theorem jg_tup {es : List Expr} {k n : Nat} {pos : Pos} {g : List D → Rho → Option Rho} (h : JGs X es g) (hc : X.calm = true := by rfl) (hn : (assignEach es X.env).length = n := by rfl) (hst : (assignEach es X.env).findIdx? (·.1) = none := by rfl) : JG X (.Tuple es k pos) (gTupD n g) := by
 intro pins s σ H v u Q I r ⟨d, ρ, ρ', H0, Hf, e, ss, sl, rp, kk⟩
 cases d with
 | tuple ds =>
  simp only [gTupD] at e
  split at e
  ·rename_i hl
   obtain ⟨a, vs, rfl, q1, q2⟩ := rp
   exact pg_tup hc h hn hst pins s σ H _ u Q I r ⟨a, vs, rfl, sqT_mono ss q1, by rw [q2.length, hl], ds, ρ, ρ', H0, Hf, e, ss, sl, q2, kk⟩
  ·cases e
 | _ => cases e
def Yields (K : PySem.W.Frag) (J : It) (ds : List D) (Hf1 : Hp) : Prop := ∀ (i : Nat) (H Hf : Hp), Same Hf1 Hf → Same Hf H → (ds.length ≤ i → J.stop i H) ∧ ∀ d, ds[i]? = some d → J.go i H ∧ ∀ x H', J.yld i H x H' → ∃ Hf', Grow H Hf H' Hf' ∧ Rep K Hf' d x
def tiJ (K : PySem.W.Frag) (ρ : Rho) (ds : List D) : TI := fun σ H R => ∃ H0 Hf, Same Hf H ∧ Slots K H0 ρ σ H Hf ∧ ∀ J H' Hf', Grow H Hf H' Hf' → Yields K J ds Hf' → R J H'
def JI (X : Cx) (tg iter : Expr) (f : Rho → Option (List D)) : Prop := ∀ ρ ds, f ρ = some ds → PI X tg iter (tiJ X.K ρ ds)
theorem pi_imp {tg iter : Expr} {t t' : TI} (h : PI X tg iter t) (i : ∀ σ H R, t' σ H R → t σ H R) : PI X tg iter t' := fun pins s σ H R I q => h pins s σ H R I (i σ H R q)
def iSeq (f : DE) : Rho → Option (List D) := fun ρ => (f ρ).bind fun d => match d with
 | .list ds => some ds
 | .tuple ds => some ds
 | _ => none
theorem ji_seq {tg e : Expr} {f : DE} (h : JE X e f) : JI X tg e (iSeq f) := fun ρ ds q => by
 obtain ⟨d, e1, e2⟩ := xbm q
 cases d with
 | list xs =>
  cases e2
  refine pi_imp (pi_list (h ρ _ e1)) fun σ H R ⟨H0, Hf, s, sl, k⟩ => ⟨H0, Hf, s, sl, fun v H1 Hf1 g1 ⟨a, vs, h1, h2, h3⟩ => ⟨a, h1, ⟨vs, sqL_mono g1.sub h2⟩, k _ H1 Hf1 g1 ?_⟩⟩
  intro i H' Hf' sa sb
  have q' : SqL X.K H' a vs := sqL_mono (sa.trans sb) h2
  refine ⟨fun hi => ⟨vs, q', by rw [h3.length]; exact hi⟩, fun d hd => ?_⟩
  obtain ⟨v, w1, w2⟩ := h3.get hd
  refine ⟨⟨vs, v, q', w1⟩, fun x H'' hy => ?_⟩
  obtain ⟨rfl, hy⟩ := hy
  have := hy vs q'
  rw [w1] at this; cases this
  exact ⟨Hf', Grow.refl sb, w2.mono sa⟩
 | tuple xs =>
  cases e2
  refine pi_imp (pi_tup (h ρ _ e1)) fun σ H R ⟨H0, Hf, s, sl, k⟩ => ⟨H0, Hf, s, sl, fun v H1 Hf1 g1 ⟨a, vs, h1, h2, h3⟩ => ⟨a, h1, ⟨vs, sqT_mono g1.sub h2⟩, k _ H1 Hf1 g1 ?_⟩⟩
  intro i H' Hf' sa sb
  have q' : SqT X.K H' a vs := sqT_mono (sa.trans sb) h2
  refine ⟨fun hi => ⟨vs, q', by rw [h3.length]; exact hi⟩, fun d hd => ?_⟩
  obtain ⟨v, w1, w2⟩ := h3.get hd
  refine ⟨⟨vs, v, q', w1⟩, fun x H'' hy => ?_⟩
  obtain ⟨rfl, hy⟩ := hy
  have := hy vs q'
  rw [w1] at this; cases this
  exact ⟨Hf', Grow.refl sb, w2.mono sa⟩
 | _ => cases e2
def rangeD (lo hi : Int) : List D := (List.range (hi - lo).toNat).map fun (i : Nat) => PyData.int (lo + i)
theorem yields_range {K : PySem.W.Frag} {lo hi : Int} {Hf1 : Hp} : Yields K (Itr lo (hi - lo).toNat) (rangeD lo hi) Hf1 := by
 intro i H Hf sa sb
 have hl : (rangeD lo hi).length = (hi - lo).toNat := by simp [rangeD]
 refine ⟨fun h => by rw [hl] at h; exact h, fun d hd => ?_⟩
 have hi' : i < (hi - lo).toNat := by
  have := (List.getElem?_eq_some_iff.mp hd).1
  rw [hl] at this; exact this
 refine ⟨hi', fun x H' hy => ?_⟩
 obtain ⟨e1, e2⟩ := hy
 subst e1 e2
 have : d = .int (lo + i) := by
  have : (rangeD lo hi)[i]? = some (.int (lo + i)) := by simp [rangeD, hi']
  rw [hd] at this; cases this; rfl
 subst this
 exact ⟨Hf, Grow.refl sb, rfl⟩
def iRan1 (f : DE) : Rho → Option (List D) := fun ρ => (f ρ).bind fun d => match d with
 | .int j => if -(2 ^ 62) ≤ j ∧ j < 2 ^ 62 then some (rangeD 0 j) else none
 | _ => none
theorem ji_range1 {tg e : Expr} {f : DE} {p pos : Pos} (hg : Gl X "range") (hm : X.mg "range" = none) (h : JE X e f) (hs : starEach [e] X.env = [(false, eval e X.env)] := by rfl) : JI X tg (.Call (.Name "range" p) [e] [] pos) (iRan1 f) := fun ρ ds q => by
 obtain ⟨d, e1, e2⟩ := xbm q
 split at e2
 ·split at e2
  ·rename_i j c
   cases e2
   refine pi_imp (pi_range1 hg hm (pa_cons (h ρ _ e1) pa_nil hs) hs) fun σ H R ⟨H0, Hf, s, sl, k⟩ => ⟨H0, Hf, s, sl, fun v H1 Hf1 g1 r => ⟨j, by rw [show v = _ from r], c.1, c.2, k _ H1 Hf1 g1 ?_⟩⟩
   have := yields_range (K := X.K) (lo := 0) (hi := j) (Hf1 := Hf1)
   rw [Int.sub_zero] at this
   exact this
  ·cases e2
 ·cases e2
def iRan2 (f g : DE) : Rho → Option (List D) := fun ρ => (f ρ).bind fun d => (g ρ).bind fun e => match d, e with
 | .int i, .int j => if (-(2 ^ 62) ≤ i ∧ i < 2 ^ 62) ∧ -(2 ^ 62) ≤ j ∧ j < 2 ^ 62 then some (rangeD i j) else none
 | _, _ => none
theorem ji_range2 {tg a b : Expr} {f g : DE} {p pos : Pos} (hg : Gl X "range") (hm : X.mg "range" = none) (ha : JE X a f) (hb : JE X b g) (hs : starEach [a, b] X.env = [(false, eval a X.env), (false, eval b X.env)] := by rfl) (hs2 : starEach [b] X.env = [(false, eval b X.env)] := by rfl) :
  JI X tg (.Call (.Name "range" p) [a, b] [] pos) (iRan2 f g) := fun ρ ds q => by
 obtain ⟨d, e1, q⟩ := xbm q
 obtain ⟨e, e2, q⟩ := xbm q
 split at q
 ·split at q
  ·rename_i c
   cases q
   refine pi_imp (pi_range2 hg hm (pa_cons (ha ρ _ e1) (pa_cons (hb ρ _ e2) pa_nil hs2) (by rw [hs, hs2])) hs hs2) fun σ H R ⟨H0, Hf, s, sl, k⟩ => ⟨H0, Hf, s, sl, fun v H1 Hf1 g1 r => ⟨H0, Hf1, g1.sub, sl.grow g1, fun u H2 Hf2 g2 r2 => ⟨_, _, by rw [show v = _ from r, show u = _ from r2], ⟨c.1.1, c.1.2, c.2.1, c.2.2⟩, k _ H2 Hf2 (g1.trans g2) yields_range⟩⟩⟩
  ·cases q
 ·cases q
theorem Grow.nofr {H Hf H' Hf' : Hp} {a : Addr} {o : HO} (g : Grow H Hf H' Hf') (h : H a = some o) (n : Hf a = none) : Hf' a = none := by
 cases q : Hf' a with
 | none => rfl
 | some u =>
  rcases g.new a (by rw [q]; simp) with z | z
  ·exact absurd n z
  ·rw [h] at z; cases z
def capD (n : Nat) (caps : List Nat) (ρ : Rho) : Rho := List.replicate n none ++ caps.map fun j => match ρ[j]? with
 | some (some (.val d)) => some (.val d)
 | _ => none
def compD (g : D → Rho → Option Rho) (c : Rho → Option Bool) (e : DE) : List D → Rho → Option (List D)
 | [], _ => some []
 | d :: ds, ρ => (g d ρ).bind fun ρ1 => (c ρ1).bind fun b => if b then (e ρ1).bind fun y => (compD g c e ds ρ1).map fun r => y :: r else compD g c e ds ρ1
def nComp (n : Nat) (caps : List Nat) (src : Rho → Option (List D)) (g : D → Rho → Option Rho) (c : Rho → Option Bool) (e : DE) : Rho → Option (List D) := fun ρ => (src ρ).bind fun ds => if ds.length ≤ 16777216 then compD g c e ds (capD n caps ρ) else none
def tcAny (K : PySem.W.Frag) (c : Rho → Option Bool) : TT := fun σ H Q => ∃ ρ b, c ρ = some b ∧ ∃ H0 Hf, Same Hf H ∧ Slots K H0 ρ σ H Hf ∧ ∀ H' Hf', Grow H Hf H' Hf' → Q b H'
def teAny (K : PySem.W.Frag) (e : DE) : TE := fun σ H Q => ∃ ρ d, e ρ = some d ∧ tJ K ρ (fun _ v _ Hf => Rep K Hf d v) σ H Q
def JTs (X : Cx) (ifs : List Expr) (c : Rho → Option Bool) : Prop := PTs X ifs (tcAny X.K c)
def cTrue : Rho → Option Bool := fun _ => some true
theorem jts_nil : JTs X [] cTrue := fun pins s σ H Q I ⟨ρ, b, e, H0, Hf, ss, sl, k⟩ => by
 cases e
 exact pts_nil pins s σ H Q I (k H Hf (Grow.refl ss))
theorem jts_one {e : Expr} {c : Rho → Option Bool} (h : JT X e c) : JTs X [e] c := fun pins s σ H Q I ⟨ρ, b, e, H0, Hf, ss, sl, k⟩ => pts_one (h ρ b e) pins s σ H Q I ⟨H0, Hf, ss, sl, k⟩
theorem caps_slots {K : PySem.W.Frag} {n : Nat} {caps : List Nat} {H0 H H1 H' Hf : Hp} {ρ : Rho} {σ : L2.St} (sl : Slots K H0 ρ σ H Hf) : Slots K H1 (capD n caps ρ) (capS n caps σ) H' Hf := by
 have noown : ∀ (i : Nat) (ds : List D), (capD n caps ρ)[i]? ≠ some (some (.own ds)) := fun i ds h => by
  unfold capD at h
  rcases Nat.lt_or_ge i n with q | q
  ·rw [List.getElem?_append_left (by simpa using q), List.getElem?_replicate, if_pos q] at h; cases h
  ·rw [List.getElem?_append_right (by simpa using q), List.getElem?_map] at h
   cases hj : caps[i - (List.replicate n (none : Option B)).length]? with
   | none => rw [hj] at h; cases h
   | some j =>
    rw [hj] at h
    simp only [Option.map_some, Option.some.injEq] at h
    split at h <;> cases h
 refine ⟨by simp [capD, capS], fun i b e => ?_, fun i j ds es a h1 => (noown i ds h1).elim⟩
 unfold capD at e
 unfold capS
 rcases Nat.lt_or_ge i n with q | q
 ·rw [List.getElem?_append_left (by simpa using q), List.getElem?_replicate, if_pos q] at e; cases e
 ·rw [List.getElem?_append_right (by simpa using q), List.getElem?_map] at e
  rw [List.getElem?_append_right (by simpa using q), List.getElem?_map]
  simp only [List.length_replicate] at e ⊢
  cases hj : caps[i - n]? with
  | none => rw [hj] at e; cases e
  | some j =>
   rw [hj] at e
   simp only [Option.map_some, Option.some.injEq] at e ⊢
   split at e
   ·rename_i d hd
    cases e
    obtain ⟨v, h1, h2⟩ := sl.is j _ hd
    exact ⟨v, by rw [h1]; rfl, h2⟩
   ·cases e
theorem comp_reads {K : PySem.W.Frag} {n : Nat} {caps : List Nat} {ρ : Rho} {src : Rho → Option (List D)} {g : D → Rho → Option Rho} {c : Rho → Option Bool} {e : DE} {out : List D} (h : nComp n caps src g c e ρ = some out) :
  ∃ ds, src ρ = some ds ∧ ∀ σ H Q, tJ K ρ (fun H v H' Hf' => ∃ a vs, v = .ref a ∧ H a = none ∧ H' a = some (.lst vs) ∧ Hf' a = none ∧ Reps K Hf' out vs) σ H Q → tComp n caps (tiJ K ρ ds) (tgJ K g) (tcAny K c) (teAny K e) σ H Q := by
 obtain ⟨ds, e1, e2⟩ := xbm h
 split at e2
 ·rename_i hz
  refine ⟨ds, e1, fun σ H Q ⟨H0, Hf, s, sl, k⟩ => ⟨H0, Hf, s, sl, fun J H1 Hf1 g1 Y Dd hD => ?_⟩⟩
  refine ⟨fun i m ys σ' H' => m = ds.length - i ∧ i ≤ ds.length ∧ ∃ Hf' ρ' o1 o2, Grow H1 Hf1 H' Hf' ∧ H' Dd = some (.lst ys) ∧ Hf' Dd = none ∧ Slots K (upd H1 Dd (.lst [])) ρ' σ' H' Hf' ∧ Reps K Hf' o1 ys ∧ o1.length ≤ i ∧ compD g c e (ds.drop i) ρ' = some o2 ∧ o1 ++ o2 = out,
   ⟨ds.length, by simp, Nat.zero_le _, Hf1, capD n caps ρ, [], out, Grow.made g1.sub hD, upd_same, g1.sub.free hD, caps_slots (sl.grow g1), rfl, Nat.le_refl _, by simpa using e2, rfl⟩, ?_⟩
  rintro i m ys σ' H' ⟨rfl, hi, Hf', ρ', o1, o2, gr, hd1, hd2, sl', rp, ho, ec, eo⟩
  obtain ⟨Ys, Yg⟩ := Y i H' Hf' gr.ext gr.sub
  rcases Nat.lt_or_ge i ds.length with hlt | hge
  ·right
   obtain ⟨go, yl⟩ := Yg ds[i] (by simp [hlt])
   refine ⟨go, fun x H2 hy => ?_⟩
   obtain ⟨Hf2, g2, r2⟩ := yl x H2 hy
   rw [List.drop_eq_getElem_cons hlt] at ec
   obtain ⟨ρ1, c1, ec⟩ := xbm ec
   obtain ⟨b, c2, ec⟩ := xbm ec
   refine ⟨ds[i], ρ', ρ1, _, Hf2, c1, g2.sub, sl'.grow g2, r2, fun σ3 sl3 => ⟨ρ1, b, c2, _, Hf2, g2.sub, sl3, fun H4 Hf4 g4 => ?_⟩⟩
   have gr4 := (gr.trans g2).trans g4
   have hd4 : H4 Dd = some (.lst ys) := g4.big _ _ (g2.big _ _ hd1)
   have hf4 : Hf4 Dd = none := (g2.trans g4).nofr hd1 hd2
   have rp4 := rp.mono (g2.trans g4).ext
   cases b with
   | false =>
    rw [if_neg Bool.false_ne_true] at ec
    refine iteF ?_
    exact ⟨ds.length - (i + 1), by omega, rfl, hlt, Hf4, ρ1, o1, o2, gr4, hd4, hf4, sl3.grow g4, rp4, by omega, ec, eo⟩
   | true =>
    rw [if_pos rfl] at ec
    refine iteT ?_
    obtain ⟨y, c3, ec⟩ := xbm ec
    obtain ⟨o3, c4, rfl⟩ := Option.map_eq_some_iff.mp ec
    refine ⟨ρ1, y, c3, _, Hf4, g4.sub, sl3.grow g4, fun v H5 Hf5 g5 r5 => ⟨g5.big _ _ hd4, ?_, ?_⟩⟩
    ·rw [rp.length, sizeLine_eq]; omega
    ·have hf5 : Hf5 Dd = none := g5.nofr hd4 hf4
     have gr5 := gr4.trans g5
     refine ⟨ds.length - (i + 1), by omega, rfl, hlt, Hf5, ρ1, o1 ++ [y], o3, ⟨fun b u q => ?_, fun b u q => ?_, gr5.ext, gr5.new⟩, upd_same, hf5, ?_, (rp4.mono g5.ext).append ⟨v, [], rfl, r5, rfl⟩, by simp; omega, c4, by simp [← eo]⟩
     ·rw [upd_ne (ne_of_none q hD)]; exact gr5.big b u q
     ·rw [upd_ne (ne_of_none q hf5)]; exact gr5.sub b u q
     ·have sl5 := (sl3.grow g4).grow g5
      refine ⟨sl5.len, fun j bb q => ?_, sl5.apart⟩
      obtain ⟨w, q1, q2⟩ := sl5.is j bb q
      refine ⟨w, q1, ?_⟩
      cases bb with
      | val d => exact q2
      | own dd =>
       obtain ⟨a, vs, z1, z2, z3, z4, z5⟩ := q2
       have ne : a ≠ Dd := fun z => by rw [z, upd_same] at z4; cases z4
       exact ⟨a, vs, z1, by rw [upd_ne ne]; exact z2, z3, z4, z5⟩
  ·left
   have : i = ds.length := by omega
   subst this
   rw [List.drop_length] at ec
   cases ec
   rw [List.append_nil] at eo
   subst eo
   exact ⟨Ys (Nat.le_refl _), k _ H' Hf' (g1.trans gr) ⟨Dd, ys, rfl, g1.big.free hD, hd1, hd2, rp⟩⟩
 ·cases e2
end
end G
namespace G
open PySem PySem.Spec PyProof.Rows L2
section
variable {X : Cx}
def compChk (N N' : List Str) (n : Nat) (caps : List Nat) (sc scope : Scope) : Bool :=
 (match scope.kind with | .function => true | _ => false) &&
 (scope.names.all fun y => (match y.2 with | .cell => false | .local => scope.names.lookup y.1 == some .local | .free => sc.names.lookup y.1 == some .cell || sc.names.lookup y.1 == some .free | _ => true)) &&
 (N'.length == n + caps.length) &&
 ((List.range caps.length).all fun i => match caps[i]? with
  | some j => (match N[j]? with | some x => N'[n + i]? == some x && scope.names.lookup x == some .free | none => false)
  | none => true)
theorem compSc_of {N N' : List Str} {n : Nat} {caps : List Nat} {sc scope : Scope} (h : compChk N N' n caps sc scope = true) (hN : X.N = N) (hS : X.env.scope = sc) : CompSc X N' n caps scope := by
 subst hN hS
 unfold compChk at h
 simp only [Bool.and_eq_true, List.all_eq_true] at h
 obtain ⟨⟨⟨h1, h2⟩, h3⟩, h4⟩ := h
 refine ⟨?_, fun y hy e => ?_, fun y hy e => ?_, fun y hy e => ?_, by simpa using h3, fun i j e => ?_⟩
 ·cases q : scope.kind <;> rw [q] at h1 <;> first | rfl | cases h1
 ·have := h2 y hy
  rw [e] at this; cases this
 ·have := h2 y hy
  rw [e] at this; simpa using this
 ·have := h2 y hy
  rw [e] at this; simpa using this
 ·have hi : i < caps.length := (List.getElem?_eq_some_iff.mp e).1
  have := h4 i (by simpa using hi)
  rw [e] at this
  simp only at this
  cases q : X.N[j]? with
  | none => rw [q] at this; cases this
  | some x =>
   rw [q] at this
   simp only [Bool.and_eq_true] at this
   exact ⟨x, rfl, by simpa using this.1, by simpa using this.2⟩
theorem clos_ok {N' : List Str} {n : Nat} {caps : List Nat} {scope : Scope} {pins : List (Addr × Obj)} {σ : L2.St} {H : Hp} {s : Shared} (S : CompSc X N' n caps scope) (I : Inv X pins σ H s) : closureFor scope X.env = pure (closOf X.env.cells scope.names []) :=
 clos_eq fun y hy e => I.ok.has y.1 (S.free y hy e)
theorem jn_comp {N' : List Str} {n : Nat} {caps : List Nat} {scope : Scope} {elt tgt iter : Expr} {ifs : List Expr} {pos : Pos} {src : Rho → Option (List D)} {g : D → Rho → Option Rho} {c : Rho → Option Bool} {e : DE} (S : CompSc X N' n caps scope) (hx : ∀ e s, X.xe e s → False)
  (hi : JI X tgt iter src) (hg : ∀ C s0 H0 ex, JG (compCx X N' scope C s0 H0 ex) tgt g) (ht : ∀ C s0 H0 ex, JTs (compCx X N' scope C s0 H0 ex) ifs c) (he : ∀ C s0 H0 ex, JE (compCx X N' scope C s0 H0 ex) elt e)
  (hc : X.calm = true := by rfl) (hs : ∀ x, foldedSetIterable iter X.env x = pure x := by intro _; rfl) : JN X (.ListComp elt [⟨tgt, iter, ifs, 0⟩] scope pos) (nComp n caps src g c e) := by
 intro ρ out h
 obtain ⟨ds, e1, k⟩ := comp_reads (K := X.K) h
 intro pins s σ H Q I t
 rw [eval_ListComp]
 refine wpAny_comprehension_free (use := none) rfl hs (clos_ok S I) S.kind S.loc (comp_run (RR := fun acc C => compPost (model X.prog X.w) X.A X.xe none (EP X pins σ Q) acc C) S hx hc (hi ρ ds e1) (g := tgJ X.K g) (tc := tcAny X.K c) (te := teAny X.K e) hg ht (fun C s0 H0 ex pins s σ H Q I ⟨ρ, d, e, t⟩ => he C s0 H0 ex ρ d e pins s σ H Q I t) I (k σ H Q t) ?_)
 intro Dd C r s' hr ⟨m, hn, kk⟩ _
 subst hr
 exact ⟨m, hn, fun h' sb => let ⟨H', I', q⟩ := kk h' sb; ⟨.ref Dd, H', I', rfl, q⟩⟩
theorem ps_compAsg {N' : List Str} {n : Nat} {caps : List Nat} {scope : Scope} {elt tgt iter : Expr} {ifs : List Expr} {pos pos' spos : Pos} {i : Nat} {x : Str} {wi : TI} {g : TG} {tc : TT} {te : TE} (S : CompSc X N' n caps scope) (hx : ∀ e s, X.xe e s → False) (hc : X.calm = true)
  (hN : X.N.Nodup) (hi : X.N[i]? = some x) (hl : X.env.scope.names.lookup x = some .local) (hsrc : PI X tgt iter wi) (hg : ∀ C s0 H0 ex, PG (compCx X N' scope C s0 H0 ex) tgt g) (ht : ∀ C s0 H0 ex, PTs (compCx X N' scope C s0 H0 ex) ifs tc) (he : ∀ C s0 H0 ex, PE (compCx X N' scope C s0 H0 ex) elt te)
  (hsw : swapsWith (.ListComp elt [⟨tgt, iter, ifs, 0⟩] scope pos) (some (.Name x pos')) spos.line X.env = pure true) (hs : ∀ x, foldedSetIterable iter X.env x = pure x) :
  PS X (.Assign [.Name x pos'] (.ListComp elt [⟨tgt, iter, ifs, 0⟩] scope pos) spos) (fun En σ H => tComp n caps wi g tc te σ H fun v H' => En.nx (σ.set i (some v)) H') := by
 intro pins s σ H En I h
 rw [exec_Assign_Name_used _ _ _ _ hsw]
 refine wpAny_bind (wpAny_standAt (wpAny_bind ?_))
 show wpAny _ X.A (do let _ ← comprehension (.ListComp elt [⟨tgt, iter, ifs, 0⟩] scope pos) scope X.env _ (newList []) false (eval iter X.env) (some (assign (.Name x pos') X.env))) _ _ s
 refine wpAny_bind (wpAny_mono (wpAny_comprehension_free (use := some (assign (.Name x pos') X.env)) (Q := fun _ s' => SP X pins En .next s') rfl hs (clos_ok S I) S.kind S.loc
  (comp_run (RR := fun acc C => compPost (model X.prog X.w) X.A X.xe (some (assign (.Name x pos') X.env)) (fun _ s' => SP X pins En .next s') acc C) S hx hc hsrc hg ht he I h ?_)) (fun _ s' hq => wpAny_pure (wpAny_pure hq)) fun _ _ z => z)
 intro Dd C r s' hr _ ⟨s2, fp, σ', H2, H', eC, I2, f2, I', q⟩
 subst hr eC
 have IX : Inv X pins σ H' s' := comp_back (h' := s'.heap) I2 f2 I' (Heap.SameBut.refl ..)
 obtain ⟨mC, hnC, _⟩ := I'.loc
 have hCL : s2.heap.objs.size ≠ X.env.locals := fun z => by
  have := I2.lt
  rw [← z] at this
  exact Nat.lt_irrefl _ this
 show wpAny _ X.A (assign (.Name x pos') X.env (.ref Dd)) _ _ _
 refine wpAny_assign_Name (store_ok2 (v := .ref Dd) IX hN hi (.inl hl) rfl (fun s3 I3 ⟨a, sb, ha⟩ => ?_) (.inr hl))
 have hCa : s2.heap.objs.size ≠ a := fun z => by
  rcases ha with ha | ha
  ·exact hCL (z.trans ha)
  ·obtain ⟨v, q'⟩ := I2.cell x a ha
   have := q'.lt
   rw [← z] at this
   exact Nat.lt_irrefl _ this
 refine ⟨mC, hnC.sameBut sb hCa, fun h' sb' => ?_⟩
 refine ⟨_, H', I3.turned (t' := s3.toks) (it := s2.heap.objs.size) (fun b o hb e => sb'.extBut b o hb e) I'.free hCL (.inr I2.sz) (fun y c e z => ?_) (fun p hp z => ?_), q⟩
 ·obtain ⟨v, q'⟩ := I2.cell y c e
  have := q'.lt
  rw [z] at this
  exact Nat.lt_irrefl _ this
 ·have := Heap.lt_size (I2.pin p hp).1
  rw [z] at this
  exact Nat.lt_irrefl _ this
def sSetN (i : Nat) (f : Rho → Option (List D)) : DS := fun ρ => (f ρ).map fun ds => .nx (ρ.set i (some (.val (.list ds))))
theorem js_comp (i : Nat) {N' : List Str} {n : Nat} {caps : List Nat} {scope : Scope} {elt tgt iter : Expr} {ifs : List Expr} {pos pos' spos : Pos} {x : Str} {src : Rho → Option (List D)} {g : D → Rho → Option Rho} {c : Rho → Option Bool} {e : DE} (hN : X.N.Nodup) (S : CompSc X N' n caps scope) (hx : ∀ e s, X.xe e s → False)
  (hi : JI X tgt iter src) (hg : ∀ C s0 H0 ex, JG (compCx X N' scope C s0 H0 ex) tgt g) (ht : ∀ C s0 H0 ex, JTs (compCx X N' scope C s0 H0 ex) ifs c) (he : ∀ C s0 H0 ex, JE (compCx X N' scope C s0 H0 ex) elt e)
  (hi2 : X.N[i]? = some x := by rfl) (hl : X.env.scope.names.lookup x = some .local := by rfl) (hsw : swapsWith (.ListComp elt [⟨tgt, iter, ifs, 0⟩] scope pos) (some (.Name x pos')) spos.line X.env = pure true := by rfl)
  (hc : X.calm = true := by rfl) (hs : ∀ x, foldedSetIterable iter X.env x = pure x := by intro _; rfl) : JS X (.Assign [.Name x pos'] (.ListComp elt [⟨tgt, iter, ifs, 0⟩] scope pos) spos) (sSetN i (nComp n caps src g c e)) := fun ρ fl q H0 Hf0 => by
 obtain ⟨out, e1, e2⟩ := Option.map_eq_some_iff.mp q
 subst e2
 obtain ⟨ds, e3, k⟩ := comp_reads (K := X.K) e1
 refine ps_imp (ps_compAsg S hx hc hN hi2 hl (hi ρ ds e3) (g := tgJ X.K g) (tc := tcAny X.K c) (te := teAny X.K e) hg ht (fun C s0 H0 ex pins s σ H Q I ⟨ρ, d, e, t⟩ => he C s0 H0 ex ρ d e pins s σ H Q I t) hsw hs) fun En σ H ⟨Hf, a, ee⟩ => k σ H _ ⟨H0, Hf, a.gr.sub, a.sl, fun v H' Hf' gg ⟨p, vs, z1, z2, z3, z4, z5⟩ => ?_⟩
 subst z1
 have g2 := gg.freeze z3 z4 z2
 exact ee _ H' _ ⟨a.gr.trans g2, (a.sl.grow g2).set ⟨p, vs, rfl, SqL.of upd_same, z5.mono (same_upd z4)⟩⟩ g2.ext
theorem js_par {i j : Nat} {x y : Str} {a b : Expr} {f : Rho → Option (List D)} {px py pt : Pos} {kt k2 pt2} {pos : Pos} (hN : X.N.Nodup) (ha : JA X [a, b] f) (hw : swappedStores [.Tuple [.Name x px, .Name y py] kt pt] (.Tuple [a, b] k2 pt2) X.env = pure (some [x, y])) (hij : i ≠ j)
  (hi : X.N[i]? = some x := by rfl) (hj : X.N[j]? = some y := by rfl) (hx : X.env.scope.names.lookup x = some .local := by rfl) (hy : X.env.scope.names.lookup y = some .local := by rfl) (hc : X.calm = true := by rfl)
  (hs : swapsWithSole [.Tuple [.Name x px, .Name y py] kt pt] (.Tuple [a, b] k2 pt2) pos.line X.env = pure false := by rfl) : JS X (.Assign [.Tuple [.Name x px, .Name y py] kt pt] (.Tuple [a, b] k2 pt2) pos) (sPar i j f) := fun ρ fl q H0 Hf0 => by
 obtain ⟨ds, e1, e2⟩ := xbm q
 split at e2
 ·cases e2
  refine ps_imp (ps_par hc hN hi hj hij hx hy (fun pos pins s σ H Q I t => ha.run ρ _ e1 pos pins s σ H Q I t) hw hs) fun En σ H ⟨Hf, at', e⟩ => ⟨H0, Hf, at'.gr.sub, at'.sl, fun vs H' Hf' gg rp => ?_⟩
  obtain ⟨v, r, rfl, r1, w, r', rfl, r2, r3⟩ := rp
  cases r3
  exact ⟨v, w, rfl, e _ H' Hf' ⟨at'.gr.trans gg, ((at'.sl.grow gg).set r1).set r2⟩ gg.ext⟩
 ·cases e2
def sAsg (f : DE) (g : D → Rho → Option Rho) : DS := fun ρ => (f ρ).bind fun d => (g d ρ).map Fl.nx
theorem js_asg {tg e : Expr} {f : DE} {g : D → Rho → Option Rho} {pos : Pos} (he : JE X e f) (hg : JG X tg g) (hs : swapsWithSole [tg] e pos.line X.env = pure false := by rfl) (hw : swappedStores [tg] e X.env = pure none := by rfl)
  (h1 : (assignEach [tg] X.env).map (·.2) = [assign tg X.env] := by rfl) : JS X (.Assign [tg] e pos) (sAsg f g) := fun ρ fl q H0 Hf0 => by
 obtain ⟨d, e1, e2⟩ := xbm q
 obtain ⟨ρ', e3, e4⟩ := Option.map_eq_some_iff.mp e2
 subst e4
 exact ps_imp (ps_asg (he ρ d e1) hg hs hw h1) fun En σ H ⟨Hf, a, ee⟩ => ⟨H0, Hf, a.gr.sub, a.sl, fun v H' Hf' gg r => ⟨d, ρ, ρ', H0, Hf', e3, gg.sub, a.sl.grow gg, r, fun σ' sl' => ee σ' H' Hf' ⟨a.gr.trans gg, sl'⟩ gg.ext⟩⟩
def sOwn (i : Nat) (f : Rho → Option (List D)) : DS := fun ρ => (f ρ).map fun ds => .nx (ρ.set i (some (.own ds)))
theorem Slots.setOwn {K : PySem.W.Frag} {H0 H H' Hf Hf' : Hp} {ρ : Rho} {σ : L2.St} {i : Nat} {ds : List D} {a : Addr} {vs : List V} (s : Slots K H0 ρ σ H Hf) (g : Grow H Hf H' Hf') (n0 : H0 a = none) (n : H a = none) (h : H' a = some (.lst vs)) (nf : Hf' a = none) (r : Reps K Hf' ds vs) :
  Slots K H0 (ρ.set i (some (.own ds))) (σ.set i (some (.ref a))) H' Hf' := by
 have s' := s.grow g
 have old : ∀ (j : Nat) (es : List D), i ≠ j → ρ[j]? = some (some (.own es)) → σ[j]? ≠ some (some (.ref a)) := fun j es hj e z => by
  obtain ⟨v, h1, b, us, e1, h2, _⟩ := s.is j _ e
  rw [z] at h1; cases h1; cases e1
  rw [n] at h2; cases h2
 refine ⟨by simp [s.len], fun j b e => ?_, fun j k ds1 es b h1 h2 h3 h4 => ?_⟩
 ·by_cases q : i = j
  ·subst q
   have hi : i < ρ.length := by simpa using (List.getElem?_eq_some_iff.mp e).1
   have hi' : i < σ.length := by rw [← s.len]; exact hi
   rw [List.getElem?_set_self hi] at e
   cases e
   exact ⟨_, List.getElem?_set_self hi', a, vs, rfl, h, nf, n0, r⟩
  ·rw [List.getElem?_set_ne q] at e
   obtain ⟨u, h1, h2⟩ := s'.is j b e
   exact ⟨u, by rw [List.getElem?_set_ne q]; exact h1, h2⟩
 ·by_cases qj : i = j
  ·by_cases qk : i = k
   ·rw [← qj, ← qk]
   ·subst qj
    have hi : i < ρ.length := by simpa using (List.getElem?_eq_some_iff.mp h1).1
    rw [List.getElem?_set_self (by rw [← s.len]; exact hi)] at h3
    rw [List.getElem?_set_ne qk] at h2 h4
    cases h3
    exact (old k es qk h2 h4).elim
  ·rw [List.getElem?_set_ne qj] at h1 h3
   by_cases qk : i = k
   ·subst qk
    have hi : i < ρ.length := by simpa using (List.getElem?_eq_some_iff.mp h2).1
    rw [List.getElem?_set_self (by rw [← s.len]; exact hi)] at h4
    cases h4
    exact (old j ds1 qj h1 h3).elim
   ·rw [List.getElem?_set_ne qk] at h2 h4
    exact s.apart j k ds1 es b h1 h2 h3 h4
theorem js_own (i : Nat) {x : Str} {e : Expr} {f : Rho → Option (List D)} {pos pos' : Pos} (hN : X.N.Nodup) (h : JN X e f) (hi : X.N[i]? = some x := by rfl) (hx : Loc X.env.scope x := by first | exact Or.inl rfl | exact Or.inr rfl)
  (hs : swapsWith e (some (.Name x pos')) pos.line X.env = pure false := by rfl) (hf : X.fn x = true ∨ X.env.scope.names.lookup x = some .local := by first | exact .inl rfl | exact .inr rfl) : JS X (.Assign [.Name x pos'] e pos) (sOwn i f) := fun ρ fl q H0 Hf0 => by
 obtain ⟨ds, e1, e2⟩ := Option.map_eq_some_iff.mp q
 subst e2
 refine ps_imp (ps_set hN hi hx (h ρ ds e1) hs hf) fun En σ H ⟨Hf, a, e⟩ => ⟨H0, Hf, a.gr.sub, a.sl, fun v H' Hf' g ⟨p, vs, z1, z2, z3, z4, z5⟩ => ?_⟩
 subst z1
 exact e _ H' Hf' ⟨a.gr.trans g, a.sl.setOwn g (a.gr.big.free z2) z2 z3 z4 z5⟩ g.ext
def sApp (i : Nat) (f : DE) : DS := fun ρ => match ρ[i]? with
 | some (some (.own ds)) => if ds.length < 16777216 then (f ρ).map fun d => .nx (ρ.set i (some (.own (ds ++ [d])))) else none
 | _ => none
theorem js_app (i : Nat) {x : Str} {e : Expr} {f : DE} {p apos cpos pos : Pos} (h : JE X e f) (hN : X.N[i]? = some x := by rfl) (hv : Vis X.env.scope x := by first | exact Or.inl rfl | exact Or.inr (Or.inl rfl) | exact Or.inr (Or.inr rfl)) (hd : (x == ("__debug__" : Str)) = false := by decide)
  (hcd : (x == ("__classdict__" : Str)) = false := by decide) (hbase : attributeBase (.Name x p) "append" X.env (eval (.Name x p) X.env) = eval (.Name x p) X.env := by rfl)
  (hfew : ((backTo cpos (starEach [e] X.env)).all (fun x => !x.1) && (backToKw cpos (keywordEach [] X.env)).all (fun x => x.1.isSome)
   && decide (([e] : List Expr).length + ([] : List Keyword).length + (if ([] : List Keyword).isEmpty then 0 else 1) < 30)) = true := by rfl)
  (hline : (apos.endLine == cpos.line) = true := by rfl) (hs : starEach [e] X.env = [(false, eval e X.env)] := by rfl) (hsw : swapsWith (.Call (.Attribute (.Name x p) "append" apos) [e] [] cpos) none pos.line X.env = pure false := by rfl) :
  JS X (.Expr (.Call (.Attribute (.Name x p) "append" apos) [e] [] cpos) pos) (sApp i f) := fun ρ fl q H0 Hf0 => by
 unfold sApp at q
 split at q
 ·rename_i ds eo
  split at q
  ·rename_i hz
   obtain ⟨d, e1, e2⟩ := Option.map_eq_some_iff.mp q
   subst e2
   refine ps_imp (ps_expr (pe_bm PySem.F.plainAttrs_list PySem.F.slot_list_append PySem.F.type_list_append mt_append (pe_var hN hv hd hcd) (pa_cons (h ρ d e1) pa_nil hs) hbase hfew hline hs) hsw) fun En σ H ⟨Hf, a, ee⟩ => ?_
   obtain ⟨v, h1, b, vs, rfl, h2, h3, h4, h5⟩ := a.sl.is i _ eo
   refine ⟨_, h1, .inl ⟨rfl, vs, SqL.of h2⟩, H0, Hf, a.gr.sub, a.sl, fun w H' Hf' gg r => ?_⟩
   have hb : H' b = some (.lst vs) := gg.big _ _ h2
   have hfb : Hf' b = none := gg.nofr h2 h3
   have g2 := a.gr.trans gg
   have sl2 := a.sl.grow gg
   refine ⟨b, vs, w, rfl, rfl, hb, by rw [h5.length, sizeLine_eq]; exact hz, ee _ _ Hf' ⟨⟨fun c u z => ?_, fun c u z => ?_, g2.ext, g2.new⟩, ?_⟩ gg.ext⟩
   ·rw [upd_ne (ne_of_none z h4)]; exact g2.big c u z
   ·rw [upd_ne (ne_of_none z hfb)]; exact g2.sub c u z
   ·refine ⟨by simpa using sl2.len, fun j bb z => ?_, fun j k ds1 es c q1 q2 q3 q4 => ?_⟩
    ·by_cases qj : i = j
     ·subst qj
      have hi : i < ρ.length := (List.getElem?_eq_some_iff.mp eo).1
      rw [List.getElem?_set_self hi] at z
      cases z
      exact ⟨_, h1, b, vs ++ [w], rfl, upd_same, hfb, h4, (h5.mono gg.ext).append ⟨w, [], rfl, r, rfl⟩⟩
     ·rw [List.getElem?_set_ne qj] at z
      obtain ⟨u, z1, z2⟩ := sl2.is j bb z
      refine ⟨u, z1, ?_⟩
      cases bb with
      | val d => exact z2
      | own dd =>
       obtain ⟨a', vs', y1, y2, y3, y4, y5⟩ := z2
       have ne : a' ≠ b := fun zz => by
        subst zz y1
        exact qj (a.sl.apart i j ds dd a' eo z h1 z1)
       exact ⟨a', vs', y1, by rw [upd_ne ne]; exact y2, y3, y4, y5⟩
    ·have q1' : ∃ dd, ρ[j]? = some (some (.own dd)) := by
      by_cases qj : i = j
      ·subst qj; exact ⟨ds, eo⟩
      ·rw [List.getElem?_set_ne qj] at q1; exact ⟨_, q1⟩
     have q2' : ∃ dd, ρ[k]? = some (some (.own dd)) := by
      by_cases qj : i = k
      ·subst qj; exact ⟨ds, eo⟩
      ·rw [List.getElem?_set_ne qj] at q2; exact ⟨_, q2⟩
     obtain ⟨d1, q1'⟩ := q1'
     obtain ⟨d2, q2'⟩ := q2'
     exact a.sl.apart j k d1 d2 c q1' q2' q3 q4
  ·cases q
 ·cases q
def frz (i : Nat) (ρ : Rho) : Rho := match ρ[i]? with
 | some (some (.own ds)) => ρ.set i (some (.val (.list ds)))
 | _ => ρ
theorem frz_at {K : PySem.W.Frag} {H0 Hf0 H Hf : Hp} {ρ : Rho} {σ : L2.St} (i : Nat) (a : At K H0 Hf0 ρ σ H Hf) : ∃ Hf', Same Hf Hf' ∧ At K H0 Hf0 (frz i ρ) σ H Hf' := by
 unfold frz
 split
 ·rename_i ds eo
  obtain ⟨v, h1, b, vs, rfl, h2, h3, h4, h5⟩ := a.sl.is i _ eo
  have g : Grow H0 Hf0 H (upd Hf b (.lst vs)) := a.gr.freeze h2 h3 h4
  refine ⟨upd Hf b (.lst vs), same_upd h3, g, ⟨by simpa using a.sl.len, fun j bb z => ?_, fun j k ds1 es c q1 q2 q3 q4 => ?_⟩⟩
  ·have hi : i < ρ.length := (List.getElem?_eq_some_iff.mp eo).1
   by_cases qj : i = j
   ·subst qj
    rw [List.getElem?_set_self hi] at z
    cases z
    exact ⟨_, h1, b, vs, rfl, SqL.of upd_same, h5.mono (same_upd h3)⟩
   ·rw [List.getElem?_set_ne qj] at z
    obtain ⟨u, z1, z2⟩ := a.sl.is j bb z
    refine ⟨u, z1, ?_⟩
    cases bb with
    | val d => exact Rep.mono (same_upd h3) z2
    | own dd =>
     obtain ⟨a', vs', y1, y2, y3, y4, y5⟩ := z2
     have ne : a' ≠ b := fun zz => by
      subst zz y1
      exact qj (a.sl.apart i j ds dd a' eo z h1 z1)
     exact ⟨a', vs', y1, y2, by rw [upd_ne ne]; exact y3, y4, y5.mono (same_upd h3)⟩
  ·have hi : i < ρ.length := (List.getElem?_eq_some_iff.mp eo).1
   have qj : i ≠ j := fun z => by subst z; rw [List.getElem?_set_self hi] at q1; cases q1
   have qk : i ≠ k := fun z => by subst z; rw [List.getElem?_set_self hi] at q2; cases q2
   rw [List.getElem?_set_ne qj] at q1
   rw [List.getElem?_set_ne qk] at q2
   exact a.sl.apart j k ds1 es c q1 q2 q3 q4
 ·exact ⟨Hf, Same.refl _, a⟩
def sFrz (i : Nat) (f : DS) : DS := fun ρ => f (frz i ρ)
theorem js_frz (i : Nat) {st : Stmt} {f : DS} (h : JS X st f) : JS X st (sFrz i f) := fun ρ fl q H0 Hf0 => ps_imp (h (frz i ρ) fl q H0 Hf0) fun En σ H ⟨Hf, a, e⟩ => by
 obtain ⟨Hf', s, a'⟩ := frz_at i a
 exact ⟨Hf', a', Fl.ends_mono e s⟩
def tsAny (K : PySem.W.Frag) (H0 Hf0 : Hp) (f : DS) : TS := fun En σ H => ∃ ρ fl, f ρ = some fl ∧ tJS K H0 Hf0 ρ fl En σ H
theorem pss_any {sts : List Stmt} {f : DS} {H0 Hf0 : Hp} (h : JSs X sts f) : PSs X sts (tsAny X.K H0 Hf0 f) := fun pins s σ H En I ⟨ρ, fl, e, t⟩ => h ρ fl e H0 Hf0 pins s σ H En I t
theorem pt_any {e : Expr} {c : Rho → Option Bool} (h : JT X e c) : PT X e (tcAny X.K c) := fun pins s σ H Q I ⟨ρ, b, e, t⟩ => h ρ b e pins s σ H Q I t
def iterW (t : Rho → Option Bool) (f : DS) : Nat → DS
 | 0 => fun _ => none
 | n + 1 => fun ρ => (t ρ).bind fun c => if c then (f ρ).bind fun fl => match fl with
   | .nx ρ' => iterW t f n ρ'
   | .ct ρ' => iterW t f n ρ'
   | .bk ρ' => some (.nx ρ')
   | .rt d => some (.rt d)
  else some (.nx ρ)
theorem iterW_succ {t : Rho → Option Bool} {f : DS} : ∀ {n : Nat} {ρ : Rho} {fl : Fl}, iterW t f n ρ = some fl → iterW t f (n + 1) ρ = some fl
 | 0, _, _, h => by cases h
 | n + 1, ρ, fl, h => by
  obtain ⟨c, e1, h⟩ := xbm h
  show (t ρ).bind _ = _
  rw [e1]
  cases c with
  | false => exact h
  | true =>
   obtain ⟨fl1, e2, h⟩ := xbm h
   show (f ρ).bind _ = _
   rw [e2]
   cases fl1 with
   | nx ρ' => exact iterW_succ (n := n) h
   | ct ρ' => exact iterW_succ (n := n) h
   | bk ρ' => exact h
   | rt d => exact h
theorem iterW_le {t : Rho → Option Bool} {f : DS} {n m : Nat} {ρ : Rho} {fl : Fl} (h : iterW t f n ρ = some fl) (l : n ≤ m) : iterW t f m ρ = some fl := by
 induction l with
 | refl => exact h
 | step _ ih => exact iterW_succ ih
open Classical in
noncomputable def sWhile (t : Rho → Option Bool) (f : DS) : DS := fun ρ => if h : ∃ fl n, iterW t f n ρ = some fl then some h.choose else none
theorem sWhile_of {t : Rho → Option Bool} {f : DS} {n : Nat} {ρ : Rho} {fl : Fl} (h : iterW t f n ρ = some fl) : sWhile t f ρ = some fl := by
 have hx : ∃ fl n, iterW t f n ρ = some fl := ⟨fl, n, h⟩
 unfold sWhile
 rw [dif_pos hx]
 obtain ⟨m, hm⟩ := hx.choose_spec
 have h1 := iterW_le h (Nat.le_max_left n m)
 have h2 := iterW_le hm (Nat.le_max_right n m)
 rw [h1] at h2
 exact h2.symm
theorem of_sWhile {t : Rho → Option Bool} {f : DS} {ρ : Rho} {fl : Fl} (h : sWhile t f ρ = some fl) : ∃ n, iterW t f n ρ = some fl := by
 unfold sWhile at h
 split at h
 ·rename_i hx
  cases h
  exact hx.choose_spec
 ·cases h
theorem js_while {c : Expr} {body : List Stmt} {t : Rho → Option Bool} {f : DS} {pos : Pos} (hc : JT X c t) (hb : JSs X body f) (hp : PassesOwn (model X.prog X.w) X.A X.env X.xe := by exact PassesOwn.never) : JS X (.While c body [] pos) (sWhile t f) := fun ρ fl q H0 Hf0 => by
 obtain ⟨n, hn⟩ := of_sWhile q
 refine ps_imp (ps_while hp (pt_any hc) (pss_any (H0 := H0) (Hf0 := Hf0) hb)) fun En σ H ⟨Hf, a, e⟩ => ?_
 refine ⟨fun m σ H => ∃ Hf' ρ', At X.K H0 Hf0 ρ' σ H Hf' ∧ Same Hf Hf' ∧ iterW t f m ρ' = some fl, ⟨n, Hf, ρ, a, Same.refl _, hn⟩, ?_⟩
 rintro m σ' H' ⟨Hf', ρ', a', s', hm⟩
 cases m with
 | zero => cases hm
 | succ m =>
  obtain ⟨b, e1, hm⟩ := xbm hm
  refine ⟨ρ', b, e1, H0, Hf', a'.gr.sub, a'.sl, fun H2 Hf2 g2 => ?_⟩
  have a2 := a'.grow g2
  have s2 := s'.trans g2.ext
  cases b with
  | false =>
   have : fl = .nx ρ' := by simpa using hm.symm
   subst this
   exact iteF (e σ' H2 Hf2 a2 s2)
  | true =>
   obtain ⟨fl1, e2, hm⟩ := xbm (show (f ρ').bind _ = some fl from hm)
   refine iteT ⟨fun σ3 H3 => ∃ m', m' < m + 1 ∧ ∃ Hf' ρ', At X.K H0 Hf0 ρ' σ3 H3 Hf' ∧ Same Hf Hf' ∧ iterW t f m' ρ' = some fl, fun σ3 H3 z => z, ρ', fl1, e2, Hf2, a2, ?_⟩
   cases fl1 with
   | nx ρ3 => exact fun σ3 H3 Hf3 a3 s3 => ⟨m, Nat.lt_succ_self _, Hf3, ρ3, a3, s2.trans s3, hm⟩
   | ct ρ3 => exact fun σ3 H3 Hf3 a3 s3 => ⟨m, Nat.lt_succ_self _, Hf3, ρ3, a3, s2.trans s3, hm⟩
   | bk ρ3 =>
    cases hm
    exact fun σ3 H3 Hf3 a3 s3 => e σ3 H3 Hf3 a3 (s2.trans s3)
   | rt d =>
    cases hm
    exact e
def forD (g : D → Rho → Option Rho) (f : DS) : List D → DS
 | [] => fun ρ => some (.nx ρ)
 | d :: ds => fun ρ => (g d ρ).bind fun ρ1 => (f ρ1).bind fun fl => match fl with
   | .nx ρ' => forD g f ds ρ'
   | .ct ρ' => forD g f ds ρ'
   | .bk ρ' => some (.nx ρ')
   | .rt d => some (.rt d)
def sFor (src : Rho → Option (List D)) (g : D → Rho → Option Rho) (f : DS) : DS := fun ρ => (src ρ).bind fun ds => forD g f ds ρ
theorem js_for {tg iter : Expr} {body : List Stmt} {src : Rho → Option (List D)} {g : D → Rho → Option Rho} {f : DS} {pos : Pos} (hi : JI X tg iter src) (hg : JG X tg g) (hb : JSs X body f) (hp : PassesOwn (model X.prog X.w) X.A X.env X.xe := by exact PassesOwn.never) (hc : X.calm = true := by rfl)
  (hs : ∀ x, foldedSetIterable iter X.env x = pure x := by intro _; rfl) : JS X (.For tg iter body [] pos) (sFor src g f) := fun ρ fl q H0 Hf0 => by
 obtain ⟨ds, e1, e2⟩ := xbm q
 refine ps_imp (ps_for hp hc (hi ρ ds e1) hg (pss_any (H0 := H0) (Hf0 := Hf0) hb) hs) fun En σ H ⟨Hf, a, e⟩ => ⟨H0, Hf, a.gr.sub, a.sl, fun J H1 Hf1 g1 Y => ?_⟩
 refine ⟨fun i m σ H => m = ds.length - i ∧ i ≤ ds.length ∧ ∃ Hf' ρ', At X.K H0 Hf0 ρ' σ H Hf' ∧ Same Hf1 Hf' ∧ forD g f (ds.drop i) ρ' = some fl, ⟨ds.length, by simp, Nat.zero_le _, Hf1, ρ, a.grow g1, Same.refl _, by simpa using e2⟩, ?_⟩
 rintro i m σ' H' ⟨rfl, hi, Hf', ρ', a', s', hm⟩
 obtain ⟨Ys, Yg⟩ := Y i H' Hf' s' a'.gr.sub
 rcases Nat.lt_or_ge i ds.length with hlt | hge
 ·right
  obtain ⟨go, yl⟩ := Yg ds[i] (by simp [hlt])
  rw [List.drop_eq_getElem_cons hlt] at hm
  obtain ⟨ρ1, c1, hm⟩ := xbm hm
  obtain ⟨fl1, c2, hm⟩ := xbm hm
  refine ⟨go, fun σ3 H3 => ∃ m', m' < ds.length - i ∧ m' = ds.length - (i + 1) ∧ i + 1 ≤ ds.length ∧ ∃ Hf' ρ', At X.K H0 Hf0 ρ' σ3 H3 Hf' ∧ Same Hf1 Hf' ∧ forD g f (ds.drop (i + 1)) ρ' = some fl, fun σ3 H3 ⟨m', z1, z2⟩ => ⟨m', z1, z2⟩, fun x H2 hy => ?_⟩
  obtain ⟨Hf2, g2, r2⟩ := yl x H2 hy
  have a2 := a'.grow g2
  refine ⟨ds[i], ρ', ρ1, H0, Hf2, c1, g2.sub, a2.sl, r2, fun σ3 sl3 => ⟨ρ1, fl1, c2, Hf2, ⟨a2.gr, sl3⟩, ?_⟩⟩
  have s2 := s'.trans g2.ext
  cases fl1 with
  | nx ρ3 => exact fun σ3 H3 Hf3 a3 s3 => ⟨_, by omega, rfl, hlt, Hf3, ρ3, a3, s2.trans s3, hm⟩
  | ct ρ3 => exact fun σ3 H3 Hf3 a3 s3 => ⟨_, by omega, rfl, hlt, Hf3, ρ3, a3, s2.trans s3, hm⟩
  | bk ρ3 =>
   cases hm
   exact fun σ3 H3 Hf3 a3 s3 => e σ3 H3 Hf3 a3 (g1.ext.trans (s2.trans s3))
  | rt d =>
   cases hm
   exact e
 ·left
  have : i = ds.length := by omega
  subst this
  rw [List.drop_length] at hm
  cases hm
  exact ⟨Ys (Nat.le_refl _), e σ' H' Hf' a' (g1.ext.trans s')⟩
theorem js_pass {pos : Pos} : JS X (.Pass pos) sNil := fun ρ fl q H0 Hf0 => by
 cases q
 exact ps_imp ps_pass fun En σ H ⟨Hf, a, e⟩ => e σ H Hf a (Same.refl _)
theorem js_brk {pos : Pos} : JS X (.Break pos) (fun ρ => some (.bk ρ)) := fun ρ fl q H0 Hf0 => by
 cases q
 exact ps_imp ps_break fun En σ H ⟨Hf, a, e⟩ => e σ H Hf a (Same.refl _)
end
def startD (n : Nat) (ds : List D) : Rho := ds.map (fun d => some (B.val d)) ++ List.replicate (n - ds.length) none
def runD (g : DS) (n : Nat) : List D → Option D := fun ds => (g (startD n ds)).bind fun fl => match fl with
 | .rt d => some d
 | .nx _ => some .none
 | _ => none
theorem start_slots {K : PySem.W.Frag} {H0 H Hf : Hp} {N : List Str} {ds : List D} {vs : List V} (r : Reps K Hf ds vs) : Slots K H0 (startD N.length ds) (L2.start N vs) H Hf := by
 have hl := r.length
 have noown : ∀ (i : Nat) (b : B), (startD N.length ds)[i]? = some (some b) → ∃ d, ds[i]? = some d ∧ b = .val d := fun i b h => by
  unfold startD at h
  rcases Nat.lt_or_ge i ds.length with q | q
  ·rw [List.getElem?_append_left (by simpa using q), List.getElem?_map] at h
   rw [List.getElem?_eq_getElem q] at h ⊢
   simp only [Option.map_some, Option.some.injEq] at h
   exact ⟨ds[i], rfl, h.symm⟩
  ·rw [List.getElem?_append_right (by simpa using q), List.getElem?_replicate] at h
   split at h <;> cases h
 refine ⟨by simp [startD, L2.start, hl], fun i b e => ?_, fun i j d1 d2 a e1 _ _ _ => ?_⟩
 ·obtain ⟨d, h1, h2⟩ := noown i b e
  subst h2
  obtain ⟨v, h3, h4⟩ := r.get h1
  refine ⟨v, ?_, h4⟩
  have hi : i < vs.length := (List.getElem?_eq_some_iff.mp h3).1
  unfold L2.start
  rw [List.getElem?_append_left (by simpa using hi), List.getElem?_map, h3]; rfl
 ·obtain ⟨d, _, h2⟩ := noown i _ e1
  cases h2
theorem fn_rule {P : Program} {w : World} {K : PySem.W.Frag} {mg : Str → Option Value} {base : Heap} {x qual : Str} {st : Stmt} {f : Addr} {fd : FuncData} {N ps : List Str} {k : Nat} {g : DS} (F : Fun K x qual st f fd) (S : FnScope N ps (defScope st))
  (hb : ∀ (cdv : Value) (A : Around) (outer : List Env) (s : Shared) (H : Hp) (E : XK), Room k (A.deeper (envOfC qual (defScope st) s.heap.objs.size f cdv)) → JSs (cxOf CX0 P w K mg base N qual (defScope st) f cdv A outer s H E).nox (defBody st) g) :
  FnOk P w K mg base CX0 (k + 1) f fd ps (spF K ps.length (runD g N.length)) := by
 refine F.ok S (fun vs H Q E h => h.1) fun cdv A outer s H vs Q E hr hsp => ?_
 obtain ⟨hlen, Hf, ds, d, ss, rp, e, kk⟩ := hsp
 obtain ⟨fl, e1, e2⟩ := xbm e
 refine ⟨_, hb cdv A outer s H E hr _ fl e1 H Hf, Hf, ⟨Grow.refl ss, start_slots rp⟩, ?_⟩
 cases fl with
 | rt d' => cases e2; exact fun v H' Hf' g r => kk v H' Hf' g r
 | nx ρ => cases e2; exact fun σ' H' Hf' a _ => kk _ H' Hf' a.gr rfl
 | bk ρ => cases e2
 | ct ρ => cases e2
end G
namespace G
open PySem PySem.Spec PyProof.Rows L2
def SIt : Bool → Heap → Addr → Addr → Nat → Prop
 | true => Heap.IsTupleIter
 | false => Heap.IsListIter
def SSq : Bool → Heap → Addr → Array Value → Prop
 | true => Heap.IsTuple
 | false => Heap.IsList
section
variable {prog : Program} {w : World} {A : Around} {E : Value → Shared → Prop} {s : Shared} {t t1 t2 : Bool}
theorem SIt.ext {h h' : Heap} {it l : Addr} {k : Nat} (x : SIt t h it l k) (e : ∀ o, h.get? it = some o → h'.get? it = some o) : SIt t h' it l k := by
 cases t with
 | true => obtain ⟨o, ho, r⟩ := x; exact ⟨o, e o ho, r⟩
 | false => obtain ⟨o, ho, r⟩ := x; exact ⟨o, e o ho, r⟩
theorem SSq.ext {h h' : Heap} {l : Addr} {xs : Array Value} (x : SSq t h l xs) (e : ∀ o, h.get? l = some o → h'.get? l = some o) : SSq t h' l xs := by
 cases t with
 | true => obtain ⟨o, ho, r⟩ := x; exact ⟨o, e o ho, r⟩
 | false => obtain ⟨o, ho, r⟩ := x; exact ⟨o, e o ho, r⟩
theorem SIt.lt {h : Heap} {it l : Addr} {k : Nat} (x : SIt t h it l k) : it < h.objs.size := by
 cases t with
 | true => obtain ⟨o, ho, _⟩ := x; exact Heap.lt_size ho
 | false => obtain ⟨o, ho, _⟩ := x; exact Heap.lt_size ho
theorem tupit_next {it l : Addr} {k : Nat} {xs : Array Value} {x : Value} {Q : Value → Shared → Prop} (hit : s.heap.IsTupleIter it l k) (hl : s.heap.IsTuple l xs) (hx : xs[k]? = some x)
  (hQ : ∀ h', h'.IsTupleIter it l (k + 1) → Heap.SameBut it s.heap h' → Q x { s with heap := h' }) : wpAny (model prog w) A (Builtin.SmallTypes.nextOf (.ref it)) Q E s := by
 obtain ⟨o, ho, hc, hd⟩ := id hit; obtain ⟨ol, hol, _, nl, hdl⟩ := hl; unfold Builtin.SmallTypes.nextOf
 refine wpAny_bind (wpAny_callSpecial?_slot (name := Str.ofString "__next__") hit.typeIs F.slot_tuple_iterator_next (wpAny_call_entry F.slot_tuple_iterator_next hit.typeIs F.entry_tuple_iterator_next ?_ (F.args_tuple_iterator_next_1 _)))
 show wpAny _ _ (field (.ref it) 0 >>= _) _ _ s; refine wpAny_bind (wpAny_field ho hd (x := .ref l) rfl ?_); show wpAny _ _ (if (Value.ref l == Value.none) = true then _ else _) _ _ s
 rw [if_neg (show ¬ ((Value.ref l == Value.none) = true) from Bool.false_ne_true)]; show wpAny _ _ (field (.ref it) 1 >>= _) _ _ s
 refine wpAny_bind (wpAny_field ho hd (x := .int k 0) rfl ?_); show wpAny _ _ (seqItems? (.ref l) >>= _) _ _ s; refine wpAny_bind (wpAny_seqItems hol hdl ?_); simp only [Int.toNat_natCast, hx]
 refine wpAny_bind (wpAny_setField ho hd (by simp) (wpAny_pure ⟨x, rfl, wpAny_pure (hQ _ ⟨_, Heap.get?_update_self _ ho (Obj.isFreed_of_fields (Obj.data_mapFields hd _)), (Obj.cls_mapFields ..).trans hc, ?_⟩ (Heap.SameBut.update ..))⟩))
 rw [Obj.data_mapFields hd]; simp [rawInt]
theorem tupit_end {it l : Addr} {k : Nat} {xs : Array Value} {Q : Value → Shared → Prop} (hh : A.handled = none) (hit : s.heap.IsTupleIter it l k) (hl : s.heap.IsTuple l xs) (hx : xs[k]? = none)
  (hE : ∀ h' e, Heap.ExtBut it s.heap h' → (∃ o, h'.get? e = some o ∧ o.cls = .type "StopIteration") → E (.ref e) { s with heap := h' }) : wpAny (model prog w) A (Builtin.SmallTypes.nextOf (.ref it)) Q E s := by
 obtain ⟨o, ho, hc, hd⟩ := id hit; obtain ⟨ol, hol, _, nl, hdl⟩ := hl; unfold Builtin.SmallTypes.nextOf
 refine wpAny_bind (wpAny_callSpecial?_slot (name := Str.ofString "__next__") hit.typeIs F.slot_tuple_iterator_next (wpAny_call_entry F.slot_tuple_iterator_next hit.typeIs F.entry_tuple_iterator_next ?_ (F.args_tuple_iterator_next_1 _)))
 show wpAny _ _ (field (.ref it) 0 >>= _) _ _ s; refine wpAny_bind (wpAny_field ho hd (x := .ref l) rfl ?_); show wpAny _ _ (if (Value.ref l == Value.none) = true then _ else _) _ _ s
 rw [if_neg (show ¬ ((Value.ref l == Value.none) = true) from Bool.false_ne_true)]; show wpAny _ _ (field (.ref it) 1 >>= _) _ _ s
 refine wpAny_bind (wpAny_field ho hd (x := .int k 0) rfl ?_); show wpAny _ _ (seqItems? (.ref l) >>= _) _ _ s; refine wpAny_bind (wpAny_seqItems hol hdl ?_); simp only [Int.toNat_natCast, hx]
 refine wpAny_bind (wpAny_rule (wpAny_bind (wpAny_setField ho hd (by simp) ?_))); show wpAny _ _ (newExc (.type "StopIteration") [] >>= _) _ _ _; refine wpAny_bind ?_; simp only [newExc, newTuple]
 refine wpAny_bind (wpAny_newObj_type ?_ (by size_fits)); refine wpAny_bind (m := firstArgMember _ _) (wpAny_of_eq (a := Value.none) (by first | rfl | (simp only [firstArgMember]; rfl)) ?_); refine wpAny_newObj_type ?_ (by size_fits)
 simp only [raiseNew]; refine wpAny_bind (wpAny_handled ?_); first | rw [show A.in1.handled = none from hh] | rw [hh]
 refine wpAny_bind (wpAny_pure (wpAny_throw ?_)); exact hE _ _ (((Heap.SameBut.update ..).extBut.push _).push _) ⟨_, Heap.get?_push_size _ rfl, rfl⟩
theorem sit_next {it l : Addr} {k : Nat} {xs : Array Value} {x : Value} {Q : Value → Shared → Prop} (hit : SIt t s.heap it l k) (hl : SSq t s.heap l xs) (hx : xs[k]? = some x)
  (hQ : ∀ h', SIt t h' it l (k + 1) → Heap.SameBut it s.heap h' → Q x { s with heap := h' }) : wpAny (model prog w) A (Builtin.SmallTypes.nextOf (.ref it)) Q E s := by
 cases t with
 | true => exact tupit_next hit hl hx hQ
 | false => exact wpAny_nextOf_list_item hit hl hx hQ
theorem sit_end {it l : Addr} {k : Nat} {xs : Array Value} {Q : Value → Shared → Prop} (hh : A.handled = none) (hit : SIt t s.heap it l k) (hl : SSq t s.heap l xs) (hx : xs[k]? = none)
  (hE : ∀ h' e, Heap.ExtBut it s.heap h' → (∃ o, h'.get? e = some o ∧ o.cls = .type "StopIteration") → E (.ref e) { s with heap := h' }) : wpAny (model prog w) A (Builtin.SmallTypes.nextOf (.ref it)) Q E s := by
 cases t with
 | true => exact tupit_end hh hit hl hx hE
 | false => exact wpAny_nextOf_list_end hh hit hl hx hE
theorem szip_item {z TI TO i1 i2 l1 l2 : Addr} {k1 k2 : Nat} {xs ys : Array Value} {x y a b : Value} {Q : Value → Shared → Prop} (Z : ZipApart z TI TO i1 i2 l1 l2)
  (hz : IsZip s.heap z TI TO .none) (hTI : IsPair s.heap TI (.ref i1) (.ref i2)) (hTO : IsPair s.heap TO a b) (h1 : SIt t1 s.heap i1 l1 k1) (h2 : SIt t2 s.heap i2 l2 k2) (hl1 : SSq t1 s.heap l1 xs) (hl2 : SSq t2 s.heap l2 ys) (hx : xs[k1]? = some x) (hy : ys[k2]? = some y)
  (hQ : ∀ h', IsZip h' z TI TO (rawInt s.heap.objs.size) → IsPair h' TO x y → SIt t1 h' i1 l1 (k1 + 1) → SIt t2 h' i2 l2 (k2 + 1) → IsPair h' s.heap.objs.size x y → h'.objs.size = s.heap.objs.size + 1 →
   (∀ c o, c ≠ z → c ≠ TO → c ≠ i1 → c ≠ i2 → s.heap.get? c = some o → h'.get? c = some o) → Q (.ref s.heap.objs.size) { s with heap := h' }) :
  wpAny (model prog w) A (Builtin.«zip.__next__» ⟨[.ref z], []⟩) (fun fin s' => ∃ v, fin = .done (.ret v) ∧ Q v s') E s := by
 show wpAny _ _ (field (.ref z) 2 >>= _) _ _ _; refine wpAny_bind (wpAny_field hz rfl (x := .bool false) rfl ?_); show wpAny _ _ (field (.ref z) 3 >>= _) _ _ _; refine wpAny_bind (wpAny_field hz rfl (x := .ref TI) rfl ?_)
 refine wpAny_bind (wpAny_seqItems hTI rfl ?_); show wpAny _ _ (Builtin.SmallTypes.ownedTupleIsFree (.ref z) >>= _) _ _ _; refine wpAny_bind ?_; unfold Builtin.SmallTypes.ownedTupleIsFree
 refine wpAny_bind (wpAny_field hz rfl (x := .none) rfl (wpAny_pure ?_)); simp only [if_true]; refine wpAny_bind (wpAny_rule ?_); refine wpAny_bind (wpAny_field hz rfl (x := .ref TO) rfl ?_)
 refine wpAny_bind (wpAny_setField_rec hz (by simp) fun ha za sa => ?_); have za' : IsZip ha z TI TO .ellipsis := za
 refine wpAny_bind ?_; simp only [List.zipIdx_cons, List.zipIdx_nil, List.forIn_cons, List.forIn_nil]; refine wpAny_bind (wpAny_bind (wpAny_onRaise ?_)); show wpAny _ _ (Builtin.SmallTypes.nextOf (.ref i1) >>= _) _ _ _
 refine wpAny_bind (sit_next (h1.ext fun o e => sa.extBut _ _ Z.i1z e) (hl1.ext fun o e => sa.extBut _ _ Z.l1z e) hx fun hb h1b sb => wpAny_pure ?_)
 have hTOb : IsPair hb TO a b := sb.extBut _ _ Z.TOi1 (sa.extBut _ _ Z.TOz hTO)
 refine wpAny_bind (wpAny_seqItems hTOb rfl ?_); refine wpAny_bind (wpAny_updateSeq_pair hTOb fun hcc TOc sc => ?_); have TOc' : IsPair hcc TO x b := TOc
 refine wpAny_bind (wpAny_letGo (wpAny_pure ?_)); refine wpAny_bind (wpAny_bind (wpAny_onRaise ?_)); show wpAny _ _ (Builtin.SmallTypes.nextOf (.ref i2) >>= _) _ _ _
 refine wpAny_bind (sit_next (((h2.ext fun o e => sa.extBut _ _ Z.i2z e).ext fun o e => sb.extBut _ _ Z.i12.symm e).ext fun o e => sc.extBut _ _ Z.TOi2.symm e) (((hl2.ext fun o e => sa.extBut _ _ Z.l2z e).ext fun o e => sb.extBut _ _ Z.l2i1 e).ext fun o e => sc.extBut _ _ Z.l2TO e) hy fun hd h2d sd => wpAny_pure ?_)
 have hTOd : IsPair hd TO x b := sd.extBut _ _ Z.TOi2 TOc'
 refine wpAny_bind (wpAny_seqItems hTOd rfl ?_); refine wpAny_bind (wpAny_updateSeq_pair hTOd fun he TOe se => ?_); have TOe' : IsPair he TO x y := TOe
 refine wpAny_bind (wpAny_letGo (wpAny_pure (wpAny_pure ?_))); refine wpAny_bind (wpAny_seqItems TOe' rfl ?_); refine wpAny_bind (wpAny_newTuple ?_)
 have sz : he.objs.size = s.heap.objs.size := by rw [se.1, sd.1, sc.1, sb.1, sa.1]
 have ze : IsZip he z TI TO .ellipsis := se.extBut _ _ Z.TOz.symm (sd.extBut _ _ Z.i2z.symm (sc.extBut _ _ Z.TOz.symm (sb.extBut _ _ Z.i1z.symm za')))
 have ke : ∀ c o, c ≠ z → c ≠ TO → c ≠ i1 → c ≠ i2 → s.heap.get? c = some o → he.get? c = some o := fun c o c1 c2 c3 c4 e => se.extBut _ _ c2 (sd.extBut _ _ c4 (sc.extBut _ _ c2 (sb.extBut _ _ c3 (sa.extBut _ _ c1 e))))
 have h1e : SIt t1 he i1 l1 (k1 + 1) := ((h1b.ext fun o e => sc.extBut _ _ Z.TOi1.symm e).ext fun o e => sd.extBut _ _ Z.i12 e).ext fun o e => se.extBut _ _ Z.TOi1.symm e
 have h2e : SIt t2 he i2 l2 (k2 + 1) := h2d.ext fun o e => se.extBut _ _ Z.TOi2.symm e
 have zlt : z < he.objs.size := Heap.lt_size ze
 show wpAny _ _ (Builtin.SmallTypes.ownedTupleHandOut (.ref z) (.ref he.objs.size) >>= _) _ _ _; refine wpAny_bind ?_; unfold Builtin.SmallTypes.ownedTupleHandOut
 have zf : IsZip (he.push { cls := .type "tuple", data := .seq #[x, y] }) z TI TO .ellipsis := Heap.get?_push_of_some _ ze
 refine wpAny_bind (wpAny_setField_rec zf (by simp) fun hg zg sg => ?_); have zg' : IsZip hg z TI TO (rawInt he.objs.size) := zg
 refine wpAny_setField_rec zg' (by simp) fun hi zi si => ?_; have zi' : IsZip hi z TI TO (rawInt he.objs.size) := zi
 have up : ∀ c o, c ≠ z → he.get? c = some o → hi.get? c = some o := fun c o c1 e => si.extBut _ _ c1 (sg.extBut _ _ c1 (Heap.get?_push_of_some _ e))
 have hT : IsPair hi he.objs.size x y := si.extBut _ _ (Nat.ne_of_gt zlt) (sg.extBut _ _ (Nat.ne_of_gt zlt) (Heap.get?_push_size _ rfl))
 have szi : hi.objs.size = he.objs.size + 1 := by rw [si.1, sg.1, Heap.size_push]
 rw [sz] at zi' hT szi
 refine wpAny_pure ⟨_, rfl, ?_⟩; show Q (.ref he.objs.size) _; rw [sz]
 exact hQ hi zi' (up _ _ Z.TOz TOe') (h1e.ext fun o e => up _ o Z.i1z e) (h2e.ext fun o e => up _ o Z.i2z e) hT szi fun c o c1 c2 c3 c4 e => up c o c1 (ke c o c1 c2 c3 c4 e)
theorem szip_end {z TI TO i1 i2 l1 l2 : Addr} {k1 k2 : Nat} {xs ys : Array Value} {a b : Value} {Q : Fin → Shared → Prop} (hh : A.handled = none) (Z : ZipApart z TI TO i1 i2 l1 l2)
  (hz : IsZip s.heap z TI TO .none) (hTI : IsPair s.heap TI (.ref i1) (.ref i2)) (hTO : IsPair s.heap TO a b) (h1 : SIt t1 s.heap i1 l1 k1) (h2 : SIt t2 s.heap i2 l2 k2) (hl1 : SSq t1 s.heap l1 xs) (hl2 : SSq t2 s.heap l2 ys) (hend : xs[k1]? = none ∨ ys[k2]? = none)
  (hE : ∀ h' e, (∀ c o, c ≠ z → c ≠ TO → c ≠ i1 → c ≠ i2 → s.heap.get? c = some o → h'.get? c = some o) → (∃ o, h'.get? e = some o ∧ o.cls = .type "StopIteration") → E (.ref e) { s with heap := h' }) :
  wpAny (model prog w) A (Builtin.«zip.__next__» ⟨[.ref z], []⟩) Q E s := by
 show wpAny _ _ (field (.ref z) 2 >>= _) _ _ _; refine wpAny_bind (wpAny_field hz rfl (x := .bool false) rfl ?_); show wpAny _ _ (field (.ref z) 3 >>= _) _ _ _; refine wpAny_bind (wpAny_field hz rfl (x := .ref TI) rfl ?_)
 refine wpAny_bind (wpAny_seqItems hTI rfl ?_); show wpAny _ _ (Builtin.SmallTypes.ownedTupleIsFree (.ref z) >>= _) _ _ _; refine wpAny_bind ?_; unfold Builtin.SmallTypes.ownedTupleIsFree
 refine wpAny_bind (wpAny_field hz rfl (x := .none) rfl (wpAny_pure ?_)); simp only [if_true]; refine wpAny_bind (wpAny_rule ?_); refine wpAny_bind (wpAny_field hz rfl (x := .ref TO) rfl ?_)
 refine wpAny_bind (wpAny_setField_rec hz (by simp) fun ha za sa => ?_); have za' : IsZip ha z TI TO .ellipsis := za
 refine wpAny_bind ?_; simp only [List.zipIdx_cons, List.zipIdx_nil, List.forIn_cons, List.forIn_nil]; refine wpAny_bind (wpAny_bind (wpAny_onRaise ?_)); show wpAny _ _ (Builtin.SmallTypes.nextOf (.ref i1) >>= _) _ _ _
 cases hx : xs[k1]? with
 | none =>
  refine wpAny_bind (sit_end hh (h1.ext fun o e => sa.extBut _ _ Z.i1z e) (hl1.ext fun o e => sa.extBut _ _ Z.l1z e) hx fun hb e sb he => ?_)
  obtain ⟨oe, hoe, hce⟩ := he; have zb : IsZip hb z TI TO .ellipsis := sb _ _ Z.i1z.symm za'; have hez : e ≠ z := fun q => by subst q; rw [zb] at hoe; cases hoe; simp at hce
  exact wpAny_setField_rec zb (by simp) fun hcc _ sc => hE hcc e (fun c o c1 _ c3 _ q => sc.extBut _ _ c1 (sb _ _ c3 (sa.extBut _ _ c1 q))) ⟨oe, sc.extBut _ _ hez hoe, hce⟩
 | some x =>
  have hy : ys[k2]? = none := by rcases hend with h | h; rw [hx] at h; cases h; exact h
  refine wpAny_bind (sit_next (h1.ext fun o e => sa.extBut _ _ Z.i1z e) (hl1.ext fun o e => sa.extBut _ _ Z.l1z e) hx fun hb h1b sb => wpAny_pure ?_)
  have hTOb : IsPair hb TO a b := sb.extBut _ _ Z.TOi1 (sa.extBut _ _ Z.TOz hTO)
  refine wpAny_bind (wpAny_seqItems hTOb rfl ?_); refine wpAny_bind (wpAny_updateSeq_pair hTOb fun hcc TOc sc => ?_)
  refine wpAny_bind (wpAny_letGo (wpAny_pure ?_)); refine wpAny_bind (wpAny_bind (wpAny_onRaise ?_)); show wpAny _ _ (Builtin.SmallTypes.nextOf (.ref i2) >>= _) _ _ _
  refine wpAny_bind (sit_end hh (((h2.ext fun o e => sa.extBut _ _ Z.i2z e).ext fun o e => sb.extBut _ _ Z.i12.symm e).ext fun o e => sc.extBut _ _ Z.TOi2.symm e) (((hl2.ext fun o e => sa.extBut _ _ Z.l2z e).ext fun o e => sb.extBut _ _ Z.l2i1 e).ext fun o e => sc.extBut _ _ Z.l2TO e) hy fun hd e sd he => ?_)
  obtain ⟨oe, hoe, hce⟩ := he; have zd : IsZip hd z TI TO .ellipsis := sd _ _ Z.i2z.symm (sc.extBut _ _ Z.TOz.symm (sb.extBut _ _ Z.i1z.symm za')); have hez : e ≠ z := fun q => by subst q; rw [zd] at hoe; cases hoe; simp at hce
  exact wpAny_setField_rec zd (by simp) fun hf _ sf => hE hf e (fun c o c1 c2 c3 c4 q => sf.extBut _ _ c1 (sd _ _ c4 (sc.extBut _ _ c2 (sb.extBut _ _ c3 (sa.extBut _ _ c1 q))))) ⟨oe, sf.extBut _ _ hez hoe, hce⟩
theorem snext_item {z TI TO i1 i2 l1 l2 : Addr} {k1 k2 : Nat} {xs ys : Array Value} {x y a b : Value} {Q : Option Value → Shared → Prop} (Z : ZipApart z TI TO i1 i2 l1 l2)
  (hz : IsZip s.heap z TI TO .none) (hTI : IsPair s.heap TI (.ref i1) (.ref i2)) (hTO : IsPair s.heap TO a b) (h1 : SIt t1 s.heap i1 l1 k1) (h2 : SIt t2 s.heap i2 l2 k2) (hl1 : SSq t1 s.heap l1 xs) (hl2 : SSq t2 s.heap l2 ys) (hx : xs[k1]? = some x) (hy : ys[k2]? = some y)
  (hQ : ∀ h', IsZip h' z TI TO (rawInt s.heap.objs.size) → IsPair h' TO x y → SIt t1 h' i1 l1 (k1 + 1) → SIt t2 h' i2 l2 (k2 + 1) → IsPair h' s.heap.objs.size x y → h'.objs.size = s.heap.objs.size + 1 →
   (∀ c o, c ≠ z → c ≠ TO → c ≠ i1 → c ≠ i2 → s.heap.get? c = some o → h'.get? c = some o) → Q (some (.ref s.heap.objs.size)) { s with heap := h' }) : wpAny (model prog w) A (pyNext (.ref z)) Q E s := by
 have hT : s.TypeIs (.ref z) "zip" := ⟨_, hz, rfl⟩
 unfold pyNext
 refine wpAny_bind (wpAny_attempt (wpAny_callSpecial?_slot (name := Str.ofString "__next__") hT F.slot_zip_next (wpAny_call_entry F.slot_zip_next hT F.entry_zip_next (szip_item Z hz hTI hTO h1 h2 hl1 hl2 hx hy ?_) (F.args_zip_next_1 _))))
 exact fun h' a1 a2 a3 a4 a5 a6 a7 => wpAny_pure (hQ h' a1 a2 a3 a4 a5 a6 a7)
theorem snext_end {z TI TO i1 i2 l1 l2 : Addr} {k1 k2 : Nat} {xs ys : Array Value} {a b : Value} {Q : Option Value → Shared → Prop} (hh : A.handled = none) (Z : ZipApart z TI TO i1 i2 l1 l2)
  (hz : IsZip s.heap z TI TO .none) (hTI : IsPair s.heap TI (.ref i1) (.ref i2)) (hTO : IsPair s.heap TO a b) (h1 : SIt t1 s.heap i1 l1 k1) (h2 : SIt t2 s.heap i2 l2 k2) (hl1 : SSq t1 s.heap l1 xs) (hl2 : SSq t2 s.heap l2 ys) (hend : xs[k1]? = none ∨ ys[k2]? = none)
  (hQ : ∀ h', (∀ c o, c ≠ z → c ≠ TO → c ≠ i1 → c ≠ i2 → s.heap.get? c = some o → h'.get? c = some o) → Q none { s with heap := h' }) : wpAny (model prog w) A (pyNext (.ref z)) Q E s := by
 have hT : s.TypeIs (.ref z) "zip" := ⟨_, hz, rfl⟩
 unfold pyNext
 refine wpAny_bind (wpAny_attempt (wpAny_callSpecial?_slot (name := Str.ofString "__next__") hT F.slot_zip_next (wpAny_call_entry F.slot_zip_next hT F.entry_zip_next (szip_end hh Z hz hTI hTO h1 h2 hl1 hl2 hend fun h' e hk he => ?_) (F.args_zip_next_1 _))))
 obtain ⟨o, ho, hc⟩ := he
 exact wpAny_bind (wpAny_isInstance (T := "StopIteration") (b := true) ⟨o, ho, hc⟩ isSubtype_stop (wpAny_pure (hQ _ hk)))
def itObj (t : Bool) (l : Addr) : Obj := { cls := .type (if t then "tuple_iterator" else "list_iterator"), data := .fields #[.ref l, .int 0 0] }
theorem sit_new {h : Heap} {l : Addr} (t : Bool) : SIt t (h.push (itObj t l)) h.objs.size l 0 := by
 cases t with
 | true => exact ⟨_, Heap.get?_push_size _ rfl, rfl, rfl⟩
 | false => exact ⟨_, Heap.get?_push_size _ rfl, rfl, rfl⟩
theorem sit_iter {l : Addr} {xs : Array Value} {Q : Value → Shared → Prop} (hl : SSq t s.heap l xs) (hQ : Q (.ref s.heap.objs.size) { s with heap := s.heap.push (itObj t l) }) : wpAny (model prog w) A (pyIter (.ref l)) Q E s := by
 cases t with
 | true => exact wpAny_pyIter_tuple hl hQ
 | false => exact wpAny_pyIter_list hl hQ
end
end G
namespace G
open PySem PySem.Spec PyProof.Rows L2
abbrev zp1 (h : Heap) (t1 : Bool) (l1 : Addr) : Heap := h.push (itObj t1 l1)
abbrev zp2 (h : Heap) (t1 t2 : Bool) (l1 l2 : Addr) : Heap := (zp1 h t1 l1).push (itObj t2 l2)
abbrev zp3 (h : Heap) (t1 t2 : Bool) (l1 l2 : Addr) : Heap := (zp2 h t1 t2 l1 l2).push { cls := .type "tuple", data := .seq #[.ref h.objs.size, .ref (zp1 h t1 l1).objs.size] }
abbrev zp4 (h : Heap) (t1 t2 : Bool) (l1 l2 : Addr) : Heap := (zp3 h t1 t2 l1 l2).push { cls := .type "tuple", data := .seq #[.none, .none] }
abbrev zp5 (h : Heap) (t1 t2 : Bool) (l1 l2 : Addr) : Heap := (zp4 h t1 t2 l1 l2).push { cls := .type "zip", data := .fields #[.none, .bool false, .bool false, .ref (zp2 h t1 t2 l1 l2).objs.size, .ref (zp3 h t1 t2 l1 l2).objs.size] }
theorem szip_new (l1 l2 : Addr) (xs ys : Array Value) (t1 t2 : Bool) :
  Meets (Builtin.«zip.__new__» ⟨[.type "zip", .ref l1, .ref l2], []⟩) (fun _ R s => SSq t1 s.heap l1 xs ∧ SSq t2 s.heap l2 ys ∧ ∀ h', IsZip h' (s.heap.objs.size + 4) (s.heap.objs.size + 2) (s.heap.objs.size + 3) .none → IsPair h' (s.heap.objs.size + 2) (.ref s.heap.objs.size) (.ref (s.heap.objs.size + 1)) →
   IsPair h' (s.heap.objs.size + 3) .none .none → SIt t1 h' s.heap.objs.size l1 0 → SIt t2 h' (s.heap.objs.size + 1) l2 0 → (∀ c o, s.heap.get? c = some o → h'.get? c = some o) → R (.ok (.ret (.ref (s.heap.objs.size + 4)))) { s with heap := h' }) :=
 .of_wp fun prog w A R s h => by
  obtain ⟨hp, g, d, tk, os⟩ := s
  obtain ⟨hl1, hl2, h⟩ := h
  have hsub := sub_zip
  have q1 : SSq t1 (Shared.heap ⟨hp, g, d, tk, os⟩) l1 xs := hl1
  have q2 : SSq t2 (Shared.heap ⟨hp.push (itObj t1 l1), g, d, tk, os⟩) l2 ys := SSq.ext hl2 fun o e => Heap.get?_push_of_some _ e
  wp_walk using sit_iter q1, sit_iter q2
  refine ⟨_, rfl, ?_⟩
  have z1 : (zp1 hp t1 l1).objs.size = hp.objs.size + 1 := Heap.size_push ..
  have z2 : (zp2 hp t1 t2 l1 l2).objs.size = hp.objs.size + 2 := by rw [Heap.size_push, z1]
  have z3 : (zp3 hp t1 t2 l1 l2).objs.size = hp.objs.size + 3 := by rw [Heap.size_push, z2]
  have z4 : (zp4 hp t1 t2 l1 l2).objs.size = hp.objs.size + 4 := by rw [Heap.size_push, z3]
  show R (.ok (.ret (.ref (zp4 hp t1 t2 l1 l2).objs.size))) ⟨zp5 hp t1 t2 l1 l2, g, d, tk, os⟩
  rw [z4]
  have g5 : (zp5 hp t1 t2 l1 l2).get? (zp4 hp t1 t2 l1 l2).objs.size = some _ := Heap.get?_push_size _ rfl
  have g4 : (zp5 hp t1 t2 l1 l2).get? (zp3 hp t1 t2 l1 l2).objs.size = some _ := Heap.get?_push_of_some _ (Heap.get?_push_size _ rfl)
  have g3 : (zp5 hp t1 t2 l1 l2).get? (zp2 hp t1 t2 l1 l2).objs.size = some _ := Heap.get?_push_of_some _ (Heap.get?_push_of_some _ (Heap.get?_push_size _ rfl))
  rw [z4, z2, z3] at g5
  rw [z3] at g4
  rw [z2, z1] at g3
  have k1 : ∀ c o, hp.get? c = some o → (zp5 hp t1 t2 l1 l2).get? c = some o := fun c o e => Heap.get?_push_of_some _ (Heap.get?_push_of_some _ (Heap.get?_push_of_some _ (Heap.get?_push_of_some _ (Heap.get?_push_of_some _ e))))
  have s1 : SIt t1 (zp5 hp t1 t2 l1 l2) hp.objs.size l1 0 := (sit_new (h := hp) (l := l1) t1).ext fun o e => Heap.get?_push_of_some _ (Heap.get?_push_of_some _ (Heap.get?_push_of_some _ (Heap.get?_push_of_some _ e)))
  have s2 : SIt t2 (zp5 hp t1 t2 l1 l2) (zp1 hp t1 l1).objs.size l2 0 := (sit_new (h := zp1 hp t1 l1) (l := l2) t2).ext fun o e => Heap.get?_push_of_some _ (Heap.get?_push_of_some _ (Heap.get?_push_of_some _ e))
  rw [z1] at s2
  exact h _ g5 g3 g4 s1 s2 k1
section
variable {prog : Program} {w : World} {A : Around} {E : Value → Shared → Prop} {s : Shared} {t1 t2 : Bool}
theorem szip_call {l1 l2 : Addr} {xs ys : Array Value} {Q : Value → Shared → Prop} (hl1 : SSq t1 s.heap l1 xs) (hl2 : SSq t2 s.heap l2 ys)
  (h : ∀ h', IsZip h' (s.heap.objs.size + 4) (s.heap.objs.size + 2) (s.heap.objs.size + 3) .none → IsPair h' (s.heap.objs.size + 2) (.ref s.heap.objs.size) (.ref (s.heap.objs.size + 1)) →
   IsPair h' (s.heap.objs.size + 3) .none .none → SIt t1 h' s.heap.objs.size l1 0 → SIt t2 h' (s.heap.objs.size + 1) l2 0 → (∀ c o, s.heap.get? c = some o → h'.get? c = some o) → Q (.ref (s.heap.objs.size + 4)) { s with heap := h' }) :
  wpAny (model prog w) A (call (.type "zip") [.ref l1, .ref l2]) Q E s := by
 refine callType_new F.called_zip (by decide) (F.typeCall_zip_2 _ _) (F.newCall_zip_2 _ _) (fun obj => F.args_object_init_3 obj _ _) F.entry_zip_new (szip_new l1 l2 xs ys t1 t2) ⟨hl1, hl2, fun h' a1 a2 a3 a4 a5 a6 => ?_⟩
 exact ⟨⟨_, a1, rfl⟩, h h' a1 a2 a3 a4 a5 a6⟩
end
def Itz (K : PySem.W.Frag) (t1 t2 : Bool) (a1 a2 : Addr) : It :=
  ⟨fun i H => ∃ xs ys x y, Sq K t1 H a1 xs ∧ Sq K t2 H a2 ys ∧ xs[i]? = some x ∧ ys[i]? = some y,
   fun i H v H' => ∃ T x y, v = .ref T ∧ H T = none ∧ H' = upd H T (.tup [x, y]) ∧ (∀ xs, Sq K t1 H a1 xs → xs[i]? = some x) ∧ ∀ ys, Sq K t2 H a2 ys → ys[i]? = some y,
   fun i H => ∃ xs ys, Sq K t1 H a1 xs ∧ Sq K t2 H a2 ys ∧ (xs.length ≤ i ∨ ys.length ≤ i)⟩
theorem sq_inj {X : Cx} {pins : List (Addr × Obj)} {σ : L2.St} {H : Hp} {s : Shared} {t : Bool} {a : Addr} {xs ys : List V} (I : Inv X pins σ H s) (h : Sq X.K t H a xs) (h' : Sq X.K t H a ys) : xs = ys := by
 cases t with
 | true => exact I.tuple_inj h h'
 | false => exact I.list_inj h h'
theorem sq_heap {X : Cx} {pins : List (Addr × Obj)} {σ : L2.St} {H : Hp} {s : Shared} {t : Bool} {a : Addr} {xs : List V} (I : Inv X pins σ H s) (h : Sq X.K t H a xs) : ∃ its : List Value, Vals xs its ∧ SSq t s.heap a its.toArray ∧ a < s.heap.objs.size := by
 cases t with
 | true =>
  obtain ⟨its, r, p, _⟩ := I.tuple h
  exact ⟨its, r, p, by obtain ⟨o, ho, _⟩ := p; exact Heap.lt_size ho⟩
 | false =>
  obtain ⟨its, r, p, _⟩ := I.list h
  exact ⟨its, r, p.isList, by obtain ⟨o, ho, _⟩ := p.isList; exact Heap.lt_size ho⟩
end G
namespace G
open PySem PySem.Spec PyProof.Rows L2
theorem inv_turned_laid {X : Cx} {pins : List (Addr × Obj)} {σ : L2.St} {H : Hp} {s : Shared} {h' : Heap} {t' : Nat} {ch : List Addr} {T : Addr} {o : HO} (I : Inv X pins σ H s) (hf : ∀ b ∈ ch, FpOk X pins H b) (hT : s.heap.objs.size ≤ T)
  (k : ∀ b u, b ∉ ch → s.heap.get? b = some u → h'.get? b = some u) (new : ObjOk X.prog X.w (upd H T o) h' T o) : Inv X pins σ (upd H T o) { s with heap := h', toks := t' } := by
 have hn : H T = none := I.hok.fresh hT
 have neT : ∀ b u, s.heap.get? b = some u → b ≠ T := fun b u e => Nat.ne_of_lt (Nat.lt_of_lt_of_le (Heap.lt_size e) hT)
 have nch : ∀ b u, H b = some u → b ∉ ch := fun b u e z => by rw [(hf b z).1] at e; cases e
 refine I.step (g' := s.gens) (d' := s.drawn) (ch := ch) (fun b hb => ⟨(hf b hb).2.2.2.1, (hf b hb).2.1, (hf b hb).2.2.2.2.1, (hf b hb).2.2.2.2.2⟩) (fun b u _ _ hc e _ => k b u hc e) (fun b u _ _ hc e _ => ⟨u.slots, k b u hc e⟩)
  (fun b u _ e n => by rw [upd_ne (neT b u e)]; exact n) (fun b u hc e => ⟨u, k b u hc e⟩) (fun b xs e => by rw [upd_ne (ne_of_none e hn)]; exact e) (fun b ob u e => by rw [upd_ne (ne_of_none e hn)]; exact e)
  (fun b ps e => ⟨#[], by rw [upd_ne (ne_of_none e hn), e]; simp⟩) (fun m hm => ?_) (fun b u e => ?_) I.bare
 ·obtain ⟨ob, es, ep, ho, r⟩ := hm
  exact ⟨ob, es, ep, k _ ob (fun z => (hf _ z).2.1 rfl) ho, r⟩
 ·by_cases hb : b = T
  ·subst hb; rw [upd_same] at e; cases e; exact new
  ·rw [upd_ne hb] at e
   refine (I.hok b u e).stay (fun c v hc q => k c v ?_ q) (fun c q => by rw [upd_ne (ne_of_none q hn)]; exact q) fun c xs q => by rw [upd_ne (ne_of_none q hn)]; exact q
   rcases hc with z | z
   ·rw [z]; exact nch b u e
   ·exact nch c _ z
theorem inv_turned {X : Cx} {pins : List (Addr × Obj)} {σ : L2.St} {H : Hp} {s : Shared} {h' : Heap} {t' : Nat} {ch : List Addr} (I : Inv X pins σ H s) (hf : ∀ b ∈ ch, FpOk X pins H b)
  (k : ∀ b u, b ∉ ch → s.heap.get? b = some u → h'.get? b = some u) : Inv X pins σ H { s with heap := h', toks := t' } := by
 have nch : ∀ b u, H b = some u → b ∉ ch := fun b u e z => by rw [(hf b z).1] at e; cases e
 refine I.step (g' := s.gens) (d' := s.drawn) (ch := ch) (fun b hb => ⟨(hf b hb).2.2.2.1, (hf b hb).2.1, (hf b hb).2.2.2.2.1, (hf b hb).2.2.2.2.2⟩) (fun b u _ _ hc e _ => k b u hc e) (fun b u _ _ hc e _ => ⟨u.slots, k b u hc e⟩)
  (fun b u _ e n => n) (fun b u hc e => ⟨u, k b u hc e⟩) (fun b xs e => e) (fun b ob u e => e) (fun b ps e => ⟨#[], by rw [e]; simp⟩) (fun m hm => ?_) (fun b u e => ?_) I.bare
 ·obtain ⟨ob, es, ep, ho, r⟩ := hm
  exact ⟨ob, es, ep, k _ ob (fun z => (hf _ z).2.1 rfl) ho, r⟩
 ·refine (I.hok b u e).stay (fun c v hc q => k c v ?_ q) (fun c q => q) fun c xs q => q
  rcases hc with z | z
  ·rw [z]; exact nch b u e
  ·exact nch c _ z
theorem turn_zip {P : Program} {w : World} {K : PySem.W.Frag} {elts : List Expr} {k0 : Nat} {pos : Pos} {t1 t2 : Bool} {z TI TO i1 i2 a1 a2 : Addr} (Z : ZipApart z TI TO i1 i2 a1 a2) :
  Turn P w K (.Tuple elts k0 pos) (Itz K t1 t2 a1 a2) [z, TI, TO, i1, i2] z (fun i h => IsZip h z TI TO .none ∧ IsPair h TI (.ref i1) (.ref i2) ∧ (∃ a b, IsPair h TO a b) ∧ SIt t1 h i1 a1 i ∧ SIt t2 h i2 a2 i) where
 mem := by simp
 obj := fun i h ⟨hz, hTI, ⟨a, b, hTO⟩, h1, h2⟩ c hc => by
  simp only [List.mem_cons, List.not_mem_nil, or_false] at hc
  rcases hc with rfl | rfl | rfl | rfl | rfl
  ·exact ⟨_, hz, fun v q => by cases q⟩
  ·exact ⟨_, hTI, fun v q => by cases q⟩
  ·exact ⟨_, hTO, fun v q => by cases q⟩
  ·cases t1 with
   | true => obtain ⟨o, ho, _, hd⟩ := h1; exact ⟨o, ho, fun v q => by rw [hd] at q; cases q⟩
   | false => obtain ⟨o, ho, _, hd⟩ := h1; exact ⟨o, ho, fun v q => by rw [hd] at q; cases q⟩
  ·cases t2 with
   | true => obtain ⟨o, ho, _, hd⟩ := h2; exact ⟨o, ho, fun v q => by rw [hd] at q; cases q⟩
   | false => obtain ⟨o, ho, _, hd⟩ := h2; exact ⟨o, ho, fun v q => by rw [hd] at q; cases q⟩
 keep := fun i h h' ⟨hz, hTI, ⟨a, b, hTO⟩, h1, h2⟩ hk => ⟨hk z (by simp) _ hz, hk TI (by simp) _ hTI, ⟨a, b, hk TO (by simp) _ hTO⟩, h1.ext fun o e => hk i1 (by simp) o e, h2.ext fun o e => hk i2 (by simp) o e⟩
 item := by
  intro X hP hw hK hc i pins s σ H E I hf ⟨hz, hTI, ⟨a, b, hTO⟩, h1, h2⟩ hg
  subst hP hw hK
  obtain ⟨xs, ys, x, y, q1, q2, ex, ey⟩ := hg
  obtain ⟨us, r1, p1, lt1⟩ := sq_heap I q1
  obtain ⟨ws, r2, p2, lt2⟩ := sq_heap I q2
  obtain ⟨ux, eux, rx⟩ := r1.get ex
  obtain ⟨uy, euy, ry⟩ := r2.get ey
  refine snext_item Z hz hTI hTO h1 h2 p1 p2 (x := ux) (y := uy) (by simpa using eux) (by simpa using euy) fun h' b1 b2 b3 b4 b5 b6 b7 => ⟨_, rfl, wpAny_letOwnedTupleGo_zip b1 fun h'' c1 c2 => ?_⟩
  have neT : ∀ c o, s.heap.get? c = some o → c ≠ s.heap.objs.size := fun c o e => Nat.ne_of_lt (Heap.lt_size e)
  have up : ∀ c o, c ≠ z → h'.get? c = some o → h''.get? c = some o := fun c o n e => c2.extBut c o n e
  refine ⟨.ref s.heap.objs.size, upd H s.heap.objs.size (.tup [x, y]), inv_turned_laid (s := s) (h' := h'') (t' := s.toks) (ch := [z, TI, TO, i1, i2]) I hf (Nat.le_refl _) (fun c u hc e => ?_) ?_, rfl, ⟨_, x, y, rfl, I.hok.fresh (Nat.le_refl _), rfl, fun zs hz' => by rw [sq_inj I hz' q1]; exact ex, fun zs hz' => by rw [sq_inj I hz' q2]; exact ey⟩, ⟨c1, ?_, ⟨_, _, up TO _ Z.TOz b2⟩, b3.ext fun o e => up i1 o Z.i1z e, b4.ext fun o e => up i2 o Z.i2z e⟩, fun c hc => ?_⟩
  ·simp only [List.mem_cons, List.not_mem_nil, or_false, not_or] at hc
   exact up c u hc.1 (b7 c u hc.1 hc.2.2.1 hc.2.2.2.1 hc.2.2.2.2 e)
  ·refine ⟨by show 2 ≤ sizeLine; decide, [ux, uy], .cons rx (.cons ry .nil), _, up _ _ ?_ b5, rfl, _, rfl⟩
   exact fun q => neT z _ hz q.symm
  ·exact up TI _ Z.TIz (b7 TI _ Z.TIz Z.TITO Z.TIi1 Z.TIi2 hTI)
  ·have e : c < s.heap.objs.size := by
    simp only [List.mem_cons, List.not_mem_nil, or_false] at hc
    rcases hc with rfl | rfl | rfl | rfl | rfl
    ·exact Heap.lt_size hz
    ·exact Heap.lt_size hTI
    ·exact Heap.lt_size hTO
    ·exact h1.lt
    ·exact h2.lt
   rw [upd_ne (Nat.ne_of_lt e)]
   exact (hf c hc).1
 done := by
  intro X hP hw hK hc i pins s σ H E I hf ⟨hz, hTI, ⟨a, b, hTO⟩, h1, h2⟩ hg
  subst hP hw hK
  obtain ⟨xs, ys, q1, q2, hl⟩ := hg
  obtain ⟨us, r1, p1, lt1⟩ := sq_heap I q1
  obtain ⟨ws, r2, p2, lt2⟩ := sq_heap I q2
  have l1 := r1.length
  have l2 := r2.length
  refine snext_end (I.ok.hd hc) Z hz hTI hTO h1 h2 p1 p2 ?_ fun h' hk => ⟨rfl, inv_turned (t' := s.toks) (ch := [z, TI, TO, i1, i2]) I hf fun c u hc e => ?_⟩
  ·rcases hl with h | h
   ·left; simp; omega
   ·right; simp; omega
  ·simp only [List.mem_cons, List.not_mem_nil, or_false, not_or] at hc
   exact hk c u hc.1 hc.2.2.1 hc.2.2.2.1 hc.2.2.2.2 e
 self := fun _ _ _ _ _ st h => wpAny_pyIter_zip st.1 h
section
variable {X : Cx}
def iZip (f g : Rho → Option (Bool × List D)) : Rho → Option (List D) := fun ρ => (f ρ).bind fun p => (g ρ).bind fun q => some ((p.2.zip q.2).map fun (x, y) => PyData.tuple [x, y])
theorem yields_zip {K : PySem.W.Frag} {t1 t2 : Bool} {a1 a2 : Addr} {vs us : List V} {ds es : List D} {Hf1 : Hp} (h1 : Sq K t1 Hf1 a1 vs) (h2 : Sq K t2 Hf1 a2 us) (r1 : Reps K Hf1 ds vs) (r2 : Reps K Hf1 es us) :
  Yields K (Itz K t1 t2 a1 a2) ((ds.zip es).map fun (x, y) => PyData.tuple [x, y]) Hf1 := by
 have mono : ∀ {t : Bool} {a : Addr} {xs : List V} {H H' : Hp}, Same H H' → Sq K t H a xs → Sq K t H' a xs := fun {t a xs H H'} e h => by
  cases t with
  | true => exact sqT_mono e h
  | false => exact sqL_mono e h
 intro i H Hf sa sb
 have m1 := mono (sa.trans sb) h1
 have m2 := mono (sa.trans sb) h2
 have l1 := r1.length
 have l2 := r2.length
 refine ⟨fun hi => ⟨vs, us, m1, m2, ?_⟩, fun d hd => ?_⟩
 ·simp at hi; omega
 ·rw [List.getElem?_map] at hd
  obtain ⟨⟨x, y⟩, q1, q2⟩ := Option.map_eq_some_iff.mp hd
  subst q2
  obtain ⟨q1, q2⟩ := List.getElem?_zip_eq_some.mp q1
  obtain ⟨vx, e1, e2⟩ := r1.get q1
  obtain ⟨vy, e3, e4⟩ := r2.get q2
  refine ⟨⟨vs, us, vx, vy, m1, m2, e1, e3⟩, fun v H' ⟨T, x', y', z1, z2, z3, z4, z5⟩ => ?_⟩
  subst z1 z3
  have w1 := z4 vs m1
  have w2 := z5 us m2
  rw [e1] at w1
  rw [e3] at w2
  cases w1
  cases w2
  have nf : Hf T = none := sb.free z2
  refine ⟨upd Hf T (.tup [vx, vy]), Grow.laid sb z2, T, [vx, vy], rfl, SqT.of upd_same, vx, [vy], rfl, (e2.mono sa).mono (same_upd nf), vy, [], rfl, (e4.mono sa).mono (same_upd nf), rfl⟩
theorem ji_zip {elts : List Expr} {k0 : Nat} {tpos : Pos} {a b : Expr} {f g : DE} {p pos : Pos} (hg : Gl X "zip") (hm : X.mg "zip" = none) (ha : JE X a f) (hb : JE X b g) (hs : starEach [a, b] X.env = [(false, eval a X.env), (false, eval b X.env)] := by rfl) (hs2 : starEach [b] X.env = [(false, eval b X.env)] := by rfl) :
  JI X (.Tuple elts k0 tpos) (.Call (.Name "zip" p) [a, b] [] pos) (iZip (qE f) (qE g)) := fun ρ out q => by
 obtain ⟨⟨t1, ds⟩, e1, q⟩ := xbm q
 obtain ⟨⟨t2, es⟩, e2, q⟩ := xbm q
 cases q
 obtain ⟨d1, e1, e1'⟩ := xbm e1
 obtain ⟨d2, e2, e2'⟩ := xbm e2
 intro pins s σ H R I ⟨H0, Hf, ss, sl, k⟩
 refine Call_ (ld_blt I hg hm bb_zip (PyProof.Rows.callWith_type1 (thn (pa_cons (ha ρ d1 e1) (pa_cons (hb ρ d2 e2) pa_nil hs2) (by rw [hs, hs2]) pos pins s σ H
  (fun vs H' => ∃ v u Hf', vs = [v, u] ∧ Grow H Hf H' Hf' ∧ Rep X.K Hf' d1 v ∧ Rep X.K Hf' d2 u) I ⟨H0, Hf, ss, sl, fun v H1 Hf1 g1 r1 => ⟨H0, Hf1, g1.sub, sl.grow g1, fun u H2 Hf2 g2 r2 => ⟨v, u, Hf2, rfl, g1.trans g2, r1.mono g2.ext, r2⟩⟩⟩) fun us s1 ⟨vs, H1, I1, r1, v, u, Hf1, ev, gr, p1, p2⟩ => ?_) (by rw [hs, hs2]) (by rw [hs2]; rfl)))
 subst ev
 obtain ⟨uv, uu, rfl, rv, ru⟩ := vals2 r1
 obtain ⟨a1, vs1, rfl, w1, w2⟩ := p1.seq (Same.refl Hf1) e1'
 obtain ⟨a2, vs2, rfl, w3, w4⟩ := p2.seq (Same.refl Hf1) e2'
 cases rv
 cases ru
 have mono : ∀ {t : Bool} {a : Addr} {xs : List V} {H H' : Hp}, Same H H' → Sq X.K t H a xs → Sq X.K t H' a xs := fun {t a xs H H'} e h => by
  cases t with
  | true => exact sqT_mono e h
  | false => exact sqL_mono e h
 obtain ⟨us1, rr1, hp1, lt1⟩ := sq_heap I1 (mono gr.sub w1)
 obtain ⟨us2, rr2, hp2, lt2⟩ := sq_heap I1 (mono gr.sub w3)
 refine szip_call hp1 hp2 fun h' b1 b2 b3 b4 b5 b6 => ?_
 have I2 : Inv X pins σ H1 { s1 with heap := h' } := I1.kept (t' := s1.toks) b6
 refine wpAny_pyIter_zip b1 ⟨_, _, _, _, H1, rfl, I2, turn_zip (zipApart_new lt1 lt2), ⟨b1, b2, ⟨_, _, b3⟩, b4, b5⟩, fun b hb => ?_, k _ H1 Hf1 gr (yields_zip w1 w3 w2 w4)⟩
 have hb' : s1.heap.objs.size ≤ b := by
  simp only [List.mem_cons, List.not_mem_nil, or_false] at hb
  rcases hb with rfl | rfl | rfl | rfl | rfl
  ·exact Nat.le_add_right _ _
  ·exact Nat.le_add_right _ _
  ·exact Nat.le_add_right _ _
  ·exact Nat.le_refl _
  ·exact Nat.le_add_right _ _
 exact I1.fpOk hb' (I1.hok.fresh hb')
end
end G
namespace G
open PySem PySem.Spec PyProof.Rows L2
theorem noMul_tuple : fillsNumberSlot (.type "tuple") "mul" = pure false := PySem.fillsNumberSlot_seq (id := "tuple.__mul__") (r := some (.builtin "tuple.__rmul__")) F.slot_tuple_mul.lookup (by decide +kernel) F.slot_tuple_rmul.lookup (by decide +kernel)
theorem rep_tuple : seqRepeat? (.type "tuple") = pure (some (.builtin "tuple.__mul__")) := by
 unfold seqRepeat?
 rw [PySem.seqSlot_of (T := "tuple") (name := "__mul__") (id := "tuple.__mul__") F.slot_tuple_mul.lookup (by decide +kernel), PySem.seqSlot_of (T := "tuple") (name := "__rmul__") (id := "tuple.__rmul__") F.slot_tuple_rmul.lookup (by decide +kernel)]; rfl
theorem rmul_int_tup (a : Int) (t : Tok) (l : Addr) (items : Array Value) (n : Nat) (dd : Option Addr) (sl : Array (Option Value)) :
  Meets (Builtin.«int.__rmul__» ⟨[.int a t, .ref l], []⟩) (fun _ R s => s.heap.get? l = some ⟨.type "tuple", dd, .seq items n, sl⟩ ∧ R (.ok (.ret Value.notImplemented)) s) :=
 .of_wp fun prog w A R s h => by obtain ⟨hp, g, d, tk, os⟩ := s; obtain ⟨hl, h⟩ := h; wp_walk; exact ⟨_, rfl, h⟩
theorem rep_eq (items : Array Value) (k : Nat) : List.foldl (fun x1 x2 => x1 ++ x2) #[] (List.replicate k items) = (List.replicate k items.toList).flatten.toArray := by
 have := foldl_rep items.toList k []
 rw [List.nil_append] at this
 simpa using this
theorem mul_tup_new (l : Addr) (items : Array Value) (n : Nat) (dd : Option Addr) (sl : Array (Option Value)) (x : Int) (u : Tok) (h2 : 2 ≤ x) (h3 : x < 1000000) (he : items.isEmpty = false) (hz : items.size * x.toNat ≤ sizeLine) :
  Meets (Builtin.«tuple.__mul__» ⟨[.ref l, .int x u], []⟩) (fun _ R s => s.heap.get? l = some ⟨.type "tuple", dd, .seq items n, sl⟩ ∧ R (.ok (.ret (Value.ref s.heap.objs.size))) { s with heap := s.heap.push { cls := Value.type "tuple", data := Data.seq (List.foldl (fun x1 x2 => x1 ++ x2) #[] (List.replicate x.toNat items)) } }) :=
 .of_wp fun prog w A R s h => by
  obtain ⟨hp, g, d, tk, os⟩ := s
  obtain ⟨hl, h⟩ := h
  have hm : (items.size : Int) * x ≤ 16777216 := by
   have e : ((items.size * x.toNat : Nat) : Int) = (items.size : Int) * x := by rw [Int.natCast_mul, Int.toNat_of_nonneg (by omega)]
   have : items.size * x.toNat ≤ 16777216 := by rw [← sizeLine_eq]; exact hz
   omega
  wp_walk
  refine wpAny_ite_false (by simp; omega) ?_
  have ht : Heap.IsTuple (Shared.heap ⟨hp, g, d, tk, os⟩) l items := ⟨_, hl, rfl, n, rfl⟩
  refine wpAny_bind (tupleItemsOf_ ht ?_)
  refine wpAny_ite_false (by rw [he]; simp; omega) ?_
  show wpAny _ _ (if (decide (x ≤ 0) || items.isEmpty) = true then _ else _) _ _ _
  refine wpAny_ite_false (by rw [he]; simp; omega) ?_
  show wpAny _ _ (if (items.size : Int) * x > (2 ^ 63 - 1) / 8 then _ else _) _ _ _
  rw [if_neg (by omega)]
  show wpAny _ _ (if Builtin.Tuple.tupleTooMany ((items.size : Int) * x) = true then _ else _) _ _ _
  rw [if_neg (by unfold Builtin.Tuple.tupleTooMany; rw [sizeLine_eq]; simp; omega)]
  refine wpAny_bind (m := Builtin.Tuple.tupleExact _) (wpAny_newObj_type (wpAny_pure ⟨_, rfl, h⟩) ?_)
  show (List.foldl (fun x1 x2 => x1 ++ x2) #[] (List.replicate x.toNat items)).size ≤ sizeLine
  rw [rep_eq items x.toNat, List.size_toArray, len_rep, Array.length_toList, Nat.mul_comm]
  exact hz
section
variable {X : Cx}
theorem op_repT : OpR X (binaryOp .Mult) (fun x y H Q => ∃ l k xs, x = .ref l ∧ y = .int k ∧ SqT X.K H l xs ∧ xs ≠ [] ∧ 2 ≤ k ∧ k < 1000000 ∧ xs.length * k.toNat ≤ sizeLine ∧ ∀ p, H p = none → Q (.ref p) (upd H p (.tup (List.replicate k.toNat xs).flatten))) := by
 intro pins s σ H x y v u Q I rx ry h
 obtain ⟨l, k, xs, rfl, rfl, hq, hx, h2, h3, hz, q⟩ := h
 cases rx
 obtain ⟨t, rfl⟩ := ry
 obtain ⟨its, r, p1, _⟩ := I.tuple hq
 obtain ⟨⟨cls, dd, data, sl⟩, ho, hc, n, hd⟩ := id p1
 simp only at hc hd
 subst hc hd
 have hl := r.length
 have he : its.toArray.isEmpty = false := by
  cases its with
  | nil => exact absurd (r.nil_iff.mp rfl) hx
  | cons a b => rfl
 refine wpAny_binaryOp_repeat_ref (T := "tuple") (U := "int") (by decide) ⟨_, ho, rfl⟩ (fun s' => typeIs_int s' k t) noMul_tuple F.fills_int_mul F.slot_int_rmul rep_tuple F.slot_int_index.lookup
  (call_meets F.slot_int_rmul (typeIs_int s k t) F.entry_int_rmul (F.args_int_rmul_2 _ _) (rmul_int_tup k t l its.toArray n dd sl) ⟨ho, rfl, ⟨_, ho, rfl⟩,
   call_meets F.slot_tuple_mul ⟨_, ho, rfl⟩ F.entry_tuple_mul (F.args_tuple_mul_2 _ _) (mul_tup_new l its.toArray n dd sl k t h2 h3 he (by rw [List.size_toArray, ← hl]; exact hz)) ⟨ho, ?_⟩⟩)
 rw [rep_eq]
 refine ⟨.ref _, _, I.laid (t' := s.toks) (o := .tup (List.replicate k.toNat xs).flatten) (fun b ob q => Heap.get?_push_of_some _ q) (Nat.le_refl _) ⟨?_, _, r.rep k.toNat, IsTup.new _ _⟩, rfl, q _ (I.hok.fresh (Nat.le_refl _))⟩
 rw [len_rep, Nat.mul_comm]; exact hz
def mulD (x y : D) : Option D := match x, y with
 | .int i, .int j => if Small i ∧ Small j then some (.int (i * j)) else none
 | .tuple xs, .int k => if xs.isEmpty = false ∧ 2 ≤ k ∧ k < 1000000 ∧ xs.length * k.toNat ≤ 16777216 then some (.tuple (List.replicate k.toNat xs).flatten) else none
 | _, _ => none
theorem od_mulD : OpD X (binaryOp .Mult) mulD := fun x y z h => by
 unfold mulD at h
 split at h
 ·exact od_mul _ _ z (by unfold mulI; exact h)
 ·split at h
  ·rename_i xs k c
   cases h
   refine OpR.imp op_repT fun vx vy H Q ⟨Hf, s, r1, r2, kk⟩ => ?_
   obtain ⟨a, vs, rfl, h2, h3⟩ := r1
   refine ⟨a, k, vs, rfl, r2, sqT_mono s h2, ?_, c.2.1, c.2.2.1, by rw [h3.length, sizeLine_eq]; exact c.2.2.2, fun p hp => ?_⟩
   ·intro e
    subst e
    have := h3.length
    cases xs with
    | nil => exact absurd c.1 (by simp)
    | cons a b => simp at this
   ·exact kk _ _ _ (Grow.laid s hp) ⟨p, _, rfl, SqT.of upd_same, (h3.flatten k.toNat).mono (same_upd (s.free hp))⟩
  ·cases h
 ·cases h
def dNeg (f : DE) : DE := fun ρ => (f ρ).bind fun d => match d with
 | .int i => some (.int (-i))
 | _ => none
theorem je_neg {a : Expr} {f : DE} {pos : Pos} (h : JE X a f) : JE X (.UnaryOp .USub a pos) (dNeg f) := fun ρ d q => by
 obtain ⟨x, e1, e2⟩ := xbm q
 cases x with
 | int i =>
  cases e2
  exact pe_imp (pe_un un_neg (h ρ _ e1)) fun σ H Q ⟨H0, Hf, s, sl, k⟩ => ⟨H0, Hf, s, sl, fun v H1 Hf1 g1 r1 => ⟨_, r1, k _ H1 Hf1 g1 rfl⟩⟩
 | _ => cases e2
def isB (x y : D) : Option D := match y with
 | .bool b => (match x with
  | .bool c => some (.bool (c == b))
  | .dict _ => none
  | _ => some (.bool false))
 | .none => isN x .none
 | _ => none
def notB (x y : D) : Option D := match y with
 | .bool b => (match x with
  | .bool c => some (.bool (!(c == b)))
  | .dict _ => none
  | _ => some (.bool true))
 | .none => notN x .none
 | _ => none
theorem od_is : OpD X (compareOp .Is) isB := fun x y z h => by
 cases y with
 | none => exact od_isN x .none z h
 | bool b =>
  intro pins s σ H vx vy v u Q I rx ry ⟨Hf, ss, r1, r2, k⟩
  cases r2
  cases ry
  have fin : ∀ c, z = .bool c → (v == Value.bool b) = c → EP X pins σ Q (.bool (v == Value.bool b)) s := fun c e1 e2 => by
   rw [e2]; subst e1; exact ⟨.bl c, H, I, rfl, k _ H Hf (Grow.refl ss) rfl⟩
  cases x with
  | none => cases r1; cases rx; cases h; exact wpAny_is_plain rfl (fin _ rfl rfl)
  | bool c => cases r1; cases rx; cases h; exact wpAny_is_plain rfl (fin _ rfl (by cases c <;> cases b <;> rfl))
  | int i => cases r1; obtain ⟨t, rfl⟩ := rx; cases h; exact wpAny_is_plain rfl (fin _ rfl rfl)
  | str i => cases r1; obtain ⟨t, rfl⟩ := rx; cases h; exact wpAny_is_plain rfl (fin _ rfl rfl)
  | tuple ds => obtain ⟨a, vs, rfl, _⟩ := r1; cases rx; cases h; exact wpAny_is_plain rfl (fin _ rfl rfl)
  | list ds => obtain ⟨a, vs, rfl, _⟩ := r1; cases rx; cases h; exact wpAny_is_plain rfl (fin _ rfl rfl)
  | dict ds => cases h
 | _ => cases h
theorem od_isnot : OpD X (compareOp .IsNot) notB := fun x y z h => by
 cases y with
 | none => exact od_notN x .none z h
 | bool b =>
  intro pins s σ H vx vy v u Q I rx ry ⟨Hf, ss, r1, r2, k⟩
  cases r2
  cases ry
  have fin : ∀ c, z = .bool c → (!(v == Value.bool b)) = c → EP X pins σ Q (.bool (!(v == Value.bool b))) s := fun c e1 e2 => by
   rw [e2]; subst e1; exact ⟨.bl c, H, I, rfl, k _ H Hf (Grow.refl ss) rfl⟩
  cases x with
  | none => cases r1; cases rx; cases h; exact wpAny_isNot_plain rfl (fin _ rfl rfl)
  | bool c => cases r1; cases rx; cases h; exact wpAny_isNot_plain rfl (fin _ rfl (by cases c <;> cases b <;> rfl))
  | int i => cases r1; obtain ⟨t, rfl⟩ := rx; cases h; exact wpAny_isNot_plain rfl (fin _ rfl rfl)
  | str i => cases r1; obtain ⟨t, rfl⟩ := rx; cases h; exact wpAny_isNot_plain rfl (fin _ rfl rfl)
  | tuple ds => obtain ⟨a, vs, rfl, _⟩ := r1; cases rx; cases h; exact wpAny_isNot_plain rfl (fin _ rfl rfl)
  | list ds => obtain ⟨a, vs, rfl, _⟩ := r1; cases rx; cases h; exact wpAny_isNot_plain rfl (fin _ rfl rfl)
  | dict ds => cases h
 | _ => cases h
def KRep (K : PySem.W.Frag) (d : D) (u : Value) : Prop := ∃ v, RelV v u ∧ ∀ H : Hp, Rep K H d v
theorem je_glb {x : Str} {d : D} {u : Value} {pos : Pos} (r : KRep X.K d u) (hg : Gl X x) (hm : X.mg x = some u) (hd : (x == ("__debug__" : Str)) = false := by decide) : JE X (.Name x pos) (dC d) := fun ρ d' q => by
 cases q
 obtain ⟨v, rv, rp⟩ := r
 exact pe_imp (pe_glob hg hm rv hd) fun σ H Q ⟨H0, Hf, s, sl, k⟩ => k _ H Hf (Grow.refl s) (rp Hf)
def qN (f : Rho → Option (List D)) : Rho → Option (Bool × List D) := fun ρ => (f ρ).map fun ds => (false, ds)
theorem jq_n {e : Expr} {f : Rho → Option (List D)} (h : JN X e f) : JQ X e (qN f) := jq_of_jn h
def dTupN (f : Rho → Option (Bool × List D)) : DE := fun ρ => (f ρ).bind fun q => if q.1 = true then none else some (.tuple q.2)
theorem je_tupN {e : Expr} {f : Rho → Option (Bool × List D)} {p pos : Pos} (hg : Gl X "tuple") (hm : X.mg "tuple" = none) (h : JQ X e f) (he : starEach [e] X.env = [(false, eval e X.env)] := by rfl) : JE X (.Call (.Name "tuple" p) [e] [] pos) (dTupN f) := je_tupOf hg hm h (he := he)
end
end G
namespace G
open PySem PySem.Spec PyProof.Rows L2
theorem add_lists (l b : Addr) (items items2 : Array Value) (n n2 : Nat) (dd dd2 : Option Addr) (sl sl2 : Array (Option Value)) (hz : items.size + items2.size ≤ sizeLine) :
  Meets (Builtin.«list.__add__» ⟨[.ref l, .ref b], []⟩) (fun _ R s => s.heap.get? l = some ⟨.type "list", dd, .seq items n, sl⟩ ∧ s.heap.get? b = some ⟨.type "list", dd2, .seq items2 n2, sl2⟩ ∧ R (.ok (.ret (Value.ref s.heap.objs.size))) { s with heap := s.heap.push { cls := Value.type "list", data := Data.seq (items ++ items2) } }) :=
 .of_wp fun prog w A R s h => by
  obtain ⟨hp, g, d, tk, os⟩ := s
  obtain ⟨hl, hb, h⟩ := h
  have hsub : isSubtype (.type "list") (.type "list") = pure true := by rw [isSubtype_type]; kernel_rfl
  have hsz := hz
  wp_walk
  exact ⟨_, rfl, h⟩
section
variable {X : Cx}
theorem op_catL : OpR X (binaryOp .Add) (fun x y H Q => ∃ a b xs ys, x = .ref a ∧ y = .ref b ∧ SqL X.K H a xs ∧ SqL X.K H b ys ∧ xs.length + ys.length ≤ sizeLine ∧ ∀ p, H p = none → Q (.ref p) (upd H p (.lst (xs ++ ys)))) := by
 intro pins s σ H x y v u Q I rx ry h
 obtain ⟨a, b, xs, ys, rfl, rfl, ha, hb, hz, q⟩ := h
 cases rx
 cases ry
 obtain ⟨its, r1, p1, _⟩ := I.list ha
 obtain ⟨its2, r2, p2, _⟩ := I.list hb
 obtain ⟨⟨cls, dd, data, sl⟩, ho, hc, n, hd⟩ := p1.isList
 obtain ⟨⟨cls2, dd2, data2, sl2⟩, ho2, hc2, n2, hd2⟩ := p2.isList
 simp only at hc hd hc2 hd2
 subst hc hd hc2 hd2
 have l1 := r1.length
 have l2 := r2.length
 refine concat_meets ⟨_, ho, rfl⟩ ⟨_, ho2, rfl⟩ noFill_list_add seq_list_add PySem.F.slot_list_add PySem.F.entry_list_add (PySem.F.args_list_add_2 _ _) (add_lists a b its.toArray its2.toArray n n2 dd dd2 sl sl2 (by simp only [List.size_toArray]; omega)) ⟨ho, ho2, ?_⟩
 have ea : its.toArray ++ its2.toArray = (its ++ its2).toArray := by simp
 rw [ea]
 exact ⟨.ref _, _, I.lnew (t' := s.toks) (r1.append r2) (by rw [List.length_append]; omega), rfl, q _ I.fresh⟩
def catE (x y : D) : Option D := match x, y with
 | .list xs, .list ys => if xs.length + ys.length ≤ 16777216 then some (.list (xs ++ ys)) else none
 | x, y => catD x y
theorem od_catE : OpD X (binaryOp .Add) catE := fun x y z h => by
 unfold catE at h
 split at h
 ·split at h
  ·rename_i c
   cases h
   refine OpR.imp op_catL fun vx vy H Q ⟨Hf, s, r1, r2, k⟩ => ?_
   obtain ⟨a, vs, rfl, h2, h3⟩ := r1
   obtain ⟨b, us, rfl, h5, h6⟩ := r2
   refine ⟨a, b, vs, us, rfl, rfl, sqL_mono s h2, sqL_mono s h5, by rw [h3.length, h6.length, sizeLine_eq]; exact c, fun p hp => ?_⟩
   exact k _ _ _ (Grow.laid s hp) ⟨p, vs ++ us, rfl, SqL.of upd_same, (h3.append h6).mono (same_upd (s.free hp))⟩
  ·cases h
 ·exact od_cat _ _ z h
def dRevT (f : DE) : DE := fun ρ => (f ρ).bind fun d => match d with
 | .tuple xs => some (.tuple xs.reverse)
 | _ => none
end
end G
namespace G
theorem xg0 {α : Type} {a : α} {l : List α} : (a :: l)[0]? = some a := rfl
theorem xg1 {α : Type} {a : α} {i : Nat} {l : List α} : (a :: l)[i + 1]? = l[i]? := rfl
theorem xw0 {α : Type} {a b : α} {l : List α} : (a :: l).set 0 b = b :: l := rfl
theorem xw1 {α : Type} {a b : α} {i : Nat} {l : List α} : (a :: l).set (i + 1) b = a :: l.set i b := rfl
theorem xbs {α β : Type} {a : α} {f : α → Option β} : (some a).bind f = f a := rfl
theorem xms {α β : Type} {a : α} {f : α → β} : (some a).map f = some (f a) := rfl
theorem xca {α : Type} {a : α} {l m : List α} : (a :: l) ++ m = a :: (l ++ m) := rfl
theorem xna {α : Type} {l : List α} : [] ++ l = l := rfl
theorem xmc {α β : Type} {f : α → β} {a : α} {l : List α} : (a :: l).map f = f a :: l.map f := rfl
theorem xmn {α β : Type} {f : α → β} : [].map f = [] := rfl
theorem xnf : (!false) = true := rfl
theorem xnt : (!true) = false := rfl
theorem xft : (false = true) = False := by simp
end G
local macro_rules
  | `(‹$x›) => `(some (G.B.val $x))
noncomputable section
namespace Sh
open PySem PySem.Spec PyProof.Rows L2 G
def G_common_divisor : DS := (sSeq (sWhile (tB2 neD (dVar 1) (dC (.int 0))) (sSeq (sSet 2 (dBin modI (dVar 0) (dVar 1))) (sSeq (sSet 0 (dVar 1)) (sSet 1 (dVar 2))))) (sRet (dVar 0)))
def F_common_divisor : List D → Option D := runD G_common_divisor 3
def G_least_form : DS := (sSeq (sSet 2 (dCall F_common_divisor (aCons (dVar 0) (aCons (dVar 1) aNil)))) (sRet (dTup (aCons (dBin divI (dVar 0) (dVar 2)) (aCons (dBin divI (dVar 1) (dVar 2)) aNil)))))
def F_least_form : List D → Option D := runD G_least_form 3
def G_is_at_most : DS := (sRet (dBin leI (dBin mulD (dIx (qVar 0) (dC (.int 0))) (dIx (qVar 1) (dC (.int 1)))) (dBin mulD (dIx (qVar 1) (dC (.int 0))) (dIx (qVar 0) (dC (.int 1))))))
def F_is_at_most : List D → Option D := runD G_is_at_most 2
def G_added : DS := (sRet (dCall F_least_form (aCons (dBin catD (dBin mulD (dIx (qVar 0) (dC (.int 0))) (dIx (qVar 1) (dC (.int 1)))) (dBin mulD (dIx (qVar 1) (dC (.int 0))) (dIx (qVar 0) (dC (.int 1))))) (aCons (dBin mulD (dIx (qVar 0) (dC (.int 1))) (dIx (qVar 1) (dC (.int 1)))) aNil))))
def F_added : List D → Option D := runD G_added 2
def G_lessened : DS := (sRet (dCall F_least_form (aCons (dBin subI (dBin mulD (dIx (qVar 0) (dC (.int 0))) (dIx (qVar 1) (dC (.int 1)))) (dBin mulD (dIx (qVar 1) (dC (.int 0))) (dIx (qVar 0) (dC (.int 1))))) (aCons (dBin mulD (dIx (qVar 0) (dC (.int 1))) (dIx (qVar 1) (dC (.int 1)))) aNil))))
def F_lessened : List D → Option D := runD G_lessened 2
def G_times : DS := (sRet (dCall F_least_form (aCons (dBin mulD (dIx (qVar 0) (dC (.int 0))) (dIx (qVar 1) (dC (.int 0)))) (aCons (dBin mulD (dIx (qVar 0) (dC (.int 1))) (dIx (qVar 1) (dC (.int 1)))) aNil))))
def F_times : List D → Option D := runD G_times 2
def G_rest_of : DS := (sRet (dCall F_lessened (aCons (dC (.tuple [(.int 1), (.int 1)])) (aCons (dVar 0) aNil))))
def F_rest_of : List D → Option D := runD G_rest_of 1
def G_at_most_one : DS := (sRet (dIte (tTru (dCall F_is_at_most (aCons (dVar 0) (aCons (dC (.tuple [(.int 1), (.int 1)])) aNil)))) (dVar 0) (dC (.tuple [(.int 1), (.int 1)]))))
def F_at_most_one : List D → Option D := runD G_at_most_one 1
def G_blended_cover : DS := (sSeq (sIf (tB2 eqD (dVar 0) (dC (.str "plus"))) (sRet (dCall F_at_most_one (aCons (dCall F_added (aCons (dVar 1) (aCons (dVar 2) aNil))) aNil))) sNil) (sSeq (sIf (tB2 eqD (dVar 0) (dC (.str "atop"))) (sRet (dVar 2)) sNil) (sSeq (sIf (tB2 eqD (dVar 0) (dC (.str "cut"))) (sRet (dCall F_times (aCons (dVar 2) (aCons (dCall F_rest_of (aCons (dVar 1) aNil)) aNil)))) sNil) (sRet (dCall F_lessened (aCons (dCall F_added (aCons (dVar 1) (aCons (dVar 2) aNil))) (aCons (dCall F_times (aCons (dVar 1) (aCons (dVar 2) aNil))) aNil)))))))
def F_blended_cover : List D → Option D := runD G_blended_cover 3
def G_blended_colour : DS := (sSeq (sIf (tB2 eqD (dVar 0) (dC (.str "plus"))) (sRet (dCall F_at_most_one (aCons (dCall F_added (aCons (dVar 3) (aCons (dVar 4) aNil))) aNil))) sNil) (sSeq (sIf (tB2 eqD (dVar 0) (dC (.str "screen"))) (sRet (dCall F_lessened (aCons (dCall F_added (aCons (dVar 3) (aCons (dVar 4) aNil))) (aCons (dCall F_times (aCons (dVar 3) (aCons (dVar 4) aNil))) aNil)))) sNil) (sSeq (sSet 5 (dCall F_times (aCons (dVar 4) (aCons (dCall F_rest_of (aCons (dVar 1) aNil)) aNil)))) (sSeq (sIf (tB2 eqD (dVar 0) (dC (.str "over"))) (sRet (dCall F_added (aCons (dVar 3) (aCons (dVar 5) aNil)))) sNil) (sSeq (sIf (tB2 eqD (dVar 0) (dC (.str "multiply"))) (sRet (dCall F_added (aCons (dCall F_added (aCons (dCall F_times (aCons (dVar 3) (aCons (dVar 4) aNil))) (aCons (dCall F_times (aCons (dVar 3) (aCons (dCall F_rest_of (aCons (dVar 2) aNil)) aNil))) aNil))) (aCons (dVar 5) aNil)))) sNil) (sSeq (sIf (tB2 eqD (dVar 0) (dC (.str "atop"))) (sRet (dCall F_added (aCons (dCall F_times (aCons (dVar 3) (aCons (dVar 2) aNil))) (aCons (dVar 5) aNil)))) sNil) (sRet (dVar 5))))))))
def F_blended_colour : List D → Option D := runD G_blended_colour 6
def G_blended : DS := (sSeq (sSet 3 (dIx (qVar 1) (dC (.int 0)))) (sSeq (sSet 4 (dIx (qVar 2) (dC (.int 0)))) (sSeq (sSetN 5 (nComp 2 [0, 3, 4] (iZip (qE (dSlT (dVar 1) (oSome (dC (.int 1))) oNone)) (qE (dSlT (dVar 2) (oSome (dC (.int 1))) oNone))) (gTupD 2 (gsCons (gSet 0) (gsCons (gSet 1) gsNil))) cTrue (dCall F_blended_colour (aCons (dVar 2) (aCons (dVar 3) (aCons (dVar 4) (aCons (dVar 0) (aCons (dVar 1) aNil)))))))) (sRet (dTup (aCons (dCall F_blended_cover (aCons (dVar 0) (aCons (dVar 3) (aCons (dVar 4) aNil)))) (aCons (dIx (qVar 5) (dC (.int 0))) (aCons (dIx (qVar 5) (dC (.int 1))) (aCons (dIx (qVar 5) (dC (.int 2))) aNil)))))))))
def F_blended : List D → Option D := runD G_blended 6
def G_l_cell : DS := (sSeq (sIf (tB2 eqD (dVar 0) (dLst aNil)) (sRet (dBin mulD (dC (.int 7)) (dVar 1))) sNil) (sRet (dBin catD (dIx (qVar 0) (dBin modI (dVar 1) (dLen (qVar 0)))) (dBin mulD (dC (.int 6553)) (dBin divI (dVar 1) (dLen (qVar 0)))))))
def F_l_cell : List D → Option D := runD G_l_cell 2
def G_l_drawn : DS := (sSeq (sSet 3 (dBin modI (dBin catD (dBin mulD (dBin modI (dCall F_l_cell (aCons (dVar 0) (aCons (dVar 1) aNil))) (dC (.int 2147483563))) (dC (.int 69069))) (dBin mulD (dC (.int 104723)) (dBin catD (dVar 1) (dC (.int 1))))) (dC (.int 2147483563)))) (sSeq (sSet 3 (dBin modI (dBin catD (dBin mulD (dVar 3) (dVar 3)) (dBin divI (dVar 3) (dC (.int 3)))) (dC (.int 2147483399)))) (sRet (dBin modI (dBin divI (dBin modI (dBin catD (dBin mulD (dVar 3) (dVar 3)) (dBin divI (dVar 3) (dC (.int 7)))) (dC (.int 2147483647))) (dC (.int 11))) (dVar 2)))))
def F_l_drawn : List D → Option D := runD G_l_drawn 4
def G_l_made : DS := (sSeq (sSet 2 (dVar 0)) (sSeq (sSet 3 (dVar 1)) (sSeq (sWhile (tB2 gtI (dVar 2) (dC (.int 0))) (sPar 2 3 (aCons (dBin modI (dVar 3) (dVar 2)) (aCons (dVar 2) aNil)))) (sRet (dTup (aCons (dBin divI (dVar 0) (dVar 3)) (aCons (dBin divI (dVar 1) (dVar 3)) aNil)))))))
def F_l_made : List D → Option D := runD G_l_made 4
def G_l_plus : DS := (sRet (dCall F_l_made (aCons (dBin catD (dBin mulD (dIx (qVar 0) (dC (.int 0))) (dIx (qVar 1) (dC (.int 1)))) (dBin mulD (dIx (qVar 1) (dC (.int 0))) (dIx (qVar 0) (dC (.int 1))))) (aCons (dBin mulD (dIx (qVar 0) (dC (.int 1))) (dIx (qVar 1) (dC (.int 1)))) aNil))))
def F_l_plus : List D → Option D := runD G_l_plus 2
def G_l_times : DS := (sRet (dCall F_l_made (aCons (dBin mulD (dIx (qVar 0) (dC (.int 0))) (dIx (qVar 1) (dC (.int 0)))) (aCons (dBin mulD (dIx (qVar 0) (dC (.int 1))) (dIx (qVar 1) (dC (.int 1)))) aNil))))
def F_l_times : List D → Option D := runD G_l_times 2
def G_l_rest : DS := (sRet (dCall F_l_made (aCons (dBin subI (dIx (qVar 0) (dC (.int 1))) (dIx (qVar 0) (dC (.int 0)))) (aCons (dIx (qVar 0) (dC (.int 1))) aNil))))
def F_l_rest : List D → Option D := runD G_l_rest 1
def G_l_share : DS := (sSeq (sSet 2 (dBin catD (dC (.int 1)) (dCall F_l_drawn (aCons (dVar 0) (aCons (dVar 1) (aCons (dC (.int 12)) aNil)))))) (sSeq (sSet 3 (dCall F_l_made (aCons (dCall F_l_drawn (aCons (dVar 0) (aCons (dBin catD (dVar 1) (dC (.int 1))) (aCons (dBin catD (dVar 2) (dC (.int 1))) aNil)))) (aCons (dVar 2) aNil)))) (sRet (dIx (qN (aCons (dVar 3) (aCons (dVar 3) (aCons (dVar 3) (aCons (dTup (aCons (dC (.int 0)) (aCons (dC (.int 1)) aNil))) (aCons (dTup (aCons (dC (.int 1)) (aCons (dC (.int 1)) aNil))) aNil)))))) (dCall F_l_drawn (aCons (dVar 0) (aCons (dBin catD (dVar 1) (dC (.int 2))) (aCons (dC (.int 5)) aNil))))))))
def F_l_share : List D → Option D := runD G_l_share 4
def G_l_spot : DS := (sSeq (sSet 2 (dCall F_l_share (aCons (dVar 0) (aCons (dVar 1) aNil)))) (sRet (dBin catD (dTup (aCons (dVar 2) aNil)) (dTupN (qN (nComp 1 [2, 0, 1] (iRan1 (dC (.int 3))) (gSet 0) cTrue (dCall F_l_times (aCons (dVar 1) (aCons (dCall F_l_share (aCons (dVar 2) (aCons (dBin catD (dBin catD (dVar 3) (dC (.int 3))) (dBin mulD (dC (.int 3)) (dVar 0))) aNil))) aNil)))))))))
def F_l_spot : List D → Option D := runD G_l_spot 3
def G_l_blend : DS := (sSeq (sSet 3 (dIx (qVar 1) (dC (.int 0)))) (sSeq (sSet 4 (dIx (qVar 2) (dC (.int 0)))) (sSeq (sSet 5 (dCall F_l_rest (aCons (dVar 3) aNil))) (sSeq (sIf (tOr2 (tB2 eqD (dVar 0) (dC (.str "atop"))) (tB2 eqD (dVar 0) (dC (.str "cut")))) (sSet 6 (dIx (qN (aCons (dVar 4) (aCons (dCall F_l_times (aCons (dVar 4) (aCons (dVar 5) aNil))) aNil))) (dInt (dBin eqD (dVar 0) (dC (.str "cut")))))) (sSet 6 (dCall F_l_plus (aCons (dVar 3) (aCons (dCall F_l_times (aCons (dVar 4) (aCons (dVar 5) aNil))) aNil))))) (sSeq (sIf (tB2 eqD (dVar 0) (dC (.str "plus"))) (sSet 6 (dCall F_l_plus (aCons (dVar 3) (aCons (dVar 4) aNil)))) sNil) (sSeq (sOwn 7 (aCons (dVar 6) aNil)) (sSeq (sFor (iZip (qE (dSlT (dVar 1) (oSome (dC (.int 1))) oNone)) (qE (dSlT (dVar 2) (oSome (dC (.int 1))) oNone))) (gTupD 2 (gsCons (gSet 8) (gsCons (gSet 9) gsNil))) (sSeq (sSet 10 (dCall F_l_times (aCons (dVar 9) (aCons (dVar 5) aNil)))) (sSeq (sIf (tB2 eqD (dVar 0) (dC (.str "over"))) (sApp 7 (dCall F_l_plus (aCons (dVar 8) (aCons (dVar 10) aNil)))) sNil) (sSeq (sIf (tB2 eqD (dVar 0) (dC (.str "multiply"))) (sApp 7 (dCall F_l_plus (aCons (dCall F_l_times (aCons (dVar 8) (aCons (dVar 9) aNil))) (aCons (dCall F_l_plus (aCons (dCall F_l_times (aCons (dVar 8) (aCons (dCall F_l_rest (aCons (dVar 4) aNil)) aNil))) (aCons (dVar 10) aNil))) aNil)))) sNil) (sSeq (sIf (tB2 eqD (dVar 0) (dC (.str "screen"))) (sApp 7 (dCall F_l_plus (aCons (dVar 8) (aCons (dCall F_l_times (aCons (dVar 9) (aCons (dCall F_l_rest (aCons (dVar 8) aNil)) aNil))) aNil)))) sNil) (sSeq (sIf (tB2 eqD (dVar 0) (dC (.str "plus"))) (sApp 7 (dCall F_l_plus (aCons (dVar 8) (aCons (dVar 9) aNil)))) sNil) (sSeq (sIf (tB2 eqD (dVar 0) (dC (.str "atop"))) (sApp 7 (dCall F_l_plus (aCons (dCall F_l_times (aCons (dVar 8) (aCons (dVar 4) aNil))) (aCons (dVar 10) aNil)))) sNil) (sIf (tB2 eqD (dVar 0) (dC (.str "cut"))) (sApp 7 (dVar 10)) sNil)))))))) (sFrz 7 (sRet (dTupN (qN (nComp 1 [] (iSeq (dVar 7)) (gSet 0) cTrue (dIx (qN (aCons (dVar 0) (aCons (dTup (aCons (dC (.int 1)) (aCons (dC (.int 1)) aNil))) aNil))) (dInt (dBin gtI (dIx (qVar 0) (dC (.int 0))) (dIx (qVar 0) (dC (.int 1))))))))))))))))))
def F_l_blend : List D → Option D := runD G_l_blend 11
def G_is_whole : DS := (sRet (dAnd (dIsi "int" (dVar 0)) (dNot (dIsi "bool" (dVar 0)))))
def F_is_whole : List D → Option D := runD G_is_whole 1
def G_is_share : DS := (sSeq (sIf (tOr2 (tNot2 (tTru (dIsi "tuple" (dVar 0)))) (tB2 neD (dLen (qVar 0)) (dC (.int 2)))) (sRet (dC (.bool false))) sNil) (sSeq (sSet 1 (dIx (qVar 0) (dC (.int 0)))) (sSeq (sSet 2 (dIx (qVar 0) (dC (.int 1)))) (sSeq (sIf (tOr2 (tNot2 (tTru (dCall F_is_whole (aCons (dVar 1) aNil)))) (tNot2 (tTru (dCall F_is_whole (aCons (dVar 2) aNil))))) (sRet (dC (.bool false))) sNil) (sRet (dAnd (dBin gtI (dVar 2) (dC (.int 0))) (dAnd (dChain leI leI (dC (.int 0)) (dVar 1) (dVar 2)) (dBin eqD (dCall F_common_divisor (aCons (dVar 1) (aCons (dVar 2) aNil))) (dC (.int 1))))))))))
def F_is_share : List D → Option D := runD G_is_share 3
def G_is_spot : DS := (sSeq (sIf (tOr2 (tNot2 (tTru (dIsi "tuple" (dVar 0)))) (tB2 neD (dLen (qVar 0)) (dC (.int 4)))) (sRet (dC (.bool false))) sNil) (sSeq (sIf (tNot2 (tTru (dAll (qN (nComp 1 [] (iSeq (dVar 0)) (gSet 0) cTrue (dCall F_is_share (aCons (dVar 0) aNil))))))) (sRet (dC (.bool false))) sNil) (sRet (dAll (qN (nComp 1 [0] (iSeq (dSlT (dVar 0) (oSome (dC (.int 1))) oNone)) (gSet 0) cTrue (dCall F_is_at_most (aCons (dVar 0) (aCons (dIx (qVar 1) (dC (.int 0))) aNil)))))))))
def F_is_spot : List D → Option D := runD G_is_spot 1
def G_by_rule : DS := (sSeq (sSet 2 (dIx (qVar 1) (dC (.int 0)))) (sSeq (sSet 3 (dIx (qVar 1) (dC (.int 1)))) (sSeq (sSet 4 (dIx (qVar 1) (dC (.int 2)))) (sSeq (sSet 5 (dIx (qVar 1) (dC (.int 3)))) (sSeq (sIf (tB2 eqD (dVar 0) (dC (.str "turn"))) (sRet (dTup (aCons (dVar 2) (aCons (dCall F_lessened (aCons (dVar 2) (aCons (dVar 3) aNil))) (aCons (dCall F_lessened (aCons (dVar 2) (aCons (dVar 4) aNil))) (aCons (dCall F_lessened (aCons (dVar 2) (aCons (dVar 5) aNil))) aNil)))))) sNil) (sSeq (sIf (tB2 eqD (dVar 0) (dC (.str "grey"))) (sSeq (sSet 6 (dCall F_times (aCons (dCall F_added (aCons (dCall F_added (aCons (dVar 3) (aCons (dVar 4) aNil))) (aCons (dVar 5) aNil))) (aCons (dC (.tuple [(.int 1), (.int 3)])) aNil)))) (sRet (dTup (aCons (dVar 2) (aCons (dVar 6) (aCons (dVar 6) (aCons (dVar 6) aNil))))))) sNil) (sRet (dTup (aCons (dVar 2) (aCons (dVar 4) (aCons (dVar 5) (aCons (dVar 3) aNil))))))))))))
def F_by_rule : List D → Option D := runD G_by_rule 7
def G_mixed : DS := (sRet (dCall F_added (aCons (dCall F_times (aCons (dVar 0) (aCons (dVar 1) aNil))) (aCons (dCall F_times (aCons (dCall F_rest_of (aCons (dVar 0) aNil)) (aCons (dVar 2) aNil))) aNil))))
def F_mixed : List D → Option D := runD G_mixed 3
def G_toned : DS := (sRet (dTupN (qN (nComp 2 [2] (iZip (qE (dCall F_by_rule (aCons (dVar 0) (aCons (dVar 1) aNil)))) (qE (dVar 1))) (gTupD 2 (gsCons (gSet 0) (gsCons (gSet 1) gsNil))) cTrue (dCall F_mixed (aCons (dVar 2) (aCons (dVar 0) (aCons (dVar 1) aNil))))))))
def F_toned : List D → Option D := runD G_toned 3
def G_l_tone : DS := (sSeq (sAsg (dVar 1) (gTupD 4 (gsCons (gSet 3) (gsCons (gSet 4) (gsCons (gSet 5) (gsCons (gSet 6) gsNil)))))) (sSeq (sSet 7 (dCall F_l_times (aCons (dCall F_l_plus (aCons (dVar 4) (aCons (dCall F_l_plus (aCons (dVar 5) (aCons (dVar 6) aNil))) aNil))) (aCons (dTup (aCons (dC (.int 1)) (aCons (dC (.int 3)) aNil))) aNil)))) (sSeq (sSet 8 (dTup (aCons (dVar 3) (aCons (dVar 7) (aCons (dVar 7) (aCons (dVar 7) aNil)))))) (sSeq (sIf (tB2 eqD (dVar 0) (dC (.str "turn"))) (sSet 8 (dBin catD (dTup (aCons (dVar 3) aNil)) (dTupN (qN (nComp 1 [3] (iSeq (dSlT (dVar 1) (oSome (dC (.int 1))) oNone)) (gSet 0) cTrue (dCall F_l_made (aCons (dBin subI (dBin mulD (dIx (qVar 1) (dC (.int 0))) (dIx (qVar 0) (dC (.int 1)))) (dBin mulD (dIx (qVar 0) (dC (.int 0))) (dIx (qVar 1) (dC (.int 1))))) (aCons (dBin mulD (dIx (qVar 1) (dC (.int 1))) (dIx (qVar 0) (dC (.int 1)))) aNil)))))))) sNil) (sSeq (sIf (tB2 eqD (dVar 0) (dC (.str "round"))) (sSet 8 (dTup (aCons (dVar 3) (aCons (dVar 5) (aCons (dVar 6) (aCons (dVar 4) aNil)))))) sNil) (sSeq (sSet 9 (dCall F_l_rest (aCons (dVar 2) aNil))) (sRet (dTupN (qN (nComp 2 [2, 9] (iZip (qE (dVar 8)) (qE (dVar 1))) (gTupD 2 (gsCons (gSet 0) (gsCons (gSet 1) gsNil))) cTrue (dCall F_l_plus (aCons (dCall F_l_times (aCons (dVar 0) (aCons (dVar 2) aNil))) (aCons (dCall F_l_times (aCons (dVar 1) (aCons (dVar 3) aNil))) aNil)))))))))))))
def F_l_tone : List D → Option D := runD G_l_tone 10
end Sh
namespace G
open PySem PySem.Spec PyProof.Rows L2
section
variable {prog : Program} {w : World} {A : Around} {E : Value → Shared → Prop} {s : Shared}
theorem adjust_rev (n : Nat) : Builtin.Slice.sliceAdjust none none (-1) (n : Int) = ((n : Int) - 1, -1) := by
 unfold Builtin.Slice.sliceAdjust
 have h1 : (-1 : Int) < 0 := by omega
 simp only [h1, if_true]
theorem places_rev (n : Nat) : Builtin.Slice.slicePlaces ((n : Int) - 1) (-1) (-1) = n := by
 unfold Builtin.Slice.slicePlaces
 have h1 : ¬ (-1 : Int) > 0 := by omega
 have h2 : -(-1 : Int) = 1 := by omega
 simp only [h1, if_false, h2, Int.ediv_one]
 split <;> omega
theorem sliceApplied_rev {sl : Addr} {t : Tok} {n : Nat} {Q : Int × Int × Nat → Shared → Prop} (hs : s.heap.IsSliceOf sl .none .none (.int (-1) t))
  (h : Q ((n : Int) - 1, -1, n) s) : wpAny (model prog w) A (Builtin.Slice.sliceApplied (.ref sl) (pure (n : Int))) Q E s := by
 obtain ⟨os, hos, hcs, hds⟩ := id hs
 unfold Builtin.Slice.sliceApplied Builtin.Slice.sliceFields
 refine wpAny_bind (wpAny_bind (wpAny_field hos hds (x := .none) rfl (wpAny_bind (wpAny_field hos hds (x := .none) rfl (wpAny_bind (wpAny_field hos hds (x := .int (-1) t) rfl (wpAny_pure ?_)))))))
 refine wpAny_bind (slicePart_int ?_)
 show wpAny _ _ (if ((-1 : Int) == 0) = true then _ else _) _ _ s
 rw [if_neg (by decide)]
 refine wpAny_bind (slicePart_none (wpAny_bind (slicePart_none (wpAny_bind (wpAny_pure ?_)))))
 show wpAny _ _ (match Builtin.Slice.sliceAdjust none none (-1) (n : Int) with | (lo, hi) => pure (lo, (-1 : Int), Builtin.Slice.slicePlaces lo hi (-1))) _ _ s
 rw [adjust_rev n]
 show wpAny _ _ (pure ((n : Int) - 1, (-1 : Int), Builtin.Slice.slicePlaces ((n : Int) - 1) (-1) (-1))) _ _ s
 rw [places_rev]
 exact wpAny_pure h
theorem pick_all {α : Type} : ∀ l : List α, (List.range l.length).filterMap (fun k => l[k]?) = l
 | [] => rfl
 | a :: l => by
  rw [List.length_cons, List.range_succ_eq_map, List.filterMap_cons, List.filterMap_map]
  simp only [xg0]
  congr 1
  exact pick_all l
theorem fm_congr {α β : Type} {f g : α → Option β} : ∀ {l : List α}, (∀ x ∈ l, f x = g x) → l.filterMap f = l.filterMap g
 | [], _ => rfl
 | a :: l, h => by rw [List.filterMap_cons, List.filterMap_cons, h a (List.mem_cons_self ..), fm_congr fun x hx => h x (List.mem_cons_of_mem _ hx)]
theorem pick_rev (xs : Array Value) : ((List.range xs.size).filterMap fun (k : Nat) => xs[(((xs.size : Int) - 1) + (k : Int) * -1).toNat]?).toArray = xs.toList.reverse.toArray := by
 congr 1
 have e : ∀ k ∈ List.range xs.size, xs[(((xs.size : Int) - 1) + (k : Int) * -1).toNat]? = xs.toList.reverse[k]? := by
  intro k hk
  have hk := List.mem_range.mp hk
  have : (((xs.size : Int) - 1) + (k : Int) * -1).toNat = xs.size - 1 - k := by omega
  rw [this, List.getElem?_reverse (by rw [Array.length_toList]; exact hk), Array.length_toList, Array.getElem?_toList]
 rw [fm_congr e]
 have := pick_all xs.toList.reverse
 rw [List.length_reverse, Array.length_toList] at this
 exact this
theorem getItem_tuple_rev {t sl : Addr} {items : Array Value} {k : Tok} {Q : Value → Shared → Prop} (ht : IsTup s.heap t items) (hs : s.heap.IsSliceOf sl .none .none (.int (-1) k))
  (h : Q (.ref s.heap.objs.size) { s with heap := s.heap.push { cls := .type "tuple", data := .seq items.toList.reverse.toArray } })
  (hsz : items.size ≤ sizeLine) : wpAny (model prog w) A (getItem (.ref t) (.ref sl)) Q E s := by
 have htake : sizeOk (.seq items.toList.reverse.toArray) := by
  show items.toList.reverse.toArray.size ≤ sizeLine
  rw [List.size_toArray, List.length_reverse, Array.length_toList]
  omega
 obtain ⟨os, hos, hcs, hds⟩ := id hs
 have hTs : s.TypeIs (.ref sl) "slice" := ⟨os, hos, hcs⟩
 unfold getItem
 try with_reducible refine wpAny_holding ?_
 first | refine wpAny_bind (wpAny_pure ?_) | skip
 refine wpAny_bind (wpAny_sequenceKey ht.typeIs (by decide) ?_)
 refine wpAny_bind (wpAny_callSpecial?_slot (name := Str.ofString "__getitem__") ht.typeIs PyProof.Rows.slot_tuple_getitem
  (wpAny_call_entry PyProof.Rows.slot_tuple_getitem ht.typeIs entry_tuple_getitem ?_ (args_tuple_getitem _ _)))
 show wpAny _ _ (Builtin.Tuple.tupleItemsOf (.ref t) >>= _) _ _ s
 refine wpAny_bind (tupleItemsOf_ ht ?_)
 refine wpAny_bind (wpAny_typeOf hTs ?_)
 rw [if_pos (by decide)]
 refine wpAny_bind (sliceApplied_rev hs ?_)
 have hno : ¬ ((((items.size : Int) - 1) == 0 && (-1 : Int) == 1 && items.size == items.size) = true) := by
  have : ((-1 : Int) == 1) = false := rfl
  rw [this]; simp
 show wpAny _ _ (if (((items.size : Int) - 1) == 0 && (-1 : Int) == 1 && items.size == items.size) = true then _ else _) _ _ s
 rw [if_neg hno, pick_rev]
 first
  | exact wpAny_bind (m := Builtin.Tuple.tupleExact _) (wpAny_newObj_type (wpAny_pure ⟨_, rfl, wpAny_pure h⟩) htake)
  | exact wpAny_bind (m := Builtin.Tuple.tupleExact _) (wpAny_newObj_type (wpAny_bind (wpAny_pure (wpAny_pure ⟨_, rfl, wpAny_pure h⟩))) htake)
  | exact wpAny_bind (wpAny_bind (m := Builtin.Tuple.tupleExact _) (wpAny_newObj_type (wpAny_pure (wpAny_pure ⟨_, rfl, wpAny_pure h⟩)) htake))
  | exact wpAny_bind (wpAny_bind (m := Builtin.Tuple.tupleExact _) (wpAny_newObj_type (wpAny_pure ⟨_, rfl, wpAny_pure h⟩) htake))
end
section
variable {X : Cx} {e st : Expr} {te ts : TE} {p2 pos : Pos}
theorem vals_rev : ∀ {xs : List V} {us : List Value}, Vals xs us → Vals xs.reverse us.reverse
 | [], [], h => h
 | x :: xs, u :: us, h => by
  cases h with
  | cons a b => rw [List.reverse_cons, List.reverse_cons]; exact (vals_rev b).append (.cons a .nil)
theorem pe_rev (he : PE X e te) (hs : PE X st ts) : PE X (.Subscript e (.Slice none none (some st) p2) pos)
  (fun σ H Q => te σ H fun x H1 => ts σ H1 fun y H2 => ∃ a xs, x = .ref a ∧ y = .int (-1) ∧ SqT X.K H2 a xs ∧ ∀ p, H2 p = none → Q (.ref p) (upd H2 p (.tup xs.reverse))) := by
 intro pins s σ H Q I h
 refine Subscript_ (thn (he pins s σ H _ I h) fun v s1 ⟨x, H1, I1, r1, q1⟩ => ?_)
 refine wpAny_Slice ?_
 rw [evalPart_none]
 refine wpAny_pure (wpAny_pure ?_)
 rw [evalPart_some]
 refine thn (hs pins s1 σ H1 _ I1 q1) fun vs s3 ⟨y, H3, I3, r3, a, xs, e1, e2, hx, q⟩ => ?_
 subst e1 e2
 cases r1
 obtain ⟨tk, rfl⟩ := r3
 have I4 : Inv X pins σ H3 { s3 with heap := s3.heap.push { cls := .type "slice", data := .fields #[.none, .none, .int (-1) tk] } } := I3.kept (t' := s3.toks) fun b ob q => Heap.get?_push_of_some _ q
 obtain ⟨its, r, ht, hz⟩ := I4.tuple hx
 have hlen : its.toArray.size = xs.length := by rw [List.size_toArray]; exact r.length.symm
 show wpAny (model X.prog X.w) X.A (subscriptTail e (.Slice none none (some st) p2) (.ref a) (.ref s3.heap.objs.size)) (EP X pins σ Q) X.xe { s3 with heap := s3.heap.push { cls := .type "slice", data := .fields #[.none, .none, .int (-1) tk] } }
 refine tail_any (ops := [.ref a, .ref s3.heap.objs.size]) ht.typeIs PyProof.Rows.slot_tuple_getitem.lookup ?_ (by with_unfolding_all rfl)
 refine getItem_tuple_rev ht (Heap.IsSliceOf.new ..) ?_ (by rw [hlen]; exact hz)
 refine ⟨.ref _, _, I4.laid (t' := s3.toks) (o := .tup xs.reverse) (fun b ob q => Heap.get?_push_of_some _ q) (Nat.le_refl _) ?_, rfl, q _ (I4.hok.fresh (Nat.le_refl _))⟩
 exact ⟨by rw [List.length_reverse]; exact hz, _, vals_rev r, IsTup.new _ _⟩
theorem reps_rev {K : PySem.W.Frag} {H : Hp} {ds : List D} {vs : List V} (h : Reps K H ds vs) : Reps K H ds.reverse vs.reverse := by
 induction ds generalizing vs with
 | nil => cases vs with
  | nil => exact h
  | cons _ _ => exact absurd h.length (by simp)
 | cons d ds ih => cases vs with
  | nil => exact absurd h.length (by simp)
  | cons v vs =>
   obtain ⟨v', r', e, h1, h2⟩ := h
   cases e
   rw [List.reverse_cons, List.reverse_cons]
   exact (ih h2).append ⟨_, _, rfl, h1, rfl⟩
theorem je_revT {a st : Expr} {f : DE} {pos p2 : Pos} (ha : JE X a f) (hs : JE X st (dNeg (dC (.int 1)))) : JE X (.Subscript a (.Slice none none (some st) p2) pos) (dRevT f) := fun ρ d q => by
 obtain ⟨x, e1, q⟩ := Option.bind_eq_some_iff.mp q
 cases x with
 | tuple xs =>
  cases q
  refine pe_imp (pe_rev (ha ρ _ e1) (hs ρ (.int (-1)) rfl)) fun σ H Q ⟨H0, Hf, s, sl, k⟩ => ?_
  refine ⟨H0, Hf, s, sl, fun v H1 Hf1 g1 ⟨p, vs, q1, q2, q3⟩ => ⟨H0, Hf1, g1.sub, sl.grow g1, fun u H2 Hf2 g2 r2 => ?_⟩⟩
  subst q1
  cases r2
  have q2' := sqT_mono g2.ext q2
  have q3' := q3.mono g2.ext
  refine ⟨p, vs, rfl, rfl, sqT_mono g2.sub q2', fun p' hp => ?_⟩
  exact k _ _ _ ((g1.trans g2).trans (Grow.laid g2.sub hp)) ⟨p', _, rfl, SqT.of upd_same, (reps_rev q3').mono (same_upd (g2.sub.free hp))⟩
 | _ => cases q
end
end G
namespace Sh
open PySem PySem.Spec PyProof.Rows L2 G
def G_weighted : DS := (sRet (dTupN (qN (nComp 1 [1] (iSeq (dVar 0)) (gSet 0) cTrue (dCall F_times (aCons (dVar 0) (aCons (dVar 1) aNil)))))))
def F_weighted : List D → Option D := runD G_weighted 2
end Sh
namespace G
open PySem PySem.Spec PyProof.Rows L2
section
variable {X : Cx}
def atS (x : Str) (i : Int) : Option D := if x.length ≤ 16777216 then (atI x.cps.toList i).map fun c => .str ⟨#[c]⟩ else none
def dIxS (f g : DE) : DE := fun ρ => (f ρ).bind fun x => (g ρ).bind fun i => match x, i with
 | .str x, .int i => atS x i
 | _, _ => none
theorem je_ixS {a b : Expr} {f g : DE} {pos : Pos} (ha : JE X a f) (hb : JE X b g) (hs : PlainIx b := by intro _ _; rfl) : JE X (.Subscript a b pos) (dIxS f g) := fun ρ d q => by
 obtain ⟨x, h1, q⟩ := Option.bind_eq_some_iff.mp q
 obtain ⟨y, h2, h3⟩ := Option.bind_eq_some_iff.mp q
 split at h3
 ·rename_i x i
  unfold atS at h3
  split at h3
  ·rename_i hz
   obtain ⟨c, e1, e2⟩ := Option.map_eq_some_iff.mp h3
   subst e2
   refine pe_imp (pe_ix ix_seq (ha ρ _ h1) (hb ρ _ h2) hs) fun σ H Q ⟨H0, Hf, s, sl, k⟩ => ?_
   refine ⟨H0, Hf, s, sl, fun v H1 Hf1 g1 r1 => ⟨H0, Hf1, g1.sub, sl.grow g1, fun u H2 Hf2 g2 r2 => ?_⟩⟩
   exact .inr (.inr ⟨x, i, c, r1, r2, by rw [sizeLine_eq]; exact hz, e1, k _ H2 Hf2 (g1.trans g2) rfl⟩)
  ·cases h3
 ·cases h3
def dSlA (f : DE) (lo hi : Rho → Option (Option Int)) : DE := fun ρ => (f ρ).bind fun d => (lo ρ).bind fun l => (hi ρ).bind fun h => match d with
 | .tuple xs => some (.tuple (cutD xs l h))
 | .list xs => some (.list (cutD xs l h))
 | _ => none
theorem je_slA {a : Expr} {lo hi : Option Expr} {f : DE} {l h : Rho → Option (Option Int)} {pos p2 : Pos} (ha : JE X a f) (hl : JO X lo l) (hh : JO X hi h) : JE X (.Subscript a (.Slice lo hi none p2) pos) (dSlA f l h) := fun ρ d q => by
 obtain ⟨x, e1, q⟩ := Option.bind_eq_some_iff.mp q
 obtain ⟨y, e2, q⟩ := Option.bind_eq_some_iff.mp q
 obtain ⟨z, e3, q⟩ := Option.bind_eq_some_iff.mp q
 cases x with
 | tuple xs =>
  cases q
  refine je_slT ha hl hh ρ _ ?_
  unfold dSlT
  rw [e1, xbs, e2, xbs, e3, xbs]
 | list xs =>
  cases q
  refine pe_imp (pe_slice sl_list (ha ρ _ e1) (hl ρ y e2) (hh ρ z e3)) fun σ H Q ⟨H0, Hf, s, sl, k⟩ => ?_
  refine ⟨H0, Hf, s, sl, fun v H1 Hf1 g1 ⟨p, vs, q1, q2, q3⟩ => ⟨H0, Hf1, g1.sub, sl.grow g1, fun H2 Hf2 g2 => ⟨H0, Hf2, g2.sub, sl.grow (g1.trans g2), fun H3 Hf3 g3 => ?_⟩⟩⟩
  subst q1
  have q2' := sqL_mono (g2.trans g3).ext q2
  have q3' := q3.mono (g2.trans g3).ext
  refine ⟨p, vs, rfl, sqL_mono g3.sub q2', fun p' hp => ?_⟩
  exact k _ _ _ (((g1.trans g2).trans g3).trans (Grow.laid g3.sub hp)) ⟨p', _, rfl, SqL.of upd_same, (reps_cut q3' y z).mono (same_upd (g3.sub.free hp))⟩
 | _ => cases q
end
end G
namespace G
open PySem PySem.Spec PyProof.Rows L2
section
variable {X : Cx}
theorem strs_of : ∀ {ys : List Str} {us : List Value}, Vals (ys.map V.str) us → ∃ l : List (Str × Tok), us = strValues l ∧ l.map (·.1) = ys
 | [], [], _ => ⟨[], rfl, rfl⟩
 | y :: ys, u :: us, h => by
  cases h with
  | cons a b =>
   obtain ⟨t, rfl⟩ := a
   obtain ⟨l, rfl, rfl⟩ := strs_of b
   exact ⟨(y, t) :: l, rfl, rfl⟩
def joinLen (sep : Str) (ys : List Str) : Nat := ys.toArray.foldl (fun n y => n + y.length + sep.length) 0
def rJoin (K : PySem.W.Frag) : V → List V → Hp → VK → Prop := fun x vs H Q => ∃ sep p ys, x = .str sep ∧ vs = [.ref p] ∧ SqL K H p (ys.map V.str) ∧ joinLen sep ys ≤ sizeLine ∧ (Builtin.Str.glued sep ys).length ≤ sizeLine ∧ Q (.str (Builtin.Str.glued sep ys)) H
theorem mt_join : MtR X "str.join" (rJoin X.K) := by
 intro pins s σ H x vs v us Q I rx rv h
 obtain ⟨sep, p, ys, rfl, rfl, hq, hz, hg, q⟩ := h
 obtain ⟨t, rfl⟩ := rx
 obtain ⟨u, rfl, ru⟩ := rv.one
 cases ru
 obtain ⟨its, r, pl, _⟩ := I.list hq
 obtain ⟨l, rfl, rfl⟩ := strs_of r
 refine call_meets F.slot_str_join (typeIs_str s sep t) F.entry_str_join (F.args_str_join_2 _ _) (meets_str_join_list sep t p l ?_) ⟨pl.isList, ?_⟩
 ·show decide (joinLen sep (l.map (·.1)) > sizeLine) = false
  exact decide_eq_false (by omega)
 ·match l, q, hg with
  | [], q, hg => exact ⟨hg, .str _, H, I.tok _, ⟨_, rfl⟩, q⟩
  | [a], q, _ => exact ⟨.str _, H, I, ⟨_, rfl⟩, q⟩
  | a :: b :: r, q, hg => exact ⟨hg, .str _, H, I.tok _, ⟨_, rfl⟩, q⟩
def strsD : List D → Option (List Str)
 | [] => some []
 | .str x :: r => (strsD r).map fun ys => x :: ys
 | _ :: _ => none
theorem reps_strs {K : PySem.W.Frag} {H : Hp} : ∀ {ds : List D} {ys : List Str} {vs : List V}, strsD ds = some ys → Reps K H ds vs → vs = ys.map V.str
 | [], ys, vs, h, r => by cases h; exact r
 | .str x :: ds, ys, vs, h, r => by
  obtain ⟨zs, e1, e2⟩ := Option.map_eq_some_iff.mp h
  subst e2
  obtain ⟨v, r', e, h1, h2⟩ := r
  subst e
  rw [reps_strs e1 h2]
  cases h1
  rfl
def dJoin (f : DE) (g : Rho → Option (Bool × List D)) : DE := fun ρ => (f ρ).bind fun s => (g ρ).bind fun q => match s with
 | .str sep => if q.1 = true then none else (strsD q.2).bind fun ys => if joinLen sep ys ≤ 16777216 ∧ (Builtin.Str.glued sep ys).length ≤ 16777216 then some (.str (Builtin.Str.glued sep ys)) else none
 | _ => none
theorem je_join {o e : Expr} {f : DE} {g : Rho → Option (Bool × List D)} {apos cpos : Pos} (ho : JE X o f) (h : JQ X e g)
  (hbase : attributeBase o "join" X.env (eval o X.env) = eval o X.env := by rfl)
  (hfew : ((backTo cpos (starEach [e] X.env)).all (fun x => !x.1) && (backToKw cpos (keywordEach [] X.env)).all (fun x => x.1.isSome)
   && decide (([e] : List Expr).length + ([] : List Keyword).length + (if ([] : List Keyword).isEmpty then 0 else 1) < 30)) = true := by rfl)
  (hline : (apos.endLine == cpos.line) = true := by rfl) (hs : starEach [e] X.env = [(false, eval e X.env)] := by rfl) :
  JE X (.Call (.Attribute o "join" apos) [e] [] cpos) (dJoin f g) := fun ρ d q => by
 obtain ⟨s, e1, q⟩ := Option.bind_eq_some_iff.mp q
 obtain ⟨⟨t, ds⟩, e2, q⟩ := Option.bind_eq_some_iff.mp q
 cases s with
 | str sep =>
  cases t with
  | true => simp at q
  | false =>
   simp only [xft, if_false] at q
   obtain ⟨ys, e3, q⟩ := Option.bind_eq_some_iff.mp q
   split at q
   ·rename_i hz
    cases q
    refine pe_imp (pe_bm F.plainAttrs_str F.slot_str_join F.type_str_join mt_join (ho ρ _ e1) (pa_cons (h ρ false ds e2) pa_nil hs) hbase hfew hline hs) fun σ H Q ⟨H0, Hf, s, sl, k⟩ => ?_
    refine ⟨H0, Hf, s, sl, fun v H1 Hf1 g1 r1 => ?_⟩
    cases r1
    refine ⟨rfl, H0, Hf1, g1.sub, sl.grow g1, fun w H2 Hf2 g2 ⟨p, vs, z1, z2, z3⟩ => ?_⟩
    subst z1
    rw [reps_strs e3 z3] at z2
    exact ⟨sep, p, ys, rfl, rfl, z2, by rw [sizeLine_eq]; exact hz.1, by rw [sizeLine_eq]; exact hz.2, k _ H2 Hf2 (g1.trans g2) rfl⟩
   ·cases q
 | _ => cases q
end
end G
namespace G
open PySem PySem.Spec PyProof.Rows L2
section
variable {X : Cx}
def flatD : D → Bool
 | .none => true
 | .bool _ => true
 | .int _ => true
 | .str _ => true
 | _ => false
def toV : D → V
 | .none => .non
 | .bool b => .bl b
 | .int i => .int i
 | .str x => .str x
 | _ => .non
theorem rep_flat {K : PySem.W.Frag} {H : Hp} {d : D} {v : V} (f : flatD d = true) (r : Rep K H d v) : v = toV d ∧ flatV v = true := by
 cases d with
 | none => cases r; exact ⟨rfl, rfl⟩
 | bool b => cases r; exact ⟨rfl, rfl⟩
 | int i => cases r; exact ⟨rfl, rfl⟩
 | str x => cases r; exact ⟨rfl, rfl⟩
 | tuple _ => cases f
 | list _ => cases f
 | dict _ => cases f
theorem reps_flat {K : PySem.W.Frag} {H : Hp} : ∀ {ds : List D} {vs : List V}, ds.all flatD = true → Reps K H ds vs → vs = ds.map toV ∧ vs.all flatV = true
 | [], vs, _, r => by cases (show vs = [] from r); exact ⟨rfl, rfl⟩
 | d :: ds, vs, f, r => by
  rw [List.all_cons, Bool.and_eq_true] at f
  obtain ⟨v, r', e, h1, h2⟩ := r
  subst e
  obtain ⟨e1, e2⟩ := rep_flat f.1 h1
  obtain ⟨e3, e4⟩ := reps_flat f.2 h2
  subst e1 e3
  exact ⟨rfl, by rw [List.all_cons, e2, e4]; rfl⟩
def inD (neg : Bool) (x y : D) : Option D := match y with
 | .list ds => if flatD x = true ∧ ds.all flatD = true then some (.bool (if neg then !inV (toV x) (ds.map toV) else inV (toV x) (ds.map toV))) else none
 | .tuple ds => if flatD x = true ∧ ds.all flatD = true then some (.bool (if neg then !inV (toV x) (ds.map toV) else inV (toV x) (ds.map toV))) else none
 | _ => none
theorem inD_of {op : CmpOp} {neg : Bool} (o : OpR X (compareOp op) (rIn X.K neg)) : OpD X (compareOp op) (inD neg) := fun x y z h => by
 unfold inD at h
 split at h
 ·split at h
  ·rename_i c
   cases h
   refine OpR.imp o fun vx vy H Q ⟨Hf, s, r1, r2, k⟩ => ?_
   obtain ⟨p, vs, rfl, h2, h3⟩ := r2
   obtain ⟨e1, e2⟩ := rep_flat c.1 r1
   obtain ⟨e3, e4⟩ := reps_flat c.2 h3
   subst e1 e3
   exact ⟨p, _, rfl, .inl (sqL_mono s h2), e2, e4, k _ H Hf (Grow.refl s) rfl⟩
  ·cases h
 ·split at h
  ·rename_i c
   cases h
   refine OpR.imp o fun vx vy H Q ⟨Hf, s, r1, r2, k⟩ => ?_
   obtain ⟨p, vs, rfl, h2, h3⟩ := r2
   obtain ⟨e1, e2⟩ := rep_flat c.1 r1
   obtain ⟨e3, e4⟩ := reps_flat c.2 h3
   subst e1 e3
   exact ⟨p, _, rfl, .inr (sqT_mono s h2), e2, e4, k _ H Hf (Grow.refl s) rfl⟩
  ·cases h
 ·cases h
theorem od_in : OpD X (compareOp .In) (inD false) := inD_of op_in_seq
theorem od_notin : OpD X (compareOp .NotIn) (inD true) := inD_of op_notIn_seq
end
end G
namespace G
open PySem PySem.Spec PyProof.Rows L2
section
variable {X : Cx}
theorem bb_min : bootBuiltins "min" = some (.builtin "min") := by decide +kernel
theorem bb_max : bootBuiltins "max" = some (.builtin "max") := by decide +kernel
theorem bb_abs : bootBuiltins "abs" = some (.builtin "abs") := by decide +kernel
def dMin2 (f g : DE) : DE := fun ρ => (f ρ).bind fun x => (g ρ).bind fun y => match x, y with
 | .int i, .int j => some (.int (if j < i then j else i))
 | _, _ => none
def dMax2 (f g : DE) : DE := fun ρ => (f ρ).bind fun x => (g ρ).bind fun y => match x, y with
 | .int i, .int j => some (.int (if j > i then j else i))
 | _, _ => none
def dAbs (f : DE) : DE := fun ρ => (f ρ).bind fun x => match x with
 | .int i => some (.int (if i < 0 then -i else i))
 | _ => none
theorem je_abs {e : Expr} {f : DE} {p pos : Pos} (hg : Gl X "abs") (hm : X.mg "abs" = none) (h : JE X e f) (he : starEach [e] X.env = [(false, eval e X.env)] := by rfl) : JE X (.Call (.Name "abs" p) [e] [] pos) (dAbs f) := fun ρ d q => by
 obtain ⟨x, h1, h2⟩ := Option.bind_eq_some_iff.mp q
 split at h2
 ·cases h2
  exact pe_imp (pe_callB call_abs hg hm bb_abs (pa_cons (h ρ _ h1) pa_nil he) (he := he)) fun σ H Q ⟨H0, Hf, s, sl, k⟩ =>
   ⟨H0, Hf, s, sl, fun v H1 Hf1 g1 r => ⟨_, by rw [show v = _ from r], k _ H1 Hf1 g1 rfl⟩⟩
 ·cases h2
theorem je_min2 {e e' : Expr} {f g : DE} {p pos : Pos} (hg : Gl X "min") (hm : X.mg "min" = none) (h : JE X e f) (h' : JE X e' g) (hc : X.calm = true := by rfl) (he : starEach [e, e'] X.env = (false, eval e X.env) :: starEach [e'] X.env := by rfl) (he' : starEach [e'] X.env = [(false, eval e' X.env)] := by rfl)
  (hpl : (backTo pos (starEach [e'] X.env)).any (·.1) = false := by rfl) : JE X (.Call (.Name "min" p) [e, e'] [] pos) (dMin2 f g) := fun ρ d q => by
 obtain ⟨x, h1, q⟩ := Option.bind_eq_some_iff.mp q
 obtain ⟨y, h2, h3⟩ := Option.bind_eq_some_iff.mp q
 split at h3
 ·cases h3
  exact pe_imp (pe_callB (call_min2 hc) hg hm bb_min (pa_cons (h ρ _ h1) (pa_cons (h' ρ _ h2) pa_nil he') he) (he := he) (hpl := hpl)) fun σ H Q ⟨H0, Hf, s, sl, k⟩ =>
   ⟨H0, Hf, s, sl, fun v H1 Hf1 g1 r => ⟨H0, Hf1, g1.sub, sl.grow g1, fun w H2 Hf2 g2 r2 => ⟨_, _, by rw [show v = _ from r, show w = _ from r2], k _ H2 Hf2 (g1.trans g2) rfl⟩⟩⟩
 ·cases h3
theorem je_max2 {e e' : Expr} {f g : DE} {p pos : Pos} (hg : Gl X "max") (hm : X.mg "max" = none) (h : JE X e f) (h' : JE X e' g) (hc : X.calm = true := by rfl) (he : starEach [e, e'] X.env = (false, eval e X.env) :: starEach [e'] X.env := by rfl) (he' : starEach [e'] X.env = [(false, eval e' X.env)] := by rfl)
  (hpl : (backTo pos (starEach [e'] X.env)).any (·.1) = false := by rfl) : JE X (.Call (.Name "max" p) [e, e'] [] pos) (dMax2 f g) := fun ρ d q => by
 obtain ⟨x, h1, q⟩ := Option.bind_eq_some_iff.mp q
 obtain ⟨y, h2, h3⟩ := Option.bind_eq_some_iff.mp q
 split at h3
 ·cases h3
  exact pe_imp (pe_callB (call_max2 hc) hg hm bb_max (pa_cons (h ρ _ h1) (pa_cons (h' ρ _ h2) pa_nil he') he) (he := he) (hpl := hpl)) fun σ H Q ⟨H0, Hf, s, sl, k⟩ =>
   ⟨H0, Hf, s, sl, fun v H1 Hf1 g1 r => ⟨H0, Hf1, g1.sub, sl.grow g1, fun w H2 Hf2 g2 r2 => ⟨_, _, by rw [show v = _ from r, show w = _ from r2], k _ H2 Hf2 (g1.trans g2) rfl⟩⟩⟩
 ·cases h3
theorem je_call0 {k : Nat} {f : Addr} {fd : FuncData} {ps : List Str} {F : List D → Option D} {x : Str} {p pos : Pos} (Fk : FnOk X.prog X.w X.K X.mg X.base CX0 k f fd ps (spF X.K 0 F)) (hr : Room k X.A) (hg : Gl X x) (hm : X.mg x = some (.ref f)) (hk : PySem.W.keepIn X.K (.ref f) = true) (hb : Binds X.K fd ps [])
  (hdb : (x == ("__debug__" : Str)) = false := by decide) : JE X (.Call (.Name x p) [] [] pos) (dCall F aNil) := fun ρ d q => by
 have h2 : F [] = some d := q
 refine pe_imp (pe_call0 Fk hr hg hm hk hb .nil pass0 hdb) fun σ H Q ⟨H0, Hf, s, sl, kk⟩ => ?_
 exact ⟨rfl, Hf, [], d, s, rfl, h2, fun v H2 Hf2 g2 r2 => kk v H2 Hf2 g2 r2⟩
end
end G
namespace G
open PySem PySem.Spec PyProof.Rows L2
def KReps (K : PySem.W.Frag) : List D → List Value → Prop
 | [], us => us = []
 | d :: ds, us => ∃ u r, us = u :: r ∧ KRep K d u ∧ KReps K ds r
section
variable {K : PySem.W.Frag}
theorem kreps_nil : KReps K [] [] := rfl
theorem kreps_cons {d : D} {ds : List D} {u : Value} {us : List Value} (h : KRep K d u) (t : KReps K ds us) : KReps K (d :: ds) (u :: us) := ⟨u, us, rfl, h, t⟩
theorem kreps_all : ∀ {ds : List D} {us : List Value}, KReps K ds us → ∃ vs, Vals vs us ∧ ∀ H : Hp, Reps K H ds vs
 | [], _, h => by cases h; exact ⟨[], .nil, fun _ => rfl⟩
 | d :: ds, _, ⟨u, r, e, ⟨v, h1, h2⟩, h3⟩ => by
  subst e
  obtain ⟨vs, q1, q2⟩ := kreps_all h3
  exact ⟨v :: vs, .cons h1 q1, fun H => ⟨v, vs, rfl, h2 H, q2 H⟩⟩
theorem krep_int (i : Int) (t : Tok) : KRep K (.int i) (.int i t) := ⟨.int i, ⟨t, rfl⟩, fun _ => rfl⟩
theorem krep_tup {a : Addr} {o : Obj} {its : Array Value} {n : Nat} {ds : List D} (h : K.lookup a = some o) (hc : o.cls = .type "tuple") (hd : o.data = .seq its n) (hz : its.size ≤ 1000) (hi : KReps K ds its.toList) : KRep K (.tuple ds) (.ref a) := by
 obtain ⟨vs, q1, q2⟩ := kreps_all hi
 exact ⟨.ref a, rfl, fun H => ⟨a, vs, rfl, .inr ⟨o, its, n, h, hc, hd, Nat.le_of_lt (small1000 hz), q1⟩, q2 H⟩⟩
end
end G
namespace G
open PySem PySem.Spec PyProof.Rows L2
theorem mul_tup_one (l : Addr) (items : Array Value) (n : Nat) (dd : Option Addr) (sl : Array (Option Value)) (u : Tok) :
  Meets (Builtin.«tuple.__mul__» ⟨[.ref l, .int 1 u], []⟩) (fun _ R s => s.heap.get? l = some ⟨.type "tuple", dd, .seq items n, sl⟩ ∧ R (.ok (.ret (Value.ref l))) s) :=
 .of_wp fun prog w A R s h => by
  obtain ⟨hp, g, d, tk, os⟩ := s
  obtain ⟨hl, h⟩ := h
  wp_walk
  exact ⟨_, rfl, h⟩
section
variable {X : Cx}
theorem op_repT1 : OpR X (binaryOp .Mult) (fun x y H Q => ∃ l xs, x = .ref l ∧ y = .int 1 ∧ SqT X.K H l xs ∧ Q (.ref l) H) := by
 intro pins s σ H x y v u Q I rx ry h
 obtain ⟨l, xs, rfl, rfl, hq, q⟩ := h
 cases rx
 obtain ⟨t, rfl⟩ := ry
 obtain ⟨its, r, p1, _⟩ := I.tuple hq
 obtain ⟨⟨cls, dd, data, sl⟩, ho, hc, n, hd⟩ := id p1
 simp only at hc hd
 subst hc hd
 exact wpAny_binaryOp_repeat_ref (T := "tuple") (U := "int") (by decide) ⟨_, ho, rfl⟩ (fun s' => typeIs_int s' 1 t) noMul_tuple F.fills_int_mul F.slot_int_rmul rep_tuple F.slot_int_index.lookup
  (call_meets F.slot_int_rmul (typeIs_int s 1 t) F.entry_int_rmul (F.args_int_rmul_2 _ _) (rmul_int_tup 1 t l its.toArray n dd sl) ⟨ho, rfl, ⟨_, ho, rfl⟩,
   call_meets F.slot_tuple_mul ⟨_, ho, rfl⟩ F.entry_tuple_mul (F.args_tuple_mul_2 _ _) (mul_tup_one l its.toArray n dd sl t) ⟨ho, ⟨.ref l, H, I, rfl, q⟩⟩⟩)
theorem rmul_int_lst (a : Int) (t : Tok) (l : Addr) (items : Array Value) (n : Nat) (dd : Option Addr) (sl : Array (Option Value)) :
  Meets (Builtin.«int.__rmul__» ⟨[.int a t, .ref l], []⟩) (fun _ R s => s.heap.get? l = some ⟨.type "list", dd, .seq items n, sl⟩ ∧ R (.ok (.ret Value.notImplemented)) s) := Meets.of_wp fun prog w A R s h => by
 obtain ⟨hp, g, d, tk, os⟩ := s
 obtain ⟨hl, h⟩ := h
 wp_walk
 exact ⟨_, rfl, h⟩
theorem mul_lst_new (l : Addr) (items : Array Value) (n : Nat) (dd : Option Addr) (sl : Array (Option Value)) (x : Int) (u : Tok) (c0 : ¬(!Builtin.List.listFitsIndex x) = true) (c1 : ¬items.size * x.toNat > (2 ^ 63 - 1) / 8) (c2 : ¬Builtin.List.listTooLong (items.size * x.toNat) = true) :
  Meets (Builtin.«list.__mul__» ⟨[.ref l, .int x u], []⟩) (fun _ R s => s.heap.get? l = some ⟨.type "list", dd, .seq items n, sl⟩ ∧ R (.ok (.ret (Value.ref s.heap.objs.size))) { s with heap := s.heap.push { cls := Value.type "list", data := Data.seq (List.foldl (fun x1 x2 => x1 ++ x2) #[] (List.replicate (if items.isEmpty = true then 0 else x.toNat) items)) } }) := Meets.of_wp fun prog w A R s h => by
 obtain ⟨hp, g, d, tk, os⟩ := s
 obtain ⟨hl, h⟩ := h
 have hsz := AutoListH.joined_fits c2
 wp_walk
 refine wpAny_ite_false (decide_eq_false (Nat.not_lt.mpr hsz)) ?_
 wp_walk
 exact ⟨_, rfl, h⟩
theorem op_repL : OpR X (binaryOp .Mult) (fun x y H Q => ∃ l k xs, x = .ref l ∧ y = .int k ∧ SqL X.K H l xs ∧ 0 ≤ k ∧ k < 1000000 ∧ xs.length * k.toNat ≤ sizeLine ∧ ∀ p, H p = none → Q (.ref p) (upd H p (.lst (List.replicate k.toNat xs).flatten))) := by
 intro pins s σ H x y v u Q I rx ry h
 obtain ⟨l, k, xs, rfl, rfl, hq, h1, h2, hz, q⟩ := h
 cases rx
 obtain ⟨t, rfl⟩ := ry
 obtain ⟨its, r, p1, _⟩ := I.list hq
 obtain ⟨⟨cls, dd, data, sl⟩, ho, hc, n, hd⟩ := p1.isList
 simp only at hc hd
 subst hc hd
 have hl := r.length
 have hlen : its.toArray.size * k.toNat ≤ sizeLine := by rw [List.size_toArray, ← hl]; exact hz
 have hcap : ¬ its.toArray.size * k.toNat > (2 ^ 63 - 1) / 8 := by
  have : (sizeLine : Nat) ≤ (2 ^ 63 - 1) / 8 := by decide
  omega
 have hfit : ¬ (!Builtin.List.listFitsIndex k) = true := by
  rw [fitsIndex_both (by omega) (by omega)]; exact Bool.false_ne_true
 have hlong : ¬ Builtin.List.listTooLong (its.toArray.size * k.toNat) = true := by
  rw [notLongL hlen]; exact Bool.false_ne_true
 have hnew : List.foldl (fun x1 x2 => x1 ++ x2) #[] (List.replicate (if its.toArray.isEmpty = true then 0 else k.toNat) its.toArray) = (List.replicate k.toNat its).flatten.toArray := by
  rw [rep_eq]
  cases its with
  | nil => simp
  | cons a r' => rw [if_neg (by simp)]
 refine wpAny_binaryOp_repeat_ref (T := "list") (U := "int") (by decide) ⟨_, ho, rfl⟩ (fun s' => typeIs_int s' k t) noFill_list_mul F.fills_int_mul F.slot_int_rmul repeat_list F.slot_int_index.lookup
  (call_meets F.slot_int_rmul (typeIs_int s k t) F.entry_int_rmul (F.args_int_rmul_2 _ _) (rmul_int_lst k t l its.toArray n dd sl) ⟨ho, rfl, ⟨_, ho, rfl⟩,
   call_meets F.slot_list_mul ⟨_, ho, rfl⟩ F.entry_list_mul (F.args_list_mul_2 _ _) (mul_lst_new l its.toArray n dd sl k t hfit hcap hlong) ⟨ho, ?_⟩⟩)
 rw [hnew]
 exact ⟨.ref _, _, I.lnew (t' := s.toks) (r.rep k.toNat) (by rw [len_rep, Nat.mul_comm]; exact hz), rfl, q _ I.fresh⟩
def mulE (x y : D) : Option D := match x, y with
 | .tuple xs, .int k => if k = 1 then some (.tuple xs) else mulD (.tuple xs) (.int k)
 | .list xs, .int k => if 0 ≤ k ∧ k < 1000000 ∧ xs.length * k.toNat ≤ 16777216 then some (.list (List.replicate k.toNat xs).flatten) else none
 | x, y => mulD x y
theorem od_mulE : OpD X (binaryOp .Mult) mulE := fun x y z h => by
 unfold mulE at h
 split at h
 ·split at h
  ·rename_i xs k c
   subst c
   cases h
   refine OpR.imp op_repT1 fun vx vy H Q ⟨Hf, s, r1, r2, kk⟩ => ?_
   obtain ⟨a, vs, rfl, h2, h3⟩ := r1
   exact ⟨a, vs, rfl, r2, sqT_mono s h2, kk _ _ _ (Grow.refl s) ⟨a, vs, rfl, h2, h3⟩⟩
  ·exact od_mulD _ _ z h
 ·split at h
  ·rename_i xs k c
   cases h
   refine OpR.imp op_repL fun vx vy H Q ⟨Hf, s, r1, r2, kk⟩ => ?_
   obtain ⟨a, vs, rfl, h2, h3⟩ := r1
   refine ⟨a, k, vs, rfl, r2, sqL_mono s h2, c.1, c.2.1, by rw [h3.length, sizeLine_eq]; exact c.2.2, fun p hp => ?_⟩
   exact kk _ _ _ (Grow.laid s hp) ⟨p, _, rfl, SqL.of upd_same, (h3.flatten k.toNat).mono (same_upd (s.free hp))⟩
  ·cases h
 ·exact od_mulD _ _ z h
theorem catE_y (i j : Int) : catE (.int i) (.int j) = some (.int (i + j)) := rfl
def dSlQ (f : Rho → Option (Bool × List D)) (lo hi : Rho → Option (Option Int)) : DE := fun ρ => (f ρ).bind fun q => (lo ρ).bind fun l => (hi ρ).bind fun h => if q.1 = true then none else some (.list (cutD q.2 l h))
theorem je_slQ {a : Expr} {lo hi : Option Expr} {f : Rho → Option (Bool × List D)} {l h : Rho → Option (Option Int)} {pos p2 : Pos} (ha : JQ X a f) (hl : JO X lo l) (hh : JO X hi h) : JE X (.Subscript a (.Slice lo hi none p2) pos) (dSlQ f l h) := fun ρ d q => by
 obtain ⟨⟨t, xs⟩, e1, q⟩ := Option.bind_eq_some_iff.mp q
 obtain ⟨y, e2, q⟩ := Option.bind_eq_some_iff.mp q
 obtain ⟨z, e3, q⟩ := Option.bind_eq_some_iff.mp q
 cases t with
 | true => simp at q
 | false =>
  simp only [xft, if_false] at q
  cases q
  refine pe_imp (pe_slice sl_list (ha ρ _ _ e1) (hl ρ y e2) (hh ρ z e3)) fun σ H Q ⟨H0, Hf, s, sl, k⟩ => ?_
  refine ⟨H0, Hf, s, sl, fun v H1 Hf1 g1 ⟨p, vs, q1, q2, q3⟩ => ⟨H0, Hf1, g1.sub, sl.grow g1, fun H2 Hf2 g2 => ⟨H0, Hf2, g2.sub, sl.grow (g1.trans g2), fun H3 Hf3 g3 => ?_⟩⟩⟩
  subst q1
  have q3' := q3.mono (g2.trans g3).ext
  refine ⟨p, vs, rfl, sqL_mono (g2.trans g3).big q2, fun p' hp => ?_⟩
  exact k _ _ _ (((g1.trans g2).trans g3).trans (Grow.laid g3.sub hp)) ⟨p', _, rfl, SqL.of upd_same, (reps_cut q3' y z).mono (same_upd (g3.sub.free hp))⟩
def sNever : DS := fun _ => none
theorem js_never {st : Stmt} : JS X st sNever := fun ρ fl q => by cases q
def tTst (f : DE) : Rho → Option Bool := fun ρ => (f ρ).bind boolOf
theorem jt_chain {op op' : CmpOp} {h1 h2 : D → D → Option D} {a b c : Expr} {f g k : DE} {pos : Pos} (o1 : OpD X (compareOp op) h1) (o2 : OpD X (compareOp op') h2) (ha : JE X a f) (hb : JE X b g) (hc : JE X c k)
  (hm : lastMarks [op, op'] [b, c] = false := by with_unfolding_all rfl) : JT X (.Compare a [op, op'] [b, c] pos) (tTst (dChain h1 h2 f g k)) := fun ρ d q => by
 obtain ⟨dd, q, ed⟩ := Option.bind_eq_some_iff.mp q
 have ed := bool_of ed
 subst ed
 obtain ⟨x, e1, q⟩ := Option.bind_eq_some_iff.mp q
 obtain ⟨y, e2, q⟩ := Option.bind_eq_some_iff.mp q
 obtain ⟨z, e3, q⟩ := Option.bind_eq_some_iff.mp q
 split at q
 ·obtain ⟨w, e4, e5⟩ := Option.bind_eq_some_iff.mp q
  refine pt_imp (pt_chain (o1 x y _ e3) (o2 y w _ e5) (ha ρ x e1) (hb ρ y e2) (hc ρ w e4) hm) fun σ H Q ⟨H0, Hf, s, sl, kk⟩ => ?_
  refine ⟨H0, Hf, s, sl, fun v H1 Hf1 g1 r1 => ⟨H0, Hf1, g1.sub, sl.grow g1, fun u H2 Hf2 g2 r2 => ⟨Hf2, g2.sub, r1.mono g2.ext, r2, fun z' H3 Hf3 g3 r3 => ?_⟩⟩⟩
  refine ⟨true, r3, iteT ⟨H0, Hf3, g3.sub, sl.grow ((g1.trans g2).trans g3), fun w' H4 Hf4 g4 r4 => ⟨Hf4, g4.sub, r2.mono (g3.trans g4).ext, r4, fun z2 H5 Hf5 g5 r5 => ?_⟩⟩⟩
  exact ⟨d, r5, kk H5 Hf5 ((((g1.trans g2).trans g3).trans g4).trans g5)⟩
 ·cases q
  intro pins s σ H Q I ⟨H0, Hf, ss, sl, kk⟩
  refine pt_chain (tc := fun _ _ _ => False) (r' := fun _ _ _ _ => False) (o1 x y _ e3) (fun _ _ _ _ _ _ _ _ _ _ _ _ h => h.elim) (ha ρ x e1) (hb ρ y e2) (fun _ _ _ _ _ _ h => h.elim) hm pins s σ H Q I ?_
  refine ⟨H0, Hf, ss, sl, fun v H1 Hf1 g1 r1 => ⟨H0, Hf1, g1.sub, sl.grow g1, fun u H2 Hf2 g2 r2 => ⟨Hf2, g2.sub, r1.mono g2.ext, r2, fun z' H3 Hf3 g3 r3 => ?_⟩⟩⟩
  exact ⟨false, r3, iteF ⟨false, rfl, kk H3 Hf3 ((g1.trans g2).trans g3)⟩⟩
 ·cases q
end
end G
namespace Sh
open PySem PySem.Spec PyProof.Rows L2 G
def G_is_size : DS := (sRet (dAnd (dCall F_is_whole (aCons (dVar 0) aNil)) (dChain leI leI (dC (.int 1)) (dVar 0) (dC (.int 8)))))
def F_is_size : List D → Option D := runD G_is_size 1
def G_is_sized : DS := (sSeq (sIf (tOr2 (tNot2 (tTru (dIsi "tuple" (dVar 0)))) (tB2 neD (dLen (qVar 0)) (dC (.int 3)))) (sRet (dC (.bool false))) sNil) (sRet (dAnd (dCall F_is_size (aCons (dIx (qVar 0) (dC (.int 0))) aNil)) (dAnd (dCall F_is_size (aCons (dIx (qVar 0) (dC (.int 1))) aNil)) (dIsi "tuple" (dIx (qVar 0) (dC (.int 2))))))))
def F_is_sized : List D → Option D := runD G_is_sized 1
def G_is_sheet : DS := (sSeq (sIf (tNot2 (tTru (dCall F_is_sized (aCons (dVar 0) aNil)))) (sRet (dC (.bool false))) sNil) (sSeq (sSet 1 (dIx (qVar 0) (dC (.int 2)))) (sRet (dAnd (dBin eqD (dLen (qVar 1)) (dBin mulE (dIx (qVar 0) (dC (.int 0))) (dIx (qVar 0) (dC (.int 1))))) (dAll (qN (nComp 1 [] (iSeq (dVar 1)) (gSet 0) cTrue (dCall F_is_spot (aCons (dVar 0) aNil)))))))))
def F_is_sheet : List D → Option D := runD G_is_sheet 2
def G_places_of : DS := (sRet (dLst (nComp 1 [0] (iRan1 (dBin mulE (dVar 0) (dVar 1))) (gSet 0) cTrue (dTup (aCons (dBin modI (dVar 0) (dVar 1)) (aCons (dBin divI (dVar 0) (dVar 1)) aNil))))))
def F_places_of : List D → Option D := runD G_places_of 2
def G_has_place : DS := (sRet (dAnd (dChain leI ltI (dC (.int 0)) (dVar 1) (dIx (qVar 0) (dC (.int 0)))) (dChain leI ltI (dC (.int 0)) (dVar 2) (dIx (qVar 0) (dC (.int 1))))))
def F_has_place : List D → Option D := runD G_has_place 3
def G_number_of_place : DS := (sRet (dBin catE (dBin mulE (dVar 2) (dIx (qVar 0) (dC (.int 0)))) (dVar 1)))
def F_number_of_place : List D → Option D := runD G_number_of_place 3
def G_spot_at : DS := (sSeq (sIf (tNot2 (tTru (dCall F_has_place (aCons (dVar 0) (aCons (dVar 1) (aCons (dVar 2) aNil)))))) (sRet (dC (.tuple [(.tuple [(.int 0), (.int 1)]), (.tuple [(.int 0), (.int 1)]), (.tuple [(.int 0), (.int 1)]), (.tuple [(.int 0), (.int 1)])]))) sNil) (sRet (dIx (qE (dIx (qVar 0) (dC (.int 2)))) (dCall F_number_of_place (aCons (dVar 0) (aCons (dVar 1) (aCons (dVar 2) aNil)))))))
def F_spot_at : List D → Option D := runD G_spot_at 3
def G_l_sheet : DS := (sSeq (sSetN 4 (nComp 1 [0, 1] (iRan1 (dBin mulE (dVar 2) (dVar 3))) (gSet 0) cTrue (dCall F_l_spot (aCons (dVar 1) (aCons (dBin catE (dVar 2) (dBin mulE (dC (.int 12)) (dVar 0))) aNil))))) (sSeq (sIf (tB2 eqD (dCall F_l_drawn (aCons (dVar 0) (aCons (dBin catE (dVar 1) (dC (.int 7))) (aCons (dC (.int 3)) aNil)))) (dC (.int 0))) (sSet 4 (dBin mulE (dSlA (dVar 4) oNone (oSome (dC (.int 1)))) (dBin mulE (dVar 2) (dVar 3)))) sNil) (sRet (dTup (aCons (dVar 2) (aCons (dVar 3) (aCons (dTupN (qVar 4)) aNil)))))))
def F_l_sheet : List D → Option D := runD G_l_sheet 5
end Sh
namespace G
open PySem PySem.Spec PyProof.Rows L2
theorem draws_sit {prog : Program} {w : World} {A : Around} (hh : A.handled = none) (t : Bool) (it l : Addr) (hne : l ≠ it) (xs : Array Value) : Draws prog w A it [it, l] xs.size (fun i x => xs[i]? = some x) (fun i h => SIt t h it l i ∧ SSq t h l xs) := by
 refine ⟨fun i h ⟨a, _⟩ => ?_, fun i h h' ⟨a, b⟩ k => ⟨a.ext fun o e => k it (by simp) o e, b.ext fun o e => k l (by simp) o e⟩, fun i s Q E hi ⟨a, b⟩ hQ => ?_, fun s Q E ⟨a, b⟩ hE => sit_end hh a b (by simp) hE⟩
 ·cases t with
  | true => obtain ⟨o, ho, _⟩ := a; exact ⟨o, ho⟩
  | false => obtain ⟨o, ho, _⟩ := a; exact ⟨o, ho⟩
 ·have hx : xs[i]? = some xs[i] := by simp [hi]
  exact sit_next a b hx fun h' c sb => hQ _ h' s.toks hx ⟨c, b.ext fun o e => sb.extBut l o hne e⟩ sb
theorem senum_new (l : Addr) (items : Array Value) (n : Nat) (dd : Option Addr) (sl : Array (Option Value)) :
  Meets (Builtin.«enumerate.__new__» ⟨[.type "enumerate", .ref l], []⟩) (fun _ R s => s.heap.get? l = some ⟨.type "tuple", dd, .seq items n, sl⟩ ∧
   R (.ok (.ret (.ref (s.heap.push (itObj true l)).objs.size))) { s with heap := (s.heap.push (itObj true l)).push { cls := .type "enumerate", data := .fields #[.none, .bool false, .ref s.heap.objs.size, rawInt 0, .none, .none] } }) := Meets.of_wp fun prog w A R s h => by
 obtain ⟨hp, g, d, tk, os⟩ := s
 obtain ⟨hl, h⟩ := h
 have hsub := sub_enumerate
 have q1 : SSq true (Shared.heap ⟨hp, g, d, tk, os⟩) l items := ⟨_, hl, rfl, n, rfl⟩
 wp_walk using AutoSeq1.wpAny_loadPart' hl
 refine wpAny_stack_any fun st => wpAny_pure ?_
 split
 ·rename_i c _ _ _ _ _
  cases (c == Value.type "enumerate")
  ·wp_walk using AutoSeq1.wpAny_loadPart' hl, sit_iter q1
   exact ⟨_, rfl, h⟩
  ·wp_walk using AutoSeq1.wpAny_loadPart' hl, sit_iter q1
   exact ⟨_, rfl, h⟩
 ·wp_walk using AutoSeq1.wpAny_loadPart' hl, sit_iter q1
  exact ⟨_, rfl, h⟩
section
variable {prog : Program} {w : World} {A : Around} {E : Value → Shared → Prop} {s : Shared} {t : Bool}
theorem senum_call {l : Addr} {xs : Array Value} {Q : Value → Shared → Prop} (hl : SSq t s.heap l xs)
  (h : ∀ h', IsEnum h' (s.heap.objs.size + 1) s.heap.objs.size 0 .none → SIt t h' s.heap.objs.size l 0 → (∀ c o, s.heap.get? c = some o → h'.get? c = some o) → Q (.ref (s.heap.objs.size + 1)) { s with heap := h' }) :
  wpAny (model prog w) A (call (.type "enumerate") [.ref l]) Q E s := by
 cases t with
 | false => exact call_enumerate_list hl fun h' a b _ d => h h' a b d
 | true =>
  obtain ⟨⟨cls, dd, data, sl⟩, ho, hc, n, hd⟩ := hl
  simp only at hc hd
  subst hc hd
  refine callType_new F.called_enumerate (by decide) (F.typeCall_enumerate_1 _) (F.newCall_enumerate_1 _) (fun obj => F.args_object_init_2 obj _) F.entry_enumerate_new (senum_new l xs n dd sl) ⟨ho, ?_⟩
  have z1 : (s.heap.push (itObj true l)).objs.size = s.heap.objs.size + 1 := Heap.size_push ..
  show _ ∧ _
  rw [z1]
  have he := Heap.get?_push_size (s.heap.push (itObj true l)) (o := { cls := .type "enumerate", data := .fields #[.none, .bool false, .ref s.heap.objs.size, rawInt 0, .none, .none] }) rfl
  rw [z1] at he
  exact ⟨⟨_, he, rfl⟩, h _ he ((sit_new (h := s.heap) (l := l) true).ext fun o e => Heap.get?_push_of_some _ e) fun c o e => Heap.get?_push_of_some _ (Heap.get?_push_of_some _ e)⟩
theorem enext_end {e it l : Addr} {i : Int} {k : Nat} {xs : Array Value} {old : Value} {Q : Option Value → Shared → Prop} (hh : A.handled = none) (he : IsEnum s.heap e it i old) (hit : SIt t s.heap it l k) (hl : SSq t s.heap l xs) (hx : xs[k]? = none)
  (hQ : ∀ h', Heap.ExtBut it s.heap h' → Q none { s with heap := h' }) : wpAny (model prog w) A (pyNext (.ref e)) Q E s := by
 have hT : s.TypeIs (.ref e) "enumerate" := ⟨_, he, rfl⟩
 unfold pyNext
 refine wpAny_bind (wpAny_attempt (wpAny_callSpecial?_slot (name := Str.ofString "__next__") hT F.slot_enumerate_next (wpAny_call_entry F.slot_enumerate_next hT F.entry_enumerate_next ?_ (F.args_enumerate_next_1 _))))
 show wpAny _ _ (field (.ref e) 2 >>= _) _ _ _
 refine wpAny_bind (wpAny_field he rfl (x := .ref it) rfl (wpAny_bind (sit_end hh hit hl hx fun h' x he' hx' => ?_)))
 obtain ⟨o, ho, hc⟩ := hx'
 exact wpAny_bind (wpAny_isInstance (T := "StopIteration") (b := true) ⟨o, ho, hc⟩ isSubtype_stop (wpAny_pure (hQ _ he')))
end
def Ite (K : PySem.W.Frag) (t : Bool) (a : Addr) : It :=
  ⟨fun i H => ∃ xs x, Sq K t H a xs ∧ xs[i]? = some x,
   fun i H v H' => ∃ T x, v = .ref T ∧ H T = none ∧ H' = upd H T (.tup [.int i, x]) ∧ ∀ xs, Sq K t H a xs → xs[i]? = some x,
   fun i H => ∃ xs, Sq K t H a xs ∧ xs.length ≤ i⟩
theorem turn_enum {P : Program} {w : World} {K : PySem.W.Frag} {elts : List Expr} {k0 : Nat} {pos : Pos} {t : Bool} {e it a : Addr} (h1 : e ≠ it) (h2 : a ≠ e) (h3 : a ≠ it) :
  Turn P w K (.Tuple elts k0 pos) (Ite K t a) [e, it] e (fun i h => (∃ old, IsEnum h e it i old) ∧ SIt t h it a i) where
 mem := by simp
 obj := fun i h ⟨⟨old, he⟩, hi⟩ c hc => by
  simp only [List.mem_cons, List.not_mem_nil, or_false] at hc
  rcases hc with rfl | rfl
  ·exact ⟨_, he, fun v q => by cases q⟩
  ·cases t with
   | true => obtain ⟨o, ho, _, hd⟩ := hi; exact ⟨o, ho, fun v q => by rw [hd] at q; cases q⟩
   | false => obtain ⟨o, ho, _, hd⟩ := hi; exact ⟨o, ho, fun v q => by rw [hd] at q; cases q⟩
 keep := fun i h h' ⟨⟨old, he⟩, hi⟩ hk => ⟨⟨old, hk e (by simp) _ he⟩, hi.ext fun o q => hk it (by simp) o q⟩
 item := by
  intro X hP hw hK hc i pins s σ H E I hf ⟨⟨old, he⟩, hi⟩ hg
  subst hP hw hK
  obtain ⟨xs, x, q1, ex⟩ := hg
  obtain ⟨us, r1, p1, lt1⟩ := sq_heap I q1
  obtain ⟨ux, eux, rx⟩ := r1.get ex
  have hlt : i < us.toArray.size := by rw [List.size_toArray]; exact (List.getElem?_eq_some_iff.mp eux).1
  refine wpAny_pyNext_enum_itemD (draws_sit (A := X.A.in1) (I.ok.hd hc) t it a h3 us.toArray) he ⟨hi, p1⟩ hlt h1 (by simp only [List.mem_cons, List.not_mem_nil, or_false, not_or]; exact ⟨h1, fun z => h2 z.symm⟩) fun y h' tk hy ho hst hT hsz hk => ⟨_, rfl, wpAny_letOwnedTupleGo_enum ho fun h'' c1 c2 => ?_⟩
  have ey : y = ux := by
   have : us[i]? = some y := by simpa using hy
   rw [eux] at this
   exact (Option.some.inj this).symm
  subst ey
  have neT : ∀ c o, s.heap.get? c = some o → c ≠ s.heap.objs.size := fun c o q => Nat.ne_of_lt (Heap.lt_size q)
  have up : ∀ c o, c ≠ e → h'.get? c = some o → h''.get? c = some o := fun c o n q => c2.extBut c o n q
  refine ⟨.ref s.heap.objs.size, upd H s.heap.objs.size (.tup [.int i, x]), inv_turned_laid (s := s) (h' := h'') (t' := tk + 1) (ch := [e, it]) I hf (Nat.le_refl _) (fun c u hc q => ?_) ?_, rfl, ⟨_, x, rfl, I.hok.fresh (Nat.le_refl _), rfl, fun zs hz' => by rw [sq_inj I hz' q1]; exact ex⟩, ⟨⟨_, by simpa using c1⟩, hst.1.ext fun o q => up it o h1.symm q⟩, fun c hc => ?_⟩
  ·simp only [List.mem_cons, List.not_mem_nil, or_false, not_or] at hc
   exact up c u hc.1 (hk c u hc.1 hc.2 q)
  ·refine ⟨by show 2 ≤ sizeLine; decide, [.int i tk, y], .cons ⟨tk, rfl⟩ (.cons rx .nil), _, up _ _ ?_ hT, rfl, _, rfl⟩
   exact fun q => neT e _ he q.symm
  ·have lt : c < s.heap.objs.size := by
    simp only [List.mem_cons, List.not_mem_nil, or_false] at hc
    rcases hc with rfl | rfl
    ·exact Heap.lt_size he
    ·exact hi.lt
   rw [upd_ne (Nat.ne_of_lt lt)]
   exact (hf c hc).1
 done := by
  intro X hP hw hK hc i pins s σ H E I hf ⟨⟨old, he⟩, hi⟩ hg
  subst hP hw hK
  obtain ⟨xs, q1, hl⟩ := hg
  obtain ⟨us, r1, p1, lt1⟩ := sq_heap I q1
  have l1 := r1.length
  refine enext_end (I.ok.hd hc) he hi p1 (by simp; omega) fun h' hk => ⟨rfl, inv_turned (t' := s.toks) (ch := [e, it]) I hf fun c u hc q => ?_⟩
  simp only [List.mem_cons, List.not_mem_nil, or_false, not_or] at hc
  exact hk c u hc.2 q
 self := fun _ _ _ _ _ st h => by
  obtain ⟨⟨old, he⟩, _⟩ := st
  exact wpAny_pyIter_enum he h
section
variable {X : Cx}
def enumD (ds : List D) : List D := (List.range ds.length).zip ds |>.map fun (k, d) => PyData.tuple [.int (k : Nat), d]
def iEnum (f : Rho → Option (Bool × List D)) : Rho → Option (List D) := fun ρ => (f ρ).map fun q => enumD q.2
theorem enum_get (ds : List D) (i : Nat) : (enumD ds)[i]? = (ds[i]?).map fun d => .tuple [.int i, d] := by
 unfold enumD
 rw [List.getElem?_map]
 cases e : ds[i]? with
 | none =>
  have : ds.length ≤ i := by simpa using e
  have z : ((List.range ds.length).zip ds)[i]? = none := by simp; omega
  rw [z]; rfl
 | some d =>
  have hi := (List.getElem?_eq_some_iff.mp e).1
  have z : ((List.range ds.length).zip ds)[i]? = some (i, d) := List.getElem?_zip_eq_some.mpr ⟨by simp [hi], e⟩
  rw [z]; rfl
theorem enum_len (ds : List D) : (enumD ds).length = ds.length := by unfold enumD; simp
theorem yields_enum {K : PySem.W.Frag} {t : Bool} {a : Addr} {vs : List V} {ds : List D} {Hf1 : Hp} (h1 : Sq K t Hf1 a vs) (r1 : Reps K Hf1 ds vs) : Yields K (Ite K t a) (enumD ds) Hf1 := by
 have mono : ∀ {t : Bool} {a : Addr} {xs : List V} {H H' : Hp}, Same H H' → Sq K t H a xs → Sq K t H' a xs := fun {t a xs H H'} e h => by
  cases t with
  | true => exact sqT_mono e h
  | false => exact sqL_mono e h
 intro i H Hf sa sb
 have m1 := mono (sa.trans sb) h1
 have l1 := r1.length
 refine ⟨fun hi => ⟨vs, m1, by rw [enum_len] at hi; omega⟩, fun d hd => ?_⟩
 rw [enum_get] at hd
 obtain ⟨x, q1, q2⟩ := Option.map_eq_some_iff.mp hd
 subst q2
 obtain ⟨vx, e1, e2⟩ := r1.get q1
 refine ⟨⟨vs, vx, m1, e1⟩, fun v H' ⟨T, x', z1, z2, z3, z4⟩ => ?_⟩
 subst z1 z3
 have w1 := z4 vs m1
 rw [e1] at w1
 cases w1
 have nf : Hf T = none := sb.free z2
 exact ⟨upd Hf T (.tup [.int i, vx]), Grow.laid sb z2, T, [.int i, vx], rfl, SqT.of upd_same, .int i, [vx], rfl, rfl, vx, [], rfl, (e2.mono sa).mono (same_upd nf), rfl⟩
theorem ji_enum {elts : List Expr} {k0 : Nat} {tpos : Pos} {a : Expr} {f : DE} {p pos : Pos} (hg : Gl X "enumerate") (hm : X.mg "enumerate" = none) (ha : JE X a f) (hs : starEach [a] X.env = [(false, eval a X.env)] := by rfl) :
  JI X (.Tuple elts k0 tpos) (.Call (.Name "enumerate" p) [a] [] pos) (iEnum (qE f)) := fun ρ out q => by
 obtain ⟨⟨t1, ds⟩, e1, q⟩ := Option.map_eq_some_iff.mp q
 subst q
 obtain ⟨d1, e1, e1'⟩ := Option.bind_eq_some_iff.mp e1
 intro pins s σ H R I ⟨H0, Hf, ss, sl, k⟩
 refine Call_ (ld_blt I hg hm rfl (PyProof.Rows.callWith_type1 (thn (pa_cons (ha ρ d1 e1) pa_nil (by rw [hs]; rfl) pos pins s σ H
  (fun vs H' => ∃ v Hf', vs = [v] ∧ Grow H Hf H' Hf' ∧ Rep X.K Hf' d1 v) I ⟨H0, Hf, ss, sl, fun v H1 Hf1 g1 r1 => ⟨v, Hf1, rfl, g1, r1⟩⟩) fun us s1 ⟨vs, H1, I1, r1, v, Hf1, ev, gr, p1⟩ => ?_) (by rw [hs]; rfl) (by rfl)))
 subst ev
 obtain ⟨uv, rfl, rv⟩ := r1.one
 obtain ⟨a1, vs1, rfl, w1, w2⟩ := p1.seq (Same.refl Hf1) e1'
 cases rv
 have mono : ∀ {t : Bool} {a : Addr} {xs : List V} {H H' : Hp}, Same H H' → Sq X.K t H a xs → Sq X.K t H' a xs := fun {t a xs H H'} e h => by
  cases t with
  | true => exact sqT_mono e h
  | false => exact sqL_mono e h
 obtain ⟨us1, rr1, hp1, lt1⟩ := sq_heap I1 (mono gr.sub w1)
 refine senum_call hp1 fun h' b1 b2 b3 => ?_
 have I2 : Inv X pins σ H1 { s1 with heap := h' } := I1.kept (t' := s1.toks) b3
 refine wpAny_pyIter_enum b1 ⟨_, _, _, _, H1, rfl, I2, turn_enum (e := s1.heap.objs.size + 1) (it := s1.heap.objs.size) (a := a1) (Nat.succ_ne_self _) (Nat.ne_of_lt (Nat.lt_succ_of_lt lt1)) (Nat.ne_of_lt lt1), ⟨⟨_, b1⟩, b2⟩, fun b hb => ?_, k _ H1 Hf1 gr (yields_enum w1 w2)⟩
 have hb' : s1.heap.objs.size ≤ b := by
  simp only [List.mem_cons, List.not_mem_nil, or_false] at hb
  rcases hb with rfl | rfl
  ·exact Nat.le_add_right _ _
  ·exact Nat.le_refl _
 exact I1.fpOk hb' (I1.hok.fresh hb')
end
end G
namespace G
open PySem PySem.Spec PyProof.Rows L2
section
variable {prog : Program} {w : World} {A : Around} {E : Value → Shared → Prop} {s : Shared}
theorem setItem_slice2 {l b sl : Addr} {items new : Array Value} {n n2 : Nat} {vl vu : Value} {lo hi : Option Int} {Q : Unit → Shared → Prop}
    (e : s.heap.get? l = some { cls := .type "list", data := .seq items n }) (e2 : s.heap.get? b = some { cls := .type "list", data := .seq new n2 }) (hne : l ≠ b)
    (hs : s.heap.IsSliceOf sl vl vu .none) (pl : IsPart vl lo) (pu : IsPart vu hi) (hsz : items.size + new.size ≤ sizeLine)
    (h : Q () { s with heap := s.heap.update l (Obj.mapSeq fun xs => xs.extract 0 (HT.sIx items.size 0 lo) ++ new ++ xs.extract (max (HT.sIx items.size 0 lo) (HT.sIx items.size items.size hi)) xs.size) }) :
    wpAny (model prog w) A (setItem (.ref l) (.ref sl) (.ref b)) Q E s := by
  have hl : s.heap.IsList l items := PySem.IsL.isList e
  have hb : s.heap.IsList b new := PySem.IsL.isList e2
  obtain ⟨os, hos, hcs, hds⟩ := id hs
  have hTs : s.TypeIs (.ref sl) "slice" := ⟨os, hos, hcs⟩
  have hstep : ¬ ((rawPart none == rawInt 0) = true) := Bool.false_ne_true
  have hsame : Builtin.List.listSameRef (.ref l) (.ref b) = false := by
    unfold Builtin.List.listSameRef
    exact beq_eq_false_iff_ne.mpr hne
  have hbd : sliceBounds lo hi none items.size = (((HT.sIx items.size 0 lo : Nat) : Int), ((HT.sIx items.size items.size hi : Nat) : Int), 1) := by
    obtain ⟨h1, h2, h3⟩ := slice_bounds lo hi items.size
    exact Prod.ext h1 (Prod.ext h2 h3)
  have hmax : (max ((HT.sIx items.size 0 lo : Nat) : Int) ((HT.sIx items.size items.size hi : Nat) : Int)).toNat = max (HT.sIx items.size 0 lo) (HT.sIx items.size items.size hi) := by omega
  have hz' : ((fun xs : Array Value => xs.extract 0 (HT.sIx items.size 0 lo) ++ new ++ xs.extract (max (HT.sIx items.size 0 lo) (HT.sIx items.size items.size hi)) xs.size) items).size ≤ sizeLine + 1 := by
    simp only [Array.size_append, Array.size_extract]
    omega
  unfold setItem
  try with_reducible refine wpAny_holding ?_
  first | refine wpAny_bind (wpAny_pure ?_) | skip
  refine wpAny_bind (wpAny_sequenceKey hl.typeIs (by decide) ?_)
  refine wpAny_bind (wpAny_callSpecial?_slot (name := Str.ofString "__setitem__") hl.typeIs slot_list_setitem (wpAny_call_entry slot_list_setitem hl.typeIs entry_list_setitem ?_ (args_list_setitem _ _ _)))
  show wpAny _ _ (Builtin.List.listSubscript? (.ref sl) >>= _) _ _ s
  refine wpAny_bind ?_
  unfold Builtin.List.listSubscript?
  refine wpAny_bind (wpAny_specialOf hTs slice_no_index ?_)
  simp only [Option.isNone_none, if_true]
  refine wpAny_pure ?_
  show wpAny _ _ (typeOf (.ref sl) >>= _) _ _ s
  refine wpAny_bind (wpAny_typeOf hTs ?_)
  first
    | rw [if_neg (by decide)]
    | refine PySem.W.KFB.if_not (by decide) ?_
  rw [listSliceParts_eq]
  refine wpAny_bind (wpAny_bind (wpAny_field hos hds (x := .none) rfl (wpAny_bind (wpAny_listPart .none ?_))))
  rw [if_neg hstep]
  refine wpAny_bind (wpAny_field hos hds (x := vl) rfl (wpAny_bind (wpAny_listPart pl ?_)))
  refine wpAny_bind (wpAny_field hos hds (x := vu) rfl (wpAny_bind (wpAny_listPart pu (wpAny_pure ?_))))
  first
    | simp only [hsame, xft, if_false]
    | refine PySem.W.KFB.if_not hsame ?_
    | (dsimp only
       rw [if_neg (by rw [hsame]; exact Bool.false_ne_true)])
  refine wpAny_bind (m := Builtin.List.listAllItems (.ref b) "must assign iterable to extended slice") ?_
  unfold Builtin.List.listAllItems
  refine wpAny_bind (wpAny_typeOf hb.typeIs ?_)
  first
    | refine PySem.W.KFB.if_so (by decide) ?_
    | rw [if_pos (by decide)]
    | simp only [beq_self_eq_true, Bool.true_or, if_true]
  unfold Builtin.List.listItems
  refine wpAny_bind (wpAny_seqItems e2 rfl (wpAny_pure ?_))
  refine wpAny_bind (wpAny_bind (wpAny_seqItems e rfl (wpAny_pure ?_)))
  refine wpAny_bind (wpAny_of_eq ((sliceIndices_raw lo hi none items.size (by simp)).trans (congrArg (pure : Int × Int × Int → Sem (Int × Int × Int)) hbd)) ?_)
  show wpAny _ _ (if ((1 : Int) == 1) = true then _ else _) _ _ s
  rw [if_pos (by decide)]
  refine wpAny_bind (wpAny_rule ?_)
  first
    | simp only [notLongL hsz, xft, if_false]
    | refine PySem.W.KFB.if_not (notLongL hsz) ?_
  first | refine wpAny_bind (wpAny_pure ?_) | skip
  show wpAny _ _ (updateSeq l (fun xs => xs.extract 0 (((HT.sIx items.size 0 lo : Nat) : Int)).toNat ++ new ++ xs.extract (max ((HT.sIx items.size 0 lo : Nat) : Int) ((HT.sIx items.size items.size hi : Nat) : Int)).toNat xs.size) >>= _) _ _ s
  rw [hmax, Int.toNat_natCast]
  refine wpAny_bind (wpAny_updateSeq (hz := Nat.le_trans (Nat.le_add_right _ _) hsz) (_hz' := hz') e rfl ?_)
  refine wpAny_bind (wpAny_letGo ?_)
  first
    | exact wpAny_bind (wpAny_pure (wpAny_pure ⟨.none, rfl, wpAny_pure h⟩))
    | exact wpAny_pure ⟨.none, rfl, wpAny_pure h⟩
end
section
variable {X : Cx}
def splG {α : Type} (xs : List α) (lo hi : Option Int) (ys : List α) : List α := xs.take (HT.sIx xs.length 0 lo) ++ ys ++ xs.drop (max (HT.sIx xs.length 0 lo) (HT.sIx xs.length xs.length hi))
theorem set_slice2 {pins : List (Addr × Obj)} {s : Shared} {σ : L2.St} {H : Hp} {l b sl : Addr} {xs ys : List V} {lo hi : Option Int} {vl vu : Value} {Q : Unit → Shared → Prop} (I : Inv X pins σ H s)
  (hH : H l = some (.lst xs)) (hB : H b = some (.lst ys)) (hne : l ≠ b) (hs : s.heap.IsSliceOf sl vl vu .none) (pl : IsPart vl lo) (pu : IsPart vu hi)
  (hz : xs.length + ys.length ≤ sizeLine) (h : ∀ s', Inv X pins σ (upd H l (.lst (splG xs lo hi ys))) s' → Q () s') :
  wpAny (model X.prog X.w) X.A (setItem (.ref l) (.ref sl) (.ref b)) Q X.xe s := by
 obtain ⟨z, its, n, r, hl, e⟩ := I.lstM hH
 obtain ⟨z2, its2, n2, r2, hl2, e2⟩ := I.lstM hB
 refine setItem_slice2 e e2 hne hs pl pu (by rw [List.size_toArray, List.size_toArray]; omega) (h _ ?_)
 have hz0 : its.toArray.size = xs.length := by rw [List.size_toArray]; exact hl.symm
 refine I.lset (its' := its.take (HT.sIx xs.length 0 lo) ++ its2 ++ its.drop (max (HT.sIx xs.length 0 lo) (HT.sIx xs.length xs.length hi))) (t' := s.toks) hH e ?_ (Vals.append (Vals.append (r.take _) r2) (r.drop _)) ?_
 ·have e0 := splice_eq its its2 (HT.sIx xs.length 0 lo) (max (HT.sIx xs.length 0 lo) (HT.sIx xs.length xs.length hi))
  rw [hz0] at e0 ⊢
  exact e0
 ·unfold splG
  rw [List.length_append, List.length_append, List.length_take, List.length_drop]
  omega
theorem reps_spl {K : PySem.W.Frag} {H : Hp} {ds es : List D} {vs us : List V} (h : Reps K H ds vs) (g : Reps K H es us) (lo hi : Option Int) : Reps K H (splG ds lo hi es) (splG vs lo hi us) := by
 unfold splG
 rw [h.length]
 exact ((h.take _).append g).append (h.drop _)
theorem Slots.reOwn {K : PySem.W.Frag} {H0 H Hf : Hp} {ρ : Rho} {σ : L2.St} {i : Nat} {ds ds' : List D} {b : Addr} {vs' : List V} (sl : Slots K H0 ρ σ H Hf) (eo : ρ[i]? = some (some (.own ds))) (h1 : σ[i]? = some (some (.ref b))) (hf : Hf b = none) (h0 : H0 b = none) (r : Reps K Hf ds' vs') :
  Slots K H0 (ρ.set i (some (.own ds'))) σ (upd H b (.lst vs')) Hf := by
 refine ⟨by simpa using sl.len, fun j bb z => ?_, fun j k ds1 es c q1 q2 q3 q4 => ?_⟩
 ·by_cases qj : i = j
  ·subst qj
   have hi : i < ρ.length := (List.getElem?_eq_some_iff.mp eo).1
   rw [List.getElem?_set_self hi] at z
   cases z
   exact ⟨_, h1, b, vs', rfl, upd_same, hf, h0, r⟩
  ·rw [List.getElem?_set_ne qj] at z
   obtain ⟨u, z1, z2⟩ := sl.is j bb z
   refine ⟨u, z1, ?_⟩
   cases bb with
   | val d => exact z2
   | own dd =>
    obtain ⟨a', us', y1, y2, y3, y4, y5⟩ := z2
    have ne : a' ≠ b := fun zz => by
     subst zz y1
     exact qj (sl.apart i j ds dd a' eo z h1 z1)
    exact ⟨a', us', y1, by rw [upd_ne ne]; exact y2, y3, y4, y5⟩
 ·have f : ∀ (j : Nat) (es : List D), (ρ.set i (some (B.own ds')))[j]? = some (some (B.own es)) → ∃ dd : List D, ρ[j]? = some (some (B.own dd)) := fun j es q => by
   by_cases qj : i = j
   ·subst qj; exact ⟨ds, eo⟩
   ·rw [List.getElem?_set_ne qj] at q; exact ⟨_, q⟩
  obtain ⟨d1, q1'⟩ := f j _ q1
  obtain ⟨d2, q2'⟩ := f k _ q2
  exact sl.apart j k d1 d2 c q1' q2' q3 q4
def sSpl (i : Nat) (lo hi : Rho → Option (Option Int)) (f : Rho → Option (List D)) : DS := fun ρ => (f ρ).bind fun es => (lo ρ).bind fun l => (hi ρ).bind fun h => match ρ[i]? with
 | some (some (.own ds)) => if ds.length + es.length ≤ 16777216 then some (.nx (ρ.set i (some (.own (splG ds l h es))))) else none
 | _ => none
theorem js_spl (i : Nat) {x : Str} {e : Expr} {lo hi : Option Expr} {f : Rho → Option (List D)} {l h : Rho → Option (Option Int)} {p p2 pos' pos : Pos} (he : JN X e f) (hl : JO X lo l) (hh : JO X hi h) (hN : X.N[i]? = some x := by rfl)
  (hv : Vis X.env.scope x := by first | exact Or.inl rfl | exact Or.inr (Or.inl rfl) | exact Or.inr (Or.inr rfl)) (hd : (x == ("__debug__" : Str)) = false := by decide) (hcd : (x == ("__classdict__" : Str)) = false := by decide)
  (hsw : swapsWith e (some (.Subscript (.Name x p) (.Slice lo hi none p2) pos')) pos.line X.env = pure false := by rfl) : JS X (.Assign [.Subscript (.Name x p) (.Slice lo hi none p2) pos'] e pos) (sSpl i l h f) := fun ρ fl q H0 Hf0 => by
 obtain ⟨es, e1, q⟩ := Option.bind_eq_some_iff.mp q
 obtain ⟨y, e2, q⟩ := Option.bind_eq_some_iff.mp q
 obtain ⟨z, e3, q⟩ := Option.bind_eq_some_iff.mp q
 split at q
 ·rename_i ds eo
  split at q
  ·rename_i hz
   cases q
   intro pins s σ H En I ⟨Hf, a, ee⟩
   refine wpAny_Assign_Subscript (thn (he ρ es e1 pins s σ H (fun v H' => ∃ Hf', Grow H Hf H' Hf' ∧ ∃ b us, v = .ref b ∧ H b = none ∧ H' b = some (.lst us) ∧ Hf' b = none ∧ Reps X.K Hf' es us) I ⟨H0, Hf, a.gr.sub, a.sl, fun v H' Hf' g r => ⟨Hf', g, r⟩⟩) fun v s1 ⟨x1, H1, I1, r1, Hf1, g1, b, us, ev, b1, b2, b3, b4⟩ => ?_) hsw
   subst ev
   cases r1
   obtain ⟨vl0, h1, c, vs, ev, h2, h3, h4, h5⟩ := a.sl.is i _ eo
   subst ev
   refine thn (pe_var hN hv hd hcd pins s1 σ H1 (fun v H' => v = .ref c ∧ H' = H1) I1 ⟨_, h1, rfl, rfl⟩) fun ov s2 ⟨x2, H2, I2, r2, ex, eH⟩ => ?_
   subst ex eH
   cases r2
   have sl1 := a.sl.grow g1
   refine wpAny_Slice (thn (hl ρ y e2 pins s2 σ H2 (fun o H' => o = y ∧ ∃ Hf', Grow H2 Hf1 H' Hf') I2 ⟨H0, Hf1, g1.sub, sl1, fun H' Hf' g => ⟨rfl, Hf', g⟩⟩) fun wl s3 ⟨o3, H3, I3, pl, eo3, Hf3, g3⟩ => ?_)
   subst eo3
   have sl3 := sl1.grow g3
   refine thn (hh ρ z e3 pins s3 σ H3 (fun o H' => o = z ∧ ∃ Hf', Grow H3 Hf3 H' Hf') I3 ⟨H0, Hf3, g3.sub, sl3, fun H' Hf' g => ⟨rfl, Hf', g⟩⟩) fun wu s4 ⟨o4, H4, I4, pu, eo4, Hf4, g4⟩ => ?_
   subst eo4
   have sl4 := sl3.grow g4
   have gg : Grow H Hf H4 Hf4 := (g1.trans g3).trans g4
   rw [evalPart_none]
   refine wpAny_pure ?_
   have I5 : Inv X pins σ H4 { s4 with heap := s4.heap.push { cls := .type "slice", data := .fields #[wl, wu, .none] } } := I4.kept (t' := s4.toks) fun b ob q => Heap.get?_push_of_some _ q
   have hc : H4 c = some (.lst vs) := gg.big _ _ h2
   have hb : H4 b = some (.lst us) := (g3.trans g4).big _ _ b2
   have hcb : c ≠ b := fun zz => by subst zz; rw [h2] at b1; cases b1
   have hfc : Hf4 c = none := gg.nofr h2 h3
   have rd : Reps X.K Hf4 (splG ds o3 o4 es) (splG vs o3 o4 us) := reps_spl (h5.mono gg.ext) (b4.mono (g3.trans g4).ext) _ _
   refine set_slice2 I5 hc hb hcb (Heap.IsSliceOf.new ..) pl pu (by rw [h5.length, b4.length, sizeLine_eq]; exact hz) fun s' I' => ?_
   have ga := a.gr.trans gg
   refine ⟨σ, _, I', ee σ _ Hf4 ⟨⟨fun d u zz => ?_, fun d u zz => ?_, ga.ext, ga.new⟩, sl4.reOwn eo h1 hfc h4 rd⟩ gg.ext⟩
   ·rw [upd_ne (ne_of_none zz h4)]; exact ga.big d u zz
   ·rw [upd_ne (ne_of_none zz hfc)]; exact ga.sub d u zz
  ·cases q
 ·cases q
theorem js_ownC (i : Nat) {N' : List Str} {n : Nat} {caps : List Nat} {scope : Scope} {elt tgt iter : Expr} {ifs : List Expr} {pos pos' spos : Pos} {x : Str} {src : Rho → Option (List D)} {g : D → Rho → Option Rho} {c : Rho → Option Bool} {e : DE} (hN : X.N.Nodup) (S : CompSc X N' n caps scope) (hx : ∀ e s, X.xe e s → False)
  (hi : JI X tgt iter src) (hg : ∀ C s0 H0 ex, JG (compCx X N' scope C s0 H0 ex) tgt g) (ht : ∀ C s0 H0 ex, JTs (compCx X N' scope C s0 H0 ex) ifs c) (he : ∀ C s0 H0 ex, JE (compCx X N' scope C s0 H0 ex) elt e)
  (hi2 : X.N[i]? = some x := by rfl) (hl : X.env.scope.names.lookup x = some .local := by rfl) (hsw : swapsWith (.ListComp elt [⟨tgt, iter, ifs, 0⟩] scope pos) (some (.Name x pos')) spos.line X.env = pure true := by rfl)
  (hc : X.calm = true := by rfl) (hs : ∀ x, foldedSetIterable iter X.env x = pure x := by intro _; rfl) : JS X (.Assign [.Name x pos'] (.ListComp elt [⟨tgt, iter, ifs, 0⟩] scope pos) spos) (sOwn i (nComp n caps src g c e)) := fun ρ fl q H0 Hf0 => by
 obtain ⟨out, e1, e2⟩ := Option.map_eq_some_iff.mp q
 subst e2
 obtain ⟨ds, e3, k⟩ := comp_reads (K := X.K) e1
 refine ps_imp (ps_compAsg S hx hc hN hi2 hl (hi ρ ds e3) (g := tgJ X.K g) (tc := tcAny X.K c) (te := teAny X.K e) hg ht (fun C s0 H0 ex pins s σ H Q I ⟨ρ, d, e, t⟩ => he C s0 H0 ex ρ d e pins s σ H Q I t) hsw hs) fun En σ H ⟨Hf, a, ee⟩ => k σ H _ ⟨H0, Hf, a.gr.sub, a.sl, fun v H' Hf' gg ⟨p, vs, z1, z2, z3, z4, z5⟩ => ?_⟩
 subst z1
 exact ee _ H' Hf' ⟨a.gr.trans gg, a.sl.setOwn gg (a.gr.big.free z2) z2 z3 z4 z5⟩ gg.ext
def sCont : DS := fun ρ => some (.ct ρ)
theorem js_cont {pos : Pos} : JS X (.Continue pos) sCont := fun ρ fl q H0 Hf0 => by
 cases q
 exact ps_imp ps_continue fun En σ H ⟨Hf, a, e⟩ => e σ H Hf a (Same.refl _)
end
end G
namespace G
open PySem PySem.Spec PyProof.Rows L2
section
variable {X : Cx}
def repS (x : Str) (k : Int) : Str := if (k == 1 || x.length == 0) = true then x else ⟨(List.replicate k.toNat x.cps).foldl (· ++ ·) #[]⟩
def mulS (x y : D) : Option D := match x, y with
 | .str x, .int k => if 1 ≤ k ∧ k ≤ 2 ∧ x.length ≤ 1000 ∧ (repS x k).length ≤ 16777216 then some (.str (repS x k)) else none
 | _, _ => none
theorem od_mulS : OpD X (binaryOp .Mult) mulS := fun x y z h => by
 unfold mulS at h
 split at h
 ·split at h
  ·rename_i x k c
   cases h
   intro pins s σ H vx vy v u Q I rx ry ⟨Hf, ss, r1, r2, kk⟩
   cases r1
   cases r2
   obtain ⟨t, rfl⟩ := rx
   obtain ⟨t2, rfl⟩ := ry
   have w := kk (.str (repS x k)) H Hf (Grow.refl ss) rfl
   have k12 : k = 1 ∨ k = 2 := by omega
   refine P.mul_str (by rw [decide_eq_false (by omega), decide_eq_false (by omega)]; rfl) (fun _ _ => by rcases k12 with rfl | rfl <;> omega) (fun _ _ => ?_) ?_
   ·unfold Builtin.Str.tooLong
    rw [sizeLine_eq]
    refine decide_eq_false ?_
    rcases k12 with rfl | rfl <;> simp <;> omega
   ·rw [if_neg (by omega)]
    unfold repS at w c
    split
    ·rename_i e
     rw [if_pos e] at w
     exact ⟨.str x, H, I, ⟨_, rfl⟩, w⟩
    ·rename_i e
     rw [if_neg e] at w c
     exact ⟨by rw [sizeLine_eq]; exact c.2.2.2, .str _, H, I.tok _, ⟨_, rfl⟩, w⟩
  ·cases h
 ·cases h
def slS (x : Str) (lo hi : Option Int) : Str := if ((1 : Int) == 1 && (Builtin.Str.strSliceIndices lo hi 1 x.length).length == x.length) = true then x else ⟨((Builtin.Str.strSliceIndices lo hi 1 x.length).filterMap (x.cps[·]?)).toArray⟩
def dSlS (f : DE) (lo hi : Rho → Option (Option Int)) : DE := fun ρ => (f ρ).bind fun d => (lo ρ).bind fun l => (hi ρ).bind fun h => match d with
 | .str x => if x.length ≤ 1000 ∧ (slS x l h).length ≤ 16777216 then some (.str (slS x l h)) else none
 | _ => none
theorem part_of {u : Value} {o : Option Int} (h : IsPart u o) : ∃ p : Option (Int × Tok), u = partValue p ∧ p.map (·.1) = o := by
 cases h with
 | none => exact ⟨none, rfl, rfl⟩
 | int i t => exact ⟨some (i, t), rfl, rfl⟩
theorem sl_text : SlR X (fun x lo hi H Q => ∃ z, x = .str z ∧ (slS z lo hi).length ≤ 16777216 ∧ Q (.str (slS z lo hi)) H) := by
 intro pins s σ H x v vl vu lo hi sl Q I rx hs pl pu h
 obtain ⟨z, rfl, hz, q⟩ := h
 obtain ⟨t, rfl⟩ := rx
 obtain ⟨pl', rfl, rfl⟩ := part_of pl
 obtain ⟨pu', rfl, rfl⟩ := part_of pu
 refine ⟨"str", _, F.slot_str_getitem.lookup, typeIs_str s z t, wpAny_getItem_str_slice (l := pl') (u := pu') (st := none) hs rfl ?_⟩
 show (if ((1 : Int) == 1 && (Builtin.Str.strSliceIndices (pl'.map (·.1)) (pu'.map (·.1)) 1 z.length).length == z.length) = true then Made.val (.str z t) else Made.str ⟨((Builtin.Str.strSliceIndices (pl'.map (·.1)) (pu'.map (·.1)) 1 z.length).filterMap (z.cps[·]?)).toArray⟩).post _ _
 unfold slS at q hz
 by_cases e : ((1 : Int) == 1 && (Builtin.Str.strSliceIndices (pl'.map (·.1)) (pu'.map (·.1)) 1 z.length).length == z.length) = true
 ·rw [if_pos e] at q ⊢
  exact ⟨.str z, H, I, ⟨_, rfl⟩, q⟩
 ·rw [if_neg e] at q hz ⊢
  exact ⟨by rw [sizeLine_eq]; exact hz, .str _, H, I.tok _, ⟨_, rfl⟩, q⟩
theorem je_slS {a : Expr} {lo hi : Option Expr} {f : DE} {l h : Rho → Option (Option Int)} {pos p2 : Pos} (ha : JE X a f) (hl : JO X lo l) (hh : JO X hi h) : JE X (.Subscript a (.Slice lo hi none p2) pos) (dSlS f l h) := fun ρ d q => by
 obtain ⟨x, e1, q⟩ := Option.bind_eq_some_iff.mp q
 obtain ⟨y, e2, q⟩ := Option.bind_eq_some_iff.mp q
 obtain ⟨z, e3, q⟩ := Option.bind_eq_some_iff.mp q
 cases x with
 | str x =>
  simp only at q
  split at q
  ·rename_i c
   cases q
   refine pe_imp (pe_slice sl_text (ha ρ _ e1) (hl ρ y e2) (hh ρ z e3)) fun σ H Q ⟨H0, Hf, s, sl, k⟩ => ?_
   refine ⟨H0, Hf, s, sl, fun v H1 Hf1 g1 r1 => ⟨H0, Hf1, g1.sub, sl.grow g1, fun H2 Hf2 g2 => ⟨H0, Hf2, g2.sub, sl.grow (g1.trans g2), fun H3 Hf3 g3 => ?_⟩⟩⟩
   exact ⟨x, r1, c.2, k _ H3 Hf3 ((g1.trans g2).trans g3) rfl⟩
  ·cases q
 | _ => cases q
def sExt (i : Nat) (f : DE) : DS := fun ρ => match ρ[i]? with
 | some (some (.own ds)) => (f ρ).bind fun d => match d with
  | .list es => if ds.length + es.length ≤ 16777216 then some (.nx (ρ.set i (some (.own (ds ++ es))))) else none
  | _ => none
 | _ => none
end
end G
namespace Sh
open PySem PySem.Spec PyProof.Rows L2 G
def G_kind_of : DS := (sRet (dIx (qVar 0) (dC (.int 0))))
def F_kind_of : List D → Option D := runD G_kind_of 1
def G_is_layer : DS := (sRet (dBin eqD (dCall F_kind_of (aCons (dVar 0) aNil)) (dC (.str "layer"))))
def F_is_layer : List D → Option D := runD G_is_layer 1
def G_is_tone : DS := (sRet (dBin eqD (dCall F_kind_of (aCons (dVar 0) aNil)) (dC (.str "tone"))))
def F_is_tone : List D → Option D := runD G_is_tone 1
def G_manner_of : DS := (sRet (dIx (qVar 0) (dC (.int 2))))
def F_manner_of : List D → Option D := runD G_manner_of 1
def G_rule_of : DS := (sRet (dIx (qVar 0) (dC (.int 2))))
def F_rule_of : List D → Option D := runD G_rule_of 1
def G_strength_of : DS := (sRet (dIx (qVar 0) (dC (.int 3))))
def F_strength_of : List D → Option D := runD G_strength_of 1
def G_is_shown : DS := (sRet (dIx (qVar 0) (dC (.int 4))))
def F_is_shown : List D → Option D := runD G_is_shown 1
def G_left_of : DS := (sRet (dIx (qVar 0) (dC (.int 5))))
def F_left_of : List D → Option D := runD G_left_of 1
def G_top_of : DS := (sRet (dIx (qVar 0) (dC (.int 6))))
def F_top_of : List D → Option D := runD G_top_of 1
def G_mask_of : DS := (sRet (dIx (qVar 0) (dC (.int 7))))
def F_mask_of : List D → Option D := runD G_mask_of 1
def G_sheet_of : DS := (sRet (dIx (qVar 0) (dC (.int 8))))
def F_sheet_of : List D → Option D := runD G_sheet_of 1
def G_inner_nodes : DS := (sRet (dIx (qVar 0) (dC (.int 5))))
def F_inner_nodes : List D → Option D := runD G_inner_nodes 1
def G_masked_spot : DS := (sSeq (sSet 3 (dCall F_sheet_of (aCons (dVar 0) aNil))) (sSeq (sSet 4 (dCall F_mask_of (aCons (dVar 0) aNil))) (sSeq (sSet 5 (dCall F_spot_at (aCons (dVar 3) (aCons (dVar 1) (aCons (dVar 2) aNil))))) (sSeq (sIf (tOr2 (tB2 isB (dVar 4) (dC .none)) (tNot2 (tTru (dCall F_has_place (aCons (dVar 3) (aCons (dVar 1) (aCons (dVar 2) aNil))))))) (sRet (dVar 5)) sNil) (sRet (dCall F_weighted (aCons (dVar 5) (aCons (dIx (qVar 4) (dCall F_number_of_place (aCons (dVar 3) (aCons (dVar 1) (aCons (dVar 2) aNil))))) aNil))))))))
def F_masked_spot : List D → Option D := runD G_masked_spot 6
def G_brought (self : Nat → List D → Option D) : DS := (sSeq (sIf (tTru (dCall F_is_layer (aCons (dVar 0) aNil))) (sSet 3 (dCall F_masked_spot (aCons (dVar 0) (aCons (dBin subI (dVar 1) (dCall F_left_of (aCons (dVar 0) aNil))) (aCons (dBin subI (dVar 2) (dCall F_top_of (aCons (dVar 0) aNil))) aNil))))) (sSet 3 (dCall (self 2) (aCons (dCall F_inner_nodes (aCons (dVar 0) aNil)) (aCons (dVar 1) (aCons (dVar 2) aNil)))))) (sRet (dCall F_weighted (aCons (dVar 3) (aCons (dCall F_strength_of (aCons (dVar 0) aNil)) aNil)))))
def G_shown_above (self : Nat → List D → Option D) : DS := (sSeq (sIf (tNot2 (tTru (dCall F_is_shown (aCons (dVar 0) aNil)))) (sRet (dVar 1)) sNil) (sSeq (sIf (tTru (dCall F_is_tone (aCons (dVar 0) aNil))) (sRet (dCall F_toned (aCons (dCall F_rule_of (aCons (dVar 0) aNil)) (aCons (dVar 1) (aCons (dCall F_strength_of (aCons (dVar 0) aNil)) aNil))))) sNil) (sRet (dCall F_blended (aCons (dCall F_manner_of (aCons (dVar 0) aNil)) (aCons (dCall (self 0) (aCons (dVar 0) (aCons (dVar 2) (aCons (dVar 3) aNil)))) (aCons (dVar 1) aNil)))))))
def G_shown_by (self : Nat → List D → Option D) : DS := (sSeq (sSet 3 (dC (.tuple [(.tuple [(.int 0), (.int 1)]), (.tuple [(.int 0), (.int 1)]), (.tuple [(.int 0), (.int 1)]), (.tuple [(.int 0), (.int 1)])]))) (sSeq (sFor (iSeq (dVar 0)) (gSet 4) (sSet 3 (dCall (self 1) (aCons (dVar 4) (aCons (dVar 3) (aCons (dVar 1) (aCons (dVar 2) aNil))))))) (sRet (dVar 3))))
def F_bsb : Nat → Nat → List D → Option D
 | 0 => fun _ _ => none
 | k + 1 => fun i => match i with
  | 0 => runD (G_brought (F_bsb k)) 4
  | 1 => runD (G_shown_above (F_bsb k)) 4
  | 2 => runD (G_shown_by (F_bsb k)) 5
  | _ => fun _ => none
def F_brought (k : Nat) : List D → Option D := F_bsb k 0
def F_shown_above (k : Nat) : List D → Option D := F_bsb k 1
def F_shown_by (k : Nat) : List D → Option D := F_bsb k 2
def G_flat_at : DS := (sRet (dCall (F_shown_by 12) (aCons (dIx (qVar 0) (dC (.int 2))) (aCons (dVar 1) (aCons (dVar 2) aNil)))))
def F_flat_at : List D → Option D := runD G_flat_at 3
def G_flat : DS := (sSeq (sSetN 1 (nComp 2 [0] (iSeq (dCall F_places_of (aCons (dIx (qVar 0) (dC (.int 0))) (aCons (dIx (qVar 0) (dC (.int 1))) aNil)))) (gTupD 2 (gsCons (gSet 0) (gsCons (gSet 1) gsNil))) cTrue (dCall F_flat_at (aCons (dVar 2) (aCons (dVar 0) (aCons (dVar 1) aNil)))))) (sRet (dTup (aCons (dIx (qVar 0) (dC (.int 0))) (aCons (dIx (qVar 0) (dC (.int 1))) (aCons (dTupN (qVar 1)) aNil))))))
def F_flat : List D → Option D := runD G_flat 2
def G_l_names : DS := (sSeq (sSet 3 (dBin eqD (dCall F_l_drawn (aCons (dVar 0) (aCons (dVar 1) (aCons (dC (.int 2)) aNil)))) (dC (.int 0)))) (sSeq (sOwn 4 aNil) (sSeq (sFor (iRan1 (dVar 2)) (gSet 5) (sSeq (sSet 6 (dJoin (dC (.str "")) (qN (nComp 1 [0, 1, 5] (iRan1 (dC (.int 2))) (gSet 0) cTrue (dIxS (dC (.str "abcdefghijklmnopqrstuvwxyz")) (dCall F_l_drawn (aCons (dVar 1) (aCons (dBin catE (dBin catE (dBin catE (dVar 2) (dC (.int 1))) (dBin mulE (dC (.int 3)) (dVar 3))) (dVar 0)) (aCons (dC (.int 26)) aNil))))))))) (sSeq (sSet 6 (dBin mulS (dSlS (dVar 6) oNone (oSome (dCall F_l_drawn (aCons (dVar 0) (aCons (dBin catE (dBin catE (dVar 1) (dC (.int 3))) (dBin mulE (dC (.int 3)) (dVar 5))) (aCons (dC (.int 3)) aNil)))))) (dIx (qN (aCons (dC (.int 1)) (aCons (dC (.int 2)) aNil))) (dCall F_l_drawn (aCons (dVar 0) (aCons (dBin catE (dBin catE (dVar 1) (dC (.int 2))) (dBin mulE (dC (.int 3)) (dVar 5))) (aCons (dC (.int 2)) aNil))))))) (sApp 4 (dIx (qN (aCons (dBin catE (dVar 6) (dIxS (dC (.str "abcdefghijklmn")) (dVar 5))) (aCons (dBin catE (dIxS (dC (.str "abcdefghijklmn")) (dVar 5)) (dVar 6)) aNil))) (dInt (dVar 3))))))) (sFrz 4 (sRet (dVar 4))))))
def F_l_names : List D → Option D := runD G_l_names 7
def st_l_leaf_0 : DS := (sSet 4 (dCall F_l_share (aCons (dVar 0) (aCons (dVar 1) aNil))))
def st_l_leaf_1 : DS := (sSet 5 (dBin gtI (dCall F_l_drawn (aCons (dVar 0) (aCons (dBin catE (dVar 1) (dC (.int 3))) (aCons (dC (.int 6)) aNil)))) (dC (.int 0))))
def st_l_leaf_2 : DS := (sIf (tB2 eqD (dCall F_l_drawn (aCons (dVar 0) (aCons (dBin catE (dVar 1) (dC (.int 4))) (aCons (dC (.int 6)) aNil)))) (dC (.int 0))) (sRet (dTup (aCons (dC (.str "tone")) (aCons (dVar 2) (aCons (dIx (qN (aCons (dC (.str "turn")) (aCons (dC (.str "grey")) (aCons (dC (.str "round")) aNil)))) (dCall F_l_drawn (aCons (dVar 0) (aCons (dBin catE (dVar 1) (dC (.int 5))) (aCons (dC (.int 3)) aNil))))) (aCons (dVar 4) (aCons (dVar 5) aNil))))))) sNil)
def st_l_leaf_3 : DS := (sSet 6 (dIx (qN (aCons (dC (.str "over")) (aCons (dC (.str "multiply")) (aCons (dC (.str "screen")) (aCons (dC (.str "plus")) (aCons (dC (.str "atop")) (aCons (dC (.str "cut")) aNil))))))) (dCall F_l_drawn (aCons (dVar 0) (aCons (dBin catE (dVar 1) (dC (.int 5))) (aCons (dC (.int 6)) aNil))))))
def st_l_leaf_4 : DS := (sIf (tB2 gtI (dCall F_l_drawn (aCons (dVar 0) (aCons (dBin catE (dVar 1) (dC (.int 6))) (aCons (dC (.int 3)) aNil)))) (dC (.int 0))) (sSet 6 (dVar 3)) sNil)
def st_l_leaf_5 : DS := (sSet 7 (dBin catE (dC (.int 1)) (dCall F_l_drawn (aCons (dVar 0) (aCons (dBin catE (dVar 1) (dC (.int 7))) (aCons (dC (.int 3)) aNil))))))
def st_l_leaf_6 : DS := (sSet 8 (dBin catE (dC (.int 1)) (dCall F_l_drawn (aCons (dVar 0) (aCons (dBin catE (dVar 1) (dC (.int 8))) (aCons (dC (.int 3)) aNil))))))
def st_l_leaf_7 : DS := (sSet 9 (dC .none))
def st_l_leaf_8 : DS := (sIf (tB2 eqD (dCall F_l_drawn (aCons (dVar 0) (aCons (dBin catE (dVar 1) (dC (.int 9))) (aCons (dC (.int 3)) aNil)))) (dC (.int 0))) (sSet 9 (dTupN (qN (nComp 1 [0, 1] (iRan1 (dBin mulE (dVar 7) (dVar 8))) (gSet 0) cTrue (dCall F_l_share (aCons (dVar 1) (aCons (dBin catE (dBin catE (dVar 2) (dC (.int 20))) (dBin mulE (dC (.int 3)) (dVar 0))) aNil))))))) sNil)
def st_l_leaf_9 : DS := (sSet 10 (dBin subI (dCall F_l_drawn (aCons (dVar 0) (aCons (dBin catE (dVar 1) (dC (.int 10))) (aCons (dC (.int 4)) aNil)))) (dC (.int 1))))
def st_l_leaf_10 : DS := (sSet 11 (dBin subI (dCall F_l_drawn (aCons (dVar 0) (aCons (dBin catE (dVar 1) (dC (.int 11))) (aCons (dC (.int 4)) aNil)))) (dC (.int 1))))
def st_l_leaf_11 : DS := (sIf (tB2 eqD (dCall F_l_drawn (aCons (dVar 0) (aCons (dBin catE (dVar 1) (dC (.int 12))) (aCons (dC (.int 3)) aNil)))) (dC (.int 0))) (sAsg (dTup (aCons (dC (.int 3)) (aCons (dC (.int 3)) (aCons (dC (.int 0)) (aCons (dC (.int 0)) (aCons (dC .none) aNil)))))) (gTupD 5 (gsCons (gSet 7) (gsCons (gSet 8) (gsCons (gSet 10) (gsCons (gSet 11) (gsCons (gSet 9) gsNil))))))) sNil)
def st_l_leaf_12 : DS := (sSet 12 (dCall F_l_sheet (aCons (dVar 0) (aCons (dBin catE (dVar 1) (dC (.int 50))) (aCons (dVar 7) (aCons (dVar 8) aNil))))))
def st_l_leaf_13 : DS := (sRet (dTup (aCons (dC (.str "layer")) (aCons (dVar 2) (aCons (dVar 6) (aCons (dVar 4) (aCons (dVar 5) (aCons (dVar 10) (aCons (dVar 11) (aCons (dVar 9) (aCons (dVar 12) aNil)))))))))))
def G_l_leaf : DS := (sSeq st_l_leaf_0 (sSeq st_l_leaf_1 (sSeq st_l_leaf_2 (sSeq st_l_leaf_3 (sSeq st_l_leaf_4 (sSeq st_l_leaf_5 (sSeq st_l_leaf_6 (sSeq st_l_leaf_7 (sSeq st_l_leaf_8 (sSeq st_l_leaf_9 (sSeq st_l_leaf_10 (sSeq st_l_leaf_11 (sSeq st_l_leaf_12 st_l_leaf_13)))))))))))))
def F_l_leaf : List D → Option D := runD G_l_leaf 13
def G_l_nodes : DS := (sSeq (sSet 4 (dIx (qN (aCons (dC (.str "over")) (aCons (dC (.str "multiply")) (aCons (dC (.str "screen")) (aCons (dC (.str "plus")) aNil))))) (dCall F_l_drawn (aCons (dVar 0) (aCons (dVar 1) (aCons (dC (.int 4)) aNil)))))) (sSeq (sSet 5 (dCall F_l_drawn (aCons (dVar 0) (aCons (dBin catE (dVar 1) (dC (.int 1))) (aCons (dBin catE (dVar 2) (dC (.int 1))) aNil))))) (sSeq (sOwn 6 (nComp 1 [0, 4, 3, 1] (iRan1 (dVar 5)) (gSet 0) cTrue (dCall F_l_leaf (aCons (dVar 1) (aCons (dBin catE (dBin catE (dVar 4) (dC (.int 20))) (dBin mulE (dC (.int 170)) (dVar 0))) (aCons (dIx (qVar 3) (dVar 0)) (aCons (dVar 2) aNil))))))) (sSeq (sFor (iRan1 (dCall F_l_drawn (aCons (dVar 0) (aCons (dBin catE (dVar 1) (dC (.int 2))) (aCons (dC (.int 3)) aNil))))) (gSet 7) (sSeq (sSet 8 (dCall F_l_drawn (aCons (dVar 0) (aCons (dBin catE (dBin catE (dVar 1) (dC (.int 3))) (dBin mulE (dC (.int 5)) (dVar 7))) (aCons (dBin catE (dLen (qVar 6)) (dC (.int 1))) aNil))))) (sSeq (sSet 9 (dBin catE (dVar 8) (dCall F_l_drawn (aCons (dVar 0) (aCons (dBin catE (dBin catE (dVar 1) (dC (.int 4))) (dBin mulE (dC (.int 5)) (dVar 7))) (aCons (dC (.int 3)) aNil)))))) (sSeq (sSet 10 (dIx (qN (aCons (dTup (aCons (dC (.int 1)) (aCons (dC (.int 1)) aNil))) (aCons (dCall F_l_share (aCons (dVar 0) (aCons (dBin catE (dBin catE (dVar 1) (dC (.int 5))) (dBin mulE (dC (.int 5)) (dVar 7))) aNil))) aNil))) (dCall F_l_drawn (aCons (dVar 0) (aCons (dBin catE (dBin catE (dVar 1) (dC (.int 6))) (dBin mulE (dC (.int 5)) (dVar 7))) (aCons (dC (.int 2)) aNil)))))) (sSeq (sSet 11 (dIx (qN (aCons (dVar 4) (aCons (dC (.str "atop")) (aCons (dVar 4) (aCons (dC (.str "cut")) aNil))))) (dCall F_l_drawn (aCons (dVar 0) (aCons (dBin catE (dBin catE (dVar 1) (dC (.int 7))) (dBin mulE (dC (.int 5)) (dVar 7))) (aCons (dC (.int 4)) aNil)))))) (sSeq (sSet 12 (dTup (aCons (dC (.str "group")) (aCons (dIx (qVar 3) (dBin catE (dVar 2) (dVar 7))) (aCons (dVar 11) (aCons (dVar 10) (aCons (dBin gtI (dCall F_l_drawn (aCons (dVar 0) (aCons (dBin catE (dBin catE (dVar 1) (dC (.int 14))) (dVar 7)) (aCons (dC (.int 7)) aNil)))) (dC (.int 0))) aNil))))))) (sSpl 6 (oSome (dVar 8)) (oSome (dVar 9)) (aCons (dBin catE (dVar 12) (dTup (aCons (dTupN (qE (dSlQ (qVar 6) (oSome (dVar 8)) (oSome (dVar 9))))) aNil))) aNil)))))))) (sRet (dTupN (qVar 6)))))))
def F_l_nodes : List D → Option D := runD G_l_nodes 13
def G_l_picture : DS := (sSeq (sSet 4 (dBin catE (dC (.int 1)) (dCall F_l_drawn (aCons (dVar 0) (aCons (dVar 1) (aCons (dC (.int 3)) aNil)))))) (sSeq (sSet 5 (dBin catE (dC (.int 1)) (dCall F_l_drawn (aCons (dVar 0) (aCons (dBin catE (dVar 1) (dC (.int 1))) (aCons (dC (.int 3)) aNil)))))) (sRet (dTup (aCons (dVar 4) (aCons (dVar 5) (aCons (dCall F_l_nodes (aCons (dVar 0) (aCons (dBin catE (dVar 1) (dC (.int 2))) (aCons (dVar 2) (aCons (dVar 3) aNil))))) aNil)))))))
def F_l_picture : List D → Option D := runD G_l_picture 6
def G_l_brought (self : Nat → List D → Option D) : DS := (sSeq (sIf (tB2 eqD (dIx (qVar 0) (dC (.int 0))) (dC (.str "group"))) (sRet (dTupN (qN (nComp 1 [0] (iSeq (dCall (self 1) (aCons (dIx (qVar 0) (dC (.int 5))) (aCons (dVar 1) (aCons (dVar 2) aNil))))) (gSet 0) cTrue (dCall F_l_times (aCons (dVar 0) (aCons (dIx (qVar 1) (dC (.int 3))) aNil))))))) sNil) (sSeq (sAsg (dIx (qVar 0) (dC (.int 8))) (gTupD 3 (gsCons (gSet 3) (gsCons (gSet 4) (gsCons (gSet 5) gsNil))))) (sSeq (sSet 6 (dBin subI (dVar 1) (dIx (qVar 0) (dC (.int 5))))) (sSeq (sSet 7 (dBin subI (dVar 2) (dIx (qVar 0) (dC (.int 6))))) (sSeq (sIf (tOr2 (tNot2 (tTst (dChain leI ltI (dC (.int 0)) (dVar 6) (dVar 3)))) (tNot2 (tTst (dChain leI ltI (dC (.int 0)) (dVar 7) (dVar 4))))) (sRet (dBin mulE (dTup (aCons (dTup (aCons (dC (.int 0)) (aCons (dC (.int 1)) aNil))) aNil)) (dC (.int 4)))) sNil) (sSeq (sSet 8 (dIx (qVar 0) (dC (.int 3)))) (sSeq (sIf (tB2 notB (dIx (qVar 0) (dC (.int 7))) (dC .none)) (sSet 8 (dCall F_l_times (aCons (dVar 8) (aCons (dIx (qE (dIx (qVar 0) (dC (.int 7)))) (dBin catE (dBin mulE (dVar 7) (dVar 3)) (dVar 6))) aNil)))) sNil) (sRet (dTupN (qN (nComp 1 [8] (iSeq (dIx (qVar 5) (dBin catE (dBin mulE (dVar 7) (dVar 3)) (dVar 6)))) (gSet 0) cTrue (dCall F_l_times (aCons (dVar 0) (aCons (dVar 1) aNil))))))))))))))
def G_l_shown (self : Nat → List D → Option D) : DS := (sSeq (sSet 3 (dBin mulE (dTup (aCons (dTup (aCons (dC (.int 0)) (aCons (dC (.int 1)) aNil))) aNil)) (dC (.int 4)))) (sSeq (sFor (iSeq (dVar 0)) (gSet 4) (sIf (tAnd2 (tTru (dIx (qVar 4) (dC (.int 4)))) (tB2 eqD (dIx (qVar 4) (dC (.int 0))) (dC (.str "tone")))) (sSet 3 (dCall F_l_tone (aCons (dIx (qVar 4) (dC (.int 2))) (aCons (dVar 3) (aCons (dIx (qVar 4) (dC (.int 3))) aNil))))) (sIf (tTru (dIx (qVar 4) (dC (.int 4)))) (sSet 3 (dCall F_l_blend (aCons (dIx (qVar 4) (dC (.int 2))) (aCons (dCall (self 0) (aCons (dVar 4) (aCons (dVar 1) (aCons (dVar 2) aNil)))) (aCons (dVar 3) aNil))))) sNil))) (sRet (dVar 3))))
def F_lbs : Nat → Nat → List D → Option D
 | 0 => fun _ _ => none
 | k + 1 => fun i => match i with
  | 0 => runD (G_l_brought (F_lbs k)) 9
  | 1 => runD (G_l_shown (F_lbs k)) 5
  | _ => fun _ => none
def F_l_shown (k : Nat) : List D → Option D := F_lbs k 1
def G_l_flat : DS := (sSeq (sAsg (dVar 0) (gTupD 3 (gsCons (gSet 1) (gsCons (gSet 2) (gsCons (gSet 3) gsNil))))) (sRet (dTup (aCons (dVar 1) (aCons (dVar 2) (aCons (dTupN (qN (nComp 1 [3, 1] (iRan1 (dBin mulE (dVar 1) (dVar 2))) (gSet 0) cTrue (dCall (F_l_shown 12) (aCons (dVar 1) (aCons (dBin modI (dVar 0) (dVar 2)) (aCons (dBin divI (dVar 0) (dVar 2)) aNil))))))) aNil))))))
def F_l_flat : List D → Option D := runD G_l_flat 4
def G_l_stands : DS := (sSeq (sSet 1 (dCall F_l_picture (aCons (dVar 0) (aCons (dC (.int 30)) (aCons (dC (.int 4)) (aCons (dCall F_l_names (aCons (dVar 0) (aCons (dC (.int 0)) (aCons (dC (.int 6)) aNil)))) aNil)))))) (sSeq (sSet 2 (dCall F_l_flat (aCons (dVar 1) aNil))) (sSeq (sIf (tOr2 (tB2 neD (dCall F_flat (aCons (dVar 1) aNil)) (dVar 2)) (tB2 notB (dCall F_is_sheet (aCons (dVar 2) aNil)) (dC (.bool true)))) (sRet (dC (.bool false))) sNil) (sSeq (sFor (iEnum (qE (dIx (qVar 2) (dC (.int 2))))) (gTupD 2 (gsCons (gSet 3) (gsCons (gSet 4) gsNil))) (sIf (tB2 neD (dCall F_flat_at (aCons (dVar 1) (aCons (dBin modI (dVar 3) (dIx (qVar 1) (dC (.int 0)))) (aCons (dBin divI (dVar 3) (dIx (qVar 1) (dC (.int 0)))) aNil)))) (dVar 4)) (sRet (dC (.bool false))) sNil)) (sRet (dC (.bool true)))))))
def F_l_stands : List D → Option D := runD G_l_stands 5
end Sh
namespace G
open PySem PySem.Spec PyProof.Rows L2
section
variable {X : Cx}
def nCat (f g : Rho → Option (Bool × List D)) : Rho → Option (List D) := fun ρ => (f ρ).bind fun p => (g ρ).bind fun q => if p.1 = false ∧ q.1 = false ∧ p.2.length + q.2.length ≤ 16777216 then some (p.2 ++ q.2) else none
theorem jn_cat {a b : Expr} {f g : Rho → Option (Bool × List D)} {pos : Pos} (ha : JQ X a f) (hb : JQ X b g) : JN X (.BinOp a .Add b pos) (nCat f g) := fun ρ out q => by
 obtain ⟨⟨t1, xs⟩, e1, q⟩ := Option.bind_eq_some_iff.mp q
 obtain ⟨⟨t2, ys⟩, e2, q⟩ := Option.bind_eq_some_iff.mp q
 split at q
 ·rename_i c
  obtain ⟨c1, c2, c3⟩ := c
  simp only at c1 c2 c3
  subst c1 c2
  cases q
  refine pe_imp (pe_op op_catL (ha ρ _ _ e1) (hb ρ _ _ e2)) fun σ H Q ⟨H0, Hf, s, sl, k⟩ => ?_
  refine ⟨H0, Hf, s, sl, fun v H1 Hf1 g1 ⟨p, vs, z1, z2, z3⟩ => ⟨H0, Hf1, g1.sub, sl.grow g1, fun u H2 Hf2 g2 ⟨p', us, z1', z2', z3'⟩ => ?_⟩⟩
  subst z1 z1'
  refine ⟨p, p', vs, us, rfl, rfl, sqL_mono g2.big z2, z2', by rw [z3.length, z3'.length, sizeLine_eq]; exact c3, fun n hn => ?_⟩
  exact k _ _ _ ((g1.trans g2).trans (Grow.made g2.sub hn)) ⟨n, vs ++ us, rfl, (g1.trans g2).big.free hn, upd_same, g2.sub.free hn, (z3.mono g2.ext).append z3'⟩
 ·cases q
end
end G
namespace Sh
open PySem PySem.Spec PyProof.Rows L2 G
def G_is_group : DS := (sRet (dBin eqD (dCall F_kind_of (aCons (dVar 0) aNil)) (dC (.str "group"))))
def F_is_group : List D → Option D := runD G_is_group 1
def G_name_of : DS := (sRet (dIx (qVar 0) (dC (.int 1))))
def F_name_of : List D → Option D := runD G_name_of 1
def G_with_inner_nodes : DS := (sRet (dBin catE (dSlA (dVar 0) oNone (oSome (dC (.int 5)))) (dTup (aCons (dVar 1) aNil))))
def F_with_inner_nodes : List D → Option D := runD G_with_inner_nodes 2
def G_number_among : DS := (sSeq (sFor (iEnum (qE (dVar 0))) (gTupD 2 (gsCons (gSet 2) (gsCons (gSet 3) gsNil))) (sIf (tB2 eqD (dCall F_name_of (aCons (dVar 3) aNil)) (dVar 1)) (sRet (dVar 2)) sNil)) (sRet (dC .none)))
def F_number_among : List D → Option D := runD G_number_among 4
def G_tuple_with (self : List D → Option D) : DS := (sSeq (sIf (tB2 notB (dCall F_number_among (aCons (dVar 0) (aCons (dVar 1) aNil))) (dC .none)) (sRet (dVar 0)) sNil) (sSeq (sFor (iSeq (dVar 0)) (gSet 2) (sIf (tTru (dCall F_is_group (aCons (dVar 2) aNil))) (sSeq (sSet 3 (dCall self (aCons (dCall F_inner_nodes (aCons (dVar 2) aNil)) (aCons (dVar 1) aNil)))) (sIf (tB2 notB (dVar 3) (dC .none)) (sRet (dVar 3)) sNil)) sNil)) (sRet (dC .none))))
def F_tuple_with : Nat → List D → Option D
 | 0 => fun _ => none
 | k + 1 => runD (G_tuple_with (F_tuple_with k)) 4
def G_nodes_beside : DS := (sSeq (sSet 2 (dCall (F_tuple_with 12) (aCons (dIx (qVar 0) (dC (.int 2))) (aCons (dVar 1) aNil)))) (sSeq (sIf (tB2 isB (dVar 2) (dC .none)) sNever sNil) (sRet (dVar 2))))
def F_nodes_beside : List D → Option D := runD G_nodes_beside 3
def G_nodes_with_others (self : Nat → List D → Option D) : DS := (sSeq (sIf (tB2 notB (dCall F_number_among (aCons (dVar 0) (aCons (dVar 1) aNil))) (dC .none)) (sRet (dVar 2)) sNil) (sRet (dTupN (qN (nComp 1 [1, 2] (iSeq (dVar 0)) (gSet 0) cTrue (dCall (self 1) (aCons (dVar 0) (aCons (dVar 1) (aCons (dVar 2) aNil)))))))))
def G_node_with_others (self : Nat → List D → Option D) : DS := (sSeq (sIf (tNot2 (tTru (dCall F_is_group (aCons (dVar 0) aNil)))) (sRet (dVar 0)) sNil) (sRet (dCall F_with_inner_nodes (aCons (dVar 0) (aCons (dCall (self 0) (aCons (dCall F_inner_nodes (aCons (dVar 0) aNil)) (aCons (dVar 1) (aCons (dVar 2) aNil)))) aNil)))))
def F_nwo : Nat → Nat → List D → Option D
 | 0 => fun _ _ => none
 | k + 1 => fun i => match i with
  | 0 => runD (G_nodes_with_others (F_nwo k)) 3
  | 1 => runD (G_node_with_others (F_nwo k)) 3
  | _ => fun _ => none
def F_nodes_with_others (k : Nat) : List D → Option D := F_nwo k 0
def F_node_with_others (k : Nat) : List D → Option D := F_nwo k 1
def G_with_nodes_beside : DS := (sRet (dTup (aCons (dIx (qVar 0) (dC (.int 0))) (aCons (dIx (qVar 0) (dC (.int 1))) (aCons (dCall (F_nodes_with_others 12) (aCons (dIx (qVar 0) (dC (.int 2))) (aCons (dVar 1) (aCons (dVar 2) aNil)))) aNil)))))
def F_with_nodes_beside : List D → Option D := runD G_with_nodes_beside 3
def G_with_node : DS := (sSeq (sSet 3 (dCall F_nodes_beside (aCons (dVar 0) (aCons (dVar 1) aNil)))) (sSeq (sSet 4 (dCall F_number_among (aCons (dVar 3) (aCons (dVar 1) aNil)))) (sRet (dCall F_with_nodes_beside (aCons (dVar 0) (aCons (dVar 1) (aCons (dBin catE (dBin catE (dSlA (dVar 3) oNone (oSome (dVar 4))) (dTup (aCons (dVar 2) aNil))) (dSlA (dVar 3) (oSome (dBin catE (dVar 4) (dC (.int 1)))) oNone)) aNil)))))))
def F_with_node : List D → Option D := runD G_with_node 5
def G_l_all (self : List D → Option D) : DS := (sSeq (sOwn 1 aNil) (sSeq (sFor (iSeq (dVar 0)) (gSet 2) (sSeq (sApp 1 (dVar 2)) (sIf (tB2 eqD (dIx (qVar 2) (dC (.int 0))) (dC (.str "group"))) (sOwn 1 (nCat (qVar 1) (qE (dCall self (aCons (dIx (qVar 2) (dC (.int 5))) aNil))))) sNil))) (sFrz 1 (sRet (dVar 1)))))
def F_l_all : Nat → List D → Option D
 | 0 => fun _ => none
 | k + 1 => runD (G_l_all (F_l_all k)) 3
end Sh
namespace G
open PySem PySem.Spec PyProof.Rows L2
section
variable {X : Cx}
theorem ext_any (l b : Addr) (xs ys : Array Value) (n m : Nat) (dd : Option Addr) (sl : Array (Option Value)) (h0 : ¬(!xs.isEmpty && Builtin.List.listTooLong (xs.size + ys.size)) = true) (h1 : xs.size ≤ sizeLine) (h2 : xs.size + ys.size ≤ sizeLine + 1) :
  Meets (Builtin.«list.extend» ⟨[.ref l, .ref b], []⟩) (fun _ R s => s.heap.get? l = some { cls := .type "list", data := .seq xs n } ∧ s.heap.get? b = some ⟨.type "list", dd, .seq ys m, sl⟩ ∧
   R (.ok (.ret Value.none)) { s with heap := s.heap.update l (Obj.mapSeq fun x => x ++ ys), toks := s.toks }) :=
 .of_wp fun prog w A R s h => by
  obtain ⟨hp, g, d, tk, os⟩ := s
  obtain ⟨hl, hb, h⟩ := h
  have f1 := AutoSeq1.idx_int
  have f2 := AutoSeq1.sub_tuple_tuple
  have f3 := AutoSeq1.sub_list_list
  have f4 := AutoSeq1.sub_tuple_list
  have f5 := AutoSeq1.sub_list_tuple
  have hz' : (xs ++ ys).size ≤ sizeLine + 1 := by rw [Array.size_append]; exact h2
  wp_walk using (wpAny_updateSeq hl rfl (hz := h1) (_hz' := hz')), AutoSeq1.wpAny_loadPart' hl, AutoSeq1.wpAny_loadPart' hb
  exact ⟨_, rfl, h⟩
def rExt (K : PySem.W.Frag) : V → List V → Hp → VK → Prop := fun x vs H Q => ∃ l b xs zs, x = .ref l ∧ vs = [.ref b] ∧ H l = some (.lst xs) ∧ SqL K H b zs ∧ xs.length + zs.length ≤ sizeLine ∧ Q .non (upd H l (.lst (xs ++ zs)))
theorem mt_ext : MtM X "list.extend" (rExt X.K) := by
 intro pins s σ H x vs v us Q I rx rv h
 obtain ⟨l, b, xs, zs, rfl, rfl, hH, hB, hz, q⟩ := h
 cases rx
 obtain ⟨u, rfl, ru⟩ := rv.one
 cases ru
 obtain ⟨z, its, n, r, hl, e⟩ := I.lstM hH
 obtain ⟨its2, r2, pl, _⟩ := I.list hB
 obtain ⟨⟨cls, dd, data, sl⟩, ho, hc, m, hd⟩ := pl.isList
 simp only at hc hd
 subst hc hd
 have hl2 := r2.length
 have hsz : its.toArray.size + its2.toArray.size ≤ sizeLine := by rw [List.size_toArray, List.size_toArray]; omega
 have hlong : ¬ (!its.toArray.isEmpty && Builtin.List.listTooLong (its.toArray.size + its2.toArray.size)) = true := by
  rw [notLongL hsz, Bool.and_false]; exact Bool.false_ne_true
 refine call_meets F.slot_list_extend ⟨_, e, rfl⟩ F.entry_list_extend (F.args_list_extend_2 _ _) (ext_any l b its.toArray its2.toArray n m dd sl hlong (by rw [List.size_toArray]; omega) (by omega)) ⟨e, ho, ?_⟩
 refine ⟨.non, _, I.lset (its' := its ++ its2) hH e (by simp) (r.append r2) ?_, rfl, q⟩
 rw [List.length_append]; omega
theorem js_ext (i : Nat) {x : Str} {e : Expr} {f : DE} {p apos cpos pos : Pos} (h : JE X e f) (hN : X.N[i]? = some x) (hv : Vis X.env.scope x) (hd : (x == ("__debug__" : Str)) = false)
  (hcd : (x == ("__classdict__" : Str)) = false) (hline : (apos.endLine == cpos.line) = true) (hs : starEach [e] X.env = [(false, eval e X.env)]) :
  JS X (.Expr (.Call (.Attribute (.Name x p) "extend" apos) [e] [] cpos) pos) (sExt i f) := fun ρ fl q H0 Hf0 => by
 unfold sExt at q
 split at q
 ·rename_i ds eo
  obtain ⟨d, e1, q⟩ := Option.bind_eq_some_iff.mp q
  split at q
  ·rename_i es
   split at q
   ·rename_i hz
    cases q
    refine ps_imp (ps_expr (pe_bm PySem.F.plainAttrs_list PySem.F.slot_list_extend PySem.F.type_list_extend mt_ext (pe_var hN hv hd hcd) (pa_cons (h ρ _ e1) pa_nil hs) rfl (by rw [hs]; rfl) hline hs) rfl) fun En σ H ⟨Hf, a, ee⟩ => ?_
    obtain ⟨v, h1, b, vs, rfl, h2, h3, h4, h5⟩ := a.sl.is i _ eo
    refine ⟨_, h1, .inl ⟨rfl, vs, SqL.of h2⟩, H0, Hf, a.gr.sub, a.sl, fun w H' Hf' gg r => ?_⟩
    obtain ⟨b2, us, rfl, r1, r2⟩ := r
    have hb : H' b = some (.lst vs) := gg.big _ _ h2
    have hfb : Hf' b = none := gg.nofr h2 h3
    have g2 := a.gr.trans gg
    have sl2 := a.sl.grow gg
    refine ⟨b, b2, vs, us, rfl, rfl, hb, sqL_mono gg.sub r1, by rw [h5.length, r2.length, sizeLine_eq]; exact hz, ee _ _ Hf' ⟨⟨fun c u z => ?_, fun c u z => ?_, g2.ext, g2.new⟩, ?_⟩ gg.ext⟩
    ·rw [upd_ne (ne_of_none z h4)]; exact g2.big c u z
    ·rw [upd_ne (ne_of_none z hfb)]; exact g2.sub c u z
    ·exact sl2.reOwn eo h1 hfb h4 ((h5.mono gg.ext).append r2)
   ·cases q
  ·cases q
 ·cases q
end
end G
namespace G
open PySem PySem.Spec PyProof.Rows L2
def ddS1 (a : List Str) (x : Str) : List Str := if a.any (· == x) then a else a ++ [x]
def ddN (v : Nat → Str) (i : Nat) : List Str := ((List.range i).map v).foldl ddS1 []
def ddS (l : List Str) : List Str := l.foldl ddS1 []
theorem ddN_succ (v : Nat → Str) (i : Nat) : ddN v (i + 1) = ddS1 (ddN v i) (v i) := by
 unfold ddN
 rw [List.range_succ, List.map_append, List.foldl_append]
 rfl
theorem ddN_le (v : Nat → Str) : ∀ i, (ddN v i).length ≤ i
 | 0 => Nat.le_refl 0
 | i + 1 => by
  have ih := ddN_le v i
  rw [ddN_succ]
  unfold ddS1
  split
  ·omega
  ·rw [List.length_append, List.length_singleton]
   omega
theorem dd_any (a : List Str) (x y : Str) : (ddS1 a x).any (· == y) = (a.any (· == y) || decide (y = x)) := by
 unfold ddS1
 by_cases q : a.any (· == x) = true
 ·rw [if_pos q]
  by_cases e : y = x
  ·subst e; rw [q]; simp
  ·simp [e]
 ·rw [if_neg q, List.any_append]
  by_cases e : y = x
  ·subst e; simp
  ·have : (x == y) = false := by simpa [beq_iff_eq] using fun z : x = y => e z.symm
   simp [this, e]
theorem dd_len (a : List Str) (x : Str) : (ddS1 a x).length = if a.any (· == x) then a.length else a.length + 1 := by
 unfold ddS1
 split <;> simp
theorem ddN_eq (l : List Str) (d : Str) : ddN (fun i => l.getD i d) l.length = ddS l := by
 unfold ddN ddS
 congr 1
 refine List.ext_getElem? fun i => ?_
 rw [List.getElem?_map]
 by_cases hi : i < l.length
 ·rw [List.getElem?_range hi, List.getElem?_eq_getElem hi]
  simp [List.getD, List.getElem?_eq_getElem hi]
 ·rw [List.getElem?_eq_none (by simpa using hi), List.getElem?_eq_none (by simpa using hi)]
  rfl
section
variable {prog : Program} {w : World} {A : Around} {R : Result → Shared → Prop} {J : Addr} {fp wr : List Addr} {Gn : Array GenState → Array GenState → Prop} {n : Nat} {P : Nat → Value → Prop} {St : Nat → Shared → Prop}
theorem set_loop (W : WalksS prog w A.in1 J fp wr Gn n P St) (S : Addr) (hS1 : S ∉ fp) (v : Nat → Str) (hv : ∀ i u, P i u → ∃ t, u = .str (v i) t) (hb : n + 1 < scanBound) :
  ∀ (k i : Nat) (s : Shared), n - i = k → i ≤ n → St i s → s.heap.SetOf (strKind prog w) S (fun y => (ddN v i).any (· == y)) (ddN v i).length →
   (∀ s', Moved (S :: wr) Gn s s' → s'.heap.SetOf (strKind prog w) S (fun y => (ddN v n).any (· == y)) (ddN v n).length → R (.ok (.ret .none)) s') →
   codeAny (model prog w) A (.builtin "set.update.loop" ⟨[.ref S, .ref J], []⟩) R s := by
 have hS2 : S ∉ wr := fun z => hS1 (W.sub _ z)
 have more : ∀ b ∈ wr, b ∈ S :: wr := fun b z => List.mem_cons_of_mem _ z
 intro k
 induction k with
 | zero =>
  intro i s e1 e2 q1 q2 q3
  obtain rfl : i = n := by omega
  refine codeAny_builtin PyProof.Rows.F.entry_set_update_loop ?_
  rw [Around.under_plainId PyProof.Rows.F.plain_set_update_loop _]
  show wpAny _ _ (pyNext (.ref J) >>= _) _ _ _
  refine wpAny_bind (W.done s _ _ q1 fun s' mv => ?_)
  show wpAny _ _ (ret Value.none) _ _ _
  refine wpAny_pure (q3 s' (mv.mono more) ?_)
  obtain ⟨o, es, ep, tb, ho, more'⟩ := q2
  exact ⟨o, es, ep, tb, mv.heap S _ hS2 ho, more'⟩
 | succ k ih =>
  intro i s e1 e2 q1 q2 q3
  have lt : i < n := by omega
  refine codeAny_builtin PyProof.Rows.F.entry_set_update_loop ?_
  rw [Around.under_plainId PyProof.Rows.F.plain_set_update_loop _]
  show wpAny _ _ (pyNext (.ref J) >>= _) _ _ _
  refine wpAny_bind (W.item i s _ _ lt q1 fun u s' hP q1' mv => ?_)
  obtain ⟨t, rfl⟩ := hv i u hP
  have q2' : s'.heap.SetOf (strKind prog w) S (fun y => (ddN v i).any (· == y)) (ddN v i).length := by
   obtain ⟨o, es, ep, tb, ho, more'⟩ := q2
   exact ⟨o, es, ep, tb, mv.heap S _ hS2 ho, more'⟩
  show wpAny _ _ (holding [Value.str (v i) t] (setAdd S (.str (v i) t)) >>= _) _ _ _
  refine wpAny_bind (wpAny_holding ?_)
  unfold setAdd
  refine wpAny_holding (wpAny_bind ((strKind prog w).pyHash (k := v i) (strKind_is _ _ _ _) ?_))
  have room : (ddN v i).length + 1 < scanBound := by have := ddN_le v i; omega
  refine wpAny_setAddHashed_of (knd := strKind prog w) (s := { s' with toks := s'.toks + 1 }) (strKind_is _ _ _ _) rfl q2' room fun h' sb q4 => ?_
  have q5 : h'.SetOf (strKind prog w) S (fun y => (ddN v (i + 1)).any (· == y)) (ddN v (i + 1)).length := SetOf_congr q4 (fun y => by rw [ddN_succ, dd_any]) (by rw [ddN_succ, dd_len])
  refine wpAny_pure ⟨plainId_quiet PyProof.Rows.F.plain_set_update_loop _, ih (i + 1) _ (by omega) lt (W.frame _ s' _ _ q1' (Nat.le_succ _) fun b z o e => ?_) q5 fun s2 mv2 q6 => ?_⟩
  ·rw [sb.2 b (fun y : b = S => hS1 (by rw [← y]; exact z))]; exact e
  ·refine q3 s2 (Moved.trans W.gtrans ((mv.mono more).then_heap (Nat.le_succ _) fun b o z e => ?_) mv2) q6
   rw [sb.2 b (fun y : b = S => z (by rw [y]; exact List.mem_cons_self))]; exact e
end
section
variable {prog : Program} {w : World} {A : Around} {E : Value → Shared → Prop} {s : Shared}
abbrev newSet0 (b : Bool) : Obj := { cls := .type "set", dict := none, data := .set #[] 0 (.fresh 0 0 b) }
theorem set_of_strs {l : Addr} {its : Array Value} {xs : List Str} {Q : Value → Shared → Prop} (hh : A.handled = none) (hl : s.heap.IsList l its) (hi : ∀ (i : Nat) (u : Value), its[i]? = some u → ∃ t, u = .str (xs.getD i "") t) (hb : its.size + 1 < scanBound)
  (h : ∀ (h' : Heap) (tk : Nat), h'.SetOf (strKind prog w) s.heap.objs.size (fun y => (ddN (fun i => xs.getD i "") its.size).any (· == y)) (ddN (fun i => xs.getD i "") its.size).length →
   (∀ b o, b < s.heap.objs.size → s.heap.get? b = some o → h'.get? b = some o) → Q (.ref s.heap.objs.size) { s with heap := h', toks := tk }) :
  wpAny (model prog w) A (call (.type "set") [.ref l]) Q E s := by
 obtain ⟨c, tl, hmro⟩ := F.called_set.mro
 have hmade := F.called_set.made
 have hsub := F.called_set.sub
 refine wpAny_call (codeAny_of_tree ?_)
 show wpAny _ _ (callAny (.type "set") _) _ _ _
 refine wpAny_pure ⟨Code.quiet_builtin _ (by decide +kernel), codeAny_builtin F.entry_type_call ?_⟩
 rw [Around.under_plain (weight_type_call_type "set" [.ref l] []) rfl]
 have n1 := F.called_set.notType
 have n2 := F.called_set.canCreate
 have n3 := F.typeCall_set_1 (.ref l)
 repeat (any_goals (first | assumption | wp_step))
 refine codeAny_mono (code_set_new_1 (.ref l) (E := E) (Q₁ := fun ob s1 => ∃ b : Bool, ob = .ref s.heap.objs.size ∧ s1 = { s with heap := s.heap.push (newSet0 b) }) fun b => ⟨b, rfl, rfl⟩) fun r s1 hr => ?_
 cases r with
 | error e => exact hr
 | ok fl =>
  cases fl with
  | ret ob =>
   obtain ⟨b, rfl, rfl⟩ := hr
   have g0 : (s.heap.push (newSet0 b)).get? s.heap.objs.size = some (newSet0 b) := Heap.get?_push_size _ rfl
   have hT : Shared.TypeIs { s with heap := s.heap.push (newSet0 b) } (.ref s.heap.objs.size) "set" := ⟨_, g0, rfl⟩
   have li := F.called_set.init.lookup
   have bi := F.called_set.init.bind (.ref s.heap.objs.size)
   repeat (any_goals (first | assumption | wp_step))
   refine codeAny_mono (codeAny_call_builtin (R := wants (fun r s2 => r = .none ∧ ∃ h' tk, s2 = { s with heap := h', toks := tk } ∧ h'.SetOf (strKind prog w) s.heap.objs.size (fun y => (ddN (fun i => xs.getD i "") its.size).any (· == y)) (ddN (fun i => xs.getD i "") its.size).length ∧
     (∀ b o, b < s.heap.objs.size → s.heap.get? b = some o → h'.get? b = some o)) E) F.called_set.init.plain F.entry_set_init (check_set_init_1 hT ?_)) fun r2 s2 hr2 => ?_
   ·obtain ⟨⟨c0, d0, dt0, sl0⟩, hol, hcl, nl, hdl⟩ := hl
    simp only at hcl hdl
    subst hcl hdl
    have hol' : (s.heap.push (newSet0 b)).get? l = some { cls := .type "list", dict := d0, data := .seq its nl, slots := sl0 } := Heap.get?_push_of_some _ hol
    have f1 := F.sub_list_set
    have f2 := F.sub_list_frozenset
    have f3 : (Value.type "list" == Value.type "dict") = false := by decide
    have hl1 : (s.heap.push (newSet0 b)).IsList l its := ⟨_, hol', rfl, nl, rfl⟩
    unfold Builtin.«set.__init__» noKeywords Builtin.Frozenset.updateFrom
    generalize hPI : pyIter = PI
    wp_walk
    subst hPI
    refine wpAny_pyIter_list hl1 (wpAny_bind (wpAny_runValue ?_))
    have lS : l < s.heap.objs.size := Heap.lt_size hol
    have h3 : A.in1.in1.in1.handled = none := by simp [hh]
    have nI : l ≠ (s.heap.push (newSet0 b)).objs.size := by
     rw [Heap.size_push]
     exact Nat.ne_of_lt (Nat.lt_succ_of_lt lS)
    have nf : s.heap.objs.size ∉ [(s.heap.push (newSet0 b)).objs.size, l] := by
     rw [Heap.size_push]
     simp only [List.mem_cons, List.mem_singleton, List.not_mem_nil, or_false, not_or]
     exact ⟨Nat.ne_of_lt (Nat.lt_succ_self _), Nat.ne_of_gt lS⟩
    refine set_loop ((Walks.list h3 _ l nI its).toS) s.heap.objs.size nf (fun i => xs.getD i "") hi hb (its.size - 0) 0 _ (by omega) (Nat.zero_le _) ⟨⟨_, Heap.get?_push_size _ rfl, rfl, rfl⟩, (hl1.push _)⟩ ?hS0 ?hR
    case hS0 =>
     have gt : ((s.heap.push (newSet0 b)).push { cls := .type "list_iterator", data := .fields #[.ref l, .int 0 0] }).get? s.heap.objs.size = some (newSet0 b) := Heap.get?_push_of_some _ g0
     exact SetOf_congr ((setObjOf_fresh (knd := strKind prog w) b).setOf gt (by unfold scanBound; omega)) (fun _ => rfl) rfl
    case hR =>
     intro s' mv q
     obtain ⟨h', g', d', tk', os'⟩ := s'
     have eg : g' = s.gens := mv.gens
     have ed : d' = s.drawn := mv.drawn
     have eo : os' = s.os := mv.os
     subst eg ed eo
     show wpAny _ _ _ _ _ _
     refine wpAny_pure ?_
     show wpAny _ _ (ret Value.none) _ _ _
     refine wpAny_pure ⟨rfl, h', tk', rfl, q, fun c o hc e => ?_⟩
     have c1 : c ≠ s.heap.objs.size := Nat.ne_of_lt hc
     have c2 : c ≠ (s.heap.push (newSet0 b)).objs.size := by
      rw [Heap.size_push]
      exact Nat.ne_of_lt (Nat.lt_succ_of_lt hc)
     exact mv.heap c o (by simp only [List.mem_cons, List.mem_singleton, List.not_mem_nil, or_false, not_or]; exact ⟨c1, c2⟩) (Heap.get?_push_of_some _ (Heap.get?_push_of_some _ e))
   ·cases r2 with
    | error e => exact hr2
    | ok fl2 =>
     cases fl2 with
     | ret r =>
      obtain ⟨rfl, h', tk, rfl, q1, q2⟩ := hr2
      repeat (any_goals (first | assumption | wp_step))
      exact h _ _ q1 q2
     | _ => exact hr2.elim
  | _ => exact hr.elim
end
end G
namespace G
open PySem PySem.Spec PyProof.Rows L2
section
variable {X : Cx}
def SetO (X : Cx) (a : Addr) (n : Nat) : HO := .ext fun h => ∃ S, h.SetOf (strKind X.prog X.w) a S n
theorem bb_set : bootBuiltins "set" = some (.type "set") := by decide +kernel
theorem vals_str : ∀ {ys : List Str} {us : List Value}, Vals (ys.map V.str) us → ∀ (i : Nat) (u : Value), us[i]? = some u → ∃ t, u = .str (ys.getD i "") t
 | [], [], _, i, u, h => by simp at h
 | y :: ys, u :: us, h, i, v, e => by
  cases h with
  | cons a b =>
   cases i with
   | zero =>
    simp only [xg0, Option.some.injEq] at e
    subst e
    obtain ⟨t, e⟩ := a
    exact ⟨t, e⟩
   | succ i =>
    simp only [xg1] at e
    obtain ⟨t, e'⟩ := vals_str b i v e
    exact ⟨t, e'⟩
theorem call_setS (hc : X.calm = true) : CallR X (.type "set") (fun xs H Q => ∃ p ys, xs = [.ref p] ∧ SqL X.K H p (ys.map V.str) ∧ ys.length ≤ 4000 ∧ ∀ l, H l = none → Q (.ref l) (upd H l (SetO X l (ddS ys).length))) := by
 intro pins s σ H xs us Q I r h
 obtain ⟨p, ys, rfl, hq, hz, q⟩ := h
 obtain ⟨u, rfl, rx⟩ := vals1 r
 cases rx
 obtain ⟨its, rv, pl, _⟩ := I.list hq
 have hl : its.length = ys.length := by have := rv.length; rw [List.length_map] at this; exact this.symm
 have hs : its.toArray.size = ys.length := by rw [List.size_toArray]; exact hl
 refine set_of_strs (xs := ys) (I.ok.hd hc) pl.isList (fun i u e => vals_str rv i u (by rw [List.getElem?_toArray] at e; exact e)) (by rw [hs]; unfold scanBound; omega) fun h' tk q1 q2 => ?_
 rw [hs, ddN_eq] at q1
 refine ⟨.ref _, _, I.laid (a := s.heap.objs.size) (o := SetO X s.heap.objs.size (ddS ys).length) (h' := h') (t' := tk) (fun b o e => q2 b o (Heap.lt_size e) e) (Nat.le_refl _) ⟨⟨_, q1⟩, ?_, ?_⟩, rfl, q _ I.fresh⟩
 ·obtain ⟨o, es, ep, t, ho, _⟩ := q1
  exact ⟨o, ho⟩
 ·intro h1 h2 ⟨S, o, es, ep, t, ho, rest⟩ k
  exact ⟨S, o, es, ep, t, k o ho, rest⟩
theorem call_lenS : CallR X (.builtin "len") (fun xs H Q => ∃ p n, xs = [.ref p] ∧ H p = some (SetO X p n) ∧ Q (.int n) H) := by
 intro pins s σ H xs us Q I r h
 obtain ⟨p, n, rfl, hp, q⟩ := h
 obtain ⟨u, rfl, rx⟩ := vals1 r
 cases rx
 obtain ⟨⟨S, o, es, ep, t, ho, hex, hd, _, _, hb, hf, hn⟩, _, _⟩ := I.hok p _ hp
 have : es.size < 4096 := hb
 exact call_len_set ho hex hd hf (by omega) ⟨.int n, H, I.tok _, ⟨_, by rw [hn]⟩, q⟩
def dLenSet (f : Rho → Option (Bool × List D)) : DE := fun ρ => (f ρ).bind fun q => if q.1 = true then none else (strsD q.2).bind fun ys => if ys.length ≤ 4000 then some (.int (ddS ys).length) else none
theorem je_lenset {e : Expr} {f : Rho → Option (Bool × List D)} {p p2 pos pos2 : Pos} (hg : Gl X "len") (hm : X.mg "len" = none) (hg2 : Gl X "set") (hm2 : X.mg "set" = none) (h : JQ X e f) (hc : X.calm = true) (he : starEach [e] X.env = [(false, eval e X.env)]) :
  JE X (.Call (.Name "len" p) [.Call (.Name "set" p2) [e] [] pos2] [] pos) (dLenSet f) := fun ρ d q => by
 obtain ⟨⟨t, ds⟩, h1, q⟩ := Option.bind_eq_some_iff.mp q
 split at q
 ·cases q
 ·rename_i ht
  have ht : t = false := by simpa using ht
  subst ht
  obtain ⟨ys, h2, q⟩ := Option.bind_eq_some_iff.mp q
  split at q
  ·rename_i hz
   cases q
   refine pe_imp (pe_callB call_lenS hg hm bb_len (pa_cons (pe_callTy (call_setS hc) hg2 hm2 bb_set (pa_cons (h ρ false ds h1) pa_nil he) (he := he)) pa_nil rfl)) fun σ H Q ⟨H0, Hf, s, sl, k⟩ => ?_
   refine ⟨H0, Hf, s, sl, fun v H1 Hf1 g1 ⟨a, vs, e1, e2, e3⟩ => ⟨a, ys, by rw [e1], ?_, hz, fun l hl => ⟨l, _, rfl, upd_same, ?_⟩⟩⟩
   ·rw [← reps_strs h2 e3]; exact e2
   ·exact k _ _ _ (g1.trans (Grow.made g1.sub hl)) rfl
  ·cases q
end
end G
namespace G
open PySem PySem.Spec PyProof.Rows L2
section
variable {X : Cx}
def hasS (x y : Str) : Bool := !(Builtin.Str.occurrences y x 0 y.length 1).isEmpty
def inS (neg : Bool) (x y : D) : Option D := match x, y with
 | .str i, .str j => some (.bool (if neg then !hasS i j else hasS i j))
 | _, _ => none
theorem od_inS : OpD X (compareOp .In) (inS false) := fun x y z h => by
 cases x <;> cases y <;> first | (cases h; done) | skip
 rename_i i j
 cases h
 refine OpR.imp op_in_str fun vx vy H Q ⟨Hf, s, rx, ry, k⟩ => ?_
 cases rx
 cases ry
 exact ⟨i, j, rfl, rfl, k _ H Hf (Grow.refl s) rfl⟩
theorem od_notinS : OpD X (compareOp .NotIn) (inS true) := fun x y z h => by
 cases x <;> cases y <;> first | (cases h; done) | skip
 rename_i i j
 cases h
 refine OpR.imp op_notin_str fun vx vy H Q ⟨Hf, s, rx, ry, k⟩ => ?_
 cases rx
 cases ry
 exact ⟨i, j, rfl, rfl, k _ H Hf (Grow.refl s) rfl⟩
def dLenS (f : DE) : DE := fun ρ => (f ρ).bind fun d => match d with
 | .str x => if x.length ≤ 16777216 then some (.int x.length) else none
 | _ => none
theorem je_lenS {e : Expr} {f : DE} {p pos : Pos} (hg : Gl X "len") (hm : X.mg "len" = none) (h : JE X e f) (he : starEach [e] X.env = [(false, eval e X.env)]) : JE X (.Call (.Name "len" p) [e] [] pos) (dLenS f) := fun ρ d q => by
 obtain ⟨y, h1, h2⟩ := Option.bind_eq_some_iff.mp q
 obtain ⟨x, rfl⟩ : ∃ x, y = .str x := by
  cases y with
  | str x => exact ⟨x, rfl⟩
  | _ => cases h2
 have h2 : (if x.length ≤ 16777216 then some (PyData.int x.length) else none) = some d := h2
 split at h2
 ·rename_i hz
  cases h2
  refine pe_imp (pe_callB call_len_str hg hm bb_len (pa_cons (h ρ _ h1) pa_nil he) (he := he)) fun σ H Q ⟨H0, Hf, s, sl, k⟩ => ?_
  refine ⟨H0, Hf, s, sl, fun v H1 Hf1 g1 r => ⟨x, ?_, by rw [sizeLine_eq]; exact hz, k _ H1 Hf1 g1 rfl⟩⟩
  cases r; rfl
 ·cases h2
def Its (x : Str) : It := ⟨fun i _ => i < x.cps.size, fun i H v H' => H' = H ∧ ∃ c, x.cps[i]? = some c ∧ v = .str ⟨#[c]⟩, fun i _ => x.cps.size ≤ i⟩
theorem turn_str {P : Program} {w : World} {K : PySem.W.Frag} {tg : Expr} (x : Str) (t : Tok) (it : Addr) : Turn P w K tg (Its x) [it] it (fun i h => h.IsStrIter it "str_ascii_iterator" x t i) where
 mem := by simp
 obj := fun i h st b hb => by
  have e : b = it := by simpa using hb
  subst e
  obtain ⟨o, e, c, d⟩ := st
  exact ⟨o, e, fun v z => by rw [d] at z; cases z⟩
 keep := fun i h h' st k => by
  obtain ⟨o, e, r⟩ := st
  exact ⟨o, k it (by simp) o e, r⟩
 item := by
  intro X hP hw hK hc i pins s σ H E I hf st hg
  subst hP hw hK
  obtain ⟨f0, f1, f2, f3, f4, f5⟩ := hf it (by simp)
  have hi : i < x.cps.size := hg
  refine wpAny_pyNext_ascii_item st (c := x.cps[i]) (by simp [hi]) fun h' st' sb => ?_
  have I1 : Inv X pins σ H { s with heap := h', toks := s.toks + 1 } := I.turned (t' := s.toks + 1) (fun b o hb e => (sb.2 b hb).trans e) f0 f1 f3 f4 f5
  obtain ⟨o, e, c, d⟩ := id st'
  exact ⟨_, rfl, go_of (s := { s with heap := h', toks := s.toks + 1 }) e c d (by decide) ⟨.str ⟨#[x.cps[i]]⟩, H, I1, ⟨_, rfl⟩, ⟨rfl, _, by simp [hi], rfl⟩, st', fun b hb => (hf b hb).1⟩⟩
 done := by
  intro X hP hw hK hc i pins s σ H E I hf st hg
  subst hP hw hK
  obtain ⟨f0, f1, f2, f3, f4, f5⟩ := hf it (by simp)
  have hi : x.cps.size ≤ i := hg
  exact wpAny_pyNext_ascii_end (I.ok.hd hc) st (by simp [hi]) fun h' eb => ⟨rfl, I.turned (t' := s.toks) (fun b o hb e => eb b o hb e) f0 f1 f3 f4 f5⟩
 self := fun _ _ _ _ _ st h => wpAny_pyIter_striter_ascii st h
def signs (x : Str) : List D := x.cps.toList.map fun c => .str ⟨#[c]⟩
def iStr (f : DE) : Rho → Option (List D) := fun ρ => (f ρ).bind fun d => match d with
 | .str x => if x.cps.all (· < 128) = true then some (signs x) else none
 | _ => none
theorem ji_str {tg e : Expr} {f : DE} (h : JE X e f) : JI X tg e (iStr f) := fun ρ ds q => by
 obtain ⟨d, e1, e2⟩ := Option.bind_eq_some_iff.mp q
 obtain ⟨x, rfl⟩ : ∃ x, d = .str x := by
  cases d with
  | str x => exact ⟨x, rfl⟩
  | _ => cases e2
 have e2 : (if x.cps.all (· < 128) = true then some (signs x) else none) = some ds := e2
 split at e2
 ·rename_i ha
  cases e2
  intro pins s σ H R I ⟨H0, Hf, ss, sl, k⟩
  refine thn (h ρ _ e1 pins s σ H (fun v H' => ∃ Hf', Grow H Hf H' Hf' ∧ v = .str x) I ⟨H0, Hf, ss, sl, fun v H' Hf' g r => ⟨Hf', g, r⟩⟩) fun v s1 ⟨y, H1, I1, r1, Hf1, g1, ey⟩ => ?_
  subst ey
  obtain ⟨t, rfl⟩ := r1
  refine wpAny_pyIter_ascii ha ?_
  have I2 : Inv X pins σ H1 { s1 with heap := s1.heap.push { cls := .type "str_ascii_iterator", data := .fields #[.str x t, .int 0 0] } } := I1.kept (t' := s1.toks) fun b u e => Heap.get?_push_of_some _ e
  refine ⟨_, _, _, Its x, H1, rfl, I2, turn_str x t s1.heap.objs.size, ⟨_, Heap.get?_push_size _ rfl, rfl, rfl⟩, fun b hb => ?_, k _ H1 Hf1 g1 fun i H' Hf' sa sb => ⟨fun hi => ?_, fun d hd => ?_⟩⟩
  ·have hb' : s1.heap.objs.size ≤ b := by rw [List.mem_singleton] at hb; rw [hb]; exact Nat.le_refl _
   exact I1.fpOk hb' (I1.hok.fresh hb')
  ·show x.cps.size ≤ i
   simpa [signs] using hi
  ·unfold signs at hd
   rw [List.getElem?_map] at hd
   obtain ⟨c, c1, c2⟩ := Option.map_eq_some_iff.mp hd
   have c1' : x.cps[i]? = some c := by rw [← Array.getElem?_toList]; exact c1
   refine ⟨(Array.getElem?_eq_some_iff.mp c1').1, fun v H'' ⟨h1, c', h2, h3⟩ => ?_⟩
   subst h1 h3 c2
   rw [c1'] at h2
   cases h2
   exact ⟨Hf', Grow.refl sb, rfl⟩
 ·cases e2
end
end G
namespace G
open PySem PySem.Spec PyProof.Rows L2
abbrev FnD := List D → Option D
structure Sg where
 fn : List (Str × FnD × Nat)
 cs : List (Str × D)
 bl : List Str
structure Kx where
 N : List Str
 sc : Scope
 df : Bool
 own : List Nat
 cpt : List Nat
 tx : List Nat
 old : Bool
 fz : List (Nat × List Nat)
 hc : List ((Nat × Nat) × List Nat)
def FnIs (X : Cx) (x : Str) (F : FnD) (n : Nat) : Prop := ∃ (k : Nat) (f : Addr) (fd : FuncData) (ps : List Str), FnOk X.prog X.w X.K X.mg X.base CX0 k f fd ps (spF X.K n F) ∧ Room k X.A ∧ X.mg x = some (.ref f) ∧ PySem.W.keepIn X.K (.ref f) = true ∧ Binds X.K fd ps []
structure Fit (S : Sg) (c : Kx) (X : Cx) : Prop where
 N : X.N = c.N
 sc : X.env.scope = c.sc
 nd : c.N.Nodup
 calm : X.calm = true
 xe : X.xe = fun _ _ => False
 units : X.A.units + 64 < cLine
 df : c.df = true → (∀ x, X.fn x = true) ∧ c.sc.kind = .function
 fns : ∀ x F n, S.fn.lookup x = some (F, n) → FnIs X x F n
 css : ∀ x d, S.cs.lookup x = some d → ∃ u, KRep X.K d u ∧ X.mg x = some u
 bls : ∀ x, S.bl.contains x = true → X.mg x = none
def pl : Expr → Bool
 | .Starred .. => false
 | .Slice .. => false
 | .Set .. => false
 | _ => true
def noCall : Expr → Bool
 | .Call .. => false
 | _ => true
def isC : Expr → Bool
 | .ListComp .. => true
 | .SetComp .. => true
 | .DictComp .. => true
 | _ => false
def plT : Expr → Bool
 | .UnaryOp .. => false
 | .BoolOp .. => false
 | .IfExp .. => false
 | .Compare .. => false
 | _ => true
def ixOf (x : Str) : List Str → Option Nat
 | [] => none
 | y :: r => if y == x then some 0 else (ixOf x r).map (· + 1)
theorem ixOf_get {x : Str} : ∀ {l : List Str} {i : Nat}, ixOf x l = some i → l[i]? = some x
 | [], i, h => by cases h
 | y :: r, i, h => by
  unfold ixOf at h
  split at h
  ·rename_i e
   cases h
   simp only [beq_iff_eq] at e
   subst e; rfl
  ·obtain ⟨j, h1, h2⟩ := Option.map_eq_some_iff.mp h
   subst h2
   simpa using ixOf_get h1
def nodupB : List Str → Bool
 | [] => true
 | x :: r => !(r.contains x) && nodupB r
theorem nodupB_of : ∀ {l : List Str}, nodupB l = true → l.Nodup
 | [], _ => List.nodup_nil
 | x :: r, h => by
  unfold nodupB at h
  simp only [Bool.and_eq_true, Bool.not_eq_true'] at h
  refine List.nodup_cons.mpr ⟨fun z => ?_, nodupB_of h.2⟩
  have := h.1
  rw [List.contains_iff_mem.mpr z] at this
  cases this
def visB (sc : Scope) (x : Str) : Bool := (match sc.names.lookup x with | some .local => true | some .cell => true | some .free => true | _ => false) && !(x == ("__debug__" : Str)) && !(x == ("__classdict__" : Str))
def locB (c : Kx) (x : Str) : Bool := (match c.sc.names.lookup x with | some .local => true | some .cell => c.df | _ => false)
def glbB (sc : Scope) (x : Str) : Bool := (match sc.names.lookup x with | some .globalImplicit => true | _ => false) && !(x == ("__debug__" : Str))
def biB (S : Sg) (c : Kx) (w x : Str) : Bool := x == w && S.bl.contains w && glbB c.sc w
section
variable {X : Cx} {S : Sg} {c : Kx}
theorem visB_of {x : Str} (F : Fit S c X) (h : visB c.sc x = true) : Vis X.env.scope x ∧ (x == ("__debug__" : Str)) = false ∧ (x == ("__classdict__" : Str)) = false := by
 unfold visB at h
 simp only [Bool.and_eq_true, Bool.not_eq_true'] at h
 obtain ⟨⟨h1, h2⟩, h3⟩ := h
 refine ⟨?_, h2, h3⟩
 rw [F.sc]
 unfold Vis
 split at h1
 ·rename_i e; exact .inl e
 ·rename_i e; exact .inr (.inl e)
 ·rename_i e; exact .inr (.inr e)
 ·cases h1
theorem locB_of {x : Str} (F : Fit S c X) (h : locB c x = true) : L2.Loc X.env.scope x ∧ (X.fn x = true ∨ X.env.scope.names.lookup x = some .local) := by
 unfold locB at h
 rw [F.sc]
 unfold L2.Loc
 split at h
 ·rename_i e; exact ⟨.inl e, .inr e⟩
 ·rename_i e; exact ⟨.inr e, .inl ((F.df h).1 x)⟩
 ·cases h
theorem glbB_of {x : Str} (F : Fit S c X) (h : glbB c.sc x = true) : Gl X x ∧ (x == ("__debug__" : Str)) = false := by
 unfold glbB at h
 simp only [Bool.and_eq_true, Bool.not_eq_true'] at h
 refine ⟨?_, h.2⟩
 unfold Gl Env.kindOf
 rw [F.sc]
 have h1 := h.1
 split at h1
 ·rename_i e; exact e
 ·cases h1
theorem biB_of {w x : Str} (F : Fit S c X) (h : biB S c w x = true) : x = w ∧ Gl X w ∧ X.mg w = none := by
 unfold biB at h
 simp only [Bool.and_eq_true, beq_iff_eq] at h
 exact ⟨h.1.1, (glbB_of F h.2).1, F.bls _ h.1.2⟩
theorem pl_star {e : Expr} (h : pl e = true) (es : List Expr) (env : Env) : starEach (e :: es) env = (false, eval e env) :: starEach es env := by
 cases e <;> first | rfl | cases h
theorem pl_ix {e : Expr} (h : pl e = true) : PlainIx e := by
 intro o i
 cases e <;> first | rfl | cases h
theorem pl_mark {e : Expr} (h : pl e = true) (op : CmpOp) : behindInMarks op e = false := by
 cases e <;> first | rfl | cases h
theorem pl_fold {e : Expr} (h : pl e = true) (env : Env) (x : Value) : foldedSetIterable e env x = pure x := by
 cases e <;> first | rfl | cases h
theorem noCall_base {o : Expr} (h : noCall o = true) (attr : Str) (env : Env) (t : Sem Value) : attributeBase o attr env t = t := by
 cases o <;> first | rfl | cases h
theorem noC_swap {e : Expr} (h : isC e = false) (t : Option Expr) (l : Nat) (env : Env) : swapsWith e t l env = pure false := by
 cases e <;> first | rfl | cases h
theorem plT_true {e : Expr} (h : plT e = true) (env : Env) (whole : Sem Value) : isTrue e env whole = (do let v ← whole; standAt e.pos; holding [v] (truthy v)) := by
 cases e <;> first | rfl | cases h
end
end G
namespace G
open PySem PySem.Spec PyProof.Rows L2
abbrev DA := Rho → Option (List D)
abbrev DQ := Rho → Option (Bool × List D)
abbrev DT := Rho → Option Bool
abbrev DG := D → Rho → Option Rho
def dNo : DE := fun _ => none
def aNo : DA := fun _ => none
def qNo : DQ := fun _ => none
def tNo : DT := fun _ => none
def gNo : DG := fun _ _ => none
structure Ev where
 e : Kx → Expr → DE
 q : Kx → Expr → DQ
 n : Kx → Expr → DA
 t : Kx → Expr → DT
 g : Kx → Expr → DG
 b : Kx → List Stmt → DS
def cmpW : CmpOp → D → D → Option D
 | .Lt => ltI | .LtE => leI | .Gt => gtI | .GtE => geI | .Eq => eqD | .NotEq => neD | .Is => isB | .IsNot => notB | .In => inD false | .NotIn => inD true
def evA (f : Expr → DE) : List Expr → DA
 | [] => aNil
 | e :: es => if pl e then aCons (f e) (evA f es) else aNo
def evBE (f : Expr → DE) (op : BoolOp) : List Expr → DE
 | [] => dNo
 | [a] => f a
 | a :: b :: r => match op with
  | .And => dAnd (f a) (evBE f op (b :: r))
  | .Or => dOr (f a) (evBE f op (b :: r))
def evBT (f : Expr → DT) (op : BoolOp) : List Expr → DT
 | [] => tNo
 | [a] => f a
 | a :: b :: r => match op with
  | .And => tAnd2 (f a) (evBT f op (b :: r))
  | .Or => tOr2 (f a) (evBT f op (b :: r))
def evO (f : Expr → DE) : Option Expr → Rho → Option (Option Int)
 | none => oNone
 | some e => oSome (f e)
def evGs (f : Expr → DG) : List Expr → List D → Rho → Option Rho
 | [] => gsNil
 | e :: es => gsCons (f e) (evGs f es)
def evIfs (f : Expr → DT) : List Expr → DT
 | [] => cTrue
 | [t] => f t
 | _ => tNo
def tnames : Expr → List Str
 | .Name x _ => [x]
 | .Tuple es _ _ => es.filterMap fun | .Name x _ => some x | _ => none
 | _ => []
def rl (scope sc : Scope) : Scope := { scope with names := scope.names.map fun (n, k) => if (k == .free && sc.kind == .function && sc.names.lookup n == some .cell) then (n, .cell) else (n, k) }
def hinted (n : Nat) (caps l : List Nat) : List Nat := (List.range caps.length).filterMap fun i => match caps[i]? with | some j => if l.contains j then some (n + i) else none | none => none
def slotN (c : Kx) (j : Nat) : Str := (c.N[j]?).getD ""
def inner (c : Kx) (tn : List Str) (caps : List Nat) (scope : Scope) : Kx :=
 { N := tn ++ caps.map (slotN c), sc := rl scope c.sc, df := false, own := hinted tn.length caps c.own, cpt := [], tx := hinted tn.length caps c.tx, old := c.old, fz := [], hc := c.hc }
def isList : Expr → Bool
 | .List .. => true
 | .ListComp .. => true
 | _ => false
def inSlots (c : Kx) (l : List Nat) : Expr → Bool
 | .Name x _ => (match ixOf x c.N with | some i => l.contains i | none => false)
 | _ => false
def isText : Expr → Bool
 | .Constant (.str _) _ _ => true
 | _ => false
def textB (S : Sg) (c : Kx) : Expr → Bool
 | .Constant (.str _) _ _ => true
 | .Name x _ => (match ixOf x c.N with | some _ => false | none => (match S.cs.lookup x with | some (.str _) => true | _ => false))
 | _ => false
def opW (S : Sg) (c : Kx) (op : CmpOp) (b : Expr) : D → D → Option D := if textB S c b then (match op with
 | .In => inS false
 | .NotIn => inS true
 | _ => cmpW op) else cmpW op
def isTup : Expr → Bool
 | .Tuple .. => true
 | _ => false
def tyOf (x : Str) : Option String := if x == "int" then some "int" else if x == "bool" then some "bool" else if x == "str" then some "str" else if x == "tuple" then some "tuple" else if x == "list" then some "list" else none
section
variable (S : Sg) (r : Ev)
def evI (c : Kx) (tg it : Expr) : DA := match it with
 | .Call (.Name x _) [a] [] _ => if biB S c "range" x && pl a then iRan1 (r.e c a) else if biB S c "enumerate" x && isTup tg && pl a then iEnum (qE (r.e c a)) else iSeq (r.e c it)
 | .Call (.Name x _) [a, b] [] _ => if biB S c "range" x && pl a && pl b then iRan2 (r.e c a) (r.e c b) else if biB S c "zip" x && isTup tg && pl a && pl b then iZip (qE (r.e c a)) (qE (r.e c b)) else iSeq (r.e c it)
 | _ => if inSlots c c.tx it then iStr (r.e c it) else iSeq (r.e c it)
def evC (c : Kx) (ex : Expr) : DA := match ex with
 | .ListComp elt [⟨tgt, iter, ifs, 0⟩] scope pos =>
  let tn := tnames tgt
  let caps := (c.hc.lookup (pos.line, pos.col)).getD []
  let c' := inner c tn caps scope
  if compChk c.N c'.N tn.length caps c.sc scope && nodupB c'.N && pl iter then nComp tn.length caps (evI S r c tgt iter) (r.g c' tgt) (evIfs (r.t c') ifs) (r.e c' elt) else aNo
 | _ => aNo
def xCall1 (c : Kx) (x : Str) (a : Expr) : DE :=
 if !(pl a) then dNo
 else if biB S c "len" x then (match a with
  | .Call (.Name y _) [e] [] _ => if biB S c "set" y && pl e then dLenSet (r.q c e) else dLen (r.q c a)
  | _ => if inSlots c c.tx a then dLenS (r.e c a) else dLen (r.q c a))
 else if biB S c "tuple" x then dTupN (r.q c a)
 else if biB S c "all" x then dAll (r.q c a)
 else if biB S c "int" x then dInt (r.e c a)
 else if biB S c "str" x then dStr (r.e c a)
 else if biB S c "abs" x then dAbs (r.e c a)
 else dNo
def xCall2 (c : Kx) (x : Str) (a b : Expr) : DE :=
 if !(pl a) then dNo
 else if biB S c "isinstance" x then (match b with
  | .Name y _ => (match tyOf y with
   | some T => if biB S c y y then dIsi T (r.e c a) else dNo
   | none => dNo)
  | _ => dNo)
 else if !(pl b) then dNo
 else if biB S c "min" x then dMin2 (r.e c a) (r.e c b)
 else if biB S c "max" x then dMax2 (r.e c a) (r.e c b)
 else dNo
def xCall (c : Kx) (x : Str) (args : List Expr) (ex : Expr) : DE := match S.fn.lookup x with
 | some (F, n) => if glbB c.sc x && args.length == n && args.all pl then dCall F (evA (r.e c) args) else dNo
 | none => match args with
  | [a] => if biB S c "list" x then dLst (r.n c ex) else xCall1 S r c x a
  | [a, b] => xCall2 S r c x a b
  | _ => dNo
def xSub (c : Kx) (a i : Expr) : DE := match i with
 | .Slice lo hi none _ =>
  if c.old then dSlT (r.e c a) (evO (r.e c) lo) (evO (r.e c) hi)
  else if inSlots c c.tx a then dSlS (r.e c a) (evO (r.e c) lo) (evO (r.e c) hi)
  else if inSlots c c.own a then dSlQ (r.q c a) (evO (r.e c) lo) (evO (r.e c) hi)
  else dSlA (r.e c a) (evO (r.e c) lo) (evO (r.e c) hi)
 | .Slice none none (some (.UnaryOp .USub (.Constant (.int 1) _ _) _)) _ => dRevT (r.e c a)
 | _ => if pl i then (if isText a then dIxS (r.e c a) (r.e c i) else dIx (r.q c a) (r.e c i)) else dNo
def xE (c : Kx) (ex : Expr) : DE := match ex with
 | .Constant .none _ _ => dC .none
 | .Constant (.bool b) _ _ => dC (.bool b)
 | .Constant (.int i) _ _ => dC (.int i)
 | .Constant (.str x) _ _ => dC (.str x)
 | .Name x _ => (match ixOf x c.N with
  | some i => if visB c.sc x then dVar i else dNo
  | none => (match S.cs.lookup x with
   | some d => if glbB c.sc x then dC d else dNo
   | none => dNo))
 | .Tuple es _ _ => if es.length ≤ 1000 then dTup (evA (r.e c) es) else dNo
 | .List _ _ => dLst (r.n c ex)
 | .ListComp _ _ _ _ => dLst (r.n c ex)
 | .BinOp a .Add b _ => if c.old && !(isList a || isList b) then dBin catD (r.e c a) (r.e c b) else dBin catE (r.e c a) (r.e c b)
 | .BinOp a .Sub b _ => dBin subI (r.e c a) (r.e c b)
 | .BinOp a .Mult b _ => if c.old then dBin mulD (r.e c a) (r.e c b) else (match a with
  | .Subscript v _ _ => if inSlots c c.tx v then dBin mulS (r.e c a) (r.e c b) else dBin mulE (r.e c a) (r.e c b)
  | _ => dBin mulE (r.e c a) (r.e c b))
 | .BinOp a .FloorDiv b _ => dBin divI (r.e c a) (r.e c b)
 | .BinOp a .Mod b _ => dBin modI (r.e c a) (r.e c b)
 | .BinOp a .Pow b _ => dBin powI (r.e c a) (r.e c b)
 | .UnaryOp .USub a _ => dNeg (r.e c a)
 | .UnaryOp .Not a _ => dNot (r.e c a)
 | .Compare a [op] [b] _ => if pl b then dBin (opW S c op b) (r.e c a) (r.e c b) else dNo
 | .Compare a [op, op'] [b, d] _ => if pl d then dChain (cmpW op) (cmpW op') (r.e c a) (r.e c b) (r.e c d) else dNo
 | .BoolOp op vs _ => evBE (r.e c) op vs
 | .IfExp t a b _ => dIte (r.t c t) (r.e c a) (r.e c b)
 | .Subscript a i _ => xSub r c a i
 | .Call (.Attribute o m apos) [a] [] cpos => if m == "join" && noCall o && apos.endLine == cpos.line && pl a then dJoin (r.e c o) (r.q c a) else dNo
 | .Call (.Name x _) args [] _ => xCall S r c x args ex
 | _ => dNo
def xQ (c : Kx) (ex : Expr) : DQ := match ex with
 | .Name x _ => (match ixOf x c.N with
  | some i => if visB c.sc x then qVar i else qNo
  | none => qE (r.e c ex))
 | .List _ _ => qN (r.n c ex)
 | .ListComp _ _ _ _ => qN (r.n c ex)
 | .Call (.Name x _) [_] [] _ => if biB S c "list" x then qN (r.n c ex) else qE (r.e c ex)
 | _ => qE (r.e c ex)
def xN (c : Kx) (ex : Expr) : DA := match ex with
 | .List es _ => if es.length ≤ 1000 then evA (r.e c) es else aNo
 | .ListComp _ _ _ _ => evC S r c ex
 | .Call (.Name x _) [a] [] _ => if biB S c "list" x && pl a then (fun ρ => (r.q c a ρ).map fun q => q.2) else aNo
 | .BinOp a .Add b _ => nCat (r.q c a) (r.q c b)
 | _ => aNo
def xT (c : Kx) (ex : Expr) : DT := match ex with
 | .Compare a [op] [b] _ => if pl b then tB2 (opW S c op b) (r.e c a) (r.e c b) else tNo
 | .Compare a [op, op'] [b, d] _ => if pl d then tTst (dChain (cmpW op) (cmpW op') (r.e c a) (r.e c b) (r.e c d)) else tNo
 | .BoolOp op vs _ => evBT (r.t c) op vs
 | .UnaryOp .Not a _ => tNot2 (r.t c a)
 | _ => if plT ex then tTru (r.e c ex) else tNo
def xG (c : Kx) (ex : Expr) : DG := match ex with
 | .Name x _ => (match ixOf x c.N with
  | some i => if locB c x then gSet i else gNo
  | none => gNo)
 | .Tuple es _ _ => if es.all pl then gTupD es.length (evGs (r.g c) es) else gNo
 | _ => gNo
def parB (c : Kx) (x y : Str) (px py : Pos) (a b : Expr) : Bool :=
 c.df && pl a && pl b && !(x == y) && px.line == py.line && c.sc.names.lookup x == some .local && c.sc.names.lookup y == some .local && !(([a, b] : List Expr).all (foldedForSure 8)) && !(([a, b] : List Expr).all (constantsAlone 8))
def xAsg (c : Kx) (tg v : Expr) (p : Pos) : DS := match tg with
 | .Name x p' => (match ixOf x c.N with
  | none => sNever
  | some i => if !(locB c x) then sNever else (match v with
   | .ListComp _ _ sc pv => if c.sc.names.lookup x == some .local then
     (if c.df && p'.line == pv.line && !(sc.names.any fun (n, k) => n == x && (k == .local || k == .cell)) then (if c.own.contains i then sOwn i (evC S r c v) else sSetN i (evC S r c v)) else sNever)
    else sSet i (r.e c v)
   | _ => if isC v then sNever else if c.own.contains i then sOwn i (r.n c v) else sSet i (r.e c v)))
 | .Subscript (.Name x _) (.Slice lo hi none _) _ => (match ixOf x c.N with
  | none => sNever
  | some i => if visB c.sc x && !(isC v) then sSpl i (evO (r.e c) lo) (evO (r.e c) hi) (r.n c v) else sNever)
 | .Tuple [.Name x px, .Name y py] _ _ => (match v with
  | .Tuple [a, b] _ _ => (match ixOf x c.N, ixOf y c.N with
   | some i, some j => if parB c x y px py a b then sPar i j (evA (r.e c) [a, b]) else sNever
   | _, _ => sNever)
  | .Tuple _ _ _ => sNever
  | _ => sAsg (r.e c v) (r.g c tg))
 | .Tuple es _ _ => if isTup v && (es.length == 2 || es.length == 3) then sNever else sAsg (r.e c v) (r.g c tg)
 | _ => sNever
def xMut (c : Kx) (x m : Str) (e : Expr) : DS := match ixOf x c.N with
 | none => sNever
 | some i => if visB c.sc x && pl e then (if m == "append" then sApp i (r.e c e) else if m == "extend" then sExt i (r.e c e) else sNever) else sNever
def xS0 (c : Kx) (st : Stmt) : DS := match st with
 | .Return (some e) _ => sRet (r.e c e)
 | .If t a b _ => sIf (r.t c t) (r.b c a) (r.b c b)
 | .While t a [] _ => sWhile (r.t c t) (r.b c a)
 | .For tg it a [] _ => if pl it then sFor (evI S r c tg it) (r.g c tg) (r.b c a) else sNever
 | .Assign [tg] v p => xAsg S r c tg v p
 | .Expr (.Call (.Attribute (.Name x _) m apos) [e] [] cpos) _ => if apos.endLine == cpos.line then xMut r c x m e else sNever
 | .Continue _ => sCont
 | .Break _ => fun ρ => some (.bk ρ)
 | .Pass _ => sNil
 | _ => sNever
def lineOf : Stmt → Nat
 | .Return _ p => p.line
 | .If _ _ _ p => p.line
 | .While _ _ _ p => p.line
 | .For _ _ _ _ p => p.line
 | .Assign _ _ p => p.line
 | .Expr _ p => p.line
 | _ => 0
def fzW (g : DS) : Option (List Nat) → DS
 | none => g
 | some l => l.foldl (fun g i => sFrz i g) g
def xS (c : Kx) (st : Stmt) : DS := fzW (xS0 S r c st) (c.fz.lookup (lineOf st))
def evB (f : Stmt → DS) : List Stmt → DS
 | [] => sNil
 | [s] => f s
 | s :: t :: rest => sSeq (f s) (evB f (t :: rest))
def step : Ev := ⟨xE S r, xQ S r, xN S r, xT S r, xG r, fun c => evB (xS S r c)⟩
end
def ev (S : Sg) : Nat → Ev
 | 0 => ⟨fun _ _ => dNo, fun _ _ => qNo, fun _ _ => aNo, fun _ _ => tNo, fun _ _ => gNo, fun _ _ => sNever⟩
 | n + 1 => step S (ev S n)
end G
namespace Sh
open PySem PySem.Spec PyProof.Rows L2 G
def G_is_name : DS := (sRet (dAnd (dIsi "str" (dVar 0)) (dAnd (dChain leI leI (dC (.int 1)) (dLenS (dVar 0)) (dC (.int 6))) (dAll (qN (nComp 1 [] (iStr (dVar 0)) (gSet 0) cTrue (dBin (inS false) (dVar 0) (dC (.str "abcdefghijklmnopqrstuvwxyz")))))))))
def F_is_name : List D → Option D := runD G_is_name 1
def G_is_truth : DS := (sRet (dIsi "bool" (dVar 0)))
def F_is_truth : List D → Option D := runD G_is_truth 1
def G_is_offset : DS := (sRet (dAnd (dCall F_is_whole (aCons (dVar 0) aNil)) (dChain leI leI (dNeg (dC (.int 9))) (dVar 0) (dC (.int 9)))))
def F_is_offset : List D → Option D := runD G_is_offset 1
def G_is_mask : DS := (sSeq (sIf (tB2 isB (dVar 0) (dC .none)) (sRet (dC (.bool true))) sNil) (sSeq (sIf (tOr2 (tNot2 (tTru (dIsi "tuple" (dVar 0)))) (tB2 neD (dLen (qVar 0)) (dLen (qE (dIx (qVar 1) (dC (.int 2))))))) (sRet (dC (.bool false))) sNil) (sRet (dAll (qN (nComp 1 [] (iSeq (dVar 0)) (gSet 0) cTrue (dCall F_is_share (aCons (dVar 0) aNil))))))))
def F_is_mask : List D → Option D := runD G_is_mask 2
def G_is_layer_of_parts : DS := (sSeq (sIf (tOr2 (tB2 neD (dLen (qVar 0)) (dC (.int 9))) (tOr2 (tB2 (inD true) (dCall F_manner_of (aCons (dVar 0) aNil)) (dC (.tuple [(.str "over"), (.str "multiply"), (.str "screen"), (.str "plus"), (.str "atop"), (.str "cut")]))) (tNot2 (tTru (dCall F_is_sheet (aCons (dCall F_sheet_of (aCons (dVar 0) aNil)) aNil)))))) (sRet (dC (.bool false))) sNil) (sRet (dAnd (dCall F_is_offset (aCons (dCall F_left_of (aCons (dVar 0) aNil)) aNil)) (dAnd (dCall F_is_offset (aCons (dCall F_top_of (aCons (dVar 0) aNil)) aNil)) (dCall F_is_mask (aCons (dCall F_mask_of (aCons (dVar 0) aNil)) (aCons (dCall F_sheet_of (aCons (dVar 0) aNil)) aNil)))))))
def F_is_layer_of_parts : List D → Option D := runD G_is_layer_of_parts 1
def G_is_group_of_nodes (self : Nat → List D → Option D) : DS := (sSeq (sIf (tOr2 (tB2 neD (dLen (qVar 0)) (dC (.int 6))) (tOr2 (tB2 (inD true) (dCall F_manner_of (aCons (dVar 0) aNil)) (dC (.tuple [(.str "over"), (.str "multiply"), (.str "screen"), (.str "plus"), (.str "atop"), (.str "cut")]))) (tB2 eqD (dVar 1) (dC (.int 0))))) (sRet (dC (.bool false))) sNil) (sRet (dCall (self 2) (aCons (dCall F_inner_nodes (aCons (dVar 0) aNil)) (aCons (dBin subI (dVar 1) (dC (.int 1))) aNil)))))
def G_has_node_form (self : Nat → List D → Option D) : DS := (sSeq (sIf (tOr2 (tNot2 (tTru (dIsi "tuple" (dVar 0)))) (tB2 ltI (dLen (qVar 0)) (dC (.int 5)))) (sRet (dC (.bool false))) sNil) (sSeq (sIf (tOr2 (tNot2 (tTru (dCall F_is_name (aCons (dCall F_name_of (aCons (dVar 0) aNil)) aNil)))) (tOr2 (tNot2 (tTru (dCall F_is_share (aCons (dCall F_strength_of (aCons (dVar 0) aNil)) aNil)))) (tNot2 (tTru (dCall F_is_truth (aCons (dCall F_is_shown (aCons (dVar 0) aNil)) aNil)))))) (sRet (dC (.bool false))) sNil) (sSeq (sIf (tTru (dCall F_is_layer (aCons (dVar 0) aNil))) (sRet (dCall F_is_layer_of_parts (aCons (dVar 0) aNil))) sNil) (sSeq (sIf (tTru (dCall F_is_group (aCons (dVar 0) aNil))) (sRet (dCall (self 0) (aCons (dVar 0) (aCons (dVar 1) aNil)))) sNil) (sRet (dAnd (dCall F_is_tone (aCons (dVar 0) aNil)) (dAnd (dBin eqD (dLen (qVar 0)) (dC (.int 5))) (dBin (inD false) (dCall F_rule_of (aCons (dVar 0) aNil)) (dC (.tuple [(.str "turn"), (.str "grey"), (.str "round")]))))))))))
def G_are_nodes (self : Nat → List D → Option D) : DS := (sRet (dAnd (dIsi "tuple" (dVar 0)) (dAll (qN (nComp 1 [1] (iSeq (dVar 0)) (gSet 0) cTrue (dCall (self 1) (aCons (dVar 0) (aCons (dVar 1) aNil))))))))
def F_is_group_of_nodes_has_node_form_are_nodes : Nat → Nat → List D → Option D
 | 0 => fun _ _ => none
 | k + 1 => fun i => match i with
  | 0 => runD (G_is_group_of_nodes (F_is_group_of_nodes_has_node_form_are_nodes k)) 2
  | 1 => runD (G_has_node_form (F_is_group_of_nodes_has_node_form_are_nodes k)) 2
  | 2 => runD (G_are_nodes (F_is_group_of_nodes_has_node_form_are_nodes k)) 2
  | _ => fun _ => none
def G_names_among (self : List D → Option D) : DS := (sSeq (sOwn 1 aNil) (sSeq (sFor (iSeq (dVar 0)) (gSet 2) (sSeq (sApp 1 (dCall F_name_of (aCons (dVar 2) aNil))) (sIf (tTru (dCall F_is_group (aCons (dVar 2) aNil))) (sExt 1 (dCall self (aCons (dCall F_inner_nodes (aCons (dVar 2) aNil)) aNil))) sNil))) (sFrz 1 (sRet (dVar 1)))))
def F_names_among : Nat → List D → Option D
 | 0 => fun _ => none
 | k + 1 => runD (G_names_among (F_names_among k)) 3
def G_l_known_one : DS := (sSeq (sSet 0 (dTup (aCons (dC (.int 2)) (aCons (dC (.int 1)) (aCons (dBin mulE (dTup (aCons (dTup (aCons (dTup (aCons (dC (.int 1)) (aCons (dC (.int 1)) aNil))) (aCons (dTup (aCons (dC (.int 1)) (aCons (dC (.int 1)) aNil))) (aCons (dTup (aCons (dC (.int 0)) (aCons (dC (.int 1)) aNil))) (aCons (dTup (aCons (dC (.int 0)) (aCons (dC (.int 1)) aNil))) aNil))))) aNil)) (dC (.int 2))) aNil))))) (sSeq (sOwn 1 aNil) (sSeq (sFor (iSeq (dTup (aCons (dC (.int 0)) (aCons (dC (.int 1)) aNil)))) (gSet 2) (sSeq (sSet 3 (dTup (aCons (dC (.str "layer")) (aCons (dC (.str "a")) (aCons (dC (.str "over")) (aCons (dTup (aCons (dC (.int 1)) (aCons (dC (.int 1)) aNil))) (aCons (dC (.bool true)) (aCons (dVar 2) (aCons (dC (.int 0)) (aCons (dTup (aCons (dTup (aCons (dC (.int 0)) (aCons (dC (.int 1)) aNil))) (aCons (dTup (aCons (dC (.int 1)) (aCons (dC (.int 1)) aNil))) aNil))) (aCons (dVar 0) aNil))))))))))) (sApp 1 (dLst (nComp 1 [2, 3] (iRan1 (dC (.int 2))) (gSet 0) cTrue (dCall F_flat_at (aCons (dTup (aCons (dC (.int 3)) (aCons (dC (.int 1)) (aCons (dTup (aCons (dVar 2) aNil)) aNil)))) (aCons (dBin catE (dVar 1) (dVar 0)) (aCons (dC (.int 0)) aNil))))))))) (sRet (dAnd (dBin eqD (dIx (qVar 1) (dC (.int 0))) (dIx (qVar 1) (dC (.int 1)))) (dBin neD (dIx (qE (dIx (qVar 1) (dC (.int 0)))) (dC (.int 0))) (dIx (qE (dIx (qVar 1) (dC (.int 0)))) (dC (.int 1)))))))))
def F_l_known_one : List D → Option D := runD G_l_known_one 4
end Sh
namespace Sh
open PySem PySem.Spec PyProof.Rows L2 G
def G_names_in : DS := (sRet (dCall (F_names_among 12) (aCons (dIx (qVar 0) (dC (.int 2))) aNil)))
def F_names_in : List D → Option D := runD G_names_in 1
end Sh
namespace Sh
open PySem PySem.Spec PyProof.Rows L2 G
def G_box_between : DS := (sSeq (sIf (tOr2 (tB2 leI (dVar 2) (dVar 0)) (tB2 leI (dVar 3) (dVar 1))) (sRet (dC .none)) sNil) (sRet (dTup (aCons (dVar 0) (aCons (dVar 1) (aCons (dBin subI (dVar 2) (dVar 0)) (aCons (dBin subI (dVar 3) (dVar 1)) aNil)))))))
def F_box_between : List D → Option D := runD G_box_between 4
def G_joined_box : DS := (sSeq (sIf (tB2 isB (dVar 0) (dC .none)) (sRet (dVar 1)) sNil) (sSeq (sIf (tB2 isB (dVar 1) (dC .none)) (sRet (dVar 0)) sNil) (sSeq (sSet 2 (dMax2 (dBin catE (dIx (qVar 0) (dC (.int 0))) (dIx (qVar 0) (dC (.int 2)))) (dBin catE (dIx (qVar 1) (dC (.int 0))) (dIx (qVar 1) (dC (.int 2)))))) (sSeq (sSet 3 (dMax2 (dBin catE (dIx (qVar 0) (dC (.int 1))) (dIx (qVar 0) (dC (.int 3)))) (dBin catE (dIx (qVar 1) (dC (.int 1))) (dIx (qVar 1) (dC (.int 3)))))) (sRet (dCall F_box_between (aCons (dMin2 (dIx (qVar 0) (dC (.int 0))) (dIx (qVar 1) (dC (.int 0)))) (aCons (dMin2 (dIx (qVar 0) (dC (.int 1))) (dIx (qVar 1) (dC (.int 1)))) (aCons (dVar 2) (aCons (dVar 3) aNil))))))))))
def F_joined_box : List D → Option D := runD G_joined_box 4
def G_joined_boxes : DS := (sSeq (sSet 1 (dC .none)) (sSeq (sFor (iSeq (dVar 0)) (gSet 2) (sSet 1 (dCall F_joined_box (aCons (dVar 1) (aCons (dVar 2) aNil))))) (sRet (dVar 1))))
def F_joined_boxes : List D → Option D := runD G_joined_boxes 3
def G_whole_box : DS := (sRet (dTup (aCons (dC (.int 0)) (aCons (dC (.int 0)) (aCons (dIx (qVar 0) (dC (.int 0))) (aCons (dIx (qVar 0) (dC (.int 1))) aNil))))))
def F_whole_box : List D → Option D := runD G_whole_box 1
def G_places_in : DS := (sSeq (sIf (tB2 isB (dVar 0) (dC .none)) (sRet (dLst aNil)) sNil) (sRet (dLst (nComp 2 [0] (iSeq (dCall F_places_of (aCons (dIx (qVar 0) (dC (.int 2))) (aCons (dIx (qVar 0) (dC (.int 3))) aNil)))) (gTupD 2 (gsCons (gSet 0) (gsCons (gSet 1) gsNil))) cTrue (dTup (aCons (dBin catE (dIx (qVar 2) (dC (.int 0))) (dVar 0)) (aCons (dBin catE (dIx (qVar 2) (dC (.int 1))) (dVar 1)) aNil)))))))
def F_places_in : List D → Option D := runD G_places_in 1
def st_box_of_layer_0 : DS := (sSet 2 (dCall F_left_of (aCons (dVar 1) aNil)))
def st_box_of_layer_1 : DS := (sSet 3 (dCall F_top_of (aCons (dVar 1) aNil)))
def st_box_of_layer_2 : DS := (sSet 4 (dCall F_sheet_of (aCons (dVar 1) aNil)))
def st_box_of_layer_3 : DS := (sSet 5 (dMin2 (dBin catE (dVar 2) (dIx (qVar 4) (dC (.int 0)))) (dIx (qVar 0) (dC (.int 0)))))
def st_box_of_layer_4 : DS := (sSet 6 (dMin2 (dBin catE (dVar 3) (dIx (qVar 4) (dC (.int 1)))) (dIx (qVar 0) (dC (.int 1)))))
def st_box_of_layer_5 : DS := (sRet (dCall F_box_between (aCons (dMax2 (dVar 2) (dC (.int 0))) (aCons (dMax2 (dVar 3) (dC (.int 0))) (aCons (dVar 5) (aCons (dVar 6) aNil))))))
def G_box_of_layer : DS := (sSeq st_box_of_layer_0 (sSeq st_box_of_layer_1 (sSeq st_box_of_layer_2 (sSeq st_box_of_layer_3 (sSeq st_box_of_layer_4 st_box_of_layer_5)))))
def F_box_of_layer : List D → Option D := runD G_box_of_layer 7
def G_box_of (self : List D → Option D) : DS := (sSeq (sIf (tNot2 (tTru (dCall F_is_shown (aCons (dVar 1) aNil)))) (sRet (dC .none)) sNil) (sSeq (sIf (tTru (dCall F_is_tone (aCons (dVar 1) aNil))) (sRet (dCall F_whole_box (aCons (dVar 0) aNil))) sNil) (sSeq (sIf (tTru (dCall F_is_group (aCons (dVar 1) aNil))) (sRet (dCall F_joined_boxes (aCons (dLst (nComp 1 [0] (iSeq (dCall F_inner_nodes (aCons (dVar 1) aNil))) (gSet 0) (tNot2 (tTru (dCall F_is_tone (aCons (dVar 0) aNil)))) (dCall self (aCons (dVar 1) (aCons (dVar 0) aNil))))) aNil))) sNil) (sRet (dCall F_box_of_layer (aCons (dVar 0) (aCons (dVar 1) aNil)))))))
def F_box_of : Nat → List D → Option D
 | 0 => fun _ => none
 | k + 1 => runD (G_box_of (F_box_of k)) 2
def G_changed_box : DS := (sSeq (sSet 2 (dCall F_places_in (aCons (dCall F_whole_box (aCons (dVar 0) aNil)) aNil))) (sRet (dCall F_joined_boxes (aCons (dLst (nComp 2 [0, 1] (iSeq (dVar 2)) (gTupD 2 (gsCons (gSet 0) (gsCons (gSet 1) gsNil))) (tB2 neD (dCall F_flat_at (aCons (dVar 2) (aCons (dVar 0) (aCons (dVar 1) aNil)))) (dCall F_flat_at (aCons (dVar 3) (aCons (dVar 0) (aCons (dVar 1) aNil))))) (dTup (aCons (dVar 0) (aCons (dVar 1) (aCons (dC (.int 1)) (aCons (dC (.int 1)) aNil))))))) aNil))))
def F_changed_box : List D → Option D := runD G_changed_box 3
def G_nodes_without (self : List D → Option D) : DS := (sSeq (sOwn 2 aNil) (sSeq (sFor (iSeq (dVar 0)) (gSet 3) (sSeq (sIf (tB2 (inD false) (dCall F_name_of (aCons (dVar 3) aNil)) (dVar 1)) sCont sNil) (sIf (tTru (dCall F_is_group (aCons (dVar 3) aNil))) (sApp 2 (dCall F_with_inner_nodes (aCons (dVar 3) (aCons (dCall self (aCons (dCall F_inner_nodes (aCons (dVar 3) aNil)) (aCons (dVar 1) aNil))) aNil)))) (sApp 2 (dVar 3))))) (sRet (dTupN (qVar 2)))))
def F_nodes_without : Nat → List D → Option D
 | 0 => fun _ => none
 | k + 1 => runD (G_nodes_without (F_nodes_without k)) 4
def G_without : DS := (sSeq (sSet 2 (dCall F_names_in (aCons (dVar 0) aNil))) (sSeq (sFor (iSeq (dVar 1)) (gSet 3) (sIf (tB2 (inD true) (dVar 3) (dVar 2)) sNever sNil)) (sRet (dTup (aCons (dIx (qVar 0) (dC (.int 0))) (aCons (dIx (qVar 0) (dC (.int 1))) (aCons (dCall (F_nodes_without 12) (aCons (dIx (qVar 0) (dC (.int 2))) (aCons (dVar 1) aNil))) aNil)))))))
def F_without : List D → Option D := runD G_without 4
def G_l_lies_within : DS := (sSeq (sIf (tOr2 (tB2 isB (dVar 0) (dC .none)) (tB2 isB (dVar 1) (dC .none))) (sRet (dBin isB (dVar 0) (dC .none))) sNil) (sSeq (sIf (tOr2 (tB2 ltI (dIx (qVar 0) (dC (.int 0))) (dIx (qVar 1) (dC (.int 0)))) (tB2 ltI (dIx (qVar 0) (dC (.int 1))) (dIx (qVar 1) (dC (.int 1))))) (sRet (dC (.bool false))) sNil) (sRet (dAnd (dBin leI (dBin catE (dIx (qVar 0) (dC (.int 0))) (dIx (qVar 0) (dC (.int 2)))) (dBin catE (dIx (qVar 1) (dC (.int 0))) (dIx (qVar 1) (dC (.int 2))))) (dBin leI (dBin catE (dIx (qVar 0) (dC (.int 1))) (dIx (qVar 0) (dC (.int 3)))) (dBin catE (dIx (qVar 1) (dC (.int 1))) (dIx (qVar 1) (dC (.int 3)))))))))
def F_l_lies_within : List D → Option D := runD G_l_lies_within 2
end Sh
namespace Sh
open PySem G
theorem ne_y (i j : Int) : neD (.int i) (.int j) = some (.bool (!(i == j))) := rfl
theorem eq_y (i j : Int) : eqD (.int i) (.int j) = some (.bool (i == j)) := rfl
theorem iter_nx {t : Rho → Option Bool} {f : DS} {n : Nat} {ρ ρ' : Rho} (h1 : t ρ = some true) (h2 : f ρ = some (.nx ρ')) : iterW t f (n + 1) ρ = iterW t f n ρ' := by
 simp only [iterW, h1, h2, xbs, if_true]
theorem gcd_loop : ∀ (b a : Nat) (x : Option B), ∃ n x', iterW (tB2 neD (dVar 1) (dC (.int 0))) (sSeq (sSet 2 (dBin modI (dVar 0) (dVar 1))) (sSeq (sSet 0 (dVar 1)) (sSet 1 (dVar 2)))) n [‹.int a›, ‹.int b›, x]
  = some (.nx [‹.int (Nat.gcd a b)›, ‹.int 0›, x']) := by
 intro b
 induction b using Nat.strongRecOn with
 | _ b ih =>
  intro a x
  by_cases hb : b = 0
  ·subst hb
   refine ⟨1, x, ?_⟩
   rw [Nat.gcd_zero_right]
   rfl
  ·obtain ⟨n, x', h⟩ := ih (a % b) (Nat.mod_lt _ (Nat.pos_of_ne_zero hb)) b (‹.int ((a % b : Nat) : Int)›)
   refine ⟨n + 1, x', ?_⟩
   have e1 : tB2 neD (dVar 1) (dC (.int 0)) [‹.int a›, ‹.int b›, x] = some true := by
    show (neD (.int b) (.int 0)).bind boolOf = some true
    rw [ne_y]
    have : ((b : Int) == 0) = false := by simp; omega
    rw [this]; rfl
   have e2 : modI (.int a) (.int b) = some (.int ((a % b : Nat) : Int)) := by
    show (if (0 : Int) < (b : Int) then some (PyData.int ((a : Int) % (b : Int))) else none) = _
    rw [if_pos (by omega)]
    simp
   have e3 : sSeq (sSet 2 (dBin modI (dVar 0) (dVar 1))) (sSeq (sSet 0 (dVar 1)) (sSet 1 (dVar 2))) [‹.int a›, ‹.int b›, x] = some (.nx [‹.int b›, ‹.int ((a % b : Nat) : Int)›, ‹.int ((a % b : Nat) : Int)›]) := by
    show ((((modI (.int a) (.int b))).map fun d => Fl.nx [‹.int a›, ‹.int b›, some (.val d)]).bind _) = _
    rw [e2]
    rfl
   rw [iter_nx e1 e3, h, Nat.gcd_comm b, Nat.gcd_comm a b, ← Nat.gcd_rec]
theorem F_gcd (a b : Nat) : F_common_divisor [.int a, .int b] = some (.int (Nat.gcd a b)) := by
 obtain ⟨n, x', h⟩ := gcd_loop b a none
 show ((sWhile _ _ [‹.int a›, ‹.int b›, none]).bind _).bind _ = _
 rw [sWhile_of h]
 rfl
theorem made_loop : ∀ (a b : Nat) (t u : D), ∃ n, iterW (tB2 gtI (dVar 2) (dC (.int 0))) (sPar 2 3 (aCons (dBin modI (dVar 3) (dVar 2)) (aCons (dVar 2) aNil))) n [some (.val t), some (.val u), ‹.int a›, ‹.int b›]
  = some (.nx [some (.val t), some (.val u), ‹.int 0›, ‹.int (Nat.gcd a b)›]) := by
 intro a
 induction a using Nat.strongRecOn with
 | _ a ih =>
  intro b t u
  by_cases ha : a = 0
  ·subst ha
   refine ⟨1, ?_⟩
   rw [Nat.gcd_zero_left]
   rfl
  ·obtain ⟨n, h⟩ := ih (b % a) (Nat.mod_lt _ (Nat.pos_of_ne_zero ha)) a t u
   refine ⟨n + 1, ?_⟩
   have e1 : tB2 gtI (dVar 2) (dC (.int 0)) [some (.val t), some (.val u), ‹.int a›, ‹.int b›] = some true := by
    show some (decide ((0 : Int) < (a : Int))) = some true
    rw [decide_eq_true (by omega)]
   have e2 : modI (.int b) (.int a) = some (.int ((b % a : Nat) : Int)) := by
    show (if (0 : Int) < (a : Int) then some (PyData.int ((b : Int) % (a : Int))) else none) = _
    rw [if_pos (by omega)]
    simp
   have e3 : sPar 2 3 (aCons (dBin modI (dVar 3) (dVar 2)) (aCons (dVar 2) aNil)) [some (.val t), some (.val u), ‹.int a›, ‹.int b›] = some (.nx [some (.val t), some (.val u), ‹.int ((b % a : Nat) : Int)›, ‹.int a›]) := by
    show ((modI (.int b) (.int a)).bind fun d => (some [PyData.int (a : Int)]).map fun ds => d :: ds).bind _ = _
    rw [e2]
    rfl
   rw [iter_nx e1 e3, h, ← Nat.gcd_rec]
def fr (r : Rat) : D := .tuple [.int r.num, .int r.den]
theorem small_of {i : Int} {k : Nat} (h : i.natAbs < 2 ^ k) (hk : k ≤ 8000) : Small i := Nat.lt_of_lt_of_le h (Nat.pow_le_pow_right (by decide) hk)
theorem mkRat_fr (a b : Nat) (hb : 0 < b) : fr (mkRat a b) = .tuple [.int ((a / Nat.gcd a b : Nat) : Int), .int ((b / Nat.gcd a b : Nat) : Int)] := by
 unfold fr
 rw [Rat.num_mkRat, Rat.den_mkRat, if_neg (by omega), if_neg (by omega)]
 have e : b.gcd (a : Int).natAbs = Nat.gcd a b := by rw [Int.natAbs_natCast, Nat.gcd_comm]
 rw [e]
 simp
theorem div_gcd (a b x k : Nat) (hb : 0 < b) (hk : b < 2 ^ k) (hk8 : k ≤ 8000) : divI (.int x) (.int (Nat.gcd a b)) = some (.int ((x / Nat.gcd a b : Nat) : Int)) := by
 have g0 : 0 < Nat.gcd a b := Nat.gcd_pos_of_pos_right _ hb
 have gs : Small (Nat.gcd a b : Nat) := small_of (k := k) (by rw [Int.natAbs_natCast]; exact Nat.lt_of_le_of_lt (Nat.le_of_dvd hb (Nat.gcd_dvd_right a b)) hk) hk8
 show (if (0 : Int) < ((Nat.gcd a b : Nat) : Int) ∧ Small (Nat.gcd a b : Nat) then some (PyData.int ((x : Int) / ((Nat.gcd a b : Nat) : Int))) else none) = _
 rw [if_pos ⟨by omega, gs⟩]
 simp
theorem F_least (a b k : Nat) (hb : 0 < b) (hk : b < 2 ^ k) (hk8 : k ≤ 8000) : F_least_form [.int a, .int b] = some (fr (mkRat a b)) := by
 have d := fun x => div_gcd a b x k hb hk hk8
 have e : G_least_form [‹.int a›, ‹.int b›, none] = some (.rt (fr (mkRat a b))) := by
  rw [mkRat_fr a b hb]
  simp only [G_least_form, sSeq, sSet, dCall, aCons, aNil, dVar, xg0, xg1, xbs, xms, F_gcd, xw1, xw0, sRet, dTup, dBin, d]
 show (G_least_form [‹.int a›, ‹.int b›, none]).bind _ = _
 rw [e]; rfl
theorem F_made (a b k : Nat) (hb : 0 < b) (hk : b < 2 ^ k) (hk8 : k ≤ 8000) : F_l_made [.int a, .int b] = some (fr (mkRat a b)) := by
 have d := fun x => div_gcd a b x k hb hk hk8
 obtain ⟨n, h⟩ := made_loop a b (.int a) (.int b)
 have e : G_l_made [‹.int a›, ‹.int b›, none, none] = some (.rt (fr (mkRat a b))) := by
  rw [mkRat_fr a b hb]
  simp only [G_l_made, sSeq, sSet, dCall, aCons, aNil, dVar, xg0, xg1, xbs, xms, xw1, xw0, sRet, dTup, dBin, d, sWhile_of h]
 show (G_l_made [‹.int a›, ‹.int b›, none, none]).bind _ = _
 rw [e]; rfl
structure Bd (k : Nat) (r : Rat) : Prop where
 nn : 0 ≤ r
 num : r.num.natAbs < 2 ^ k
 den : r.den < 2 ^ k
theorem Bd.mono {j k : Nat} {r : Rat} (h : Bd j r) (l : j ≤ k) : Bd k r := ⟨h.nn, Nat.lt_of_lt_of_le h.num (Nat.pow_le_pow_right (by decide) l), Nat.lt_of_lt_of_le h.den (Nat.pow_le_pow_right (by decide) l)⟩
theorem Bd.nat {k : Nat} {r : Rat} (h : Bd k r) : r.num = (r.num.natAbs : Int) := by
 have := Rat.num_nonneg.mpr h.nn
 omega
theorem mkRat_nn (a b : Nat) : 0 ≤ mkRat (a : Int) b := by
 rw [← Rat.num_nonneg, Rat.num_mkRat]
 split
 ·exact Int.le_refl _
 ·exact Int.ediv_nonneg (by omega) (by omega)
theorem Bd.of {a b k : Nat} (hb : 0 < b) (h1 : a < 2 ^ k) (h2 : b < 2 ^ k) : Bd k (mkRat a b) := by
 refine ⟨mkRat_nn a b, ?_, ?_⟩
 ·rw [Rat.num_mkRat, if_neg (by omega)]
  rw [show ((a : Int) / ((b.gcd (a : Int).natAbs : Nat) : Int)) = ((a / b.gcd (a : Int).natAbs : Nat) : Int) by simp, Int.natAbs_natCast]
  exact Nat.lt_of_le_of_lt (Nat.div_le_self _ _) h1
 ·rw [Rat.den_mkRat, if_neg (by omega)]
  exact Nat.lt_of_le_of_lt (Nat.div_le_self _ _) h2
theorem mul_lt_pow {a b j k : Nat} (h1 : a < 2 ^ j) (h2 : b < 2 ^ k) : a * b < 2 ^ (j + k) := by
 rw [Nat.pow_add]
 exact Nat.mul_lt_mul'' h1 h2
theorem rat_mul {j k : Nat} {r s : Rat} (hr : Bd j r) (hs : Bd k s) : r * s = mkRat ((r.num.natAbs * s.num.natAbs : Nat) : Int) (r.den * s.den) := by
 rw [Rat.mul_def, Rat.normalize_eq_mkRat, Int.natCast_mul, ← hr.nat, ← hs.nat]
theorem rat_add {j k : Nat} {r s : Rat} (hr : Bd j r) (hs : Bd k s) : r + s = mkRat ((r.num.natAbs * s.den + s.num.natAbs * r.den : Nat) : Int) (r.den * s.den) := by
 rw [Rat.add_def, Rat.normalize_eq_mkRat, Int.natCast_add, Int.natCast_mul, Int.natCast_mul, ← hr.nat, ← hs.nat]
theorem sub_le {j k : Nat} {r s : Rat} (hr : Bd j r) (hs : Bd k s) (l : s ≤ r) : s.num.natAbs * r.den ≤ r.num.natAbs * s.den := by
 have := (Rat.le_iff s r).mp l
 rw [hr.nat, hs.nat] at this
 exact_mod_cast this
theorem rat_sub {j k : Nat} {r s : Rat} (hr : Bd j r) (hs : Bd k s) (l : s ≤ r) : r - s = mkRat ((r.num.natAbs * s.den - s.num.natAbs * r.den : Nat) : Int) (r.den * s.den) := by
 rw [Rat.sub_def, Rat.normalize_eq_mkRat, Int.ofNat_sub (sub_le hr hs l), Int.natCast_mul, Int.natCast_mul, ← hr.nat, ← hs.nat]
theorem den_pos (r : Rat) : 0 < r.den := Nat.pos_of_ne_zero r.den_nz
theorem Bd.mul {j k : Nat} {r s : Rat} (hr : Bd j r) (hs : Bd k s) : Bd (j + k) (r * s) := by
 rw [rat_mul hr hs]
 exact Bd.of (Nat.mul_pos (den_pos r) (den_pos s)) (mul_lt_pow hr.num hs.num) (mul_lt_pow hr.den hs.den)
theorem Bd.add {j k : Nat} {r s : Rat} (hr : Bd j r) (hs : Bd k s) : Bd (j + k + 1) (r + s) := by
 rw [rat_add hr hs]
 have h1 := mul_lt_pow hr.num hs.den
 have h2 := mul_lt_pow hs.num hr.den
 have h3 := mul_lt_pow hr.den hs.den
 rw [Nat.add_comm k j] at h2
 exact Bd.of (Nat.mul_pos (den_pos r) (den_pos s)) (by rw [Nat.pow_succ]; omega) (by rw [Nat.pow_succ]; omega)
theorem Bd.sub {j k : Nat} {r s : Rat} (hr : Bd j r) (hs : Bd k s) (l : s ≤ r) : Bd (j + k) (r - s) := by
 rw [rat_sub hr hs l]
 have h1 := mul_lt_pow hr.num hs.den
 have h3 := mul_lt_pow hr.den hs.den
 exact Bd.of (Nat.mul_pos (den_pos r) (den_pos s)) (by omega) (by omega)
theorem Bd.one : Bd 1 1 := ⟨by decide, by decide, by decide⟩
theorem Bd.zero : Bd 1 0 := ⟨by decide, by decide, by decide⟩
theorem fr_one : fr 1 = .tuple [.int 1, .int 1] := rfl
theorem Bd.sn {k : Nat} {r : Rat} (h : Bd k r) (hk : k ≤ 8000) : Small r.num := small_of h.num hk
theorem Bd.sd {k : Nat} {r : Rat} (h : Bd k r) (hk : k ≤ 8000) : Small r.den := small_of (k := k) (by rw [Int.natAbs_natCast]; exact h.den) hk
theorem mul_y {i j : Int} (h1 : Small i) (h2 : Small j) : mulD (.int i) (.int j) = some (.int (i * j)) := by
 show (if Small i ∧ Small j then some (PyData.int (i * j)) else none) = _
 rw [if_pos ⟨h1, h2⟩]
theorem cat_y (i j : Int) : catD (.int i) (.int j) = some (.int (i + j)) := rfl
theorem sub_y (i j : Int) : subI (.int i) (.int j) = some (.int (i - j)) := rfl
theorem le_y (i j : Int) : leI (.int i) (.int j) = some (.bool (decide (i ≤ j))) := rfl
theorem at20 (a b : D) : L2.atI [a, b] 0 = some a := rfl
theorem at21 (a b : D) : L2.atI [a, b] 1 = some b := rfl
theorem ix0 {ρ : Rho} {i : Nat} {r : Rat} (h : ρ[i]? = some (‹fr r›)) : dIx (qVar i) (dC (.int 0)) ρ = some (.int r.num) := by
 simp only [dIx, qVar, h, fr, dC, xbs, at20]
theorem ix1 {ρ : Rho} {i : Nat} {r : Rat} (h : ρ[i]? = some (‹fr r›)) : dIx (qVar i) (dC (.int 1)) ρ = some (.int r.den) := by
 simp only [dIx, qVar, h, fr, dC, xbs, at21]
theorem v0 (x : Option B) (l : Rho) : (x :: l)[0]? = some x := rfl
theorem v1 (y x : Option B) (l : Rho) : (y :: x :: l)[1]? = some x := rfl
theorem F_times_ok {j k : Nat} {r s : Rat} (hr : Bd j r) (hs : Bd k s) (l : j + k ≤ 8000) : F_times [fr r, fr s] = some (fr (r * s)) := by
 have e : G_times [‹fr r›, ‹fr s›] = some (.rt (fr (r * s))) := by
  simp only [G_times, sRet, dCall, aCons, aNil, dBin, ix0 (v0 _ _), ix1 (v0 _ _), ix0 (v1 _ _ _), ix1 (v1 _ _ _), xbs, xms, mul_y (hr.sn (by omega)) (hs.sn (by omega)), mul_y (hr.sd (by omega)) (hs.sd (by omega))]
  have := F_least (r.num.natAbs * s.num.natAbs) (r.den * s.den) (j + k) (Nat.mul_pos (den_pos r) (den_pos s)) (mul_lt_pow hr.den hs.den) l
  rw [← rat_mul hr hs, Int.natCast_mul, Int.natCast_mul, ← hr.nat, ← hs.nat] at this
  rw [this]; rfl
 show (G_times [‹fr r›, ‹fr s›]).bind _ = _
 rw [e]; rfl
theorem F_added_ok {j k : Nat} {r s : Rat} (hr : Bd j r) (hs : Bd k s) (l : j + k ≤ 8000) : F_added [fr r, fr s] = some (fr (r + s)) := by
 have e : G_added [‹fr r›, ‹fr s›] = some (.rt (fr (r + s))) := by
  simp only [G_added, sRet, dCall, aCons, aNil, dBin, ix0 (v0 _ _), ix1 (v0 _ _), ix0 (v1 _ _ _), ix1 (v1 _ _ _), xbs, xms, mul_y (hr.sn (by omega)) (hs.sd (by omega)), mul_y (hs.sn (by omega)) (hr.sd (by omega)), mul_y (hr.sd (by omega)) (hs.sd (by omega)), cat_y]
  have := F_least (r.num.natAbs * s.den + s.num.natAbs * r.den) (r.den * s.den) (j + k) (Nat.mul_pos (den_pos r) (den_pos s)) (mul_lt_pow hr.den hs.den) l
  rw [← rat_add hr hs, Int.natCast_add, Int.natCast_mul, Int.natCast_mul, Int.natCast_mul, ← hr.nat, ← hs.nat] at this
  rw [this]; rfl
 show (G_added [‹fr r›, ‹fr s›]).bind _ = _
 rw [e]; rfl
theorem F_lessened_ok {j k : Nat} {r s : Rat} (hr : Bd j r) (hs : Bd k s) (l : j + k ≤ 8000) (hl : s ≤ r) : F_lessened [fr r, fr s] = some (fr (r - s)) := by
 have e : G_lessened [‹fr r›, ‹fr s›] = some (.rt (fr (r - s))) := by
  simp only [G_lessened, sRet, dCall, aCons, aNil, dBin, ix0 (v0 _ _), ix1 (v0 _ _), ix0 (v1 _ _ _), ix1 (v1 _ _ _), xbs, xms, mul_y (hr.sn (by omega)) (hs.sd (by omega)), mul_y (hs.sn (by omega)) (hr.sd (by omega)), mul_y (hr.sd (by omega)) (hs.sd (by omega)), sub_y]
  have := F_least (r.num.natAbs * s.den - s.num.natAbs * r.den) (r.den * s.den) (j + k) (Nat.mul_pos (den_pos r) (den_pos s)) (mul_lt_pow hr.den hs.den) l
  rw [← rat_sub hr hs hl, Int.ofNat_sub (sub_le hr hs hl), Int.natCast_mul, Int.natCast_mul, Int.natCast_mul, ← hr.nat, ← hs.nat] at this
  rw [this]; rfl
 show (G_lessened [‹fr r›, ‹fr s›]).bind _ = _
 rw [e]; rfl
theorem F_rest_ok {k : Nat} {s : Rat} (hs : Bd k s) (l : k + 1 ≤ 8000) (hl : s ≤ 1) : F_rest_of [fr s] = some (fr (1 - s)) := by
 have e : G_rest_of [‹fr s›] = some (.rt (fr (1 - s))) := by
  simp only [G_rest_of, sRet, dCall, aCons, aNil, dC, dVar, xg0, xbs, xms]
  rw [← fr_one, F_lessened_ok Bd.one hs (by omega) hl]; rfl
 show (G_rest_of [‹fr s›]).bind _ = _
 rw [e]; rfl
theorem F_atmost_ok {j k : Nat} {r s : Rat} (hr : Bd j r) (hs : Bd k s) (l : j + k ≤ 8000) : F_is_at_most [fr r, fr s] = some (.bool (decide (r ≤ s))) := by
 have e : G_is_at_most [‹fr r›, ‹fr s›] = some (.rt (.bool (decide (r ≤ s)))) := by
  simp only [G_is_at_most, sRet, dCall, aCons, aNil, dBin, ix0 (v0 _ _), ix1 (v0 _ _), ix0 (v1 _ _ _), ix1 (v1 _ _ _), xbs, xms, mul_y (hr.sn (by omega)) (hs.sd (by omega)), mul_y (hs.sn (by omega)) (hr.sd (by omega)), le_y]
  simp only [← Rat.le_iff]
 show (G_is_at_most [‹fr r›, ‹fr s›]).bind _ = _
 rw [e]; rfl
theorem F_amo_ok {k : Nat} {r : Rat} (hr : Bd k r) (l : k + 1 ≤ 8000) : F_at_most_one [fr r] = some (fr (if r ≤ 1 then r else 1)) := by
 have e : G_at_most_one [‹fr r›] = some (.rt (fr (if r ≤ 1 then r else 1))) := by
  simp only [G_at_most_one, sRet, dIte, tTru, dCall, aCons, aNil, dC, dVar, xg0, xbs, xms]
  rw [← fr_one, F_atmost_ok hr Bd.one l]
  by_cases h : r ≤ 1
  ·simp [h, truD]
  ·simp [h, truD]
 show (G_at_most_one [‹fr r›]).bind _ = _
 rw [e]; rfl
end Sh
set_option exponentiation.threshold 9000
namespace Sh
open PySem G L2
theorem lt_y (i j : Int) : ltI (.int i) (.int j) = some (.bool (decide (i < j))) := rfl
theorem gt_y (i j : Int) : gtI (.int i) (.int j) = some (.bool (decide (j < i))) := rfl
theorem rep0 {α : Type} (x : α) : List.replicate 0 x = [] := rfl
theorem rep1 {α : Type} (x : α) : List.replicate 1 x = [x] := rfl
theorem rep2 {α : Type} (x : α) : List.replicate 2 x = [x, x] := rfl
theorem cut41 (a b c d : D) : cutD [a, b, c, d] (some 1) none = [b, c, d] := rfl
theorem at40 (a b c d : D) : L2.atI [a, b, c, d] 0 = some a := rfl
theorem at41 (a b c d : D) : L2.atI [a, b, c, d] 1 = some b := rfl
theorem at42 (a b c d : D) : L2.atI [a, b, c, d] 2 = some c := rfl
theorem at43 (a b c d : D) : L2.atI [a, b, c, d] 3 = some d := rfl
theorem at30 (a b c : D) : L2.atI [a, b, c] 0 = some a := rfl
theorem at31 (a b c : D) : L2.atI [a, b, c] 1 = some b := rfl
theorem at32 (a b c : D) : L2.atI [a, b, c] 2 = some c := rfl
theorem small_nat {n k : Nat} (h : n < 2 ^ k) (hk : k ≤ 8000) : Small (n : Int) := small_of (k := k) (by rw [Int.natAbs_natCast]; exact h) hk
theorem mod_y {i j : Int} (h : 0 < j) : modI (.int i) (.int j) = some (.int (i % j)) := by
 show (if (0 : Int) < j then some (PyData.int (i % j)) else none) = _
 rw [if_pos h]
theorem div_y {i j : Int} (h : 0 < j) (s : Small j) : divI (.int i) (.int j) = some (.int (i / j)) := by
 show (if (0 : Int) < j ∧ Small j then some (PyData.int (i / j)) else none) = _
 rw [if_pos ⟨h, s⟩]
theorem run_rt {g : DS} {n : Nat} {ds : List D} {ρ : Rho} {d : D} (h : startD n ds = ρ) (e : g ρ = some (.rt d)) : runD g n ds = some d := by
 unfold runD
 rw [h, e]; rfl
theorem L_times_ok {j k : Nat} {r s : Rat} (hr : Bd j r) (hs : Bd k s) (l : j + k ≤ 8000) : F_l_times [fr r, fr s] = some (fr (r * s)) := by
 refine run_rt (ρ := [‹fr r›, ‹fr s›]) rfl ?_
 simp only [G_l_times, sRet, dCall, aCons, aNil, dBin, ix0 (v0 _ _), ix1 (v0 _ _), ix0 (v1 _ _ _), ix1 (v1 _ _ _), xbs, xms, mul_y (hr.sn (by omega)) (hs.sn (by omega)), mul_y (hr.sd (by omega)) (hs.sd (by omega))]
 have := F_made (r.num.natAbs * s.num.natAbs) (r.den * s.den) (j + k) (Nat.mul_pos (den_pos r) (den_pos s)) (mul_lt_pow hr.den hs.den) l
 rw [← rat_mul hr hs, Int.natCast_mul, Int.natCast_mul, ← hr.nat, ← hs.nat] at this
 rw [this]; rfl
def cellZ (ns : List Int) (k : Nat) : Int := if ns.length = 0 then 7 * (k : Int) else ns.getD (k % ns.length) 0 + 6553 * ((k / ns.length : Nat) : Int)
theorem eq_nil (ns : List Int) : eqD (.list (ns.map PyData.int)) (.list []) = some (.bool (decide (ns.length = 0))) := by
 have h1 : SeqAt.shaped (.list (ns.map PyData.int)) = true := by
  have c : ∀ l : List Int, PyData.canLayAll0 (l.map PyData.int) = true := fun l => by
   induction l with
   | nil => rfl
   | cons a r ih => simp only [xmc, PyData.canLayAll0, PyData.canLay0, ih]; rfl
  have d : ∀ l : List Int, PyData.depthAll (l.map PyData.int) = 0 := fun l => by
   induction l with
   | nil => rfl
   | cons a r ih => simp only [xmc, PyData.depthAll, PyData.depth, ih]; rfl
  unfold SeqAt.shaped
  simp only [PyData.canLay0, c, PyData.depth, d]
  rfl
 unfold eqD
 rw [if_pos ⟨h1, rfl⟩]
 cases ns with
 | nil => rfl
 | cons a r => simp [PyData.eqv, PyData.eqvAll]
theorem F_cell (ns : List Int) (k : Nat) (hn : ns.length ≤ 63) (hk : k < 2 ^ 60) : F_l_cell [.list (ns.map PyData.int), .int k] = some (.int (cellZ ns k)) := by
 refine run_rt (ρ := [‹.list (ns.map PyData.int)›, ‹.int k›]) rfl ?_
 have sk : Small (k : Int) := small_nat hk (by decide)
 by_cases h : ns.length = 0
 ·have e : cellZ ns k = 7 * (k : Int) := by unfold cellZ; rw [if_pos h]
  simp only [G_l_cell, sSeq, sSet, sRet, sIf, sNil, sSetN, sAsg, dVar, dC, dTup, dLst, dBin, dCall, dIte, dAnd, dOr, dNot, dChain, dIx, dSlT, dLen, dTupN, dAll, dInt, dIsi, qVar, qE, qN, seqD, oNone, oSome, intOf, aNil, aCons, tTru, tB2, tAnd2, tOr2, tNot2, truD, boolOf, nComp, compD, capD, cTrue, gSet, gTupD, gsCons, gsNil, iSeq, iRan1, iZip, isiD, xg0, xg1, xw0, xw1, xbs, xms, xmc, xmn, xna, xca, cat_y, sub_y, le_y, ne_y, eq_y, lt_y, gt_y, rep0, rep1, rep2, cut41, at40, at41, at42, at43, at30, at31, at32, at20, at21, xnt, xnf, xft, if_true, if_false, ite_true, ite_false, eq_nil, h, decide_true, mul_y (i := 7) (small_of (k := 3) (by decide) (by decide)) sk, e]
 ·have e : cellZ ns k = ns.getD (k % ns.length) 0 + 6553 * ((k / ns.length : Nat) : Int) := by unfold cellZ; rw [if_neg h]
  have hl : (List.map PyData.int ns).length = ns.length := List.length_map ..
  have hp : 0 < ns.length := Nat.pos_of_ne_zero h
  have m1 : modI (.int k) (.int ns.length) = some (.int ((k % ns.length : Nat) : Int)) := by rw [mod_y (by omega)]; simp
  have m2 : divI (.int k) (.int ns.length) = some (.int ((k / ns.length : Nat) : Int)) := by rw [div_y (by omega) (small_nat (k := 6) (by omega) (by decide))]; simp
  have m3 : L2.atI (List.map PyData.int ns) ((k % ns.length : Nat) : Int) = some (.int (ns.getD (k % ns.length) 0)) := by
   refine L2.atI_nat ?_
   have hlt : k % ns.length < ns.length := Nat.mod_lt _ hp
   rw [List.getElem?_map, List.getElem?_eq_getElem hlt]
   simp [List.getD, hlt]
  have sq : Small ((k / ns.length : Nat) : Int) := small_nat (k := 60) (Nat.lt_of_le_of_lt (Nat.div_le_self _ _) hk) (by decide)
  simp only [G_l_cell, sSeq, sSet, sRet, sIf, sNil, sSetN, sAsg, dVar, dC, dTup, dLst, dBin, dCall, dIte, dAnd, dOr, dNot, dChain, dIx, dSlT, dLen, dTupN, dAll, dInt, dIsi, qVar, qE, qN, seqD, oNone, oSome, intOf, aNil, aCons, tTru, tB2, tAnd2, tOr2, tNot2, truD, boolOf, nComp, compD, capD, cTrue, gSet, gTupD, gsCons, gsNil, iSeq, iRan1, iZip, isiD, xg0, xg1, xw0, xw1, xbs, xms, xmc, xmn, xna, xca, cat_y, sub_y, le_y, ne_y, eq_y, lt_y, gt_y, rep0, rep1, rep2, cut41, at40, at41, at42, at43, at30, at31, at32, at20, at21, xnt, xnf, xft, if_true, if_false, ite_true, ite_false, eq_nil, h, decide_false, hl, m1, m2, m3, mul_y (i := 6553) (small_of (k := 13) (by decide) (by decide)) sq, e]
def drawZ (ns : List Int) (k : Nat) (m : Int) : Int :=
 let c := (cellZ ns k % 2147483563 * 69069 + 104723 * ((k : Int) + 1)) % 2147483563
 let c := (c * c + c / 3) % 2147483399
 (c * c + c / 7) % 2147483647 / 11 % m
theorem small_lt {i : Int} (h0 : 0 ≤ i) (h : i < 4294967296) : Small i := small_of (k := 32) (by omega) (by decide)
theorem F_drawn (ns : List Int) (k : Nat) (m : Int) (hn : ns.length ≤ 63) (hk : k < 2 ^ 60) (hm : 0 < m) : F_l_drawn [.list (ns.map PyData.int), .int k, .int m] = some (.int (drawZ ns k m)) := by
 refine run_rt (ρ := [‹.list (ns.map PyData.int)›, ‹.int k›, ‹.int m›, none]) rfl ?_
 have c0 : ∀ x : Int, Small (x % 2147483563) := fun x => small_lt (by omega) (by omega)
 have c1 : ∀ x : Int, Small (x % 2147483399) := fun x => small_lt (by omega) (by omega)
 have sk : Small ((k : Int) + 1) := small_of (k := 61) (by omega) (by decide)
 have s1 : Small 69069 := small_of (k := 17) (by decide) (by decide)
 have s2 : Small 104723 := small_of (k := 17) (by decide) (by decide)
 have s3 : Small 3 := small_of (k := 2) (by decide) (by decide)
 have s7 : Small 7 := small_of (k := 3) (by decide) (by decide)
 have s11 : Small 11 := small_of (k := 4) (by decide) (by decide)
 simp only [G_l_drawn, sSeq, sSet, sRet, sIf, sNil, sSetN, sAsg, dVar, dC, dTup, dLst, dBin, dCall, dIte, dAnd, dOr, dNot, dChain, dIx, dSlT, dLen, dTupN, dAll, dInt, dIsi, qVar, qE, qN, seqD, oNone, oSome, intOf, aNil, aCons, tTru, tB2, tAnd2, tOr2, tNot2, truD, boolOf, nComp, compD, capD, cTrue, gSet, gTupD, gsCons, gsNil, iSeq, iRan1, iZip, isiD, xg0, xg1, xw0, xw1, xbs, xms, xmc, xmn, xna, xca, cat_y, sub_y, le_y, ne_y, eq_y, lt_y, gt_y, rep0, rep1, rep2, cut41, at40, at41, at42, at43, at30, at31, at32, at20, at21, xnt, xnf, xft, if_true, if_false, ite_true, ite_false, F_cell ns k hn hk, mod_y (show (0 : Int) < 2147483563 by decide), mod_y (show (0 : Int) < 2147483399 by decide), mod_y (show (0 : Int) < 2147483647 by decide), mod_y hm, mul_y (c0 _) s1, mul_y s2 sk, mul_y (c0 _) (c0 _), mul_y (c1 _) (c1 _), div_y (show (0 : Int) < 3 by decide) s3, div_y (show (0 : Int) < 7 by decide) s7, div_y (show (0 : Int) < 11 by decide) s11]
 rfl
theorem draw_lt (ns : List Int) (k : Nat) (m : Int) (hm : 0 < m) : 0 ≤ drawZ ns k m ∧ drawZ ns k m < m := by
 unfold drawZ
 exact ⟨Int.emod_nonneg _ (by omega), Int.emod_lt_of_pos _ hm⟩
structure IsSh (k : Nat) (r : Rat) : Prop where
 bd : Bd k r
 le : r ≤ 1
theorem le_one_of {a b : Nat} (hb : 0 < b) (h : a ≤ b) : mkRat (a : Int) b ≤ 1 := by
 rw [Rat.le_iff, Rat.num_mkRat, Rat.den_mkRat, if_neg (by omega), if_neg (by omega)]
 have e0 : (1 : Rat).num = 1 := rfl
 have e1 : (1 : Rat).den = 1 := rfl
 rw [e0, e1]
 have : a / b.gcd a ≤ b / b.gcd a := Nat.div_le_div_right h
 simp
 exact_mod_cast this
theorem F_share (ns : List Int) (at' : Nat) (hn : ns.length ≤ 63) (hk : at' < 2 ^ 40) : ∃ r, F_l_share [.list (ns.map PyData.int), .int at'] = some (fr r) ∧ IsSh 4 r := by
 obtain ⟨u0, u1⟩ := draw_lt ns at' 12 (by decide)
 obtain ⟨u, hu⟩ : ∃ u : Nat, (1 : Int) + drawZ ns at' 12 = u ∧ 0 < u ∧ u ≤ 12 := ⟨(1 + drawZ ns at' 12).toNat, by omega, by omega, by omega⟩
 obtain ⟨t0, t1⟩ := draw_lt ns (at' + 1) ((u : Int) + 1) (by omega)
 obtain ⟨t, ht⟩ : ∃ t : Nat, drawZ ns (at' + 1) ((u : Int) + 1) = t ∧ t ≤ u := ⟨(drawZ ns (at' + 1) ((u : Int) + 1)).toNat, by omega, by omega⟩
 obtain ⟨p0, p1⟩ := draw_lt ns (at' + 2) 5 (by decide)
 have hs : IsSh 4 (mkRat (t : Int) u) := ⟨Bd.of (by omega) (by omega) (by omega), le_one_of (by omega) (by omega)⟩
 have e1 := F_drawn ns at' 12 hn (by omega) (by decide)
 have e2 := F_drawn ns (at' + 1) ((u : Int) + 1) hn (by omega) (by omega)
 have e3 := F_drawn ns (at' + 2) 5 hn (by omega) (by decide)
 have e4 := F_made t u 4 (by omega) (by omega) (by decide)
 have c1 : ((at' : Int) + 1) = ((at' + 1 : Nat) : Int) := by omega
 have c2 : ((at' : Int) + 2) = ((at' + 2 : Nat) : Int) := by omega
 rw [ht.1] at e2
 have pick : ∀ (j : Int), 0 ≤ j → j < 5 → ∃ r, L2.atI [fr (mkRat (t : Int) u), fr (mkRat (t : Int) u), fr (mkRat (t : Int) u), .tuple [.int 0, .int 1], .tuple [.int 1, .int 1]] j = some (fr r) ∧ IsSh 4 r := fun j h0 h5 => by
  have : j = 0 ∨ j = 1 ∨ j = 2 ∨ j = 3 ∨ j = 4 := by omega
  rcases this with rfl | rfl | rfl | rfl | rfl
  ·exact ⟨_, rfl, hs⟩
  ·exact ⟨_, rfl, hs⟩
  ·exact ⟨_, rfl, hs⟩
  ·exact ⟨0, rfl, Bd.zero.mono (by decide), by decide⟩
  ·exact ⟨1, rfl, Bd.one.mono (by decide), by decide⟩
 obtain ⟨r, hr1, hr2⟩ := pick _ p0 p1
 refine ⟨r, run_rt (ρ := [‹.list (ns.map PyData.int)›, ‹.int at'›, none, none]) rfl ?_, hr2⟩
 simp only [G_l_share, sSeq, sSet, sRet, sIf, sNil, sSetN, sAsg, dVar, dC, dTup, dLst, dBin, dCall, dIte, dAnd, dOr, dNot, dChain, dIx, dSlT, dLen, dTupN, dAll, dInt, dIsi, qVar, qE, qN, seqD, oNone, oSome, intOf, aNil, aCons, tTru, tB2, tAnd2, tOr2, tNot2, truD, boolOf, nComp, compD, capD, cTrue, gSet, gTupD, gsCons, gsNil, iSeq, iRan1, iZip, isiD, xg0, xg1, xw0, xw1, xbs, xms, xmc, xmn, xna, xca, cat_y, sub_y, le_y, ne_y, eq_y, lt_y, gt_y, rep0, rep1, rep2, cut41, at40, at41, at42, at43, at30, at31, at32, at20, at21, xnt, xnf, xft, if_true, if_false, ite_true, ite_false, e1, hu.1, c1, c2, e2, e3, e4, hr1]
end Sh
namespace Sh
open PySem G L2
def sp (c x y z : Rat) : D := .tuple [fr c, fr x, fr y, fr z]
structure Spot (k : Nat) (c x y z : Rat) : Prop where
 hc : IsSh k c
 hx : Bd k x
 hy : Bd k y
 hz : Bd k z
 xc : x ≤ c
 yc : y ≤ c
 zc : z ≤ c
theorem IsSh.mono {j k : Nat} {r : Rat} (h : IsSh j r) (l : j ≤ k) : IsSh k r := ⟨h.bd.mono l, h.le⟩
theorem Spot.mono {j k : Nat} {c x y z : Rat} (h : Spot j c x y z) (l : j ≤ k) : Spot k c x y z := ⟨h.hc.mono l, h.hx.mono l, h.hy.mono l, h.hz.mono l, h.xc, h.yc, h.zc⟩
theorem mul_le_self {c r : Rat} (hc : 0 ≤ c) (hr : r ≤ 1) : c * r ≤ c := by
 have := Rat.mul_le_mul_of_nonneg_right hr hc
 grind
theorem ran3 : rangeD 0 3 = [.int 0, .int 1, .int 2] := rfl
theorem F_spot (ns : List Int) (k : Nat) (hn : ns.length ≤ 63) (hk : k < 2 ^ 30) : ∃ c x y z, F_l_spot [.list (ns.map PyData.int), .int k] = some (sp c x y z) ∧ Spot 8 c x y z := by
 obtain ⟨c, ec, hc⟩ := F_share ns k hn (by omega)
 obtain ⟨a0, e0, h0⟩ := F_share ns (k + 3) hn (by omega)
 obtain ⟨a1, e1, h1⟩ := F_share ns (k + 6) hn (by omega)
 obtain ⟨a2, e2, h2⟩ := F_share ns (k + 9) hn (by omega)
 refine ⟨c, c * a0, c * a1, c * a2, ?_, ⟨hc.mono (by decide), hc.bd.mul h0.bd, hc.bd.mul h1.bd, hc.bd.mul h2.bd, mul_le_self hc.bd.nn h0.le, mul_le_self hc.bd.nn h1.le, mul_le_self hc.bd.nn h2.le⟩⟩
 refine run_rt (ρ := [‹.list (ns.map PyData.int)›, ‹.int k›, none]) rfl ?_
 have i0 : (k : Int) + 3 + 3 * 0 = ((k + 3 : Nat) : Int) := by omega
 have i1 : (k : Int) + 3 + 3 * 1 = ((k + 6 : Nat) : Int) := by omega
 have i2 : (k : Int) + 3 + 3 * 2 = ((k + 9 : Nat) : Int) := by omega
 have s0 : Small 0 := small_of (k := 2) (by decide) (by decide)
 have s1 : Small 1 := small_of (k := 2) (by decide) (by decide)
 have s2 : Small 2 := small_of (k := 2) (by decide) (by decide)
 have s3 : Small 3 := small_of (k := 2) (by decide) (by decide)
 have m0 := mul_y s3 s0
 have m1 := mul_y s3 s1
 have m2 := mul_y s3 s2
 have r3 : ((-(2 ^ 62) : Int) ≤ 3 ∧ (3 : Int) < 2 ^ 62) := by decide
 have l3 : ([PyData.int 0, .int 1, .int 2] : List D).length ≤ 16777216 := by decide
 have ct : ∀ a b c d : D, catD (.tuple [a]) (.tuple [b, c, d]) = some (.tuple [a, b, c, d]) := fun a b c d => rfl
 simp only [G_l_spot, sSeq, sSet, sRet, sIf, sNil, sSetN, sAsg, dVar, dC, dTup, dLst, dBin, dCall, dIte, dAnd, dOr, dNot, dChain, dIx, dSlT, dLen, dTupN, dAll, dInt, dIsi, qVar, qE, qN, seqD, oNone, oSome, intOf, aNil, aCons, tTru, tB2, tAnd2, tOr2, tNot2, truD, boolOf, nComp, compD, capD, cTrue, gSet, gTupD, gsCons, gsNil, iSeq, iRan1, iZip, isiD, xg0, xg1, xw0, xw1, xbs, xms, xmc, xmn, xna, xca, cat_y, sub_y, le_y, ne_y, eq_y, lt_y, gt_y, rep0, rep1, rep2, cut41, at40, at41, at42, at43, at30, at31, at32, at20, at21, xnt, xnf, xft, if_true, if_false, ite_true, ite_false, ec, r3, and_self, ran3, l3, m0, m1, m2, i0, i1, i2, e0, e1, e2, L_times_ok hc.bd h0.bd (by decide), L_times_ok hc.bd h1.bd (by decide), L_times_ok hc.bd h2.bd (by decide), ct, sp]
end Sh
local macro_rules
  | `(tactic| wp_walk using evA) => `(tactic| simp only [G.sSeq, G.sSet, G.sRet, G.sIf, G.sNil, G.sSetN, G.sAsg, G.dVar, G.dC, G.dTup, G.dLst, G.dBin, G.dCall, G.dIte, G.dAnd, G.dOr, G.dNot, G.dChain, G.dIx, G.dSlT, G.dLen, G.dTupN, G.dAll, G.dInt, G.dIsi, G.qVar, G.qE, G.qN, G.seqD, G.oNone, G.oSome, G.intOf, G.aNil, G.aCons, G.tTru, G.tB2, G.tAnd2, G.tOr2, G.tNot2, G.truD, G.boolOf, G.nComp, G.compD, G.capD, G.cTrue, G.gSet, G.gTupD, G.gsCons, G.gsNil, G.iSeq, G.iRan1, G.iZip, G.isiD, G.xg0, G.xg1, G.xw0, G.xw1, G.xbs, G.xms, G.xmc, G.xmn, G.xna, G.xca, Sh.cat_y, Sh.sub_y, Sh.le_y, Sh.ne_y, Sh.eq_y, Sh.lt_y, Sh.gt_y, Sh.rep0, Sh.rep1, Sh.rep2, Sh.cut41, Sh.at40, Sh.at41, Sh.at42, Sh.at43, Sh.at30, Sh.at31, Sh.at32, Sh.at20, Sh.at21, G.xnt, G.xnf, G.xft, if_true, if_false, ite_true, ite_false])
  | `(tactic| wp_walk using evA, $ts,*) => `(tactic| simp only [G.sSeq, G.sSet, G.sRet, G.sIf, G.sNil, G.sSetN, G.sAsg, G.dVar, G.dC, G.dTup, G.dLst, G.dBin, G.dCall, G.dIte, G.dAnd, G.dOr, G.dNot, G.dChain, G.dIx, G.dSlT, G.dLen, G.dTupN, G.dAll, G.dInt, G.dIsi, G.qVar, G.qE, G.qN, G.seqD, G.oNone, G.oSome, G.intOf, G.aNil, G.aCons, G.tTru, G.tB2, G.tAnd2, G.tOr2, G.tNot2, G.truD, G.boolOf, G.nComp, G.compD, G.capD, G.cTrue, G.gSet, G.gTupD, G.gsCons, G.gsNil, G.iSeq, G.iRan1, G.iZip, G.isiD, G.xg0, G.xg1, G.xw0, G.xw1, G.xbs, G.xms, G.xmc, G.xmn, G.xna, G.xca, Sh.cat_y, Sh.sub_y, Sh.le_y, Sh.ne_y, Sh.eq_y, Sh.lt_y, Sh.gt_y, Sh.rep0, Sh.rep1, Sh.rep2, Sh.cut41, Sh.at40, Sh.at41, Sh.at42, Sh.at43, Sh.at30, Sh.at31, Sh.at32, Sh.at20, Sh.at21, G.xnt, G.xnf, G.xft, if_true, if_false, ite_true, ite_false, $[$ts:term],*])
local macro_rules
  | `(tactic| wp_walk using evB) => `(tactic| simp only [G.sSeq, G.sSet, G.sRet, G.sIf, G.sNil, G.sSetN, G.sAsg, G.dVar, G.dC, G.dTup, G.dLst, G.dBin, G.dCall, G.dAnd, G.dOr, G.dNot, G.dChain, G.dIx, G.dLen, G.dTupN, G.dAll, G.dInt, G.dIsi, G.qVar, G.qE, G.qN, G.seqD, G.oNone, G.oSome, G.intOf, G.aNil, G.aCons, G.tTru, G.tB2, G.tAnd2, G.tOr2, G.tNot2, G.truD, G.boolOf, G.cTrue, G.gSet, G.gTupD, G.gsCons, G.gsNil, G.iSeq, G.isiD, G.xg0, G.xg1, G.xw0, G.xw1, G.xbs, G.xms, G.xmc, G.xmn, G.xna, G.xca, Sh.cat_y, Sh.sub_y, Sh.le_y, Sh.ne_y, Sh.eq_y, Sh.lt_y, Sh.gt_y, Sh.at40, Sh.at41, Sh.at42, Sh.at43, Sh.at30, Sh.at31, Sh.at32, Sh.at20, Sh.at21, G.xnt, G.xnf, G.xft, if_true, if_false])
  | `(tactic| wp_walk using evB, $ts,*) => `(tactic| simp only [G.sSeq, G.sSet, G.sRet, G.sIf, G.sNil, G.sSetN, G.sAsg, G.dVar, G.dC, G.dTup, G.dLst, G.dBin, G.dCall, G.dAnd, G.dOr, G.dNot, G.dChain, G.dIx, G.dLen, G.dTupN, G.dAll, G.dInt, G.dIsi, G.qVar, G.qE, G.qN, G.seqD, G.oNone, G.oSome, G.intOf, G.aNil, G.aCons, G.tTru, G.tB2, G.tAnd2, G.tOr2, G.tNot2, G.truD, G.boolOf, G.cTrue, G.gSet, G.gTupD, G.gsCons, G.gsNil, G.iSeq, G.isiD, G.xg0, G.xg1, G.xw0, G.xw1, G.xbs, G.xms, G.xmc, G.xmn, G.xna, G.xca, Sh.cat_y, Sh.sub_y, Sh.le_y, Sh.ne_y, Sh.eq_y, Sh.lt_y, Sh.gt_y, Sh.at40, Sh.at41, Sh.at42, Sh.at43, Sh.at30, Sh.at31, Sh.at32, Sh.at20, Sh.at21, G.xnt, G.xnf, G.xft, if_true, if_false, $[$ts:term],*])
local macro_rules
  | `(tactic| wp_walk using evC) => `(tactic| simp only [G.sSeq, G.sSet, G.sRet, G.sIf, G.sNil, G.sSetN, G.sAsg, G.dVar, G.dC, G.dTup, G.dLst, G.dBin, G.dCall, G.dIte, G.dAnd, G.dOr, G.dNot, G.dChain, G.dIx, G.dSlT, G.dLen, G.dTupN, G.dAll, G.dInt, G.dIsi, G.qVar, G.qE, G.qN, G.seqD, G.oNone, G.oSome, G.intOf, G.aNil, G.aCons, G.tTru, G.tB2, G.tAnd2, G.tOr2, G.tNot2, G.truD, G.boolOf, G.nComp, G.compD, G.capD, G.cTrue, G.gSet, G.gTupD, G.gsCons, G.gsNil, G.iSeq, G.iRan1, G.iZip, G.isiD, G.xg0, G.xg1, G.xw0, G.xw1, G.xbs, G.xms, G.xmc, G.xmn, G.xna, G.xca, Sh.cat_y, Sh.sub_y, Sh.le_y, Sh.ne_y, Sh.eq_y, Sh.lt_y, Sh.gt_y, Sh.rep0, Sh.rep1, Sh.rep2, Sh.cut41, Sh.at40, Sh.at41, Sh.at42, Sh.at43, Sh.at30, Sh.at31, Sh.at32, Sh.at20, Sh.at21, G.xnt, G.xnf, G.xft, if_true, if_false, ite_true, ite_false, G.catE_y, G.tTst])
  | `(tactic| wp_walk using evC, $ts,*) => `(tactic| simp only [G.sSeq, G.sSet, G.sRet, G.sIf, G.sNil, G.sSetN, G.sAsg, G.dVar, G.dC, G.dTup, G.dLst, G.dBin, G.dCall, G.dIte, G.dAnd, G.dOr, G.dNot, G.dChain, G.dIx, G.dSlT, G.dLen, G.dTupN, G.dAll, G.dInt, G.dIsi, G.qVar, G.qE, G.qN, G.seqD, G.oNone, G.oSome, G.intOf, G.aNil, G.aCons, G.tTru, G.tB2, G.tAnd2, G.tOr2, G.tNot2, G.truD, G.boolOf, G.nComp, G.compD, G.capD, G.cTrue, G.gSet, G.gTupD, G.gsCons, G.gsNil, G.iSeq, G.iRan1, G.iZip, G.isiD, G.xg0, G.xg1, G.xw0, G.xw1, G.xbs, G.xms, G.xmc, G.xmn, G.xna, G.xca, Sh.cat_y, Sh.sub_y, Sh.le_y, Sh.ne_y, Sh.eq_y, Sh.lt_y, Sh.gt_y, Sh.rep0, Sh.rep1, Sh.rep2, Sh.cut41, Sh.at40, Sh.at41, Sh.at42, Sh.at43, Sh.at30, Sh.at31, Sh.at32, Sh.at20, Sh.at21, G.xnt, G.xnf, G.xft, if_true, if_false, ite_true, ite_false, G.catE_y, G.tTst, $[$ts:term],*])
local macro_rules
  | `(tactic| wp_walk using evD) => `(tactic| simp only [G.sSeq, G.sSet, G.sRet, G.sIf, G.sNil, G.sSetN, G.sAsg, G.dVar, G.dC, G.dTup, G.dLst, G.dBin, G.dCall, G.dAnd, G.dOr, G.dNot, G.dChain, G.dIx, G.dLen, G.dTupN, G.dAll, G.dInt, G.dIsi, G.qVar, G.qE, G.qN, G.seqD, G.oNone, G.oSome, G.intOf, G.aNil, G.aCons, G.tTru, G.tB2, G.tAnd2, G.tOr2, G.tNot2, G.truD, G.boolOf, G.cTrue, G.gSet, G.gTupD, G.gsCons, G.gsNil, G.iSeq, G.isiD, G.xg0, G.xg1, G.xw0, G.xw1, G.xbs, G.xms, G.xmc, G.xmn, G.xna, G.xca, Sh.cat_y, Sh.sub_y, Sh.le_y, Sh.ne_y, Sh.eq_y, Sh.lt_y, Sh.gt_y, Sh.at40, Sh.at41, Sh.at42, Sh.at43, Sh.at30, Sh.at31, Sh.at32, Sh.at20, Sh.at21, G.xnt, G.xnf, G.xft, if_true, if_false, G.catE_y, G.tTst])
  | `(tactic| wp_walk using evD, $ts,*) => `(tactic| simp only [G.sSeq, G.sSet, G.sRet, G.sIf, G.sNil, G.sSetN, G.sAsg, G.dVar, G.dC, G.dTup, G.dLst, G.dBin, G.dCall, G.dAnd, G.dOr, G.dNot, G.dChain, G.dIx, G.dLen, G.dTupN, G.dAll, G.dInt, G.dIsi, G.qVar, G.qE, G.qN, G.seqD, G.oNone, G.oSome, G.intOf, G.aNil, G.aCons, G.tTru, G.tB2, G.tAnd2, G.tOr2, G.tNot2, G.truD, G.boolOf, G.cTrue, G.gSet, G.gTupD, G.gsCons, G.gsNil, G.iSeq, G.isiD, G.xg0, G.xg1, G.xw0, G.xw1, G.xbs, G.xms, G.xmc, G.xmn, G.xna, G.xca, Sh.cat_y, Sh.sub_y, Sh.le_y, Sh.ne_y, Sh.eq_y, Sh.lt_y, Sh.gt_y, Sh.at40, Sh.at41, Sh.at42, Sh.at43, Sh.at30, Sh.at31, Sh.at32, Sh.at20, Sh.at21, G.xnt, G.xnf, G.xft, if_true, if_false, G.catE_y, G.tTst, $[$ts:term],*])
namespace Sh
open PySem G L2
theorem eqD_str {x y : Str} {b : Bool} (hx : PyData.canLay0 (.str x) = true) (hy : PyData.canLay0 (.str y) = true) (e : (x == y) = b) : eqD (.str x) (.str y) = some (.bool b) := by
 unfold eqD
 have s : ∀ z : Str, PyData.canLay0 (.str z) = true → SeqAt.shaped (.str z) = true := fun z h => by unfold SeqAt.shaped; rw [h]; rfl
 rw [if_pos ⟨s x hx, s y hy⟩]
 show some (PyData.bool (x == y)) = _
 rw [e]
theorem neD_str {x y : Str} {b : Bool} (hx : PyData.canLay0 (.str x) = true) (hy : PyData.canLay0 (.str y) = true) (e : (!(x == y)) = b) : neD (.str x) (.str y) = some (.bool b) := by
 unfold neD
 have s : ∀ z : Str, PyData.canLay0 (.str z) = true → SeqAt.shaped (.str z) = true := fun z h => by unfold SeqAt.shaped; rw [h]; rfl
 rw [if_pos ⟨s x hx, s y hy⟩]
 show some (PyData.bool (!(x == y))) = _
 rw [e]
theorem e_over_over : eqD (.str "over") (.str "over") = some (.bool true) := eqD_str (by decide +kernel) (by decide +kernel) (by decide +kernel)
theorem e_over_mu : eqD (.str "over") (.str "multiply") = some (.bool false) := eqD_str (by decide +kernel) (by decide +kernel) (by decide +kernel)
theorem e_over_screen : eqD (.str "over") (.str "screen") = some (.bool false) := eqD_str (by decide +kernel) (by decide +kernel) (by decide +kernel)
theorem e_over_plus : eqD (.str "over") (.str "plus") = some (.bool false) := eqD_str (by decide +kernel) (by decide +kernel) (by decide +kernel)
theorem e_over_atop : eqD (.str "over") (.str "atop") = some (.bool false) := eqD_str (by decide +kernel) (by decide +kernel) (by decide +kernel)
theorem e_over_cut : eqD (.str "over") (.str "cut") = some (.bool false) := eqD_str (by decide +kernel) (by decide +kernel) (by decide +kernel)
theorem e_mu_over : eqD (.str "multiply") (.str "over") = some (.bool false) := eqD_str (by decide +kernel) (by decide +kernel) (by decide +kernel)
theorem e_mu_mu : eqD (.str "multiply") (.str "multiply") = some (.bool true) := eqD_str (by decide +kernel) (by decide +kernel) (by decide +kernel)
theorem e_mu_screen : eqD (.str "multiply") (.str "screen") = some (.bool false) := eqD_str (by decide +kernel) (by decide +kernel) (by decide +kernel)
theorem e_mu_plus : eqD (.str "multiply") (.str "plus") = some (.bool false) := eqD_str (by decide +kernel) (by decide +kernel) (by decide +kernel)
theorem e_mu_atop : eqD (.str "multiply") (.str "atop") = some (.bool false) := eqD_str (by decide +kernel) (by decide +kernel) (by decide +kernel)
theorem e_mu_cut : eqD (.str "multiply") (.str "cut") = some (.bool false) := eqD_str (by decide +kernel) (by decide +kernel) (by decide +kernel)
theorem e_screen_over : eqD (.str "screen") (.str "over") = some (.bool false) := eqD_str (by decide +kernel) (by decide +kernel) (by decide +kernel)
theorem e_screen_mu : eqD (.str "screen") (.str "multiply") = some (.bool false) := eqD_str (by decide +kernel) (by decide +kernel) (by decide +kernel)
theorem e_screen_screen : eqD (.str "screen") (.str "screen") = some (.bool true) := eqD_str (by decide +kernel) (by decide +kernel) (by decide +kernel)
theorem e_screen_plus : eqD (.str "screen") (.str "plus") = some (.bool false) := eqD_str (by decide +kernel) (by decide +kernel) (by decide +kernel)
theorem e_screen_atop : eqD (.str "screen") (.str "atop") = some (.bool false) := eqD_str (by decide +kernel) (by decide +kernel) (by decide +kernel)
theorem e_screen_cut : eqD (.str "screen") (.str "cut") = some (.bool false) := eqD_str (by decide +kernel) (by decide +kernel) (by decide +kernel)
theorem e_plus_over : eqD (.str "plus") (.str "over") = some (.bool false) := eqD_str (by decide +kernel) (by decide +kernel) (by decide +kernel)
theorem e_plus_mu : eqD (.str "plus") (.str "multiply") = some (.bool false) := eqD_str (by decide +kernel) (by decide +kernel) (by decide +kernel)
theorem e_plus_screen : eqD (.str "plus") (.str "screen") = some (.bool false) := eqD_str (by decide +kernel) (by decide +kernel) (by decide +kernel)
theorem e_plus_plus : eqD (.str "plus") (.str "plus") = some (.bool true) := eqD_str (by decide +kernel) (by decide +kernel) (by decide +kernel)
theorem e_plus_atop : eqD (.str "plus") (.str "atop") = some (.bool false) := eqD_str (by decide +kernel) (by decide +kernel) (by decide +kernel)
theorem e_plus_cut : eqD (.str "plus") (.str "cut") = some (.bool false) := eqD_str (by decide +kernel) (by decide +kernel) (by decide +kernel)
theorem e_atop_over : eqD (.str "atop") (.str "over") = some (.bool false) := eqD_str (by decide +kernel) (by decide +kernel) (by decide +kernel)
theorem e_atop_mu : eqD (.str "atop") (.str "multiply") = some (.bool false) := eqD_str (by decide +kernel) (by decide +kernel) (by decide +kernel)
theorem e_atop_screen : eqD (.str "atop") (.str "screen") = some (.bool false) := eqD_str (by decide +kernel) (by decide +kernel) (by decide +kernel)
theorem e_atop_plus : eqD (.str "atop") (.str "plus") = some (.bool false) := eqD_str (by decide +kernel) (by decide +kernel) (by decide +kernel)
theorem e_atop_atop : eqD (.str "atop") (.str "atop") = some (.bool true) := eqD_str (by decide +kernel) (by decide +kernel) (by decide +kernel)
theorem e_atop_cut : eqD (.str "atop") (.str "cut") = some (.bool false) := eqD_str (by decide +kernel) (by decide +kernel) (by decide +kernel)
theorem e_cut_over : eqD (.str "cut") (.str "over") = some (.bool false) := eqD_str (by decide +kernel) (by decide +kernel) (by decide +kernel)
theorem e_cut_mu : eqD (.str "cut") (.str "multiply") = some (.bool false) := eqD_str (by decide +kernel) (by decide +kernel) (by decide +kernel)
theorem e_cut_screen : eqD (.str "cut") (.str "screen") = some (.bool false) := eqD_str (by decide +kernel) (by decide +kernel) (by decide +kernel)
theorem e_cut_plus : eqD (.str "cut") (.str "plus") = some (.bool false) := eqD_str (by decide +kernel) (by decide +kernel) (by decide +kernel)
theorem e_cut_atop : eqD (.str "cut") (.str "atop") = some (.bool false) := eqD_str (by decide +kernel) (by decide +kernel) (by decide +kernel)
theorem e_cut_cut : eqD (.str "cut") (.str "cut") = some (.bool true) := eqD_str (by decide +kernel) (by decide +kernel) (by decide +kernel)
theorem e_turn_turn : eqD (.str "turn") (.str "turn") = some (.bool true) := eqD_str (by decide +kernel) (by decide +kernel) (by decide +kernel)
theorem e_turn_grey : eqD (.str "turn") (.str "grey") = some (.bool false) := eqD_str (by decide +kernel) (by decide +kernel) (by decide +kernel)
theorem e_turn_round : eqD (.str "turn") (.str "round") = some (.bool false) := eqD_str (by decide +kernel) (by decide +kernel) (by decide +kernel)
theorem e_grey_turn : eqD (.str "grey") (.str "turn") = some (.bool false) := eqD_str (by decide +kernel) (by decide +kernel) (by decide +kernel)
theorem e_grey_grey : eqD (.str "grey") (.str "grey") = some (.bool true) := eqD_str (by decide +kernel) (by decide +kernel) (by decide +kernel)
theorem e_grey_round : eqD (.str "grey") (.str "round") = some (.bool false) := eqD_str (by decide +kernel) (by decide +kernel) (by decide +kernel)
theorem e_round_turn : eqD (.str "round") (.str "turn") = some (.bool false) := eqD_str (by decide +kernel) (by decide +kernel) (by decide +kernel)
theorem e_round_grey : eqD (.str "round") (.str "grey") = some (.bool false) := eqD_str (by decide +kernel) (by decide +kernel) (by decide +kernel)
theorem e_round_round : eqD (.str "round") (.str "round") = some (.bool true) := eqD_str (by decide +kernel) (by decide +kernel) (by decide +kernel)
theorem n_turn_turn : neD (.str "turn") (.str "turn") = some (.bool false) := neD_str (by decide +kernel) (by decide +kernel) (by decide +kernel)
theorem n_turn_grey : neD (.str "turn") (.str "grey") = some (.bool true) := neD_str (by decide +kernel) (by decide +kernel) (by decide +kernel)
theorem n_turn_round : neD (.str "turn") (.str "round") = some (.bool true) := neD_str (by decide +kernel) (by decide +kernel) (by decide +kernel)
theorem n_grey_turn : neD (.str "grey") (.str "turn") = some (.bool true) := neD_str (by decide +kernel) (by decide +kernel) (by decide +kernel)
theorem n_grey_grey : neD (.str "grey") (.str "grey") = some (.bool false) := neD_str (by decide +kernel) (by decide +kernel) (by decide +kernel)
theorem n_grey_round : neD (.str "grey") (.str "round") = some (.bool true) := neD_str (by decide +kernel) (by decide +kernel) (by decide +kernel)
theorem n_round_turn : neD (.str "round") (.str "turn") = some (.bool true) := neD_str (by decide +kernel) (by decide +kernel) (by decide +kernel)
theorem n_round_grey : neD (.str "round") (.str "grey") = some (.bool true) := neD_str (by decide +kernel) (by decide +kernel) (by decide +kernel)
theorem n_round_round : neD (.str "round") (.str "round") = some (.bool false) := neD_str (by decide +kernel) (by decide +kernel) (by decide +kernel)
inductive Man where
 | over | mult | screen | plus | atop | cut
def Man.s : Man → Str
 | .over => "over"
 | .mult => "multiply"
 | .screen => "screen"
 | .plus => "plus"
 | .atop => "atop"
 | .cut => "cut"
def cap1 (r : Rat) : Rat := if r ≤ 1 then r else 1
def Man.cov : Man → Rat → Rat → Rat
 | .plus, c, d => cap1 (c + d)
 | .atop, c, d => d
 | .cut, c, d => d * (1 - c)
 | _, c, d => c + d - c * d
def Man.col : Man → Rat → Rat → Rat → Rat → Rat
 | .over, c, d, x, y => x + y * (1 - c)
 | .mult, c, d, x, y => x * y + x * (1 - d) + y * (1 - c)
 | .screen, c, d, x, y => x + y - x * y
 | .plus, c, d, x, y => cap1 (x + y)
 | .atop, c, d, x, y => x * d + y * (1 - c)
 | .cut, c, d, x, y => y * (1 - c)
theorem one_sub {k : Nat} {c : Rat} (h : IsSh k c) : IsSh (k + 1) (1 - c) := by
 have b := Bd.one.sub h.bd h.le
 rw [Nat.add_comm] at b
 exact ⟨b, by have := h.bd.nn; grind⟩
theorem mul_le_add {a b : Rat} (ha : 0 ≤ a) (hb : 0 ≤ b) (ha1 : a ≤ 1) (hb1 : b ≤ 1) : a * b ≤ a + b := by
 have := Rat.mul_le_mul_of_nonneg_right ha1 hb
 grind
theorem cap_bd {k : Nat} {r : Rat} (h : Bd k r) (hk : 1 ≤ k) : IsSh k (cap1 r) := by
 unfold cap1
 split
 ·rename_i l; exact ⟨h, l⟩
 ·exact ⟨Bd.one.mono hk, Rat.le_refl⟩
theorem F_cov_ok (m : Man) {k : Nat} {c d : Rat} (hc : IsSh k c) (hd : IsSh k d) (l : 6 * k + 4 ≤ 8000) : F_blended_cover [.str m.s, fr c, fr d] = some (fr (m.cov c d)) ∧ Bd (6 * k + 4) (m.cov c d) := by
 have r1 := F_rest_ok hc.bd (by omega) hc.le
 have h1 := (one_sub hc)
 have ml := mul_le_add hc.bd.nn hd.bd.nn hc.le hd.le
 have e1 := F_added_ok hc.bd hd.bd (by omega)
 have e2 := F_times_ok hc.bd hd.bd (by omega)
 have b1 := hc.bd.add hd.bd
 have b2 := hc.bd.mul hd.bd
 have e3 := F_lessened_ok b1 b2 (by omega) ml
 have e4 := F_amo_ok b1 (by omega)
 have e5 := F_times_ok hd.bd h1.bd (by omega)
 cases m with
 | plus => exact ⟨run_rt (ρ := [‹.str "plus"›, ‹fr c›, ‹fr d›]) rfl (by wp_walk using evA, G_blended_cover, e_over_over, e_over_mu, e_over_screen, e_over_plus, e_over_atop, e_over_cut, e_mu_over, e_mu_mu, e_mu_screen, e_mu_plus, e_mu_atop, e_mu_cut, e_screen_over, e_screen_mu, e_screen_screen, e_screen_plus, e_screen_atop, e_screen_cut, e_plus_over, e_plus_mu, e_plus_screen, e_plus_plus, e_plus_atop, e_plus_cut, e_atop_over, e_atop_mu, e_atop_screen, e_atop_plus, e_atop_atop, e_atop_cut, e_cut_over, e_cut_mu, e_cut_screen, e_cut_plus, e_cut_atop, e_cut_cut, e_turn_turn, e_turn_grey, e_turn_round, e_grey_turn, e_grey_grey, e_grey_round, e_round_turn, e_round_grey, e_round_round, n_turn_turn, n_turn_grey, n_turn_round, n_grey_turn, n_grey_grey, n_grey_round, n_round_turn, n_round_grey, n_round_round, e1, e4; rfl), (cap_bd b1 (by omega)).bd.mono (by omega)⟩
 | atop => exact ⟨run_rt (ρ := [‹.str "atop"›, ‹fr c›, ‹fr d›]) rfl (by wp_walk using evA, G_blended_cover, e_over_over, e_over_mu, e_over_screen, e_over_plus, e_over_atop, e_over_cut, e_mu_over, e_mu_mu, e_mu_screen, e_mu_plus, e_mu_atop, e_mu_cut, e_screen_over, e_screen_mu, e_screen_screen, e_screen_plus, e_screen_atop, e_screen_cut, e_plus_over, e_plus_mu, e_plus_screen, e_plus_plus, e_plus_atop, e_plus_cut, e_atop_over, e_atop_mu, e_atop_screen, e_atop_plus, e_atop_atop, e_atop_cut, e_cut_over, e_cut_mu, e_cut_screen, e_cut_plus, e_cut_atop, e_cut_cut, e_turn_turn, e_turn_grey, e_turn_round, e_grey_turn, e_grey_grey, e_grey_round, e_round_turn, e_round_grey, e_round_round, n_turn_turn, n_turn_grey, n_turn_round, n_grey_turn, n_grey_grey, n_grey_round, n_round_turn, n_round_grey, n_round_round; rfl), hd.bd.mono (by omega)⟩
 | cut => exact ⟨run_rt (ρ := [‹.str "cut"›, ‹fr c›, ‹fr d›]) rfl (by wp_walk using evA, G_blended_cover, e_over_over, e_over_mu, e_over_screen, e_over_plus, e_over_atop, e_over_cut, e_mu_over, e_mu_mu, e_mu_screen, e_mu_plus, e_mu_atop, e_mu_cut, e_screen_over, e_screen_mu, e_screen_screen, e_screen_plus, e_screen_atop, e_screen_cut, e_plus_over, e_plus_mu, e_plus_screen, e_plus_plus, e_plus_atop, e_plus_cut, e_atop_over, e_atop_mu, e_atop_screen, e_atop_plus, e_atop_atop, e_atop_cut, e_cut_over, e_cut_mu, e_cut_screen, e_cut_plus, e_cut_atop, e_cut_cut, e_turn_turn, e_turn_grey, e_turn_round, e_grey_turn, e_grey_grey, e_grey_round, e_round_turn, e_round_grey, e_round_round, n_turn_turn, n_turn_grey, n_turn_round, n_grey_turn, n_grey_grey, n_grey_round, n_round_turn, n_round_grey, n_round_round, r1, e5; rfl), (hd.bd.mul h1.bd).mono (by omega)⟩
 | over => exact ⟨run_rt (ρ := [‹.str "over"›, ‹fr c›, ‹fr d›]) rfl (by wp_walk using evA, G_blended_cover, e_over_over, e_over_mu, e_over_screen, e_over_plus, e_over_atop, e_over_cut, e_mu_over, e_mu_mu, e_mu_screen, e_mu_plus, e_mu_atop, e_mu_cut, e_screen_over, e_screen_mu, e_screen_screen, e_screen_plus, e_screen_atop, e_screen_cut, e_plus_over, e_plus_mu, e_plus_screen, e_plus_plus, e_plus_atop, e_plus_cut, e_atop_over, e_atop_mu, e_atop_screen, e_atop_plus, e_atop_atop, e_atop_cut, e_cut_over, e_cut_mu, e_cut_screen, e_cut_plus, e_cut_atop, e_cut_cut, e_turn_turn, e_turn_grey, e_turn_round, e_grey_turn, e_grey_grey, e_grey_round, e_round_turn, e_round_grey, e_round_round, n_turn_turn, n_turn_grey, n_turn_round, n_grey_turn, n_grey_grey, n_grey_round, n_round_turn, n_round_grey, n_round_round, e1, e2, e3; rfl), (b1.sub b2 ml).mono (by omega)⟩
 | mult => exact ⟨run_rt (ρ := [‹.str "multiply"›, ‹fr c›, ‹fr d›]) rfl (by wp_walk using evA, G_blended_cover, e_over_over, e_over_mu, e_over_screen, e_over_plus, e_over_atop, e_over_cut, e_mu_over, e_mu_mu, e_mu_screen, e_mu_plus, e_mu_atop, e_mu_cut, e_screen_over, e_screen_mu, e_screen_screen, e_screen_plus, e_screen_atop, e_screen_cut, e_plus_over, e_plus_mu, e_plus_screen, e_plus_plus, e_plus_atop, e_plus_cut, e_atop_over, e_atop_mu, e_atop_screen, e_atop_plus, e_atop_atop, e_atop_cut, e_cut_over, e_cut_mu, e_cut_screen, e_cut_plus, e_cut_atop, e_cut_cut, e_turn_turn, e_turn_grey, e_turn_round, e_grey_turn, e_grey_grey, e_grey_round, e_round_turn, e_round_grey, e_round_round, n_turn_turn, n_turn_grey, n_turn_round, n_grey_turn, n_grey_grey, n_grey_round, n_round_turn, n_round_grey, n_round_round, e1, e2, e3; rfl), (b1.sub b2 ml).mono (by omega)⟩
 | screen => exact ⟨run_rt (ρ := [‹.str "screen"›, ‹fr c›, ‹fr d›]) rfl (by wp_walk using evA, G_blended_cover, e_over_over, e_over_mu, e_over_screen, e_over_plus, e_over_atop, e_over_cut, e_mu_over, e_mu_mu, e_mu_screen, e_mu_plus, e_mu_atop, e_mu_cut, e_screen_over, e_screen_mu, e_screen_screen, e_screen_plus, e_screen_atop, e_screen_cut, e_plus_over, e_plus_mu, e_plus_screen, e_plus_plus, e_plus_atop, e_plus_cut, e_atop_over, e_atop_mu, e_atop_screen, e_atop_plus, e_atop_atop, e_atop_cut, e_cut_over, e_cut_mu, e_cut_screen, e_cut_plus, e_cut_atop, e_cut_cut, e_turn_turn, e_turn_grey, e_turn_round, e_grey_turn, e_grey_grey, e_grey_round, e_round_turn, e_round_grey, e_round_round, n_turn_turn, n_turn_grey, n_turn_round, n_grey_turn, n_grey_grey, n_grey_round, n_round_turn, n_round_grey, n_round_round, e1, e2, e3; rfl), (b1.sub b2 ml).mono (by omega)⟩
theorem F_col_ok (m : Man) {k : Nat} {c d x y : Rat} (hc : IsSh k c) (hd : IsSh k d) (hx : IsSh k x) (hy : IsSh k y) (l : 6 * k + 4 ≤ 8000) : F_blended_colour [.str m.s, fr c, fr d, fr x, fr y] = some (fr (m.col c d x y)) ∧ Bd (6 * k + 4) (m.col c d x y) := by
 have r1 := F_rest_ok hc.bd (by omega) hc.le
 have r2 := F_rest_ok hd.bd (by omega) hd.le
 have h1 := one_sub hc
 have h2 := one_sub hd
 have ml := mul_le_add hx.bd.nn hy.bd.nn hx.le hy.le
 have e1 := F_added_ok hx.bd hy.bd (by omega)
 have e2 := F_times_ok hx.bd hy.bd (by omega)
 have b1 := hx.bd.add hy.bd
 have b2 := hx.bd.mul hy.bd
 have e3 := F_lessened_ok b1 b2 (by omega) ml
 have e4 := F_amo_ok b1 (by omega)
 have bt := hy.bd.mul h1.bd
 have et := F_times_ok hy.bd h1.bd (by omega)
 have e6 := F_added_ok hx.bd bt (by omega)
 have bd := hx.bd.mul h2.bd
 have e7 := F_times_ok hx.bd h2.bd (by omega)
 have b8 := b2.add bd
 have e8 := F_added_ok b2 bd (by omega)
 have e9 := F_added_ok b8 bt (by omega)
 have b10 := hx.bd.mul hd.bd
 have e10 := F_times_ok hx.bd hd.bd (by omega)
 have e11 := F_added_ok b10 bt (by omega)
 cases m with
 | plus => exact ⟨run_rt (ρ := [‹.str "plus"›, ‹fr c›, ‹fr d›, ‹fr x›, ‹fr y›, none]) rfl (by wp_walk using evA, G_blended_colour, e_over_over, e_over_mu, e_over_screen, e_over_plus, e_over_atop, e_over_cut, e_mu_over, e_mu_mu, e_mu_screen, e_mu_plus, e_mu_atop, e_mu_cut, e_screen_over, e_screen_mu, e_screen_screen, e_screen_plus, e_screen_atop, e_screen_cut, e_plus_over, e_plus_mu, e_plus_screen, e_plus_plus, e_plus_atop, e_plus_cut, e_atop_over, e_atop_mu, e_atop_screen, e_atop_plus, e_atop_atop, e_atop_cut, e_cut_over, e_cut_mu, e_cut_screen, e_cut_plus, e_cut_atop, e_cut_cut, e_turn_turn, e_turn_grey, e_turn_round, e_grey_turn, e_grey_grey, e_grey_round, e_round_turn, e_round_grey, e_round_round, n_turn_turn, n_turn_grey, n_turn_round, n_grey_turn, n_grey_grey, n_grey_round, n_round_turn, n_round_grey, n_round_round, e1, e4; rfl), (cap_bd b1 (by omega)).bd.mono (by omega)⟩
 | screen => exact ⟨run_rt (ρ := [‹.str "screen"›, ‹fr c›, ‹fr d›, ‹fr x›, ‹fr y›, none]) rfl (by wp_walk using evA, G_blended_colour, e_over_over, e_over_mu, e_over_screen, e_over_plus, e_over_atop, e_over_cut, e_mu_over, e_mu_mu, e_mu_screen, e_mu_plus, e_mu_atop, e_mu_cut, e_screen_over, e_screen_mu, e_screen_screen, e_screen_plus, e_screen_atop, e_screen_cut, e_plus_over, e_plus_mu, e_plus_screen, e_plus_plus, e_plus_atop, e_plus_cut, e_atop_over, e_atop_mu, e_atop_screen, e_atop_plus, e_atop_atop, e_atop_cut, e_cut_over, e_cut_mu, e_cut_screen, e_cut_plus, e_cut_atop, e_cut_cut, e_turn_turn, e_turn_grey, e_turn_round, e_grey_turn, e_grey_grey, e_grey_round, e_round_turn, e_round_grey, e_round_round, n_turn_turn, n_turn_grey, n_turn_round, n_grey_turn, n_grey_grey, n_grey_round, n_round_turn, n_round_grey, n_round_round, e1, e2, e3; rfl), (b1.sub b2 ml).mono (by omega)⟩
 | over => exact ⟨run_rt (ρ := [‹.str "over"›, ‹fr c›, ‹fr d›, ‹fr x›, ‹fr y›, none]) rfl (by wp_walk using evA, G_blended_colour, e_over_over, e_over_mu, e_over_screen, e_over_plus, e_over_atop, e_over_cut, e_mu_over, e_mu_mu, e_mu_screen, e_mu_plus, e_mu_atop, e_mu_cut, e_screen_over, e_screen_mu, e_screen_screen, e_screen_plus, e_screen_atop, e_screen_cut, e_plus_over, e_plus_mu, e_plus_screen, e_plus_plus, e_plus_atop, e_plus_cut, e_atop_over, e_atop_mu, e_atop_screen, e_atop_plus, e_atop_atop, e_atop_cut, e_cut_over, e_cut_mu, e_cut_screen, e_cut_plus, e_cut_atop, e_cut_cut, e_turn_turn, e_turn_grey, e_turn_round, e_grey_turn, e_grey_grey, e_grey_round, e_round_turn, e_round_grey, e_round_round, n_turn_turn, n_turn_grey, n_turn_round, n_grey_turn, n_grey_grey, n_grey_round, n_round_turn, n_round_grey, n_round_round, r1, et, e6; rfl), (hx.bd.add bt).mono (by omega)⟩
 | mult => exact ⟨run_rt (ρ := [‹.str "multiply"›, ‹fr c›, ‹fr d›, ‹fr x›, ‹fr y›, none]) rfl (by wp_walk using evA, G_blended_colour, e_over_over, e_over_mu, e_over_screen, e_over_plus, e_over_atop, e_over_cut, e_mu_over, e_mu_mu, e_mu_screen, e_mu_plus, e_mu_atop, e_mu_cut, e_screen_over, e_screen_mu, e_screen_screen, e_screen_plus, e_screen_atop, e_screen_cut, e_plus_over, e_plus_mu, e_plus_screen, e_plus_plus, e_plus_atop, e_plus_cut, e_atop_over, e_atop_mu, e_atop_screen, e_atop_plus, e_atop_atop, e_atop_cut, e_cut_over, e_cut_mu, e_cut_screen, e_cut_plus, e_cut_atop, e_cut_cut, e_turn_turn, e_turn_grey, e_turn_round, e_grey_turn, e_grey_grey, e_grey_round, e_round_turn, e_round_grey, e_round_round, n_turn_turn, n_turn_grey, n_turn_round, n_grey_turn, n_grey_grey, n_grey_round, n_round_turn, n_round_grey, n_round_round, r1, r2, et, e2, e7, e8, e9; rfl), (b8.add bt).mono (by omega)⟩
 | atop => exact ⟨run_rt (ρ := [‹.str "atop"›, ‹fr c›, ‹fr d›, ‹fr x›, ‹fr y›, none]) rfl (by wp_walk using evA, G_blended_colour, e_over_over, e_over_mu, e_over_screen, e_over_plus, e_over_atop, e_over_cut, e_mu_over, e_mu_mu, e_mu_screen, e_mu_plus, e_mu_atop, e_mu_cut, e_screen_over, e_screen_mu, e_screen_screen, e_screen_plus, e_screen_atop, e_screen_cut, e_plus_over, e_plus_mu, e_plus_screen, e_plus_plus, e_plus_atop, e_plus_cut, e_atop_over, e_atop_mu, e_atop_screen, e_atop_plus, e_atop_atop, e_atop_cut, e_cut_over, e_cut_mu, e_cut_screen, e_cut_plus, e_cut_atop, e_cut_cut, e_turn_turn, e_turn_grey, e_turn_round, e_grey_turn, e_grey_grey, e_grey_round, e_round_turn, e_round_grey, e_round_round, n_turn_turn, n_turn_grey, n_turn_round, n_grey_turn, n_grey_grey, n_grey_round, n_round_turn, n_round_grey, n_round_round, r1, et, e10, e11; rfl), (b10.add bt).mono (by omega)⟩
 | cut => exact ⟨run_rt (ρ := [‹.str "cut"›, ‹fr c›, ‹fr d›, ‹fr x›, ‹fr y›, none]) rfl (by wp_walk using evA, G_blended_colour, e_over_over, e_over_mu, e_over_screen, e_over_plus, e_over_atop, e_over_cut, e_mu_over, e_mu_mu, e_mu_screen, e_mu_plus, e_mu_atop, e_mu_cut, e_screen_over, e_screen_mu, e_screen_screen, e_screen_plus, e_screen_atop, e_screen_cut, e_plus_over, e_plus_mu, e_plus_screen, e_plus_plus, e_plus_atop, e_plus_cut, e_atop_over, e_atop_mu, e_atop_screen, e_atop_plus, e_atop_atop, e_atop_cut, e_cut_over, e_cut_mu, e_cut_screen, e_cut_plus, e_cut_atop, e_cut_cut, e_turn_turn, e_turn_grey, e_turn_round, e_grey_turn, e_grey_grey, e_grey_round, e_round_turn, e_round_grey, e_round_round, n_turn_turn, n_turn_grey, n_turn_round, n_grey_turn, n_grey_grey, n_grey_round, n_round_turn, n_round_grey, n_round_round, r1, et; rfl), bt.mono (by omega)⟩
theorem cov_le (m : Man) {c d : Rat} (hc : 0 ≤ c) (hd : 0 ≤ d) (hc1 : c ≤ 1) (hd1 : d ≤ 1) : m.cov c d ≤ 1 := by
 have p : 0 ≤ (1 - c) * (1 - d) := Rat.mul_nonneg (by grind) (by grind)
 have q : d * (1 - c) ≤ 1 * (1 - c) := Rat.mul_le_mul_of_nonneg_right hd1 (by grind)
 cases m <;> simp only [Man.cov, cap1] <;> grind
theorem col_le (m : Man) {c d x y : Rat} (hc : 0 ≤ c) (hd : 0 ≤ d) (hc1 : c ≤ 1) (hd1 : d ≤ 1) (hx : 0 ≤ x) (hy : 0 ≤ y) (xc : x ≤ c) (yd : y ≤ d) : m.col c d x y ≤ m.cov c d := by
 have q1 : y * (1 - c) ≤ d * (1 - c) := Rat.mul_le_mul_of_nonneg_right yd (by grind)
 have q2 : x * (y + 1 - d) ≤ c * (y + 1 - d) := Rat.mul_le_mul_of_nonneg_right xc (by grind)
 have q3 : x * d ≤ c * d := Rat.mul_le_mul_of_nonneg_right xc hd
 have q4 : (1 - c) * (1 - d) ≤ (1 - x) * (1 - d) := Rat.mul_le_mul_of_nonneg_right (by grind) (by grind)
 have q5 : (1 - d) * (1 - x) ≤ (1 - y) * (1 - x) := Rat.mul_le_mul_of_nonneg_right (by grind) (by grind)
 cases m <;> simp only [Man.cov, Man.col, cap1] <;> grind
theorem zip3 (a b c d e f : D) : (List.zip [a, b, c] [d, e, f]) = [(a, d), (b, e), (c, f)] := rfl
theorem ln2 (a b : D) : ([a, b] : List D).length = 2 := rfl
theorem blended_ok (m : Man) {k : Nat} {c x1 x2 x3 d y1 y2 y3 : Rat} (S : Spot k c x1 x2 x3) (T : Spot k d y1 y2 y3) (l : 6 * k + 4 ≤ 8000) :
  F_blended [.str m.s, sp c x1 x2 x3, sp d y1 y2 y3] = some (sp (m.cov c d) (m.col c d x1 y1) (m.col c d x2 y2) (m.col c d x3 y3)) ∧ Spot (6 * k + 4) (m.cov c d) (m.col c d x1 y1) (m.col c d x2 y2) (m.col c d x3 y3) := by
 have s1 : IsSh k x1 := ⟨S.hx, Rat.le_trans S.xc S.hc.le⟩
 have s2 : IsSh k x2 := ⟨S.hy, Rat.le_trans S.yc S.hc.le⟩
 have s3 : IsSh k x3 := ⟨S.hz, Rat.le_trans S.zc S.hc.le⟩
 have t1 : IsSh k y1 := ⟨T.hx, Rat.le_trans T.xc T.hc.le⟩
 have t2 : IsSh k y2 := ⟨T.hy, Rat.le_trans T.yc T.hc.le⟩
 have t3 : IsSh k y3 := ⟨T.hz, Rat.le_trans T.zc T.hc.le⟩
 have a0 := F_cov_ok m S.hc T.hc l
 have a1 := F_col_ok m S.hc T.hc s1 t1 l
 have a2 := F_col_ok m S.hc T.hc s2 t2 l
 have a3 := F_col_ok m S.hc T.hc s3 t3 l
 refine ⟨?_, ⟨⟨a0.2, cov_le m S.hc.bd.nn T.hc.bd.nn S.hc.le T.hc.le⟩, a1.2, a2.2, a3.2, col_le m S.hc.bd.nn T.hc.bd.nn S.hc.le T.hc.le S.hx.nn T.hx.nn S.xc T.xc, col_le m S.hc.bd.nn T.hc.bd.nn S.hc.le T.hc.le S.hy.nn T.hy.nn S.yc T.yc, col_le m S.hc.bd.nn T.hc.bd.nn S.hc.le T.hc.le S.hz.nn T.hz.nn S.zc T.zc⟩⟩
 refine run_rt (ρ := [‹.str m.s›, ‹sp c x1 x2 x3›, ‹sp d y1 y2 y3›, none, none, none]) rfl ?_
 have f3 : ∀ a b c : D, ([a, b, c] : List D).length ≤ 16777216 := fun a b c => by show 3 ≤ 16777216; decide
 wp_walk using evA, G_blended, sp, zip3, f3, ln2, a0.1, a1.1, a2.1, a3.1
end Sh
namespace Sh
open PySem G L2
inductive Rul where
 | turn | grey | round
def Rul.s : Rul → Str
 | .turn => "turn"
 | .grey => "grey"
 | .round => "round"
def third : Rat := mkRat 1 3
theorem fr_third : fr third = .tuple [.int 1, .int 3] := by
 show PyData.tuple [.int (mkRat 1 3).num, .int (mkRat 1 3).den] = _
 rw [show (mkRat 1 3).num = 1 by decide +kernel, show (mkRat 1 3).den = 3 by decide +kernel]; rfl
theorem third_eq : third * 3 = 1 := by decide +kernel
theorem third_sh : IsSh 2 third := ⟨⟨by decide +kernel, by decide +kernel, by decide +kernel⟩, by decide +kernel⟩
def Rul.new : Rul → Rat → Rat → Rat → Rat → Rat
 | .turn, c, x, y, z => c - x
 | .grey, c, x, y, z => (x + y + z) * third
 | .round, c, x, y, z => y
def Rul.mix (r : Rul) (s c x y z : Rat) : Rat := s * r.new c x y z + (1 - s) * x
theorem F_mixed_ok {j k : Nat} {s n o : Rat} (hs : IsSh k s) (hn : Bd j n) (ho : Bd k o) (l : k + j + 2 * k + 1 ≤ 8000) : F_mixed [fr s, fr n, fr o] = some (fr (s * n + (1 - s) * o)) := by
 have e1 := F_times_ok hs.bd hn (by omega)
 have r1 := F_rest_ok hs.bd (by omega) hs.le
 have e2 := F_times_ok (one_sub hs).bd ho (by omega)
 have e3 := F_added_ok (hs.bd.mul hn) ((one_sub hs).bd.mul ho) (by omega)
 refine run_rt (ρ := [‹fr s›, ‹fr n›, ‹fr o›]) rfl ?_
 wp_walk using evA, G_mixed, e1, r1, e2, e3
theorem F_by_rule_ok (r : Rul) {k : Nat} {c x y z : Rat} (S : Spot k c x y z) (l : 6 * k + 6 ≤ 8000) : F_by_rule [.str r.s, sp c x y z] = some (sp c (r.new c x y z) (r.new c y z x) (r.new c z x y)) := by
 have e1 := F_lessened_ok S.hc.bd S.hx (by omega) S.xc
 have e2 := F_lessened_ok S.hc.bd S.hy (by omega) S.yc
 have e3 := F_lessened_ok S.hc.bd S.hz (by omega) S.zc
 have b4 := S.hx.add S.hy
 have e4 := F_added_ok S.hx S.hy (by omega)
 have e5 := F_added_ok b4 S.hz (by omega)
 have e6 := F_times_ok (b4.add S.hz) third_sh.bd (by omega)
 rw [fr_third] at e6
 have g1 : (y + z + x) * third = (x + y + z) * third := by grind
 have g2 : (z + x + y) * third = (x + y + z) * third := by grind
 cases r with
 | turn =>
  refine run_rt (ρ := [‹.str "turn"›, ‹sp c x y z›, none, none, none, none, none]) rfl ?_
  wp_walk using evA, G_by_rule, sp, e_over_over, e_over_mu, e_over_screen, e_over_plus, e_over_atop, e_over_cut, e_mu_over, e_mu_mu, e_mu_screen, e_mu_plus, e_mu_atop, e_mu_cut, e_screen_over, e_screen_mu, e_screen_screen, e_screen_plus, e_screen_atop, e_screen_cut, e_plus_over, e_plus_mu, e_plus_screen, e_plus_plus, e_plus_atop, e_plus_cut, e_atop_over, e_atop_mu, e_atop_screen, e_atop_plus, e_atop_atop, e_atop_cut, e_cut_over, e_cut_mu, e_cut_screen, e_cut_plus, e_cut_atop, e_cut_cut, e_turn_turn, e_turn_grey, e_turn_round, e_grey_turn, e_grey_grey, e_grey_round, e_round_turn, e_round_grey, e_round_round, n_turn_turn, n_turn_grey, n_turn_round, n_grey_turn, n_grey_grey, n_grey_round, n_round_turn, n_round_grey, n_round_round, e1, e2, e3; rfl
 | grey =>
  refine run_rt (ρ := [‹.str "grey"›, ‹sp c x y z›, none, none, none, none, none]) rfl ?_
  wp_walk using evA, G_by_rule, sp, e_over_over, e_over_mu, e_over_screen, e_over_plus, e_over_atop, e_over_cut, e_mu_over, e_mu_mu, e_mu_screen, e_mu_plus, e_mu_atop, e_mu_cut, e_screen_over, e_screen_mu, e_screen_screen, e_screen_plus, e_screen_atop, e_screen_cut, e_plus_over, e_plus_mu, e_plus_screen, e_plus_plus, e_plus_atop, e_plus_cut, e_atop_over, e_atop_mu, e_atop_screen, e_atop_plus, e_atop_atop, e_atop_cut, e_cut_over, e_cut_mu, e_cut_screen, e_cut_plus, e_cut_atop, e_cut_cut, e_turn_turn, e_turn_grey, e_turn_round, e_grey_turn, e_grey_grey, e_grey_round, e_round_turn, e_round_grey, e_round_round, n_turn_turn, n_turn_grey, n_turn_round, n_grey_turn, n_grey_grey, n_grey_round, n_round_turn, n_round_grey, n_round_round, e4, e5, e6
  simp only [Rul.new, g1, g2]
 | round =>
  refine run_rt (ρ := [‹.str "round"›, ‹sp c x y z›, none, none, none, none, none]) rfl ?_
  wp_walk using evA, G_by_rule, sp, e_over_over, e_over_mu, e_over_screen, e_over_plus, e_over_atop, e_over_cut, e_mu_over, e_mu_mu, e_mu_screen, e_mu_plus, e_mu_atop, e_mu_cut, e_screen_over, e_screen_mu, e_screen_screen, e_screen_plus, e_screen_atop, e_screen_cut, e_plus_over, e_plus_mu, e_plus_screen, e_plus_plus, e_plus_atop, e_plus_cut, e_atop_over, e_atop_mu, e_atop_screen, e_atop_plus, e_atop_atop, e_atop_cut, e_cut_over, e_cut_mu, e_cut_screen, e_cut_plus, e_cut_atop, e_cut_cut, e_turn_turn, e_turn_grey, e_turn_round, e_grey_turn, e_grey_grey, e_grey_round, e_round_turn, e_round_grey, e_round_round, n_turn_turn, n_turn_grey, n_turn_round, n_grey_turn, n_grey_grey, n_grey_round, n_round_turn, n_round_grey, n_round_round; rfl
theorem new_bd (r : Rul) {k : Nat} {c x y z : Rat} (S : Spot k c x y z) : Bd (3 * k + 4) (r.new c x y z) := by
 cases r with
 | turn => exact (S.hc.bd.sub S.hx S.xc).mono (by omega)
 | grey => exact (((S.hx.add S.hy).add S.hz).mul third_sh.bd).mono (by omega)
 | round => exact S.hy.mono (by omega)
theorem Spot.rot {k : Nat} {c x y z : Rat} (S : Spot k c x y z) : Spot k c y z x := ⟨S.hc, S.hy, S.hz, S.hx, S.yc, S.zc, S.xc⟩
theorem new_le (r : Rul) {k : Nat} {c x y z : Rat} (S : Spot k c x y z) : r.new c x y z ≤ c := by
 have h1 := S.xc
 have h2 := S.yc
 have h3 := S.zc
 have h4 := S.hx.nn
 cases r with
 | turn => simp only [Rul.new]; grind
 | grey =>
  simp only [Rul.new]
  have : (x + y + z) * third ≤ (c + c + c) * third := Rat.mul_le_mul_of_nonneg_right (by grind) third_sh.bd.nn
  have e : (c + c + c) * third = c := by have := third_eq; grind
  rw [e] at this
  exact this
 | round => exact h2
theorem mix_le (r : Rul) {k : Nat} {s c x y z : Rat} (S : Spot k c x y z) (hs : IsSh k s) : r.mix s c x y z ≤ c := by
 have h1 : r.new c x y z * s ≤ c * s := Rat.mul_le_mul_of_nonneg_right (new_le r S) hs.bd.nn
 have h2 : x * (1 - s) ≤ c * (1 - s) := Rat.mul_le_mul_of_nonneg_right S.xc (by have := hs.le; grind)
 unfold Rul.mix
 grind
theorem mix_bd (r : Rul) {k : Nat} {s c x y z : Rat} (S : Spot k c x y z) (hs : IsSh k s) : Bd (6 * k + 6) (r.mix s c x y z) := by
 unfold Rul.mix
 exact ((hs.bd.mul (new_bd r S)).add ((one_sub hs).bd.mul S.hx)).mono (by omega)
theorem zip4 (a b c d e f g h : D) : (List.zip [a, b, c, d] [e, f, g, h]) = [(a, e), (b, f), (c, g), (d, h)] := rfl
theorem toned_ok (r : Rul) {k : Nat} {s c x y z : Rat} (S : Spot k c x y z) (hs : IsSh k s) (l : 6 * k + 6 ≤ 8000) :
  F_toned [.str r.s, sp c x y z, fr s] = some (sp c (r.mix s c x y z) (r.mix s c y z x) (r.mix s c z x y)) ∧ Spot (6 * k + 6) c (r.mix s c x y z) (r.mix s c y z x) (r.mix s c z x y) := by
 refine ⟨?_, ⟨S.hc.mono (by omega), mix_bd r S hs, mix_bd r S.rot hs, mix_bd r S.rot.rot hs, mix_le r S hs, mix_le r S.rot hs, mix_le r S.rot.rot hs⟩⟩
 have e0 := F_by_rule_ok r S l
 have ec := F_mixed_ok hs S.hc.bd S.hc.bd (by omega)
 have e1 := F_mixed_ok hs (new_bd r S) S.hx (by omega)
 have e2 := F_mixed_ok hs (new_bd r S.rot) S.hy (by omega)
 have e3 := F_mixed_ok hs (new_bd r S.rot.rot) S.hz (by omega)
 have cc : s * c + (1 - s) * c = c := by grind
 rw [cc] at ec
 refine run_rt (ρ := [‹.str r.s›, ‹sp c x y z›, ‹fr s›]) rfl ?_
 have f4 : ∀ a b c d : D, ([a, b, c, d] : List D).length ≤ 16777216 := fun a b c d => by show 4 ≤ 16777216; decide
 simp only [sp] at e0
 wp_walk using evA, G_toned, sp, zip4, f4, ln2, e0, ec, e1, e2, e3
 rfl
end Sh
namespace Sh
open PySem G L2
theorem cat_tup {xs ys : List D} (h : xs.length + ys.length ≤ 16777216) : catD (.tuple xs) (.tuple ys) = some (.tuple (xs ++ ys)) := if_pos h
end Sh
namespace Sh
open PySem G L2
theorem z3 (a b c d e f : D) : (List.zip [a, b, c] [d, e, f]).map (fun (x, y) => PyData.tuple [x, y]) = [.tuple [a, d], .tuple [b, e], .tuple [c, f]] := rfl
end Sh
namespace Sh
open PySem G L2
structure Q4 where
 c : Rat
 x : Rat
 y : Rat
 z : Rat
def Q4.d (q : Q4) : D := sp q.c q.x q.y q.z
def Q4.ok (k : Nat) (q : Q4) : Prop := Spot k q.c q.x q.y q.z
def q0 : Q4 := ⟨0, 0, 0, 0⟩
theorem q0_d : q0.d = .tuple [.tuple [.int 0, .int 1], .tuple [.int 0, .int 1], .tuple [.int 0, .int 1], .tuple [.int 0, .int 1]] := rfl
theorem q0_ok {k : Nat} (hk : 1 ≤ k) : q0.ok k := by
 have z : IsSh k 0 := ⟨Bd.zero.mono hk, by decide⟩
 exact ⟨z, z.bd, z.bd, z.bd, Rat.le_refl, Rat.le_refl, Rat.le_refl⟩
theorem Q4.ok.mono {j k : Nat} {q : Q4} (h : q.ok j) (l : j ≤ k) : q.ok k := Spot.mono h l
def Ly (n : Nat) (d : D) : Prop := PyData.canLay0 d = true ∧ PyData.depth d ≤ n
theorem all_ly {n : Nat} : ∀ xs : List D, (∀ x ∈ xs, Ly n x) → PyData.canLayAll0 xs = true ∧ PyData.depthAll xs ≤ n
 | [], _ => ⟨rfl, Nat.zero_le _⟩
 | x :: xs, g => by
  have a := g x (List.mem_cons_self ..)
  have b := all_ly xs fun y hy => g y (List.mem_cons_of_mem _ hy)
  refine ⟨?_, ?_⟩
  ·show (PyData.canLay0 x && PyData.canLayAll0 xs) = true
   rw [a.1, b.1]; rfl
  ·show max (PyData.depth x) (PyData.depthAll xs) ≤ n
   have := a.2; have := b.2; omega
theorem Ly.tup {n : Nat} {xs : List D} (h : ∀ x ∈ xs, Ly n x) : Ly (n + 1) (.tuple xs) := ⟨(all_ly xs h).1, Nat.succ_le_succ (all_ly xs h).2⟩
theorem Ly.int (n : Nat) (i : Int) : Ly n (.int i) := ⟨rfl, Nat.zero_le _⟩
theorem Ly.shaped {n : Nat} {d : D} (g : Ly n d) (hn : n ≤ 64) : SeqAt.shaped d = true := by
 unfold SeqAt.shaped
 rw [g.1, Bool.true_and]
 exact decide_eq_true (by have := g.2; omega)
theorem Ly.q4 (q : Q4) (n : Nat) : Ly (n + 2) q.d := ⟨rfl, by show 2 ≤ n + 2; omega⟩
theorem Ly.spots (l : List Q4) (n : Nat) : Ly (n + 3) (.tuple (l.map Q4.d)) := Ly.tup fun x hx => by
 obtain ⟨q, _, rfl⟩ := List.mem_map.mp hx
 exact Ly.q4 q n
theorem ne_self {n : Nat} {d : D} (g : Ly n d) (hn : n ≤ 64) : neD d d = some (.bool false) := by
 unfold neD
 rw [if_pos ⟨g.shaped hn, g.shaped hn⟩, SeqAt.eqv_refl d g.1]; rfl
theorem eq_self {n : Nat} {d : D} (g : Ly n d) (hn : n ≤ 64) : eqD d d = some (.bool true) := by
 unfold eqD
 rw [if_pos ⟨g.shaped hn, g.shaped hn⟩, SeqAt.eqv_refl d g.1]
def shD (w h : Nat) (l : List Q4) : D := .tuple [.int w, .int h, .tuple (l.map Q4.d)]
theorem Ly.sheet (w h : Nat) (l : List Q4) : Ly 4 (shD w h l) := Ly.tup fun x hx => by
 simp only [List.mem_cons, List.not_mem_nil, or_false] at hx
 rcases hx with rfl | rfl | rfl
 ·exact Ly.int _ _
 ·exact Ly.int _ _
 ·exact Ly.spots l 0
def atQ (w h : Nat) (l : List Q4) (x y : Int) : Q4 := if 0 ≤ x ∧ x < w ∧ 0 ≤ y ∧ y < h then l.getD (y * w + x).toNat q0 else q0
structure ShOk (k : Nat) (w h : Nat) (l : List Q4) : Prop where
 w1 : 1 ≤ w
 w8 : w ≤ 8
 h1 : 1 ≤ h
 h8 : h ≤ 8
 len : l.length = w * h
 ok : ∀ q ∈ l, q.ok k
theorem comp1 {α : Type} {e : DE} {r : Rho} {h f : α → D} : ∀ (l : List α) (x : Option B), (∀ a ∈ l, e (‹h a› :: r) = some (f a)) → compD (gSet 0) cTrue e (l.map h) (x :: r) = some (l.map f)
 | [], _, _ => rfl
 | a :: l, x, H => by
  simp only [xmc, compD, gSet, xw0, xbs, cTrue, if_true, H a (List.mem_cons_self ..), comp1 l _ (fun b hb => H b (List.mem_cons_of_mem _ hb)), xms]
theorem comp2 {α : Type} {e : DE} {r : Rho} {h1 h2 f : α → D} : ∀ (l : List α) (x y : Option B), (∀ a ∈ l, e (‹h1 a› :: ‹h2 a› :: r) = some (f a)) → compD (gTupD 2 (gsCons (gSet 0) (gsCons (gSet 1) gsNil))) cTrue e (l.map fun a => .tuple [h1 a, h2 a]) (x :: y :: r) = some (l.map f)
 | [], _, _, _ => rfl
 | a :: l, x, y, H => by
  have hl : ([h1 a, h2 a] : List D).length = 2 := rfl
  simp only [xmc, compD, gTupD, gsCons, gsNil, gSet, hl, if_true, xw0, xw1, xbs, cTrue, if_true, H a (List.mem_cons_self ..), comp2 l _ _ (fun b hb => H b (List.mem_cons_of_mem _ hb)), xms]
theorem comp1f {α : Type} {c : Rho → Option Bool} {e : DE} {r : Rho} {h f : α → D} {p : α → Bool} : ∀ (l : List α) (x : Option B), (∀ a ∈ l, c (‹h a› :: r) = some (p a)) → (∀ a ∈ l, e (‹h a› :: r) = some (f a)) → compD (gSet 0) c e (l.map h) (x :: r) = some ((l.filter p).map f)
 | [], _, _, _ => rfl
 | a :: l, x, C, H => by
  have ih := comp1f l (‹h a›) (fun b hb => C b (List.mem_cons_of_mem _ hb)) (fun b hb => H b (List.mem_cons_of_mem _ hb))
  cases q : p a with
  | true =>
   simp only [xmc, compD, gSet, xw0, xbs, C a (List.mem_cons_self ..), q, if_true, H a (List.mem_cons_self ..), ih, xms, List.filter_cons_of_pos q]
  | false =>
   have q' : ¬ p a = true := by rw [q]; exact Bool.false_ne_true
   simp only [xmc, compD, gSet, xw0, xbs, C a (List.mem_cons_self ..), q, xft, if_false, ih, List.filter_cons_of_neg q']
theorem nComp1 {α : Type} {caps : List Nat} {src : Rho → Option (List D)} {e : DE} {ρ r : Rho} {l : List α} {h f : α → D} (hr : capD 1 caps ρ = none :: r) (hs : src ρ = some (l.map h)) (hl : l.length ≤ 1000) (H : ∀ a ∈ l, e (‹h a› :: r) = some (f a)) :
  nComp 1 caps src (gSet 0) cTrue e ρ = some (l.map f) := by
 unfold nComp
 rw [hs, xbs, if_pos (by rw [List.length_map]; omega), hr, comp1 l _ H]
theorem nComp2 {α : Type} {caps : List Nat} {src : Rho → Option (List D)} {e : DE} {ρ r : Rho} {l : List α} {h1 h2 f : α → D} (hr : capD 2 caps ρ = none :: none :: r) (hs : src ρ = some (l.map fun a => .tuple [h1 a, h2 a])) (hl : l.length ≤ 1000) (H : ∀ a ∈ l, e (‹h1 a› :: ‹h2 a› :: r) = some (f a)) :
  nComp 2 caps src (gTupD 2 (gsCons (gSet 0) (gsCons (gSet 1) gsNil))) cTrue e ρ = some (l.map f) := by
 unfold nComp
 rw [hs, xbs, if_pos (by rw [List.length_map]; omega), hr, comp2 l _ _ H]
theorem nComp1f {α : Type} {caps : List Nat} {src : Rho → Option (List D)} {c : Rho → Option Bool} {e : DE} {ρ r : Rho} {l : List α} {h f : α → D} {p : α → Bool} (hr : capD 1 caps ρ = none :: r) (hs : src ρ = some (l.map h)) (hl : l.length ≤ 1000) (C : ∀ a ∈ l, c (‹h a› :: r) = some (p a)) (H : ∀ a ∈ l, e (‹h a› :: r) = some (f a)) :
  nComp 1 caps src (gSet 0) c e ρ = some ((l.filter p).map f) := by
 unfold nComp
 rw [hs, xbs, if_pos (by rw [List.length_map]; omega), hr, comp1f l _ C H]
theorem ran_nat {f : DE} {ρ : Rho} {n : Nat} (h : f ρ = some (.int n)) (hn : n ≤ 1000) : iRan1 f ρ = some ((List.range n).map fun k : Nat => PyData.int k) := by
 unfold iRan1
 rw [h, xbs]
 show (if -(2 ^ 62) ≤ (n : Int) ∧ (n : Int) < 2 ^ 62 then some (rangeD 0 n) else none) = _
 rw [if_pos ⟨by omega, by omega⟩]
 unfold rangeD
 congr 1
 have e : ((n : Int) - 0).toNat = n := by omega
 rw [e]
 apply List.map_congr_left
 intro k _
 congr 1
 omega
theorem mulE_y {i j : Int} (h1 : Small i) (h2 : Small j) : mulE (.int i) (.int j) = some (.int (i * j)) := mul_y h1 h2
theorem mulE_nat {i j : Nat} (h1 : i ≤ 1000) (h2 : j ≤ 1000) : mulE (.int i) (.int j) = some (.int ((i * j : Nat) : Int)) := by
 rw [mulE_y (small_nat (k := 10) (by omega) (by decide)) (small_nat (k := 10) (by omega) (by decide)), Int.natCast_mul]
theorem sm8 {i : Int} (h0 : 0 ≤ i) (h : i ≤ 1000) : Small i := small_lt h0 (by omega)
def plc (w n : Nat) : List (Int × Int) := (List.range n).map fun k => (((k % w : Nat) : Int), ((k / w : Nat) : Int))
theorem places_ok {w h : Nat} (w1 : 1 ≤ w) (w8 : w ≤ 8) (h8 : h ≤ 8) : F_places_of [.int w, .int h] = some (.list ((plc w (w * h)).map fun p => .tuple [.int p.1, .int p.2])) := by
 refine run_rt (ρ := [‹.int w›, ‹.int h›]) rfl ?_
 have hm : (dBin mulE (dVar 0) (dVar 1)) [‹.int w›, ‹.int h›] = some (.int ((w * h : Nat) : Int)) := mulE_nat (by omega) (by omega)
 have wh : w * h ≤ 64 := Nat.mul_le_mul w8 h8
 unfold G_places_of sRet dLst
 rw [nComp1 (l := List.range (w * h)) (h := fun k : Nat => PyData.int k) (f := fun k => .tuple [.int ((k % w : Nat) : Int), .int ((k / w : Nat) : Int)]) (r := [‹.int w›]) rfl (ran_nat hm (by omega)) (by rw [List.length_range]; omega) ?_]
 ·unfold plc
  rw [List.map_map]; rfl
 ·intro k _
  have wp : (0 : Int) < (w : Int) := by omega
  simp only [dTup, aCons, aNil, dBin, dVar, xg0, xg1, xbs, xms, mod_y wp, div_y wp (sm8 (by omega) (by omega))]
  rfl
theorem plc_mem {w h : Nat} {p : Int × Int} (hp : p ∈ plc w (w * h)) (w1 : 1 ≤ w) : 0 ≤ p.1 ∧ p.1 < w ∧ 0 ≤ p.2 ∧ p.2 < h := by
 obtain ⟨k, hk, rfl⟩ := List.mem_map.mp hp
 have hk := List.mem_range.mp hk
 have a := Nat.mod_lt k (show w > 0 by omega)
 have b := Nat.div_lt_of_lt_mul hk
 exact ⟨Int.natCast_nonneg _, Int.ofNat_lt.mpr a, Int.natCast_nonneg _, Int.ofNat_lt.mpr b⟩
theorem plc_len (w n : Nat) : (plc w n).length = n := by unfold plc; rw [List.length_map, List.length_range]
theorem has_place_ok (w h : Int) (s : D) (x y : Int) : F_has_place [.tuple [.int w, .int h, s], .int x, .int y] = some (.bool (decide (0 ≤ x ∧ x < w ∧ 0 ≤ y ∧ y < h))) := by
 refine run_rt (ρ := [‹.tuple [.int w, .int h, s]›, ‹.int x›, ‹.int y›]) rfl ?_
 by_cases a : 0 ≤ x <;> by_cases b : x < w <;> by_cases c : 0 ≤ y <;> by_cases e : y < h <;> simp [G_has_place, sSeq, sSet, sRet, sIf, sNil, sSetN, sAsg, dVar, dC, dTup, dLst, dBin, dCall, dAnd, dOr, dNot, dChain, dIx, dLen, dTupN, dAll, dInt, dIsi, qVar, qE, qN, seqD, oNone, oSome, intOf, aNil, aCons, tTru, tB2, tAnd2, tOr2, tNot2, truD, boolOf, cTrue, gSet, gTupD, gsCons, gsNil, iSeq, isiD, xg0, xg1, xw0, xw1, xbs, xms, xmc, xmn, xna, xca, cat_y, sub_y, le_y, ne_y, eq_y, lt_y, gt_y, at40, at41, at42, at43, at30, at31, at32, at20, at21, xnt, xnf, xft, if_true, if_false, catE_y, tTst, a, b, c, e]
theorem ixN_of {n : Nat} {i : Int} (h0 : 0 ≤ i) (h1 : i < n) : ixN n i = some i.toNat := by unfold ixN; rw [if_pos h0, if_pos h1]
theorem atD (l : List Q4) {i : Int} (h0 : 0 ≤ i) (h1 : i < l.length) : L2.atI (l.map Q4.d) i = some (l.getD i.toNat q0).d := by
 unfold L2.atI
 rw [List.length_map, ixN_of h0 h1, xbs, List.getElem?_map, List.getD_eq_getElem?_getD]
 have : i.toNat < l.length := by omega
 rw [List.getElem?_eq_getElem this]; rfl
theorem place_num {w h : Nat} {x y : Int} (b : 0 ≤ x ∧ x < w ∧ 0 ≤ y ∧ y < h) : 0 ≤ y * w + x ∧ y * w + x < ((w * h : Nat) : Int) := by
 obtain ⟨a, b, c, e⟩ := b
 have p : 0 ≤ y * (w : Int) := Int.mul_nonneg c (by omega)
 refine ⟨by omega, ?_⟩
 have : (y + 1) * (w : Int) ≤ h * (w : Int) := Int.mul_le_mul_of_nonneg_right (by omega) (by omega)
 have e2 : (y + 1) * (w : Int) = y * w + w := by rw [Int.add_mul, Int.one_mul]
 have e3 : ((w * h : Nat) : Int) = h * w := by rw [Int.natCast_mul, Int.mul_comm]
 omega
theorem number_ok {w h : Nat} {x y : Int} (s : D) (w8 : w ≤ 8) (h8 : h ≤ 8) (b : 0 ≤ x ∧ x < w ∧ 0 ≤ y ∧ y < h) : F_number_of_place [.tuple [.int w, .int h, s], .int x, .int y] = some (.int (y * w + x)) := by
 refine run_rt (ρ := [‹.tuple [.int w, .int h, s]›, ‹.int x›, ‹.int y›]) rfl ?_
 wp_walk using evD, G_number_of_place, mulE_y (sm8 b.2.2.1 (by omega)) (sm8 (show (0 : Int) ≤ w by omega) (by omega))
theorem spot_at_ok {k w h : Nat} {l : List Q4} (S : ShOk k w h l) (x y : Int) : F_spot_at [shD w h l, .int x, .int y] = some (atQ w h l x y).d := by
 refine run_rt (ρ := [‹shD w h l›, ‹.int x›, ‹.int y›]) rfl ?_
 have hp := has_place_ok w h (.tuple (l.map Q4.d)) x y
 unfold atQ
 by_cases b : 0 ≤ x ∧ x < w ∧ 0 ≤ y ∧ y < h
 ·rw [if_pos b]
  rw [decide_eq_true b] at hp
  have nm := number_ok (.tuple (l.map Q4.d)) S.w8 S.h8 b
  have pn := place_num b
  have e := atD l pn.1 (by rw [S.len]; exact pn.2)
  wp_walk using evD, G_spot_at, shD, hp, nm, e
 ·rw [if_neg b]
  rw [decide_eq_false b] at hp
  wp_walk using evD, G_spot_at, shD, hp
  rfl
def Man.bl (m : Man) (a b : Q4) : Q4 := ⟨m.cov a.c b.c, m.col a.c b.c a.x b.x, m.col a.c b.c a.y b.y, m.col a.c b.c a.z b.z⟩
theorem bl_ok (m : Man) {k : Nat} {a b : Q4} (S : a.ok k) (T : b.ok k) (l : 6 * k + 4 ≤ 8000) : F_blended [.str m.s, a.d, b.d] = some (m.bl a b).d ∧ (m.bl a b).ok (6 * k + 4) := blended_ok m S T l
end Sh
namespace Sh
open PySem G L2
abbrev scr (ns : List Int) : D := .list (ns.map PyData.int)
theorem draw_nat (ns : List Int) (k m : Nat) (hn : ns.length ≤ 63) (hk : k < 2 ^ 60) (hm : 0 < m) : ∃ n : Nat, F_l_drawn [scr ns, .int k, .int m] = some (.int n) ∧ n < m := by
 have a := F_drawn ns k m hn hk (by omega)
 have b := draw_lt ns k m (by omega)
 refine ⟨(drawZ ns k m).toNat, ?_, by omega⟩
 rw [a]
 congr 2
 omega
theorem dBin_of {h : D → D → Option D} {f g : DE} {ρ : Rho} {x y : D} (h1 : f ρ = some x) (h2 : g ρ = some y) : dBin h f g ρ = h x y := by unfold dBin; rw [h1, xbs, h2, xbs]
theorem rep_flat {α : Type} (a : α) : ∀ n : Nat, (List.replicate n [a]).flatten = List.replicate n a
 | 0 => rfl
 | n + 1 => by rw [List.replicate_succ, List.flatten_cons, rep_flat a n]; rfl
theorem mulE_lst {xs : List D} {n : Nat} (hn : n ≤ 1000) (hx : xs.length ≤ 1000) : mulE (.list xs) (.int n) = some (.list (List.replicate n xs).flatten) := by
 show (if 0 ≤ (n : Int) ∧ (n : Int) < 1000000 ∧ xs.length * ((n : Int)).toNat ≤ 16777216 then some (PyData.list (List.replicate ((n : Int)).toNat xs).flatten) else none) = _
 rw [Int.toNat_natCast, if_pos ⟨by omega, by omega, Nat.le_trans (Nat.mul_le_mul hx hn) (by decide)⟩]
theorem cut1 (a : D) (r : List D) : cutD (a :: r) none (some 1) = [a] := by
 unfold cutD
 have h1 : HT.sIx (a :: r).length 0 none = 0 := by simp [HT.sIx]
 have h2 : HT.sIx (a :: r).length (a :: r).length (some 1) = 1 := by simp only [HT.sIx, List.length_cons]; first | omega | (simp; omega) | simp
 rw [h1, h2]; rfl
theorem F_spot4 (ns : List Int) (k : Nat) (hn : ns.length ≤ 63) (hk : k < 2 ^ 30) : ∃ q : Q4, F_l_spot [scr ns, .int k] = some q.d ∧ q.ok 8 := by
 obtain ⟨c, x, y, z, e, S⟩ := F_spot ns k hn hk
 exact ⟨⟨c, x, y, z⟩, e, S⟩
theorem spots_fn (ns : List Int) (at' : Nat) (hn : ns.length ≤ 63) (ha : at' < 2 ^ 20) : ∃ f : Nat → Q4, ∀ k, k < 1000 → F_l_spot [scr ns, .int ((at' + 12 * k : Nat) : Int)] = some (f k).d ∧ (f k).ok 8 := by
 refine ⟨fun k => if h : k < 1000 then Classical.choose (F_spot4 ns (at' + 12 * k) hn (by omega)) else q0, fun k hk => ?_⟩
 simp only [dif_pos hk]
 exact Classical.choose_spec (F_spot4 ns (at' + 12 * k) hn (by omega))
theorem law_sheet_ok (ns : List Int) (at' w h : Nat) (hn : ns.length ≤ 63) (ha : at' < 2 ^ 20) (w1 : 1 ≤ w) (w8 : w ≤ 8) (h1 : 1 ≤ h) (h8 : h ≤ 8) : ∃ l : List Q4, F_l_sheet [scr ns, .int at', .int w, .int h] = some (shD w h l) ∧ ShOk 8 w h l := by
 obtain ⟨f, hf⟩ := spots_fn ns at' hn ha
 have wh : w * h ≤ 64 := Nat.mul_le_mul w8 h8
 have wh1 : 1 ≤ w * h := Nat.mul_le_mul w1 h1
 obtain ⟨t, et, ht⟩ := draw_nat ns (at' + 7) 3 hn (by omega) (by decide)
 have et' : F_l_drawn [scr ns, .int ((at' : Int) + 7), .int 3] = some (.int t) := by rw [← et]; simp
 have c : nComp 1 [0, 1] (iRan1 (dBin mulE (dVar 2) (dVar 3))) (gSet 0) cTrue (dCall F_l_spot (aCons (dVar 1) (aCons (dBin catE (dVar 2) (dBin mulE (dC (.int 12)) (dVar 0))) aNil))) [‹scr ns›, ‹.int at'›, ‹.int w›, ‹.int h›, none] = some ((List.range (w * h)).map fun k => (f k).d) := by
  refine nComp1 (l := List.range (w * h)) (h := fun k : Nat => PyData.int k) (r := [‹scr ns›, ‹.int at'›]) rfl (ran_nat ?_ (by omega)) (by rw [List.length_range]; omega) ?_
  ·exact mulE_nat (by omega) (by omega)
  ·intro k hk
   have hk := List.mem_range.mp hk
   have m12 : mulE (.int 12) (.int k) = some (.int ((12 * k : Nat) : Int)) := mulE_nat (i := 12) (by decide) (by omega)
   have e1 : ((at' : Int) + ((12 * k : Nat) : Int)) = ((at' + 12 * k : Nat) : Int) := by omega
   wp_walk using evD, m12, e1, (hf k (by omega)).1
 have mwh : mulE (.int w) (.int h) = some (.int ((w * h : Nat) : Int)) := mulE_nat (by omega) (by omega)
 have cv : ((t : Int) == 0) = decide (t = 0) := by cases t with
  | zero => rfl
  | succ n => rw [decide_eq_false (by omega)]; exact beq_eq_false_iff_ne.mpr (by omega)
 obtain ⟨n, en⟩ : ∃ n, w * h = n + 1 := ⟨w * h - 1, by omega⟩
 by_cases t0 : t = 0
 ·refine ⟨List.replicate (w * h) (f 0), ?_, w1, w8, h1, h8, List.length_replicate .., fun q hq => by rw [(List.mem_replicate.mp hq).2]; exact (hf 0 (by decide)).2⟩
  refine run_rt (ρ := [‹scr ns›, ‹.int at'›, ‹.int w›, ‹.int h›, none]) rfl ?_
  have hd : (List.range (w * h)).map (fun k => (f k).d) = (f 0).d :: (List.range n).map (fun k => (f (k + 1)).d) := by
   rw [en, List.range_succ_eq_map, xmc, List.map_map]; rfl
  rw [hd] at c
  have v : dBin mulE (dSlA (dVar 4) oNone (oSome (dC (.int 1)))) (dBin mulE (dVar 2) (dVar 3)) [‹scr ns›, ‹.int at'›, ‹.int w›, ‹.int h›, ‹.list ((f 0).d :: (List.range n).map (fun k => (f (k + 1)).d))›] = some (.list (List.replicate (w * h) (f 0).d)) := by
   have a1 : dSlA (dVar 4) oNone (oSome (dC (.int 1))) [‹scr ns›, ‹.int at'›, ‹.int w›, ‹.int h›, ‹.list ((f 0).d :: (List.range n).map (fun k => (f (k + 1)).d))›] = some (.list (cutD ((f 0).d :: (List.range n).map (fun k => (f (k + 1)).d)) none (some 1))) := rfl
   have a2 : dBin mulE (dVar 2) (dVar 3) [‹scr ns›, ‹.int at'›, ‹.int w›, ‹.int h›, ‹.list ((f 0).d :: (List.range n).map (fun k => (f (k + 1)).d))›] = some (.int ((w * h : Nat) : Int)) := (dBin_of rfl rfl).trans mwh
   rw [cut1] at a1
   have a3 := mulE_lst (xs := [(f 0).d]) (show w * h ≤ 1000 by omega) (show 1 ≤ 1000 by decide)
   rw [rep_flat] at a3
   exact (dBin_of a1 a2).trans a3
  have t1 : tB2 eqD (dCall F_l_drawn (aCons (dVar 0) (aCons (dBin catE (dVar 1) (dC (.int 7))) (aCons (dC (.int 3)) aNil)))) (dC (.int 0)) [‹scr ns›, ‹.int at'›, ‹.int w›, ‹.int h›, ‹.list ((f 0).d :: (List.range n).map (fun k => (f (k + 1)).d))›] = some true := by
   simp only [tB2, dBin, dCall, aCons, aNil, dVar, dC, xms, xbs, xg0, xg1, catE_y, et', eq_y, cv, decide_eq_true t0, boolOf]
  simp only [G_l_sheet, sSeq, sSetN, c, sIf, t1, sSet, v, sRet, dTup, aCons, aNil, dTupN, qVar, dVar, xms, xbs, xw0, xw1, xg0, xg1, if_true, xft, if_false, shD, List.map_replicate]
 ·refine ⟨(List.range (w * h)).map f, ?_, w1, w8, h1, h8, by rw [List.length_map, List.length_range], fun q hq => by
   obtain ⟨k, hk, rfl⟩ := List.mem_map.mp hq
   exact (hf k (by have := List.mem_range.mp hk; omega)).2⟩
  refine run_rt (ρ := [‹scr ns›, ‹.int at'›, ‹.int w›, ‹.int h›, none]) rfl ?_
  wp_walk using evD, G_l_sheet, c, et', cv, decide_eq_false t0, shD, List.map_map
  rfl
end Sh
namespace Sh
open PySem G L2
theorem q4 : (4 : Nat) ≤ 16777216 := by decide
theorem q3 : (3 : Nat) ≤ 16777216 := by decide
end Sh
namespace Sh
open PySem G L2
def Dv (N : Nat) (r : Rat) : Prop := ∃ z : Int, r * (N : Rat) = (z : Rat)
theorem Dv.add {N : Nat} {r s : Rat} (h : Dv N r) (g : Dv N s) : Dv N (r + s) := by
 obtain ⟨a, ha⟩ := h; obtain ⟨b, hb⟩ := g
 exact ⟨a + b, by rw [Rat.add_mul, ha, hb, Rat.intCast_add]⟩
theorem Dv.sub {N : Nat} {r s : Rat} (h : Dv N r) (g : Dv N s) : Dv N (r - s) := by
 obtain ⟨a, ha⟩ := h; obtain ⟨b, hb⟩ := g
 exact ⟨a - b, by rw [Rat.intCast_sub, ← ha, ← hb]; grind⟩
theorem Dv.mul {M N : Nat} {r s : Rat} (h : Dv M r) (g : Dv N s) : Dv (M * N) (r * s) := by
 obtain ⟨a, ha⟩ := h; obtain ⟨b, hb⟩ := g
 exact ⟨a * b, by rw [Rat.intCast_mul, ← ha, ← hb, Rat.natCast_mul]; grind⟩
theorem Dv.int (N : Nat) (i : Int) : Dv N (i : Rat) := ⟨i * N, by rw [Rat.intCast_mul]; rfl⟩
theorem Dv.one (N : Nat) : Dv N 1 := Dv.int N 1
theorem Dv.zero (N : Nat) : Dv N 0 := Dv.int N 0
theorem Dv.right {N : Nat} {r : Rat} (h : Dv N r) (M : Nat) : Dv (N * M) r := by
 have := h.mul (Dv.one M); rwa [Rat.mul_one] at this
theorem Dv.left {N : Nat} {r : Rat} (h : Dv N r) (M : Nat) : Dv (M * N) r := by
 have := (Dv.one M).mul h; rwa [Rat.one_mul] at this
theorem Dv.comm {M N : Nat} {r : Rat} (h : Dv (M * N) r) : Dv (N * M) r := by rwa [Nat.mul_comm]
theorem Dv.of (a : Int) {N : Nat} (hN : 0 < N) : Dv N (mkRat a N) := by
 refine ⟨a, ?_⟩
 have hN' : (N : Rat) ≠ 0 := by
  intro h
  have : N = 0 := by exact_mod_cast h
  omega
 rw [Rat.mkRat_eq_div]
 exact Rat.div_mul_cancel hN'
theorem Dv.mk {N : Nat} {r : Rat} (hN : 0 < N) (h : Dv N r) (h0 : 0 ≤ r) (h1 : r ≤ 1) : ∃ a : Nat, a ≤ N ∧ r = mkRat a N := by
 obtain ⟨z, hz⟩ := h
 have hN' : (0 : Rat) < N := by exact_mod_cast hN
 have z0 : 0 ≤ z := by
  have : (0 : Rat) ≤ (z : Rat) := by rw [← hz]; exact Rat.mul_nonneg h0 (Rat.le_of_lt hN')
  exact_mod_cast this
 have z1 : z ≤ N := by
  have : (z : Rat) ≤ (N : Rat) := by
   rw [← hz]
   have := Rat.mul_le_mul_of_nonneg_right h1 (Rat.le_of_lt hN')
   rwa [Rat.one_mul] at this
  exact_mod_cast this
 refine ⟨z.toNat, by omega, ?_⟩
 have e : ((z.toNat : Nat) : Int) = z := by omega
 rw [Rat.mkRat_eq_div]
 have hne : (N : Rat) ≠ 0 := fun h => by rw [h] at hN'; exact absurd hN' (by decide)
 have e2 : (((z.toNat : Nat) : Int) : Rat) = r * N := by rw [e, hz]
 rw [e2]
 exact (Rat.mul_div_cancel hne).symm
theorem Dv.cap {N : Nat} {r : Rat} (h : Dv N r) : Dv N (cap1 r) := by
 unfold cap1; split
 ·exact h
 ·exact Dv.one N
theorem Dv.cov (m : Man) {M N : Nat} {c d : Rat} (hc : Dv M c) (hd : Dv N d) : Dv (M * N) (m.cov c d) := by
 cases m
 case plus => exact ((hc.right N).add (hd.left M)).cap
 case atop => exact hd.left M
 case cut => exact (hd.mul ((Dv.one M).sub hc)).comm
 all_goals exact ((hc.right N).add (hd.left M)).sub (hc.mul hd)
theorem Dv.col (m : Man) {M N : Nat} {c d x y : Rat} (hc : Dv M c) (hd : Dv N d) (hx : Dv M x) (hy : Dv N y) : Dv (M * N) (m.col c d x y) := by
 have r := (hy.mul ((Dv.one M).sub hc)).comm
 cases m
 case over => exact (hx.right N).add r
 case mult => exact ((hx.mul hy).add (hx.mul ((Dv.one N).sub hd))).add r
 case screen => exact ((hx.right N).add (hy.left M)).sub (hx.mul hy)
 case plus => exact ((hx.right N).add (hy.left M)).cap
 case atop => exact (hx.mul hd).add r
 case cut => exact r
def Dn (k : Nat) (q : Q4) : Prop := ∃ N, 0 < N ∧ N < 2 ^ k ∧ Dv N q.c ∧ Dv N q.x ∧ Dv N q.y ∧ Dv N q.z
def Ds (k : Nat) (s : Rat) : Prop := ∃ N, 0 < N ∧ N < 2 ^ k ∧ Dv N s
theorem lt_mul_pow {a b j k : Nat} (h1 : a < 2 ^ j) (h2 : b < 2 ^ k) : a * b < 2 ^ (j + k) := by
 rw [Nat.pow_add]
 exact Nat.mul_lt_mul'' h1 h2
theorem Dn.bl (m : Man) {j k : Nat} {a b : Q4} (h : Dn j a) (g : Dn k b) : Dn (j + k) (m.bl a b) := by
 obtain ⟨M, m0, m1, hc, hx, hy, hz⟩ := h
 obtain ⟨N, n0, n1, gc, gx, gy, gz⟩ := g
 exact ⟨M * N, Nat.mul_pos m0 n0, lt_mul_pow m1 n1, hc.cov m gc, hc.col m gc hx gx, hc.col m gc hy gy, hc.col m gc hz gz⟩
def Q4.wt (q : Q4) (s : Rat) : Q4 := ⟨q.c * s, q.x * s, q.y * s, q.z * s⟩
theorem Dn.wt {j k : Nat} {q : Q4} {s : Rat} (h : Dn j q) (g : Ds k s) : Dn (j + k) (q.wt s) := by
 obtain ⟨M, m0, m1, hc, hx, hy, hz⟩ := h
 obtain ⟨N, n0, n1, gs⟩ := g
 exact ⟨M * N, Nat.mul_pos m0 n0, lt_mul_pow m1 n1, hc.mul gs, hx.mul gs, hy.mul gs, hz.mul gs⟩
def Rul.tn (r : Rul) (s : Rat) (q : Q4) : Q4 := ⟨q.c, r.mix s q.c q.x q.y q.z, r.mix s q.c q.y q.z q.x, r.mix s q.c q.z q.x q.y⟩
theorem Dv.third : Dv 3 third := Dv.of 1 (by decide)
theorem Dv.new (r : Rul) {N : Nat} {c x y z : Rat} (hc : Dv N c) (hx : Dv N x) (hy : Dv N y) (hz : Dv N z) : Dv (N * 3) (r.new c x y z) := by
 cases r
 ·exact (hc.sub hx).right 3
 ·exact ((hx.add hy).add hz).mul Dv.third
 ·exact hy.right 3
theorem Dv.mix (r : Rul) {M N : Nat} {s c x y z : Rat} (hs : Dv M s) (hc : Dv N c) (hx : Dv N x) (hy : Dv N y) (hz : Dv N z) : Dv (M * (N * 3)) (r.mix s c x y z) :=
 (hs.mul (Dv.new r hc hx hy hz)).add (((Dv.one M).sub hs).mul (hx.right 3))
theorem Dn.tn (r : Rul) {j k : Nat} {q : Q4} {s : Rat} (h : Dn j q) (g : Ds k s) : Dn (k + (j + 2)) (r.tn s q) := by
 obtain ⟨N, n0, n1, hc, hx, hy, hz⟩ := h
 obtain ⟨M, m0, m1, gs⟩ := g
 exact ⟨M * (N * 3), Nat.mul_pos m0 (Nat.mul_pos n0 (by decide)), lt_mul_pow m1 (lt_mul_pow n1 (by decide)), (hc.right 3).left M, gs.mix r hc hx hy hz, gs.mix r hc hy hz hx, gs.mix r hc hz hx hy⟩
theorem Dn.mono {j k : Nat} {q : Q4} (h : Dn j q) (l : j ≤ k) : Dn k q := by
 obtain ⟨N, n0, n1, r⟩ := h
 exact ⟨N, n0, Nat.lt_of_lt_of_le n1 (Nat.pow_le_pow_right (by decide) l), r⟩
def Q4.or (q : Q4) : Prop := 0 ≤ q.x ∧ 0 ≤ q.y ∧ 0 ≤ q.z ∧ q.x ≤ q.c ∧ q.y ≤ q.c ∧ q.z ≤ q.c ∧ q.c ≤ 1
theorem Q4.ok.or {k : Nat} {q : Q4} (h : q.ok k) : q.or := ⟨h.hx.nn, h.hy.nn, h.hz.nn, h.xc, h.yc, h.zc, h.hc.le⟩
structure Dq (k : Nat) (q : Q4) : Prop where
 o : q.or
 n : Dn k q
theorem sh_of {k N : Nat} {r : Rat} (n0 : 0 < N) (n1 : N < 2 ^ k) (d : Dv N r) (h0 : 0 ≤ r) (h1 : r ≤ 1) : IsSh k r := by
 obtain ⟨a, ha, e⟩ := d.mk n0 h0 h1
 refine ⟨?_, h1⟩
 rw [e]
 exact Bd.of n0 (by omega) n1
theorem Dq.ok {k : Nat} {q : Q4} (h : Dq k q) : q.ok k := by
 obtain ⟨⟨x0, y0, z0, xc, yc, zc, c1⟩, N, n0, n1, hc, hx, hy, hz⟩ := h
 have c0 := Rat.le_trans x0 xc
 exact ⟨sh_of n0 n1 hc c0 c1, (sh_of n0 n1 hx x0 (Rat.le_trans xc c1)).bd, (sh_of n0 n1 hy y0 (Rat.le_trans yc c1)).bd, (sh_of n0 n1 hz z0 (Rat.le_trans zc c1)).bd, xc, yc, zc⟩
theorem Dq.mono {j k : Nat} {q : Q4} (h : Dq j q) (l : j ≤ k) : Dq k q := ⟨h.o, h.n.mono l⟩
theorem Dq.zero (k : Nat) : Dq (k + 1) q0 := ⟨(q0_ok (k := 1) (by decide)).or, 1, by decide, Nat.one_lt_two_pow (by omega), Dv.zero 1, Dv.zero 1, Dv.zero 1, Dv.zero 1⟩
structure Sr (k : Nat) (s : Rat) : Prop where
 h : IsSh k s
 n : Ds k s
theorem Dq.bl (m : Man) {j k : Nat} {a b : Q4} (h : Dq j a) (g : Dq k b) (l : j + k ≤ 1000) : Dq (j + k) (m.bl a b) ∧ F_blended [.str m.s, a.d, b.d] = some (m.bl a b).d := by
 have r := bl_ok m (h.ok.mono (k := j + k) (by omega)) (g.ok.mono (k := j + k) (by omega)) (by omega)
 exact ⟨⟨r.2.or, h.n.bl m g.n⟩, r.1⟩
theorem wt_ok {j k : Nat} {q : Q4} {s : Rat} (S : q.ok j) (hs : IsSh k s) (l : j + k ≤ 8000) : F_weighted [q.d, fr s] = some (q.wt s).d := by
 refine run_rt (ρ := [some (.val q.d), ‹fr s›]) rfl ?_
 have f4 : ∀ a b c d : D, ([a, b, c, d] : List D).length ≤ 16777216 := fun a b c d => by show 4 ≤ 16777216; decide
 wp_walk using evC, G_weighted, Q4.d, Q4.wt, sp, f4, F_times_ok S.hc.bd hs.bd l, F_times_ok S.hx hs.bd l, F_times_ok S.hy hs.bd l, F_times_ok S.hz hs.bd l
theorem wt_or {q : Q4} {s : Rat} (h : q.or) (s0 : 0 ≤ s) (s1 : s ≤ 1) : (q.wt s).or := by
 obtain ⟨x0, y0, z0, xc, yc, zc, c1⟩ := h
 have mono : ∀ {u v : Rat}, u ≤ v → u * s ≤ v * s := fun h => Rat.mul_le_mul_of_nonneg_right h s0
 exact ⟨Rat.mul_nonneg x0 s0, Rat.mul_nonneg y0 s0, Rat.mul_nonneg z0 s0, mono xc, mono yc, mono zc, Rat.le_trans (mul_le_self (Rat.le_trans x0 xc) s1) c1⟩
theorem Dq.wt {j k : Nat} {q : Q4} {s : Rat} (h : Dq j q) (g : Sr k s) : Dq (j + k) (q.wt s) := ⟨wt_or h.o g.h.bd.nn g.h.le, h.n.wt g.n⟩
theorem Dq.tn (r : Rul) {j k : Nat} {q : Q4} {s : Rat} (h : Dq j q) (g : Sr k s) (l : j + k + 2 ≤ 1000) : Dq (j + k + 2) (r.tn s q) ∧ F_toned [.str r.s, q.d, fr s] = some (r.tn s q).d := by
 have t := toned_ok r (h.ok.mono (k := j + k) (by omega)) (g.h.mono (k := j + k) (by omega)) (by omega)
 refine ⟨⟨Q4.ok.or (q := r.tn s q) t.2, ?_⟩, t.1⟩
 have := h.n.tn r g.n
 rwa [show k + (j + 2) = j + k + 2 by omega] at this
end Sh
namespace Sh
open PySem G L2
inductive Nd where
 | layer (nm : D) (m : Man) (s : Rat) (sh : Bool) (lf tp : Int) (mk : Option (List Rat)) (w h : Nat) (l : List Q4) (kb : Nat)
 | tone (nm : D) (r : Rul) (s : Rat) (sh : Bool)
 | group (nm : D) (m : Man) (s : Rat) (sh : Bool) (ns : List Nd)
def mkD : Option (List Rat) → D
 | none => .none
 | some ms => .tuple (ms.map fr)
mutual
def Nd.d : Nd → D
 | .layer nm m s sh lf tp mk w h l _ => .tuple [.str "layer", nm, .str m.s, fr s, .bool sh, .int lf, .int tp, mkD mk, shD w h l]
 | .tone nm r s sh => .tuple [.str "tone", nm, .str r.s, fr s, .bool sh]
 | .group nm m s sh ns => .tuple [.str "group", nm, .str m.s, fr s, .bool sh, .tuple (Nd.ds ns)]
def Nd.ds : List Nd → List D
 | [] => []
 | n :: r => n.d :: Nd.ds r
end
def mskQ (mk : Option (List Rat)) (w h : Nat) (l : List Q4) (x y : Int) : Q4 := match mk with
 | none => atQ w h l x y
 | some ms => if 0 ≤ x ∧ x < w ∧ 0 ≤ y ∧ y < h then (atQ w h l x y).wt (ms.getD (y * w + x).toNat 1) else atQ w h l x y
def layQ (s : Rat) (lf tp : Int) (mk : Option (List Rat)) (w h : Nat) (l : List Q4) (x y : Int) : Q4 := (mskQ mk w h l (x - lf) (y - tp)).wt s
mutual
def Nd.ab (x y : Int) : Nd → Q4 → Q4
 | .layer _ m s sh lf tp mk w h l _, q => if sh = true then m.bl (layQ s lf tp mk w h l x y) q else q
 | .tone _ r s sh, q => if sh = true then r.tn s q else q
 | .group _ m s sh ns, q => if sh = true then m.bl ((Nd.sw x y ns q0).wt s) q else q
def Nd.sw (x y : Int) : List Nd → Q4 → Q4
 | [], q => q
 | n :: r, q => Nd.sw x y r (Nd.ab x y n q)
end
mutual
def Nd.Ok : Nd → Prop
 | .layer _ _ s _ _ _ mk w h l kb => Sr 4 s ∧ ShOk kb w h l ∧ (∀ q ∈ l, Dq kb q) ∧ (∀ ms, mk = some ms → ms.length = w * h ∧ ∀ r ∈ ms, Sr 4 r) ∧ 1 ≤ kb
 | .tone _ _ s _ => Sr 4 s
 | .group _ _ s _ ns => Sr 4 s ∧ Nd.Oks ns
def Nd.Oks : List Nd → Prop
 | [] => True
 | n :: r => n.Ok ∧ Nd.Oks r
end
mutual
def Nd.wg : Nd → Nat
 | .layer _ _ _ _ _ _ _ _ _ _ kb => kb + 8
 | .tone .. => 6
 | .group _ _ _ _ ns => 5 + Nd.wgs ns
def Nd.wgs : List Nd → Nat
 | [] => 0
 | n :: r => n.wg + Nd.wgs r
end
mutual
def Nd.dp : Nd → Nat
 | .layer .. => 0
 | .tone .. => 0
 | .group _ _ _ _ ns => 1 + Nd.dps ns
def Nd.dps : List Nd → Nat
 | [] => 0
 | n :: r => max n.dp (Nd.dps r)
end
theorem e_lt : eqD (.str "layer") (.str "tone") = some (.bool false) := eqD_str (by decide +kernel) (by decide +kernel) (by decide +kernel)
theorem e_tt : eqD (.str "tone") (.str "tone") = some (.bool true) := eqD_str (by decide +kernel) (by decide +kernel) (by decide +kernel)
theorem e_gt : eqD (.str "group") (.str "tone") = some (.bool false) := eqD_str (by decide +kernel) (by decide +kernel) (by decide +kernel)
theorem e_ll : eqD (.str "layer") (.str "layer") = some (.bool true) := eqD_str (by decide +kernel) (by decide +kernel) (by decide +kernel)
theorem e_gl : eqD (.str "group") (.str "layer") = some (.bool false) := eqD_str (by decide +kernel) (by decide +kernel) (by decide +kernel)
theorem e_lg : eqD (.str "layer") (.str "group") = some (.bool false) := eqD_str (by decide +kernel) (by decide +kernel) (by decide +kernel)
theorem e_gg : eqD (.str "group") (.str "group") = some (.bool true) := eqD_str (by decide +kernel) (by decide +kernel) (by decide +kernel)
section
variable {nm : D} {m : Man} {r : Rul} {s : Rat} {sh : Bool} {lf tp : Int} {mk : Option (List Rat)} {w h : Nat} {l : List Q4} {kb : Nat} {ns : List Nd}
theorem l_shown : F_is_shown [Nd.d (.layer nm m s sh lf tp mk w h l kb)] = some (.bool sh) := by rw [Nd.d]; rfl
theorem t_shown : F_is_shown [Nd.d (.tone nm r s sh)] = some (.bool sh) := by rw [Nd.d]; rfl
theorem g_shown : F_is_shown [Nd.d (.group nm m s sh ns)] = some (.bool sh) := by rw [Nd.d]; rfl
theorem l_tone : F_is_tone [Nd.d (.layer nm m s sh lf tp mk w h l kb)] = some (.bool false) := by rw [Nd.d]; exact run_rt (ρ := [‹.tuple [.str "layer", nm, .str m.s, fr s, .bool sh, .int lf, .int tp, mkD mk, shD w h l]›]) rfl (congrArg (Option.map Fl.rt) e_lt)
theorem t_tone : F_is_tone [Nd.d (.tone nm r s sh)] = some (.bool true) := by rw [Nd.d]; exact run_rt (ρ := [‹.tuple [.str "tone", nm, .str r.s, fr s, .bool sh]›]) rfl (congrArg (Option.map Fl.rt) e_tt)
theorem g_tone : F_is_tone [Nd.d (.group nm m s sh ns)] = some (.bool false) := by rw [Nd.d]; exact run_rt (ρ := [‹.tuple [.str "group", nm, .str m.s, fr s, .bool sh, .tuple (Nd.ds ns)]›]) rfl (congrArg (Option.map Fl.rt) e_gt)
theorem l_layer : F_is_layer [Nd.d (.layer nm m s sh lf tp mk w h l kb)] = some (.bool true) := by rw [Nd.d]; exact run_rt (ρ := [‹.tuple [.str "layer", nm, .str m.s, fr s, .bool sh, .int lf, .int tp, mkD mk, shD w h l]›]) rfl (congrArg (Option.map Fl.rt) e_ll)
theorem g_layer : F_is_layer [Nd.d (.group nm m s sh ns)] = some (.bool false) := by rw [Nd.d]; exact run_rt (ρ := [‹.tuple [.str "group", nm, .str m.s, fr s, .bool sh, .tuple (Nd.ds ns)]›]) rfl (congrArg (Option.map Fl.rt) e_gl)
theorem l_manner : F_manner_of [Nd.d (.layer nm m s sh lf tp mk w h l kb)] = some (.str m.s) := by rw [Nd.d]; rfl
theorem g_manner : F_manner_of [Nd.d (.group nm m s sh ns)] = some (.str m.s) := by rw [Nd.d]; rfl
theorem t_rule : F_rule_of [Nd.d (.tone nm r s sh)] = some (.str r.s) := by rw [Nd.d]; rfl
theorem l_strength : F_strength_of [Nd.d (.layer nm m s sh lf tp mk w h l kb)] = some (fr s) := by rw [Nd.d]; rfl
theorem t_strength : F_strength_of [Nd.d (.tone nm r s sh)] = some (fr s) := by rw [Nd.d]; rfl
theorem g_strength : F_strength_of [Nd.d (.group nm m s sh ns)] = some (fr s) := by rw [Nd.d]; rfl
theorem l_left : F_left_of [Nd.d (.layer nm m s sh lf tp mk w h l kb)] = some (.int lf) := by rw [Nd.d]; rfl
theorem l_top : F_top_of [Nd.d (.layer nm m s sh lf tp mk w h l kb)] = some (.int tp) := by rw [Nd.d]; rfl
theorem l_mask : F_mask_of [Nd.d (.layer nm m s sh lf tp mk w h l kb)] = some (mkD mk) := by rw [Nd.d]; rfl
theorem l_sheet : F_sheet_of [Nd.d (.layer nm m s sh lf tp mk w h l kb)] = some (shD w h l) := by rw [Nd.d]; rfl
theorem g_inner : F_inner_nodes [Nd.d (.group nm m s sh ns)] = some (.tuple (Nd.ds ns)) := by rw [Nd.d]; rfl
end
theorem atF (ms : List Rat) {i : Int} (h0 : 0 ≤ i) (h1 : i < ms.length) : L2.atI (ms.map fr) i = some (fr (ms.getD i.toNat 1)) := by
 unfold L2.atI
 rw [List.length_map, ixN_of h0 h1, xbs, List.getElem?_map, List.getD_eq_getElem?_getD]
 have : i.toNat < ms.length := by omega
 rw [List.getElem?_eq_getElem this]; rfl
theorem getD_sr {k : Nat} {ms : List Rat} (h : ∀ r ∈ ms, Sr k r) {i : Nat} (hi : i < ms.length) : Sr k (ms.getD i 1) := by
 rw [List.getD_eq_getElem?_getD, List.getElem?_eq_getElem hi]
 exact h _ (List.getElem_mem hi)
theorem atQ_dq {w h kb : Nat} {l : List Q4} (k1 : 1 ≤ kb) (H : ∀ q ∈ l, Dq kb q) (x y : Int) : Dq kb (atQ w h l x y) := by
 unfold atQ
 split
 ·rw [List.getD_eq_getElem?_getD]
  cases e : l[(y * (w : Int) + x).toNat]? with
  | none => exact (Dq.zero 0).mono (by omega)
  | some q => exact H q (List.mem_of_getElem? e)
 ·exact (Dq.zero 0).mono (by omega)
theorem mskQ_dq {mk : Option (List Rat)} {w h kb : Nat} {l : List Q4} (k1 : 1 ≤ kb) (H : ∀ q ∈ l, Dq kb q) (M : ∀ ms, mk = some ms → ms.length = w * h ∧ ∀ r ∈ ms, Sr 4 r) (x y : Int) : Dq (kb + 4) (mskQ mk w h l x y) := by
 unfold mskQ
 split
 ·exact (atQ_dq k1 H x y).mono (by omega)
 ·rename_i ms
  split
  ·rename_i b
   have pn := place_num b
   have hl := (M ms rfl).1
   exact (atQ_dq k1 H x y).wt (getD_sr (M ms rfl).2 (by omega))
  ·exact (atQ_dq k1 H x y).mono (by omega)
theorem layQ_dq {s : Rat} {lf tp : Int} {mk : Option (List Rat)} {w h kb : Nat} {l : List Q4} (k1 : 1 ≤ kb) (hs : Sr 4 s) (H : ∀ q ∈ l, Dq kb q) (M : ∀ ms, mk = some ms → ms.length = w * h ∧ ∀ r ∈ ms, Sr 4 r) (x y : Int) : Dq (kb + 8) (layQ s lf tp mk w h l x y) := (mskQ_dq k1 H M _ _).wt hs
theorem isB_nn : isB .none .none = some (.bool true) := rfl
theorem isB_tn (ds : List D) : isB (.tuple ds) .none = some (.bool false) := rfl
theorem masked_ok {nm : D} {m : Man} {s : Rat} {sh : Bool} {lf tp : Int} {mk : Option (List Rat)} {w h kb : Nat} {l : List Q4} (k1 : 1 ≤ kb) (k9 : kb ≤ 900) (S : ShOk kb w h l) (H : ∀ q ∈ l, Dq kb q) (M : ∀ ms, mk = some ms → ms.length = w * h ∧ ∀ r ∈ ms, Sr 4 r) (x y : Int) :
  F_masked_spot [Nd.d (.layer nm m s sh lf tp mk w h l kb), .int x, .int y] = some (mskQ mk w h l x y).d := by
 have hp : F_has_place [shD w h l, .int x, .int y] = _ := has_place_ok w h (.tuple (l.map Q4.d)) x y
 have sa := spot_at_ok S x y
 refine run_rt (ρ := [‹Nd.d (.layer nm m s sh lf tp mk w h l kb)›, ‹.int x›, ‹.int y›, none, none, none]) rfl ?_
 cases mk with
 | none => wp_walk using evD, G_masked_spot, l_sheet, l_mask, sa, mkD, isB_nn, mskQ
 | some ms =>
  by_cases b : 0 ≤ x ∧ x < w ∧ 0 ≤ y ∧ y < h
  ·rw [decide_eq_true b] at hp
   have nm : F_number_of_place [shD w h l, .int x, .int y] = _ := number_ok (.tuple (l.map Q4.d)) S.w8 S.h8 b
   have pn := place_num b
   have hl := (M ms rfl).1
   have af := atF ms pn.1 (by rw [hl]; exact pn.2)
   have hs := getD_sr (M ms rfl).2 (show (y * (w : Int) + x).toNat < ms.length by omega)
   have wo := wt_ok (atQ_dq (w := w) (h := h) k1 H x y).ok hs.h (by omega)
   wp_walk using evD, G_masked_spot, l_sheet, l_mask, sa, mkD, isB_tn, hp, nm, af, wo, mskQ, if_pos b
  ·rw [decide_eq_false b] at hp
   wp_walk using evD, G_masked_spot, l_sheet, l_mask, sa, mkD, isB_tn, hp, mskQ, if_neg b
theorem br_layer {nm : D} {m : Man} {s : Rat} {sh : Bool} {lf tp : Int} {mk : Option (List Rat)} {w h kb : Nat} {l : List Q4} (k1 : 1 ≤ kb) (k9 : kb ≤ 900) (hs : Sr 4 s) (S : ShOk kb w h l) (H : ∀ q ∈ l, Dq kb q) (M : ∀ ms, mk = some ms → ms.length = w * h ∧ ∀ r ∈ ms, Sr 4 r) (f : Nat) (x y : Int) :
  F_brought (f + 1) [Nd.d (.layer nm m s sh lf tp mk w h l kb), .int x, .int y] = some (layQ s lf tp mk w h l x y).d := by
 refine run_rt (g := G_brought (F_bsb f)) (ρ := [‹Nd.d (.layer nm m s sh lf tp mk w h l kb)›, ‹.int x›, ‹.int y›, none]) rfl ?_
 have mo := masked_ok (nm := nm) (m := m) (s := s) (sh := sh) (lf := lf) (tp := tp) k1 k9 S H M (x - lf) (y - tp)
 have wo := wt_ok (mskQ_dq k1 H M (x - lf) (y - tp)).ok hs.h (by omega)
 wp_walk using evD, G_brought, l_layer, l_left, l_top, mo, l_strength, wo, layQ
theorem br_group {nm : D} {m : Man} {s : Rat} {sh : Bool} {ns : List Nd} {q : Q4} {j : Nat} (hs : Sr 4 s) (f : Nat) (x y : Int) (e : F_shown_by f [.tuple (Nd.ds ns), .int x, .int y] = some q.d) (hq : Dq j q) (l : j + 4 ≤ 8000) :
  F_brought (f + 1) [Nd.d (.group nm m s sh ns), .int x, .int y] = some (q.wt s).d := by
 refine run_rt (g := G_brought (F_bsb f)) (ρ := [‹Nd.d (.group nm m s sh ns)›, ‹.int x›, ‹.int y›, none]) rfl ?_
 have e' : F_bsb f 2 [.tuple (Nd.ds ns), .int x, .int y] = some q.d := e
 have wo := wt_ok hq.ok hs.h l
 wp_walk using evD, G_brought, g_layer, g_inner, e', g_strength, wo
mutual
theorem above_ok (x y : Int) : ∀ (n : Nd) (f : Nat) (q : Q4) (j : Nat), n.Ok → 3 * n.dp + 2 ≤ f → Dq j q → j + n.wg ≤ 900 → F_shown_above f [n.d, q.d, .int x, .int y] = some (Nd.ab x y n q).d ∧ Dq (j + n.wg) (Nd.ab x y n q)
 | .layer nm m s sh lf tp mk w h l kb, f, q, j, ok, hf, hq, hj => by
  obtain ⟨f, rfl⟩ : ∃ g, f = g + 2 := ⟨f - 2, by omega⟩
  simp only [Nd.Ok] at ok
  simp only [Nd.wg] at hj
  obtain ⟨hs, S, H, M, k1⟩ := ok
  have bo : F_bsb (f + 1) 0 [Nd.d (.layer nm m s sh lf tp mk w h l kb), .int x, .int y] = _ := br_layer (nm := nm) (m := m) (sh := sh) k1 (by omega) hs S H M f x y
  have b := Dq.bl m (layQ_dq (lf := lf) (tp := tp) k1 hs H M x y) hq (by omega)
  have st : runD (G_shown_above (F_bsb (f + 1))) 4 [Nd.d (.layer nm m s sh lf tp mk w h l kb), q.d, .int x, .int y] = some (Nd.ab x y (.layer nm m s sh lf tp mk w h l kb) q).d := by
   refine run_rt (ρ := [‹Nd.d (.layer nm m s sh lf tp mk w h l kb)›, some (.val q.d), ‹.int x›, ‹.int y›]) rfl ?_
   cases sh with
   | true => wp_walk using evD, G_shown_above, l_shown, l_tone, l_manner, bo, b.2, Nd.ab
   | false => wp_walk using evD, G_shown_above, l_shown, Nd.ab
  refine ⟨st, ?_⟩
  simp only [Nd.ab, Nd.wg]
  split
  ·exact b.1.mono (by omega)
  ·exact hq.mono (by omega)
 | .tone nm r s sh, f, q, j, ok, hf, hq, hj => by
  obtain ⟨f, rfl⟩ : ∃ g, f = g + 2 := ⟨f - 2, by omega⟩
  simp only [Nd.Ok] at ok
  simp only [Nd.wg] at hj
  have b := Dq.tn r hq ok (by omega)
  have st : runD (G_shown_above (F_bsb (f + 1))) 4 [Nd.d (.tone nm r s sh), q.d, .int x, .int y] = some (Nd.ab x y (.tone nm r s sh) q).d := by
   refine run_rt (ρ := [‹Nd.d (.tone nm r s sh)›, some (.val q.d), ‹.int x›, ‹.int y›]) rfl ?_
   cases sh with
   | true => wp_walk using evD, G_shown_above, t_shown, t_tone, t_rule, t_strength, b.2, Nd.ab
   | false => wp_walk using evD, G_shown_above, t_shown, Nd.ab
  refine ⟨st, ?_⟩
  simp only [Nd.ab, Nd.wg]
  split
  ·exact b.1.mono (by omega)
  ·exact hq.mono (by omega)
 | .group nm m s sh ns, f, q, j, ok, hf, hq, hj => by
  simp only [Nd.dp] at hf
  obtain ⟨f, rfl⟩ : ∃ g, f = g + 3 := ⟨f - 3, by omega⟩
  simp only [Nd.Ok] at ok
  simp only [Nd.wg] at hj
  obtain ⟨hs, oks⟩ := ok
  have lp := loop_ok x y ns f q0 1 oks (by omega) (Dq.zero 0) (by omega)
  have sb : F_shown_by (f + 1) [.tuple (Nd.ds ns), .int x, .int y] = some (Nd.sw x y ns q0).d := by
   obtain ⟨a4, e4⟩ := lp.1 (‹.tuple (Nd.ds ns)›) none
   refine run_rt (g := G_shown_by (F_bsb f)) (ρ := [‹.tuple (Nd.ds ns)›, ‹.int x›, ‹.int y›, none, none]) rfl ?_
   simp only [q0_d] at e4
   simp only [G_shown_by, sSeq, sSet, dC, sFor, iSeq, dVar, sRet, xms, xbs, xw0, xw1, xg0, xg1, e4]
  have bo : F_bsb (f + 2) 0 [Nd.d (.group nm m s sh ns), .int x, .int y] = _ := br_group (nm := nm) (m := m) (sh := sh) hs (f + 1) x y sb lp.2 (by omega)
  have b := Dq.bl m (lp.2.wt hs) hq (by omega)
  have st : runD (G_shown_above (F_bsb (f + 2))) 4 [Nd.d (.group nm m s sh ns), q.d, .int x, .int y] = some (Nd.ab x y (.group nm m s sh ns) q).d := by
   refine run_rt (ρ := [‹Nd.d (.group nm m s sh ns)›, some (.val q.d), ‹.int x›, ‹.int y›]) rfl ?_
   cases sh with
   | true => wp_walk using evD, G_shown_above, g_shown, g_tone, g_manner, bo, b.2, Nd.ab
   | false => wp_walk using evD, G_shown_above, g_shown, Nd.ab
  refine ⟨st, ?_⟩
  simp only [Nd.ab, Nd.wg]
  split
  ·exact b.1.mono (by omega)
  ·exact hq.mono (by omega)
theorem loop_ok (x y : Int) : ∀ (ns : List Nd) (f : Nat) (q : Q4) (j : Nat), Nd.Oks ns → 3 * Nd.dps ns + 2 ≤ f → Dq j q → j + Nd.wgs ns ≤ 900 →
  (∀ a0 a4 : Option B, ∃ a4', forD (gSet 4) (sSet 3 (dCall (F_bsb f 1) (aCons (dVar 4) (aCons (dVar 3) (aCons (dVar 1) (aCons (dVar 2) aNil)))))) (Nd.ds ns) [a0, ‹.int x›, ‹.int y›, some (.val q.d), a4] = some (.nx [a0, ‹.int x›, ‹.int y›, some (.val (Nd.sw x y ns q).d), a4'])) ∧ Dq (j + Nd.wgs ns) (Nd.sw x y ns q)
 | [], f, q, j, ok, hf, hq, hj => by
  simp only [Nd.sw, Nd.wgs]
  exact ⟨fun a0 a4 => ⟨a4, by simp only [Nd.ds]; rfl⟩, hq⟩
 | n :: r, f, q, j, ok, hf, hq, hj => by
  simp only [Nd.Oks] at ok
  simp only [Nd.dps] at hf
  simp only [Nd.wgs] at hj
  have a := above_ok x y n f q j ok.1 (by omega) hq (by omega)
  have b := loop_ok x y r f (Nd.ab x y n q) (j + n.wg) ok.2 (by omega) a.2 (by omega)
  have e : F_bsb f 1 [n.d, q.d, .int x, .int y] = _ := a.1
  simp only [Nd.sw, Nd.wgs]
  refine ⟨fun a0 a4 => ?_, by rw [← Nat.add_assoc]; exact b.2⟩
  obtain ⟨a4', e'⟩ := b.1 a0 (some (.val n.d))
  refine ⟨a4', ?_⟩
  simp only [Nd.ds, forD, gSet, sSet, dCall, aCons, aNil, dVar, xbs, xms, xw0, xw1, xg0, xg1, e, e']
end
theorem shown_ok (x y : Int) (ns : List Nd) (f : Nat) (ok : Nd.Oks ns) (hf : 3 * Nd.dps ns + 2 ≤ f) (hj : 1 + Nd.wgs ns ≤ 900) : F_shown_by (f + 1) [.tuple (Nd.ds ns), .int x, .int y] = some (Nd.sw x y ns q0).d ∧ Dq (1 + Nd.wgs ns) (Nd.sw x y ns q0) := by
 have lp := loop_ok x y ns f q0 1 ok hf (Dq.zero 0) hj
 refine ⟨?_, lp.2⟩
 obtain ⟨a4, e4⟩ := lp.1 (‹.tuple (Nd.ds ns)›) none
 refine run_rt (g := G_shown_by (F_bsb f)) (ρ := [‹.tuple (Nd.ds ns)›, ‹.int x›, ‹.int y›, none, none]) rfl ?_
 simp only [q0_d] at e4
 simp only [G_shown_by, sSeq, sSet, dC, sFor, iSeq, dVar, sRet, xms, xbs, xw0, xw1, xg0, xg1, e4]
end Sh
namespace Sh
open PySem G L2
theorem at9_0 (a b c d e f g h i : D) : L2.atI [a, b, c, d, e, f, g, h, i] 0 = some a := rfl
theorem at6_0 (a b c d e f : D) : L2.atI [a, b, c, d, e, f] 0 = some a := rfl
theorem at6_5 (a b c d e f : D) : L2.atI [a, b, c, d, e, f] 5 = some f := rfl
theorem at5_0 (a b c d e : D) : L2.atI [a, b, c, d, e] 0 = some a := rfl
theorem nb_nn : notB .none .none = some (.bool false) := rfl
end Sh
namespace Sh
open PySem G L2
theorem seq_nx {f g : DS} {ρ ρ' : Rho} (h : f ρ = some (.nx ρ')) : sSeq f g ρ = g ρ' := by unfold sSeq; rw [h]; rfl
theorem seq_rt {f g : DS} {ρ : Rho} {d : D} (h : f ρ = some (.rt d)) : sSeq f g ρ = some (.rt d) := by unfold sSeq; rw [h]; rfl
theorem forD_pre {α : Type} {g : D → Rho → Option Rho} {f : DS} {h : α → D} {I : Nat → Rho → Prop} : ∀ (l : List α) (i : Nat) (ρ : Rho), I i ρ → (∀ (j : Nat) (a : α), l[j]? = some a → ∀ ρ, I (i + j) ρ → ∃ ρ1, g (h a) ρ = some ρ1 ∧ ∃ ρ', f ρ1 = some (.nx ρ') ∧ I (i + j + 1) ρ') → ∃ ρ', forD g f (l.map h) ρ = some (.nx ρ') ∧ I (i + l.length) ρ'
 | [], i, ρ, h0, _ => ⟨ρ, rfl, h0⟩
 | a :: l, i, ρ, h0, H => by
  obtain ⟨ρ1, e1, ρ2, e2, h2⟩ := H 0 a rfl ρ h0
  obtain ⟨ρ', e3, h3⟩ := forD_pre l (i + 1) ρ2 (by simpa using h2) (fun j b hb ρ hρ => by
   have := H (j + 1) b (by simpa using hb) ρ (by rwa [show i + (j + 1) = i + 1 + j by omega])
   rwa [show i + (j + 1) + 1 = i + 1 + j + 1 by omega] at this)
  refine ⟨ρ', ?_, by rw [List.length_cons, show i + (l.length + 1) = i + 1 + l.length by omega]; exact h3⟩
  simp only [xmc, forD, e1, xbs, e2, e3]
theorem fn_of {α : Type} (x : α) {n : Nat} {P : Nat → α → Prop} (h : ∀ j, j < n → ∃ a, P j a) : ∃ f : Nat → α, ∀ j, j < n → P j (f j) := by
 refine ⟨fun j => if hj : j < n then Classical.choose (h j hj) else x, fun j hj => ?_⟩
 simp only [dif_pos hj]
 exact Classical.choose_spec (h j hj)
theorem draw_at (ns : List Int) (hn : ns.length ≤ 63) {e m' : Int} (k m : Nat) (he : e = (k : Int)) (hm' : m' = (m : Int)) (hk : k < 2 ^ 60) (hm : 0 < m) : ∃ n : Nat, F_l_drawn [scr ns, .int e, .int m'] = some (.int n) ∧ n < m := by
 subst he hm'
 exact draw_nat ns k m hn hk hm
theorem share_at (ns : List Int) (hn : ns.length ≤ 63) {e : Int} (k : Nat) (he : e = (k : Int)) (hk : k < 2 ^ 40) : ∃ r, F_l_share [scr ns, .int e] = some (fr r) ∧ IsSh 4 r := by
 subst he
 exact F_share ns k hn hk
theorem sheet_at (ns : List Int) (hn : ns.length ≤ 63) {e : Int} (k w h : Nat) (he : e = (k : Int)) (hk : k < 2 ^ 20) (w1 : 1 ≤ w) (w8 : w ≤ 8) (h1 : 1 ≤ h) (h8 : h ≤ 8) : ∃ l : List Q4, F_l_sheet [scr ns, .int e, .int w, .int h] = some (shD w h l) ∧ ShOk 8 w h l := by
 subst he
 exact law_sheet_ok ns k w h hn hk w1 w8 h1 h8
theorem dv_self (r : Rat) : Dv r.den r := by
 have := Dv.of r.num (den_pos r)
 rwa [Rat.mkRat_self] at this
theorem sr_of {k : Nat} {s : Rat} (h : IsSh k s) : Sr k s := ⟨h, s.den, den_pos s, h.bd.den, dv_self s⟩
theorem dq_of {q : Q4} (h : q.ok 8) : Dq 32 q :=
 ⟨h.or, q.c.den * q.x.den * (q.y.den * q.z.den), Nat.mul_pos (Nat.mul_pos (den_pos _) (den_pos _)) (Nat.mul_pos (den_pos _) (den_pos _)), lt_mul_pow (lt_mul_pow h.hc.bd.den h.hx.den) (lt_mul_pow h.hy.den h.hz.den),
  ((dv_self q.c).right _).right _, ((dv_self q.x).left _).right _, ((dv_self q.y).right _).left _, ((dv_self q.z).left _).left _⟩
def SOk (s : Str) : Prop := ∀ c ∈ s.cps.toList, 97 ≤ c ∧ c ≤ 122
theorem SOk.ok {s : Str} (h : SOk s) : PyData.canLay0 (.str s) = true := by
 show s.cps.all (· < 0x110000) = true
 rw [Array.all_eq_true']
 intro c hc
 exact decide_eq_true (by have := h c (Array.mem_toList_iff.mpr hc); omega)
theorem SOk.app {a b : Str} (ha : SOk a) (hb : SOk b) : SOk (a ++ b) := by
 intro c hc
 have : c ∈ (a.cps ++ b.cps).toList := hc
 rw [Array.toList_append] at this
 rcases List.mem_append.mp this with h | h
 ·exact ha c h
 ·exact hb c h
theorem ixS_ok (x : Str) (n : Nat) (h : n < x.length) (hx : x.length ≤ 1000) : ∃ s : Str, atS x (n : Int) = some (.str s) ∧ s.length = 1 ∧ (SOk x → SOk s) := by
 unfold atS
 rw [if_pos (by omega)]
 have hl : x.cps.toList.length = x.length := by unfold Str.length; simp
 have h' : n < x.cps.toList.length := by omega
 have : atI x.cps.toList (n : Int) = some x.cps.toList[n] := by
  unfold atI
  rw [ixN_of (by omega) (by omega), xbs, Int.toNat_natCast, List.getElem?_eq_getElem h']
 rw [this]
 refine ⟨⟨#[x.cps.toList[n]]⟩, rfl, rfl, fun hs c hc => ?_⟩
 have : c = x.cps.toList[n] := by simpa using hc
 rw [this]
 exact hs _ (List.getElem_mem h')
theorem slS_len (x : Str) (lo hi : Option Int) : (slS x lo hi).length ≤ x.length := by
 unfold slS
 split
 ·exact Nat.le_refl _
 ·unfold Str.length
  rw [List.size_toArray]
  exact Nat.le_trans (List.length_filterMap_le ..) (PyProof.Rows.indices_len_le ..)
theorem slS_sok {x : Str} (h : SOk x) (lo hi : Option Int) : SOk (slS x lo hi) := by
 unfold slS
 split
 ·exact h
 ·intro c hc
  simp only [List.toList_toArray] at hc
  obtain ⟨i, _, e⟩ := List.mem_filterMap.mp hc
  exact h c (Array.mem_toList_iff.mpr (Array.mem_of_getElem? e))
theorem repS_sok {x : Str} (h : SOk x) (k : Int) (hk : k = 1 ∨ k = 2) : SOk (repS x k) := by
 unfold repS
 split
 ·exact h
 ·rename_i e
  rcases hk with rfl | rfl
  ·simp at e
  ·intro c hc
   have : c ∈ ((#[] ++ x.cps) ++ x.cps).toList := hc
   simp at this
   exact h c (Array.mem_toList_iff.mpr this)
theorem glue_sok {a b : Str} (ha : SOk a) (hb : SOk b) : SOk (Builtin.Str.glued "" [a, b]) := by
 intro c hc
 have : c ∈ (a.cps ++ ("" : Str).cps ++ b.cps).toList := hc
 rw [Array.toList_append, Array.toList_append] at this
 rcases List.mem_append.mp this with h | h
 ·rcases List.mem_append.mp h with h | h
  ·exact ha c h
  ·exact absurd h (by simp [show ("" : Str).cps = #[] from rfl])
 ·exact hb c h
theorem abc_sok : SOk "abcdefghijklmnopqrstuvwxyz" := by
 have : ("abcdefghijklmnopqrstuvwxyz" : Str).cps.toList.all (fun c => decide (97 ≤ c ∧ c ≤ 122)) = true := by decide +kernel
 intro c hc
 exact of_decide_eq_true (List.all_eq_true.mp this c hc)
def ltr (k : Nat) : Str := ⟨#[97 + k]⟩
theorem ltr_ok : ∀ k : Nat, k < 14 → atS "abcdefghijklmn" (k : Int) = some (.str (ltr k)) := by
 have e : ("abcdefghijklmn" : Str) = ⟨#[97, 98, 99, 100, 101, 102, 103, 104, 105, 106, 107, 108, 109, 110]⟩ := by decide +kernel
 intro k hk
 rw [e]
 rcases (show k = 0 ∨ k = 1 ∨ k = 2 ∨ k = 3 ∨ k = 4 ∨ k = 5 ∨ k = 6 ∨ k = 7 ∨ k = 8 ∨ k = 9 ∨ k = 10 ∨ k = 11 ∨ k = 12 ∨ k = 13 by omega) with rfl | rfl | rfl | rfl | rfl | rfl | rfl | rfl | rfl | rfl | rfl | rfl | rfl | rfl <;> rfl
theorem ltr_sok (k : Nat) (h : k < 14) : SOk (ltr k) := by
 intro c hc
 have : c = 97 + k := by simpa [ltr] using hc
 omega
def nmS (b : Bool) (k : Nat) (y : Str) : Str := if b = true then ltr k ++ y else y ++ ltr k
theorem nmS_sok (b : Bool) {k : Nat} {y : Str} (hk : k < 14) (hy : SOk y) : SOk (nmS b k y) := by
 unfold nmS
 split
 ·exact (ltr_sok k hk).app hy
 ·exact hy.app (ltr_sok k hk)
theorem nmS_inj {b : Bool} {i j : Nat} {y z : Str} (e : nmS b i y = nmS b j z) : i = j := by
 unfold nmS at e
 cases b with
 | true =>
  have e : (ltr i).cps ++ y.cps = (ltr j).cps ++ z.cps := congrArg Str.cps e
  have e := congrArg (fun a => a.toList.head?) e
  simp [ltr] at e
  omega
 | false =>
  have e : y.cps ++ (ltr i).cps = z.cps ++ (ltr j).cps := congrArg Str.cps e
  have e := congrArg (fun a => a.toList.getLast?) e
  simp [ltr] at e
  omega
theorem repS_len (x : Str) (k : Int) (hk : k = 1 ∨ k = 2) : (repS x k).length ≤ 2 * x.length := by
 unfold repS
 split
 ·omega
 ·rename_i e
  rcases hk with rfl | rfl
  ·simp at e
  ·show ((#[] ++ x.cps) ++ x.cps).size ≤ 2 * x.cps.size
   simp; omega
theorem join2 (a b : Str) (ha : a.length = 1) (hb : b.length = 1) : dJoin (dC (.str "")) (fun _ => some (false, [.str a, .str b])) [] = some (.str (Builtin.Str.glued "" [a, b])) ∧ (Builtin.Str.glued "" [a, b]).length = 2 := by
 have h2 : (Builtin.Str.glued "" [a, b]).length = 2 := by
  show (a.cps ++ ("" : Str).cps ++ b.cps).size = 2
  unfold Str.length at ha hb
  rw [Array.size_append, Array.size_append, ha, hb]
  rfl
 have h1 : joinLen "" [a, b] ≤ 16777216 := by
  show 0 + a.length + ("" : Str).length + b.length + ("" : Str).length ≤ 16777216
  have : ("" : Str).length = 0 := rfl
  omega
 refine ⟨?_, h2⟩
 show (if joinLen "" [a, b] ≤ 16777216 ∧ (Builtin.Str.glued "" [a, b]).length ≤ 16777216 then some (PyData.str (Builtin.Str.glued "" [a, b])) else none) = _
 rw [if_pos ⟨h1, by omega⟩]
theorem join_of {f : DE} {g : Rho → Option (Bool × List D)} {ρ : Rho} {a b : Str} (hf : f ρ = some (.str "")) (hg : g ρ = some (false, [.str a, .str b])) (ha : a.length = 1) (hb : b.length = 1) : dJoin f g ρ = some (.str (Builtin.Str.glued "" [a, b])) := by
 rw [← (join2 a b ha hb).1]
 unfold dJoin
 rw [hf, hg]
 rfl
theorem mulS_of (x : Str) (k : Int) (hk : k = 1 ∨ k = 2) (hx : x.length ≤ 1000) : mulS (.str x) (.int k) = some (.str (repS x k)) := by
 show (if 1 ≤ k ∧ k ≤ 2 ∧ x.length ≤ 1000 ∧ (repS x k).length ≤ 16777216 then some (PyData.str (repS x k)) else none) = _
 have := repS_len x k hk
 rw [if_pos ⟨by omega, by omega, hx, by omega⟩]
theorem catE_str (a b : Str) (ha : a.length ≤ 1000) (hb : b.length ≤ 1000) : catE (.str a) (.str b) = some (.str (a ++ b)) := by
 show (if a.length + b.length ≤ 16777216 then some (PyData.str (a ++ b)) else none) = _
 rw [if_pos (by omega)]
theorem ix12 : ∀ n : Nat, n < 2 → ∃ k : Int, atI ([.int 1, .int 2] : List D) (n : Int) = some (.int k) ∧ (k = 1 ∨ k = 2)
 | 0, _ => ⟨1, rfl, .inl rfl⟩
 | 1, _ => ⟨2, rfl, .inr rfl⟩
 | n + 2, h => absurd h (by omega)
def nbA : DS := (sSet 6 (dJoin (dC (.str "")) (qN (nComp 1 [0, 1, 5] (iRan1 (dC (.int 2))) (gSet 0) cTrue (dIxS (dC (.str "abcdefghijklmnopqrstuvwxyz")) (dCall F_l_drawn (aCons (dVar 1) (aCons (dBin catE (dBin catE (dBin catE (dVar 2) (dC (.int 1))) (dBin mulE (dC (.int 3)) (dVar 3))) (dVar 0)) (aCons (dC (.int 26)) aNil)))))))))
def nbB : DS := (sSet 6 (dBin mulS (dSlS (dVar 6) oNone (oSome (dCall F_l_drawn (aCons (dVar 0) (aCons (dBin catE (dBin catE (dVar 1) (dC (.int 3))) (dBin mulE (dC (.int 3)) (dVar 5))) (aCons (dC (.int 3)) aNil)))))) (dIx (qN (aCons (dC (.int 1)) (aCons (dC (.int 2)) aNil))) (dCall F_l_drawn (aCons (dVar 0) (aCons (dBin catE (dBin catE (dVar 1) (dC (.int 2))) (dBin mulE (dC (.int 3)) (dVar 5))) (aCons (dC (.int 2)) aNil)))))))
def nbC : DS := (sApp 4 (dIx (qN (aCons (dBin catE (dVar 6) (dIxS (dC (.str "abcdefghijklmn")) (dVar 5))) (aCons (dBin catE (dIxS (dC (.str "abcdefghijklmn")) (dVar 5)) (dVar 6)) aNil))) (dInt (dVar 3))))
def nbody : DS := sSeq nbA (sSeq nbB nbC)
theorem hG_names : G_l_names = (sSeq (sSet 3 (dBin eqD (dCall F_l_drawn (aCons (dVar 0) (aCons (dVar 1) (aCons (dC (.int 2)) aNil)))) (dC (.int 0)))) (sSeq (sOwn 4 aNil) (sSeq (sFor (iRan1 (dVar 2)) (gSet 5) nbody) (sFrz 4 (sRet (dVar 4)))))) := rfl
def gb0 : DS := (sSet 8 (dCall F_l_drawn (aCons (dVar 0) (aCons (dBin catE (dBin catE (dVar 1) (dC (.int 3))) (dBin mulE (dC (.int 5)) (dVar 7))) (aCons (dBin catE (dLen (qVar 6)) (dC (.int 1))) aNil)))))
def gb1 : DS := (sSet 9 (dBin catE (dVar 8) (dCall F_l_drawn (aCons (dVar 0) (aCons (dBin catE (dBin catE (dVar 1) (dC (.int 4))) (dBin mulE (dC (.int 5)) (dVar 7))) (aCons (dC (.int 3)) aNil))))))
def gb2 : DS := (sSet 10 (dIx (qN (aCons (dTup (aCons (dC (.int 1)) (aCons (dC (.int 1)) aNil))) (aCons (dCall F_l_share (aCons (dVar 0) (aCons (dBin catE (dBin catE (dVar 1) (dC (.int 5))) (dBin mulE (dC (.int 5)) (dVar 7))) aNil))) aNil))) (dCall F_l_drawn (aCons (dVar 0) (aCons (dBin catE (dBin catE (dVar 1) (dC (.int 6))) (dBin mulE (dC (.int 5)) (dVar 7))) (aCons (dC (.int 2)) aNil))))))
def gb3 : DS := (sSet 11 (dIx (qN (aCons (dVar 4) (aCons (dC (.str "atop")) (aCons (dVar 4) (aCons (dC (.str "cut")) aNil))))) (dCall F_l_drawn (aCons (dVar 0) (aCons (dBin catE (dBin catE (dVar 1) (dC (.int 7))) (dBin mulE (dC (.int 5)) (dVar 7))) (aCons (dC (.int 4)) aNil))))))
def gb4 : DS := (sSet 12 (dTup (aCons (dC (.str "group")) (aCons (dIx (qVar 3) (dBin catE (dVar 2) (dVar 7))) (aCons (dVar 11) (aCons (dVar 10) (aCons (dBin gtI (dCall F_l_drawn (aCons (dVar 0) (aCons (dBin catE (dBin catE (dVar 1) (dC (.int 14))) (dVar 7)) (aCons (dC (.int 7)) aNil)))) (dC (.int 0))) aNil)))))))
def gb5 : DS := (sSpl 6 (oSome (dVar 8)) (oSome (dVar 9)) (aCons (dBin catE (dVar 12) (dTup (aCons (dTupN (qE (dSlQ (qVar 6) (oSome (dVar 8)) (oSome (dVar 9))))) aNil))) aNil))
def gbody : DS := (sSeq gb0 (sSeq gb1 (sSeq gb2 (sSeq gb3 (sSeq gb4 gb5)))))
def gn0 : DS := (sSet 4 (dIx (qN (aCons (dC (.str "over")) (aCons (dC (.str "multiply")) (aCons (dC (.str "screen")) (aCons (dC (.str "plus")) aNil))))) (dCall F_l_drawn (aCons (dVar 0) (aCons (dVar 1) (aCons (dC (.int 4)) aNil))))))
def gn1 : DS := (sSet 5 (dCall F_l_drawn (aCons (dVar 0) (aCons (dBin catE (dVar 1) (dC (.int 1))) (aCons (dBin catE (dVar 2) (dC (.int 1))) aNil)))))
def gn2 : DS := (sOwn 6 (nComp 1 [0, 4, 3, 1] (iRan1 (dVar 5)) (gSet 0) cTrue (dCall F_l_leaf (aCons (dVar 1) (aCons (dBin catE (dBin catE (dVar 4) (dC (.int 20))) (dBin mulE (dC (.int 170)) (dVar 0))) (aCons (dIx (qVar 3) (dVar 0)) (aCons (dVar 2) aNil)))))))
def gn3 : DS := (sFor (iRan1 (dCall F_l_drawn (aCons (dVar 0) (aCons (dBin catE (dVar 1) (dC (.int 2))) (aCons (dC (.int 3)) aNil))))) (gSet 7) gbody)
def gn4 : DS := (sRet (dTupN (qVar 6)))
theorem hG_nodes : G_l_nodes = (sSeq gn0 (sSeq gn1 (sSeq gn2 (sSeq gn3 gn4)))) := rfl
theorem nbA_ok (ns : List Int) (hn : ns.length ≤ 63) (at' k : Nat) (ha : at' < 2 ^ 20) (hk : k < 14) (a2 : Option B) (b : Bool) (L : List D) (a6 : Option B) : ∃ x : Str, nbA [‹scr ns›, ‹.int at'›, a2, ‹.bool b›, some (.own L), ‹.int k›, a6] = some (.nx [‹scr ns›, ‹.int at'›, a2, ‹.bool b›, some (.own L), ‹.int k›, ‹.str x›]) ∧ x.length = 2 ∧ SOk x := by
 have m3 : mulE (.int 3) (.int k) = some (.int ((3 * k : Nat) : Int)) := mulE_nat (i := 3) (by decide) (by omega)
 have P : ∀ j, j < 2 → ∃ s : Str, dIxS (dC (.str "abcdefghijklmnopqrstuvwxyz")) (dCall F_l_drawn (aCons (dVar 1) (aCons (dBin catE (dBin catE (dBin catE (dVar 2) (dC (.int 1))) (dBin mulE (dC (.int 3)) (dVar 3))) (dVar 0)) (aCons (dC (.int 26)) aNil)))) [‹.int (j : Nat)›, ‹scr ns›, ‹.int at'›, ‹.int k›] = some (.str s) ∧ s.length = 1 ∧ SOk s := fun j hj => by
  obtain ⟨d, ed, ld⟩ := draw_at ns hn (e := (at' : Int) + 1 + ((3 * k : Nat) : Int) + (j : Int)) (m' := 26) (at' + 1 + 3 * k + j) 26 (by omega) rfl (by omega) (by decide)
  obtain ⟨s, es, ls, ss⟩ := ixS_ok "abcdefghijklmnopqrstuvwxyz" d ld (by decide)
  refine ⟨s, ?_, ls, ss abc_sok⟩
  wp_walk using evD, dIxS, m3, ed, es
 obtain ⟨S, hS⟩ := fn_of (x := ("" : Str)) P
 have c : nComp 1 [0, 1, 5] (iRan1 (dC (.int 2))) (gSet 0) cTrue (dIxS (dC (.str "abcdefghijklmnopqrstuvwxyz")) (dCall F_l_drawn (aCons (dVar 1) (aCons (dBin catE (dBin catE (dBin catE (dVar 2) (dC (.int 1))) (dBin mulE (dC (.int 3)) (dVar 3))) (dVar 0)) (aCons (dC (.int 26)) aNil))))) [‹scr ns›, ‹.int at'›, a2, ‹.bool b›, some (.own L), ‹.int k›, a6] = some ((List.range 2).map fun j => .str (S j)) :=
  nComp1 (l := List.range 2) (h := fun j : Nat => PyData.int j) (r := [‹scr ns›, ‹.int at'›, ‹.int k›]) rfl (ran_nat (n := 2) rfl (by decide)) (by decide) fun j hj => (hS j (List.mem_range.mp hj)).1
 refine ⟨Builtin.Str.glued "" [S 0, S 1], ?_, (join2 _ _ (hS 0 (by decide)).2.1 (hS 1 (by decide)).2.1).2, glue_sok (hS 0 (by decide)).2.2 (hS 1 (by decide)).2.2⟩
 have jn := join_of (f := dC (.str "")) (g := qN (nComp 1 [0, 1, 5] (iRan1 (dC (.int 2))) (gSet 0) cTrue (dIxS (dC (.str "abcdefghijklmnopqrstuvwxyz")) (dCall F_l_drawn (aCons (dVar 1) (aCons (dBin catE (dBin catE (dBin catE (dVar 2) (dC (.int 1))) (dBin mulE (dC (.int 3)) (dVar 3))) (dVar 0)) (aCons (dC (.int 26)) aNil))))))) (ρ := [‹scr ns›, ‹.int at'›, a2, ‹.bool b›, some (.own L), ‹.int k›, a6]) rfl (by unfold qN; rw [c]; rfl) (hS 0 (by decide)).2.1 (hS 1 (by decide)).2.1
 unfold nbA sSet
 rw [jn]
 rfl
theorem nbB_ok (ns : List Int) (hn : ns.length ≤ 63) (at' k : Nat) (ha : at' < 2 ^ 20) (hk : k < 14) (a2 : Option B) (b : Bool) (L : List D) (x : Str) (hx : x.length = 2) (sx : SOk x) : ∃ y : Str, nbB [‹scr ns›, ‹.int at'›, a2, ‹.bool b›, some (.own L), ‹.int k›, ‹.str x›] = some (.nx [‹scr ns›, ‹.int at'›, a2, ‹.bool b›, some (.own L), ‹.int k›, ‹.str y›]) ∧ y.length ≤ 4 ∧ SOk y := by
 have m3 : mulE (.int 3) (.int k) = some (.int ((3 * k : Nat) : Int)) := mulE_nat (i := 3) (by decide) (by omega)
 obtain ⟨d, ed, ld⟩ := draw_at ns hn (e := (at' : Int) + 3 + ((3 * k : Nat) : Int)) (m' := 3) (at' + 3 + 3 * k) 3 (by omega) rfl (by omega) (by decide)
 obtain ⟨d', ed', ld'⟩ := draw_at ns hn (e := (at' : Int) + 2 + ((3 * k : Nat) : Int)) (m' := 2) (at' + 2 + 3 * k) 2 (by omega) rfl (by omega) (by decide)
 obtain ⟨kk, ek, hk'⟩ := ix12 d' ld'
 have sl := slS_len x none (some (d : Int))
 have rl := repS_len (slS x none (some (d : Int))) kk hk'
 refine ⟨repS (slS x none (some (d : Int))) kk, ?_, by omega, repS_sok (slS_sok sx _ _) kk hk'⟩
 have a1 : dSlS (dVar 6) oNone (oSome (dCall F_l_drawn (aCons (dVar 0) (aCons (dBin catE (dBin catE (dVar 1) (dC (.int 3))) (dBin mulE (dC (.int 3)) (dVar 5))) (aCons (dC (.int 3)) aNil))))) [‹scr ns›, ‹.int at'›, a2, ‹.bool b›, some (.own L), ‹.int k›, ‹.str x›] = some (.str (slS x none (some (d : Int)))) := by
  have cnd : x.length ≤ 1000 ∧ (slS x none (some (d : Int))).length ≤ 16777216 := ⟨by omega, by omega⟩
  wp_walk using evD, dSlS, m3, ed, if_pos cnd
 have a2 : dIx (qN (aCons (dC (.int 1)) (aCons (dC (.int 2)) aNil))) (dCall F_l_drawn (aCons (dVar 0) (aCons (dBin catE (dBin catE (dVar 1) (dC (.int 2))) (dBin mulE (dC (.int 3)) (dVar 5))) (aCons (dC (.int 2)) aNil)))) [‹scr ns›, ‹.int at'›, a2, ‹.bool b›, some (.own L), ‹.int k›, ‹.str x›] = some (.int kk) := by
  wp_walk using evD, m3, ed', ek
 unfold nbB sSet
 rw [dBin_of a1 a2, mulS_of _ kk hk' (by omega)]
 rfl
theorem ifb (b : Bool) (x y : D) : atI [x, y] (if b = true then 1 else 0) = some (if b = true then y else x) := by cases b <;> rfl
theorem nbC_ok (ns : List Int) (at' k : Nat) (hk : k < 14) (a2 : Option B) (b : Bool) (L : List D) (hL : L.length ≤ 100) (y : Str) (hy : y.length ≤ 4) : nbC [‹scr ns›, ‹.int at'›, a2, ‹.bool b›, some (.own L), ‹.int k›, ‹.str y›] = some (.nx [‹scr ns›, ‹.int at'›, a2, ‹.bool b›, some (.own (L ++ [.str (nmS b k y)])), ‹.int k›, ‹.str y›]) := by
 have ec := ltr_ok k hk
 have lc : (ltr k).length = 1 := rfl
 have c1 := catE_str y (ltr k) (by omega) (by omega)
 have c2 := catE_str (ltr k) y (by omega) (by omega)
 have hl : L.length < 16777216 := by omega
 have e : dIx (qN (aCons (dBin catE (dVar 6) (dIxS (dC (.str "abcdefghijklmn")) (dVar 5))) (aCons (dBin catE (dIxS (dC (.str "abcdefghijklmn")) (dVar 5)) (dVar 6)) aNil))) (dInt (dVar 3)) [‹scr ns›, ‹.int at'›, a2, ‹.bool b›, some (.own L), ‹.int k›, ‹.str y›] = some (.str (nmS b k y)) := by
  wp_walk using evD, dIxS, ec, c1, c2, ifb
  cases b <;> rfl
 unfold nbC sApp
 simp only [xg0, xg1, if_pos hl, e, xms, xw0, xw1]
theorem names_ok (ns : List Int) (hn : ns.length ≤ 63) (at' many : Nat) (ha : at' < 2 ^ 20) (hm : many ≤ 14) : ∃ L : List D, F_l_names [scr ns, .int at', .int many] = some (.list L) ∧ L.length = many ∧ ∃ b : Bool, ∀ i, i < many → ∃ y, L[i]? = some (.str (nmS b i y)) ∧ SOk y ∧ y.length ≤ 4 := by
 obtain ⟨d, ed, ld⟩ := draw_at ns hn (e := (at' : Int)) (m' := 2) at' 2 rfl rfl (by omega) (by decide)
 obtain ⟨ρ', e, L, a5, a6, hρ, hL, hP⟩ := forD_pre (g := gSet 5) (f := nbody) (h := fun j : Nat => PyData.int j) (I := fun i ρ => ∃ (L : List D) (a5 a6 : Option B), ρ = [‹scr ns›, ‹.int at'›, ‹.int many›, ‹.bool ((d : Int) == 0)›, some (.own L), a5, a6] ∧ L.length = i ∧ ∀ n, n < i → ∃ y, L[n]? = some (.str (nmS ((d : Int) == 0) n y)) ∧ SOk y ∧ y.length ≤ 4) (List.range many) 0 [‹scr ns›, ‹.int at'›, ‹.int many›, ‹.bool ((d : Int) == 0)›, some (.own []), none, none] ⟨[], none, none, rfl, rfl, fun n h => absurd h (Nat.not_lt_zero n)⟩ (fun j a hj ρ hρ => by
  obtain ⟨L, a5, a6, rfl, hL, hP⟩ := hρ
  obtain ⟨hj1, hj2⟩ := List.getElem?_eq_some_iff.mp hj
  rw [List.length_range] at hj1
  rw [List.getElem_range] at hj2
  subst hj2
  refine ⟨_, rfl, ?_⟩
  simp only [xw0, xw1]
  obtain ⟨x, e1, hx, sx⟩ := nbA_ok ns hn at' j ha (by omega) (‹.int many›) ((d : Int) == 0) L a6
  obtain ⟨y, e2, hy, sy⟩ := nbB_ok ns hn at' j ha (by omega) (‹.int many›) ((d : Int) == 0) L x hx sx
  have e3 := nbC_ok ns at' j (by omega) (‹.int many›) ((d : Int) == 0) L (by omega) y hy
  have eb : nbody [‹scr ns›, ‹.int at'›, ‹.int many›, ‹.bool ((d : Int) == 0)›, some (.own L), ‹.int j›, a6] = some (.nx [‹scr ns›, ‹.int at'›, ‹.int many›, ‹.bool ((d : Int) == 0)›, some (.own (L ++ [.str (nmS ((d : Int) == 0) j y)])), ‹.int j›, ‹.str y›]) := by
   unfold nbody
   rw [seq_nx e1, seq_nx e2, e3]
  refine ⟨_, eb, L ++ [.str (nmS ((d : Int) == 0) j y)], _, _, rfl, by rw [List.length_append, hL]; rfl, fun n hn => ?_⟩
  by_cases q : n < 0 + j
  ·obtain ⟨z, e1, e2⟩ := hP n q
   exact ⟨z, by rw [List.getElem?_append_left (by omega)]; exact e1, e2⟩
  ·have : n = L.length := by omega
   refine ⟨y, ?_, sy, hy⟩
   rw [this, List.getElem?_append_right (Nat.le_refl _), Nat.sub_self]
   rw [show L.length = j by omega]
   rfl)
 subst hρ
 rw [List.length_range, Nat.zero_add] at hL hP
 refine ⟨L, ?_, hL, _, hP⟩
 refine run_rt (ρ := [‹scr ns›, ‹.int at'›, ‹.int many›, none, none, none, none]) rfl ?_
 have rn : iRan1 (dVar 2) [‹scr ns›, ‹.int at'›, ‹.int many›, ‹.bool ((d : Int) == 0)›, some (.own []), none, none] = _ := ran_nat (n := many) rfl (by omega)
 have s0 : (sSet 3 (dBin eqD (dCall F_l_drawn (aCons (dVar 0) (aCons (dVar 1) (aCons (dC (.int 2)) aNil)))) (dC (.int 0)))) [‹scr ns›, ‹.int at'›, ‹.int many›, none, none, none, none] = some (.nx [‹scr ns›, ‹.int at'›, ‹.int many›, ‹.bool ((d : Int) == 0)›, none, none, none]) := by
  simp only [sSet, dBin, dCall, aCons, aNil, dVar, dC, xbs, xms, xg0, xg1, xw0, xw1, ed, eq_y]
 have s1 : (sOwn 4 aNil) [‹scr ns›, ‹.int at'›, ‹.int many›, ‹.bool ((d : Int) == 0)›, none, none, none] = some (.nx [‹scr ns›, ‹.int at'›, ‹.int many›, ‹.bool ((d : Int) == 0)›, some (.own []), none, none]) := rfl
 have s2 : (sFor (iRan1 (dVar 2)) (gSet 5) nbody) [‹scr ns›, ‹.int at'›, ‹.int many›, ‹.bool ((d : Int) == 0)›, some (.own []), none, none] = some (.nx [‹scr ns›, ‹.int at'›, ‹.int many›, ‹.bool ((d : Int) == 0)›, some (.own L), a5, a6]) := by
  unfold sFor
  rw [rn]
  exact e
 have s3 : (sFrz 4 (sRet (dVar 4))) [‹scr ns›, ‹.int at'›, ‹.int many›, ‹.bool ((d : Int) == 0)›, some (.own L), a5, a6] = some (.rt (.list L)) := rfl
 rw [hG_names, seq_nx s0, seq_nx s1, seq_nx s2]
 exact s3
theorem man6 : ∀ n : Nat, n < 6 → ∃ m : Man, atI ([.str "over", .str "multiply", .str "screen", .str "plus", .str "atop", .str "cut"] : List D) (n : Int) = some (.str m.s)
 | 0, _ => ⟨.over, rfl⟩
 | 1, _ => ⟨.mult, rfl⟩
 | 2, _ => ⟨.screen, rfl⟩
 | 3, _ => ⟨.plus, rfl⟩
 | 4, _ => ⟨.atop, rfl⟩
 | 5, _ => ⟨.cut, rfl⟩
 | n + 6, h => absurd h (by omega)
theorem man4 : ∀ n : Nat, n < 4 → ∃ m : Man, atI ([.str "over", .str "multiply", .str "screen", .str "plus"] : List D) (n : Int) = some (.str m.s)
 | 0, _ => ⟨.over, rfl⟩
 | 1, _ => ⟨.mult, rfl⟩
 | 2, _ => ⟨.screen, rfl⟩
 | 3, _ => ⟨.plus, rfl⟩
 | n + 4, h => absurd h (by omega)
theorem man4g (m : Man) : ∀ n : Nat, n < 4 → ∃ m' : Man, atI ([.str m.s, .str "atop", .str m.s, .str "cut"] : List D) (n : Int) = some (.str m'.s)
 | 0, _ => ⟨m, rfl⟩
 | 1, _ => ⟨.atop, rfl⟩
 | 2, _ => ⟨m, rfl⟩
 | 3, _ => ⟨.cut, rfl⟩
 | n + 4, h => absurd h (by omega)
theorem rul3 : ∀ n : Nat, n < 3 → ∃ r : Rul, atI ([.str "turn", .str "grey", .str "round"] : List D) (n : Int) = some (.str r.s)
 | 0, _ => ⟨.turn, rfl⟩
 | 1, _ => ⟨.grey, rfl⟩
 | 2, _ => ⟨.round, rfl⟩
 | n + 3, h => absurd h (by omega)
theorem z_eq (n : Nat) : ((n : Int) == 0) = decide (n = 0) := by
 cases n with
 | zero => rfl
 | succ n => rw [decide_eq_false (by omega)]; exact beq_eq_false_iff_ne.mpr (by omega)
theorem z_gt (n : Nat) : (decide ((0 : Int) < (n : Int))) = decide (0 < n) := by
 cases n with
 | zero => rfl
 | succ n => rw [decide_eq_true (by omega), decide_eq_true (by omega)]
theorem ad1 (n : Nat) : (1 : Int) + (n : Int) = ((1 + n : Nat) : Int) := by omega
def Nd.nm : Nd → D
 | .layer nm .. => nm
 | .tone nm .. => nm
 | .group nm .. => nm
mutual
def Nd.near : Nd → Prop
 | .layer _ _ _ _ lf tp _ _ _ _ kb => -2 ≤ lf ∧ lf ≤ 2 ∧ -2 ≤ tp ∧ tp ≤ 2 ∧ kb ≤ 40
 | .tone .. => True
 | .group _ _ _ _ ns => Nd.nears ns
def Nd.nears : List Nd → Prop
 | [] => True
 | n :: r => n.near ∧ Nd.nears r
end
theorem nears_iff : ∀ l : List Nd, Nd.nears l ↔ ∀ n ∈ l, n.near
 | [] => by simp [Nd.nears]
 | n :: r => by simp [Nd.nears, nears_iff r]
theorem leaf_ok (ns : List Int) (hn : ns.length ≤ 63) (at' : Nat) (ha : at' < 2 ^ 19) (nm : D) (m : Man) : ∃ n : Nd, F_l_leaf [scr ns, .int at', nm, .str m.s] = some n.d ∧ n.Ok ∧ n.dp = 0 ∧ n.wg ≤ 40 ∧ n.nm = nm ∧ n.near := by
 obtain ⟨s, es, hs⟩ := F_share ns at' hn (by omega)
 have es : F_l_share [scr ns, .int at'] = some (fr s) := es
 obtain ⟨d3, e3, l3⟩ := draw_at ns hn (e := (at' : Int) + 3) (m' := 6) (at' + 3) 6 (by omega) rfl (by omega) (by decide)
 obtain ⟨d4, e4, l4⟩ := draw_at ns hn (e := (at' : Int) + 4) (m' := 6) (at' + 4) 6 (by omega) rfl (by omega) (by decide)
 obtain ⟨d6, e6, l6⟩ := draw_at ns hn (e := (at' : Int) + 6) (m' := 3) (at' + 6) 3 (by omega) rfl (by omega) (by decide)
 obtain ⟨d7, e7, l7⟩ := draw_at ns hn (e := (at' : Int) + 7) (m' := 3) (at' + 7) 3 (by omega) rfl (by omega) (by decide)
 obtain ⟨d8, e8, l8⟩ := draw_at ns hn (e := (at' : Int) + 8) (m' := 3) (at' + 8) 3 (by omega) rfl (by omega) (by decide)
 obtain ⟨d9, e9, l9⟩ := draw_at ns hn (e := (at' : Int) + 9) (m' := 3) (at' + 9) 3 (by omega) rfl (by omega) (by decide)
 obtain ⟨d10, e10, l10⟩ := draw_at ns hn (e := (at' : Int) + 10) (m' := 4) (at' + 10) 4 (by omega) rfl (by omega) (by decide)
 obtain ⟨d11, e11, l11⟩ := draw_at ns hn (e := (at' : Int) + 11) (m' := 4) (at' + 11) 4 (by omega) rfl (by omega) (by decide)
 obtain ⟨d12, e12, l12⟩ := draw_at ns hn (e := (at' : Int) + 12) (m' := 3) (at' + 12) 3 (by omega) rfl (by omega) (by decide)
 obtain ⟨d5, e5, l5⟩ := draw_at ns hn (e := (at' : Int) + 5) (m' := 3) (at' + 5) 3 (by omega) rfl (by omega) (by decide)
 obtain ⟨d5', e5', l5'⟩ := draw_at ns hn (e := (at' : Int) + 5) (m' := 6) (at' + 5) 6 (by omega) rfl (by omega) (by decide)
 have s0 : st_l_leaf_0 [‹scr ns›, ‹.int at'›, some (.val nm), ‹.str m.s›, none, none, none, none, none, none, none, none, none] = some (.nx [‹scr ns›, ‹.int at'›, some (.val nm), ‹.str m.s›, ‹fr s›, none, none, none, none, none, none, none, none]) := by
  wp_walk using evD, st_l_leaf_0, es
 have s1 : st_l_leaf_1 [‹scr ns›, ‹.int at'›, some (.val nm), ‹.str m.s›, ‹fr s›, none, none, none, none, none, none, none, none] = some (.nx [‹scr ns›, ‹.int at'›, some (.val nm), ‹.str m.s›, ‹fr s›, ‹.bool (decide (0 < d3))›, none, none, none, none, none, none, none]) := by
  wp_walk using evD, st_l_leaf_1, e3, z_gt
 by_cases t4 : d4 = 0
 ·obtain ⟨r, er⟩ := rul3 d5 l5
  refine ⟨.tone nm r s (decide (0 < d3)), ?_, sr_of hs, rfl, by show 6 ≤ 40; decide, rfl, by rw [Nd.near]; trivial⟩
  have s2 : st_l_leaf_2 [‹scr ns›, ‹.int at'›, some (.val nm), ‹.str m.s›, ‹fr s›, ‹.bool (decide (0 < d3))›, none, none, none, none, none, none, none] = some (.rt (.tuple [.str "tone", nm, .str r.s, fr s, .bool (decide (0 < d3))])) := by
   wp_walk using evD, st_l_leaf_2, e4, z_eq, decide_eq_true t4, e5, er
  refine run_rt (ρ := [‹scr ns›, ‹.int at'›, some (.val nm), ‹.str m.s›, none, none, none, none, none, none, none, none, none]) rfl ?_
  unfold G_l_leaf
  rw [seq_nx s0, seq_nx s1, seq_rt s2, Nd.d]
 have s2 : st_l_leaf_2 [‹scr ns›, ‹.int at'›, some (.val nm), ‹.str m.s›, ‹fr s›, ‹.bool (decide (0 < d3))›, none, none, none, none, none, none, none] = some (.nx [‹scr ns›, ‹.int at'›, some (.val nm), ‹.str m.s›, ‹fr s›, ‹.bool (decide (0 < d3))›, none, none, none, none, none, none, none]) := by
  wp_walk using evD, st_l_leaf_2, e4, z_eq, decide_eq_false t4
 obtain ⟨m0, em0⟩ := man6 d5' l5'
 have s3 : st_l_leaf_3 [‹scr ns›, ‹.int at'›, some (.val nm), ‹.str m.s›, ‹fr s›, ‹.bool (decide (0 < d3))›, none, none, none, none, none, none, none] = some (.nx [‹scr ns›, ‹.int at'›, some (.val nm), ‹.str m.s›, ‹fr s›, ‹.bool (decide (0 < d3))›, ‹.str m0.s›, none, none, none, none, none, none]) := by
  wp_walk using evD, st_l_leaf_3, e5', em0
 obtain ⟨m1, s4⟩ : ∃ m1 : Man, st_l_leaf_4 [‹scr ns›, ‹.int at'›, some (.val nm), ‹.str m.s›, ‹fr s›, ‹.bool (decide (0 < d3))›, ‹.str m0.s›, none, none, none, none, none, none] = some (.nx [‹scr ns›, ‹.int at'›, some (.val nm), ‹.str m.s›, ‹fr s›, ‹.bool (decide (0 < d3))›, ‹.str m1.s›, none, none, none, none, none, none]) := by
  by_cases t6 : 0 < d6
  ·exact ⟨m, by wp_walk using evD, st_l_leaf_4, e6, z_gt, decide_eq_true t6⟩
  ·exact ⟨m0, by wp_walk using evD, st_l_leaf_4, e6, z_gt, decide_eq_false t6⟩
 have s5 : st_l_leaf_5 [‹scr ns›, ‹.int at'›, some (.val nm), ‹.str m.s›, ‹fr s›, ‹.bool (decide (0 < d3))›, ‹.str m1.s›, none, none, none, none, none, none] = some (.nx [‹scr ns›, ‹.int at'›, some (.val nm), ‹.str m.s›, ‹fr s›, ‹.bool (decide (0 < d3))›, ‹.str m1.s›, ‹.int ((1 + d7 : Nat) : Int)›, none, none, none, none, none]) := by
  wp_walk using evD, st_l_leaf_5, e7, ad1
 have s6 : st_l_leaf_6 [‹scr ns›, ‹.int at'›, some (.val nm), ‹.str m.s›, ‹fr s›, ‹.bool (decide (0 < d3))›, ‹.str m1.s›, ‹.int ((1 + d7 : Nat) : Int)›, none, none, none, none, none] = some (.nx [‹scr ns›, ‹.int at'›, some (.val nm), ‹.str m.s›, ‹fr s›, ‹.bool (decide (0 < d3))›, ‹.str m1.s›, ‹.int ((1 + d7 : Nat) : Int)›, ‹.int ((1 + d8 : Nat) : Int)›, none, none, none, none]) := by
  wp_walk using evD, st_l_leaf_6, e8, ad1
 have s7 : st_l_leaf_7 [‹scr ns›, ‹.int at'›, some (.val nm), ‹.str m.s›, ‹fr s›, ‹.bool (decide (0 < d3))›, ‹.str m1.s›, ‹.int ((1 + d7 : Nat) : Int)›, ‹.int ((1 + d8 : Nat) : Int)›, none, none, none, none] = some (.nx [‹scr ns›, ‹.int at'›, some (.val nm), ‹.str m.s›, ‹fr s›, ‹.bool (decide (0 < d3))›, ‹.str m1.s›, ‹.int ((1 + d7 : Nat) : Int)›, ‹.int ((1 + d8 : Nat) : Int)›, some (.val .none), none, none, none]) := by
  wp_walk using evD, st_l_leaf_7
 have wh : (1 + d7) * (1 + d8) ≤ 9 := Nat.mul_le_mul (show 1 + d7 ≤ 3 by omega) (show 1 + d8 ≤ 3 by omega)
 have mwh : mulE (.int ((1 + d7 : Nat) : Int)) (.int ((1 + d8 : Nat) : Int)) = some (.int (((1 + d7) * (1 + d8) : Nat) : Int)) := mulE_nat (by omega) (by omega)
 obtain ⟨mk, s8, hmk⟩ : ∃ mk : Option (List Rat), st_l_leaf_8 [‹scr ns›, ‹.int at'›, some (.val nm), ‹.str m.s›, ‹fr s›, ‹.bool (decide (0 < d3))›, ‹.str m1.s›, ‹.int ((1 + d7 : Nat) : Int)›, ‹.int ((1 + d8 : Nat) : Int)›, some (.val .none), none, none, none] = some (.nx [‹scr ns›, ‹.int at'›, some (.val nm), ‹.str m.s›, ‹fr s›, ‹.bool (decide (0 < d3))›, ‹.str m1.s›, ‹.int ((1 + d7 : Nat) : Int)›, ‹.int ((1 + d8 : Nat) : Int)›, ‹mkD mk›, none, none, none]) ∧ ∀ ms, mk = some ms → ms.length = (1 + d7) * (1 + d8) ∧ ∀ r ∈ ms, Sr 4 r := by
  by_cases t9 : d9 = 0
  ·have P : ∀ j, j < 9 → ∃ r : Rat, F_l_share [scr ns, .int ((at' : Int) + 20 + ((3 * j : Nat) : Int))] = some (fr r) ∧ IsSh 4 r := fun j hj => share_at ns hn (at' + 20 + 3 * j) (by omega) (by omega)
   obtain ⟨R, hR⟩ := fn_of (x := (0 : Rat)) P
   have c : nComp 1 [0, 1] (iRan1 (dBin mulE (dVar 7) (dVar 8))) (gSet 0) cTrue (dCall F_l_share (aCons (dVar 1) (aCons (dBin catE (dBin catE (dVar 2) (dC (.int 20))) (dBin mulE (dC (.int 3)) (dVar 0))) aNil))) [‹scr ns›, ‹.int at'›, some (.val nm), ‹.str m.s›, ‹fr s›, ‹.bool (decide (0 < d3))›, ‹.str m1.s›, ‹.int ((1 + d7 : Nat) : Int)›, ‹.int ((1 + d8 : Nat) : Int)›, some (.val .none), none, none, none] = some ((List.range ((1 + d7) * (1 + d8))).map fun j => fr (R j)) := by
    refine nComp1 (l := List.range ((1 + d7) * (1 + d8))) (h := fun j : Nat => PyData.int j) (r := [‹scr ns›, ‹.int at'›]) rfl (ran_nat ((dBin_of rfl rfl).trans mwh) (by omega)) (by rw [List.length_range]; omega) fun j hj => ?_
    have hj := List.mem_range.mp hj
    have m3 : mulE (.int 3) (.int j) = some (.int ((3 * j : Nat) : Int)) := mulE_nat (i := 3) (by decide) (by omega)
    wp_walk using evD, m3, (hR j (by omega)).1
   refine ⟨some ((List.range ((1 + d7) * (1 + d8))).map R), ?_, fun ms e => ?_⟩
   ·simp only [st_l_leaf_8, sIf, tB2, sSet, dTupN, qN, c, dBin, dCall, aCons, aNil, dVar, dC, catE_y, e9, eq_y, z_eq, decide_eq_true t9, boolOf, xbs, xms, xg0, xg1, xw0, xw1, if_true, xft, if_false, mkD, List.map_map]
    rfl
   ·cases e
    refine ⟨by rw [List.length_map, List.length_range], fun r hr => ?_⟩
    obtain ⟨j, hj, rfl⟩ := List.mem_map.mp hr
    exact sr_of (hR j (by have := List.mem_range.mp hj; omega)).2
  ·exact ⟨none, by (wp_walk using evD, st_l_leaf_8, e9, z_eq, decide_eq_false t9, mkD), fun ms e => by cases e⟩
 have s9 : st_l_leaf_9 [‹scr ns›, ‹.int at'›, some (.val nm), ‹.str m.s›, ‹fr s›, ‹.bool (decide (0 < d3))›, ‹.str m1.s›, ‹.int ((1 + d7 : Nat) : Int)›, ‹.int ((1 + d8 : Nat) : Int)›, ‹mkD mk›, none, none, none] = some (.nx [‹scr ns›, ‹.int at'›, some (.val nm), ‹.str m.s›, ‹fr s›, ‹.bool (decide (0 < d3))›, ‹.str m1.s›, ‹.int ((1 + d7 : Nat) : Int)›, ‹.int ((1 + d8 : Nat) : Int)›, ‹mkD mk›, ‹.int ((d10 : Int) - 1)›, none, none]) := by
  wp_walk using evD, st_l_leaf_9, e10
 have s10 : st_l_leaf_10 [‹scr ns›, ‹.int at'›, some (.val nm), ‹.str m.s›, ‹fr s›, ‹.bool (decide (0 < d3))›, ‹.str m1.s›, ‹.int ((1 + d7 : Nat) : Int)›, ‹.int ((1 + d8 : Nat) : Int)›, ‹mkD mk›, ‹.int ((d10 : Int) - 1)›, none, none] = some (.nx [‹scr ns›, ‹.int at'›, some (.val nm), ‹.str m.s›, ‹fr s›, ‹.bool (decide (0 < d3))›, ‹.str m1.s›, ‹.int ((1 + d7 : Nat) : Int)›, ‹.int ((1 + d8 : Nat) : Int)›, ‹mkD mk›, ‹.int ((d10 : Int) - 1)›, ‹.int ((d11 : Int) - 1)›, none]) := by
  wp_walk using evD, st_l_leaf_10, e11
 obtain ⟨w, h, lf, tp, mk', s11, hw, hh, hmk', hof⟩ : ∃ (w h : Nat) (lf tp : Int) (mk' : Option (List Rat)), st_l_leaf_11 [‹scr ns›, ‹.int at'›, some (.val nm), ‹.str m.s›, ‹fr s›, ‹.bool (decide (0 < d3))›, ‹.str m1.s›, ‹.int ((1 + d7 : Nat) : Int)›, ‹.int ((1 + d8 : Nat) : Int)›, ‹mkD mk›, ‹.int ((d10 : Int) - 1)›, ‹.int ((d11 : Int) - 1)›, none] = some (.nx [‹scr ns›, ‹.int at'›, some (.val nm), ‹.str m.s›, ‹fr s›, ‹.bool (decide (0 < d3))›, ‹.str m1.s›, ‹.int (w : Nat)›, ‹.int (h : Nat)›, ‹mkD mk'›, ‹.int lf›, ‹.int tp›, none]) ∧ (1 ≤ w ∧ w ≤ 3) ∧ (1 ≤ h ∧ h ≤ 3) ∧ (∀ ms, mk' = some ms → ms.length = w * h ∧ ∀ r ∈ ms, Sr 4 r) ∧ (-2 ≤ lf ∧ lf ≤ 2 ∧ -2 ≤ tp ∧ tp ≤ 2) := by
  by_cases t12 : d12 = 0
  ·refine ⟨3, 3, 0, 0, none, ?_, by decide, by decide, (fun ms e => by cases e), by decide⟩
   have l5 : ∀ a b c d e : D, ([a, b, c, d, e] : List D).length = 5 := fun _ _ _ _ _ => rfl
   wp_walk using evD, st_l_leaf_11, e12, z_eq, decide_eq_true t12, l5, mkD
   rfl
  ·exact ⟨1 + d7, 1 + d8, (d10 : Int) - 1, (d11 : Int) - 1, mk, by (wp_walk using evD, st_l_leaf_11, e12, z_eq, decide_eq_false t12), by omega, by omega, hmk, by omega⟩
 obtain ⟨l, el, S⟩ := sheet_at ns hn (e := (at' : Int) + 50) (at' + 50) w h (by omega) (by omega) hw.1 (by omega) hh.1 (by omega)
 have s12 : st_l_leaf_12 [‹scr ns›, ‹.int at'›, some (.val nm), ‹.str m.s›, ‹fr s›, ‹.bool (decide (0 < d3))›, ‹.str m1.s›, ‹.int (w : Nat)›, ‹.int (h : Nat)›, ‹mkD mk'›, ‹.int lf›, ‹.int tp›, none] = some (.nx [‹scr ns›, ‹.int at'›, some (.val nm), ‹.str m.s›, ‹fr s›, ‹.bool (decide (0 < d3))›, ‹.str m1.s›, ‹.int (w : Nat)›, ‹.int (h : Nat)›, ‹mkD mk'›, ‹.int lf›, ‹.int tp›, ‹shD w h l›]) := by
  wp_walk using evD, st_l_leaf_12, el
 refine ⟨.layer nm m1 s (decide (0 < d3)) lf tp mk' w h l 32, ?_, ?_, rfl, Nat.le_refl _, rfl, by rw [Nd.near]; exact ⟨hof.1, hof.2.1, hof.2.2.1, hof.2.2.2, by decide⟩⟩
 ·have s13 : st_l_leaf_13 [‹scr ns›, ‹.int at'›, some (.val nm), ‹.str m.s›, ‹fr s›, ‹.bool (decide (0 < d3))›, ‹.str m1.s›, ‹.int (w : Nat)›, ‹.int (h : Nat)›, ‹mkD mk'›, ‹.int lf›, ‹.int tp›, ‹shD w h l›] = some (.rt (.tuple [.str "layer", nm, .str m1.s, fr s, .bool (decide (0 < d3)), .int lf, .int tp, mkD mk', shD w h l])) := by
   wp_walk using evD, st_l_leaf_13
  refine run_rt (ρ := [‹scr ns›, ‹.int at'›, some (.val nm), ‹.str m.s›, none, none, none, none, none, none, none, none, none]) rfl ?_
  unfold G_l_leaf
  rw [seq_nx s0, seq_nx s1, seq_nx s2, seq_nx s3, seq_nx s4, seq_nx s5, seq_nx s6, seq_nx s7, seq_nx s8, seq_nx s9, seq_nx s10, seq_nx s11, seq_nx s12, s13, Nd.d]
 ·rw [Nd.Ok]
  exact ⟨sr_of hs, ⟨S.w1, S.w8, S.h1, S.h8, S.len, fun q hq => (S.ok q hq).mono (by decide)⟩, fun q hq => dq_of (S.ok q hq), hmk', by decide⟩
end Sh
namespace Sh
open PySem G L2
theorem ds_map : ∀ l : List Nd, Nd.ds l = l.map Nd.d
 | [] => by rw [Nd.ds]; rfl
 | n :: r => by rw [Nd.ds, ds_map r]; rfl
theorem oks_iff : ∀ l : List Nd, Nd.Oks l ↔ ∀ n ∈ l, n.Ok
 | [] => by simp [Nd.Oks]
 | n :: r => by simp [Nd.Oks, oks_iff r]
theorem wgs_app : ∀ a b : List Nd, Nd.wgs (a ++ b) = Nd.wgs a + Nd.wgs b
 | [], b => by simp [Nd.wgs]
 | n :: a, b => by rw [xca, Nd.wgs, Nd.wgs, wgs_app a b]; omega
theorem dps_app : ∀ a b : List Nd, Nd.dps (a ++ b) = max (Nd.dps a) (Nd.dps b)
 | [], b => by simp [Nd.dps]
 | n :: a, b => by rw [xca, Nd.dps, Nd.dps, dps_app a b]; omega
theorem wgs_le : ∀ l : List Nd, (∀ n ∈ l, n.wg ≤ 40) → Nd.wgs l ≤ 40 * l.length
 | [], _ => by simp [Nd.wgs]
 | n :: l, h => by
  have a := h n (List.mem_cons_self ..)
  have b := wgs_le l fun m hm => h m (List.mem_cons_of_mem _ hm)
  rw [Nd.wgs, List.length_cons]; omega
theorem dps_zero : ∀ l : List Nd, (∀ n ∈ l, n.dp = 0) → Nd.dps l = 0
 | [], _ => by simp [Nd.dps]
 | n :: l, h => by
  have a := h n (List.mem_cons_self ..)
  have b := dps_zero l fun m hm => h m (List.mem_cons_of_mem _ hm)
  rw [Nd.dps]; omega
mutual
def Nd.nms : Nd → List D
 | .layer nm _ _ _ _ _ _ _ _ _ _ => [nm]
 | .tone nm _ _ _ => [nm]
 | .group nm _ _ _ ns => nm :: Nd.nmss ns
def Nd.nmss : List Nd → List D
 | [] => []
 | n :: r => n.nms ++ Nd.nmss r
end
theorem nmss_app : ∀ a b : List Nd, Nd.nmss (a ++ b) = Nd.nmss a ++ Nd.nmss b
 | [], b => by simp [Nd.nmss]
 | n :: a, b => by rw [xca, Nd.nmss, Nd.nmss, nmss_app a b, List.append_assoc]
mutual
def Nd.thin : Nd → Prop
 | .layer .. => True
 | .tone .. => True
 | .group _ _ _ _ ns => ns.length ≤ 1000 ∧ Nd.thins ns
def Nd.thins : List Nd → Prop
 | [] => True
 | n :: r => n.thin ∧ Nd.thins r
end
theorem thins_iff : ∀ l : List Nd, Nd.thins l ↔ ∀ n ∈ l, n.thin
 | [] => by simp [Nd.thins]
 | n :: r => by simp [Nd.thins, thins_iff r]
def grpL (l : List Nd) (a c : Nat) (g : List Nd → Nd) : List Nd := l.take a ++ [g ((l.drop a).take (c - a))] ++ l.drop c
theorem split3 (l : List Nd) {a c : Nat} (h : a ≤ c) : l.take a ++ (l.drop a).take (c - a) ++ l.drop c = l := by
 have e : l.drop c = (l.drop a).drop (c - a) := by rw [List.drop_drop]; congr 1; omega
 rw [e, List.append_assoc, List.take_append_drop, List.take_append_drop]
theorem cut_spl {ds : List D} {a b : Nat} (ha : a ≤ ds.length) : cutD ds (some (a : Int)) (some (b : Int)) = (ds.drop a).take (min b ds.length - a) ∧ ∀ es : List D, splG ds (some (a : Int)) (some (b : Int)) es = ds.take a ++ es ++ ds.drop (max a (min b ds.length)) := by
 have h1 : HT.sIx ds.length 0 (some (a : Int)) = a := by rw [HT.sIx_nat]; omega
 have h2 : HT.sIx ds.length ds.length (some (b : Int)) = min b ds.length := HT.sIx_nat ..
 refine ⟨?_, fun es => ?_⟩
 ·unfold cutD; rw [h1, h2]
 ·unfold splG; rw [h1, h2]
theorem gbody_ok (ns : List Int) (hn : ns.length ≤ 63) (at' most k : Nat) (ha : at' < 2 ^ 18) (hk : k < 2) (hmost : most ≤ 6) (N : List D) (hN : most + 2 ≤ N.length) (m : Man) (l : List Nd) (hl : l.length ≤ 100) (a5 a8 a9 a10 a11 a12 : Option B) :
  ∃ (a c : Nat) (nm : D) (m' : Man) (s : Rat) (sh : Bool) (b8 b9 b10 b11 b12 : Option B), gbody [‹scr ns›, ‹.int at'›, ‹.int most›, ‹.list N›, ‹.str m.s›, a5, some (.own (Nd.ds l)), ‹.int k›, a8, a9, a10, a11, a12] = some (.nx [‹scr ns›, ‹.int at'›, ‹.int most›, ‹.list N›, ‹.str m.s›, a5, some (.own (Nd.ds (grpL l a c (Nd.group nm m' s sh)))), ‹.int k›, b8, b9, b10, b11, b12]) ∧ a ≤ c ∧ c ≤ l.length ∧ IsSh 4 s ∧ nm = N.getD (most + k) .none := by
 have m5 : mulE (.int 5) (.int k) = some (.int ((5 * k : Nat) : Int)) := mulE_nat (i := 5) (by decide) (by omega)
 have hds : (Nd.ds l).length = l.length := by rw [ds_map, List.length_map]
 obtain ⟨f, ef, lf⟩ := draw_at ns hn (e := (at' : Int) + 3 + ((5 * k : Nat) : Int)) (m' := (((Nd.ds l).length : Nat) : Int) + 1) (at' + 3 + 5 * k) (l.length + 1) (by omega) (by rw [hds]; omega) (by omega) (by omega)
 obtain ⟨d, ed, ld⟩ := draw_at ns hn (e := (at' : Int) + 4 + ((5 * k : Nat) : Int)) (m' := 3) (at' + 4 + 5 * k) 3 (by omega) rfl (by omega) (by decide)
 obtain ⟨s0, es0, hs0⟩ := share_at ns hn (e := (at' : Int) + 5 + ((5 * k : Nat) : Int)) (at' + 5 + 5 * k) (by omega) (by omega)
 obtain ⟨d6, e6, l6⟩ := draw_at ns hn (e := (at' : Int) + 6 + ((5 * k : Nat) : Int)) (m' := 2) (at' + 6 + 5 * k) 2 (by omega) rfl (by omega) (by decide)
 obtain ⟨d7, e7, l7⟩ := draw_at ns hn (e := (at' : Int) + 7 + ((5 * k : Nat) : Int)) (m' := 4) (at' + 7 + 5 * k) 4 (by omega) rfl (by omega) (by decide)
 obtain ⟨d14, e14, l14⟩ := draw_at ns hn (e := (at' : Int) + 14 + (k : Int)) (m' := 7) (at' + 14 + k) 7 (by omega) rfl (by omega) (by decide)
 obtain ⟨m', em'⟩ := man4g m d7 l7
 obtain ⟨s, est, hs⟩ : ∃ s : Rat, atI ([.tuple [.int 1, .int 1], fr s0] : List D) (d6 : Int) = some (fr s) ∧ IsSh 4 s := by
  rcases (show d6 = 0 ∨ d6 = 1 by omega) with rfl | rfl
  ·exact ⟨1, rfl, Bd.one.mono (by decide), Rat.le_refl⟩
  ·exact ⟨s0, rfl, hs0⟩
 obtain ⟨nm, enm, hnm⟩ : ∃ nm, atI N ((most : Int) + (k : Int)) = some nm ∧ nm = N.getD (most + k) .none := by
  unfold atI
  rw [ixN_of (by omega) (by omega), xbs]
  have h' : ((most : Int) + (k : Int)).toNat = most + k := by omega
  rw [h']
  exact ⟨N[most + k]'(by omega), List.getElem?_eq_getElem (by omega), by rw [List.getD_eq_getElem?_getD, List.getElem?_eq_getElem (by omega)]; rfl⟩
 refine ⟨f, max f (min (f + d) l.length), nm, m', s, decide (0 < d14), ?_⟩
 have s0 : gb0 [‹scr ns›, ‹.int at'›, ‹.int most›, ‹.list N›, ‹.str m.s›, a5, some (.own (Nd.ds l)), ‹.int k›, a8, a9, a10, a11, a12] = some (.nx [‹scr ns›, ‹.int at'›, ‹.int most›, ‹.list N›, ‹.str m.s›, a5, some (.own (Nd.ds l)), ‹.int k›, ‹.int f›, a9, a10, a11, a12]) := by
  wp_walk using evD, gb0, m5, ef
 have fd : (f : Int) + (d : Int) = ((f + d : Nat) : Int) := by omega
 have s1 : gb1 [‹scr ns›, ‹.int at'›, ‹.int most›, ‹.list N›, ‹.str m.s›, a5, some (.own (Nd.ds l)), ‹.int k›, ‹.int f›, a9, a10, a11, a12] = some (.nx [‹scr ns›, ‹.int at'›, ‹.int most›, ‹.list N›, ‹.str m.s›, a5, some (.own (Nd.ds l)), ‹.int k›, ‹.int f›, ‹.int ((f + d : Nat) : Int)›, a10, a11, a12]) := by
  wp_walk using evD, gb1, m5, ed, fd
 have s2 : gb2 [‹scr ns›, ‹.int at'›, ‹.int most›, ‹.list N›, ‹.str m.s›, a5, some (.own (Nd.ds l)), ‹.int k›, ‹.int f›, ‹.int ((f + d : Nat) : Int)›, a10, a11, a12] = some (.nx [‹scr ns›, ‹.int at'›, ‹.int most›, ‹.list N›, ‹.str m.s›, a5, some (.own (Nd.ds l)), ‹.int k›, ‹.int f›, ‹.int ((f + d : Nat) : Int)›, ‹fr s›, a11, a12]) := by
  wp_walk using evD, gb2, m5, es0, e6, est
 have s3 : gb3 [‹scr ns›, ‹.int at'›, ‹.int most›, ‹.list N›, ‹.str m.s›, a5, some (.own (Nd.ds l)), ‹.int k›, ‹.int f›, ‹.int ((f + d : Nat) : Int)›, ‹fr s›, a11, a12] = some (.nx [‹scr ns›, ‹.int at'›, ‹.int most›, ‹.list N›, ‹.str m.s›, a5, some (.own (Nd.ds l)), ‹.int k›, ‹.int f›, ‹.int ((f + d : Nat) : Int)›, ‹fr s›, ‹.str m'.s›, a12]) := by
  wp_walk using evD, gb3, m5, e7, em'
 have s4 : gb4 [‹scr ns›, ‹.int at'›, ‹.int most›, ‹.list N›, ‹.str m.s›, a5, some (.own (Nd.ds l)), ‹.int k›, ‹.int f›, ‹.int ((f + d : Nat) : Int)›, ‹fr s›, ‹.str m'.s›, a12] = some (.nx [‹scr ns›, ‹.int at'›, ‹.int most›, ‹.list N›, ‹.str m.s›, a5, some (.own (Nd.ds l)), ‹.int k›, ‹.int f›, ‹.int ((f + d : Nat) : Int)›, ‹fr s›, ‹.str m'.s›, ‹.tuple [.str "group", nm, .str m'.s, fr s, .bool (decide (0 < d14))]›]) := by
  wp_walk using evD, gb4, enm, e14, z_gt
 obtain ⟨q1, q2⟩ := cut_spl (ds := Nd.ds l) (a := f) (b := f + d) (by omega)
 have mid : ((Nd.ds l).drop f).take (min (f + d) (Nd.ds l).length - f) = Nd.ds ((l.drop f).take (max f (min (f + d) l.length) - f)) := by
  rw [hds, ds_map, ds_map, ← List.map_drop, ← List.map_take]
  congr 2; omega
 have s5 : gb5 [‹scr ns›, ‹.int at'›, ‹.int most›, ‹.list N›, ‹.str m.s›, a5, some (.own (Nd.ds l)), ‹.int k›, ‹.int f›, ‹.int ((f + d : Nat) : Int)›, ‹fr s›, ‹.str m'.s›, ‹.tuple [.str "group", nm, .str m'.s, fr s, .bool (decide (0 < d14))]›] = some (.nx [‹scr ns›, ‹.int at'›, ‹.int most›, ‹.list N›, ‹.str m.s›, a5, some (.own (Nd.ds (grpL l f (max f (min (f + d) l.length)) (Nd.group nm m' s (decide (0 < d14)))))), ‹.int k›, ‹.int f›, ‹.int ((f + d : Nat) : Int)›, ‹fr s›, ‹.str m'.s›, ‹.tuple [.str "group", nm, .str m'.s, fr s, .bool (decide (0 < d14))]›]) := by
  have x1 : dSlQ (qVar 6) (oSome (dVar 8)) (oSome (dVar 9)) [‹scr ns›, ‹.int at'›, ‹.int most›, ‹.list N›, ‹.str m.s›, a5, some (.own (Nd.ds l)), ‹.int k›, ‹.int f›, ‹.int ((f + d : Nat) : Int)›, ‹fr s›, ‹.str m'.s›, ‹.tuple [.str "group", nm, .str m'.s, fr s, .bool (decide (0 < d14))]›] = some (.list (Nd.ds ((l.drop f).take (max f (min (f + d) l.length) - f)))) := by
   rw [← mid, ← q1]; rfl
  have x2 : (aCons (dBin catE (dVar 12) (dTup (aCons (dTupN (qE (dSlQ (qVar 6) (oSome (dVar 8)) (oSome (dVar 9))))) aNil))) aNil) [‹scr ns›, ‹.int at'›, ‹.int most›, ‹.list N›, ‹.str m.s›, a5, some (.own (Nd.ds l)), ‹.int k›, ‹.int f›, ‹.int ((f + d : Nat) : Int)›, ‹fr s›, ‹.str m'.s›, ‹.tuple [.str "group", nm, .str m'.s, fr s, .bool (decide (0 < d14))]›] = some [Nd.d (Nd.group nm m' s (decide (0 < d14)) ((l.drop f).take (max f (min (f + d) l.length) - f)))] := by
   have cc : ∀ a b c d e g : D, catE (.tuple [a, b, c, d, e]) (.tuple [g]) = some (.tuple [a, b, c, d, e, g]) := fun _ _ _ _ _ _ => rfl
   simp only [aCons, aNil, dBin, dTup, dTupN, qE, x1, seqD, dVar, xbs, xms, xg0, xg1, xft, if_false, cc, Nd.d]
  have sz : (Nd.ds l).length + 1 ≤ 16777216 := by omega
  have fin : splG (Nd.ds l) (some (f : Int)) (some ((f + d : Nat) : Int)) [Nd.d (Nd.group nm m' s (decide (0 < d14)) ((l.drop f).take (max f (min (f + d) l.length) - f)))] = Nd.ds (grpL l f (max f (min (f + d) l.length)) (Nd.group nm m' s (decide (0 < d14)))) := by
   rw [q2, hds]
   unfold grpL
   rw [ds_map, ds_map, List.map_append, List.map_append, List.map_take, List.map_drop]
   rfl
  rw [← fin]
  unfold gb5 sSpl
  rw [x2, xbs]
  show (if (Nd.ds l).length + 1 ≤ 16777216 then some (Fl.nx _) else none) = _
  rw [if_pos sz]
  rfl
 refine ⟨‹.int f›, ‹.int ((f + d : Nat) : Int)›, ‹fr s›, ‹.str m'.s›, ‹.tuple [.str "group", nm, .str m'.s, fr s, .bool (decide (0 < d14))]›, ?_, by omega, by omega, hs, hnm⟩
 unfold gbody
 rw [seq_nx s0, seq_nx s1, seq_nx s2, seq_nx s3, seq_nx s4, s5]
structure NOk (N : List D) (i : Nat) (most : Nat) (l : List Nd) : Prop where
 ok : Nd.Oks l
 wg : Nd.wgs l ≤ 40 * most + 5 * i
 dp : Nd.dps l ≤ i
 len : l.length ≤ most + i
 th : Nd.thins l
 nr : Nd.nears l
 ix : ∃ is : List Nat, Nd.nmss l = is.map (fun j => N.getD j .none) ∧ is.Nodup ∧ ∀ j ∈ is, j < most + i
theorem NOk.grp {N : List D} {i most : Nat} {l : List Nd} (h : NOk N i most l) {a c : Nat} {nm : D} {m : Man} {s : Rat} {sh : Bool} (ac : a ≤ c) (hs : IsSh 4 s) (hnm : nm = N.getD (most + i) .none) (h100 : l.length ≤ 100) : NOk N (i + 1) most (grpL l a c (Nd.group nm m s sh)) := by
 have e := split3 l ac
 have w1 := congrArg Nd.wgs e
 have w2 := congrArg Nd.dps e
 rw [wgs_app, wgs_app] at w1
 rw [dps_app, dps_app] at w2
 have hw := h.wg
 have hd := h.dp
 refine ⟨?_, ?_, ?_, ?_, ?_, ?_, ?_⟩
 ·rw [oks_iff]
  have ok := (oks_iff l).mp h.ok
  intro n hn
  unfold grpL at hn
  rcases List.mem_append.mp hn with hn | hn
  ·rcases List.mem_append.mp hn with hn | hn
   ·exact ok n (List.mem_of_mem_take hn)
   ·rw [List.mem_singleton.mp hn]
    rw [Nd.Ok]
    exact ⟨sr_of hs, (oks_iff _).mpr fun n' hn' => ok n' (List.mem_of_mem_drop (List.mem_of_mem_take hn'))⟩
  ·exact ok n (List.mem_of_mem_drop hn)
 ·unfold grpL
  rw [wgs_app, wgs_app]
  simp only [Nd.wgs, Nd.wg]
  omega
 ·unfold grpL
  rw [dps_app, dps_app]
  simp only [Nd.dps, Nd.dp]
  omega
 ·unfold grpL
  rw [List.length_append, List.length_append, List.length_take, List.length_drop, List.length_singleton]
  have := h.len
  omega
 ·rw [thins_iff]
  have th := (thins_iff l).mp h.th
  intro n hn
  unfold grpL at hn
  rcases List.mem_append.mp hn with hn | hn
  ·rcases List.mem_append.mp hn with hn | hn
   ·exact th n (List.mem_of_mem_take hn)
   ·rw [List.mem_singleton.mp hn, Nd.thin]
    exact ⟨Nat.le_trans (List.length_take_le' ..) (by rw [List.length_drop]; omega), (thins_iff _).mpr fun n' hn' => th n' (List.mem_of_mem_drop (List.mem_of_mem_take hn'))⟩
  ·exact th n (List.mem_of_mem_drop hn)
 ·rw [nears_iff]
  have th := (nears_iff l).mp h.nr
  intro n hn
  unfold grpL at hn
  rcases List.mem_append.mp hn with hn | hn
  ·rcases List.mem_append.mp hn with hn | hn
   ·exact th n (List.mem_of_mem_take hn)
   ·rw [List.mem_singleton.mp hn, Nd.near]
    exact (nears_iff _).mpr fun n' hn' => th n' (List.mem_of_mem_drop (List.mem_of_mem_take hn'))
  ·exact th n (List.mem_of_mem_drop hn)
 ·obtain ⟨is, e1, e2, e3⟩ := h.ix
  have w3 := congrArg Nd.nmss e
  rw [nmss_app, nmss_app, e1] at w3
  obtain ⟨i12, i3, q1, q2, q3⟩ := List.map_eq_append_iff.mp w3.symm
  obtain ⟨i1, i2, p1, p2, p3⟩ := List.map_eq_append_iff.mp q2
  subst p1 q1
  refine ⟨i1 ++ ((most + i) :: i2) ++ i3, ?_, ?_, ?_⟩
  ·unfold grpL
   rw [nmss_app, nmss_app, ← q3, ← p2]
   simp only [Nd.nmss, Nd.nms, List.append_nil, List.map_append, xmc, p3, hnm]
  ·have pm : (i1 ++ ((most + i) :: i2) ++ i3).Perm ((most + i) :: (i1 ++ i2 ++ i3)) := by
    rw [List.append_assoc, xca, List.append_assoc i1 i2 i3]
    exact List.perm_middle
   rw [pm.nodup_iff, List.nodup_cons]
   exact ⟨fun z => by have := e3 _ z; omega, e2⟩
  ·intro j hj
   have : j = most + i ∨ j ∈ i1 ++ i2 ++ i3 := by
    simp only [List.mem_append, List.mem_cons] at hj ⊢
    rcases hj with (h | h | h) | h
    ·exact .inr (.inl (.inl h))
    ·exact .inl h
    ·exact .inr (.inl (.inr h))
    ·exact .inr (.inr h)
   rcases this with rfl | h
   ·omega
   ·have := e3 j h; omega
theorem nodes_ok (ns : List Int) (hn : ns.length ≤ 63) (at' most : Nat) (ha : at' < 2 ^ 18) (hmost : most ≤ 6) (N : List D) (hN : most + 2 ≤ N.length) : ∃ l : List Nd, F_l_nodes [scr ns, .int at', .int most, .list N] = some (.tuple (Nd.ds l)) ∧ NOk N 2 most l := by
 obtain ⟨d0, e0, l0⟩ := draw_at ns hn (e := (at' : Int)) (m' := 4) at' 4 rfl rfl (by omega) (by decide)
 obtain ⟨d1, e1, l1⟩ := draw_at ns hn (e := (at' : Int) + 1) (m' := (most : Int) + 1) (at' + 1) (most + 1) (by omega) (by omega) (by omega) (by omega)
 obtain ⟨d2, e2, l2⟩ := draw_at ns hn (e := (at' : Int) + 2) (m' := 3) (at' + 2) 3 (by omega) rfl (by omega) (by decide)
 obtain ⟨m, em⟩ := man4 d0 l0
 have P : ∀ j, j < d1 → ∃ n : Nd, dCall F_l_leaf (aCons (dVar 1) (aCons (dBin catE (dBin catE (dVar 4) (dC (.int 20))) (dBin mulE (dC (.int 170)) (dVar 0))) (aCons (dIx (qVar 3) (dVar 0)) (aCons (dVar 2) aNil)))) [‹.int (j : Nat)›, ‹scr ns›, ‹.str m.s›, ‹.list N›, ‹.int at'›] = some n.d ∧ n.Ok ∧ n.dp = 0 ∧ n.wg ≤ 40 ∧ n.nm = N.getD j .none ∧ n.near := fun j hj => by
  have m170 : mulE (.int 170) (.int j) = some (.int ((170 * j : Nat) : Int)) := mulE_nat (i := 170) (by decide) (by omega)
  have en : atI N (j : Int) = some (N[j]'(by omega)) := by
   unfold atI
   rw [ixN_of (by omega) (by omega), xbs, Int.toNat_natCast]
   exact List.getElem?_eq_getElem (by omega)
  obtain ⟨n, en', hn'⟩ := leaf_ok ns hn (at' + 20 + 170 * j) (by omega) (N[j]'(by omega)) m
  have ei : (at' : Int) + 20 + ((170 * j : Nat) : Int) = ((at' + 20 + 170 * j : Nat) : Int) := by omega
  refine ⟨n, ?_, hn'.1, hn'.2.1, hn'.2.2.1, by rw [hn'.2.2.2.1, List.getD_eq_getElem?_getD, List.getElem?_eq_getElem (by omega)]; rfl, hn'.2.2.2.2⟩
  wp_walk using evD, m170, en, ei, en'
 obtain ⟨f, hf⟩ := fn_of (x := Nd.tone .none .turn 0 true) P
 have g0 : gn0 [‹scr ns›, ‹.int at'›, ‹.int most›, ‹.list N›, none, none, none, none, none, none, none, none, none] = some (.nx [‹scr ns›, ‹.int at'›, ‹.int most›, ‹.list N›, ‹.str m.s›, none, none, none, none, none, none, none, none]) := by
  wp_walk using evD, gn0, e0, em
 have g1 : gn1 [‹scr ns›, ‹.int at'›, ‹.int most›, ‹.list N›, ‹.str m.s›, none, none, none, none, none, none, none, none] = some (.nx [‹scr ns›, ‹.int at'›, ‹.int most›, ‹.list N›, ‹.str m.s›, ‹.int d1›, none, none, none, none, none, none, none]) := by
  wp_walk using evD, gn1, e1
 have g2 : gn2 [‹scr ns›, ‹.int at'›, ‹.int most›, ‹.list N›, ‹.str m.s›, ‹.int d1›, none, none, none, none, none, none, none] = some (.nx [‹scr ns›, ‹.int at'›, ‹.int most›, ‹.list N›, ‹.str m.s›, ‹.int d1›, some (.own (Nd.ds ((List.range d1).map f))), none, none, none, none, none, none]) := by
  have c : nComp 1 [0, 4, 3, 1] (iRan1 (dVar 5)) (gSet 0) cTrue (dCall F_l_leaf (aCons (dVar 1) (aCons (dBin catE (dBin catE (dVar 4) (dC (.int 20))) (dBin mulE (dC (.int 170)) (dVar 0))) (aCons (dIx (qVar 3) (dVar 0)) (aCons (dVar 2) aNil))))) [‹scr ns›, ‹.int at'›, ‹.int most›, ‹.list N›, ‹.str m.s›, ‹.int d1›, none, none, none, none, none, none, none] = some ((List.range d1).map fun j => (f j).d) :=
   nComp1 (l := List.range d1) (h := fun j : Nat => PyData.int j) (r := [‹scr ns›, ‹.str m.s›, ‹.list N›, ‹.int at'›]) rfl (ran_nat (n := d1) rfl (by omega)) (by rw [List.length_range]; omega) fun j hj => (hf j (List.mem_range.mp hj)).1
  unfold gn2 sOwn
  rw [c, ds_map, List.map_map]
  rfl
 have start : NOk N 0 most ((List.range d1).map f) := by
  refine ⟨(oks_iff _).mpr fun n h => ?_, ?_, ?_, ?_, (thins_iff _).mpr fun n h => ?_, (nears_iff _).mpr fun n h => ?_, List.range d1, ?_, List.nodup_range, fun j hj => by have := List.mem_range.mp hj; omega⟩
  ·obtain ⟨j, hj, rfl⟩ := List.mem_map.mp h
   exact (hf j (List.mem_range.mp hj)).2.1
  ·have := wgs_le ((List.range d1).map f) fun n h => by
    obtain ⟨j, hj, rfl⟩ := List.mem_map.mp h
    exact (hf j (List.mem_range.mp hj)).2.2.2.1
   rw [List.length_map, List.length_range] at this
   omega
  ·rw [dps_zero _ fun n h => by
    obtain ⟨j, hj, rfl⟩ := List.mem_map.mp h
    exact (hf j (List.mem_range.mp hj)).2.2.1]
   exact Nat.le_refl _
  ·rw [List.length_map, List.length_range]; omega
  ·obtain ⟨j, hj, rfl⟩ := List.mem_map.mp h
   have := (hf j (List.mem_range.mp hj)).2.2.1
   cases q : f j with
   | group => rw [q, Nd.dp] at this; omega
   | layer => rw [Nd.thin]; trivial
   | tone => rw [Nd.thin]; trivial
  ·obtain ⟨j, hj, rfl⟩ := List.mem_map.mp h
   exact (hf j (List.mem_range.mp hj)).2.2.2.2.2
  ·have key : ∀ is : List Nat, (∀ j ∈ is, j < d1) → Nd.nmss (is.map f) = is.map fun j => N.getD j .none := by
    intro is
    induction is with
    | nil => intro _; simp [Nd.nmss]
    | cons j is ih =>
     intro hj
     have a := hf j (hj j (List.mem_cons_self ..))
     rw [xmc, Nd.nmss, ih fun i hi => hj i (List.mem_cons_of_mem _ hi), xmc, ← a.2.2.2.2.1]
     cases q : f j with
     | group => have := a.2.2.1; rw [q, Nd.dp] at this; omega
     | layer => simp [Nd.nms, Nd.nm]
     | tone => simp [Nd.nms, Nd.nm]
   exact key _ fun j hj => List.mem_range.mp hj
 obtain ⟨ρ', e3, l, b7, b8, b9, b10, b11, b12, hρ, hl⟩ := forD_pre (g := gSet 7) (f := gbody) (h := fun j : Nat => PyData.int j) (I := fun i ρ => ∃ (l : List Nd) (b7 b8 b9 b10 b11 b12 : Option B), ρ = [‹scr ns›, ‹.int at'›, ‹.int most›, ‹.list N›, ‹.str m.s›, ‹.int d1›, some (.own (Nd.ds l)), b7, b8, b9, b10, b11, b12] ∧ NOk N i most l) (List.range d2) 0 [‹scr ns›, ‹.int at'›, ‹.int most›, ‹.list N›, ‹.str m.s›, ‹.int d1›, some (.own (Nd.ds ((List.range d1).map f))), none, none, none, none, none, none] ⟨_, _, _, _, _, _, _, rfl, start⟩ (fun j a hj ρ hρ => by
  obtain ⟨l, b7, b8, b9, b10, b11, b12, rfl, hl⟩ := hρ
  obtain ⟨hj1, hj2⟩ := List.getElem?_eq_some_iff.mp hj
  rw [List.length_range] at hj1
  rw [List.getElem_range] at hj2
  subst hj2
  refine ⟨_, rfl, ?_⟩
  simp only [xw0, xw1]
  have hll := hl.len
  obtain ⟨a, c, nm, m', s, sh, c8, c9, c10, c11, c12, eb, ac, cl, hs, hnm⟩ := gbody_ok ns hn at' most j ha (by omega) hmost N hN m l (by omega) (‹.int d1›) b8 b9 b10 b11 b12
  exact ⟨_, eb, _, _, _, _, _, _, _, rfl, hl.grp ac hs (by rw [hnm, Nat.zero_add]) (by omega)⟩)
 subst hρ
 rw [List.length_range, Nat.zero_add] at hl
 refine ⟨l, ?_, hl.ok, by have := hl.wg; omega, by have := hl.dp; omega, by have := hl.len; omega, hl.th, hl.nr, by
  obtain ⟨is, q1, q2, q3⟩ := hl.ix
  exact ⟨is, q1, q2, fun j hj => by have := q3 j hj; omega⟩⟩
 have rn : iRan1 (dCall F_l_drawn (aCons (dVar 0) (aCons (dBin catE (dVar 1) (dC (.int 2))) (aCons (dC (.int 3)) aNil)))) [‹scr ns›, ‹.int at'›, ‹.int most›, ‹.list N›, ‹.str m.s›, ‹.int d1›, some (.own (Nd.ds ((List.range d1).map f))), none, none, none, none, none, none] = _ := ran_nat (n := d2) (by wp_walk using evD, e2) (by omega)
 have g3 : gn3 [‹scr ns›, ‹.int at'›, ‹.int most›, ‹.list N›, ‹.str m.s›, ‹.int d1›, some (.own (Nd.ds ((List.range d1).map f))), none, none, none, none, none, none] = some (.nx [‹scr ns›, ‹.int at'›, ‹.int most›, ‹.list N›, ‹.str m.s›, ‹.int d1›, some (.own (Nd.ds l)), b7, b8, b9, b10, b11, b12]) := by
  unfold gn3 sFor
  rw [rn]
  exact e3
 have g4 : gn4 [‹scr ns›, ‹.int at'›, ‹.int most›, ‹.list N›, ‹.str m.s›, ‹.int d1›, some (.own (Nd.ds l)), b7, b8, b9, b10, b11, b12] = some (.rt (.tuple (Nd.ds l))) := rfl
 refine run_rt (ρ := [‹scr ns›, ‹.int at'›, ‹.int most›, ‹.list N›, none, none, none, none, none, none, none, none, none]) rfl ?_
 rw [hG_nodes, seq_nx g0, seq_nx g1, seq_nx g2, seq_nx g3]
 exact g4
def picD (w h : Nat) (l : List Nd) : D := .tuple [.int w, .int h, .tuple (Nd.ds l)]
theorem picture_ok (ns : List Int) (hn : ns.length ≤ 63) (at' most : Nat) (ha : at' < 2 ^ 17) (hmost : most ≤ 6) (N : List D) (hN : most + 2 ≤ N.length) : ∃ (w h : Nat) (l : List Nd), F_l_picture [scr ns, .int at', .int most, .list N] = some (picD w h l) ∧ NOk N 2 most l ∧ (1 ≤ w ∧ w ≤ 3) ∧ (1 ≤ h ∧ h ≤ 3) := by
 obtain ⟨d0, e0, l0⟩ := draw_at ns hn (e := (at' : Int)) (m' := 3) at' 3 rfl rfl (by omega) (by decide)
 obtain ⟨d1, e1, l1⟩ := draw_at ns hn (e := (at' : Int) + 1) (m' := 3) (at' + 1) 3 (by omega) rfl (by omega) (by decide)
 obtain ⟨l, el, hl⟩ := nodes_ok ns hn (at' + 2) most (by omega) hmost N hN
 have e2 : (at' : Int) + 2 = ((at' + 2 : Nat) : Int) := by omega
 refine ⟨1 + d0, 1 + d1, l, ?_, hl, by omega, by omega⟩
 refine run_rt (ρ := [‹scr ns›, ‹.int at'›, ‹.int most›, ‹.list N›, none, none]) rfl ?_
 wp_walk using evD, G_l_picture, e0, e1, ad1, e2, el, picD
def flL (w h : Nat) (l : List Nd) : List Q4 := (plc w (w * h)).map fun p => Nd.sw p.1 p.2 l q0
structure Small6 (l : List Nd) : Prop where
 ok : Nd.Oks l
 wg : Nd.wgs l ≤ 800
 dp : Nd.dps l ≤ 3
theorem flat_at_ok {w h : Nat} {l : List Nd} (S : Small6 l) (x y : Int) : F_flat_at [picD w h l, .int x, .int y] = some (Nd.sw x y l q0).d := by
 have e := (shown_ok x y l 11 S.ok (by have := S.dp; omega) (by have := S.wg; omega)).1
 refine run_rt (ρ := [‹picD w h l›, ‹.int x›, ‹.int y›]) rfl ?_
 wp_walk using evD, G_flat_at, picD, e
theorem flat_ok {w h : Nat} {l : List Nd} (S : Small6 l) (w1 : 1 ≤ w) (w8 : w ≤ 8) (h8 : h ≤ 8) : F_flat [picD w h l] = some (shD w h (flL w h l)) := by
 have wh : w * h ≤ 64 := Nat.mul_le_mul w8 h8
 refine run_rt (ρ := [‹picD w h l›, none]) rfl ?_
 have c : nComp 2 [0] (iSeq (dCall F_places_of (aCons (dIx (qVar 0) (dC (.int 0))) (aCons (dIx (qVar 0) (dC (.int 1))) aNil)))) (gTupD 2 (gsCons (gSet 0) (gsCons (gSet 1) gsNil))) cTrue (dCall F_flat_at (aCons (dVar 2) (aCons (dVar 0) (aCons (dVar 1) aNil)))) [‹picD w h l›, none] = some ((flL w h l).map Q4.d) := by
  rw [nComp2 (l := plc w (w * h)) (h1 := fun p => .int p.1) (h2 := fun p => .int p.2) (f := fun p => (Nd.sw p.1 p.2 l q0).d) (r := [‹picD w h l›]) rfl ?_ (by rw [plc_len]; omega) ?_]
  ·unfold flL; rw [List.map_map]; rfl
  ·wp_walk using evD, picD, places_ok w1 w8 h8
  ·intro p _
   wp_walk using evD, flat_at_ok S
 have g0 : ∀ v : Option B, dIx (qVar 0) (dC (.int 0)) [‹picD w h l›, v] = some (.int w) := fun _ => rfl
 have g1 : ∀ v : Option B, dIx (qVar 0) (dC (.int 1)) [‹picD w h l›, v] = some (.int h) := fun _ => rfl
 simp only [G_flat, sSeq, sSetN, c, g0, g1, sRet, dTup, aCons, aNil, dTupN, qVar, xw0, xw1, xms, xbs, xg0, xg1]
 rfl
end Sh
namespace Sh
open PySem G L2
theorem nm_mem (n : Nd) : n.nm ∈ n.nms := by
 cases n <;> simp [Nd.nm, Nd.nms]
theorem nms_sub {n : Nd} {l : List Nd} (h : n ∈ l) {d : D} (hd : d ∈ n.nms) : d ∈ Nd.nmss l := by
 obtain ⟨a, b, rfl⟩ := List.append_of_mem h
 rw [nmss_app, Nd.nmss]
 simp [hd]
def NStr (d : D) : Prop := ∃ s : Str, d = .str s ∧ SOk s
def same (a b : D) : Bool := @decide (a = b) (Classical.propDecidable _)
theorem same_self (a : D) : same a a = true := @decide_eq_true _ (Classical.propDecidable _) rfl
theorem same_ne {a b : D} (h : a ≠ b) : same a b = false := @decide_eq_false _ (Classical.propDecidable _) h
theorem eq_nm {a b : D} (ha : NStr a) (hb : NStr b) : eqD a b = some (.bool (same a b)) := by
 obtain ⟨s, rfl, hs⟩ := ha
 obtain ⟨t, rfl, ht⟩ := hb
 refine eqD_str hs.ok ht.ok ?_
 by_cases e : s = t
 ·subst e; rw [same_self]; simp
 ·rw [same_ne (fun z => e (by cases z; rfl))]; simp [e]
theorem forD_at {g : D → Rho → Option Rho} {f : DS} {I : Rho → Prop} {d : D} : ∀ (X : List D) (i : Nat) (ρ : Rho), I ρ → (∀ j x, j < i → X[j]? = some x → ∀ ρ, I ρ → ∃ ρ1, g x ρ = some ρ1 ∧ ∃ ρ', f ρ1 = some (.nx ρ') ∧ I ρ') → (∀ x, X[i]? = some x → ∀ ρ, I ρ → ∃ ρ1, g x ρ = some ρ1 ∧ f ρ1 = some (.rt d)) → i < X.length → forD g f X ρ = some (.rt d)
 | [], i, ρ, _, _, _, h => absurd h (Nat.not_lt_zero i)
 | x :: X, 0, ρ, h0, _, H, _ => by
  obtain ⟨ρ1, e1, e2⟩ := H x rfl ρ h0
  simp only [forD, e1, xbs, e2]
 | x :: X, i + 1, ρ, h0, S, H, hl => by
  obtain ⟨ρ1, e1, ρ', e2, h2⟩ := S 0 x (by omega) rfl ρ h0
  have := forD_at X i ρ' h2 (fun j y hj hy => S (j + 1) y (by omega) (by simpa using hy)) (fun y hy => H y (by simpa using hy)) (by simpa using hl)
  simp only [forD, e1, xbs, e2, this]
theorem forD_all {g : D → Rho → Option Rho} {f : DS} {I : Rho → Prop} : ∀ (X : List D) (ρ : Rho), I ρ → (∀ x ∈ X, ∀ ρ, I ρ → ∃ ρ1, g x ρ = some ρ1 ∧ ∃ ρ', f ρ1 = some (.nx ρ') ∧ I ρ') → ∃ ρ', forD g f X ρ = some (.nx ρ') ∧ I ρ'
 | [], ρ, h, _ => ⟨ρ, rfl, h⟩
 | x :: X, ρ, h, H => by
  obtain ⟨ρ1, e1, ρ2, e2, h2⟩ := H x (List.mem_cons_self ..) ρ h
  obtain ⟨ρ', e3, h3⟩ := forD_all X ρ2 h2 fun y hy => H y (List.mem_cons_of_mem _ hy)
  exact ⟨ρ', by simp only [forD, e1, xbs, e2, e3], h3⟩
theorem name_of (n : Nd) : F_name_of [n.d] = some n.nm := by
 cases n <;> (rw [Nd.d]; rfl)
def nab : DS := (sIf (tB2 eqD (dCall F_name_of (aCons (dVar 3) aNil)) (dVar 1)) (sRet (dVar 2)) sNil)
theorem nab_ok {n : Nd} {nm : D} (h1 : NStr n.nm) (h2 : NStr nm) (a0 a2 : Option B) (k : D) : nab [a0, some (.val nm), some (.val k), some (.val n.d)] = if same n.nm nm = true then some (.rt k) else some (.nx [a0, some (.val nm), some (.val k), some (.val n.d)]) := by
 simp only [nab, sIf, tB2, dBin, dCall, aCons, aNil, dVar, name_of, eq_nm h1 h2, boolOf, sRet, sNil, xbs, xms, xg0, xg1]
theorem ds_get (l : List Nd) (j : Nat) : (Nd.ds l)[j]? = (l[j]?).map Nd.d := by rw [ds_map, List.getElem?_map]
theorem num_none {l : List Nd} {nm : D} (hs : ∀ n ∈ l, NStr n.nm) (hn : NStr nm) (h : ∀ n ∈ l, n.nm ≠ nm) : F_number_among [.tuple (Nd.ds l), nm] = some .none := by
 refine run_rt (ρ := [‹.tuple (Nd.ds l)›, some (.val nm), none, none]) rfl ?_
 obtain ⟨ρ', e, _⟩ := forD_pre (g := gTupD 2 (gsCons (gSet 2) (gsCons (gSet 3) gsNil))) (f := nab) (h := id) (I := fun _ ρ => ∃ a2 a3, ρ = [‹.tuple (Nd.ds l)›, some (.val nm), a2, a3]) (enumD (Nd.ds l)) 0 [‹.tuple (Nd.ds l)›, some (.val nm), none, none] ⟨none, none, rfl⟩ (fun j d hj ρ hρ => by
  obtain ⟨a2, a3, rfl⟩ := hρ
  rw [enum_get, ds_get] at hj
  cases q : l[j]? with
  | none => rw [q] at hj; cases hj
  | some n =>
   rw [q] at hj
   cases hj
   have hm := List.mem_of_getElem? q
   refine ⟨_, rfl, [‹.tuple (Nd.ds l)›, some (.val nm), ‹.int j›, some (.val n.d)], ?_, _, _, rfl⟩
   have := nab_ok (hs n hm) hn (‹.tuple (Nd.ds l)›) none (.int j)
   rw [same_ne (h n hm)] at this
   exact this)
 rw [List.map_id] at e
 have s0 : (sFor (iEnum (qE (dVar 0))) (gTupD 2 (gsCons (gSet 2) (gsCons (gSet 3) gsNil))) nab) [‹.tuple (Nd.ds l)›, some (.val nm), none, none] = some (.nx ρ') := e
 exact (seq_nx s0).trans rfl
theorem num_some {a b : List Nd} {n : Nd} (hs : ∀ n' ∈ a, NStr n'.nm) (hn : NStr n.nm) (h : ∀ n' ∈ a, n'.nm ≠ n.nm) : F_number_among [.tuple (Nd.ds (a ++ n :: b)), n.nm] = some (.int a.length) := by
 refine run_rt (ρ := [‹.tuple (Nd.ds (a ++ n :: b))›, some (.val n.nm), none, none]) rfl ?_
 have e := forD_at (g := gTupD 2 (gsCons (gSet 2) (gsCons (gSet 3) gsNil))) (f := nab) (d := .int a.length) (I := fun ρ => ∃ a2 a3, ρ = [‹.tuple (Nd.ds (a ++ n :: b))›, some (.val n.nm), a2, a3]) (enumD (Nd.ds (a ++ n :: b))) a.length [‹.tuple (Nd.ds (a ++ n :: b))›, some (.val n.nm), none, none] ⟨none, none, rfl⟩ (fun j x hj hx ρ hρ => by
  obtain ⟨a2, a3, rfl⟩ := hρ
  rw [enum_get, ds_get, List.getElem?_append_left hj, List.getElem?_eq_getElem hj] at hx
  cases hx
  have hm := List.getElem_mem hj
  refine ⟨_, rfl, [‹.tuple (Nd.ds (a ++ n :: b))›, some (.val n.nm), ‹.int j›, some (.val (a[j]).d)], ?_, _, _, rfl⟩
  have := nab_ok (hs _ hm) hn (‹.tuple (Nd.ds (a ++ n :: b))›) none (.int j)
  rw [same_ne (h _ hm)] at this
  exact this) (fun x hx ρ hρ => by
  obtain ⟨a2, a3, rfl⟩ := hρ
  rw [enum_get, ds_get, List.getElem?_append_right (Nat.le_refl _), Nat.sub_self] at hx
  cases hx
  refine ⟨_, rfl, ?_⟩
  have := nab_ok hn hn (‹.tuple (Nd.ds (a ++ n :: b))›) none (.int a.length)
  rw [same_self] at this
  exact this) (by rw [enum_len, ds_map, List.length_map, List.length_append]; simp)
 have s0 : (sFor (iEnum (qE (dVar 0))) (gTupD 2 (gsCons (gSet 2) (gsCons (gSet 3) gsNil))) nab) [‹.tuple (Nd.ds (a ++ n :: b))›, some (.val n.nm), none, none] = some (.rt (.int a.length)) := e
 exact seq_rt s0
theorem is_group_of (n : Nd) : F_is_group [n.d] = some (.bool (match n with | .group .. => true | _ => false)) := by
 have e_tg : eqD (.str "tone") (.str "group") = some (.bool false) := eqD_str (by decide +kernel) (by decide +kernel) (by decide +kernel)
 cases n with
 | layer nm m s sh lf tp mk w h l kb => rw [Nd.d]; exact run_rt (ρ := [‹.tuple [.str "layer", nm, .str m.s, fr s, .bool sh, .int lf, .int tp, mkD mk, shD w h l]›]) rfl (congrArg (Option.map Fl.rt) e_lg)
 | tone nm r s sh => rw [Nd.d]; exact run_rt (ρ := [‹.tuple [.str "tone", nm, .str r.s, fr s, .bool sh]›]) rfl (congrArg (Option.map Fl.rt) e_tg)
 | group nm m s sh ns => rw [Nd.d]; exact run_rt (ρ := [‹.tuple [.str "group", nm, .str m.s, fr s, .bool sh, .tuple (Nd.ds ns)]›]) rfl (congrArg (Option.map Fl.rt) e_gg)
theorem nb_t (ds : List D) : notB (.tuple ds) .none = some (.bool true) := rfl
theorem nb_i (i : Int) : notB (.int i) .none = some (.bool true) := rfl
theorem top_nm {l : List Nd} {nm : D} (h : nm ∉ Nd.nmss l) : ∀ n ∈ l, n.nm ≠ nm := fun n hn e => h (e ▸ nms_sub hn (nm_mem n))
theorem nm_str {l : List Nd} (h : ∀ d ∈ Nd.nmss l, NStr d) : ∀ n ∈ l, NStr n.nm := fun n hn => h _ (nms_sub hn (nm_mem n))
def twb (f : Nat) : DS := (sIf (tTru (dCall F_is_group (aCons (dVar 2) aNil))) (sSeq (sSet 3 (dCall (F_tuple_with f) (aCons (dCall F_inner_nodes (aCons (dVar 2) aNil)) (aCons (dVar 1) aNil)))) (sIf (tB2 notB (dVar 3) (dC .none)) (sRet (dVar 3)) sNil)) sNil)
theorem dps_mem {l : List Nd} {n : Nd} (h : n ∈ l) : n.dp ≤ Nd.dps l := by
 obtain ⟨a, b, rfl⟩ := List.append_of_mem h
 rw [dps_app, Nd.dps]; omega
theorem tw_none (nm : D) (hn : NStr nm) : ∀ (k : Nat) (l : List Nd) (f : Nat), Nd.dps l ≤ k → k + 1 ≤ f → (∀ d ∈ Nd.nmss l, NStr d) → nm ∉ Nd.nmss l → F_tuple_with f [.tuple (Nd.ds l), nm] = some .none := by
 intro k
 induction k with
 | zero =>
  intro l f hd hf hs hni
  obtain ⟨f, rfl⟩ : ∃ g, f = g + 1 := ⟨f - 1, by omega⟩
  have e0 := num_none (nm_str hs) hn (top_nm hni)
  obtain ⟨ρ', e, a2, a3, hρ⟩ := forD_all (g := gSet 2) (f := twb f) (I := fun ρ => ∃ a2 a3, ρ = [‹.tuple (Nd.ds l)›, some (.val nm), a2, a3]) (Nd.ds l) [‹.tuple (Nd.ds l)›, some (.val nm), none, none] ⟨none, none, rfl⟩ (fun x hx ρ hρ => by
   obtain ⟨a2, a3, rfl⟩ := hρ
   rw [ds_map] at hx
   obtain ⟨n, hm, rfl⟩ := List.mem_map.mp hx
   refine ⟨_, rfl, [‹.tuple (Nd.ds l)›, some (.val nm), some (.val n.d), a3], ?_, _, _, rfl⟩
   have := dps_mem hm
   cases n with
   | group _ _ _ _ _ => rw [Nd.dp] at this; omega
   | layer => wp_walk using evD, twb, is_group_of
   | tone => wp_walk using evD, twb, is_group_of)
  subst hρ
  refine run_rt (g := G_tuple_with (F_tuple_with f)) (ρ := [‹.tuple (Nd.ds l)›, some (.val nm), none, none]) rfl ?_
  unfold twb at e
  wp_walk using evD, G_tuple_with, sFor, e0, nb_nn, e
 | succ k ih =>
  intro l f hd hf hs hni
  obtain ⟨f, rfl⟩ : ∃ g, f = g + 1 := ⟨f - 1, by omega⟩
  have e0 := num_none (nm_str hs) hn (top_nm hni)
  obtain ⟨ρ', e, a2, a3, hρ⟩ := forD_all (g := gSet 2) (f := twb f) (I := fun ρ => ∃ a2 a3, ρ = [‹.tuple (Nd.ds l)›, some (.val nm), a2, a3]) (Nd.ds l) [‹.tuple (Nd.ds l)›, some (.val nm), none, none] ⟨none, none, rfl⟩ (fun x hx ρ hρ => by
   obtain ⟨a2, a3, rfl⟩ := hρ
   rw [ds_map] at hx
   obtain ⟨n, hm, rfl⟩ := List.mem_map.mp hx
   have hdp := dps_mem hm
   refine ⟨_, rfl, ?_⟩
   cases n with
   | group nm' m s sh ns =>
    rw [Nd.dp] at hdp
    have sub : ∀ d ∈ Nd.nmss ns, d ∈ Nd.nmss l := fun d hd => nms_sub hm (by rw [Nd.nms]; exact List.mem_cons_of_mem _ hd)
    have e1 := ih ns f (by omega) (by omega) (fun d hd => hs d (sub d hd)) (fun z => hni (sub _ z))
    refine ⟨[‹.tuple (Nd.ds l)›, some (.val nm), ‹Nd.d (.group nm' m s sh ns)›, some (.val .none)], ?_, _, _, rfl⟩
    wp_walk using evD, twb, is_group_of, g_inner, e1, nb_nn
   | layer => exact ⟨_, by wp_walk using evD, twb, is_group_of; rfl, _, _, rfl⟩
   | tone => exact ⟨_, by wp_walk using evD, twb, is_group_of; rfl, _, _, rfl⟩)
  subst hρ
  refine run_rt (g := G_tuple_with (F_tuple_with f)) (ρ := [‹.tuple (Nd.ds l)›, some (.val nm), none, none]) rfl ?_
  unfold twb at e
  wp_walk using evD, G_tuple_with, sFor, e0, nb_nn, e
inductive Stands (a : List Nd) (n : Nd) (b : List Nd) : List Nd → Prop
 | top : Stands a n b (a ++ n :: b)
 | deep {c e : List Nd} {nm : D} {m : Man} {s : Rat} {sh : Bool} {ns : List Nd} : Stands a n b ns → Stands a n b (c ++ .group nm m s sh ns :: e)
theorem Stands.nm {a : List Nd} {n : Nd} {b l : List Nd} (h : Stands a n b l) : ∀ d ∈ n.nms, d ∈ Nd.nmss l := by
 induction h with
 | top => intro d hd; rw [nmss_app, Nd.nmss]; simp [hd]
 | deep _ ih => intro d hd; rw [nmss_app, Nd.nmss, Nd.nms]; simp [ih d hd]
theorem tw_some {a b : List Nd} {n : Nd} (hn : NStr n.nm) {l : List Nd} (h : Stands a n b l) : ∀ f : Nat, Nd.dps l + 1 ≤ f → (∀ d ∈ Nd.nmss l, NStr d) → (Nd.nmss l).Nodup → F_tuple_with f [.tuple (Nd.ds l), n.nm] = some (.tuple (Nd.ds (a ++ n :: b))) := by
 induction h with
 | top =>
  intro f hf hs hd
  obtain ⟨f, rfl⟩ : ∃ g, f = g + 1 := ⟨f - 1, by omega⟩
  rw [nmss_app, Nd.nmss] at hd
  have e0 := num_some (a := a) (b := b) (n := n) (fun n' hn' => nm_str hs n' (List.mem_append_left _ hn')) hn (fun n' hn' e => by
   have d1 := (List.nodup_append.mp hd).2.2
   exact d1 n'.nm (nms_sub hn' (nm_mem n')) n.nm (List.mem_append_left _ (nm_mem n)) e)
  refine run_rt (g := G_tuple_with (F_tuple_with f)) (ρ := [‹.tuple (Nd.ds (a ++ n :: b))›, some (.val n.nm), none, none]) rfl ?_
  wp_walk using evD, G_tuple_with, e0, nb_i
 | @deep c e nm m s sh ns h ih =>
  intro f hf hs hd
  obtain ⟨f, rfl⟩ : ∃ g, f = g + 1 := ⟨f - 1, by omega⟩
  rw [dps_app, Nd.dps, Nd.dp] at hf
  have hin := h.nm n.nm (nm_mem n)
  rw [nmss_app, Nd.nmss, Nd.nms] at hd
  have dc := (List.nodup_append.mp hd)
  have dg := (List.nodup_append.mp dc.2.1)
  have dn := List.nodup_cons.mp dg.1
  have hc : n.nm ∉ Nd.nmss c := fun z => dc.2.2 n.nm z n.nm (by simp [hin]) rfl
  have hg : nm ≠ n.nm := fun z => dn.1 (z ▸ hin)
  have he : n.nm ∉ Nd.nmss e := fun z => dg.2.2 n.nm (by simp [hin]) n.nm z rfl
  have hsc : ∀ d ∈ Nd.nmss c, NStr d := fun d hd => hs d (by rw [nmss_app]; simp [hd])
  have hsn : ∀ d ∈ Nd.nmss ns, NStr d := fun d hd => hs d (by rw [nmss_app, Nd.nmss, Nd.nms]; simp [hd])
  have e0 := num_none (l := c ++ .group nm m s sh ns :: e) (nm_str hs) hn (fun n' hn' z => by
   rcases List.mem_append.mp hn' with q | q
   ·exact top_nm hc n' q z
   ·rcases List.mem_cons.mp q with rfl | q
    ·exact hg z
    ·exact top_nm he n' q z)
  have e1 := ih f (by omega) hsn dn.2
  have e2 := forD_at (g := gSet 2) (f := twb f) (d := .tuple (Nd.ds (a ++ n :: b))) (I := fun ρ => ∃ a2 a3, ρ = [‹.tuple (Nd.ds (c ++ .group nm m s sh ns :: e))›, some (.val n.nm), a2, a3]) (Nd.ds (c ++ .group nm m s sh ns :: e)) c.length [‹.tuple (Nd.ds (c ++ .group nm m s sh ns :: e))›, some (.val n.nm), none, none] ⟨none, none, rfl⟩ (fun j x hj hx ρ hρ => by
   obtain ⟨a2, a3, rfl⟩ := hρ
   rw [ds_get, List.getElem?_append_left hj, List.getElem?_eq_getElem hj] at hx
   cases hx
   have hm := List.getElem_mem hj
   have hdp := dps_mem hm
   refine ⟨_, rfl, ?_⟩
   cases q : c[j] with
   | group nm' m' s' sh' ns' =>
    rw [q] at hm hdp
    rw [Nd.dp] at hdp
    have sub : ∀ d ∈ Nd.nmss ns', d ∈ Nd.nmss c := fun d hd => nms_sub hm (by rw [Nd.nms]; exact List.mem_cons_of_mem _ hd)
    have e3 := tw_none n.nm hn (Nd.dps ns') ns' f (Nat.le_refl _) (by omega) (fun d hd => hsc d (sub d hd)) (fun z => hc (sub _ z))
    refine ⟨[‹.tuple (Nd.ds (c ++ .group nm m s sh ns :: e))›, some (.val n.nm), ‹Nd.d (.group nm' m' s' sh' ns')›, some (.val .none)], ?_, _, _, rfl⟩
    wp_walk using evD, twb, is_group_of, g_inner, e3, nb_nn
   | layer => exact ⟨_, by wp_walk using evD, twb, is_group_of; rfl, _, _, rfl⟩
   | tone => exact ⟨_, by wp_walk using evD, twb, is_group_of; rfl, _, _, rfl⟩) (fun x hx ρ hρ => by
   obtain ⟨a2, a3, rfl⟩ := hρ
   rw [ds_get, List.getElem?_append_right (Nat.le_refl _), Nat.sub_self] at hx
   cases hx
   refine ⟨_, rfl, ?_⟩
   wp_walk using evD, twb, is_group_of, g_inner, e1, nb_t) (by rw [ds_map, List.length_map, List.length_append]; simp)
  refine run_rt (g := G_tuple_with (F_tuple_with f)) (ρ := [‹.tuple (Nd.ds (c ++ .group nm m s sh ns :: e))›, some (.val n.nm), none, none]) rfl ?_
  unfold twb at e2
  wp_walk using evD, G_tuple_with, sFor, e0, nb_nn, e2
end Sh
namespace Sh
open PySem G L2
inductive Subst (a : List Nd) (n : Nd) (b : List Nd) (n' : Nd) : List Nd → List Nd → Prop
 | top : Subst a n b n' (a ++ n :: b) (a ++ n' :: b)
 | deep {c e : List Nd} {nm : D} {m : Man} {s : Rat} {sh : Bool} {ns ns' : List Nd} : Subst a n b n' ns ns' → Subst a n b n' (c ++ .group nm m s sh ns :: e) (c ++ .group nm m s sh ns' :: e)
theorem with_inner {nm : D} {m : Man} {s : Rat} {sh : Bool} {ns ns' : List Nd} : F_with_inner_nodes [Nd.d (.group nm m s sh ns), .tuple (Nd.ds ns')] = some (Nd.d (.group nm m s sh ns')) := by
 rw [Nd.d, Nd.d]
 rfl
theorem nwo_list {l l' : List Nd} {nm oth : D} {f : Nat} (hl : l.length ≤ 1000) (e0 : F_number_among [.tuple (Nd.ds l), nm] = some .none) (hz : l'.length = l.length) (H : ∀ (j : Nat) (hj : j < l.length), F_node_with_others f [(l[j]).d, nm, oth] = some ((l'[j]'(by omega)).d)) :
  F_nodes_with_others (f + 1) [.tuple (Nd.ds l), nm, oth] = some (.tuple (Nd.ds l')) := by
 refine run_rt (g := G_nodes_with_others (F_nwo f)) (ρ := [‹.tuple (Nd.ds l)›, some (.val nm), some (.val oth)]) rfl ?_
 have c : nComp 1 [1, 2] (iSeq (dVar 0)) (gSet 0) cTrue (dCall (F_nwo f 1) (aCons (dVar 0) (aCons (dVar 1) (aCons (dVar 2) aNil)))) [‹.tuple (Nd.ds l)›, some (.val nm), some (.val oth)] = some (Nd.ds l') := by
  have q : Nd.ds l = (List.range l.length).map fun j => ((l[j]?).map Nd.d).getD .none := by
   rw [ds_map]
   apply List.ext_getElem?
   intro j
   rw [List.getElem?_map, List.getElem?_map]
   by_cases hj : j < l.length
   ·simp [List.getElem?_range hj, List.getElem?_eq_getElem hj]
   ·rw [List.getElem?_eq_none (by omega), List.getElem?_eq_none (by rw [List.length_range]; omega)]; rfl
  have q' : Nd.ds l' = (List.range l.length).map fun j => ((l'[j]?).map Nd.d).getD .none := by
   rw [ds_map]
   apply List.ext_getElem?
   intro j
   rw [List.getElem?_map, List.getElem?_map]
   by_cases hj : j < l.length
   ·have hj' : j < l'.length := by omega
    simp [List.getElem?_range hj, List.getElem?_eq_getElem hj']
   ·rw [List.getElem?_eq_none (by omega), List.getElem?_eq_none (by rw [List.length_range]; omega)]; rfl
  rw [q']
  refine nComp1 (l := List.range l.length) (h := fun j => ((l[j]?).map Nd.d).getD .none) (r := [some (.val nm), some (.val oth)]) rfl (by rw [← q]; rfl) (by rw [List.length_range]; exact hl) fun j hj => ?_
  have hj := List.mem_range.mp hj
  have := H j hj
  rw [List.getElem?_eq_getElem hj, List.getElem?_eq_getElem (by omega)]
  exact this
 simp only [G_nodes_with_others, sSeq, sIf, sNil, tB2, dBin, dCall, aCons, aNil, dVar, dC, e0, nb_nn, boolOf, sRet, dTupN, qN, c, xbs, xms, xg0, xg1, xft, if_false]
theorem now_leaf {n : Nd} {nm oth : D} {f : Nat} (h : n.dp = 0) : F_node_with_others (f + 1) [n.d, nm, oth] = some n.d := by
 refine run_rt (g := G_node_with_others (F_nwo f)) (ρ := [some (.val n.d), some (.val nm), some (.val oth)]) rfl ?_
 cases n with
 | group => rw [Nd.dp] at h; omega
 | layer => wp_walk using evD, G_node_with_others, is_group_of
 | tone => wp_walk using evD, G_node_with_others, is_group_of
theorem now_group {nm' : D} {m : Man} {s : Rat} {sh : Bool} {ns ns' : List Nd} {nm oth : D} {f : Nat} (h : F_nodes_with_others f [.tuple (Nd.ds ns), nm, oth] = some (.tuple (Nd.ds ns'))) : F_node_with_others (f + 1) [Nd.d (.group nm' m s sh ns), nm, oth] = some (Nd.d (.group nm' m s sh ns')) := by
 refine run_rt (g := G_node_with_others (F_nwo f)) (ρ := [‹Nd.d (.group nm' m s sh ns)›, some (.val nm), some (.val oth)]) rfl ?_
 have h' : F_nwo f 0 [.tuple (Nd.ds ns), nm, oth] = some (.tuple (Nd.ds ns')) := h
 wp_walk using evD, G_node_with_others, is_group_of, g_inner, h', with_inner
theorem nwo_id (nm : D) (hn : NStr nm) (oth : D) : ∀ (k : Nat) (l : List Nd) (f : Nat), Nd.dps l ≤ k → 2 * k + 2 ≤ f → (∀ d ∈ Nd.nmss l, NStr d) → nm ∉ Nd.nmss l → l.length ≤ 1000 → Nd.thins l → F_nodes_with_others f [.tuple (Nd.ds l), nm, oth] = some (.tuple (Nd.ds l)) := by
 intro k
 induction k with
 | zero =>
  intro l f hd hf hs hni hl ht
  obtain ⟨f, rfl⟩ : ∃ g, f = g + 2 := ⟨f - 2, by omega⟩
  refine nwo_list hl (num_none (nm_str hs) hn (top_nm hni)) rfl fun j hj => ?_
  have := dps_mem (List.getElem_mem hj)
  exact now_leaf (by omega)
 | succ k ih =>
  intro l f hd hf hs hni hl ht
  obtain ⟨f, rfl⟩ : ∃ g, f = g + 2 := ⟨f - 2, by omega⟩
  refine nwo_list hl (num_none (nm_str hs) hn (top_nm hni)) rfl fun j hj => ?_
  have hm := List.getElem_mem hj
  have hdp := dps_mem hm
  have htn := (thins_iff l).mp ht _ hm
  generalize l[j] = n at hm hdp htn
  cases n with
  | group nm' m s sh ns =>
   rw [Nd.dp] at hdp
   rw [Nd.thin] at htn
   have sub : ∀ d ∈ Nd.nmss ns, d ∈ Nd.nmss l := fun d hd => nms_sub hm (by rw [Nd.nms]; exact List.mem_cons_of_mem _ hd)
   exact now_group (ih ns f (by omega) (by omega) (fun d hd => hs d (sub d hd)) (fun z => hni (sub _ z)) htn.1 htn.2)
  | layer => exact now_leaf rfl
  | tone => exact now_leaf rfl
theorem now_id (nm : D) (hn : NStr nm) (oth : D) (n : Nd) (f : Nat) (hf : 2 * n.dp + 1 ≤ f) (hs : ∀ d ∈ n.nms, NStr d) (hni : nm ∉ n.nms) (ht : n.thin) : F_node_with_others f [n.d, nm, oth] = some n.d := by
 obtain ⟨f, rfl⟩ : ∃ g, f = g + 1 := ⟨f - 1, by omega⟩
 cases n with
 | group nm' m s sh ns =>
  rw [Nd.dp] at hf
  rw [Nd.thin] at ht
  rw [Nd.nms] at hs hni
  exact now_group (nwo_id nm hn oth (Nd.dps ns) ns f (Nat.le_refl _) (by omega) (fun d hd => hs d (List.mem_cons_of_mem _ hd)) (fun z => hni (List.mem_cons_of_mem _ z)) ht.1 ht.2)
 | layer => exact now_leaf rfl
 | tone => exact now_leaf rfl
theorem nwo_some {a b : List Nd} {n n' : Nd} (hn : NStr n.nm) {l : List Nd} (h : Stands a n b l) : ∀ f : Nat, 2 * Nd.dps l + 2 ≤ f → (∀ d ∈ Nd.nmss l, NStr d) → (Nd.nmss l).Nodup → l.length ≤ 1000 → Nd.thins l → ∃ l', Subst a n b n' l l' ∧ F_nodes_with_others f [.tuple (Nd.ds l), n.nm, .tuple (Nd.ds (a ++ n' :: b))] = some (.tuple (Nd.ds l')) := by
 induction h with
 | top =>
  intro f hf hs hd hl ht
  obtain ⟨f, rfl⟩ : ∃ g, f = g + 1 := ⟨f - 1, by omega⟩
  rw [nmss_app, Nd.nmss] at hd
  have e0 := num_some (a := a) (b := b) (n := n) (fun n' hn' => nm_str hs n' (List.mem_append_left _ hn')) hn (fun n' hn' e => by
   have d1 := (List.nodup_append.mp hd).2.2
   exact d1 n'.nm (nms_sub hn' (nm_mem n')) n.nm (List.mem_append_left _ (nm_mem n)) e)
  refine ⟨_, .top, run_rt (g := G_nodes_with_others (F_nwo f)) (ρ := [‹.tuple (Nd.ds (a ++ n :: b))›, some (.val n.nm), ‹.tuple (Nd.ds (a ++ n' :: b))›]) rfl ?_⟩
  wp_walk using evD, G_nodes_with_others, e0, nb_i
 | @deep c e nm m s sh ns h ih =>
  intro f hf hs hd hl ht
  obtain ⟨f, rfl⟩ : ∃ g, f = g + 2 := ⟨f - 2, by omega⟩
  rw [dps_app, Nd.dps, Nd.dp] at hf
  have hin := h.nm n.nm (nm_mem n)
  rw [nmss_app, Nd.nmss, Nd.nms] at hd
  have dc := (List.nodup_append.mp hd)
  have dg := (List.nodup_append.mp dc.2.1)
  have dn := List.nodup_cons.mp dg.1
  have hc : n.nm ∉ Nd.nmss c := fun z => dc.2.2 n.nm z n.nm (by simp [hin]) rfl
  have hg : nm ≠ n.nm := fun z => dn.1 (z ▸ hin)
  have he : n.nm ∉ Nd.nmss e := fun z => dg.2.2 n.nm (by simp [hin]) n.nm z rfl
  have hsn : ∀ d ∈ Nd.nmss ns, NStr d := fun d hd => hs d (by rw [nmss_app, Nd.nmss, Nd.nms]; simp [hd])
  have hth := (thins_iff _).mp ht
  have hgt := hth (.group nm m s sh ns) (by simp)
  rw [Nd.thin] at hgt
  have e0 := num_none (l := c ++ .group nm m s sh ns :: e) (nm_str hs) hn (fun n' hn' z => by
   rcases List.mem_append.mp hn' with q | q
   ·exact top_nm hc n' q z
   ·rcases List.mem_cons.mp q with rfl | q
    ·exact hg z
    ·exact top_nm he n' q z)
  obtain ⟨ns', sb, e1⟩ := ih f (by omega) hsn dn.2 hgt.1 hgt.2
  refine ⟨_, .deep sb, nwo_list hl e0 (by simp) fun j hj => ?_⟩
  have idn : ∀ n0 ∈ c ++ e, F_node_with_others (f + 1) [n0.d, n.nm, .tuple (Nd.ds (a ++ n' :: b))] = some n0.d := fun n0 h0 => by
   have hm : n0 ∈ c ++ .group nm m s sh ns :: e := by
    rcases List.mem_append.mp h0 with q | q
    ·exact List.mem_append_left _ q
    ·exact List.mem_append_right _ (List.mem_cons_of_mem _ q)
   have hdp : n0.dp ≤ max (Nd.dps c) (Nd.dps e) := by
    rcases List.mem_append.mp h0 with q | q
    ·have := dps_mem q; omega
    ·have := dps_mem q; omega
   refine now_id n.nm hn _ n0 (f + 1) (by omega) (fun d hd => hs d (nms_sub hm hd)) (fun z => ?_) (hth n0 hm)
   rcases List.mem_append.mp h0 with q | q
   ·exact hc (nms_sub q z)
   ·exact he (nms_sub q z)
  rcases Nat.lt_trichotomy j c.length with q | q | q
  ·rw [List.getElem_append_left q, List.getElem_append_left q]
   exact idn _ (List.mem_append_left _ (List.getElem_mem q))
  ·subst q
   simp only [List.getElem_append_right (Nat.le_refl _), Nat.sub_self, List.getElem_cons_zero]
   exact now_group e1
  ·obtain ⟨i, rfl⟩ : ∃ i, j = c.length + (i + 1) := ⟨j - c.length - 1, by omega⟩
   have hi : i < e.length := by simp at hj; omega
   rw [List.getElem_append_right (by omega), List.getElem_append_right (by omega)]
   simp only [Nat.add_sub_cancel_left, List.getElem_cons_succ]
   exact idn _ (List.mem_append_right _ (List.getElem_mem hi))
theorem with_node_ok {w h : Nat} {a b l : List Nd} {n n' : Nd} (hn : NStr n.nm) (St : Stands a n b l) (hd : Nd.dps l ≤ 4) (hs : ∀ d ∈ Nd.nmss l, NStr d) (nd : (Nd.nmss l).Nodup) (hl : l.length ≤ 1000) (ht : Nd.thins l) (hz : (a ++ n :: b).length ≤ 1000)
  (nab : ∀ n' ∈ a, n'.nm ≠ n.nm) (sab : ∀ n' ∈ a, NStr n'.nm) : ∃ l', Subst a n b n' l l' ∧ F_with_node [picD w h l, n.nm, n'.d] = some (picD w h l') := by
 obtain ⟨l', sb, e2⟩ := nwo_some (n' := n') hn St 12 (by omega) hs nd hl ht
 refine ⟨l', sb, ?_⟩
 have e0 := tw_some hn St 12 (by omega) hs nd
 have e1 := num_some (b := b) sab hn nab
 have nbs : F_nodes_beside [picD w h l, n.nm] = some (.tuple (Nd.ds (a ++ n :: b))) := by
  refine run_rt (ρ := [‹picD w h l›, some (.val n.nm), none]) rfl ?_
  wp_walk using evD, G_nodes_beside, picD, e0, isB_tn
 have wnb : F_with_nodes_beside [picD w h l, n.nm, .tuple (Nd.ds (a ++ n' :: b))] = some (picD w h l') := by
  refine run_rt (ρ := [‹picD w h l›, some (.val n.nm), ‹.tuple (Nd.ds (a ++ n' :: b))›]) rfl ?_
  wp_walk using evD, G_with_nodes_beside, picD, e2
 have hlen : (Nd.ds (a ++ n :: b)).length = a.length + 1 + b.length := by rw [ds_map, List.length_map, List.length_append, List.length_cons]; omega
 rw [List.length_append, List.length_cons] at hz
 have c1 : cutD (Nd.ds (a ++ n :: b)) none (some (a.length : Int)) = Nd.ds a := by
  unfold cutD
  rw [HT.sIx_none, HT.sIx_nat, hlen, List.drop_zero, ds_map, ds_map, List.map_append]
  rw [show min a.length (a.length + 1 + b.length) - 0 = (a.map Nd.d).length by rw [List.length_map]; omega, List.take_left]
 have c2 : cutD (Nd.ds (a ++ n :: b)) (some ((a.length : Int) + 1)) none = Nd.ds b := by
  unfold cutD
  rw [show ((a.length : Int) + 1) = ((a.length + 1 : Nat) : Int) by omega, HT.sIx_none, HT.sIx_nat, hlen, ds_map, ds_map, show min (a.length + 1) (a.length + 1 + b.length) = a.length + 1 by omega, show a ++ n :: b = (a ++ [n]) ++ b by simp, List.map_append, List.drop_left' (by simp), List.take_of_length_le (by rw [List.length_map]; omega)]
 have k1 : catE (.tuple (Nd.ds a)) (.tuple [n'.d]) = some (.tuple (Nd.ds a ++ [n'.d])) := by
  have : (Nd.ds a).length = a.length := by rw [ds_map, List.length_map]
  exact cat_tup (by rw [this]; show a.length + 1 ≤ _; omega)
 have k2 : catE (.tuple (Nd.ds a ++ [n'.d])) (.tuple (Nd.ds b)) = some (.tuple (Nd.ds (a ++ n' :: b))) := by
  have h1 : (Nd.ds a).length = a.length := by rw [ds_map, List.length_map]
  have h2 : (Nd.ds b).length = b.length := by rw [ds_map, List.length_map]
  have := cat_tup (xs := Nd.ds a ++ [n'.d]) (ys := Nd.ds b) (by rw [List.length_append, h1, h2]; show a.length + 1 + b.length ≤ _; omega)
  have e : Nd.ds a ++ [n'.d] ++ Nd.ds b = Nd.ds (a ++ n' :: b) := by simp [ds_map]
  rw [e] at this
  exact this
 refine run_rt (ρ := [‹picD w h l›, some (.val n.nm), some (.val n'.d), none, none]) rfl ?_
 wp_walk using evD, G_with_node, nbs, e1, dSlA, c1, c2, k1, k2, wnb
end Sh
namespace Sh
open PySem G L2
theorem sw_app (x y : Int) : ∀ (a b : List Nd) (q : Q4), Nd.sw x y (a ++ b) q = Nd.sw x y b (Nd.sw x y a q)
 | [], b, q => by simp [Nd.sw]
 | n :: a, b, q => by rw [xca, Nd.sw, Nd.sw, sw_app x y a b]
structure StProps (a : List Nd) (n : Nd) (b l : List Nd) : Prop where
 ok : Nd.Oks l → n.Ok
 wg : n.wg ≤ Nd.wgs l
 dp : n.dp ≤ Nd.dps l
 nd : (Nd.nmss l).Nodup → (Nd.nmss (a ++ n :: b)).Nodup
 sub : ∀ d ∈ Nd.nmss (a ++ n :: b), d ∈ Nd.nmss l
 len : l.length ≤ 1000 → Nd.thins l → (a ++ n :: b).length ≤ 1000
theorem Stands.props {a b l : List Nd} {n : Nd} (h : Stands a n b l) : StProps a n b l := by
 induction h with
 | top =>
  refine ⟨fun o => (oks_iff _).mp o n (by simp), ?_, ?_, fun h => h, fun d h => h, fun h _ => h⟩
  ·rw [wgs_app, Nd.wgs]; omega
  ·rw [dps_app, Nd.dps]; omega
 | @deep c e nm m s sh ns h ih =>
  refine ⟨fun o => ?_, ?_, ?_, fun hd => ?_, fun d hd => ?_, fun hl ht => ?_⟩
  ·have og := (oks_iff _).mp o (.group nm m s sh ns) (by simp)
   rw [Nd.Ok] at og
   exact ih.ok og.2
  ·have := ih.wg
   rw [wgs_app, Nd.wgs, Nd.wg]; omega
  ·have := ih.dp
   rw [dps_app, Nd.dps, Nd.dp]; omega
  ·rw [nmss_app, Nd.nmss, Nd.nms] at hd
   exact ih.nd (List.nodup_cons.mp (List.nodup_append.mp (List.nodup_append.mp hd).2.1).1).2
  ·rw [nmss_app, Nd.nmss, Nd.nms]
   simp [ih.sub d hd]
  ·have tg := (thins_iff _).mp ht (.group nm m s sh ns) (by simp)
   rw [Nd.thin] at tg
   exact ih.len tg.1 tg.2
def alb (f : Nat) : DS := (sSeq (sApp 1 (dVar 2)) (sIf (tB2 eqD (dIx (qVar 2) (dC (.int 0))) (dC (.str "group"))) (sOwn 1 (nCat (qVar 1) (qE (dCall (F_l_all f) (aCons (dIx (qVar 2) (dC (.int 5))) aNil))))) sNil))
theorem e_tg : eqD (.str "tone") (.str "group") = some (.bool false) := eqD_str (by decide +kernel) (by decide +kernel) (by decide +kernel)
theorem alb_leaf {n : Nd} (f : Nat) (h : n.dp = 0) (a0 : Option B) (X : List D) (hX : X.length < 1000) : alb f [a0, some (.own X), some (.val n.d)] = some (.nx [a0, some (.own (X ++ [n.d])), some (.val n.d)]) := by
 have hx : X.length < 16777216 := by omega
 have s0 : (sApp 1 (dVar 2)) [a0, some (.own X), some (.val n.d)] = some (.nx [a0, some (.own (X ++ [n.d])), some (.val n.d)]) := by
  simp only [sApp, xg0, xg1, if_pos hx, dVar, xms, xw0, xw1]
 unfold alb
 rw [seq_nx s0]
 cases n with
 | group => rw [Nd.dp] at h; omega
 | layer => rw [Nd.d]; wp_walk using evD, at9_0, e_lg
 | tone => rw [Nd.d]; wp_walk using evD, at5_0, e_tg
theorem alb_group {nm : D} {m : Man} {s : Rat} {sh : Bool} {ns : List Nd} (f : Nat) (a0 : Option B) (X Y : List D) (hX : X.length < 1000) (hY : Y.length < 1000) (e : F_l_all f [.tuple (Nd.ds ns)] = some (.list Y)) : alb f [a0, some (.own X), ‹Nd.d (.group nm m s sh ns)›] = some (.nx [a0, some (.own (X ++ [Nd.d (.group nm m s sh ns)] ++ Y)), ‹Nd.d (.group nm m s sh ns)›]) := by
 have hx : X.length < 16777216 := by omega
 have s0 : (sApp 1 (dVar 2)) [a0, some (.own X), ‹Nd.d (.group nm m s sh ns)›] = some (.nx [a0, some (.own (X ++ [Nd.d (.group nm m s sh ns)])), ‹Nd.d (.group nm m s sh ns)›]) := by
  simp only [sApp, xg0, xg1, if_pos hx, dVar, xms, xw0, xw1]
 unfold alb
 rw [seq_nx s0]
 have hc : nCat (qVar 1) (qE (dCall (F_l_all f) (aCons (dIx (qVar 2) (dC (.int 5))) aNil))) [a0, some (.own (X ++ [Nd.d (.group nm m s sh ns)])), ‹Nd.d (.group nm m s sh ns)›] = some (X ++ [Nd.d (.group nm m s sh ns)] ++ Y) := by
  have q2 : qE (dCall (F_l_all f) (aCons (dIx (qVar 2) (dC (.int 5))) aNil)) [a0, some (.own (X ++ [Nd.d (.group nm m s sh ns)])), ‹Nd.d (.group nm m s sh ns)›] = some (false, Y) := by
   rw [show Nd.d (.group nm m s sh ns) = .tuple [.str "group", nm, .str m.s, fr s, .bool sh, .tuple (Nd.ds ns)] by rw [Nd.d]]
   wp_walk using evD, at6_5, e
  unfold nCat
  rw [q2]
  show (if false = false ∧ false = false ∧ (X ++ [Nd.d (.group nm m s sh ns)]).length + Y.length ≤ 16777216 then some (X ++ [Nd.d (.group nm m s sh ns)] ++ Y) else none) = _
  rw [if_pos ⟨rfl, rfl, by rw [List.length_append]; show X.length + 1 + Y.length ≤ _; omega⟩]
 have ht : tB2 eqD (dIx (qVar 2) (dC (.int 0))) (dC (.str "group")) [a0, some (.own (X ++ [Nd.d (.group nm m s sh ns)])), ‹Nd.d (.group nm m s sh ns)›] = some true := by
  rw [show Nd.d (.group nm m s sh ns) = .tuple [.str "group", nm, .str m.s, fr s, .bool sh, .tuple (Nd.ds ns)] by rw [Nd.d]]
  wp_walk using evD, at6_0, e_gg
 simp only [sIf, ht, xbs, if_true, sOwn, hc, xms, xw0, xw1]
theorem wg_pos (n : Nd) : 1 ≤ n.wg := by
 cases n <;> (rw [Nd.wg]; omega)
theorem all_ok : ∀ (k : Nat) (l : List Nd) (f : Nat), Nd.dps l ≤ k → k + 1 ≤ f → Nd.wgs l ≤ 900 → ∃ X : List D, F_l_all f [.tuple (Nd.ds l)] = some (.list X) ∧ X.length ≤ Nd.wgs l ∧ ∀ d ∈ X, ∃ a n b, d = Nd.d n ∧ Stands a n b l := by
 intro k
 induction k with
 | zero =>
  intro l f hd hf hw
  obtain ⟨f, rfl⟩ : ∃ g, f = g + 1 := ⟨f - 1, by omega⟩
  obtain ⟨ρ', e, X, a2, hρ, hX, hP⟩ := forD_pre (g := gSet 2) (f := alb f) (h := Nd.d) (I := fun i ρ => ∃ X a2, ρ = [‹.tuple (Nd.ds l)›, some (.own X), a2] ∧ X.length ≤ Nd.wgs (l.take i) ∧ ∀ d ∈ X, ∃ a n b, d = Nd.d n ∧ Stands a n b l) l 0 [‹.tuple (Nd.ds l)›, some (.own []), none] ⟨[], none, rfl, Nat.zero_le _, fun d h => absurd h (by simp)⟩ (fun j n hj ρ hρ => by
   obtain ⟨X, a2, rfl, hX, hP⟩ := hρ
   rw [Nat.zero_add] at hX ⊢
   obtain ⟨hjl, rfl⟩ := List.getElem?_eq_some_iff.mp hj
   have hsp : l = l.take j ++ l[j] :: l.drop (j + 1) := by rw [← List.drop_eq_getElem_cons hjl, List.take_append_drop]
   have ww : Nd.wgs (l.take (j + 1)) = Nd.wgs (l.take j) + (l[j]).wg := by rw [List.take_succ_eq_append_getElem hjl, wgs_app, Nd.wgs, Nd.wgs, Nat.add_zero]
   have wl : Nd.wgs (l.take j) ≤ Nd.wgs l := by
    have := congrArg Nd.wgs (List.take_append_drop j l)
    rw [wgs_app] at this; omega
   have hdp := dps_mem (List.getElem_mem hjl)
   have wp := wg_pos l[j]
   refine ⟨_, rfl, _, alb_leaf f (by omega) _ X (by omega), _, _, rfl, by rw [List.length_append, ww]; show X.length + 1 ≤ _; omega, fun d hd => ?_⟩
   rcases List.mem_append.mp hd with q | q
   ·exact hP d q
   ·rw [List.mem_singleton.mp q]
    exact ⟨l.take j, l[j], l.drop (j + 1), rfl, by
     have := Stands.top (a := l.take j) (n := l[j]) (b := l.drop (j + 1))
     rwa [← hsp] at this⟩)
  subst hρ
  rw [Nat.zero_add, List.take_of_length_le (Nat.le_refl _)] at hX
  refine ⟨X, ?_, hX, hP⟩
  rw [← ds_map] at e
  refine run_rt (g := G_l_all (F_l_all f)) (ρ := [‹.tuple (Nd.ds l)›, none, none]) rfl ?_
  have s0 : (sOwn 1 aNil) [‹.tuple (Nd.ds l)›, none, none] = some (.nx [‹.tuple (Nd.ds l)›, some (.own []), none]) := rfl
  have s1 : (sFor (iSeq (dVar 0)) (gSet 2) (alb f)) [‹.tuple (Nd.ds l)›, some (.own []), none] = some (.nx [‹.tuple (Nd.ds l)›, some (.own X), a2]) := e
  have s2 : (sFrz 1 (sRet (dVar 1))) [‹.tuple (Nd.ds l)›, some (.own X), a2] = some (.rt (.list X)) := rfl
  exact (seq_nx s0).trans ((seq_nx s1).trans s2)
 | succ k ih =>
  intro l f hd hf hw
  obtain ⟨f, rfl⟩ : ∃ g, f = g + 1 := ⟨f - 1, by omega⟩
  obtain ⟨ρ', e, X, a2, hρ, hX, hP⟩ := forD_pre (g := gSet 2) (f := alb f) (h := Nd.d) (I := fun i ρ => ∃ X a2, ρ = [‹.tuple (Nd.ds l)›, some (.own X), a2] ∧ X.length ≤ Nd.wgs (l.take i) ∧ ∀ d ∈ X, ∃ a n b, d = Nd.d n ∧ Stands a n b l) l 0 [‹.tuple (Nd.ds l)›, some (.own []), none] ⟨[], none, rfl, Nat.zero_le _, fun d h => absurd h (by simp)⟩ (fun j n hj ρ hρ => by
   obtain ⟨X, a2, rfl, hX, hP⟩ := hρ
   rw [Nat.zero_add] at hX ⊢
   obtain ⟨hjl, hn⟩ := List.getElem?_eq_some_iff.mp hj
   have hsp : l = l.take j ++ l[j] :: l.drop (j + 1) := by rw [← List.drop_eq_getElem_cons hjl, List.take_append_drop]
   have ww : Nd.wgs (l.take (j + 1)) = Nd.wgs (l.take j) + (l[j]).wg := by rw [List.take_succ_eq_append_getElem hjl, wgs_app, Nd.wgs, Nd.wgs, Nat.add_zero]
   have wt : Nd.wgs (l.take j) + (l[j]).wg ≤ Nd.wgs l := by
    have := congrArg Nd.wgs (List.take_append_drop (j + 1) l)
    rw [wgs_app] at this; omega
   have hdp := dps_mem (List.getElem_mem hjl)
   rw [hn] at hsp ww wt hdp
   have wp := wg_pos n
   have tp : Stands (l.take j) n (l.drop (j + 1)) l := by
    have := Stands.top (a := l.take j) (n := n) (b := l.drop (j + 1))
    rwa [← hsp] at this
   by_cases hg : n.dp = 0
   ·refine ⟨_, rfl, _, alb_leaf f hg _ X (by omega), _, _, rfl, by rw [List.length_append, ww]; show X.length + 1 ≤ _; omega, fun d hd => ?_⟩
    rcases List.mem_append.mp hd with q | q
    ·exact hP d q
    ·rw [List.mem_singleton.mp q]; exact ⟨_, n, _, rfl, tp⟩
   ·cases n with
    | layer => exact absurd rfl hg
    | tone => exact absurd rfl hg
    | group nm m s sh ns =>
     rw [Nd.dp] at hdp
     rw [Nd.wg] at ww wt
     obtain ⟨Y, eY, lY, hY⟩ := ih ns f (by omega) (by omega) (by omega)
     refine ⟨_, rfl, _, alb_group f _ X Y (by omega) (by omega) eY, _, _, rfl, by rw [List.length_append, List.length_append, ww]; show X.length + 1 + Y.length ≤ _; omega, fun d hd => ?_⟩
     rcases List.mem_append.mp hd with q | q
     ·rcases List.mem_append.mp q with q | q
      ·exact hP d q
      ·rw [List.mem_singleton.mp q]; exact ⟨_, _, _, rfl, tp⟩
     ·obtain ⟨a, n, b, rfl, st⟩ := hY d q
      refine ⟨a, n, b, rfl, ?_⟩
      have := Stands.deep (c := l.take j) (e := l.drop (j + 1)) (nm := nm) (m := m) (s := s) (sh := sh) st
      rwa [← hsp] at this)
  subst hρ
  rw [Nat.zero_add, List.take_of_length_le (Nat.le_refl _)] at hX
  refine ⟨X, ?_, hX, hP⟩
  rw [← ds_map] at e
  refine run_rt (g := G_l_all (F_l_all f)) (ρ := [‹.tuple (Nd.ds l)›, none, none]) rfl ?_
  have s0 : (sOwn 1 aNil) [‹.tuple (Nd.ds l)›, none, none] = some (.nx [‹.tuple (Nd.ds l)›, some (.own []), none]) := rfl
  have s1 : (sFor (iSeq (dVar 0)) (gSet 2) (alb f)) [‹.tuple (Nd.ds l)›, some (.own []), none] = some (.nx [‹.tuple (Nd.ds l)›, some (.own X), a2]) := e
  have s2 : (sFrz 1 (sRet (dVar 1))) [‹.tuple (Nd.ds l)›, some (.own X), a2] = some (.rt (.list X)) := rfl
  exact (seq_nx s0).trans ((seq_nx s1).trans s2)
theorem flL_congr {w h : Nat} {l l' : List Nd} (w1 : 1 ≤ w) (e : ∀ x y : Int, 0 ≤ x ∧ x < w ∧ 0 ≤ y ∧ y < h → Nd.sw x y l' q0 = Nd.sw x y l q0) : flL w h l' = flL w h l := by
 unfold flL
 exact List.map_congr_left fun p hp => e p.1 p.2 (plc_mem hp w1)
end Sh
namespace Sh
open PySem G L2
theorem strength_of (n : Nd) : ∃ s, F_strength_of [n.d] = some (fr s) ∧ (n.Ok → Sr 4 s) := by
 cases n with
 | layer nm m s sh lf tp mk w h l kb => exact ⟨s, by rw [Nd.d]; rfl, fun o => by rw [Nd.Ok] at o; exact o.1⟩
 | tone nm r s sh => exact ⟨s, by rw [Nd.d]; rfl, fun o => by rw [Nd.Ok] at o; exact o⟩
 | group nm m s sh ns => exact ⟨s, by rw [Nd.d]; rfl, fun o => by rw [Nd.Ok] at o; exact o.1⟩
def nmb (f : Nat) : DS := (sSeq (sApp 1 (dCall F_name_of (aCons (dVar 2) aNil))) (sIf (tTru (dCall F_is_group (aCons (dVar 2) aNil))) (sExt 1 (dCall (F_names_among f) (aCons (dCall F_inner_nodes (aCons (dVar 2) aNil)) aNil))) sNil))
theorem nmb_ok {n : Nd} (f : Nat) (a0 : Option B) (X : List D) (hX : X.length + n.nms.length ≤ 1000) (H : ∀ nm m s sh ns, n = .group nm m s sh ns → F_names_among f [.tuple (Nd.ds ns)] = some (.list (Nd.nmss ns))) : nmb f [a0, some (.own X), some (.val n.d)] = some (.nx [a0, some (.own (X ++ n.nms)), some (.val n.d)]) := by
 have hx : X.length < 16777216 := by omega
 have en := name_of n
 have eg := is_group_of n
 have s0 : (sApp 1 (dCall F_name_of (aCons (dVar 2) aNil))) [a0, some (.own X), some (.val n.d)] = some (.nx [a0, some (.own (X ++ [n.nm])), some (.val n.d)]) := by
  simp only [sApp, dCall, aCons, aNil, en, xg0, xg1, if_pos hx, dVar, xms, xbs, xw0, xw1]
 unfold nmb
 rw [seq_nx s0]
 cases n with
 | layer => wp_walk using evD, eg; rw [Nd.nm, Nd.nms]
 | tone => wp_walk using evD, eg; rw [Nd.nm, Nd.nms]
 | group nm m s sh ns =>
  have e1 : F_inner_nodes [Nd.d (.group nm m s sh ns)] = some (.tuple (Nd.ds ns)) := by rw [Nd.d]; rfl
  have e2 := H nm m s sh ns rfl
  rw [Nd.nms] at hX
  have e3 : (X ++ [nm]).length + (Nd.nmss ns).length ≤ 16777216 := by simp at hX ⊢; omega
  rw [Nd.nm]
  wp_walk using evD, sExt, eg, e1, e2, if_pos e3
  rw [Nd.nms, List.append_assoc]; rfl
theorem na_step {l : List Nd} {f : Nat} (hw : (Nd.nmss l).length ≤ 1000) (H : ∀ n ∈ l, ∀ nm m s sh ns, n = .group nm m s sh ns → F_names_among f [.tuple (Nd.ds ns)] = some (.list (Nd.nmss ns))) : F_names_among (f + 1) [.tuple (Nd.ds l)] = some (.list (Nd.nmss l)) := by
 obtain ⟨ρ', e, a2, hρ⟩ := forD_pre (g := gSet 2) (f := nmb f) (h := Nd.d) (I := fun i ρ => ∃ a2, ρ = [‹.tuple (Nd.ds l)›, some (.own (Nd.nmss (l.take i))), a2]) l 0 [‹.tuple (Nd.ds l)›, some (.own []), none] ⟨none, rfl⟩ (fun j n hj ρ hρ => by
  obtain ⟨a2, rfl⟩ := hρ
  rw [Nat.zero_add]
  obtain ⟨hjl, rfl⟩ := List.getElem?_eq_some_iff.mp hj
  have ww : Nd.nmss (l.take (j + 1)) = Nd.nmss (l.take j) ++ (l[j]).nms := by rw [List.take_succ_eq_append_getElem hjl, nmss_app, Nd.nmss, Nd.nmss, List.append_nil]
  have wl := congrArg (fun x => (Nd.nmss x).length) (List.take_append_drop (j + 1) l)
  simp only [nmss_app, ww, List.length_append] at wl
  exact ⟨_, rfl, _, nmb_ok f _ _ (by omega) (H _ (List.getElem_mem hjl)), _, by rw [ww]⟩)
 subst hρ
 rw [Nat.zero_add, List.take_of_length_le (Nat.le_refl _), ← ds_map] at e
 refine run_rt (g := G_names_among (F_names_among f)) (ρ := [‹.tuple (Nd.ds l)›, none, none]) rfl ?_
 have s0 : (sOwn 1 aNil) [‹.tuple (Nd.ds l)›, none, none] = some (.nx [‹.tuple (Nd.ds l)›, some (.own []), none]) := rfl
 have s1 : (sFor (iSeq (dVar 0)) (gSet 2) (nmb f)) [‹.tuple (Nd.ds l)›, some (.own []), none] = some (.nx [‹.tuple (Nd.ds l)›, some (.own (Nd.nmss l)), a2]) := e
 have s2 : (sFrz 1 (sRet (dVar 1))) [‹.tuple (Nd.ds l)›, some (.own (Nd.nmss l)), a2] = some (.rt (.list (Nd.nmss l))) := rfl
 exact (seq_nx s0).trans ((seq_nx s1).trans s2)
theorem nmss_in {n : Nd} {l : List Nd} (h : n ∈ l) : n.nms.length ≤ (Nd.nmss l).length := by
 obtain ⟨a, b, rfl⟩ := List.append_of_mem h
 rw [nmss_app, Nd.nmss, List.length_append, List.length_append]; omega
theorem names_among : ∀ (k : Nat) (l : List Nd) (f : Nat), Nd.dps l ≤ k → k + 1 ≤ f → (Nd.nmss l).length ≤ 1000 → F_names_among f [.tuple (Nd.ds l)] = some (.list (Nd.nmss l)) := by
 intro k
 induction k with
 | zero =>
  intro l f hd hf hw
  obtain ⟨f, rfl⟩ : ∃ g, f = g + 1 := ⟨f - 1, by omega⟩
  refine na_step hw fun n hn nm m s sh ns e => ?_
  have := dps_mem hn
  rw [e, Nd.dp] at this; omega
 | succ k ih =>
  intro l f hd hf hw
  obtain ⟨f, rfl⟩ : ∃ g, f = g + 1 := ⟨f - 1, by omega⟩
  refine na_step hw fun n hn nm m s sh ns e => ?_
  have h1 := dps_mem hn
  have h2 := nmss_in hn
  rw [e, Nd.dp] at h1
  rw [e, Nd.nms, List.length_cons] at h2
  exact ih ns f (by omega) (by omega) (by omega)
end Sh
namespace Sh
open PySem G L2
theorem cut_take (l : List Nd) (a : Nat) : cutD (Nd.ds l) none (some (a : Int)) = Nd.ds (l.take a) := by
 unfold cutD
 rw [HT.sIx_none, HT.sIx_nat, List.drop_zero, ds_map, ds_map, List.length_map, ← List.map_take, Nat.sub_zero]
 congr 1
 rcases Nat.le_total a l.length with h | h
 ·rw [Nat.min_eq_left h]
 ·rw [Nat.min_eq_right h, List.take_of_length_le (Nat.le_refl _), List.take_of_length_le h]
theorem cut_drop (l : List Nd) (a : Nat) : cutD (Nd.ds l) (some (a : Int)) none = Nd.ds (l.drop a) := by
 unfold cutD
 rw [HT.sIx_none, HT.sIx_nat, ds_map, ds_map, List.length_map]
 rcases Nat.le_total a l.length with h | h
 ·rw [Nat.min_eq_left h, ← List.map_drop, List.take_of_length_le (by rw [List.length_map, List.length_drop]; exact Nat.le_refl _)]
 ·rw [Nat.min_eq_right h, Nat.sub_self, List.take_zero, List.drop_of_length_le h]; rfl
theorem cat_ds (a b : List Nd) (h : a.length + b.length ≤ 1000) : catE (.tuple (Nd.ds a)) (.tuple (Nd.ds b)) = some (.tuple (Nd.ds (a ++ b))) := by
 have := cat_tup (xs := Nd.ds a) (ys := Nd.ds b) (by rw [ds_map, ds_map, List.length_map, List.length_map]; omega)
 have e : Nd.ds a ++ Nd.ds b = Nd.ds (a ++ b) := by simp [ds_map]
 rw [e] at this
 exact this
theorem sw_or {l : List Nd} (S : Small6 l) (x y : Int) : (Nd.sw x y l q0).or := (shown_ok x y l 11 S.ok (by have := S.dp; omega) (by have := S.wg; omega)).2.o
end Sh
namespace Sh
open PySem G L2
def mn (i j : Int) : Int := if j < i then j else i
def mx (i j : Int) : Int := if j > i then j else i
abbrev Bx := Option (Int × Int × Int × Int)
def bxD : Bx → D
 | none => .none
 | some (l, t, r, b) => .tuple [.int l, .int t, .int (r - l), .int (b - t)]
def btw (l t r b : Int) : Bx := if r ≤ l ∨ b ≤ t then none else some (l, t, r, b)
def jn : Bx → Bx → Bx
 | none, o => o
 | some a, none => some a
 | some (l, t, r, b), some (l', t', r', b') => btw (mn l l') (mn t t') (mx r r') (mx b b')
def Bx.wf : Bx → Prop
 | none => True
 | some (l, t, r, b) => l < r ∧ t < b
def Bx.has (B : Bx) (x y : Int) : Prop := match B with
 | none => False
 | some (l, t, r, b) => l ≤ x ∧ x < r ∧ t ≤ y ∧ y < b
def Bx.le (A B : Bx) : Prop := match A, B with
 | none, _ => True
 | some _, none => False
 | some (l, t, r, b), some (l', t', r', b') => l' ≤ l ∧ t' ≤ t ∧ r ≤ r' ∧ b ≤ b'
theorem mn_le (i j : Int) : mn i j ≤ i ∧ mn i j ≤ j := by unfold mn; split <;> omega
theorem mx_le (i j : Int) : i ≤ mx i j ∧ j ≤ mx i j := by unfold mx; split <;> omega
theorem mn_comm (i j : Int) : mn i j = mn j i := by unfold mn; split <;> split <;> omega
theorem mx_comm (i j : Int) : mx i j = mx j i := by unfold mx; split <;> split <;> omega
theorem mn_self (i : Int) : mn i i = i := by unfold mn; split <;> omega
theorem mx_self (i : Int) : mx i i = i := by unfold mx; split <;> omega
theorem mn_ge {i j k : Int} (h1 : k ≤ i) (h2 : k ≤ j) : k ≤ mn i j := by unfold mn; split <;> omega
theorem mx_ge {i j k : Int} (h1 : i ≤ k) (h2 : j ≤ k) : mx i j ≤ k := by unfold mx; split <;> omega
theorem btw_wf (l t r b : Int) : Bx.wf (btw l t r b) := by
 unfold btw
 split
 ·exact trivial
 ·show l < r ∧ t < b; omega
theorem jn_some {l t r b l' t' r' b' : Int} (h1 : l < r) (h2 : t < b) : jn (some (l, t, r, b)) (some (l', t', r', b')) = some (mn l l', mn t t', mx r r', mx b b') := by
 have a1 := mn_le l l'
 have a2 := mn_le t t'
 have a3 := mx_le r r'
 have a4 := mx_le b b'
 show btw _ _ _ _ = _
 unfold btw
 rw [if_neg (by omega)]
theorem jn_wf {A B : Bx} (ha : Bx.wf A) (hb : Bx.wf B) : Bx.wf (jn A B) := by
 cases A with
 | none => cases B <;> exact hb
 | some a =>
  cases B with
  | none => exact ha
  | some b => exact btw_wf ..
theorem le_refl (A : Bx) : Bx.le A A := by
 cases A with
 | none => exact trivial
 | some a => show _ ∧ _ ∧ _ ∧ _; omega
theorem le_left {A B : Bx} (ha : Bx.wf A) : Bx.le A (jn A B) := by
 cases A with
 | none => exact trivial
 | some a =>
  cases B with
  | none => exact le_refl _
  | some b =>
   obtain ⟨l, t, r, b1⟩ := a
   obtain ⟨l', t', r', b'⟩ := b
   rw [jn_some ha.1 ha.2]
   have a1 := mn_le l l'
   have a2 := mn_le t t'
   have a3 := mx_le r r'
   have a4 := mx_le b1 b'
   show _ ∧ _ ∧ _ ∧ _
   omega
theorem jn_comm (A B : Bx) : jn A B = jn B A := by
 cases A with
 | none => cases B <;> rfl
 | some a =>
  cases B with
  | none => rfl
  | some b => show btw _ _ _ _ = btw _ _ _ _; rw [mn_comm, mn_comm a.2.1, mx_comm, mx_comm a.2.2.2]
theorem le_right {A B : Bx} (hb : Bx.wf B) : Bx.le B (jn A B) := by rw [jn_comm]; exact le_left hb
theorem jn_self {A : Bx} (ha : Bx.wf A) : jn A A = A := by
 cases A with
 | none => rfl
 | some a =>
  obtain ⟨l, t, r, b⟩ := a
  rw [jn_some ha.1 ha.2, mn_self, mn_self, mx_self, mx_self]
theorem jn_least {A B C : Bx} (wa : Bx.wf A) (ha : Bx.le A C) (hb : Bx.le B C) : Bx.le (jn A B) C := by
 cases A with
 | none => exact hb
 | some a =>
  cases B with
  | none => exact ha
  | some b =>
   cases C with
   | none => exact ha.elim
   | some c =>
    obtain ⟨l, t, r, b1⟩ := a
    obtain ⟨l', t', r', b'⟩ := b
    obtain ⟨p, q, u, v⟩ := c
    rw [jn_some wa.1 wa.2]
    exact ⟨mn_ge ha.1 hb.1, mn_ge ha.2.1 hb.2.1, mx_ge ha.2.2.1 hb.2.2.1, mx_ge ha.2.2.2 hb.2.2.2⟩
theorem le_trans {A B C : Bx} (h1 : Bx.le A B) (h2 : Bx.le B C) : Bx.le A C := by
 cases A with
 | none => exact trivial
 | some a =>
  cases B with
  | none => exact h1.elim
  | some b =>
   cases C with
   | none => exact h2.elim
   | some c =>
    obtain ⟨a1, a2, a3, a4⟩ := h1
    obtain ⟨b1, b2, b3, b4⟩ := h2
    exact ⟨Int.le_trans b1 a1, Int.le_trans b2 a2, Int.le_trans a3 b3, Int.le_trans a4 b4⟩
theorem has_le {A B : Bx} {x y : Int} (h : Bx.le A B) (hx : Bx.has A x y) : Bx.has B x y := by
 cases A with
 | none => exact hx.elim
 | some a =>
  cases B with
  | none => exact h.elim
  | some b =>
   obtain ⟨a1, a2, a3, a4⟩ := h
   obtain ⟨b1, b2, b3, b4⟩ := hx
   exact ⟨Int.le_trans a1 b1, Int.lt_of_lt_of_le b2 a3, Int.le_trans a2 b3, Int.lt_of_lt_of_le b4 a4⟩
theorem one_le {B : Bx} {x y : Int} (h : Bx.has B x y) : Bx.le (some (x, y, x + 1, y + 1)) B := by
 cases B with
 | none => exact h.elim
 | some b => obtain ⟨b1, b2, b3, b4⟩ := h; exact ⟨b1, b3, by omega, by omega⟩
theorem btw_ok (l t r b : Int) : F_box_between [.int l, .int t, .int r, .int b] = some (bxD (btw l t r b)) := by
 refine run_rt (ρ := [‹.int l›, ‹.int t›, ‹.int r›, ‹.int b›]) rfl ?_
 unfold btw
 by_cases h1 : r ≤ l
 ·rw [if_pos (.inl h1)]
  wp_walk using evD, G_box_between, decide_eq_true h1, bxD
 ·by_cases h2 : b ≤ t
  ·rw [if_pos (.inr h2)]
   wp_walk using evD, G_box_between, decide_eq_false h1, decide_eq_true h2, bxD
  ·rw [if_neg (by omega)]
   wp_walk using evD, G_box_between, decide_eq_false h1, decide_eq_false h2, bxD
theorem jn_ok (A B : Bx) : F_joined_box [bxD A, bxD B] = some (bxD (jn A B)) := by
 refine run_rt (ρ := [‹bxD A›, ‹bxD B›, none, none]) rfl ?_
 have i0 : isB .none .none = some (.bool true) := rfl
 cases A with
 | none => wp_walk using evD, G_joined_box, bxD, i0; rfl
 | some a =>
  obtain ⟨l, t, r, b⟩ := a
  cases B with
  | none => wp_walk using evD, G_joined_box, bxD, i0, isB_tn; rfl
  | some c =>
   obtain ⟨l', t', r', b'⟩ := c
   have e1 : l + (r - l) = r := by omega
   have e2 : t + (b - t) = b := by omega
   have e3 : l' + (r' - l') = r' := by omega
   have e4 : t' + (b' - t') = b' := by omega
   have bo := btw_ok (mn l l') (mn t t') (mx r r') (mx b b')
   unfold mn mx at bo
   wp_walk using evD, G_joined_box, bxD, isB_tn, dMax2, dMin2, e1, e2, e3, e4, bo
   rfl
def jns : Bx → List Bx → Bx
 | A, [] => A
 | A, B :: r => jns (jn A B) r
theorem jns_ok (L : List Bx) : F_joined_boxes [.list (L.map bxD)] = some (bxD (jns none L)) := by
 have lp : ∀ (L : List Bx) (A : Bx) (a0 a2 : Option B), ∃ a2', forD (gSet 2) (sSet 1 (dCall F_joined_box (aCons (dVar 1) (aCons (dVar 2) aNil)))) (L.map bxD) [a0, ‹bxD A›, a2] = some (.nx [a0, ‹bxD (jns A L)›, a2']) := by
  intro L
  induction L with
  | nil => intro A a0 a2; exact ⟨a2, rfl⟩
  | cons X r ih =>
   intro A a0 a2
   obtain ⟨a2', e⟩ := ih (jn A X) a0 (‹bxD X›)
   refine ⟨a2', ?_⟩
   wp_walk using evD, xmc, forD, jn_ok
   exact e
 obtain ⟨a2', e⟩ := lp L none (‹.list (L.map bxD)›) none
 refine run_rt (ρ := [‹.list (L.map bxD)›, none, none]) rfl ?_
 have s1 : (sFor (iSeq (dVar 0)) (gSet 2) (sSet 1 (dCall F_joined_box (aCons (dVar 1) (aCons (dVar 2) aNil))))) [‹.list (L.map bxD)›, some (.val .none), none] = some (.nx [‹.list (L.map bxD)›, ‹bxD (jns none L)›, a2']) := e
 exact (seq_nx (ρ' := [‹.list (L.map bxD)›, some (.val .none), none]) rfl).trans ((seq_nx s1).trans rfl)
theorem jns_wf : ∀ (L : List Bx) (A : Bx), Bx.wf A → (∀ X ∈ L, Bx.wf X) → Bx.wf (jns A L)
 | [], A, ha, _ => ha
 | X :: r, A, ha, h => jns_wf r _ (jn_wf ha (h X (List.mem_cons_self ..))) fun Y hY => h Y (List.mem_cons_of_mem _ hY)
theorem jns_ge : ∀ (L : List Bx) (A : Bx), Bx.wf A → (∀ X ∈ L, Bx.wf X) → Bx.le A (jns A L) ∧ ∀ X ∈ L, Bx.le X (jns A L)
 | [], A, ha, _ => ⟨le_refl A, fun X h => by simp at h⟩
 | X :: r, A, ha, h => by
  have wx := h X (List.mem_cons_self ..)
  obtain ⟨i1, i2⟩ := jns_ge r (jn A X) (jn_wf ha wx) fun Y hY => h Y (List.mem_cons_of_mem _ hY)
  refine ⟨le_trans (le_left ha) i1, fun Y hY => ?_⟩
  rcases List.mem_cons.mp hY with rfl | hY
  ·exact le_trans (le_right wx) i1
  ·exact i2 Y hY
theorem jns_least : ∀ (L : List Bx) (A C : Bx), Bx.wf A → (∀ X ∈ L, Bx.wf X) → Bx.le A C → (∀ X ∈ L, Bx.le X C) → Bx.le (jns A L) C
 | [], A, C, _, _, h, _ => h
 | X :: r, A, C, wa, wl, h, hl => jns_least r (jn A X) C (jn_wf wa (wl X (List.mem_cons_self ..))) (fun Y hY => wl Y (List.mem_cons_of_mem _ hY)) (jn_least wa h (hl X (List.mem_cons_self ..))) fun Y hY => hl Y (List.mem_cons_of_mem _ hY)
theorem within_ok {A B : Bx} (h : Bx.le A B) : F_l_lies_within [bxD A, bxD B] = some (.bool true) := by
 refine run_rt (ρ := [‹bxD A›, ‹bxD B›]) rfl ?_
 have i0 : isB .none .none = some (.bool true) := rfl
 cases A with
 | none => wp_walk using evD, G_l_lies_within, bxD, i0
 | some a =>
  cases B with
  | none => exact h.elim
  | some c =>
   obtain ⟨l, t, r, b⟩ := a
   obtain ⟨l', t', r', b'⟩ := c
   obtain ⟨h1, h2, h3, h4⟩ := h
   have e1 : l + (r - l) = r := by omega
   have e2 : t + (b - t) = b := by omega
   have e3 : l' + (r' - l') = r' := by omega
   have e4 : t' + (b' - t') = b' := by omega
   have n1 : ¬ l < l' := by omega
   have n2 : ¬ t < t' := by omega
   wp_walk using evD, G_l_lies_within, bxD, isB_tn, e1, e2, e3, e4, decide_eq_false n1, decide_eq_false n2, decide_eq_true h3, decide_eq_true h4
def Nd.isT : Nd → Bool
 | .tone .. => true
 | _ => false
mutual
def Nd.bx (w h : Int) : Nd → Bx
 | .layer _ _ _ sh lf tp _ w' h' _ _ => if sh = true then btw (mx lf 0) (mx tp 0) (mn (lf + w') w) (mn (tp + h') h) else none
 | .tone _ _ _ sh => if sh = true then some (0, 0, w, h) else none
 | .group _ _ _ sh ns => if sh = true then jns none (Nd.bxs w h ns) else none
def Nd.bxs (w h : Int) : List Nd → List Bx
 | [] => []
 | n :: r => if n.isT = true then Nd.bxs w h r else n.bx w h :: Nd.bxs w h r
end
theorem bxs_map (w h : Int) : ∀ l : List Nd, Nd.bxs w h l = (l.filter fun n => !n.isT).map (Nd.bx w h)
 | [] => by rw [Nd.bxs]; rfl
 | n :: r => by
  rw [Nd.bxs, bxs_map w h r]
  cases q : n.isT
  ·rw [List.filter_cons_of_pos (by rw [q]; rfl)]; rfl
  ·rw [List.filter_cons_of_neg (by rw [q]; simp)]; rfl
mutual
theorem bx_wf (w h : Int) (hw : 0 < w) (hh : 0 < h) : ∀ n : Nd, Bx.wf (n.bx w h)
 | .layer nm m s sh lf tp mk w' h' l kb => by
  rw [Nd.bx]
  split
  ·exact btw_wf ..
  ·exact trivial
 | .tone nm r s sh => by
  rw [Nd.bx]
  split
  ·exact ⟨hw, hh⟩
  ·exact trivial
 | .group nm m s sh ns => by
  rw [Nd.bx]
  split
  ·exact jns_wf _ _ trivial (bxs_wf w h hw hh ns)
  ·exact trivial
theorem bxs_wf (w h : Int) (hw : 0 < w) (hh : 0 < h) : ∀ l : List Nd, ∀ X ∈ Nd.bxs w h l, Bx.wf X
 | [], X, hX => by rw [Nd.bxs] at hX; simp at hX
 | n :: r, X, hX => by
  rw [Nd.bxs] at hX
  split at hX
  ·exact bxs_wf w h hw hh r X hX
  ·rcases List.mem_cons.mp hX with rfl | hX
   ·exact bx_wf w h hw hh n
   ·exact bxs_wf w h hw hh r X hX
end
mutual
theorem bx_le (w h : Int) (hw : 0 < w) (hh : 0 < h) : ∀ n : Nd, Bx.le (n.bx w h) (some (0, 0, w, h))
 | .layer nm m s sh lf tp mk w' h' l kb => by
  rw [Nd.bx]
  split
  ·unfold btw
   split
   ·exact trivial
   ·exact ⟨(mx_le _ _).2, (mx_le _ _).2, (mn_le _ _).2, (mn_le _ _).2⟩
  ·exact trivial
 | .tone nm r s sh => by
  rw [Nd.bx]
  split
  ·exact le_refl _
  ·exact trivial
 | .group nm m s sh ns => by
  rw [Nd.bx]
  split
  ·exact jns_least _ _ _ trivial (bxs_wf w h hw hh ns) trivial (bxs_le w h hw hh ns)
  ·exact trivial
theorem bxs_le (w h : Int) (hw : 0 < w) (hh : 0 < h) : ∀ l : List Nd, ∀ X ∈ Nd.bxs w h l, Bx.le X (some (0, 0, w, h))
 | [], X, hX => by rw [Nd.bxs] at hX; simp at hX
 | n :: r, X, hX => by
  rw [Nd.bxs] at hX
  split at hX
  ·exact bxs_le w h hw hh r X hX
  ·rcases List.mem_cons.mp hX with rfl | hX
   ·exact bx_le w h hw hh n
   ·exact bxs_le w h hw hh r X hX
end
theorem is_tone_of (n : Nd) : F_is_tone [n.d] = some (.bool n.isT) := by
 cases n with
 | layer => exact l_tone
 | tone => exact t_tone
 | group => exact g_tone
theorem box_ok (w h : Nat) (l0 : List Nd) : ∀ (k : Nat) (n : Nd) (f : Nat), n.dp ≤ k → k + 1 ≤ f → n.thin → F_box_of f [picD w h l0, n.d] = some (bxD (n.bx w h)) := by
 have leaf : ∀ (n : Nd) (f : Nat), n.dp = 0 → F_box_of (f + 1) [picD w h l0, n.d] = some (bxD (n.bx w h)) := fun n f hd => by
  refine run_rt (g := G_box_of (F_box_of f)) (ρ := [‹picD w h l0›, some (.val n.d)]) rfl ?_
  cases n with
  | group => rw [Nd.dp] at hd; omega
  | tone nm r s sh =>
   have wb : F_whole_box [picD w h l0] = some (.tuple [.int 0, .int 0, .int w, .int h]) := rfl
   rw [Nd.bx]
   cases sh with
   | false => wp_walk using evD, G_box_of, t_shown; rfl
   | true =>
    wp_walk using evD, G_box_of, t_shown, t_tone, wb
    show _ = some (Fl.rt (.tuple [.int 0, .int 0, .int ((w : Int) - 0), .int ((h : Int) - 0)]))
    rw [Int.sub_zero, Int.sub_zero]
  | layer nm m s sh lf tp mk w' h' l kb =>
   rw [Nd.bx]
   cases sh with
   | false => wp_walk using evD, G_box_of, l_shown; rfl
   | true =>
    have bl : F_box_of_layer [picD w h l0, Nd.d (.layer nm m s true lf tp mk w' h' l kb)] = some (bxD (btw (mx lf 0) (mx tp 0) (mn (lf + w') w) (mn (tp + h') h))) := by
     refine run_rt (ρ := [‹picD w h l0›, ‹Nd.d (.layer nm m s true lf tp mk w' h' l kb)›, none, none, none, none, none]) rfl ?_
     have bo := btw_ok (mx lf 0) (mx tp 0) (mn (lf + w') w) (mn (tp + h') h)
     unfold mx mn at bo
     wp_walk using evD, G_box_of_layer, st_box_of_layer_0, st_box_of_layer_1, st_box_of_layer_2, st_box_of_layer_3, st_box_of_layer_4, st_box_of_layer_5, l_left, l_top, l_sheet, shD, picD, dMin2, dMax2, bo
     rfl
    have ig := is_group_of (.layer nm m s true lf tp mk w' h' l kb)
    wp_walk using evD, G_box_of, l_shown, l_tone, ig, bl, if_pos
 intro k
 induction k with
 | zero =>
  intro n f hd hf _
  obtain ⟨f, rfl⟩ : ∃ g, f = g + 1 := ⟨f - 1, by omega⟩
  exact leaf n f (by omega)
 | succ k ih =>
  intro n f hd hf ht
  obtain ⟨f, rfl⟩ : ∃ g, f = g + 1 := ⟨f - 1, by omega⟩
  by_cases hz : n.dp = 0
  ·exact leaf n f hz
  cases n with
  | layer => exact absurd rfl hz
  | tone => exact absurd rfl hz
  | group nm m s sh ns =>
   refine run_rt (g := G_box_of (F_box_of f)) (ρ := [‹picD w h l0›, ‹Nd.d (.group nm m s sh ns)›]) rfl ?_
   rw [Nd.bx]
   rw [Nd.thin] at ht
   rw [Nd.dp] at hd
   have th := (thins_iff ns).mp ht.2
   cases sh with
   | false => wp_walk using evD, G_box_of, g_shown; rfl
   | true =>
    have ig := is_group_of (.group nm m s true ns)
    have c : nComp 1 [0] (iSeq (dCall F_inner_nodes (aCons (dVar 1) aNil))) (gSet 0) (tNot2 (tTru (dCall F_is_tone (aCons (dVar 0) aNil)))) (dCall (F_box_of f) (aCons (dVar 1) (aCons (dVar 0) aNil))) [‹picD w h l0›, ‹Nd.d (.group nm m s true ns)›] = some ((Nd.bxs w h ns).map bxD) := by
     rw [nComp1f (l := ns) (h := Nd.d) (f := fun n => bxD (n.bx w h)) (p := fun n => !n.isT) (r := [‹picD w h l0›]) rfl ?_ ht.1 ?_ ?_]
     ·rw [bxs_map, List.map_map]; rfl
     ·rw [← ds_map]; wp_walk using evD, g_inner
     ·intro n hn
      wp_walk using evD, is_tone_of
     ·intro n hn
      wp_walk using evD, ih n f (by have := dps_mem hn; omega) (by omega) (th n hn)
    wp_walk using evD, G_box_of, g_shown, g_tone, ig, c, jns_ok, if_pos
theorem q0_wt (s : Rat) : q0.wt s = q0 := by
 unfold Q4.wt q0
 simp only [Rat.zero_mul]
theorem q0_tn (r : Rul) (s : Rat) : r.tn s q0 = q0 := by
 have k : r.mix s 0 0 0 0 = 0 := by
  unfold Rul.mix
  cases r <;> simp only [Rul.new] <;> grind
 unfold Rul.tn q0
 simp only [k]
theorem q0_bl (m : Man) {q : Q4} (o : q.or) : m.bl q0 q = q := by
 obtain ⟨x0, y0, z0, xc, yc, zc, c1⟩ := o
 have cov : ∀ {d : Rat}, 0 ≤ d → d ≤ 1 → m.cov 0 d = d := fun {d} _ _ => by cases m <;> simp only [Man.cov, cap1] <;> grind
 have col : ∀ {d y : Rat}, 0 ≤ y → y ≤ 1 → m.col 0 d 0 y = y := fun {d y} _ _ => by cases m <;> simp only [Man.col, cap1] <;> grind
 unfold Man.bl q0
 simp only
 rw [cov (Rat.le_trans x0 xc) c1, col x0 (Rat.le_trans xc c1), col y0 (Rat.le_trans yc c1), col z0 (Rat.le_trans zc c1)]
theorem q0_or : q0.or := (Dq.zero 0).o
mutual
theorem out_ab {w h x y : Int} (hw : 0 < w) (hh : 0 < h) (bb : 0 ≤ x ∧ x < w ∧ 0 ≤ y ∧ y < h) : ∀ (n : Nd) (q : Q4), q.or → ¬ Bx.has (n.bx w h) x y → Nd.ab x y n q = q
 | .layer nm m s sh lf tp mk w' h' l kb, q, o, ho => by
  rw [Nd.ab]
  split
  ·rename_i e
   rw [Nd.bx, if_pos e] at ho
   have out : ¬ (0 ≤ x - lf ∧ x - lf < w' ∧ 0 ≤ y - tp ∧ y - tp < h') := fun c => ho (by
    unfold btw
    have a1 : mx lf 0 ≤ x := mx_ge (by omega) bb.1
    have a2 : mx tp 0 ≤ y := mx_ge (by omega) bb.2.2.1
    have a3 : x < mn (lf + w') w := by unfold mn; split <;> omega
    have a4 : y < mn (tp + h') h := by unfold mn; split <;> omega
    rw [if_neg (by omega)]
    exact ⟨a1, a3, a2, a4⟩)
   have at0 : atQ w' h' l (x - lf) (y - tp) = q0 := by unfold atQ; rw [if_neg out]
   have mq : mskQ mk w' h' l (x - lf) (y - tp) = q0 := by
    unfold mskQ
    cases mk with
    | none => exact at0
    | some ms => simp only; rw [if_neg out, at0]
   unfold layQ
   rw [mq, q0_wt, q0_bl m o]
  ·rfl
 | .tone nm r s sh, q, o, ho => by
  rw [Nd.ab]
  split
  ·rename_i e
   rw [Nd.bx, if_pos e] at ho
   exact absurd bb ho
  ·rfl
 | .group nm m s sh ns, q, o, ho => by
  rw [Nd.ab]
  split
  ·rename_i e
   rw [Nd.bx, if_pos e] at ho
   rw [out_sw hw hh bb ns fun X hX hc => ho (has_le ((jns_ge _ none trivial (bxs_wf w h hw hh ns)).2 X hX) hc), q0_wt, q0_bl m o]
  ·rfl
theorem out_sw {w h x y : Int} (hw : 0 < w) (hh : 0 < h) (bb : 0 ≤ x ∧ x < w ∧ 0 ≤ y ∧ y < h) : ∀ (l : List Nd), (∀ X ∈ Nd.bxs w h l, ¬ Bx.has X x y) → Nd.sw x y l q0 = q0
 | [], _ => by rw [Nd.sw]
 | .tone nm r s sh :: l, H => by
  rw [Nd.bxs, if_pos (by rfl)] at H
  rw [Nd.sw, Nd.ab, q0_tn]
  have := out_sw hw hh bb l H
  split <;> exact this
 | .layer nm m s sh lf tp mk w' h' l' kb :: l, H => by
  rw [Nd.bxs, if_neg (by exact Bool.false_ne_true)] at H
  rw [Nd.sw, out_ab hw hh bb _ q0 q0_or (H _ (List.mem_cons_self ..)), out_sw hw hh bb l fun X hX => H X (List.mem_cons_of_mem _ hX)]
 | .group nm m s sh ns :: l, H => by
  rw [Nd.bxs, if_neg (by exact Bool.false_ne_true)] at H
  rw [Nd.sw, out_ab hw hh bb _ q0 q0_or (H _ (List.mem_cons_self ..)), out_sw hw hh bb l fun X hX => H X (List.mem_cons_of_mem _ hX)]
end
theorem sw_dq {l : List Nd} {q : Q4} {j : Nat} (o : Nd.Oks l) (hq : Dq j q) (hj : j + Nd.wgs l ≤ 900) (x y : Int) : Dq (j + Nd.wgs l) (Nd.sw x y l q) := (loop_ok x y l (3 * Nd.dps l + 2) q j o (Nat.le_refl _) hq hj).2
theorem Subst.sw' {a b l l' : List Nd} {n n' : Nd} {x y : Int} (h : Subst a n b n' l l') (e : ∀ q : Q4, q.or → Nd.ab x y n' q = Nd.ab x y n q) : ∀ (q : Q4) (j : Nat), Dq j q → j + Nd.wgs l ≤ 900 → Nd.Oks l → Nd.sw x y l' q = Nd.sw x y l q := by
 induction h with
 | top =>
  intro q j hq hj o
  rw [oks_iff] at o
  rw [wgs_app] at hj
  rw [sw_app, sw_app, Nd.sw, Nd.sw, e _ (sw_dq ((oks_iff a).mpr fun n hn => o n (List.mem_append_left _ hn)) hq (by omega) x y).o]
 | @deep c e' nm m s sh ns ns' h ih =>
  intro q j hq hj o
  rw [oks_iff] at o
  have og := o (.group nm m s sh ns) (by simp)
  rw [Nd.Ok] at og
  rw [wgs_app, Nd.wgs, Nd.wg] at hj
  rw [sw_app, sw_app, Nd.sw, Nd.sw, Nd.ab, Nd.ab, ih q0 1 (Dq.zero 0) (by omega) og.2]
theorem ne_any (q q' : Q4) : ∃ b, neD q.d q'.d = some (.bool b) ∧ (b = true → q ≠ q') := by
 have : ∃ b, neD q.d q'.d = some (.bool b) := by
  unfold neD
  rw [if_pos ⟨(Ly.q4 q 0).shaped (by decide), (Ly.q4 q' 0).shaped (by decide)⟩]
  exact ⟨_, rfl⟩
 obtain ⟨b, e⟩ := this
 refine ⟨b, e, fun hb he => ?_⟩
 subst he hb
 rw [ne_self (Ly.q4 q 0) (by decide)] at e
 cases e
def neB (q q' : Q4) : Bool := (ne_any q q').choose
theorem neB_ok (q q' : Q4) : neD q.d q'.d = some (.bool (neB q q')) := (ne_any q q').choose_spec.1
theorem neB_ne {q q' : Q4} (h : neB q q' = true) : q ≠ q' := (ne_any q q').choose_spec.2 h
theorem comp2f {α : Type} {c : Rho → Option Bool} {e : DE} {r : Rho} {h1 h2 f : α → D} {p : α → Bool} : ∀ (l : List α) (x y : Option B), (∀ a ∈ l, c (‹h1 a› :: ‹h2 a› :: r) = some (p a)) → (∀ a ∈ l, e (‹h1 a› :: ‹h2 a› :: r) = some (f a)) → compD (gTupD 2 (gsCons (gSet 0) (gsCons (gSet 1) gsNil))) c e (l.map fun a => .tuple [h1 a, h2 a]) (x :: y :: r) = some ((l.filter p).map f)
 | [], _, _, _, _ => rfl
 | a :: l, x, y, C, H => by
  have ih := comp2f l (‹h1 a›) (‹h2 a›) (fun b hb => C b (List.mem_cons_of_mem _ hb)) (fun b hb => H b (List.mem_cons_of_mem _ hb))
  have hl : ([h1 a, h2 a] : List D).length = 2 := rfl
  cases q : p a with
  | true =>
   simp only [xmc, compD, gTupD, gsCons, gsNil, gSet, hl, if_true, xw0, xw1, xbs, C a (List.mem_cons_self ..), q, H a (List.mem_cons_self ..), ih, xms, List.filter_cons_of_pos q]
  | false =>
   have q' : ¬ p a = true := by rw [q]; exact Bool.false_ne_true
   simp only [xmc, compD, gTupD, gsCons, gsNil, gSet, hl, if_true, xw0, xw1, xbs, C a (List.mem_cons_self ..), q, xft, if_false, ih, List.filter_cons_of_neg q']
theorem changed_ok {w h : Nat} {l l' : List Nd} (S : Small6 l) (S' : Small6 l') (w1 : 1 ≤ w) (w8 : w ≤ 8) (h1 : 1 ≤ h) (h8 : h ≤ 8) {C : Bx} (H : ∀ x y : Int, 0 ≤ x ∧ x < w ∧ 0 ≤ y ∧ y < h → ¬ Bx.has C x y → Nd.sw x y l' q0 = Nd.sw x y l q0) : ∃ A : Bx, F_changed_box [picD w h l, picD w h l'] = some (bxD A) ∧ Bx.le A C := by
 have wh : w * h ≤ 64 := Nat.mul_le_mul w8 h8
 obtain ⟨p, hp⟩ : ∃ p : Int × Int → Bool, p = fun a => neB (Nd.sw a.1 a.2 l q0) (Nd.sw a.1 a.2 l' q0) := ⟨_, rfl⟩
 refine ⟨jns none (((plc w (w * h)).filter p).map fun a => some (a.1, a.2, a.1 + 1, a.2 + 1)), ?_, ?_⟩
 ·have wb : F_whole_box [picD w h l] = some (.tuple [.int 0, .int 0, .int w, .int h]) := rfl
  have pi : F_places_in [.tuple [.int 0, .int 0, .int w, .int h]] = some (.list ((plc w (w * h)).map fun a => .tuple [.int a.1, .int a.2])) := by
   refine run_rt (ρ := [‹.tuple [.int 0, .int 0, .int w, .int h]›]) rfl ?_
   have c : nComp 2 [0] (iSeq (dCall F_places_of (aCons (dIx (qVar 0) (dC (.int 2))) (aCons (dIx (qVar 0) (dC (.int 3))) aNil)))) (gTupD 2 (gsCons (gSet 0) (gsCons (gSet 1) gsNil))) cTrue (dTup (aCons (dBin catE (dIx (qVar 2) (dC (.int 0))) (dVar 0)) (aCons (dBin catE (dIx (qVar 2) (dC (.int 1))) (dVar 1)) aNil))) [‹.tuple [.int 0, .int 0, .int w, .int h]›] = some ((plc w (w * h)).map fun a => .tuple [.int a.1, .int a.2]) := by
    refine nComp2 (l := plc w (w * h)) (h1 := fun p => .int p.1) (h2 := fun p => .int p.2) (r := [‹.tuple [.int 0, .int 0, .int w, .int h]›]) rfl ?_ (by rw [plc_len]; omega) ?_
    ·wp_walk using evD, places_ok w1 w8 h8
    ·intro a _
     wp_walk using evD, Int.zero_add
   wp_walk using evD, G_places_in, isB_tn, c
  have c : nComp 2 [0, 1] (iSeq (dVar 2)) (gTupD 2 (gsCons (gSet 0) (gsCons (gSet 1) gsNil))) (tB2 neD (dCall F_flat_at (aCons (dVar 2) (aCons (dVar 0) (aCons (dVar 1) aNil)))) (dCall F_flat_at (aCons (dVar 3) (aCons (dVar 0) (aCons (dVar 1) aNil))))) (dTup (aCons (dVar 0) (aCons (dVar 1) (aCons (dC (.int 1)) (aCons (dC (.int 1)) aNil))))) [‹picD w h l›, ‹picD w h l'›, ‹.list ((plc w (w * h)).map fun a => .tuple [.int a.1, .int a.2])›] = some ((((plc w (w * h)).filter p).map fun a => some (a.1, a.2, a.1 + 1, a.2 + 1)).map bxD) := by
   unfold nComp
   rw [show iSeq (dVar 2) [‹picD w h l›, ‹picD w h l'›, ‹.list ((plc w (w * h)).map fun a => .tuple [.int a.1, .int a.2])›] = some ((plc w (w * h)).map fun a => .tuple [.int a.1, .int a.2]) from rfl, xbs, if_pos (by rw [List.length_map, plc_len]; omega)]
   show compD _ _ _ _ (none :: none :: [‹picD w h l›, ‹picD w h l'›]) = _
   rw [comp2f (h1 := fun a => .int a.1) (h2 := fun a => .int a.2) (f := fun a => .tuple [.int a.1, .int a.2, .int 1, .int 1]) (p := p) (plc w (w * h)) none none ?_ ?_]
   ·rw [List.map_map]
    congr 1
    refine List.map_congr_left fun a _ => ?_
    show _ = PyData.tuple [.int a.1, .int a.2, .int (a.1 + 1 - a.1), .int (a.2 + 1 - a.2)]
    rw [show a.1 + 1 - a.1 = 1 by omega, show a.2 + 1 - a.2 = 1 by omega]
   ·intro a _
    wp_walk using evD, flat_at_ok S, flat_at_ok S', neB_ok, hp
   ·intro a _
    wp_walk using evD
  refine run_rt (ρ := [‹picD w h l›, ‹picD w h l'›, none]) rfl ?_
  wp_walk using evD, G_changed_box, wb, pi, c, jns_ok
 ·refine jns_least _ _ _ trivial (fun X hX => ?_) trivial fun X hX => ?_
  ·obtain ⟨a, _, rfl⟩ := List.mem_map.mp hX
   exact ⟨by omega, by omega⟩
  ·obtain ⟨a, ha, rfl⟩ := List.mem_map.mp hX
   obtain ⟨h1', h2'⟩ := List.mem_filter.mp ha
   refine one_le (Classical.byContradiction fun hc => ?_)
   rw [hp] at h2'
   exact neB_ne h2' (H a.1 a.2 (plc_mem h1' w1) hc).symm
mutual
def Nd.wo (nm : D) : Nd → Nd
 | .layer n m s sh lf tp mk w h l kb => .layer n m s sh lf tp mk w h l kb
 | .tone n r s sh => .tone n r s sh
 | .group n m s sh ns => .group n m s sh (Nd.wos nm ns)
def Nd.wos (nm : D) : List Nd → List Nd
 | [] => []
 | n :: r => if same n.nm nm = true then Nd.wos nm r else n.wo nm :: Nd.wos nm r
end
mutual
theorem wo_id {nm : D} : ∀ n : Nd, nm ∉ n.nms → n.wo nm = n
 | .layer .., _ => by rw [Nd.wo]
 | .tone .., _ => by rw [Nd.wo]
 | .group n m s sh ns, h => by
  rw [Nd.nms] at h
  rw [Nd.wo, wos_id ns fun z => h (List.mem_cons_of_mem _ z)]
theorem wos_id {nm : D} : ∀ l : List Nd, nm ∉ Nd.nmss l → Nd.wos nm l = l
 | [], _ => by rw [Nd.wos]
 | n :: r, h => by
  rw [Nd.nmss] at h
  have hne : n.nm ≠ nm := fun e => h (List.mem_append_left _ (by rw [← e]; exact nm_mem n))
  rw [Nd.wos, same_ne hne, wo_id n fun z => h (List.mem_append_left _ z), wos_id r fun z => h (List.mem_append_right _ z)]
  rfl
end
theorem wos_app (nm : D) : ∀ a b : List Nd, Nd.wos nm (a ++ b) = Nd.wos nm a ++ Nd.wos nm b
 | [], b => by rw [Nd.wos]; rfl
 | n :: a, b => by
  rw [xca, Nd.wos, Nd.wos, wos_app nm a b]
  split <;> rfl
inductive Drop (a : List Nd) (n : Nd) (b : List Nd) : List Nd → List Nd → Prop
 | top : Drop a n b (a ++ n :: b) (a ++ b)
 | deep {c e : List Nd} {nm : D} {m : Man} {s : Rat} {sh : Bool} {ns ns' : List Nd} : Drop a n b ns ns' → Drop a n b (c ++ .group nm m s sh ns :: e) (c ++ .group nm m s sh ns' :: e)
theorem wos_drop {a b : List Nd} {n : Nd} {l : List Nd} (St : Stands a n b l) : (Nd.nmss l).Nodup → Drop a n b l (Nd.wos n.nm l) := by
 induction St with
 | top =>
  intro nd
  rw [nmss_app, Nd.nmss] at nd
  have dc := List.nodup_append.mp nd
  have dg := List.nodup_append.mp dc.2.1
  have h1 : n.nm ∉ Nd.nmss a := fun z => dc.2.2 _ z _ (List.mem_append_left _ (nm_mem n)) rfl
  have h2 : n.nm ∉ Nd.nmss b := fun z => dg.2.2 _ (nm_mem n) _ z rfl
  rw [wos_app, Nd.wos, same_self, if_pos rfl, wos_id a h1, wos_id b h2]
  exact .top
 | @deep c e nm m s sh ns h ih =>
  intro nd
  have hin := h.nm n.nm (nm_mem n)
  rw [nmss_app, Nd.nmss, Nd.nms] at nd
  have dc := List.nodup_append.mp nd
  have dg := List.nodup_append.mp dc.2.1
  have dn := List.nodup_cons.mp dg.1
  have hc : n.nm ∉ Nd.nmss c := fun z => dc.2.2 n.nm z n.nm (by simp [hin]) rfl
  have hg : nm ≠ n.nm := fun z => dn.1 (z ▸ hin)
  have he : n.nm ∉ Nd.nmss e := fun z => dg.2.2 n.nm (by simp [hin]) n.nm z rfl
  rw [wos_app, Nd.wos, Nd.nm, same_ne hg, wos_id c hc, wos_id e he, Nd.wo]
  exact .deep (ih dn.2)
theorem Drop.sw' {a b l l' : List Nd} {n : Nd} {x y : Int} (h : Drop a n b l l') (e : ∀ q : Q4, q.or → Nd.ab x y n q = q) : ∀ (q : Q4) (j : Nat), Dq j q → j + Nd.wgs l ≤ 900 → Nd.Oks l → Nd.sw x y l' q = Nd.sw x y l q := by
 induction h with
 | top =>
  intro q j hq hj o
  rw [oks_iff] at o
  rw [wgs_app] at hj
  rw [sw_app, sw_app, Nd.sw, e _ (sw_dq ((oks_iff a).mpr fun n hn => o n (List.mem_append_left _ hn)) hq (by omega) x y).o]
 | @deep c e' nm m s sh ns ns' h ih =>
  intro q j hq hj o
  rw [oks_iff] at o
  have og := o (.group nm m s sh ns) (by simp)
  rw [Nd.Ok] at og
  rw [wgs_app, Nd.wgs, Nd.wg] at hj
  rw [sw_app, sw_app, Nd.sw, Nd.sw, Nd.ab, Nd.ab, ih q0 1 (Dq.zero 0) (by omega) og.2]
theorem Drop.small {a b l l' : List Nd} {n : Nd} (h : Drop a n b l l') : Nd.Oks l → Nd.Oks l' ∧ Nd.wgs l' ≤ Nd.wgs l ∧ Nd.dps l' ≤ Nd.dps l := by
 induction h with
 | top =>
  intro o
  rw [oks_iff] at o ⊢
  refine ⟨fun m hm => ?_, ?_, ?_⟩
  ·rcases List.mem_append.mp hm with q | q
   ·exact o m (List.mem_append_left _ q)
   ·exact o m (List.mem_append_right _ (List.mem_cons_of_mem _ q))
  ·rw [wgs_app, wgs_app, Nd.wgs]; omega
  ·rw [dps_app, dps_app, Nd.dps]; omega
 | @deep c e nm m s sh ns ns' h ih =>
  intro o
  rw [oks_iff] at o ⊢
  have og := o (.group nm m s sh ns) (by simp)
  rw [Nd.Ok] at og
  obtain ⟨i1, i2, i3⟩ := ih og.2
  refine ⟨fun m hm => ?_, ?_, ?_⟩
  ·rcases List.mem_append.mp hm with q | q
   ·exact o m (List.mem_append_left _ q)
   ·rcases List.mem_cons.mp q with rfl | q
    ·rw [Nd.Ok]; exact ⟨og.1, i1⟩
    ·exact o m (List.mem_append_right _ (List.mem_cons_of_mem _ q))
  ·rw [wgs_app, wgs_app, Nd.wgs, Nd.wgs, Nd.wg, Nd.wg]; omega
  ·rw [dps_app, dps_app, Nd.dps, Nd.dps, Nd.dp, Nd.dp]; omega
theorem in_lst {neg v : Bool} {x : D} {ds : List D} (hx : flatD x = true) (hd : ds.all flatD = true) (h : inV (toV x) (ds.map toV) = v) : inD neg x (.list ds) = some (.bool (if neg then !v else v)) := by
 subst h
 show (if flatD x = true ∧ ds.all flatD = true then _ else none) = _
 rw [if_pos ⟨hx, hd⟩]
theorem in_one {a b : D} (ha : NStr a) (hb : NStr b) : inD false a (.list [b]) = some (.bool (same a b)) := by
 obtain ⟨s, rfl, _⟩ := ha
 obtain ⟨t, rfl, _⟩ := hb
 refine in_lst (v := same (.str s) (.str t)) rfl rfl ?_
 show ((t == s) || false) = _
 rw [Bool.or_false]
 by_cases h : t = s
 ·subst h; rw [same_self]; exact beq_self_eq_true t
 ·rw [same_ne fun e => h (PyData.str.inj e).symm]; exact beq_eq_false_iff_ne.mpr h
theorem in_mem {d : D} {L : List D} (hd : d ∈ L) (hL : ∀ x ∈ L, NStr x) : inD true d (.list L) = some (.bool false) := by
 obtain ⟨s, rfl, _⟩ := hL d hd
 refine in_lst (v := true) rfl (List.all_eq_true.mpr fun x hx => ?_) (List.any_eq_true.mpr ⟨.str s, List.mem_map.mpr ⟨.str s, hd, rfl⟩, ?_⟩)
 ·obtain ⟨t, rfl, _⟩ := hL x hx; rfl
 ·exact beq_self_eq_true s
def wob (f : Nat) : DS := (sSeq (sIf (tB2 (inD false) (dCall F_name_of (aCons (dVar 3) aNil)) (dVar 1)) sCont sNil) (sIf (tTru (dCall F_is_group (aCons (dVar 3) aNil))) (sApp 2 (dCall F_with_inner_nodes (aCons (dVar 3) (aCons (dCall (F_nodes_without f) (aCons (dCall F_inner_nodes (aCons (dVar 3) aNil)) (aCons (dVar 1) aNil))) aNil)))) (sApp 2 (dVar 3))))
theorem wo_step {nm : D} (hn : NStr nm) (f : Nat) : ∀ (l : List Nd) (X : List D) (a0 a3 : Option B), (∀ n ∈ l, NStr n.nm) → X.length + l.length ≤ 1000 → (∀ n ∈ l, ∀ nm' m s sh ns, n = .group nm' m s sh ns → F_nodes_without f [.tuple (Nd.ds ns), .list [nm]] = some (.tuple (Nd.ds (Nd.wos nm ns)))) →
  ∃ a3', forD (gSet 3) (wob f) (Nd.ds l) [a0, ‹.list [nm]›, some (.own X), a3] = some (.nx [a0, ‹.list [nm]›, some (.own (X ++ Nd.ds (Nd.wos nm l))), a3'])
 | [], X, a0, a3, _, _, _ => ⟨a3, by rw [Nd.wos, Nd.ds, List.append_nil]; rfl⟩
 | n :: l, X, a0, a3, hs, hl, H => by
  have hi := in_one (hs n (List.mem_cons_self ..)) hn
  have en := name_of n
  rw [List.length_cons] at hl
  have hx : X.length < 16777216 := by omega
  rw [Nd.ds, Nd.wos]
  cases q : same n.nm nm with
  | true =>
   rw [q] at hi
   obtain ⟨a3', e⟩ := wo_step hn f l X a0 (some (.val n.d)) (fun x hx => hs x (List.mem_cons_of_mem _ hx)) (by omega) (fun x hx => H x (List.mem_cons_of_mem _ hx))
   refine ⟨a3', ?_⟩
   have b : wob f [a0, ‹.list [nm]›, some (.own X), some (.val n.d)] = some (.ct [a0, ‹.list [nm]›, some (.own X), some (.val n.d)]) := by
    wp_walk using evD, wob, en, hi, sCont
   simp only [forD, gSet, xw0, xw1, xbs, b, if_true]
   exact e
  | false =>
   rw [q] at hi
   obtain ⟨a3', e⟩ := wo_step hn f l (X ++ [(n.wo nm).d]) a0 (some (.val n.d)) (fun x hx => hs x (List.mem_cons_of_mem _ hx)) (by rw [List.length_append]; show X.length + 1 + l.length ≤ 1000; omega) (fun x hx => H x (List.mem_cons_of_mem _ hx))
   refine ⟨a3', ?_⟩
   have ig := is_group_of n
   have b : wob f [a0, ‹.list [nm]›, some (.own X), some (.val n.d)] = some (.nx [a0, ‹.list [nm]›, some (.own (X ++ [(n.wo nm).d])), some (.val n.d)]) := by
    cases n with
    | layer => rw [Nd.wo]; wp_walk using evD, wob, en, hi, ig, sApp, if_pos hx
    | tone => rw [Nd.wo]; wp_walk using evD, wob, en, hi, ig, sApp, if_pos hx
    | group nm' m s sh ns =>
     have e1 := H _ (List.mem_cons_self ..) nm' m s sh ns rfl
     rw [Nd.wo]
     wp_walk using evD, wob, en, hi, ig, sApp, if_pos hx, g_inner, e1, with_inner
   simp only [forD, gSet, xw0, xw1, xbs, b, xft, if_false, Nd.ds]
   rw [List.append_assoc] at e
   exact e
theorem wos_ok {nm : D} (hn : NStr nm) : ∀ (k : Nat) (l : List Nd) (f : Nat), Nd.dps l ≤ k → k + 1 ≤ f → l.length ≤ 1000 → Nd.thins l → (∀ d ∈ Nd.nmss l, NStr d) → F_nodes_without f [.tuple (Nd.ds l), .list [nm]] = some (.tuple (Nd.ds (Nd.wos nm l))) := by
 have step : ∀ (l : List Nd) (f : Nat), l.length ≤ 1000 → (∀ d ∈ Nd.nmss l, NStr d) → (∀ n ∈ l, ∀ nm' m s sh ns, n = .group nm' m s sh ns → F_nodes_without f [.tuple (Nd.ds ns), .list [nm]] = some (.tuple (Nd.ds (Nd.wos nm ns)))) → F_nodes_without (f + 1) [.tuple (Nd.ds l), .list [nm]] = some (.tuple (Nd.ds (Nd.wos nm l))) := fun l f hl hs H => by
  obtain ⟨a3', e⟩ := wo_step hn f l [] (‹.tuple (Nd.ds l)›) none (nm_str hs) (by simpa using hl) H
  refine run_rt (g := G_nodes_without (F_nodes_without f)) (ρ := [‹.tuple (Nd.ds l)›, ‹.list [nm]›, none, none]) rfl ?_
  have s1 : (sFor (iSeq (dVar 0)) (gSet 3) (wob f)) [‹.tuple (Nd.ds l)›, ‹.list [nm]›, some (.own []), none] = some (.nx [‹.tuple (Nd.ds l)›, ‹.list [nm]›, some (.own ([] ++ Nd.ds (Nd.wos nm l))), a3']) := e
  exact (seq_nx (ρ' := [‹.tuple (Nd.ds l)›, ‹.list [nm]›, some (.own []), none]) rfl).trans ((seq_nx s1).trans rfl)
 intro k
 induction k with
 | zero =>
  intro l f hd hf hl ht hs
  obtain ⟨f, rfl⟩ : ∃ g, f = g + 1 := ⟨f - 1, by omega⟩
  refine step l f hl hs fun n hn' nm' m s sh ns e => ?_
  have := dps_mem hn'
  rw [e, Nd.dp] at this; omega
 | succ k ih =>
  intro l f hd hf hl ht hs
  obtain ⟨f, rfl⟩ : ∃ g, f = g + 1 := ⟨f - 1, by omega⟩
  refine step l f hl hs fun n hn' nm' m s sh ns e => ?_
  have h1 := dps_mem hn'
  have h2 := (thins_iff l).mp ht n hn'
  rw [e, Nd.dp] at h1
  rw [e, Nd.thin] at h2
  exact ih ns f (by omega) (by omega) h2.1 h2.2 fun d hd' => hs d (nms_sub hn' (by rw [e, Nd.nms]; exact List.mem_cons_of_mem _ hd'))
theorem names_in_ok {w h : Nat} {l : List Nd} (hd : Nd.dps l ≤ 3) (hl : (Nd.nmss l).length ≤ 1000) : F_names_in [picD w h l] = some (.list (Nd.nmss l)) := by
 have na := names_among 3 l 12 hd (by decide) hl
 refine run_rt (ρ := [‹picD w h l›]) rfl ?_
 wp_walk using evD, G_names_in, picD, na
theorem without_ok {w h : Nat} {l : List Nd} {nm : D} (hm : nm ∈ Nd.nmss l) (hs : ∀ d ∈ Nd.nmss l, NStr d) (hd : Nd.dps l ≤ 3) (hn : (Nd.nmss l).length ≤ 1000) (hl : l.length ≤ 1000) (ht : Nd.thins l) : F_without [picD w h l, .list [nm]] = some (picD w h (Nd.wos nm l)) := by
 have e1 := names_in_ok (w := w) (h := h) hd hn
 have e2 := wos_ok (hs nm hm) 3 l 12 hd (by decide) hl ht hs
 have e3 := in_mem hm hs
 refine run_rt (ρ := [‹picD w h l›, ‹.list [nm]›, none, none]) rfl ?_
 unfold G_without
 rw [seq_nx (ρ' := [‹picD w h l›, ‹.list [nm]›, ‹.list (Nd.nmss l)›, none]) (by wp_walk using evD, e1)]
 have s1 : (sFor (iSeq (dVar 1)) (gSet 3) (sIf (tB2 (inD true) (dVar 3) (dVar 2)) sNever sNil)) [‹picD w h l›, ‹.list [nm]›, ‹.list (Nd.nmss l)›, none] = some (.nx [‹picD w h l›, ‹.list [nm]›, ‹.list (Nd.nmss l)›, some (.val nm)]) := by
  wp_walk using evD, sFor, forD, e3
 rw [seq_nx s1]
 wp_walk using evD, picD, e2
end Sh
namespace G
open PySem PySem.Spec PyProof.Rows L2
section
variable {X : Cx} {S : Sg} {c : Kx}
theorem je_no {e : Expr} : JE X e dNo := fun ρ d h => by cases h
theorem jq_no {e : Expr} : JQ X e qNo := fun ρ t d h => by cases h
theorem jn_no {e : Expr} : JN X e aNo := fun ρ d h => by cases h
theorem jt_no {e : Expr} : JT X e tNo := fun ρ d h => by cases h
theorem jw_no {e : Expr} : JW X e tNo := fun ρ d h => by cases h
theorem jg_no {e : Expr} : JG X e gNo := by
 unfold JG PG
 intros
 rename_i h
 obtain ⟨d, ρ, ρ', H0, Hf, z, _⟩ := h
 cases z
theorem ja_no {es : List Expr} : JA X es aNo := ⟨fun ρ d h => (nomatch h), fun ρ d h => (nomatch h)⟩
theorem jts_no {es : List Expr} : JTs X es tNo := fun pins s σ H Q I ⟨ρ, b, h, _⟩ => by cases h
theorem od_cmpW (hu : X.A.units + 64 < cLine) : ∀ op : CmpOp, OpD X (compareOp op) (cmpW op)
 | .Lt => od_lt | .LtE => od_le | .Gt => od_gt | .GtE => od_ge | .Eq => od_eq hu | .NotEq => od_ne hu | .Is => od_is | .IsNot => od_isnot | .In => od_in | .NotIn => od_notin
theorem od_opW (hu : X.A.units + 64 < cLine) (S : Sg) (c : Kx) (op : CmpOp) (b : Expr) : OpD X (compareOp op) (opW S c op b) := by
 unfold opW
 split
 ·split
  ·exact od_inS
  ·exact od_notinS
  ·exact od_cmpW hu _
 ·exact od_cmpW hu op
theorem ja_ev {f : Expr → DE} (h : ∀ e, JE X e (f e)) : ∀ es, JA X es (evA f es)
 | [] => ja_nil
 | e :: es => by
  unfold evA
  split
  ·rename_i p; exact ja_cons (h e) (ja_ev h es) (pl_star p es _)
  ·exact ja_no
theorem je_bool {f : Expr → DE} (h : ∀ e, JE X e (f e)) (op : BoolOp) (pos : Pos) : ∀ vs, JE X (.BoolOp op vs pos) (evBE f op vs)
 | [] => je_no
 | [a] => je_one (h a)
 | a :: b :: r => by
  unfold evBE
  cases op
  ·exact je_and (h a) (je_bool h .And pos (b :: r))
  ·exact je_or (h a) (je_bool h .Or pos (b :: r))
theorem jw_bool {f : Expr → DT} (h : ∀ e, JT X e (f e)) (op : BoolOp) (pos : Pos) : ∀ vs, JW X (.BoolOp op vs pos) (evBT f op vs)
 | [] => jw_no
 | [a] => by cases op; exact jw_and1 (h a); exact jw_or1 (h a)
 | a :: b :: r => by
  unfold evBT
  cases op
  ·exact jw_and (h a) (jw_bool h .And pos (b :: r))
  ·exact jw_or (h a) (jw_bool h .Or pos (b :: r))
theorem jo_ev {f : Expr → DE} (h : ∀ e, JE X e (f e)) : ∀ o, JO X o (evO f o)
 | none => jo_none
 | some e => jo_some (h e)
theorem jts_ev {f : Expr → DT} (h : ∀ e, JT X e (f e)) : ∀ l, JTs X l (evIfs f l)
 | [] => jts_nil
 | [t] => jts_one (h t)
 | _ :: _ :: _ => jts_no
theorem jgs_ev {f : Expr → DG} (h : ∀ e, JG X e (f e)) : ∀ es, es.all pl = true → JGs X es (evGs f es)
 | [], _ => jgs_nil
 | e :: es, p => by
  simp only [List.all_cons, Bool.and_eq_true] at p
  refine jgs_cons (h e) (jgs_ev h es p.2) ?_
  have p1 := p.1
  cases e <;> first | rfl | cases p1
theorem asg_len {env : Env} : ∀ {es : List Expr}, es.all pl = true → (assignEach es env).length = es.length ∧ (assignEach es env).findIdx? (·.1) = none
 | [], _ => ⟨rfl, rfl⟩
 | e :: es, p => by
  simp only [List.all_cons, Bool.and_eq_true] at p
  obtain ⟨h1, h2⟩ := asg_len (env := env) p.2
  have p1 := p.1
  have q : assignEach (e :: es) env = (false, assign e env) :: assignEach es env := by cases e <;> first | rfl | cases p1
  rw [q]
  refine ⟨by simp [h1], ?_⟩
  simp [List.findIdx?_cons, h2]
structure Sound (S : Sg) (r : Ev) : Prop where
 e : ∀ {c X}, Fit S c X → ∀ ex, JE X ex (r.e c ex)
 q : ∀ {c X}, Fit S c X → ∀ ex, JQ X ex (r.q c ex)
 n : ∀ {c X}, Fit S c X → ∀ ex, JN X ex (r.n c ex)
 t : ∀ {c X}, Fit S c X → ∀ ex, JT X ex (r.t c ex)
 g : ∀ {c X}, Fit S c X → ∀ ex, JG X ex (r.g c ex)
 b : ∀ {c X}, Fit S c X → ∀ sts, JSs X sts (r.b c sts)
theorem Fit.hx (F : Fit S c X) : ∀ e s, X.xe e s → False := fun e s h => by rw [F.xe] at h; exact h
theorem Fit.po (F : Fit S c X) : PassesOwn (model X.prog X.w) X.A X.env X.xe := by rw [F.xe]; exact PassesOwn.never
theorem Fit.slot (F : Fit S c X) {x : Str} {i : Nat} (h : ixOf x c.N = some i) : X.N[i]? = some x := by rw [F.N]; exact ixOf_get h
theorem Fit.inner {tn : List Str} {caps : List Nat} {scope : Scope} {C : Addr} {s0 : Shared} {H0 : Hp} {ex : List Addr} (F : Fit S c X) (hn : (G.inner c tn caps scope).N.Nodup) : Fit S (G.inner c tn caps scope) (compCx X (G.inner c tn caps scope).N scope C s0 H0 ex) :=
 ⟨rfl, by show relabel scope X.env = rl scope c.sc; rw [← F.sc]; rfl, hn, F.calm, rfl, F.units, (fun h => by cases h), F.fns, F.css, F.bls⟩
variable {r : Ev}
theorem ji_ev (R : Sound S r) (F : Fit S c X) (tg it : Expr) : JI X tg it (evI S r c tg it) := by
 unfold evI
 split
 ·rename_i x p a pos
  split
  ·rename_i h
   simp only [Bool.and_eq_true] at h
   obtain ⟨rfl, h1, h2⟩ := biB_of F h.1
   exact ji_range1 h1 h2 (R.e F a) (pl_star h.2 _ _)
  ·split
   ·rename_i h
    simp only [Bool.and_eq_true] at h
    obtain ⟨rfl, h1, h2⟩ := biB_of F h.1.1
    have ht := h.1.2
    cases tg <;> first | (exact ji_enum h1 h2 (R.e F a) (pl_star h.2 _ _)) | (exact nomatch ht)
   ·exact ji_seq (R.e F _)
 ·rename_i x p a b pos
  split
  ·rename_i h
   simp only [Bool.and_eq_true] at h
   obtain ⟨rfl, h1, h2⟩ := biB_of F h.1.1
   exact ji_range2 h1 h2 (R.e F a) (R.e F b) (by rw [pl_star h.1.2, pl_star h.2]; rfl) (pl_star h.2 _ _)
  ·split
   ·rename_i h
    simp only [Bool.and_eq_true] at h
    obtain ⟨rfl, h1, h2⟩ := biB_of F h.1.1.1
    have ht := h.1.1.2
    cases tg <;> first | (exact ji_zip h1 h2 (R.e F a) (R.e F b) (by rw [pl_star h.1.2, pl_star h.2]; rfl) (pl_star h.2 _ _)) | (exact nomatch ht)
   ·exact ji_seq (R.e F _)
 ·split
  ·exact ji_str (R.e F _)
  ·exact ji_seq (R.e F _)
theorem comp_ev (R : Sound S r) (F : Fit S c X) {elt tgt iter : Expr} {ifs : List Expr} {scope : Scope} {caps : List Nat}
  (h : (compChk c.N (G.inner c (tnames tgt) caps scope).N (tnames tgt).length caps c.sc scope && nodupB (G.inner c (tnames tgt) caps scope).N && pl iter) = true) :
  CompSc X (G.inner c (tnames tgt) caps scope).N (tnames tgt).length caps scope ∧ JI X tgt iter (evI S r c tgt iter) ∧ (∀ C s0 H0 ex, JG (compCx X (G.inner c (tnames tgt) caps scope).N scope C s0 H0 ex) tgt (r.g (G.inner c (tnames tgt) caps scope) tgt)) ∧
  (∀ C s0 H0 ex, JTs (compCx X (G.inner c (tnames tgt) caps scope).N scope C s0 H0 ex) ifs (evIfs (r.t (G.inner c (tnames tgt) caps scope)) ifs)) ∧ (∀ C s0 H0 ex, JE (compCx X (G.inner c (tnames tgt) caps scope).N scope C s0 H0 ex) elt (r.e (G.inner c (tnames tgt) caps scope) elt)) ∧
  ∀ x, foldedSetIterable iter X.env x = pure x := by
 simp only [Bool.and_eq_true] at h
 obtain ⟨⟨h1, h2⟩, h3⟩ := h
 have hn := nodupB_of h2
 exact ⟨compSc_of h1 F.N F.sc, ji_ev R F tgt iter, fun C s0 H0 ex => R.g (F.inner hn) tgt, fun C s0 H0 ex => jts_ev (R.t (F.inner hn)) ifs, fun C s0 H0 ex => R.e (F.inner hn) elt, pl_fold h3 _⟩
theorem jn_ev (R : Sound S r) (F : Fit S c X) (ex : Expr) : JN X ex (evC S r c ex) := by
 unfold evC
 split
 ·rename_i elt tgt iter ifs scope pos
  dsimp only
  split
  ·rename_i h
   obtain ⟨h1, h2, h3, h4, h5, h6⟩ := comp_ev (ifs := ifs) (elt := elt) R F h
   exact jn_comp h1 F.hx h2 h3 h4 h5 F.calm h6
  ·exact jn_no
 ·exact jn_no
theorem tyOf_boot {x : Str} {T : String} (h : tyOf x = some T) : bootBuiltins x = some (.type T) ∧ x ≠ "__name__" ∧ (x == ("__debug__" : Str)) = false := by
 unfold tyOf at h
 split at h
 ·rename_i e; cases h; simp only [beq_iff_eq] at e; subst e; exact ⟨bb_int, by decide, by decide⟩
 ·split at h
  ·rename_i e; cases h; simp only [beq_iff_eq] at e; subst e; exact ⟨bb_bool, by decide, by decide⟩
  ·split at h
   ·rename_i e; cases h; simp only [beq_iff_eq] at e; subst e; exact ⟨bb_str, by decide, by decide⟩
   ·split at h
    ·rename_i e; cases h; simp only [beq_iff_eq] at e; subst e; exact ⟨bb_tuple, by decide, by decide⟩
    ·split at h
     ·rename_i e; cases h; simp only [beq_iff_eq] at e; subst e; exact ⟨bb_list, by decide, by decide⟩
     ·cases h
theorem pl_back {e : Expr} (h : pl e = true) (pos : Pos) (env : Env) : (backTo pos (starEach [e] env)).any (·.1) = false := by
 rw [pl_star h]; rfl
theorem plAll_back (pos : Pos) (env : Env) : ∀ {es : List Expr}, es.all pl = true → (starEach es env).any (·.1) = false
 | [], _ => rfl
 | e :: es, h => by
  simp only [List.all_cons, Bool.and_eq_true] at h
  rw [pl_star h.1, List.any_cons, plAll_back pos env h.2]; rfl
end
end G
namespace G
open PySem PySem.Spec PyProof.Rows L2
section
variable {X : Cx} {S : Sg} {c : Kx} {r : Ev}
theorem xSub_ok (R : Sound S r) (F : Fit S c X) (a i : Expr) (pos : Pos) : JE X (.Subscript a i pos) (xSub r c a i) := by
 unfold xSub
 split
 ·split
  ·exact je_slT (R.e F _) (jo_ev (R.e F) _) (jo_ev (R.e F) _)
  ·split
   ·exact je_slS (R.e F _) (jo_ev (R.e F) _) (jo_ev (R.e F) _)
   ·split
    ·exact je_slQ (R.q F _) (jo_ev (R.e F) _) (jo_ev (R.e F) _)
    ·exact je_slA (R.e F _) (jo_ev (R.e F) _) (jo_ev (R.e F) _)
 ·exact je_revT (R.e F _) (je_neg je_int)
 ·split
  ·rename_i h
   split
   ·exact je_ixS (R.e F _) (R.e F _) (pl_ix h)
   ·exact je_ix (R.q F _) (R.e F _) (pl_ix h)
  ·exact je_no
theorem xCall1_ok (R : Sound S r) (F : Fit S c X) (x : Str) (a : Expr) (p pos : Pos) : JE X (.Call (.Name x p) [a] [] pos) (xCall1 S r c x a) := by
 unfold xCall1
 split
 ·exact je_no
 rename_i hp
 have hp : pl a = true := by simpa using hp
 have hs := pl_star hp [] X.env
 split
 ·rename_i h
  obtain ⟨rfl, h1, h2⟩ := biB_of F h
  split
  ·rename_i y py e ppos
   split
   ·rename_i hy
    simp only [Bool.and_eq_true] at hy
    obtain ⟨rfl, g1, g2⟩ := biB_of F hy.1
    exact je_lenset h1 h2 g1 g2 (R.q F _) F.calm (pl_star hy.2 _ _)
   ·exact je_len h1 h2 (R.q F _) hs
  ·split
   ·exact je_lenS h1 h2 (R.e F a) hs
   ·exact je_len h1 h2 (R.q F a) hs
 split
 ·rename_i h; obtain ⟨rfl, h1, h2⟩ := biB_of F h; exact je_tupN h1 h2 (R.q F a) hs
 split
 ·rename_i h; obtain ⟨rfl, h1, h2⟩ := biB_of F h; exact je_all h1 h2 (R.q F a) F.calm hs
 split
 ·rename_i h; obtain ⟨rfl, h1, h2⟩ := biB_of F h; exact je_intOf h1 h2 (R.e F a) hs
 split
 ·rename_i h; obtain ⟨rfl, h1, h2⟩ := biB_of F h; exact je_strOf h1 h2 (R.e F a) hs
 split
 ·rename_i h; obtain ⟨rfl, h1, h2⟩ := biB_of F h; exact je_abs h1 h2 (R.e F a) hs
 exact je_no
theorem xCall2_ok (R : Sound S r) (F : Fit S c X) (x : Str) (a b : Expr) (p pos : Pos) : JE X (.Call (.Name x p) [a, b] [] pos) (xCall2 S r c x a b) := by
 unfold xCall2
 split
 ·exact je_no
 rename_i hp
 have hp : pl a = true := by simpa using hp
 split
 ·rename_i h
  obtain ⟨rfl, h1, h2⟩ := biB_of F h
  split
  ·rename_i y py
   split
   ·rename_i T hT
    split
    ·rename_i hy
     obtain ⟨_, g1, g2⟩ := biB_of F hy
     obtain ⟨t1, t2, t3⟩ := tyOf_boot hT
     exact je_isi h1 h2 g1 g2 t1 (R.e F a) t2 t3 (pl_star hp _ _) rfl rfl
    ·exact je_no
   ·exact je_no
  ·exact je_no
 split
 ·exact je_no
 rename_i hb
 have hb : pl b = true := by simpa using hb
 split
 ·rename_i h; obtain ⟨rfl, h1, h2⟩ := biB_of F h; exact je_min2 h1 h2 (R.e F a) (R.e F b) F.calm (pl_star hp _ _) (pl_star hb _ _) (pl_back hb pos _)
 split
 ·rename_i h; obtain ⟨rfl, h1, h2⟩ := biB_of F h; exact je_max2 h1 h2 (R.e F a) (R.e F b) F.calm (pl_star hp _ _) (pl_star hb _ _) (pl_back hb pos _)
 exact je_no
theorem any_back (pos : Pos) : ∀ l : List (Bool × Sem Value), (backTo pos l).any (·.1) = l.any (·.1)
 | [] => rfl
 | (b, t) :: r => by
  have ih := any_back pos r
  unfold backTo at ih ⊢
  rw [xmc, List.any_cons, List.any_cons, ih]
theorem xCall_ok (R : Sound S r) (F : Fit S c X) (x : Str) (args : List Expr) (p pos : Pos) : JE X (.Call (.Name x p) args [] pos) (xCall S r c x args (.Call (.Name x p) args [] pos)) := by
 unfold xCall
 split
 ·rename_i Fn n hl
  split
  ·rename_i h
   simp only [Bool.and_eq_true, beq_iff_eq] at h
   obtain ⟨⟨hg, hn⟩, hp⟩ := h
   obtain ⟨g1, g2⟩ := glbB_of F hg
   obtain ⟨k, f, fd, ps, hk, hr, hm, hkp, hb⟩ := F.fns _ _ _ hl
   cases args with
   | nil => cases hn; exact je_call0 hk hr g1 hm hkp hb g2
   | cons e es =>
    simp only [List.all_cons, Bool.and_eq_true] at hp
    exact je_call hk hr g1 hm hkp hb (ja_ev (R.e F) (e :: es)) hn g2 (pl_star hp.1 _ _) ((any_back pos _).trans (plAll_back pos _ hp.2))
  ·exact je_no
 ·split
  ·split
   ·exact je_of_jn (R.n F _)
   ·exact xCall1_ok R F _ _ _ _
  ·exact xCall2_ok R F _ _ _ _ _
  ·exact je_no
theorem xE_ok (R : Sound S r) (F : Fit S c X) (ex : Expr) : JE X ex (xE S r c ex) := by
 have hu := F.units
 unfold xE
 split
 ·exact je_non
 ·exact je_bl
 ·exact je_int
 ·exact je_str
 ·split
  ·rename_i i h
   split
   ·rename_i v; obtain ⟨h1, h2, h3⟩ := visB_of F v; exact je_var i (F.slot h) h1 h2 h3
   ·exact je_no
  ·split
   ·rename_i d hd
    split
    ·rename_i g; obtain ⟨u, k1, k2⟩ := F.css _ _ hd; obtain ⟨g1, g2⟩ := glbB_of F g; exact je_glb k1 g1 k2 g2
    ·exact je_no
   ·exact je_no
 ·split
  ·rename_i h; exact je_tup (ja_ev (R.e F) _) h
  ·exact je_no
 ·exact je_of_jn (R.n F _)
 ·exact je_of_jn (R.n F _)
 ·split
  ·exact je_bin od_cat (R.e F _) (R.e F _)
  ·exact je_bin od_catE (R.e F _) (R.e F _)
 ·exact je_bin od_sub (R.e F _) (R.e F _)
 ·split
  ·exact je_bin od_mulD (R.e F _) (R.e F _)
  ·split
   ·split
    ·exact je_bin od_mulS (R.e F _) (R.e F _)
    ·exact je_bin od_mulE (R.e F _) (R.e F _)
   ·exact je_bin od_mulE (R.e F _) (R.e F _)
 ·exact je_bin od_div (R.e F _) (R.e F _)
 ·exact je_bin od_mod (R.e F _) (R.e F _)
 ·exact je_bin od_pow (R.e F _) (R.e F _)
 ·exact je_neg (R.e F _)
 ·exact je_not (R.e F _)
 ·split
  ·rename_i h; exact je_cmp (od_opW hu S c _ _) (R.e F _) (R.e F _) (pl_mark h _)
  ·exact je_no
 ·split
  ·rename_i h; exact je_chain (od_cmpW hu _) (od_cmpW hu _) (R.e F _) (R.e F _) (R.e F _) (pl_mark h _)
  ·exact je_no
 ·exact je_bool (R.e F) _ _ _
 ·exact je_ife (R.t F _) (R.e F _) (R.e F _)
 ·exact xSub_ok R F _ _ _
 ·split
  ·rename_i h
   simp only [Bool.and_eq_true, beq_iff_eq] at h
   obtain ⟨⟨⟨hm, hn⟩, hl⟩, hp⟩ := h
   subst hm
   have hs := pl_star hp [] X.env
   exact je_join (R.e F _) (R.q F _) (noCall_base hn _ _ _) (by rw [hs]; rfl) (by simpa using hl) hs
  ·exact je_no
 ·exact xCall_ok R F _ _ _ _
 ·exact je_no
theorem xQ_ok (R : Sound S r) (F : Fit S c X) (ex : Expr) : JQ X ex (xQ S r c ex) := by
 unfold xQ
 split
 ·split
  ·rename_i i h
   split
   ·rename_i v; obtain ⟨h1, h2, h3⟩ := visB_of F v; exact jq_var i (F.slot h) h1 h2 h3
   ·exact jq_no
  ·exact jq_of (R.e F _)
 ·exact jq_n (R.n F _)
 ·exact jq_n (R.n F _)
 ·split
  ·exact jq_n (R.n F _)
  ·exact jq_of (R.e F _)
 ·exact jq_of (R.e F _)
theorem xN_ok (R : Sound S r) (F : Fit S c X) (ex : Expr) : JN X ex (xN S r c ex) := by
 unfold xN
 split
 ·split
  ·rename_i h; exact jn_lst (ja_ev (R.e F) _) h
  ·exact jn_no
 ·exact jn_ev R F _
 ·split
  ·rename_i h
   simp only [Bool.and_eq_true] at h
   obtain ⟨rfl, h1, h2⟩ := biB_of F h.1
   exact jn_list h1 h2 (R.q F _) (pl_star h.2 _ _)
  ·exact jn_no
 ·exact jn_cat (R.q F _) (R.q F _)
 ·exact jn_no
theorem xT_ok (R : Sound S r) (F : Fit S c X) (ex : Expr) : JT X ex (xT S r c ex) := by
 have hu := F.units
 unfold xT
 split
 ·split
  ·rename_i h; exact jt_cmp (od_opW hu S c _ _) (R.e F _) (R.e F _) (pl_mark h _)
  ·exact jt_no
 ·split
  ·rename_i h; exact jt_chain (od_cmpW hu _) (od_cmpW hu _) (R.e F _) (R.e F _) (R.e F _) (pl_mark h _)
  ·exact jt_no
 ·exact jt_of_jw (jw_bool (R.t F) _ _ _)
 ·exact jt_not (R.t F _)
 ·split
  ·rename_i h; exact jt_tru (R.e F _) (plT_true h _)
  ·exact jt_no
theorem xG_ok (R : Sound S r) (F : Fit S c X) (ex : Expr) : JG X ex (xG r c ex) := by
 unfold xG
 split
 ·split
  ·rename_i i h
   split
   ·rename_i v; obtain ⟨h1, h2⟩ := locB_of F v; exact jg_name i (by rw [F.N]; exact F.nd) (F.slot h) h1 h2
   ·exact jg_no
  ·exact jg_no
 ·split
  ·rename_i h
   obtain ⟨h1, h2⟩ := asg_len (env := X.env) h
   exact jg_tup (jgs_ev (R.g F) _ h) F.calm h1 h2
  ·exact jg_no
 ·exact jg_no
theorem js_no {st : Stmt} {f : DS} (h : ∀ ρ, f ρ = none) : JS X st f := fun ρ fl q => by rw [h ρ] at q; cases q
theorem bk_fun (F : Fit S c X) (h : c.df = true) : X.env.blockKind = .function := by
 unfold Env.blockKind
 rw [F.sc, (F.df h).2]; rfl
theorem swap_comp (elt : Expr) (gens : List Comprehension) (sc : Scope) (pv p' : Pos) (x : Str) (l : Nat) (env : Env) : swapsWith (.ListComp elt gens sc pv) (some (.Name x p')) l env =
  pure (env.blockKind == .function && env.kindOf x == some .local && p'.line == pv.line && !(sc.names.any fun (n, k) => n == x && (k == .local || k == .cell))) := rfl
theorem js_cAsg (R : Sound S r) (F : Fit S c X) {x : Str} {p' pv p : Pos} {elt : Expr} {gens : List Comprehension} {sc : Scope} {i : Nat} (hi : ixOf x c.N = some i) (hl : (c.sc.names.lookup x == some .local) = true)
  (h : (c.df && p'.line == pv.line && !(sc.names.any fun (n, k) => n == x && (k == .local || k == .cell))) = true) :
  JS X (.Assign [.Name x p'] (.ListComp elt gens sc pv) p) (sOwn i (evC S r c (.ListComp elt gens sc pv))) ∧ JS X (.Assign [.Name x p'] (.ListComp elt gens sc pv) p) (sSetN i (evC S r c (.ListComp elt gens sc pv))) := by
 unfold evC
 simp only [Bool.and_eq_true] at h
 have hl' : X.env.scope.names.lookup x = some .local := by rw [F.sc]; simpa using hl
 have hsw : swapsWith (.ListComp elt gens sc pv) (some (.Name x p')) p.line X.env = pure true := by
  rw [swap_comp, bk_fun F h.1.1, h.1.2, h.2]
  unfold Env.kindOf
  rw [hl']; rfl
 split
 ·rename_i elt tgt iter ifs scope pos he
  cases he
  dsimp only
  split
  ·rename_i hc
   obtain ⟨h1, h2, h3, h4, h5, h6⟩ := comp_ev (ifs := ifs) (elt := elt) R F hc
   exact ⟨js_ownC i (by rw [F.N]; exact F.nd) h1 F.hx h2 h3 h4 h5 (F.slot hi) hl' hsw F.calm h6, js_comp i (by rw [F.N]; exact F.nd) h1 F.hx h2 h3 h4 h5 (F.slot hi) hl' hsw F.calm h6⟩
  ·exact ⟨js_no fun ρ => rfl, js_no fun ρ => rfl⟩
 ·exact ⟨js_no fun ρ => rfl, js_no fun ρ => rfl⟩
theorem xAsg_ok (R : Sound S r) (F : Fit S c X) (tg v : Expr) (p : Pos) : JS X (.Assign [tg] v p) (xAsg S r c tg v p) := by
 have nd : X.N.Nodup := by rw [F.N]; exact F.nd
 unfold xAsg
 split
 ·rename_i x p'
  split
  ·exact js_never
  ·rename_i i hi
   split
   ·exact js_never
   ·rename_i hlo
    have hlo : locB c x = true := by simpa using hlo
    obtain ⟨l1, l2⟩ := locB_of F hlo
    split
    ·rename_i elt gens sc pv
     split
     ·rename_i hl
      split
      ·rename_i h
       split
       ·exact (js_cAsg R F hi hl h).1
       ·exact (js_cAsg R F hi hl h).2
      ·exact js_never
     ·rename_i hl
      refine js_set i nd (R.e F _) (F.slot hi) l1 ?_ l2
      rw [swap_comp]
      have : (X.env.kindOf x == some .local) = false := by
       unfold Env.kindOf
       rw [F.sc]; simpa using hl
      rw [this, Bool.and_false]; rfl
    ·split
     ·exact js_never
     ·rename_i hc
      have hc : isC v = false := by simpa using hc
      split
      ·exact js_own i nd (R.n F _) (F.slot hi) l1 (noC_swap hc _ _ _) l2
      ·exact js_set i nd (R.e F _) (F.slot hi) l1 (noC_swap hc _ _ _) l2
 ·split
  ·exact js_never
  ·rename_i i hi
   split
   ·rename_i h
    simp only [Bool.and_eq_true, Bool.not_eq_true'] at h
    obtain ⟨h1, h2, h3⟩ := visB_of F h.1
    exact js_spl i (R.n F _) (jo_ev (R.e F) _) (jo_ev (R.e F) _) (F.slot hi) h1 h2 h3 (noC_swap h.2 _ _ _)
   ·exact js_never
 ·rename_i x px y py kt pt
  split
  ·rename_i a b k2 p2
   split
   ·rename_i i j hi hj
    split
    ·rename_i h
     unfold parB at h
     simp only [Bool.and_eq_true, Bool.not_eq_true', beq_iff_eq] at h
     obtain ⟨⟨⟨⟨⟨⟨⟨⟨hd, ha⟩, hb⟩, hxy⟩, hl⟩, hx⟩, hy⟩, hf⟩, hcs⟩ := h
     have hx' : X.env.scope.names.lookup x = some .local := by rw [F.sc]; exact hx
     have hy' : X.env.scope.names.lookup y = some .local := by rw [F.sc]; exact hy
     have hne : i ≠ j := fun z => by
      subst z
      have := (F.slot hi).symm.trans (F.slot hj)
      cases this
      simp at hxy
     refine js_par nd (ja_ev (R.e F) [a, b]) ?_ hne (F.slot hi) (F.slot hj) hx' hy' F.calm rfl
     have kx : X.env.kindOf x = some .local := hx'
     have ky : X.env.kindOf y = some .local := hy'
     have st : ∀ e : Expr, pl e = true → (match e with | .Starred .. => true | _ => false) = false := fun e he => by cases e <;> first | rfl | cases he
     have sa := st a ha
     have sb := st b hb
     have hyx : (y == x) = false := by
      cases q : (y == x) with
      | false => rfl
      | true => simp only [beq_iff_eq] at q; subst q; simp at hxy
     simp only [swappedStores, List.length_cons, List.length_nil, List.head?_cons, xms, Option.getD_some, Expr.pos, List.filterMap_cons, List.filterMap_nil, kx, ky, bk_fun F hd, hf, hcs, hl, sa, sb, List.any_cons, List.any_nil]
     simp [List.eraseDups, List.eraseDupsBy, List.eraseDupsBy.loop, hxy, hyx]
     intro z
     rcases z with z | z
     ·cases a <;> first | exact absurd (show false = true from z) Bool.false_ne_true | exact nomatch ha
     ·cases b <;> first | exact absurd (show false = true from z) Bool.false_ne_true | exact nomatch hb
    ·exact js_never
   ·exact js_never
  ·exact js_never
  ·rename_i h1 h2
   refine js_asg (R.e F _) (R.g F _) ?_ ?_ rfl
   ·cases v <;> rfl
   ·cases v <;> first | rfl | exact (h2 _ _ _ rfl).elim
 ·rename_i es kt pt _
  split
  ·exact js_never
  ·rename_i h
   refine js_asg (R.e F _) (R.g F _) ?_ ?_ rfl
   ·cases v <;> rfl
   ·cases v <;> first | rfl | skip
    rename_i vs k3 p3
    have h : (es.length == 2 || es.length == 3) = false := by simpa [isTup] using h
    unfold swappedStores
    simp only [h, xnf, Bool.true_or, if_true]
 ·exact js_never
end
end G
namespace G
open PySem PySem.Spec PyProof.Rows L2
section
variable {X : Cx} {S : Sg} {c : Kx} {r : Ev}
theorem xMut_ok (R : Sound S r) (F : Fit S c X) (x m : Str) (e : Expr) (p apos cpos pos : Pos) (hl : (apos.endLine == cpos.line) = true) : JS X (.Expr (.Call (.Attribute (.Name x p) m apos) [e] [] cpos) pos) (xMut r c x m e) := by
 unfold xMut
 split
 ·exact js_never
 ·rename_i i hi
  split
  ·rename_i h
   simp only [Bool.and_eq_true] at h
   obtain ⟨h1, h2, h3⟩ := visB_of F h.1
   have hs := pl_star h.2 [] X.env
   split
   ·rename_i hm
    simp only [beq_iff_eq] at hm
    subst hm
    exact js_app i (R.e F e) (F.slot hi) h1 h2 h3 rfl (by rw [hs]; rfl) hl hs rfl
   ·split
    ·rename_i hm
     simp only [beq_iff_eq] at hm
     subst hm
     exact js_ext i (R.e F e) (F.slot hi) h1 h2 h3 hl hs
    ·exact js_never
  ·exact js_never
theorem xS0_ok (R : Sound S r) (F : Fit S c X) (st : Stmt) : JS X st (xS0 S r c st) := by
 unfold xS0
 split
 ·exact js_ret (R.e F _)
 ·exact js_if (R.t F _) (R.b F _) (R.b F _)
 ·exact js_while (R.t F _) (R.b F _) F.po
 ·split
  ·rename_i h; exact js_for (ji_ev R F _ _) (R.g F _) (R.b F _) F.po F.calm (pl_fold h _)
  ·exact js_never
 ·exact xAsg_ok R F _ _ _
 ·split
  ·rename_i h; exact xMut_ok R F _ _ _ _ _ _ _ h
  ·exact js_never
 ·exact js_cont
 ·exact js_brk
 ·exact js_pass
 ·exact js_never
theorem fzs_ok {st : Stmt} : ∀ (l : List Nat) {g : DS}, JS X st g → JS X st (l.foldl (fun g i => sFrz i g) g)
 | [], _, h => h
 | i :: l, _, h => fzs_ok l (js_frz i h)
theorem xS_ok (R : Sound S r) (F : Fit S c X) (st : Stmt) : JS X st (xS S r c st) := by
 unfold xS fzW
 split
 ·exact xS0_ok R F st
 ·exact fzs_ok _ (xS0_ok R F st)
theorem evB_ok {f : Stmt → DS} (h : ∀ st, JS X st (f st)) : ∀ sts, JSs X sts (evB f sts)
 | [] => jss_nil
 | [s] => jss_one (h s)
 | s :: t :: rest => jss_cons (h s) (evB_ok h (t :: rest))
theorem step_ok (R : Sound S r) : Sound S (step S r) :=
 ⟨fun F => xE_ok R F, fun F => xQ_ok R F, fun F => xN_ok R F, fun F => xT_ok R F, fun F => xG_ok R F, fun F => evB_ok (xS_ok R F)⟩
theorem ev_ok (S : Sg) : ∀ n, Sound S (ev S n)
 | 0 => ⟨fun _ _ => je_no, fun _ _ => jq_no, fun _ _ => jn_no, fun _ _ => jt_no, fun _ _ => jg_no, fun _ _ ρ fl q => by cases q⟩
 | n + 1 => step_ok (ev_ok S n)
end
structure Fd where
 x : Str
 st : Stmt
 ps : List Str
 N : List Str
 own : List Nat := []
 tx : List Nat := []
 old : Bool := false
 fz : List (Nat × List Nat) := []
 hc : List ((Nat × Nat) × List Nat) := []
def Fd.c (d : Fd) : Kx := { N := d.N, sc := defScope d.st, df := true, own := d.own, cpt := [], tx := d.tx, old := d.old, fz := d.fz, hc := d.hc }
def Fd.okB (d : Fd) : Bool := let sc := defScope d.st
 sc.kind == .function && !sc.isCoroutine && !sc.isGenerator && nodupB d.N && d.N.take d.ps.length == d.ps && (d.ps.all fun x => match sc.names.lookup x with | some .local => true | some .cell => true | _ => false) && sc.names.all fun y => match y.2 with | .free => false | _ => true
theorem Fd.sc {d : Fd} (h : d.okB = true) : FnScope d.N d.ps (defScope d.st) := by
 unfold Fd.okB at h
 simp only [Bool.and_eq_true, Bool.not_eq_true', beq_iff_eq, List.all_eq_true] at h
 obtain ⟨⟨⟨⟨⟨⟨h1, h2⟩, h3⟩, h4⟩, h5⟩, h6⟩, h7⟩ := h
 refine ⟨h1, h2, h3, nodupB_of h4, h5, fun x hx => ?_, fun y hy e => ?_⟩
 ·have := h6 x hx
  split at this
  ·rename_i q; exact .inl q
  ·rename_i q; exact .inr q
  ·cases this
 ·have := h7 y hy
  rw [e] at this
  cases this
def KF (K : PySem.W.Frag) (x : Str) (st : Stmt) : Prop := ∃ (f : Addr) (oc : Value) (od : Option Addr) (sl : Array (Option Value)) (kV dc pm : Value) (an : Option Addr) (cd ct : Value),
 PySem.W.nsIn K mainGlobals x = some (some (.ref f)) ∧ K.lookup f = some ⟨oc, od, .func (PySem.W.fnOf x x (defArgs st) (defBody st) (defScope st) .none kV dc pm an cd ct), sl⟩ ∧ PySem.W.codeIn K cd x = true ∧ PySem.W.keepIn K (.ref f) = true
theorem kf_mk {K : PySem.W.Frag} {x : Str} {st : Stmt} {f : Addr} {oc : Value} {od : Option Addr} {sl : Array (Option Value)} {kV dc pm : Value} {an : Option Addr} {cd ct : Value} (a : PySem.W.nsIn K mainGlobals x = some (some (.ref f)))
  (l : K.lookup f = some ⟨oc, od, .func (PySem.W.fnOf x x (defArgs st) (defBody st) (defScope st) .none kV dc pm an cd ct), sl⟩) (c : PySem.W.codeIn K cd x = true) (k : PySem.W.keepIn K (.ref f) = true) : KF K x st := ⟨f, oc, od, sl, kV, dc, pm, an, cd, ct, a, l, c, k⟩
abbrev Tab := List (Str × FnD × Nat)
section
variable {P : Program} {w : World} {K : PySem.W.Frag} {mg : Str → Option Value} {base : Heap} {cs : List (Str × D)} {bl : List Str}
structure Md (K : PySem.W.Frag) (mg : Str → Option Value) (cs : List (Str × D)) (bl : List Str) : Prop where
 ns : ∀ x v, PySem.W.nsIn K mainGlobals x = some (some v) → mg x = some v
 css : ∀ x d, cs.lookup x = some d → ∃ u, KRep K d u ∧ mg x = some u
 bls : ∀ x, bl.contains x = true → mg x = none
def TOk (P : Program) (w : World) (K : PySem.W.Frag) (mg : Str → Option Value) (base : Heap) (k : Nat) (tab : Tab) : Prop := ∀ x F n, tab.lookup x = some (F, n) → ∃ (f : Addr) (fd : FuncData) (ps : List Str),
 FnOk P w K mg base CX0 k f fd ps (spF K n F) ∧ mg x = some (.ref f) ∧ PySem.W.keepIn K (.ref f) = true ∧ Binds K fd ps []
theorem TOk.nil : TOk P w K mg base 0 [] := fun x F n h => by cases h
theorem TOk.mono {j k : Nat} {tab : Tab} (T : TOk P w K mg base j tab) (h : j ≤ k) : TOk P w K mg base k tab := fun x F n e =>
 let ⟨f, fd, ps, h1, h2, h3, h4⟩ := T x F n e; ⟨f, fd, ps, h1.mono h, h2, h3, h4⟩
def Bd (d : Fd) : Prop := ∀ (kV doc pm : Value) (an : Option Addr) (cdv ct : Value) (us : List Value), us.length = d.ps.length → bindArgs (PySem.W.fnOf d.x d.x (defArgs d.st) (defBody d.st) (defScope d.st) .none kV doc pm an cdv ct) ⟨us, []⟩ = pure (d.ps.zip us)
def rd (tab : Tab) (cs : List (Str × D)) (bl : List Str) (d : Fd) : FnD := runD ((ev ⟨tab, cs, bl⟩ 99).b d.c (defBody d.st)) d.N.length
theorem fn_ev {k : Nat} {tab : Tab} {d : Fd} {f : Addr} {fd : FuncData} (M : Md K mg cs bl) (T : TOk P w K mg base k tab) (ok : d.okB = true) (Fn : Fun K d.x d.x d.st f fd) : FnOk P w K mg base CX0 (k + 1) f fd d.ps (spF K d.ps.length (rd tab cs bl d)) := by
 have Sc := Fd.sc ok
 refine fn_rule (N := d.N) Fn Sc fun cdv A outer s H E hr => (ev_ok ⟨tab, cs, bl⟩ 99).b (c := d.c) ?_ _
 refine ⟨rfl, rfl, Sc.nd, rfl, rfl, hr.units, fun _ => ⟨fun _ => rfl, Sc.kind⟩, fun x F n h => ?_, M.css, M.bls⟩
 obtain ⟨f', fd', ps, h1, h2, h3, h4⟩ := T x F n h
 exact ⟨k, f', fd', ps, h1, hr, h2, h3, h4⟩
theorem kf_fun {x : Str} {st : Stmt} (h : KF K x st) (M : Md K mg cs bl) : ∃ (f : Addr) (kV dc pm : Value) (an : Option Addr) (cd ct : Value), Fun K x x st f (PySem.W.fnOf x x (defArgs st) (defBody st) (defScope st) .none kV dc pm an cd ct) ∧ mg x = some (.ref f) := by
 obtain ⟨f, oc, od, sl, kV, dc, pm, an, cd, ct, a, l, cc, kk⟩ := h
 exact ⟨f, kV, dc, pm, an, cd, ct, fun_mk l cc kk, M.ns _ _ a⟩
theorem TOk.cons {k : Nat} {tab : Tab} {x : Str} {F : FnD} {n : Nat} (T : TOk P w K mg base k tab) (h : ∃ (f : Addr) (fd : FuncData) (ps : List Str), FnOk P w K mg base CX0 k f fd ps (spF K n F) ∧ mg x = some (.ref f) ∧ PySem.W.keepIn K (.ref f) = true ∧ Binds K fd ps []) :
  TOk P w K mg base k ((x, F, n) :: tab) := fun y G m e => by
 rw [List.lookup_cons] at e
 split at e
 ·rename_i q
  cases e
  simp only [beq_iff_eq] at q
  subst q
  exact h
 ·exact T y G m e
theorem TOk.add {k n : Nat} {tab : Tab} {F : FnD} (T : TOk P w K mg base k tab) (M : Md K mg cs bl) (d : Fd) (h : KF K d.x d.st) (bd : Bd d) (ok : d.okB = true) (hn : d.ps.length = n) (e : rd tab cs bl d = F) : TOk P w K mg base (k + 1) ((d.x, F, n) :: tab) := by
 subst hn e
 obtain ⟨f, kV, dc, pm, an, cd, ct, Fn, hm⟩ := kf_fun h M
 exact (T.mono (Nat.le_succ k)).cons ⟨f, _, d.ps, fn_ev M T ok Fn, hm, Fn.kp, .all (bd kV dc pm an cd ct)⟩
theorem TOk.rec {k n : Nat} {tab : Tab} {F : Nat → FnD} (T : TOk P w K mg base k tab) (M : Md K mg cs bl) (d : Fd) (h : KF K d.x d.st) (bd : Bd d) (ok : d.okB = true) (hn : d.ps.length = n) (e0 : F 0 = fun _ => none) (e : ∀ j, rd ((d.x, F j, n) :: tab) cs bl d = F (j + 1)) (j : Nat) :
  TOk P w K mg base (k + j) ((d.x, F j, n) :: tab) := by
 subst hn
 obtain ⟨f, kV, dc, pm, an, cd, ct, Fn, hm⟩ := kf_fun h M
 have bb : Binds K _ d.ps [] := .all (bd kV dc pm an cd ct)
 have main : ∀ j, FnOk P w K mg base CX0 (k + j) f (PySem.W.fnOf d.x d.x (defArgs d.st) (defBody d.st) (defScope d.st) .none kV dc pm an cd ct) d.ps (spF K d.ps.length (F j)) := fun j => by
  induction j with
  | zero =>
   rw [e0]
   exact ⟨fun vs H Q E h => h.1, fun A outer s H args us vs Q E hr e0 hb hv hs => by obtain ⟨_, Hf, ds, d, _, _, e, _⟩ := hs; cases e⟩
  | succ j ih =>
   rw [← e j]
   exact fn_ev M ((T.mono (Nat.le_add_right k j)).cons ⟨f, _, d.ps, ih, hm, Fn.kp, bb⟩) ok Fn
 exact (T.mono (Nat.le_add_right k j)).cons ⟨f, _, d.ps, main j, hm, Fn.kp, bb⟩
theorem TOk.rec2 {k n m : Nat} {tab : Tab} {F G : Nat → FnD} (T : TOk P w K mg base k tab) (M : Md K mg cs bl) (d d' : Fd) (h : KF K d.x d.st) (h' : KF K d'.x d'.st) (bd : Bd d) (bd' : Bd d') (ok : d.okB = true) (ok' : d'.okB = true) (hn : d.ps.length = n) (hm : d'.ps.length = m)
  (e0 : F 0 = fun _ => none) (e0' : G 0 = fun _ => none) (e : ∀ j, rd ((d.x, F j, n) :: (d'.x, G j, m) :: tab) cs bl d = F (j + 1)) (e' : ∀ j, rd ((d.x, F j, n) :: (d'.x, G j, m) :: tab) cs bl d' = G (j + 1)) (j : Nat) :
  TOk P w K mg base (k + j) ((d.x, F j, n) :: (d'.x, G j, m) :: tab) := by
 subst hn hm
 obtain ⟨f, kV, dc, pm, an, cd, ct, Fn, hm⟩ := kf_fun h M
 obtain ⟨f', kV', dc', pm', an', cd', ct', Fn', hm'⟩ := kf_fun h' M
 have b1 : Binds K _ d.ps [] := .all (bd kV dc pm an cd ct)
 have b2 : Binds K _ d'.ps [] := .all (bd' kV' dc' pm' an' cd' ct')
 have none_ok : ∀ {f : Addr} {fd : FuncData} {ps : List Str}, FnOk P w K mg base CX0 (k + 0) f fd ps (spF K ps.length fun _ => none) := fun {f fd ps} =>
  ⟨fun vs H Q E h => h.1, fun A outer s H args us vs Q E hr e0 hb hv hs => by obtain ⟨_, Hf, ds, d, _, _, e, _⟩ := hs; cases e⟩
 have main : ∀ j, TOk P w K mg base (k + j) ((d.x, F j, d.ps.length) :: (d'.x, G j, d'.ps.length) :: tab) := fun j => by
  induction j with
  | zero => rw [e0, e0']; exact ((T.mono (Nat.le_refl _)).cons ⟨f', _, d'.ps, none_ok, hm', Fn'.kp, b2⟩).cons ⟨f, _, d.ps, none_ok, hm, Fn.kp, b1⟩
  | succ j ih =>
   have o1 := fn_ev M ih ok Fn
   have o2 := fn_ev M ih ok' Fn'
   rw [e j] at o1
   rw [e' j] at o2
   exact ((T.mono (Nat.le_add_right k (j + 1))).cons ⟨f', _, d'.ps, o2, hm', Fn'.kp, b2⟩).cons ⟨f, _, d.ps, o1, hm, Fn.kp, b1⟩
 exact main j
theorem TOk.rec3 {k n1 n2 n3 : Nat} {tab : Tab} {F1 F2 F3 : Nat → FnD} (T : TOk P w K mg base k tab) (M : Md K mg cs bl) (d1 d2 d3 : Fd) (h1 : KF K d1.x d1.st) (h2 : KF K d2.x d2.st) (h3 : KF K d3.x d3.st) (q1 : Bd d1) (q2 : Bd d2) (q3 : Bd d3) (ok1 : d1.okB = true) (ok2 : d2.okB = true) (ok3 : d3.okB = true)
  (m1 : d1.ps.length = n1) (m2 : d2.ps.length = n2) (m3 : d3.ps.length = n3) (z1 : F1 0 = fun _ => none) (z2 : F2 0 = fun _ => none) (z3 : F3 0 = fun _ => none)
  (e1 : ∀ j, rd ((d1.x, F1 j, n1) :: (d2.x, F2 j, n2) :: (d3.x, F3 j, n3) :: tab) cs bl d1 = F1 (j + 1)) (e2 : ∀ j, rd ((d1.x, F1 j, n1) :: (d2.x, F2 j, n2) :: (d3.x, F3 j, n3) :: tab) cs bl d2 = F2 (j + 1))
  (e3 : ∀ j, rd ((d1.x, F1 j, n1) :: (d2.x, F2 j, n2) :: (d3.x, F3 j, n3) :: tab) cs bl d3 = F3 (j + 1)) (j : Nat) :
  TOk P w K mg base (k + j) ((d1.x, F1 j, n1) :: (d2.x, F2 j, n2) :: (d3.x, F3 j, n3) :: tab) := by
 subst m1 m2 m3
 obtain ⟨f1, a1, a2, a3, a4, a5, a6, Fn1, hm1⟩ := kf_fun h1 M
 obtain ⟨f2, c1, c2, c3, c4, c5, c6, Fn2, hm2⟩ := kf_fun h2 M
 obtain ⟨f3, g1, g2, g3, g4, g5, g6, Fn3, hm3⟩ := kf_fun h3 M
 have b1 : Binds K _ d1.ps [] := .all (q1 a1 a2 a3 a4 a5 a6)
 have b2 : Binds K _ d2.ps [] := .all (q2 c1 c2 c3 c4 c5 c6)
 have b3 : Binds K _ d3.ps [] := .all (q3 g1 g2 g3 g4 g5 g6)
 have none_ok : ∀ {f : Addr} {fd : FuncData} {ps : List Str}, FnOk P w K mg base CX0 (k + 0) f fd ps (spF K ps.length fun _ => none) := fun {f fd ps} =>
  ⟨fun vs H Q E h => h.1, fun A outer s H args us vs Q E hr e0 hb hv hs => by obtain ⟨_, Hf, ds, d, _, _, e, _⟩ := hs; cases e⟩
 induction j with
 | zero => rw [z1, z2, z3]; exact (((T.mono (Nat.le_refl _)).cons ⟨f3, _, d3.ps, none_ok, hm3, Fn3.kp, b3⟩).cons ⟨f2, _, d2.ps, none_ok, hm2, Fn2.kp, b2⟩).cons ⟨f1, _, d1.ps, none_ok, hm1, Fn1.kp, b1⟩
 | succ j ih =>
  have o1 := fn_ev M ih ok1 Fn1
  have o2 := fn_ev M ih ok2 Fn2
  have o3 := fn_ev M ih ok3 Fn3
  rw [e1 j] at o1
  rw [e2 j] at o2
  rw [e3 j] at o3
  exact (((T.mono (Nat.le_add_right k (j + 1))).cons ⟨f3, _, d3.ps, o3, hm3, Fn3.kp, b3⟩).cons ⟨f2, _, d2.ps, o2, hm2, Fn2.kp, b2⟩).cons ⟨f1, _, d1.ps, o1, hm1, Fn1.kp, b1⟩
theorem law_top {k : Nat} {tab : Tab} {F : FnD} {fa : Addr} {x : Str} (M : Md K mg cs bl) (T : ∀ base : Heap, TOk P w K mg base k tab) (d : Fd) (h : KF K d.x d.st) (bd : Bd d) (ok : d.okB = true) (hp : d.ps = [x]) (e : rd tab cs bl d = F) (hm : mg d.x = some (.ref fa)) :
  ∃ fd : FuncData, (∀ (s : Shared) (u : Value), BindsTo s fd ⟨[u], []⟩ [(x, u)]) ∧ ∀ base : Heap, FnOk P w K mg base CX0 (k + 1) fa fd [x] (spF K 1 F) := by
 subst e
 obtain ⟨f, kV, dc, pm, an, cd, ct, Fn, hm'⟩ := kf_fun h M
 cases hm.symm.trans hm'
 refine ⟨PySem.W.fnOf d.x d.x (defArgs d.st) (defBody d.st) (defScope d.st) .none kV dc pm an cd ct, fun s u => .of_eq ?_, fun base => ?_⟩
 ·have := bd kV dc pm an cd ct [u] (by rw [hp]; rfl)
  rw [hp] at this
  exact this
 ·have := fn_ev M (T base) ok Fn
  rw [hp] at this
  exact this
end
end G
namespace Lk61
open PySem PySem.Spec PyProof.Rows L2 G Sh
def top (i : Nat) : Stmt := PySem.Challenge.pw_glazework_k61_whole_boxes.main.body.getD i (.Pass ⟨0, 0, 0, 0⟩)
abbrev s_common_divisor : Stmt := top 2
abbrev s_least_form : Stmt := top 3
abbrev s_is_at_most : Stmt := top 4
abbrev s_added : Stmt := top 5
abbrev s_lessened : Stmt := top 6
abbrev s_times : Stmt := top 7
abbrev s_rest_of : Stmt := top 8
abbrev s_at_most_one : Stmt := top 9
abbrev s_kind_of : Stmt := top 11
abbrev s_is_layer : Stmt := top 12
abbrev s_is_group : Stmt := top 13
abbrev s_is_tone : Stmt := top 14
abbrev s_name_of : Stmt := top 15
abbrev s_manner_of : Stmt := top 16
abbrev s_rule_of : Stmt := top 17
abbrev s_strength_of : Stmt := top 18
abbrev s_is_shown : Stmt := top 19
abbrev s_left_of : Stmt := top 20
abbrev s_top_of : Stmt := top 21
abbrev s_mask_of : Stmt := top 22
abbrev s_sheet_of : Stmt := top 23
abbrev s_inner_nodes : Stmt := top 24
abbrev s_with_inner_nodes : Stmt := top 25
abbrev s_weighted : Stmt := top 29
abbrev s_blended_cover : Stmt := top 30
abbrev s_blended_colour : Stmt := top 31
abbrev s_blended : Stmt := top 32
abbrev s_by_rule : Stmt := top 33
abbrev s_mixed : Stmt := top 34
abbrev s_toned : Stmt := top 35
abbrev s_places_of : Stmt := top 37
abbrev s_has_place : Stmt := top 38
abbrev s_number_of_place : Stmt := top 39
abbrev s_spot_at : Stmt := top 40
abbrev s_masked_spot : Stmt := top 42
abbrev s_brought : Stmt := top 43
abbrev s_shown_above : Stmt := top 44
abbrev s_shown_by : Stmt := top 45
abbrev s_flat_at : Stmt := top 46
abbrev s_flat : Stmt := top 47
abbrev s_box_between : Stmt := top 49
abbrev s_joined_box : Stmt := top 50
abbrev s_joined_boxes : Stmt := top 51
abbrev s_whole_box : Stmt := top 52
abbrev s_places_in : Stmt := top 53
abbrev s_box_of_layer : Stmt := top 54
abbrev s_box_of : Stmt := top 55
abbrev s_changed_box : Stmt := top 56
abbrev s_names_among : Stmt := top 61
abbrev s_names_in : Stmt := top 62
abbrev s_number_among : Stmt := top 63
abbrev s_tuple_with : Stmt := top 64
abbrev s_nodes_beside : Stmt := top 65
abbrev s_nodes_with_others : Stmt := top 66
abbrev s_node_with_others : Stmt := top 67
abbrev s_with_nodes_beside : Stmt := top 68
abbrev s_with_node : Stmt := top 69
abbrev s_nodes_without : Stmt := top 71
abbrev s_without : Stmt := top 72
abbrev s_l_cell : Stmt := top 74
abbrev s_l_drawn : Stmt := top 75
abbrev s_l_made : Stmt := top 76
abbrev s_l_times : Stmt := top 78
abbrev s_l_share : Stmt := top 80
abbrev s_l_spot : Stmt := top 81
abbrev s_l_sheet : Stmt := top 82
abbrev s_l_names : Stmt := top 83
abbrev s_l_leaf : Stmt := top 84
abbrev s_l_nodes : Stmt := top 85
abbrev s_l_picture : Stmt := top 86
abbrev s_l_all : Stmt := top 87
abbrev s_l_lies_within : Stmt := top 88
abbrev s_l_known_one : Stmt := top 89
abbrev s_l_stands : Stmt := top 90
abbrev s_law : Stmt := top 91
def G_l_known_one : DS := (sSeq (sSet 0 (dTup (aCons (dC (.int 1)) (aCons (dC (.int 1)) (aCons (dTup (aCons (dTup (aCons (dTup (aCons (dC (.int 1)) (aCons (dC (.int 1)) aNil))) (aCons (dTup (aCons (dC (.int 1)) (aCons (dC (.int 1)) aNil))) (aCons (dTup (aCons (dC (.int 0)) (aCons (dC (.int 1)) aNil))) (aCons (dTup (aCons (dC (.int 0)) (aCons (dC (.int 1)) aNil))) aNil))))) aNil)) aNil))))) (sSeq (sSet 1 (dTupN (qN (nComp 2 [0] (iSeq (dTup (aCons (dTup (aCons (dC (.str "a")) (aCons (dC (.int 0)) aNil))) (aCons (dTup (aCons (dC (.str "b")) (aCons (dC (.int 2)) aNil))) aNil)))) (gTupD 2 (gsCons (gSet 0) (gsCons (gSet 1) gsNil))) cTrue (dTup (aCons (dC (.str "layer")) (aCons (dVar 0) (aCons (dC (.str "over")) (aCons (dTup (aCons (dC (.int 1)) (aCons (dC (.int 1)) aNil))) (aCons (dC (.bool true)) (aCons (dVar 1) (aCons (dC (.int 0)) (aCons (dC .none) (aCons (dVar 2) aNil)))))))))))))) (sSeq (sSet 2 (dTup (aCons (dC (.str "group")) (aCons (dC (.str "c")) (aCons (dC (.str "over")) (aCons (dTup (aCons (dC (.int 1)) (aCons (dC (.int 1)) aNil))) (aCons (dC (.bool true)) (aCons (dVar 1) aNil)))))))) (sRet (dAnd (dBin eqD (dCall (F_box_of 12) (aCons (dTup (aCons (dC (.int 3)) (aCons (dC (.int 1)) (aCons (dTup (aCons (dVar 2) aNil)) aNil)))) (aCons (dVar 2) aNil))) (dTup (aCons (dC (.int 0)) (aCons (dC (.int 0)) (aCons (dC (.int 3)) (aCons (dC (.int 1)) aNil)))))) (dBin eqD (dCall (F_box_of 12) (aCons (dTup (aCons (dC (.int 2)) (aCons (dC (.int 1)) (aCons (dTup (aCons (dVar 2) aNil)) aNil)))) (aCons (dVar 2) aNil))) (dTup (aCons (dC (.int 0)) (aCons (dC (.int 0)) (aCons (dC (.int 1)) (aCons (dC (.int 1)) aNil)))))))))))
def F_l_known_one : List D → Option D := runD G_l_known_one 3
def st_l_stands_0 : DS := (sSet 1 (dCall F_l_names (aCons (dVar 0) (aCons (dC (.int 0)) (aCons (dC (.int 7)) aNil)))))
def st_l_stands_1 : DS := (sSet 2 (dCall F_l_picture (aCons (dVar 0) (aCons (dC (.int 30)) (aCons (dC (.int 4)) (aCons (dVar 1) aNil))))))
def st_l_stands_2 : DS := (sAsg (dVar 2) (gTupD 3 (gsCons (gSet 3) (gsCons (gSet 4) (gsCons (gSet 5) gsNil)))))
def st_l_stands_3 : DS := (sFor (iSeq (dCall (F_l_all 12) (aCons (dVar 5) aNil))) (gSet 6) (sSeq (sSet 7 (dCall F_l_leaf (aCons (dVar 0) (aCons (dC (.int 800)) (aCons (dIx (qVar 6) (dC (.int 1))) (aCons (dC (.str "multiply")) aNil)))))) (sSeq (sSet 8 (dCall (F_box_of 12) (aCons (dVar 2) (aCons (dVar 6) aNil)))) (sSeq (sSet 9 (dCall (F_box_of 12) (aCons (dVar 2) (aCons (dVar 7) aNil)))) (sSeq (sSet 10 (dCall F_joined_box (aCons (dVar 8) (aCons (dVar 9) aNil)))) (sSeq (sIf (tOr2 (tNot2 (tTru (dCall F_l_lies_within (aCons (dVar 8) (aCons (dVar 10) aNil))))) (tOr2 (tNot2 (tTru (dCall F_l_lies_within (aCons (dVar 9) (aCons (dVar 10) aNil))))) (tB2 neD (dCall F_joined_box (aCons (dVar 9) (aCons (dVar 8) aNil))) (dVar 10)))) (sRet (dC (.bool false))) sNil) (sSeq (sIf (tOr2 (tB2 neD (dCall F_joined_box (aCons (dVar 8) (aCons (dVar 8) aNil))) (dVar 8)) (tNot2 (tTru (dCall F_l_lies_within (aCons (dVar 8) (aCons (dTup (aCons (dC (.int 0)) (aCons (dC (.int 0)) (aCons (dVar 3) (aCons (dVar 4) aNil))))) aNil)))))) (sRet (dC (.bool false))) sNil) (sSeq (sIf (tNot2 (tTru (dCall F_l_lies_within (aCons (dCall F_changed_box (aCons (dVar 2) (aCons (dCall F_with_node (aCons (dVar 2) (aCons (dIx (qVar 6) (dC (.int 1))) (aCons (dVar 7) aNil)))) aNil))) (aCons (dVar 10) aNil))))) (sRet (dC (.bool false))) sNil) (sIf (tNot2 (tTru (dCall F_l_lies_within (aCons (dCall F_changed_box (aCons (dVar 2) (aCons (dCall F_without (aCons (dVar 2) (aCons (dLst (aCons (dIx (qVar 6) (dC (.int 1))) aNil)) aNil))) aNil))) (aCons (dVar 8) aNil))))) (sRet (dC (.bool false))) sNil)))))))))
def st_l_stands_4 : DS := (sSet 11 (dCall F_l_drawn (aCons (dVar 0) (aCons (dC (.int 22)) (aCons (dBin catE (dLen (qVar 5)) (dC (.int 1))) aNil)))))
def st_l_stands_5 : DS := (sSet 12 (dCall F_l_leaf (aCons (dVar 0) (aCons (dC (.int 980)) (aCons (dIx (qVar 1) (dC (.int 6))) (aCons (dC (.str "over")) aNil))))))
def st_l_stands_6 : DS := (sSet 13 (dTup (aCons (dVar 3) (aCons (dVar 4) (aCons (dBin catE (dBin catE (dSlA (dVar 5) oNone (oSome (dVar 11))) (dTup (aCons (dVar 12) aNil))) (dSlA (dVar 5) (oSome (dVar 11)) oNone)) aNil)))))
def st_l_stands_7 : DS := (sIf (tNot2 (tTru (dCall F_l_lies_within (aCons (dCall F_changed_box (aCons (dVar 2) (aCons (dVar 13) aNil))) (aCons (dCall (F_box_of 12) (aCons (dVar 2) (aCons (dVar 12) aNil))) aNil))))) (sRet (dC (.bool false))) sNil)
def st_l_stands_8 : DS := (sRet (dOr (dBin notB (dCall (F_box_of 12) (aCons (dVar 2) (aCons (dVar 12) aNil))) (dC .none)) (dBin eqD (dCall F_flat (aCons (dVar 13) aNil)) (dCall F_flat (aCons (dVar 2) aNil)))))
def G_l_stands : DS := (sSeq st_l_stands_0 (sSeq st_l_stands_1 (sSeq st_l_stands_2 (sSeq st_l_stands_3 (sSeq st_l_stands_4 (sSeq st_l_stands_5 (sSeq st_l_stands_6 (sSeq st_l_stands_7 st_l_stands_8))))))))
def F_l_stands : List D → Option D := runD G_l_stands 14
def G_law : DS := (sRet (dAnd (dCall F_l_known_one aNil) (dCall F_l_stands (aCons (dVar 0) aNil))))
def F_law : List D → Option D := runD G_law 1
end Lk61
namespace Lk61
open PySem G L2 Sh
def okB : Option D → Bool
 | some (.bool b) => b
 | _ => false
theorem of_okB {o : Option D} (h : okB o = true) : o = some (.bool true) := by
 unfold okB at h
 split at h
 ·subst h; rfl
 ·cases h
theorem known : F_l_known_one [] = some (.bool true) := of_okB (by decide +kernel)
theorem ly_bx (A : Bx) : Ly 1 (bxD A) := by
 cases A with
 | none => exact ⟨rfl, Nat.zero_le _⟩
 | some a =>
  refine Ly.tup fun x hx => ?_
  simp only [List.mem_cons, List.not_mem_nil, or_false] at hx
  rcases hx with rfl | rfl | rfl | rfl <;> exact Ly.int _ _
theorem ne_bx (A : Bx) : neD (bxD A) (bxD A) = some (.bool false) := ne_self (ly_bx A) (by decide)
theorem ix1 (n : Nd) : ∃ ds : List D, n.d = .tuple ds ∧ atI ds 1 = some n.nm := by
 cases n <;> exact ⟨_, by rw [Nd.d], rfl⟩
theorem thin_of {a b l : List Nd} {n : Nd} (h : Stands a n b l) : Nd.thins l → n.thin := by
 induction h with
 | top => intro t; exact (thins_iff _).mp t n (by simp)
 | @deep c e nm m s sh ns h ih =>
  intro t
  have := (thins_iff _).mp t (.group nm m s sh ns) (by simp)
  rw [Nd.thin] at this
  exact ih this.2
theorem thin0 {n : Nd} (h : n.dp = 0) : n.thin := by
 cases n with
 | layer => rw [Nd.thin]; trivial
 | tone => rw [Nd.thin]; trivial
 | group => rw [Nd.dp] at h; omega
theorem small' {a b l l' : List Nd} {n n' : Nd} (h : Subst a n b n' l l') (ok : n'.Ok) (wg : n'.wg ≤ 40) (dp : n'.dp = 0) : Nd.Oks l → Nd.Oks l' ∧ Nd.wgs l' ≤ Nd.wgs l + 40 ∧ Nd.dps l' ≤ Nd.dps l := by
 induction h with
 | top =>
  intro o
  rw [oks_iff] at o ⊢
  refine ⟨fun m hm => ?_, ?_, ?_⟩
  ·rcases List.mem_append.mp hm with q | q
   ·exact o m (List.mem_append_left _ q)
   ·rcases List.mem_cons.mp q with rfl | q
    ·exact ok
    ·exact o m (List.mem_append_right _ (List.mem_cons_of_mem _ q))
  ·rw [wgs_app, wgs_app, Nd.wgs, Nd.wgs]; omega
  ·rw [dps_app, dps_app, Nd.dps, Nd.dps]; omega
 | @deep c e nm m s sh ns ns' h ih =>
  intro o
  rw [oks_iff] at o ⊢
  have og := o (.group nm m s sh ns) (by simp)
  rw [Nd.Ok] at og
  obtain ⟨i1, i2, i3⟩ := ih og.2
  refine ⟨fun m hm => ?_, ?_, ?_⟩
  ·rcases List.mem_append.mp hm with q | q
   ·exact o m (List.mem_append_left _ q)
   ·rcases List.mem_cons.mp q with rfl | q
    ·rw [Nd.Ok]; exact ⟨og.1, i1⟩
    ·exact o m (List.mem_append_right _ (List.mem_cons_of_mem _ q))
  ·rw [wgs_app, wgs_app, Nd.wgs, Nd.wgs, Nd.wg, Nd.wg]; omega
  ·rw [dps_app, dps_app, Nd.dps, Nd.dps, Nd.dp, Nd.dp]; omega
abbrev en (ns : List Int) (N : List D) (w h : Nat) (l : List Nd) (r6 r7 r8 r9 r10 r11 r12 r13 : Option B) : Rho := [‹scr ns›, ‹.list N›, ‹picD w h l›, ‹.int w›, ‹.int h›, ‹.tuple (Nd.ds l)›, r6, r7, r8, r9, r10, r11, r12, r13]
def bd0 : DS := (sSet 7 (dCall F_l_leaf (aCons (dVar 0) (aCons (dC (.int 800)) (aCons (dIx (qVar 6) (dC (.int 1))) (aCons (dC (.str "multiply")) aNil))))))
def bd1 : DS := (sSet 8 (dCall (F_box_of 12) (aCons (dVar 2) (aCons (dVar 6) aNil))))
def bd2 : DS := (sSet 9 (dCall (F_box_of 12) (aCons (dVar 2) (aCons (dVar 7) aNil))))
def bd3 : DS := (sSet 10 (dCall F_joined_box (aCons (dVar 8) (aCons (dVar 9) aNil))))
def bd4 : DS := (sIf (tOr2 (tNot2 (tTru (dCall F_l_lies_within (aCons (dVar 8) (aCons (dVar 10) aNil))))) (tOr2 (tNot2 (tTru (dCall F_l_lies_within (aCons (dVar 9) (aCons (dVar 10) aNil))))) (tB2 neD (dCall F_joined_box (aCons (dVar 9) (aCons (dVar 8) aNil))) (dVar 10)))) (sRet (dC (.bool false))) sNil)
def bd5 : DS := (sIf (tOr2 (tB2 neD (dCall F_joined_box (aCons (dVar 8) (aCons (dVar 8) aNil))) (dVar 8)) (tNot2 (tTru (dCall F_l_lies_within (aCons (dVar 8) (aCons (dTup (aCons (dC (.int 0)) (aCons (dC (.int 0)) (aCons (dVar 3) (aCons (dVar 4) aNil))))) aNil)))))) (sRet (dC (.bool false))) sNil)
def bd6 : DS := (sIf (tNot2 (tTru (dCall F_l_lies_within (aCons (dCall F_changed_box (aCons (dVar 2) (aCons (dCall F_with_node (aCons (dVar 2) (aCons (dIx (qVar 6) (dC (.int 1))) (aCons (dVar 7) aNil)))) aNil))) (aCons (dVar 10) aNil))))) (sRet (dC (.bool false))) sNil)
def bd7 : DS := (sIf (tNot2 (tTru (dCall F_l_lies_within (aCons (dCall F_changed_box (aCons (dVar 2) (aCons (dCall F_without (aCons (dVar 2) (aCons (dLst (aCons (dIx (qVar 6) (dC (.int 1))) aNil)) aNil))) aNil))) (aCons (dVar 8) aNil))))) (sRet (dC (.bool false))) sNil)
structure Good (l : List Nd) : Prop where
 ok : Nd.Oks l
 wg : Nd.wgs l ≤ 400
 dp : Nd.dps l ≤ 3
 len : l.length ≤ 100
 th : Nd.thins l
 hs : ∀ d ∈ Nd.nmss l, NStr d
 nd : (Nd.nmss l).Nodup
 nl : (Nd.nmss l).length ≤ 1000
theorem body_ok (ns : List Int) (hn : ns.length ≤ 63) {w h : Nat} {l : List Nd} (g : Good l) (w1 : 1 ≤ w) (w8 : w ≤ 8) (h1 : 1 ≤ h) (h8 : h ≤ 8) {a b : List Nd} {n : Nd} (St : Stands a n b l) (N : List D) (r7 r8 r9 r10 : Option B) : ∃ r7' r8' r9' r10', (sSeq bd0 (sSeq bd1 (sSeq bd2 (sSeq bd3 (sSeq bd4 (sSeq bd5 (sSeq bd6 bd7))))))) (en ns N w h l (some (.val n.d)) r7 r8 r9 r10 none none none) = some (.nx (en ns N w h l (some (.val n.d)) r7' r8' r9' r10' none none none)) := by
 have hw : (0 : Int) < (w : Int) := by omega
 have hh : (0 : Int) < (h : Int) := by omega
 have P := St.props
 have hin := St.nm n.nm (nm_mem n)
 have hnn := g.hs _ hin
 have oks := P.ok g.ok
 have dpn := P.dp
 have gd := g.dp
 have gw := g.wg
 have gl := g.len
 have S : Small6 l := ⟨g.ok, by omega, by omega⟩
 obtain ⟨o, eo, oo, od, ow, onm, _⟩ := leaf_ok ns hn 800 (by decide) n.nm .mult
 have eo : F_l_leaf [scr ns, .int 800, n.nm, .str "multiply"] = some o.d := eo
 have b1 := box_ok w h l 3 n 12 (by omega) (by decide) (thin_of St g.th)
 have b2 := box_ok w h l 3 o 12 (by omega) (by decide) (thin0 od)
 have wfA := bx_wf (w : Int) h hw hh n
 have wfB := bx_wf (w : Int) h hw hh o
 have j1 := jn_ok (n.bx w h) (o.bx w h)
 have j2 := jn_ok (o.bx w h) (n.bx w h)
 rw [jn_comm] at j2
 have j3 := jn_ok (n.bx w h) (n.bx w h)
 rw [jn_self wfA] at j3
 have i1 := within_ok (le_left (B := o.bx w h) wfA)
 have i2 := within_ok (le_right (A := n.bx w h) wfB)
 have i3 := within_ok (bx_le (w : Int) h hw hh n)
 have eW : bxD (some (0, 0, (w : Int), (h : Int))) = .tuple [.int 0, .int 0, .int w, .int h] := by
  show PyData.tuple [.int 0, .int 0, .int ((w : Int) - 0), .int ((h : Int) - 0)] = _
  rw [Int.sub_zero, Int.sub_zero]
 rw [eW] at i3
 have nda := P.nd g.nd
 rw [nmss_app, Nd.nmss] at nda
 obtain ⟨l', sb, ewn⟩ := with_node_ok (w := w) (h := h) (n' := o) hnn St (by omega) g.hs g.nd (by omega) g.th (P.len (by omega) g.th) (fun n' hn' e => (List.nodup_append.mp nda).2.2 _ (nms_sub hn' (nm_mem n')) _ (List.mem_append_left _ (nm_mem n)) e) (fun n' hn' => g.hs _ (P.sub _ (nms_sub (List.mem_append_left _ hn') (nm_mem n'))))
 obtain ⟨s1, s2, s3⟩ := small' sb oo ow od g.ok
 have S' : Small6 l' := ⟨s1, by omega, by omega⟩
 obtain ⟨C, ec, lc⟩ := changed_ok S S' w1 w8 h1 h8 (C := jn (n.bx w h) (o.bx w h)) fun x y bb ho => sb.sw' (fun q hq => by
  rw [out_ab hw hh bb n q hq fun z => ho (has_le (le_left wfA) z), out_ab hw hh bb o q hq fun z => ho (has_le (le_right wfB) z)]) q0 1 (Dq.zero 0) (by omega) g.ok
 have i4 := within_ok lc
 have ewo := without_ok (w := w) (h := h) hin g.hs gd g.nl (by omega) g.th
 have dr := wos_drop St g.nd
 obtain ⟨t1, t2, t3⟩ := dr.small g.ok
 have S2 : Small6 (Nd.wos n.nm l) := ⟨t1, by omega, by omega⟩
 obtain ⟨E, ee, le⟩ := changed_ok S S2 w1 w8 h1 h8 (C := n.bx w h) fun x y bb ho => dr.sw' (fun q hq => out_ab hw hh bb n q hq ho) q0 1 (Dq.zero 0) (by omega) g.ok
 have i5 := within_ok le
 obtain ⟨ds, ed, a1⟩ := ix1 n
 rw [ed] at b1 ⊢
 have t0 : bd0 (en ns N w h l (‹.tuple ds›) r7 r8 r9 r10 none none none) = some (.nx (en ns N w h l (‹.tuple ds›) (some (.val o.d)) r8 r9 r10 none none none)) := by
  wp_walk using evD, bd0, en, a1, eo
 have t1 : bd1 (en ns N w h l (‹.tuple ds›) (some (.val o.d)) r8 r9 r10 none none none) = some (.nx (en ns N w h l (‹.tuple ds›) (some (.val o.d)) (‹bxD (n.bx w h)›) r9 r10 none none none)) := by
  wp_walk using evD, bd1, en, b1
 have t2 : bd2 (en ns N w h l (‹.tuple ds›) (some (.val o.d)) (‹bxD (n.bx w h)›) r9 r10 none none none) = some (.nx (en ns N w h l (‹.tuple ds›) (some (.val o.d)) (‹bxD (n.bx w h)›) (‹bxD (o.bx w h)›) r10 none none none)) := by
  wp_walk using evD, bd2, en, b2
 have t3 : bd3 (en ns N w h l (‹.tuple ds›) (some (.val o.d)) (‹bxD (n.bx w h)›) (‹bxD (o.bx w h)›) r10 none none none) = some (.nx (en ns N w h l (‹.tuple ds›) (some (.val o.d)) (‹bxD (n.bx w h)›) (‹bxD (o.bx w h)›) (‹bxD (jn (n.bx w h) (o.bx w h))›) none none none)) := by
  wp_walk using evD, bd3, en, j1
 have t4 : bd4 (en ns N w h l (‹.tuple ds›) (some (.val o.d)) (‹bxD (n.bx w h)›) (‹bxD (o.bx w h)›) (‹bxD (jn (n.bx w h) (o.bx w h))›) none none none) = some (.nx (en ns N w h l (‹.tuple ds›) (some (.val o.d)) (‹bxD (n.bx w h)›) (‹bxD (o.bx w h)›) (‹bxD (jn (n.bx w h) (o.bx w h))›) none none none)) := by
  wp_walk using evD, bd4, en, i1, i2, j2, ne_bx
 have t5 : bd5 (en ns N w h l (‹.tuple ds›) (some (.val o.d)) (‹bxD (n.bx w h)›) (‹bxD (o.bx w h)›) (‹bxD (jn (n.bx w h) (o.bx w h))›) none none none) = some (.nx (en ns N w h l (‹.tuple ds›) (some (.val o.d)) (‹bxD (n.bx w h)›) (‹bxD (o.bx w h)›) (‹bxD (jn (n.bx w h) (o.bx w h))›) none none none)) := by
  wp_walk using evD, bd5, en, j3, ne_bx, i3
 have t6 : bd6 (en ns N w h l (‹.tuple ds›) (some (.val o.d)) (‹bxD (n.bx w h)›) (‹bxD (o.bx w h)›) (‹bxD (jn (n.bx w h) (o.bx w h))›) none none none) = some (.nx (en ns N w h l (‹.tuple ds›) (some (.val o.d)) (‹bxD (n.bx w h)›) (‹bxD (o.bx w h)›) (‹bxD (jn (n.bx w h) (o.bx w h))›) none none none)) := by
  wp_walk using evD, bd6, en, a1, ewn, ec, i4
 have t7 : bd7 (en ns N w h l (‹.tuple ds›) (some (.val o.d)) (‹bxD (n.bx w h)›) (‹bxD (o.bx w h)›) (‹bxD (jn (n.bx w h) (o.bx w h))›) none none none) = some (.nx (en ns N w h l (‹.tuple ds›) (some (.val o.d)) (‹bxD (n.bx w h)›) (‹bxD (o.bx w h)›) (‹bxD (jn (n.bx w h) (o.bx w h))›) none none none)) := by
  wp_walk using evD, bd7, en, a1, ewo, ee, i5
 refine ⟨some (.val o.d), ‹bxD (n.bx w h)›, ‹bxD (o.bx w h)›, ‹bxD (jn (n.bx w h) (o.bx w h))›, ?_⟩
 rw [seq_nx t0, seq_nx t1, seq_nx t2, seq_nx t3, seq_nx t4, seq_nx t5, seq_nx t6, t7]
theorem main : ∀ ns : List Int, ns.length ≤ 63 → F_law [.list (ns.map PyData.int)] = some (.bool true) := by
 intro ns hn
 obtain ⟨N, eN, hN, b, hP⟩ := names_ok ns hn 0 7 (by decide) (by decide)
 have eN : F_l_names [scr ns, .int 0, .int 7] = some (.list N) := eN
 obtain ⟨w, h, l, ep, hl, hw, hh⟩ := picture_ok ns hn 30 4 (by decide) (by decide) N (by omega)
 have ep : F_l_picture [scr ns, .int 30, .int 4, .list N] = some (picD w h l) := ep
 have w1 := hw.1
 have w8 : w ≤ 8 := by omega
 have h1 := hh.1
 have h8 : h ≤ 8 := by omega
 obtain ⟨is, q1, q2, q3⟩ := hl.ix
 have nmv : ∀ j, j < 7 → ∃ y, N.getD j .none = .str (nmS b j y) ∧ SOk y ∧ y.length ≤ 4 := fun j hj => by
  obtain ⟨y, e1, e2⟩ := hP j hj
  exact ⟨y, by rw [List.getD_eq_getElem?_getD, e1]; rfl, e2⟩
 have lw := hl.wg
 have ld := hl.dp
 have ll := hl.len
 have g : Good l := by
  refine ⟨hl.ok, by omega, by omega, by omega, hl.th, fun d hd => ?_, ?_, ?_⟩
  ·rw [q1] at hd
   obtain ⟨j, hj, rfl⟩ := List.mem_map.mp hd
   obtain ⟨y, e1, e2, e3⟩ := nmv j (by have := q3 j hj; omega)
   exact ⟨_, e1, nmS_sok b (by have := q3 j hj; omega) e2⟩
  ·rw [q1]
   refine List.pairwise_map.mpr (List.Pairwise.imp_of_mem (fun {i j} hi hj ne e => ?_) q2)
   obtain ⟨y, e1, _⟩ := nmv i (by have := q3 i hi; omega)
   obtain ⟨z, e2, _⟩ := nmv j (by have := q3 j hj; omega)
   rw [e1, e2] at e
   exact ne (nmS_inj (PyData.str.inj e))
  ·rw [q1, List.length_map]
   have := List.Nodup.length_le_of_subset (l₂ := List.range 7) q2 fun j hj => List.mem_range.mpr (by have := q3 j hj; omega)
   rw [List.length_range] at this; omega
 have S : Small6 l := ⟨hl.ok, by omega, by omega⟩
 obtain ⟨X, eX, _, hX⟩ := all_ok 3 l 12 (by omega) (by decide) (by omega)
 obtain ⟨d22, e22, l22⟩ := draw_at ns hn (e := 22) (m' := (((Nd.ds l).length : Nat) : Int) + 1) 22 (l.length + 1) rfl (by rw [ds_map, List.length_map]; omega) (by decide) (by omega)
 obtain ⟨n6, at6⟩ : ∃ n6, atI N 6 = some n6 := ⟨N[6]'(by omega), by unfold atI; rw [ixN_of (by decide) (by omega)]; exact List.getElem?_eq_getElem (by show 6 < N.length; omega)⟩
 obtain ⟨o, eo, oo, od, ow, onm, _⟩ := leaf_ok ns hn 980 (by decide) n6 .over
 have eo : F_l_leaf [scr ns, .int 980, n6, .str "over"] = some o.d := eo
 have hwp : (0 : Int) < (w : Int) := by omega
 have hhp : (0 : Int) < (h : Int) := by omega
 have bo := box_ok w h l 3 o 12 (by omega) (by decide) (thin0 od)
 obtain ⟨l2, hl2⟩ : ∃ l2, l2 = l.take d22 ++ o :: l.drop d22 := ⟨_, rfl⟩
 have tk := List.take_append_drop d22 l
 have ww := congrArg Nd.wgs tk
 have dd := congrArg Nd.dps tk
 rw [wgs_app] at ww
 rw [dps_app] at dd
 have okl := (oks_iff l).mp hl.ok
 have S2 : Small6 l2 := by
  rw [hl2]
  refine ⟨(oks_iff _).mpr fun n hn => ?_, by rw [wgs_app, Nd.wgs]; omega, by rw [dps_app, Nd.dps]; omega⟩
  rcases List.mem_append.mp hn with q | q
  ·exact okl n (List.mem_of_mem_take q)
  ·rcases List.mem_cons.mp q with rfl | q
   ·exact oo
   ·exact okl n (List.mem_of_mem_drop q)
 have sw2 : ∀ x y : Int, 0 ≤ x ∧ x < w ∧ 0 ≤ y ∧ y < h → ¬ Bx.has (o.bx w h) x y → Nd.sw x y l2 q0 = Nd.sw x y l q0 := fun x y bb ho => by
  have e2 := sw_app x y (l.take d22) (l.drop d22) q0
  rw [tk] at e2
  have St : Small6 (l.take d22) := ⟨(oks_iff _).mpr fun n hn => okl n (List.mem_of_mem_take hn), by omega, by omega⟩
  rw [hl2, sw_app, Nd.sw, out_ab hwp hhp bb o _ (sw_or St x y) ho, ← e2]
 obtain ⟨C, ec, lc⟩ := changed_ok S S2 w1 w8 h1 h8 (C := o.bx w h) sw2
 have i1 := within_ok lc
 have ef := flat_ok S w1 w8 h8
 have ef2 := flat_ok S2 w1 w8 h8
 refine run_rt (ρ := [‹scr ns›]) rfl ?_
 have est : F_l_stands [scr ns] = some (.bool true) := by
  refine run_rt (ρ := [‹scr ns›, none, none, none, none, none, none, none, none, none, none, none, none, none]) rfl ?_
  have s0 : st_l_stands_0 [‹scr ns›, none, none, none, none, none, none, none, none, none, none, none, none, none] = some (.nx [‹scr ns›, ‹.list N›, none, none, none, none, none, none, none, none, none, none, none, none]) := by
   wp_walk using evD, st_l_stands_0, eN
  have s1 : st_l_stands_1 [‹scr ns›, ‹.list N›, none, none, none, none, none, none, none, none, none, none, none, none] = some (.nx [‹scr ns›, ‹.list N›, ‹picD w h l›, none, none, none, none, none, none, none, none, none, none, none]) := by
   wp_walk using evD, st_l_stands_1, ep
  have s2 : st_l_stands_2 [‹scr ns›, ‹.list N›, ‹picD w h l›, none, none, none, none, none, none, none, none, none, none, none] = some (.nx (en ns N w h l none none none none none none none none)) := by
   wp_walk using evD, st_l_stands_2, en, picD
   rfl
  obtain ⟨ρ', e3, r6, r7, r8, r9, r10, hρ⟩ := forD_all (g := gSet 6) (f := (sSeq bd0 (sSeq bd1 (sSeq bd2 (sSeq bd3 (sSeq bd4 (sSeq bd5 (sSeq bd6 bd7)))))))) (I := fun ρ => ∃ r6 r7 r8 r9 r10, ρ = (en ns N w h l r6 r7 r8 r9 r10 none none none)) X (en ns N w h l none none none none none none none none) ⟨none, none, none, none, none, rfl⟩ (fun d hd ρ hρ => by
   obtain ⟨a', n, b', rfl, St⟩ := hX d hd
   obtain ⟨r6, r7, r8, r9, r10, rfl⟩ := hρ
   obtain ⟨r7', r8', r9', r10', eb⟩ := body_ok ns hn g w1 w8 h1 h8 St N r7 r8 r9 r10
   exact ⟨_, rfl, _, eb, _, _, _, _, _, rfl⟩)
  subst hρ
  have s3 : st_l_stands_3 (en ns N w h l none none none none none none none none) = some (.nx (en ns N w h l r6 r7 r8 r9 r10 none none none)) := by
   show sFor (iSeq (dCall (F_l_all 12) (aCons (dVar 5) aNil))) (gSet 6) (sSeq bd0 (sSeq bd1 (sSeq bd2 (sSeq bd3 (sSeq bd4 (sSeq bd5 (sSeq bd6 bd7))))))) _ = _
   unfold sFor
   rw [show iSeq (dCall (F_l_all 12) (aCons (dVar 5) aNil)) (en ns N w h l none none none none none none none none) = some X by (wp_walk using evD, en, eX), xbs]
   exact e3
  have s4 : st_l_stands_4 (en ns N w h l r6 r7 r8 r9 r10 none none none) = some (.nx (en ns N w h l r6 r7 r8 r9 r10 (‹.int d22›) none none)) := by
   wp_walk using evD, st_l_stands_4, en, e22
  have s5 : st_l_stands_5 (en ns N w h l r6 r7 r8 r9 r10 (‹.int d22›) none none) = some (.nx (en ns N w h l r6 r7 r8 r9 r10 (‹.int d22›) (some (.val o.d)) none)) := by
   wp_walk using evD, st_l_stands_5, en, at6, eo
  have s6 : st_l_stands_6 (en ns N w h l r6 r7 r8 r9 r10 (‹.int d22›) (some (.val o.d)) none) = some (.nx (en ns N w h l r6 r7 r8 r9 r10 (‹.int d22›) (some (.val o.d)) (‹picD w h l2›))) := by
   have k1 : catE (.tuple (Nd.ds (l.take d22))) (.tuple [o.d]) = some (.tuple (Nd.ds (l.take d22 ++ [o]))) := by
    have := cat_ds (l.take d22) [o] (by rw [List.length_take]; simp; omega)
    rwa [show Nd.ds [o] = [o.d] by rw [Nd.ds, Nd.ds]] at this
   have k2 : catE (.tuple (Nd.ds (l.take d22 ++ [o]))) (.tuple (Nd.ds (l.drop d22))) = some (.tuple (Nd.ds l2)) := by
    have := cat_ds (l.take d22 ++ [o]) (l.drop d22) (by rw [List.length_append, List.length_take, List.length_drop]; simp; omega)
    rwa [show l.take d22 ++ [o] ++ l.drop d22 = l2 by rw [hl2]; simp] at this
   wp_walk using evD, st_l_stands_6, en, dSlA, cut_take, cut_drop, k1, k2
   rfl
  have s7 : st_l_stands_7 (en ns N w h l r6 r7 r8 r9 r10 (‹.int d22›) (some (.val o.d)) (‹picD w h l2›)) = some (.nx (en ns N w h l r6 r7 r8 r9 r10 (‹.int d22›) (some (.val o.d)) (‹picD w h l2›))) := by
   wp_walk using evD, st_l_stands_7, en, ec, bo, i1
  have s8 : st_l_stands_8 (en ns N w h l r6 r7 r8 r9 r10 (‹.int d22›) (some (.val o.d)) (‹picD w h l2›)) = some (.rt (.bool true)) := by
   cases hb : o.bx w h with
   | some B =>
    rw [hb] at bo
    have nb : notB (bxD (some B)) .none = some (.bool true) := rfl
    wp_walk using evD, st_l_stands_8, en, bo, nb
   | none =>
    rw [hb] at bo sw2
    have nb : notB (bxD none) .none = some (.bool false) := rfl
    have ee : flL w h l2 = flL w h l := flL_congr w1 fun x y bb => sw2 x y bb (fun z => z)
    rw [ee] at ef2
    have eqs : eqD (shD w h (flL w h l)) (shD w h (flL w h l)) = some (.bool true) := eq_self (Ly.sheet w h _) (by decide)
    wp_walk using evD, st_l_stands_8, en, bo, nb, ef, ef2, eqs
  unfold G_l_stands
  rw [seq_nx s0, seq_nx s1, seq_nx s2, seq_nx s3, seq_nx s4, seq_nx s5, seq_nx s6, seq_nx s7]
  exact s8
 wp_walk using evD, G_law, known, est
end Lk61
namespace Lk61
open PySem PySem.Spec PyProof.Rows L2 G Sh
def zcs : List (Str × D) := [("ONE", (.tuple [(.int 1), (.int 1)])), ("CLEAR", (.tuple [(.tuple [(.int 0), (.int 1)]), (.tuple [(.int 0), (.int 1)]), (.tuple [(.int 0), (.int 1)]), (.tuple [(.int 0), (.int 1)])])), ("THIRD", (.tuple [(.int 1), (.int 3)]))]
def zbl : List Str := ["enumerate", "int", "len", "max", "min", "range", "tuple", "zip"]
def tb0 : Tab := []
def d_common_divisor : Fd := { x := "common_divisor", st := s_common_divisor, ps := ["one", "other"], N := ["one", "other", "left_over"], old := true }
theorem b_common_divisor : Bd d_common_divisor := (fun _ _ _ _ _ _ us hl => match us, hl with | [_, _], _ => rfl)
theorem o_common_divisor : d_common_divisor.okB = true := by kernel_rfl
theorem e_common_divisor : rd tb0 zcs zbl d_common_divisor = F_common_divisor := by kernel_rfl
def tb1 : Tab := ("common_divisor", F_common_divisor, 2) :: tb0
def d_least_form : Fd := { x := "least_form", st := s_least_form, ps := ["top", "under"], N := ["top", "under", "divisor"], old := true }
theorem b_least_form : Bd d_least_form := (fun _ _ _ _ _ _ us hl => match us, hl with | [_, _], _ => rfl)
theorem o_least_form : d_least_form.okB = true := by kernel_rfl
theorem e_least_form : rd tb1 zcs zbl d_least_form = F_least_form := by kernel_rfl
def tb2 : Tab := ("least_form", F_least_form, 2) :: tb1
def d_is_at_most : Fd := { x := "is_at_most", st := s_is_at_most, ps := ["one", "other"], N := ["one", "other"], old := true }
theorem b_is_at_most : Bd d_is_at_most := (fun _ _ _ _ _ _ us hl => match us, hl with | [_, _], _ => rfl)
theorem o_is_at_most : d_is_at_most.okB = true := by kernel_rfl
theorem e_is_at_most : rd tb2 zcs zbl d_is_at_most = F_is_at_most := by kernel_rfl
def tb3 : Tab := ("is_at_most", F_is_at_most, 2) :: tb2
def d_added : Fd := { x := "added", st := s_added, ps := ["one", "other"], N := ["one", "other"], old := true }
theorem b_added : Bd d_added := (fun _ _ _ _ _ _ us hl => match us, hl with | [_, _], _ => rfl)
theorem o_added : d_added.okB = true := by kernel_rfl
theorem e_added : rd tb3 zcs zbl d_added = F_added := by kernel_rfl
def tb4 : Tab := ("added", F_added, 2) :: tb3
def d_lessened : Fd := { x := "lessened", st := s_lessened, ps := ["one", "other"], N := ["one", "other"], old := true }
theorem b_lessened : Bd d_lessened := (fun _ _ _ _ _ _ us hl => match us, hl with | [_, _], _ => rfl)
theorem o_lessened : d_lessened.okB = true := by kernel_rfl
theorem e_lessened : rd tb4 zcs zbl d_lessened = F_lessened := by kernel_rfl
def tb5 : Tab := ("lessened", F_lessened, 2) :: tb4
def d_times : Fd := { x := "times", st := s_times, ps := ["one", "other"], N := ["one", "other"], old := true }
theorem b_times : Bd d_times := (fun _ _ _ _ _ _ us hl => match us, hl with | [_, _], _ => rfl)
theorem o_times : d_times.okB = true := by kernel_rfl
theorem e_times : rd tb5 zcs zbl d_times = F_times := by kernel_rfl
def tb6 : Tab := ("times", F_times, 2) :: tb5
def d_rest_of : Fd := { x := "rest_of", st := s_rest_of, ps := ["share"], N := ["share"], old := true }
theorem b_rest_of : Bd d_rest_of := (fun _ _ _ _ _ _ us hl => match us, hl with | [_], _ => rfl)
theorem o_rest_of : d_rest_of.okB = true := by kernel_rfl
theorem e_rest_of : rd tb6 zcs zbl d_rest_of = F_rest_of := by kernel_rfl
def tb7 : Tab := ("rest_of", F_rest_of, 1) :: tb6
def d_at_most_one : Fd := { x := "at_most_one", st := s_at_most_one, ps := ["fraction"], N := ["fraction"], old := true }
theorem b_at_most_one : Bd d_at_most_one := (fun _ _ _ _ _ _ us hl => match us, hl with | [_], _ => rfl)
theorem o_at_most_one : d_at_most_one.okB = true := by kernel_rfl
theorem e_at_most_one : rd tb7 zcs zbl d_at_most_one = F_at_most_one := by kernel_rfl
def tb8 : Tab := ("at_most_one", F_at_most_one, 1) :: tb7
def d_kind_of : Fd := { x := "kind_of", st := s_kind_of, ps := ["node"], N := ["node"] }
theorem b_kind_of : Bd d_kind_of := (fun _ _ _ _ _ _ us hl => match us, hl with | [_], _ => rfl)
theorem o_kind_of : d_kind_of.okB = true := by kernel_rfl
theorem e_kind_of : rd tb8 zcs zbl d_kind_of = F_kind_of := by kernel_rfl
def tb9 : Tab := ("kind_of", F_kind_of, 1) :: tb8
def d_is_layer : Fd := { x := "is_layer", st := s_is_layer, ps := ["node"], N := ["node"] }
theorem b_is_layer : Bd d_is_layer := (fun _ _ _ _ _ _ us hl => match us, hl with | [_], _ => rfl)
theorem o_is_layer : d_is_layer.okB = true := by kernel_rfl
theorem e_is_layer : rd tb9 zcs zbl d_is_layer = F_is_layer := by kernel_rfl
def tb10 : Tab := ("is_layer", F_is_layer, 1) :: tb9
def d_is_group : Fd := { x := "is_group", st := s_is_group, ps := ["node"], N := ["node"] }
theorem b_is_group : Bd d_is_group := (fun _ _ _ _ _ _ us hl => match us, hl with | [_], _ => rfl)
theorem o_is_group : d_is_group.okB = true := by kernel_rfl
theorem e_is_group : rd tb10 zcs zbl d_is_group = F_is_group := by kernel_rfl
def tb11 : Tab := ("is_group", F_is_group, 1) :: tb10
def d_is_tone : Fd := { x := "is_tone", st := s_is_tone, ps := ["node"], N := ["node"] }
theorem b_is_tone : Bd d_is_tone := (fun _ _ _ _ _ _ us hl => match us, hl with | [_], _ => rfl)
theorem o_is_tone : d_is_tone.okB = true := by kernel_rfl
theorem e_is_tone : rd tb11 zcs zbl d_is_tone = F_is_tone := by kernel_rfl
def tb12 : Tab := ("is_tone", F_is_tone, 1) :: tb11
def d_name_of : Fd := { x := "name_of", st := s_name_of, ps := ["node"], N := ["node"] }
theorem b_name_of : Bd d_name_of := (fun _ _ _ _ _ _ us hl => match us, hl with | [_], _ => rfl)
theorem o_name_of : d_name_of.okB = true := by kernel_rfl
theorem e_name_of : rd tb12 zcs zbl d_name_of = F_name_of := by kernel_rfl
def tb13 : Tab := ("name_of", F_name_of, 1) :: tb12
def d_manner_of : Fd := { x := "manner_of", st := s_manner_of, ps := ["node"], N := ["node"] }
theorem b_manner_of : Bd d_manner_of := (fun _ _ _ _ _ _ us hl => match us, hl with | [_], _ => rfl)
theorem o_manner_of : d_manner_of.okB = true := by kernel_rfl
theorem e_manner_of : rd tb13 zcs zbl d_manner_of = F_manner_of := by kernel_rfl
def tb14 : Tab := ("manner_of", F_manner_of, 1) :: tb13
def d_rule_of : Fd := { x := "rule_of", st := s_rule_of, ps := ["tone"], N := ["tone"] }
theorem b_rule_of : Bd d_rule_of := (fun _ _ _ _ _ _ us hl => match us, hl with | [_], _ => rfl)
theorem o_rule_of : d_rule_of.okB = true := by kernel_rfl
theorem e_rule_of : rd tb14 zcs zbl d_rule_of = F_rule_of := by kernel_rfl
def tb15 : Tab := ("rule_of", F_rule_of, 1) :: tb14
def d_strength_of : Fd := { x := "strength_of", st := s_strength_of, ps := ["node"], N := ["node"] }
theorem b_strength_of : Bd d_strength_of := (fun _ _ _ _ _ _ us hl => match us, hl with | [_], _ => rfl)
theorem o_strength_of : d_strength_of.okB = true := by kernel_rfl
theorem e_strength_of : rd tb15 zcs zbl d_strength_of = F_strength_of := by kernel_rfl
def tb16 : Tab := ("strength_of", F_strength_of, 1) :: tb15
def d_is_shown : Fd := { x := "is_shown", st := s_is_shown, ps := ["node"], N := ["node"] }
theorem b_is_shown : Bd d_is_shown := (fun _ _ _ _ _ _ us hl => match us, hl with | [_], _ => rfl)
theorem o_is_shown : d_is_shown.okB = true := by kernel_rfl
theorem e_is_shown : rd tb16 zcs zbl d_is_shown = F_is_shown := by kernel_rfl
def tb17 : Tab := ("is_shown", F_is_shown, 1) :: tb16
def d_left_of : Fd := { x := "left_of", st := s_left_of, ps := ["layer"], N := ["layer"] }
theorem b_left_of : Bd d_left_of := (fun _ _ _ _ _ _ us hl => match us, hl with | [_], _ => rfl)
theorem o_left_of : d_left_of.okB = true := by kernel_rfl
theorem e_left_of : rd tb17 zcs zbl d_left_of = F_left_of := by kernel_rfl
def tb18 : Tab := ("left_of", F_left_of, 1) :: tb17
def d_top_of : Fd := { x := "top_of", st := s_top_of, ps := ["layer"], N := ["layer"] }
theorem b_top_of : Bd d_top_of := (fun _ _ _ _ _ _ us hl => match us, hl with | [_], _ => rfl)
theorem o_top_of : d_top_of.okB = true := by kernel_rfl
theorem e_top_of : rd tb18 zcs zbl d_top_of = F_top_of := by kernel_rfl
def tb19 : Tab := ("top_of", F_top_of, 1) :: tb18
def d_mask_of : Fd := { x := "mask_of", st := s_mask_of, ps := ["layer"], N := ["layer"] }
theorem b_mask_of : Bd d_mask_of := (fun _ _ _ _ _ _ us hl => match us, hl with | [_], _ => rfl)
theorem o_mask_of : d_mask_of.okB = true := by kernel_rfl
theorem e_mask_of : rd tb19 zcs zbl d_mask_of = F_mask_of := by kernel_rfl
def tb20 : Tab := ("mask_of", F_mask_of, 1) :: tb19
def d_sheet_of : Fd := { x := "sheet_of", st := s_sheet_of, ps := ["layer"], N := ["layer"] }
theorem b_sheet_of : Bd d_sheet_of := (fun _ _ _ _ _ _ us hl => match us, hl with | [_], _ => rfl)
theorem o_sheet_of : d_sheet_of.okB = true := by kernel_rfl
theorem e_sheet_of : rd tb20 zcs zbl d_sheet_of = F_sheet_of := by kernel_rfl
def tb21 : Tab := ("sheet_of", F_sheet_of, 1) :: tb20
def d_inner_nodes : Fd := { x := "inner_nodes", st := s_inner_nodes, ps := ["group"], N := ["group"] }
theorem b_inner_nodes : Bd d_inner_nodes := (fun _ _ _ _ _ _ us hl => match us, hl with | [_], _ => rfl)
theorem o_inner_nodes : d_inner_nodes.okB = true := by kernel_rfl
theorem e_inner_nodes : rd tb21 zcs zbl d_inner_nodes = F_inner_nodes := by kernel_rfl
def tb22 : Tab := ("inner_nodes", F_inner_nodes, 1) :: tb21
def d_with_inner_nodes : Fd := { x := "with_inner_nodes", st := s_with_inner_nodes, ps := ["group", "nodes"], N := ["group", "nodes"] }
theorem b_with_inner_nodes : Bd d_with_inner_nodes := (fun _ _ _ _ _ _ us hl => match us, hl with | [_, _], _ => rfl)
theorem o_with_inner_nodes : d_with_inner_nodes.okB = true := by kernel_rfl
theorem e_with_inner_nodes : rd tb22 zcs zbl d_with_inner_nodes = F_with_inner_nodes := by kernel_rfl
def tb23 : Tab := ("with_inner_nodes", F_with_inner_nodes, 2) :: tb22
def d_weighted : Fd := { x := "weighted", st := s_weighted, ps := ["spot", "share"], N := ["spot", "share"], old := true, hc := [((59, 17), [1])] }
theorem b_weighted : Bd d_weighted := (fun _ _ _ _ _ _ us hl => match us, hl with | [_, _], _ => rfl)
theorem o_weighted : d_weighted.okB = true := by kernel_rfl
theorem e_weighted : rd tb23 zcs zbl d_weighted = F_weighted := by kernel_rfl
def tb24 : Tab := ("weighted", F_weighted, 2) :: tb23
def d_blended_cover : Fd := { x := "blended_cover", st := s_blended_cover, ps := ["manner", "c", "d"], N := ["manner", "c", "d"], old := true }
theorem b_blended_cover : Bd d_blended_cover := (fun _ _ _ _ _ _ us hl => match us, hl with | [_, _, _], _ => rfl)
theorem o_blended_cover : d_blended_cover.okB = true := by kernel_rfl
theorem e_blended_cover : rd tb24 zcs zbl d_blended_cover = F_blended_cover := by kernel_rfl
def tb25 : Tab := ("blended_cover", F_blended_cover, 3) :: tb24
def d_blended_colour : Fd := { x := "blended_colour", st := s_blended_colour, ps := ["manner", "c", "d", "x", "y"], N := ["manner", "c", "d", "x", "y", "through"], old := true }
theorem b_blended_colour : Bd d_blended_colour := (fun _ _ _ _ _ _ us hl => match us, hl with | [_, _, _, _, _], _ => rfl)
theorem o_blended_colour : d_blended_colour.okB = true := by kernel_rfl
theorem e_blended_colour : rd tb25 zcs zbl d_blended_colour = F_blended_colour := by kernel_rfl
def tb26 : Tab := ("blended_colour", F_blended_colour, 5) :: tb25
def d_blended : Fd := { x := "blended", st := s_blended, ps := ["manner", "above", "below"], N := ["manner", "above", "below", "c", "d", "colours"], old := true, hc := [((84, 14), [0, 3, 4])] }
theorem b_blended : Bd d_blended := (fun _ _ _ _ _ _ us hl => match us, hl with | [_, _, _], _ => rfl)
theorem o_blended : d_blended.okB = true := by kernel_rfl
theorem e_blended : rd tb26 zcs zbl d_blended = F_blended := by kernel_rfl
def tb27 : Tab := ("blended", F_blended, 3) :: tb26
def d_by_rule : Fd := { x := "by_rule", st := s_by_rule, ps := ["rule", "spot"], N := ["rule", "spot", "cover", "red", "green", "blue", "mean"], old := true }
theorem b_by_rule : Bd d_by_rule := (fun _ _ _ _ _ _ us hl => match us, hl with | [_, _], _ => rfl)
theorem o_by_rule : d_by_rule.okB = true := by kernel_rfl
theorem e_by_rule : rd tb27 zcs zbl d_by_rule = F_by_rule := by kernel_rfl
def tb28 : Tab := ("by_rule", F_by_rule, 2) :: tb27
def d_mixed : Fd := { x := "mixed", st := s_mixed, ps := ["strength", "new", "old"], N := ["strength", "new", "old"], old := true }
theorem b_mixed : Bd d_mixed := (fun _ _ _ _ _ _ us hl => match us, hl with | [_, _, _], _ => rfl)
theorem o_mixed : d_mixed.okB = true := by kernel_rfl
theorem e_mixed : rd tb28 zcs zbl d_mixed = F_mixed := by kernel_rfl
def tb29 : Tab := ("mixed", F_mixed, 3) :: tb28
def d_toned : Fd := { x := "toned", st := s_toned, ps := ["rule", "spot", "strength"], N := ["rule", "spot", "strength"], old := true, hc := [((100, 17), [2])] }
theorem b_toned : Bd d_toned := (fun _ _ _ _ _ _ us hl => match us, hl with | [_, _, _], _ => rfl)
theorem o_toned : d_toned.okB = true := by kernel_rfl
theorem e_toned : rd tb29 zcs zbl d_toned = F_toned := by kernel_rfl
def tb30 : Tab := ("toned", F_toned, 3) :: tb29
def d_places_of : Fd := { x := "places_of", st := s_places_of, ps := ["wide", "high"], N := ["wide", "high"], hc := [((103, 11), [0])] }
theorem b_places_of : Bd d_places_of := (fun _ _ _ _ _ _ us hl => match us, hl with | [_, _], _ => rfl)
theorem o_places_of : d_places_of.okB = true := by kernel_rfl
theorem e_places_of : rd tb30 zcs zbl d_places_of = F_places_of := by kernel_rfl
def tb31 : Tab := ("places_of", F_places_of, 2) :: tb30
def d_has_place : Fd := { x := "has_place", st := s_has_place, ps := ["sheet", "x", "y"], N := ["sheet", "x", "y"] }
theorem b_has_place : Bd d_has_place := (fun _ _ _ _ _ _ us hl => match us, hl with | [_, _, _], _ => rfl)
theorem o_has_place : d_has_place.okB = true := by kernel_rfl
theorem e_has_place : rd tb31 zcs zbl d_has_place = F_has_place := by kernel_rfl
def tb32 : Tab := ("has_place", F_has_place, 3) :: tb31
def d_number_of_place : Fd := { x := "number_of_place", st := s_number_of_place, ps := ["sheet", "x", "y"], N := ["sheet", "x", "y"] }
theorem b_number_of_place : Bd d_number_of_place := (fun _ _ _ _ _ _ us hl => match us, hl with | [_, _, _], _ => rfl)
theorem o_number_of_place : d_number_of_place.okB = true := by kernel_rfl
theorem e_number_of_place : rd tb32 zcs zbl d_number_of_place = F_number_of_place := by kernel_rfl
def tb33 : Tab := ("number_of_place", F_number_of_place, 3) :: tb32
def d_spot_at : Fd := { x := "spot_at", st := s_spot_at, ps := ["sheet", "x", "y"], N := ["sheet", "x", "y"] }
theorem b_spot_at : Bd d_spot_at := (fun _ _ _ _ _ _ us hl => match us, hl with | [_, _, _], _ => rfl)
theorem o_spot_at : d_spot_at.okB = true := by kernel_rfl
theorem e_spot_at : rd tb33 zcs zbl d_spot_at = F_spot_at := by kernel_rfl
def tb34 : Tab := ("spot_at", F_spot_at, 3) :: tb33
def d_masked_spot : Fd := { x := "masked_spot", st := s_masked_spot, ps := ["layer", "x", "y"], N := ["layer", "x", "y", "sheet", "mask", "spot"] }
theorem b_masked_spot : Bd d_masked_spot := (fun _ _ _ _ _ _ us hl => match us, hl with | [_, _, _], _ => rfl)
theorem o_masked_spot : d_masked_spot.okB = true := by kernel_rfl
theorem e_masked_spot : rd tb34 zcs zbl d_masked_spot = F_masked_spot := by kernel_rfl
def tb35 : Tab := ("masked_spot", F_masked_spot, 3) :: tb34
def d_brought : Fd := { x := "brought", st := s_brought, ps := ["node", "x", "y"], N := ["node", "x", "y", "spot"] }
theorem b_brought : Bd d_brought := (fun _ _ _ _ _ _ us hl => match us, hl with | [_, _, _], _ => rfl)
theorem o_brought : d_brought.okB = true := by kernel_rfl
def d_shown_above : Fd := { x := "shown_above", st := s_shown_above, ps := ["node", "below", "x", "y"], N := ["node", "below", "x", "y"] }
theorem b_shown_above : Bd d_shown_above := (fun _ _ _ _ _ _ us hl => match us, hl with | [_, _, _, _], _ => rfl)
theorem o_shown_above : d_shown_above.okB = true := by kernel_rfl
def d_shown_by : Fd := { x := "shown_by", st := s_shown_by, ps := ["nodes", "x", "y"], N := ["nodes", "x", "y", "spot", "node"] }
theorem b_shown_by : Bd d_shown_by := (fun _ _ _ _ _ _ us hl => match us, hl with | [_, _, _], _ => rfl)
theorem o_shown_by : d_shown_by.okB = true := by kernel_rfl
theorem e_brought (j : Nat) : rd (("brought", F_brought j, 3) :: ("shown_above", F_shown_above j, 4) :: ("shown_by", F_shown_by j, 3) :: tb35) zcs zbl d_brought = F_brought (j + 1) := by kernel_rfl
theorem e_shown_above (j : Nat) : rd (("brought", F_brought j, 3) :: ("shown_above", F_shown_above j, 4) :: ("shown_by", F_shown_by j, 3) :: tb35) zcs zbl d_shown_above = F_shown_above (j + 1) := by kernel_rfl
theorem e_shown_by (j : Nat) : rd (("brought", F_brought j, 3) :: ("shown_above", F_shown_above j, 4) :: ("shown_by", F_shown_by j, 3) :: tb35) zcs zbl d_shown_by = F_shown_by (j + 1) := by kernel_rfl
def tb36 : Tab := ("brought", F_brought 12, 3) :: ("shown_above", F_shown_above 12, 4) :: ("shown_by", F_shown_by 12, 3) :: tb35
def d_flat_at : Fd := { x := "flat_at", st := s_flat_at, ps := ["picture", "x", "y"], N := ["picture", "x", "y"] }
theorem b_flat_at : Bd d_flat_at := (fun _ _ _ _ _ _ us hl => match us, hl with | [_, _, _], _ => rfl)
theorem o_flat_at : d_flat_at.okB = true := by kernel_rfl
theorem e_flat_at : rd tb36 zcs zbl d_flat_at = F_flat_at := by kernel_rfl
def tb37 : Tab := ("flat_at", F_flat_at, 3) :: tb36
def d_flat : Fd := { x := "flat", st := s_flat, ps := ["picture"], N := ["picture", "spots"], hc := [((140, 12), [0])] }
theorem b_flat : Bd d_flat := (fun _ _ _ _ _ _ us hl => match us, hl with | [_], _ => rfl)
theorem o_flat : d_flat.okB = true := by kernel_rfl
theorem e_flat : rd tb37 zcs zbl d_flat = F_flat := by kernel_rfl
def tb38 : Tab := ("flat", F_flat, 1) :: tb37
def d_box_between : Fd := { x := "box_between", st := s_box_between, ps := ["left", "top", "right", "bottom"], N := ["left", "top", "right", "bottom"] }
theorem b_box_between : Bd d_box_between := (fun _ _ _ _ _ _ us hl => match us, hl with | [_, _, _, _], _ => rfl)
theorem o_box_between : d_box_between.okB = true := by kernel_rfl
theorem e_box_between : rd tb38 zcs zbl d_box_between = F_box_between := by kernel_rfl
def tb39 : Tab := ("box_between", F_box_between, 4) :: tb38
def d_joined_box : Fd := { x := "joined_box", st := s_joined_box, ps := ["one", "other"], N := ["one", "other", "right", "bottom"] }
theorem b_joined_box : Bd d_joined_box := (fun _ _ _ _ _ _ us hl => match us, hl with | [_, _], _ => rfl)
theorem o_joined_box : d_joined_box.okB = true := by kernel_rfl
theorem e_joined_box : rd tb39 zcs zbl d_joined_box = F_joined_box := by kernel_rfl
def tb40 : Tab := ("joined_box", F_joined_box, 2) :: tb39
def d_joined_boxes : Fd := { x := "joined_boxes", st := s_joined_boxes, ps := ["boxes"], N := ["boxes", "joined", "box"] }
theorem b_joined_boxes : Bd d_joined_boxes := (fun _ _ _ _ _ _ us hl => match us, hl with | [_], _ => rfl)
theorem o_joined_boxes : d_joined_boxes.okB = true := by kernel_rfl
theorem e_joined_boxes : rd tb40 zcs zbl d_joined_boxes = F_joined_boxes := by kernel_rfl
def tb41 : Tab := ("joined_boxes", F_joined_boxes, 1) :: tb40
def d_whole_box : Fd := { x := "whole_box", st := s_whole_box, ps := ["picture"], N := ["picture"] }
theorem b_whole_box : Bd d_whole_box := (fun _ _ _ _ _ _ us hl => match us, hl with | [_], _ => rfl)
theorem o_whole_box : d_whole_box.okB = true := by kernel_rfl
theorem e_whole_box : rd tb41 zcs zbl d_whole_box = F_whole_box := by kernel_rfl
def tb42 : Tab := ("whole_box", F_whole_box, 1) :: tb41
def d_places_in : Fd := { x := "places_in", st := s_places_in, ps := ["box"], N := ["box"], hc := [((165, 11), [0])] }
theorem b_places_in : Bd d_places_in := (fun _ _ _ _ _ _ us hl => match us, hl with | [_], _ => rfl)
theorem o_places_in : d_places_in.okB = true := by kernel_rfl
theorem e_places_in : rd tb42 zcs zbl d_places_in = F_places_in := by kernel_rfl
def tb43 : Tab := ("places_in", F_places_in, 1) :: tb42
def d_box_of_layer : Fd := { x := "box_of_layer", st := s_box_of_layer, ps := ["picture", "layer"], N := ["picture", "layer", "left", "top", "sheet", "right", "bottom"] }
theorem b_box_of_layer : Bd d_box_of_layer := (fun _ _ _ _ _ _ us hl => match us, hl with | [_, _], _ => rfl)
theorem o_box_of_layer : d_box_of_layer.okB = true := by kernel_rfl
theorem e_box_of_layer : rd tb43 zcs zbl d_box_of_layer = F_box_of_layer := by kernel_rfl
def tb44 : Tab := ("box_of_layer", F_box_of_layer, 2) :: tb43
def d_box_of : Fd := { x := "box_of", st := s_box_of, ps := ["picture", "node"], N := ["picture", "node"], hc := [((179, 28), [0])] }
theorem b_box_of : Bd d_box_of := (fun _ _ _ _ _ _ us hl => match us, hl with | [_, _], _ => rfl)
theorem o_box_of : d_box_of.okB = true := by kernel_rfl
theorem e_box_of (j : Nat) : rd (("box_of", F_box_of j, 2) :: tb44) zcs zbl d_box_of = F_box_of (j + 1) := by kernel_rfl
def tb45 : Tab := ("box_of", F_box_of 12, 2) :: tb44
def d_changed_box : Fd := { x := "changed_box", st := s_changed_box, ps := ["one", "other"], N := ["one", "other", "places"], hc := [((183, 24), [0, 1])] }
theorem b_changed_box : Bd d_changed_box := (fun _ _ _ _ _ _ us hl => match us, hl with | [_, _], _ => rfl)
theorem o_changed_box : d_changed_box.okB = true := by kernel_rfl
theorem e_changed_box : rd tb45 zcs zbl d_changed_box = F_changed_box := by kernel_rfl
def tb46 : Tab := ("changed_box", F_changed_box, 2) :: tb45
def d_names_among : Fd := { x := "names_among", st := s_names_among, ps := ["nodes"], N := ["nodes", "names", "node"], own := [1], fz := [(196, [1])] }
theorem b_names_among : Bd d_names_among := (fun _ _ _ _ _ _ us hl => match us, hl with | [_], _ => rfl)
theorem o_names_among : d_names_among.okB = true := by kernel_rfl
theorem e_names_among (j : Nat) : rd (("names_among", F_names_among j, 1) :: tb46) zcs zbl d_names_among = F_names_among (j + 1) := by kernel_rfl
def tb47 : Tab := ("names_among", F_names_among 12, 1) :: tb46
def d_names_in : Fd := { x := "names_in", st := s_names_in, ps := ["picture"], N := ["picture"] }
theorem b_names_in : Bd d_names_in := (fun _ _ _ _ _ _ us hl => match us, hl with | [_], _ => rfl)
theorem o_names_in : d_names_in.okB = true := by kernel_rfl
theorem e_names_in : rd tb47 zcs zbl d_names_in = F_names_in := by kernel_rfl
def tb48 : Tab := ("names_in", F_names_in, 1) :: tb47
def d_number_among : Fd := { x := "number_among", st := s_number_among, ps := ["nodes", "name"], N := ["nodes", "name", "number", "node"] }
theorem b_number_among : Bd d_number_among := (fun _ _ _ _ _ _ us hl => match us, hl with | [_, _], _ => rfl)
theorem o_number_among : d_number_among.okB = true := by kernel_rfl
theorem e_number_among : rd tb48 zcs zbl d_number_among = F_number_among := by kernel_rfl
def tb49 : Tab := ("number_among", F_number_among, 2) :: tb48
def d_tuple_with : Fd := { x := "tuple_with", st := s_tuple_with, ps := ["nodes", "name"], N := ["nodes", "name", "node", "told"] }
theorem b_tuple_with : Bd d_tuple_with := (fun _ _ _ _ _ _ us hl => match us, hl with | [_, _], _ => rfl)
theorem o_tuple_with : d_tuple_with.okB = true := by kernel_rfl
theorem e_tuple_with (j : Nat) : rd (("tuple_with", F_tuple_with j, 2) :: tb49) zcs zbl d_tuple_with = F_tuple_with (j + 1) := by kernel_rfl
def tb50 : Tab := ("tuple_with", F_tuple_with 12, 2) :: tb49
def d_nodes_beside : Fd := { x := "nodes_beside", st := s_nodes_beside, ps := ["picture", "name"], N := ["picture", "name", "nodes"] }
theorem b_nodes_beside : Bd d_nodes_beside := (fun _ _ _ _ _ _ us hl => match us, hl with | [_, _], _ => rfl)
theorem o_nodes_beside : d_nodes_beside.okB = true := by kernel_rfl
theorem e_nodes_beside : rd tb50 zcs zbl d_nodes_beside = F_nodes_beside := by kernel_rfl
def tb51 : Tab := ("nodes_beside", F_nodes_beside, 2) :: tb50
def d_nodes_with_others : Fd := { x := "nodes_with_others", st := s_nodes_with_others, ps := ["nodes", "name", "others"], N := ["nodes", "name", "others"], hc := [((221, 17), [1, 2])] }
theorem b_nodes_with_others : Bd d_nodes_with_others := (fun _ _ _ _ _ _ us hl => match us, hl with | [_, _, _], _ => rfl)
theorem o_nodes_with_others : d_nodes_with_others.okB = true := by kernel_rfl
def d_node_with_others : Fd := { x := "node_with_others", st := s_node_with_others, ps := ["node", "name", "others"], N := ["node", "name", "others"] }
theorem b_node_with_others : Bd d_node_with_others := (fun _ _ _ _ _ _ us hl => match us, hl with | [_, _, _], _ => rfl)
theorem o_node_with_others : d_node_with_others.okB = true := by kernel_rfl
theorem e_nodes_with_others (j : Nat) : rd (("nodes_with_others", F_nodes_with_others j, 3) :: ("node_with_others", F_node_with_others j, 3) :: tb51) zcs zbl d_nodes_with_others = F_nodes_with_others (j + 1) := by kernel_rfl
theorem e_node_with_others (j : Nat) : rd (("nodes_with_others", F_nodes_with_others j, 3) :: ("node_with_others", F_node_with_others j, 3) :: tb51) zcs zbl d_node_with_others = F_node_with_others (j + 1) := by kernel_rfl
def tb52 : Tab := ("nodes_with_others", F_nodes_with_others 12, 3) :: ("node_with_others", F_node_with_others 12, 3) :: tb51
def d_with_nodes_beside : Fd := { x := "with_nodes_beside", st := s_with_nodes_beside, ps := ["picture", "name", "others"], N := ["picture", "name", "others"] }
theorem b_with_nodes_beside : Bd d_with_nodes_beside := (fun _ _ _ _ _ _ us hl => match us, hl with | [_, _, _], _ => rfl)
theorem o_with_nodes_beside : d_with_nodes_beside.okB = true := by kernel_rfl
theorem e_with_nodes_beside : rd tb52 zcs zbl d_with_nodes_beside = F_with_nodes_beside := by kernel_rfl
def tb53 : Tab := ("with_nodes_beside", F_with_nodes_beside, 3) :: tb52
def d_with_node : Fd := { x := "with_node", st := s_with_node, ps := ["picture", "name", "node"], N := ["picture", "name", "node", "nodes", "number"] }
theorem b_with_node : Bd d_with_node := (fun _ _ _ _ _ _ us hl => match us, hl with | [_, _, _], _ => rfl)
theorem o_with_node : d_with_node.okB = true := by kernel_rfl
theorem e_with_node : rd tb53 zcs zbl d_with_node = F_with_node := by kernel_rfl
def tb54 : Tab := ("with_node", F_with_node, 3) :: tb53
def d_nodes_without : Fd := { x := "nodes_without", st := s_nodes_without, ps := ["nodes", "names"], N := ["nodes", "names", "kept", "node"], own := [2] }
theorem b_nodes_without : Bd d_nodes_without := (fun _ _ _ _ _ _ us hl => match us, hl with | [_, _], _ => rfl)
theorem o_nodes_without : d_nodes_without.okB = true := by kernel_rfl
theorem e_nodes_without (j : Nat) : rd (("nodes_without", F_nodes_without j, 2) :: tb54) zcs zbl d_nodes_without = F_nodes_without (j + 1) := by kernel_rfl
def tb55 : Tab := ("nodes_without", F_nodes_without 12, 2) :: tb54
def d_without : Fd := { x := "without", st := s_without, ps := ["picture", "names"], N := ["picture", "names", "known", "name"] }
theorem b_without : Bd d_without := (fun _ _ _ _ _ _ us hl => match us, hl with | [_, _], _ => rfl)
theorem o_without : d_without.okB = true := by kernel_rfl
theorem e_without : rd tb55 zcs zbl d_without = F_without := by kernel_rfl
def tb56 : Tab := ("without", F_without, 2) :: tb55
def d_l_cell : Fd := { x := "_law_cell", st := s_l_cell, ps := ["_law_script", "_law_k"], N := ["_law_script", "_law_k"], old := true }
theorem b_l_cell : Bd d_l_cell := (fun _ _ _ _ _ _ us hl => match us, hl with | [_, _], _ => rfl)
theorem o_l_cell : d_l_cell.okB = true := by kernel_rfl
theorem e_l_cell : rd tb56 zcs zbl d_l_cell = F_l_cell := by kernel_rfl
def tb57 : Tab := ("_law_cell", F_l_cell, 2) :: tb56
def d_l_drawn : Fd := { x := "_law_drawn", st := s_l_drawn, ps := ["_law_script", "_law_k", "_law_many"], N := ["_law_script", "_law_k", "_law_many", "_law_cell_here"], old := true }
theorem b_l_drawn : Bd d_l_drawn := (fun _ _ _ _ _ _ us hl => match us, hl with | [_, _, _], _ => rfl)
theorem o_l_drawn : d_l_drawn.okB = true := by kernel_rfl
theorem e_l_drawn : rd tb57 zcs zbl d_l_drawn = F_l_drawn := by kernel_rfl
def tb58 : Tab := ("_law_drawn", F_l_drawn, 3) :: tb57
def d_l_made : Fd := { x := "_law_made", st := s_l_made, ps := ["_law_top", "_law_under"], N := ["_law_top", "_law_under", "_law_one", "_law_by"], old := true }
theorem b_l_made : Bd d_l_made := (fun _ _ _ _ _ _ us hl => match us, hl with | [_, _], _ => rfl)
theorem o_l_made : d_l_made.okB = true := by kernel_rfl
theorem e_l_made : rd tb58 zcs zbl d_l_made = F_l_made := by kernel_rfl
def tb59 : Tab := ("_law_made", F_l_made, 2) :: tb58
def d_l_times : Fd := { x := "_law_times", st := s_l_times, ps := ["_law_one", "_law_other"], N := ["_law_one", "_law_other"], old := true }
theorem b_l_times : Bd d_l_times := (fun _ _ _ _ _ _ us hl => match us, hl with | [_, _], _ => rfl)
theorem o_l_times : d_l_times.okB = true := by kernel_rfl
theorem e_l_times : rd tb59 zcs zbl d_l_times = F_l_times := by kernel_rfl
def tb60 : Tab := ("_law_times", F_l_times, 2) :: tb59
def d_l_share : Fd := { x := "_law_share", st := s_l_share, ps := ["_law_script", "_law_at"], N := ["_law_script", "_law_at", "_law_under", "_law_drawn_here"], old := true }
theorem b_l_share : Bd d_l_share := (fun _ _ _ _ _ _ us hl => match us, hl with | [_, _], _ => rfl)
theorem o_l_share : d_l_share.okB = true := by kernel_rfl
theorem e_l_share : rd tb60 zcs zbl d_l_share = F_l_share := by kernel_rfl
def tb61 : Tab := ("_law_share", F_l_share, 2) :: tb60
def d_l_spot : Fd := { x := "_law_spot", st := s_l_spot, ps := ["_law_script", "_law_at"], N := ["_law_script", "_law_at", "_law_cover"], old := true, hc := [((276, 33), [2, 0, 1])] }
theorem b_l_spot : Bd d_l_spot := (fun _ _ _ _ _ _ us hl => match us, hl with | [_, _], _ => rfl)
theorem o_l_spot : d_l_spot.okB = true := by kernel_rfl
theorem e_l_spot : rd tb61 zcs zbl d_l_spot = F_l_spot := by kernel_rfl
def tb62 : Tab := ("_law_spot", F_l_spot, 2) :: tb61
def d_l_sheet : Fd := { x := "_law_sheet", st := s_l_sheet, ps := ["_law_script", "_law_at", "_law_wide", "_law_high"], N := ["_law_script", "_law_at", "_law_wide", "_law_high", "_law_spots"], hc := [((278, 17), [0, 1])] }
theorem b_l_sheet : Bd d_l_sheet := (fun _ _ _ _ _ _ us hl => match us, hl with | [_, _, _, _], _ => rfl)
theorem o_l_sheet : d_l_sheet.okB = true := by kernel_rfl
theorem e_l_sheet : rd tb62 zcs zbl d_l_sheet = F_l_sheet := by kernel_rfl
def tb63 : Tab := ("_law_sheet", F_l_sheet, 4) :: tb62
def d_l_names : Fd := { x := "_law_names", st := s_l_names, ps := ["_law_script", "_law_at", "_law_many"], N := ["_law_script", "_law_at", "_law_many", "_law_is_first", "_law_found", "_law_k", "_law_word"], own := [4], tx := [6], fz := [(289, [4])], hc := [((286, 28), [0, 1, 5])] }
theorem b_l_names : Bd d_l_names := (fun _ _ _ _ _ _ us hl => match us, hl with | [_, _, _], _ => rfl)
theorem o_l_names : d_l_names.okB = true := by kernel_rfl
theorem e_l_names : rd tb63 zcs zbl d_l_names = F_l_names := by kernel_rfl
def tb64 : Tab := ("_law_names", F_l_names, 3) :: tb63
def d_l_leaf : Fd := { x := "_law_leaf", st := s_l_leaf, ps := ["_law_script", "_law_at", "_law_name", "_law_main"], N := ["_law_script", "_law_at", "_law_name", "_law_main", "_law_strength", "_law_is_shown", "_law_manner", "_law_wide", "_law_high", "_law_mask", "_law_left", "_law_top", "_law_sheet_here"], hc := [((302, 26), [0, 1])] }
theorem b_l_leaf : Bd d_l_leaf := (fun _ _ _ _ _ _ us hl => match us, hl with | [_, _, _, _], _ => rfl)
theorem o_l_leaf : d_l_leaf.okB = true := by kernel_rfl
theorem e_l_leaf : rd tb64 zcs zbl d_l_leaf = F_l_leaf := by kernel_rfl
def tb65 : Tab := ("_law_leaf", F_l_leaf, 4) :: tb64
def d_l_nodes : Fd := { x := "_law_nodes", st := s_l_nodes, ps := ["_law_script", "_law_at", "_law_most", "_law_names_here"], N := ["_law_script", "_law_at", "_law_most", "_law_names_here", "_law_main", "_law_many", "_law_found", "_law_k", "_law_first", "_law_last", "_law_strength", "_law_manner", "_law_group"], own := [6], hc := [((312, 17), [0, 4, 3, 1])] }
theorem b_l_nodes : Bd d_l_nodes := (fun _ _ _ _ _ _ us hl => match us, hl with | [_, _, _, _], _ => rfl)
theorem o_l_nodes : d_l_nodes.okB = true := by kernel_rfl
theorem e_l_nodes : rd tb65 zcs zbl d_l_nodes = F_l_nodes := by kernel_rfl
def tb66 : Tab := ("_law_nodes", F_l_nodes, 4) :: tb65
def d_l_picture : Fd := { x := "_law_picture", st := s_l_picture, ps := ["_law_script", "_law_at", "_law_most", "_law_names_here"], N := ["_law_script", "_law_at", "_law_most", "_law_names_here", "_law_wide", "_law_high"] }
theorem b_l_picture : Bd d_l_picture := (fun _ _ _ _ _ _ us hl => match us, hl with | [_, _, _, _], _ => rfl)
theorem o_l_picture : d_l_picture.okB = true := by kernel_rfl
theorem e_l_picture : rd tb66 zcs zbl d_l_picture = F_l_picture := by kernel_rfl
def tb67 : Tab := ("_law_picture", F_l_picture, 4) :: tb66
def d_l_all : Fd := { x := "_law_all", st := s_l_all, ps := ["_law_nodes_here"], N := ["_law_nodes_here", "_law_found", "_law_node"], own := [1], fz := [(331, [1])] }
theorem b_l_all : Bd d_l_all := (fun _ _ _ _ _ _ us hl => match us, hl with | [_], _ => rfl)
theorem o_l_all : d_l_all.okB = true := by kernel_rfl
theorem e_l_all (j : Nat) : rd (("_law_all", F_l_all j, 1) :: tb67) zcs zbl d_l_all = F_l_all (j + 1) := by kernel_rfl
def tb68 : Tab := ("_law_all", F_l_all 12, 1) :: tb67
def d_l_lies_within : Fd := { x := "_law_lies_within", st := s_l_lies_within, ps := ["_law_box", "_law_other"], N := ["_law_box", "_law_other"] }
theorem b_l_lies_within : Bd d_l_lies_within := (fun _ _ _ _ _ _ us hl => match us, hl with | [_, _], _ => rfl)
theorem o_l_lies_within : d_l_lies_within.okB = true := by kernel_rfl
theorem e_l_lies_within : rd tb68 zcs zbl d_l_lies_within = F_l_lies_within := by kernel_rfl
def tb69 : Tab := ("_law_lies_within", F_l_lies_within, 2) :: tb68
def d_l_known_one : Fd := { x := "_law_known_one", st := s_l_known_one, ps := [], N := ["_law_sheet_here", "_law_nodes_here", "_law_group"], hc := [((340, 28), [0])] }
theorem b_l_known_one : Bd d_l_known_one := (fun _ _ _ _ _ _ us hl => match us, hl with | [], _ => rfl)
theorem o_l_known_one : d_l_known_one.okB = true := by kernel_rfl
theorem e_l_known_one : rd tb69 zcs zbl d_l_known_one = F_l_known_one := by kernel_rfl
def tb70 : Tab := ("_law_known_one", F_l_known_one, 0) :: tb69
def d_l_stands : Fd := { x := "_law_stands", st := s_l_stands, ps := ["_law_script"], N := ["_law_script", "_law_names_here", "_law_picture_here", "_law_wide", "_law_high", "_law_nodes_here", "_law_node", "_law_other", "_law_mine", "_law_yours", "_law_both", "_law_at", "_law_more", "_law_with_more"] }
theorem b_l_stands : Bd d_l_stands := (fun _ _ _ _ _ _ us hl => match us, hl with | [_], _ => rfl)
theorem o_l_stands : d_l_stands.okB = true := by kernel_rfl
theorem e_l_stands : rd tb70 zcs zbl d_l_stands = F_l_stands := by kernel_rfl
def tb71 : Tab := ("_law_stands", F_l_stands, 1) :: tb70
def d_law : Fd := { x := "law", st := s_law, ps := ["_law_script"], N := ["_law_script"] }
theorem b_law : Bd d_law := (fun _ _ _ _ _ _ us hl => match us, hl with | [_], _ => rfl)
theorem o_law : d_law.okB = true := by kernel_rfl
theorem e_law : rd tb71 zcs zbl d_law = F_law := by kernel_rfl
theorem zall {P : Program} {w : World} {K : PySem.W.Frag} {mg : Str → Option Value} (M : Md K mg zcs zbl) (h_common_divisor : KF K "common_divisor" s_common_divisor) (h_least_form : KF K "least_form" s_least_form) (h_is_at_most : KF K "is_at_most" s_is_at_most) (h_added : KF K "added" s_added) (h_lessened : KF K "lessened" s_lessened) (h_times : KF K "times" s_times) (h_rest_of : KF K "rest_of" s_rest_of) (h_at_most_one : KF K "at_most_one" s_at_most_one) (h_kind_of : KF K "kind_of" s_kind_of) (h_is_layer : KF K "is_layer" s_is_layer) (h_is_group : KF K "is_group" s_is_group) (h_is_tone : KF K "is_tone" s_is_tone) (h_name_of : KF K "name_of" s_name_of) (h_manner_of : KF K "manner_of" s_manner_of) (h_rule_of : KF K "rule_of" s_rule_of) (h_strength_of : KF K "strength_of" s_strength_of) (h_is_shown : KF K "is_shown" s_is_shown) (h_left_of : KF K "left_of" s_left_of) (h_top_of : KF K "top_of" s_top_of) (h_mask_of : KF K "mask_of" s_mask_of) (h_sheet_of : KF K "sheet_of" s_sheet_of) (h_inner_nodes : KF K "inner_nodes" s_inner_nodes) (h_with_inner_nodes : KF K "with_inner_nodes" s_with_inner_nodes) (h_weighted : KF K "weighted" s_weighted) (h_blended_cover : KF K "blended_cover" s_blended_cover) (h_blended_colour : KF K "blended_colour" s_blended_colour) (h_blended : KF K "blended" s_blended) (h_by_rule : KF K "by_rule" s_by_rule) (h_mixed : KF K "mixed" s_mixed) (h_toned : KF K "toned" s_toned) (h_places_of : KF K "places_of" s_places_of) (h_has_place : KF K "has_place" s_has_place) (h_number_of_place : KF K "number_of_place" s_number_of_place) (h_spot_at : KF K "spot_at" s_spot_at) (h_masked_spot : KF K "masked_spot" s_masked_spot) (h_brought : KF K "brought" s_brought) (h_shown_above : KF K "shown_above" s_shown_above) (h_shown_by : KF K "shown_by" s_shown_by) (h_flat_at : KF K "flat_at" s_flat_at) (h_flat : KF K "flat" s_flat) (h_box_between : KF K "box_between" s_box_between) (h_joined_box : KF K "joined_box" s_joined_box) (h_joined_boxes : KF K "joined_boxes" s_joined_boxes) (h_whole_box : KF K "whole_box" s_whole_box) (h_places_in : KF K "places_in" s_places_in) (h_box_of_layer : KF K "box_of_layer" s_box_of_layer) (h_box_of : KF K "box_of" s_box_of) (h_changed_box : KF K "changed_box" s_changed_box) (h_names_among : KF K "names_among" s_names_among) (h_names_in : KF K "names_in" s_names_in) (h_number_among : KF K "number_among" s_number_among) (h_tuple_with : KF K "tuple_with" s_tuple_with) (h_nodes_beside : KF K "nodes_beside" s_nodes_beside) (h_nodes_with_others : KF K "nodes_with_others" s_nodes_with_others) (h_node_with_others : KF K "node_with_others" s_node_with_others) (h_with_nodes_beside : KF K "with_nodes_beside" s_with_nodes_beside) (h_with_node : KF K "with_node" s_with_node) (h_nodes_without : KF K "nodes_without" s_nodes_without) (h_without : KF K "without" s_without) (h_l_cell : KF K "_law_cell" s_l_cell) (h_l_drawn : KF K "_law_drawn" s_l_drawn) (h_l_made : KF K "_law_made" s_l_made) (h_l_times : KF K "_law_times" s_l_times) (h_l_share : KF K "_law_share" s_l_share) (h_l_spot : KF K "_law_spot" s_l_spot) (h_l_sheet : KF K "_law_sheet" s_l_sheet) (h_l_names : KF K "_law_names" s_l_names) (h_l_leaf : KF K "_law_leaf" s_l_leaf) (h_l_nodes : KF K "_law_nodes" s_l_nodes) (h_l_picture : KF K "_law_picture" s_l_picture) (h_l_all : KF K "_law_all" s_l_all) (h_l_lies_within : KF K "_law_lies_within" s_l_lies_within) (h_l_known_one : KF K "_law_known_one" s_l_known_one) (h_l_stands : KF K "_law_stands" s_l_stands) (base : Heap) : TOk P w K mg base 148 tb71 := by
 have t : TOk P w K mg base 0 tb0 := TOk.nil
 have t : TOk P w K mg base 1 tb1 := t.add M d_common_divisor h_common_divisor b_common_divisor o_common_divisor rfl e_common_divisor
 have t : TOk P w K mg base 2 tb2 := t.add M d_least_form h_least_form b_least_form o_least_form rfl e_least_form
 have t : TOk P w K mg base 3 tb3 := t.add M d_is_at_most h_is_at_most b_is_at_most o_is_at_most rfl e_is_at_most
 have t : TOk P w K mg base 4 tb4 := t.add M d_added h_added b_added o_added rfl e_added
 have t : TOk P w K mg base 5 tb5 := t.add M d_lessened h_lessened b_lessened o_lessened rfl e_lessened
 have t : TOk P w K mg base 6 tb6 := t.add M d_times h_times b_times o_times rfl e_times
 have t : TOk P w K mg base 7 tb7 := t.add M d_rest_of h_rest_of b_rest_of o_rest_of rfl e_rest_of
 have t : TOk P w K mg base 8 tb8 := t.add M d_at_most_one h_at_most_one b_at_most_one o_at_most_one rfl e_at_most_one
 have t : TOk P w K mg base 9 tb9 := t.add M d_kind_of h_kind_of b_kind_of o_kind_of rfl e_kind_of
 have t : TOk P w K mg base 10 tb10 := t.add M d_is_layer h_is_layer b_is_layer o_is_layer rfl e_is_layer
 have t : TOk P w K mg base 11 tb11 := t.add M d_is_group h_is_group b_is_group o_is_group rfl e_is_group
 have t : TOk P w K mg base 12 tb12 := t.add M d_is_tone h_is_tone b_is_tone o_is_tone rfl e_is_tone
 have t : TOk P w K mg base 13 tb13 := t.add M d_name_of h_name_of b_name_of o_name_of rfl e_name_of
 have t : TOk P w K mg base 14 tb14 := t.add M d_manner_of h_manner_of b_manner_of o_manner_of rfl e_manner_of
 have t : TOk P w K mg base 15 tb15 := t.add M d_rule_of h_rule_of b_rule_of o_rule_of rfl e_rule_of
 have t : TOk P w K mg base 16 tb16 := t.add M d_strength_of h_strength_of b_strength_of o_strength_of rfl e_strength_of
 have t : TOk P w K mg base 17 tb17 := t.add M d_is_shown h_is_shown b_is_shown o_is_shown rfl e_is_shown
 have t : TOk P w K mg base 18 tb18 := t.add M d_left_of h_left_of b_left_of o_left_of rfl e_left_of
 have t : TOk P w K mg base 19 tb19 := t.add M d_top_of h_top_of b_top_of o_top_of rfl e_top_of
 have t : TOk P w K mg base 20 tb20 := t.add M d_mask_of h_mask_of b_mask_of o_mask_of rfl e_mask_of
 have t : TOk P w K mg base 21 tb21 := t.add M d_sheet_of h_sheet_of b_sheet_of o_sheet_of rfl e_sheet_of
 have t : TOk P w K mg base 22 tb22 := t.add M d_inner_nodes h_inner_nodes b_inner_nodes o_inner_nodes rfl e_inner_nodes
 have t : TOk P w K mg base 23 tb23 := t.add M d_with_inner_nodes h_with_inner_nodes b_with_inner_nodes o_with_inner_nodes rfl e_with_inner_nodes
 have t : TOk P w K mg base 24 tb24 := t.add M d_weighted h_weighted b_weighted o_weighted rfl e_weighted
 have t : TOk P w K mg base 25 tb25 := t.add M d_blended_cover h_blended_cover b_blended_cover o_blended_cover rfl e_blended_cover
 have t : TOk P w K mg base 26 tb26 := t.add M d_blended_colour h_blended_colour b_blended_colour o_blended_colour rfl e_blended_colour
 have t : TOk P w K mg base 27 tb27 := t.add M d_blended h_blended b_blended o_blended rfl e_blended
 have t : TOk P w K mg base 28 tb28 := t.add M d_by_rule h_by_rule b_by_rule o_by_rule rfl e_by_rule
 have t : TOk P w K mg base 29 tb29 := t.add M d_mixed h_mixed b_mixed o_mixed rfl e_mixed
 have t : TOk P w K mg base 30 tb30 := t.add M d_toned h_toned b_toned o_toned rfl e_toned
 have t : TOk P w K mg base 31 tb31 := t.add M d_places_of h_places_of b_places_of o_places_of rfl e_places_of
 have t : TOk P w K mg base 32 tb32 := t.add M d_has_place h_has_place b_has_place o_has_place rfl e_has_place
 have t : TOk P w K mg base 33 tb33 := t.add M d_number_of_place h_number_of_place b_number_of_place o_number_of_place rfl e_number_of_place
 have t : TOk P w K mg base 34 tb34 := t.add M d_spot_at h_spot_at b_spot_at o_spot_at rfl e_spot_at
 have t : TOk P w K mg base 35 tb35 := t.add M d_masked_spot h_masked_spot b_masked_spot o_masked_spot rfl e_masked_spot
 have t : TOk P w K mg base 47 tb36 := TOk.rec3 (F1 := F_brought) (F2 := F_shown_above) (F3 := F_shown_by) t M d_brought d_shown_above d_shown_by h_brought h_shown_above h_shown_by b_brought b_shown_above b_shown_by o_brought o_shown_above o_shown_by rfl rfl rfl rfl rfl rfl e_brought e_shown_above e_shown_by 12
 have t : TOk P w K mg base 48 tb37 := t.add M d_flat_at h_flat_at b_flat_at o_flat_at rfl e_flat_at
 have t : TOk P w K mg base 49 tb38 := t.add M d_flat h_flat b_flat o_flat rfl e_flat
 have t : TOk P w K mg base 50 tb39 := t.add M d_box_between h_box_between b_box_between o_box_between rfl e_box_between
 have t : TOk P w K mg base 51 tb40 := t.add M d_joined_box h_joined_box b_joined_box o_joined_box rfl e_joined_box
 have t : TOk P w K mg base 52 tb41 := t.add M d_joined_boxes h_joined_boxes b_joined_boxes o_joined_boxes rfl e_joined_boxes
 have t : TOk P w K mg base 53 tb42 := t.add M d_whole_box h_whole_box b_whole_box o_whole_box rfl e_whole_box
 have t : TOk P w K mg base 54 tb43 := t.add M d_places_in h_places_in b_places_in o_places_in rfl e_places_in
 have t : TOk P w K mg base 55 tb44 := t.add M d_box_of_layer h_box_of_layer b_box_of_layer o_box_of_layer rfl e_box_of_layer
 have t : TOk P w K mg base 67 tb45 := TOk.rec (F := F_box_of) t M d_box_of h_box_of b_box_of o_box_of rfl rfl e_box_of 12
 have t : TOk P w K mg base 68 tb46 := t.add M d_changed_box h_changed_box b_changed_box o_changed_box rfl e_changed_box
 have t : TOk P w K mg base 80 tb47 := TOk.rec (F := F_names_among) t M d_names_among h_names_among b_names_among o_names_among rfl rfl e_names_among 12
 have t : TOk P w K mg base 81 tb48 := t.add M d_names_in h_names_in b_names_in o_names_in rfl e_names_in
 have t : TOk P w K mg base 82 tb49 := t.add M d_number_among h_number_among b_number_among o_number_among rfl e_number_among
 have t : TOk P w K mg base 94 tb50 := TOk.rec (F := F_tuple_with) t M d_tuple_with h_tuple_with b_tuple_with o_tuple_with rfl rfl e_tuple_with 12
 have t : TOk P w K mg base 95 tb51 := t.add M d_nodes_beside h_nodes_beside b_nodes_beside o_nodes_beside rfl e_nodes_beside
 have t : TOk P w K mg base 107 tb52 := TOk.rec2 (F := F_nodes_with_others) (G := F_node_with_others) t M d_nodes_with_others d_node_with_others h_nodes_with_others h_node_with_others b_nodes_with_others b_node_with_others o_nodes_with_others o_node_with_others rfl rfl rfl rfl e_nodes_with_others e_node_with_others 12
 have t : TOk P w K mg base 108 tb53 := t.add M d_with_nodes_beside h_with_nodes_beside b_with_nodes_beside o_with_nodes_beside rfl e_with_nodes_beside
 have t : TOk P w K mg base 109 tb54 := t.add M d_with_node h_with_node b_with_node o_with_node rfl e_with_node
 have t : TOk P w K mg base 121 tb55 := TOk.rec (F := F_nodes_without) t M d_nodes_without h_nodes_without b_nodes_without o_nodes_without rfl rfl e_nodes_without 12
 have t : TOk P w K mg base 122 tb56 := t.add M d_without h_without b_without o_without rfl e_without
 have t : TOk P w K mg base 123 tb57 := t.add M d_l_cell h_l_cell b_l_cell o_l_cell rfl e_l_cell
 have t : TOk P w K mg base 124 tb58 := t.add M d_l_drawn h_l_drawn b_l_drawn o_l_drawn rfl e_l_drawn
 have t : TOk P w K mg base 125 tb59 := t.add M d_l_made h_l_made b_l_made o_l_made rfl e_l_made
 have t : TOk P w K mg base 126 tb60 := t.add M d_l_times h_l_times b_l_times o_l_times rfl e_l_times
 have t : TOk P w K mg base 127 tb61 := t.add M d_l_share h_l_share b_l_share o_l_share rfl e_l_share
 have t : TOk P w K mg base 128 tb62 := t.add M d_l_spot h_l_spot b_l_spot o_l_spot rfl e_l_spot
 have t : TOk P w K mg base 129 tb63 := t.add M d_l_sheet h_l_sheet b_l_sheet o_l_sheet rfl e_l_sheet
 have t : TOk P w K mg base 130 tb64 := t.add M d_l_names h_l_names b_l_names o_l_names rfl e_l_names
 have t : TOk P w K mg base 131 tb65 := t.add M d_l_leaf h_l_leaf b_l_leaf o_l_leaf rfl e_l_leaf
 have t : TOk P w K mg base 132 tb66 := t.add M d_l_nodes h_l_nodes b_l_nodes o_l_nodes rfl e_l_nodes
 have t : TOk P w K mg base 133 tb67 := t.add M d_l_picture h_l_picture b_l_picture o_l_picture rfl e_l_picture
 have t : TOk P w K mg base 145 tb68 := TOk.rec (F := F_l_all) t M d_l_all h_l_all b_l_all o_l_all rfl rfl e_l_all 12
 have t : TOk P w K mg base 146 tb69 := t.add M d_l_lies_within h_l_lies_within b_l_lies_within o_l_lies_within rfl e_l_lies_within
 have t : TOk P w K mg base 147 tb70 := t.add M d_l_known_one h_l_known_one b_l_known_one o_l_known_one rfl e_l_known_one
 have t : TOk P w K mg base 148 tb71 := t.add M d_l_stands h_l_stands b_l_stands o_l_stands rfl e_l_stands
 exact t
theorem zmd {K : PySem.W.Frag} {h : Heap} {mg : Str → Option Value} {q0 q1t0 q1t1 q1t2 q1t3 q1 q2 : Addr} {e0 e1t0 e1t1 e1t2 e1t3 e1 e2 : Option Addr} {y0 y1t0 y1t1 y1t2 y1t3 y1 y2 : Array (Option Value)} {g0t0 g0t1 g1t0t0 g1t0t1 g1t1t0 g1t1t1 g1t2t0 g1t2t1 g1t3t0 g1t3t1 g2t0 g2t1 : Tok} {n0 n1t0 n1t1 n1t2 n1t3 n1 n2 : Nat} (X : K.In h) (G : h.Ns mainGlobals mg) (p0 : PySem.W.nsIn K mainGlobals "ONE" = some (some (.ref q0))) (r0 : K.lookup q0 = some ⟨.type "tuple", e0, .seq #[.int 1 g0t0, .int 1 g0t1] n0, y0⟩) (p1 : PySem.W.nsIn K mainGlobals "CLEAR" = some (some (.ref q1))) (r1 : K.lookup q1 = some ⟨.type "tuple", e1, .seq #[.ref q1t0, .ref q1t1, .ref q1t2, .ref q1t3] n1, y1⟩) (r1t3 : K.lookup q1t3 = some ⟨.type "tuple", e1t3, .seq #[.int 0 g1t3t0, .int 1 g1t3t1] n1t3, y1t3⟩) (r1t2 : K.lookup q1t2 = some ⟨.type "tuple", e1t2, .seq #[.int 0 g1t2t0, .int 1 g1t2t1] n1t2, y1t2⟩) (r1t1 : K.lookup q1t1 = some ⟨.type "tuple", e1t1, .seq #[.int 0 g1t1t0, .int 1 g1t1t1] n1t1, y1t1⟩) (r1t0 : K.lookup q1t0 = some ⟨.type "tuple", e1t0, .seq #[.int 0 g1t0t0, .int 1 g1t0t1] n1t0, y1t0⟩) (p2 : PySem.W.nsIn K mainGlobals "THIRD" = some (some (.ref q2))) (r2 : K.lookup q2 = some ⟨.type "tuple", e2, .seq #[.int 1 g2t0, .int 3 g2t1] n2, y2⟩) (z0 : PySem.W.nsIn K mainGlobals "enumerate" = some none) (z1 : PySem.W.nsIn K mainGlobals "int" = some none) (z2 : PySem.W.nsIn K mainGlobals "len" = some none) (z3 : PySem.W.nsIn K mainGlobals "max" = some none) (z4 : PySem.W.nsIn K mainGlobals "min" = some none) (z5 : PySem.W.nsIn K mainGlobals "range" = some none) (z6 : PySem.W.nsIn K mainGlobals "tuple" = some none) (z7 : PySem.W.nsIn K mainGlobals "zip" = some none) : Md K mg zcs zbl := by
 refine ⟨fun x v e => PySem.W.mg_of X G e, fun x d e => ?_, fun x e => ?_⟩
 ·unfold zcs at e
  rw [List.lookup_cons] at e
  split at e
  ·rename_i q; cases e; simp only [beq_iff_eq] at q; subst q; exact ⟨_, (krep_tup r0 rfl rfl (by show 2 ≤ 1000; decide) (kreps_cons (krep_int 1 g0t0) (kreps_cons (krep_int 1 g0t1) kreps_nil))), PySem.W.mg_of X G p0⟩
  rw [List.lookup_cons] at e
  split at e
  ·rename_i q; cases e; simp only [beq_iff_eq] at q; subst q; exact ⟨_, (krep_tup r1 rfl rfl (by show 4 ≤ 1000; decide) (kreps_cons (krep_tup r1t0 rfl rfl (by show 2 ≤ 1000; decide) (kreps_cons (krep_int 0 g1t0t0) (kreps_cons (krep_int 1 g1t0t1) kreps_nil))) (kreps_cons (krep_tup r1t1 rfl rfl (by show 2 ≤ 1000; decide) (kreps_cons (krep_int 0 g1t1t0) (kreps_cons (krep_int 1 g1t1t1) kreps_nil))) (kreps_cons (krep_tup r1t2 rfl rfl (by show 2 ≤ 1000; decide) (kreps_cons (krep_int 0 g1t2t0) (kreps_cons (krep_int 1 g1t2t1) kreps_nil))) (kreps_cons (krep_tup r1t3 rfl rfl (by show 2 ≤ 1000; decide) (kreps_cons (krep_int 0 g1t3t0) (kreps_cons (krep_int 1 g1t3t1) kreps_nil))) kreps_nil))))), PySem.W.mg_of X G p1⟩
  rw [List.lookup_cons] at e
  split at e
  ·rename_i q; cases e; simp only [beq_iff_eq] at q; subst q; exact ⟨_, (krep_tup r2 rfl rfl (by show 2 ≤ 1000; decide) (kreps_cons (krep_int 1 g2t0) (kreps_cons (krep_int 3 g2t1) kreps_nil))), PySem.W.mg_of X G p2⟩
  cases e
 ·unfold zbl at e
  simp only [List.contains_cons, List.contains_nil, Bool.or_false, Bool.or_eq_true, beq_iff_eq] at e
  rcases e with e | e | e | e | e | e | e | e
  ·subst e; exact PySem.W.mg_none_of X G z0
  ·subst e; exact PySem.W.mg_none_of X G z1
  ·subst e; exact PySem.W.mg_none_of X G z2
  ·subst e; exact PySem.W.mg_none_of X G z3
  ·subst e; exact PySem.W.mg_none_of X G z4
  ·subst e; exact PySem.W.mg_none_of X G z5
  ·subst e; exact PySem.W.mg_none_of X G z6
  ·subst e; exact PySem.W.mg_none_of X G z7
theorem zwalk {l : PySem.W.OpenLaw} {q : Program} {loose : List Str} {XP : (Str → Option Value) → Heap → Prop} {YP : World → Heap → Prop} {d : DefRec} {K : Params → PySem.W.Frag} (hn : l.most = some 63) (hdf : d.params.defaults = [])
  (hY : ∀ (w : World) (h : Heap), YP w h → (K w.params).In h) (hd : d.name = "law")
  (F : ∀ (w : World) (mg : Str → Option Value) (h : Heap), (K w.params).In h → h.Ns mainGlobals mg → Md (K w.params) mg zcs zbl)
  (Q : ∀ w : World, KF (K w.params) "common_divisor" s_common_divisor ∧ KF (K w.params) "least_form" s_least_form ∧ KF (K w.params) "is_at_most" s_is_at_most ∧ KF (K w.params) "added" s_added ∧ KF (K w.params) "lessened" s_lessened ∧ KF (K w.params) "times" s_times ∧ KF (K w.params) "rest_of" s_rest_of ∧ KF (K w.params) "at_most_one" s_at_most_one ∧ KF (K w.params) "kind_of" s_kind_of ∧ KF (K w.params) "is_layer" s_is_layer ∧ KF (K w.params) "is_group" s_is_group ∧ KF (K w.params) "is_tone" s_is_tone ∧ KF (K w.params) "name_of" s_name_of ∧ KF (K w.params) "manner_of" s_manner_of ∧ KF (K w.params) "rule_of" s_rule_of ∧ KF (K w.params) "strength_of" s_strength_of ∧ KF (K w.params) "is_shown" s_is_shown ∧ KF (K w.params) "left_of" s_left_of ∧ KF (K w.params) "top_of" s_top_of ∧ KF (K w.params) "mask_of" s_mask_of ∧ KF (K w.params) "sheet_of" s_sheet_of ∧ KF (K w.params) "inner_nodes" s_inner_nodes ∧ KF (K w.params) "with_inner_nodes" s_with_inner_nodes ∧ KF (K w.params) "weighted" s_weighted ∧ KF (K w.params) "blended_cover" s_blended_cover ∧ KF (K w.params) "blended_colour" s_blended_colour ∧ KF (K w.params) "blended" s_blended ∧ KF (K w.params) "by_rule" s_by_rule ∧ KF (K w.params) "mixed" s_mixed ∧ KF (K w.params) "toned" s_toned ∧ KF (K w.params) "places_of" s_places_of ∧ KF (K w.params) "has_place" s_has_place ∧ KF (K w.params) "number_of_place" s_number_of_place ∧ KF (K w.params) "spot_at" s_spot_at ∧ KF (K w.params) "masked_spot" s_masked_spot ∧ KF (K w.params) "brought" s_brought ∧ KF (K w.params) "shown_above" s_shown_above ∧ KF (K w.params) "shown_by" s_shown_by ∧ KF (K w.params) "flat_at" s_flat_at ∧ KF (K w.params) "flat" s_flat ∧ KF (K w.params) "box_between" s_box_between ∧ KF (K w.params) "joined_box" s_joined_box ∧ KF (K w.params) "joined_boxes" s_joined_boxes ∧ KF (K w.params) "whole_box" s_whole_box ∧ KF (K w.params) "places_in" s_places_in ∧ KF (K w.params) "box_of_layer" s_box_of_layer ∧ KF (K w.params) "box_of" s_box_of ∧ KF (K w.params) "changed_box" s_changed_box ∧ KF (K w.params) "names_among" s_names_among ∧ KF (K w.params) "names_in" s_names_in ∧ KF (K w.params) "number_among" s_number_among ∧ KF (K w.params) "tuple_with" s_tuple_with ∧ KF (K w.params) "nodes_beside" s_nodes_beside ∧ KF (K w.params) "nodes_with_others" s_nodes_with_others ∧ KF (K w.params) "node_with_others" s_node_with_others ∧ KF (K w.params) "with_nodes_beside" s_with_nodes_beside ∧ KF (K w.params) "with_node" s_with_node ∧ KF (K w.params) "nodes_without" s_nodes_without ∧ KF (K w.params) "without" s_without ∧ KF (K w.params) "_law_cell" s_l_cell ∧ KF (K w.params) "_law_drawn" s_l_drawn ∧ KF (K w.params) "_law_made" s_l_made ∧ KF (K w.params) "_law_times" s_l_times ∧ KF (K w.params) "_law_share" s_l_share ∧ KF (K w.params) "_law_spot" s_l_spot ∧ KF (K w.params) "_law_sheet" s_l_sheet ∧ KF (K w.params) "_law_names" s_l_names ∧ KF (K w.params) "_law_leaf" s_l_leaf ∧ KF (K w.params) "_law_nodes" s_l_nodes ∧ KF (K w.params) "_law_picture" s_l_picture ∧ KF (K w.params) "_law_all" s_l_all ∧ KF (K w.params) "_law_lies_within" s_l_lies_within ∧ KF (K w.params) "_law_known_one" s_l_known_one ∧ KF (K w.params) "_law_stands" s_l_stands ∧ KF (K w.params) "law" s_law)
  (M : ∀ ns : List Int, ns.length ≤ 63 → F_law [.list (ns.map PyData.int)] = some (.bool true)) :
  PySem.W.WalkO q loose XP YP l.row.toRowW d [] (fun f vs => PySem.call f vs) :=
 L2.walk_of (n := 63) (k := 149) (x := "_law_script") (CX := fun _ => CX0) (sp := fun w => spF (K w.params) 1 F_law) hn (by decide) hdf ⟨rfl, by decide, by decide⟩ hY
  (fun w mg fa h hk hg hm => by
   have N := F w mg h hk hg
   obtain ⟨h_common_divisor, h_least_form, h_is_at_most, h_added, h_lessened, h_times, h_rest_of, h_at_most_one, h_kind_of, h_is_layer, h_is_group, h_is_tone, h_name_of, h_manner_of, h_rule_of, h_strength_of, h_is_shown, h_left_of, h_top_of, h_mask_of, h_sheet_of, h_inner_nodes, h_with_inner_nodes, h_weighted, h_blended_cover, h_blended_colour, h_blended, h_by_rule, h_mixed, h_toned, h_places_of, h_has_place, h_number_of_place, h_spot_at, h_masked_spot, h_brought, h_shown_above, h_shown_by, h_flat_at, h_flat, h_box_between, h_joined_box, h_joined_boxes, h_whole_box, h_places_in, h_box_of_layer, h_box_of, h_changed_box, h_names_among, h_names_in, h_number_among, h_tuple_with, h_nodes_beside, h_nodes_with_others, h_node_with_others, h_with_nodes_beside, h_with_node, h_nodes_without, h_without, h_l_cell, h_l_drawn, h_l_made, h_l_times, h_l_share, h_l_spot, h_l_sheet, h_l_names, h_l_leaf, h_l_nodes, h_l_picture, h_l_all, h_l_lies_within, h_l_known_one, h_l_stands, h_law⟩ := Q w
   rw [hd] at hm
   obtain ⟨fd, b1, b2⟩ := law_top N (fun base => zall N h_common_divisor h_least_form h_is_at_most h_added h_lessened h_times h_rest_of h_at_most_one h_kind_of h_is_layer h_is_group h_is_tone h_name_of h_manner_of h_rule_of h_strength_of h_is_shown h_left_of h_top_of h_mask_of h_sheet_of h_inner_nodes h_with_inner_nodes h_weighted h_blended_cover h_blended_colour h_blended h_by_rule h_mixed h_toned h_places_of h_has_place h_number_of_place h_spot_at h_masked_spot h_brought h_shown_above h_shown_by h_flat_at h_flat h_box_between h_joined_box h_joined_boxes h_whole_box h_places_in h_box_of_layer h_box_of h_changed_box h_names_among h_names_in h_number_among h_tuple_with h_nodes_beside h_nodes_with_others h_node_with_others h_with_nodes_beside h_with_node h_nodes_without h_without h_l_cell h_l_drawn h_l_made h_l_times h_l_share h_l_spot h_l_sheet h_l_names h_l_leaf h_l_nodes h_l_picture h_l_all h_l_lies_within h_l_known_one h_l_stands base) d_law h_law b_law o_law rfl e_law hm
   exact ⟨fd, b1, fun base _ _ => b2 base⟩)
  (fun w H a ns hl _ hS => ⟨rfl, H, [.list (ns.map PyData.int)], .bool true, Same.refl _, ⟨.ref a, [], rfl, ⟨a, _, rfl, hS, Reps.ints ns⟩, rfl⟩, M ns hl, fun v H' Hf' g r => r⟩) fun _ _ _ _ _ z => z
end Lk61
def PySem.W.Fast.tw4509789785052776652 : Unit := ()
def PySem.W.Fast.tw14157928241164090120 : Unit := ()
def PySem.W.Fast.tw12555321510649975127 : Unit := ()
def PySem.W.Fast.tw11791807082316281591 : Unit := ()
def PySem.W.Fast.tw15120363836656259359 : Unit := ()
def PySem.W.Fast.tw7495697616297377162 : Unit := ()
def PySem.W.Fast.tw7604318205753953602 : Unit := ()
def PySem.W.Fast.tw17995372789452895769 : Unit := ()
def PySem.W.Fast.tw14329112159699727072 : Unit := ()
def PySem.W.Fast.tw13058398243404414339 : Unit := ()
def PySem.W.Fast.tw16651691695341545051 : Unit := ()
def PySem.W.Fast.tw13686439866498278028 : Unit := ()
def PySem.W.Fast.tw9753793476279526327 : Unit := ()
def PySem.W.Fast.tw12185216842160809963 : Unit := ()
def PySem.W.Fast.tw3628959981543653698 : Unit := ()
def PySem.W.Fast.tw6915743680339511875 : Unit := ()
def PySem.W.Fast.tw4595472189500296010 : Unit := ()
def PySem.W.Fast.tw8928417228803778428 : Unit := ()
def PySem.W.Fast.tw8950491989421156981 : Unit := ()
def PySem.W.Fast.tw641977986339159127 : Unit := ()
def PySem.W.Fast.tw10876194834278802174 : Unit := ()
def PySem.W.Fast.tw4046799531881164267 : Unit := ()
def PySem.W.Fast.tw7276842511318495860 : Unit := ()
def PySem.W.Fast.tw12317845776912105265 : Unit := ()
def PySem.W.Fast.tw10670616053136228946 : Unit := ()
def PySem.W.Fast.tw5352345695165410398 : Unit := ()
def PySem.W.Fast.tw17349009866738981515 : Unit := ()
def PySem.W.Fast.tw7601610817652454391 : Unit := ()
def PySem.W.Fast.tw1351241623968703757 : Unit := ()
def PySem.W.Fast.tw18178332153397199766 : Unit := ()
def PySem.W.Fast.tw6019008232985493258 : Unit := ()
def PySem.W.Fast.tw17108945628241250142 : Unit := ()
def PySem.W.Fast.tw6379922542198670294 : Unit := ()
def PySem.W.Fast.tw13253580647926452261 : Unit := ()
def PySem.W.Fast.tw18439585727451422392 : Unit := ()
def PySem.W.Fast.tw6289799958013605285 : Unit := ()
def PySem.W.Fast.tw15092464263322825189 : Unit := ()
def PySem.W.Fast.tw2690391069417507051 : Unit := ()
def PySem.W.Fast.tw2844084904194211226 : Unit := ()
def PySem.W.Fast.tw9234053594564640370 : Unit := ()
def PySem.W.Fast.tw5899490975144075016 : Unit := ()
def PySem.W.Fast.tw14439908639384414290 : Unit := ()
def PySem.W.Fast.tw17195848488445781834 : Unit := ()
def PySem.W.Fast.tw15339415444174777609 : Unit := ()
def PySem.W.Fast.tw8358681603139467372 : Unit := ()
def PySem.W.Fast.tw1070838759288031146 : Unit := ()
def PySem.W.Fast.tw9587511550530115767 : Unit := ()
def PySem.W.Fast.tw4482722777673523968 : Unit := ()
def PySem.W.Fast.tw8785887571405530069 : Unit := ()
def PySem.W.Fast.tw3754385198713632048 : Unit := ()
def PySem.W.Fast.tw14589088528880787048 : Unit := ()
def PySem.W.Fast.tw8952927685787211596 : Unit := ()
def PySem.W.Fast.tw12701764267869723127 : Unit := ()
def PySem.W.Fast.tw8615984899667239964 : Unit := ()
def PySem.W.Fast.tw1731372307425686746 : Unit := ()
def PySem.W.Fast.tw13157492724936243267 : Unit := ()
def PySem.W.Fast.tw5986317332656937848 : Unit := ()
def PySem.W.Fast.tw2570012365648167093 : Unit := ()
def PySem.W.Fast.tw2213186176771928175 : Unit := ()
def PySem.W.Fast.tw126122805066147361 : Unit := ()
def PySem.W.Fast.tw2026291232479396459 : Unit := ()
def PySem.W.Fast.tw1024742550411079822 : Unit := ()
def PySem.W.Fast.tw16037648266731891564 : Unit := ()
def PySem.W.Fast.tw17401034680835141238 : Unit := ()
def PySem.W.Fast.tw486752908835635849 : Unit := ()
def PySem.W.Fast.tw14409597098930062726 : Unit := ()
namespace Lk61
open PySem PySem.W PyProof.Rows
set_option maxHeartbeats 0 in
open_top head for PySem.Challenge.rw_glazework_k61_whole_boxes
end Lk61
open PySem PySem.W PyProof.Rows
set_option maxRecDepth 100000 in
set_option maxHeartbeats 0 in
theorem PySem.Challenge.cw_glazework_k61_whole_boxes_holds : PySem.Challenge.rw_glazework_k61_whole_boxes.Holds := by
 refine Lk61.head ?_
 k_fill
 refine Lk61.zwalk (l := PySem.Challenge.rw_glazework_k61_whole_boxes) rfl rfl (fun w h Y => PySem.W.kIn_of Y) rfl ?F ?Q Lk61.main
 case F =>
  intro w mg h KX G
  refine' Lk61.zmd KX G ?p0 ?r0 ?p1 ?r1 ?r1t3 ?r1t2 ?r1t1 ?r1t0 ?p2 ?r2 ?z0 ?z1 ?z2 ?z3 ?z4 ?z5 ?z6 ?z7
  (case p0 => k_is); (case r0 => k_is); (case p1 => k_is); (case r1 => k_is); (case r1t3 => k_is); (case r1t2 => k_is); (case r1t1 => k_is); (case r1t0 => k_is); (case p2 => k_is); (case r2 => k_is); (case z0 => k_is); (case z1 => k_is); (case z2 => k_is); (case z3 => k_is); (case z4 => k_is); (case z5 => k_is); (case z6 => k_is); (case z7 => k_is)
 case Q =>
  intro w
  refine ⟨?_, ?_, ?_, ?_, ?_, ?_, ?_, ?_, ?_, ?_, ?_, ?_, ?_, ?_, ?_, ?_, ?_, ?_, ?_, ?_, ?_, ?_, ?_, ?_, ?_, ?_, ?_, ?_, ?_, ?_, ?_, ?_, ?_, ?_, ?_, ?_, ?_, ?_, ?_, ?_, ?_, ?_, ?_, ?_, ?_, ?_, ?_, ?_, ?_, ?_, ?_, ?_, ?_, ?_, ?_, ?_, ?_, ?_, ?_, ?_, ?_, ?_, ?_, ?_, ?_, ?_, ?_, ?_, ?_, ?_, ?_, ?_, ?_, ?_, ?_⟩
  all_goals (refine' G.kf_mk ?a ?l ?c ?k; (case a => k_is); (case l => k_is); (case c => k_is); (case k => k_is))
